import PyProof.Rows.All
import Wide.All
import OpenK.AllK
import Wide.FinOn
import HandS.ForMost
import HandS.ForExc
import HandS.IsInst
import HandS.Conv
import HandS.NoneIn
import HandS.OwnEq
import HandS.OwnIter
import HandS.ExcIs
import HandS.More
import KE.KOpsOwn
import HandS.IterNext
import HandS.ExcOwn
import PyProof.WalksMore
import KE.KDictZip
import HandS.Rev
import HandS.ExcInit
import HandS.ExcField
import HandS.FStr
import HandS.Codes
import HandS.Wide
import KE.KExcIs
import KE.GoesMore
import PyProof.EnumMake
import HandS.TryMany
import HandS.Exc
import HandS.Walk
import HandS.Style
import HandS.Text
import HandS.RaiseMore
import HandS.TupAny
import HandS.Deep
import KE.KCallOwn
import HandS.Defaults
import HandS.Strs
import HandS.Star
import HandS.SetIn
import HandS.SetFor
import HandS.TupSets
import KE.SortData
import KE.DataMinMax
import KE.DataFind
import KE.DataCmp
import PySem.Challenge.RW_depotday_k17_base_of_a_net
set_option Elab.async false
set_option linter.all false
set_option maxRecDepth 100000
set_option synthInstance.maxSize 400
set_option maxHeartbeats 8000000
namespace KO
open PySem PySem.Spec PyProof.Rows L2
/-! ### operators that the text's own classes define -/
section
variable {X : Cx} {CX : CXT} {k : Nat} {f C : Addr} {fd : FuncData} {ps : List Str} {sp : Sp} {E : L2.St → XK}
/-- a method runs, called with values, somewhere with room -/
theorem own_run {A : Around} {pins : List (Addr × Obj)} {σ : L2.St} {H : Hp} {s : Shared} {Q : VK} {us : List Value} {vs : List V} (F : FnOk X.prog X.w X.K X.mg X.base CX k f fd ps sp) (hr : Room k A) (fr : A.frames = X.A.frames) (hb : Binds X.K fd ps [])
    (hx : PassesAt CX X σ (E σ)) (I : Inv X pins σ H s) (r : Vals vs us) (h : sp vs H Q (E σ)) : wpAny (model X.prog X.w) A (call (.ref f) us) (EP X pins σ Q) X.xe s := by
  have hl : us.length = ps.length := r.length.symm.trans (F.len _ _ _ _ h)
  have b := hb s us I.kIn (by rw [List.append_nil]; exact hl)
  rw [List.append_nil] at b
  have e := I.env0
  have e2 : Env0 X.prog X.w X.K X.mg X.base A X.stack s H := ⟨by rw [fr]; exact e.frames, e.mod, e.bs, e.bsz, e.funs, e.frf, e.hok, e.bare⟩
  refine wpAny_call (codeAny_mono (F.run A X.stack s H ⟨us, []⟩ us vs Q (E σ) hr e2 b r h) fun r s' hq => ?_)
  cases r with
  | error e => exact hx pins H s e s' I hq
  | ok fl =>
    cases fl with
    | ret u => exact I.after hq
    | next => exact hq.elim
    | brk => exact hq.elim
    | cont => exact hq.elim
theorem inst_at {pins : List (Addr × Obj)} {σ : L2.St} {H : Hp} {s : Shared} {a dx : Addr} {fs : List (Str × V)} (I : Inv X pins σ H s) (ha : H a = some (.ins C dx fs)) : ∃ ox od, PySem.W.InstAt s.heap a ox C od := by
  obtain ⟨mA, J, _⟩ := ins_get I.hok ha
  obtain ⟨od, J, _⟩ := J.look
  exact ⟨_, _, J⟩
theorem vref {a : Addr} : RelV (.ref a) (Value.ref a) := rfl
/-- len(o) -/
def rLen (C : Addr) (sp : Sp) (E : XK) : List V → Hp → VK → Prop := fun xs H Q => ∃ a dx fs, xs = [.ref a] ∧ H a = some (.ins C dx fs) ∧ sp [.ref a] H (fun v H' => ∃ n : Int, v = .int n ∧ 0 ≤ n ∧ n < 2 ^ 63 ∧ Q (.int n) H') E
theorem len_own {E : XK} (m : Meth X.K C "__len__" f) (F : FnOk X.prog X.w X.K X.mg X.base CX k f fd ps sp) (hr : Room (k + 1) X.A) (hb : Binds X.K fd ps []) (hx : ∀ σ, PassesAt CX X σ E) : CallR X (.builtin "len") (rLen C sp E) := by
  intro pins s σ H xs us Q I r h
  obtain ⟨a, dx, fs, rfl, ha, q⟩ := h
  rw [Vals.ref1 r]
  obtain ⟨ox, od, J⟩ := inst_at I ha
  obtain ⟨m', hF⟩ := I.fr
  refine PySem.W.len_K hF I.ok.mod.kin J m.at_ m.fn (wpAny_mono (own_run (E := fun _ => E) (A := X.A.in1) F hr.in1 rfl hb (hx σ) I (.cons vref .nil) q) (fun u s' hu => ?_) fun _ _ x => x)
  obtain ⟨v, H', I', rv, n, rfl, n0, n1, q'⟩ := hu
  obtain ⟨t, rfl⟩ := rv
  exact ⟨⟨n0, n1⟩, .int n, H', I'.tok _, ⟨_, rfl⟩, q'⟩
/-- x in o -/
def rInO (C : Addr) (sp : Sp) (E : XK) : R2 := fun x y H Q => ∃ a dx fs, y = .ref a ∧ H a = some (.ins C dx fs) ∧ sp [.ref a, x] H (fun v H' => ∃ b, v = .bl b ∧ Q (.bl b) H') E
theorem in_own {E : XK} (m : Meth X.K C "__contains__" f) (F : FnOk X.prog X.w X.K X.mg X.base CX k f fd ps sp) (hr : Room k X.A) (hb : Binds X.K fd ps []) (hx : ∀ σ, PassesAt CX X σ E) : OpR X (compareOp .In) (rInO C sp E) := by
  intro pins s σ H x y v u Q I rx ry h
  obtain ⟨a, dx, fs, rfl, ha, q⟩ := h
  cases ry
  obtain ⟨ox, od, J⟩ := inst_at I ha
  obtain ⟨m', hF⟩ := I.fr
  refine PySem.W.in_K hF I.ok.mod.kin J m.at_ m.fn (wpAny_mono (own_run (E := fun _ => E) F hr rfl hb (hx σ) I (.cons vref (.cons rx .nil)) q) (fun u s' hu => ?_) fun _ _ x => x)
  obtain ⟨v, H', I', rv, b, rfl, q'⟩ := hu
  cases rv
  exact wpAny_truthy_bool ⟨.bl b, H', I', rfl, q'⟩
/-- o == p, both of the class -/
def rEqO (C : Addr) (sp : Sp) (E : XK) : R2 := fun x y H Q => ∃ a dx fs b dy gs, x = .ref a ∧ y = .ref b ∧ H a = some (.ins C dx fs) ∧ H b = some (.ins C dy gs) ∧ sp [.ref a, .ref b] H (fun v H' => ∃ c, v = .bl c ∧ Q (.bl c) H') E
theorem eq_own {E : XK} (m : Meth X.K C "__eq__" f) (F : FnOk X.prog X.w X.K X.mg X.base CX k f fd ps sp) (hr : Room k X.A) (hb : Binds X.K fd ps []) (hx : ∀ σ, PassesAt CX X σ E) : OpR X (compareOp .Eq) (rEqO C sp E) := by
  intro pins s σ H x y v u Q I rx ry h
  obtain ⟨a, dx, fs, b, dy, gs, rfl, rfl, ha, hb', q⟩ := h
  cases rx
  cases ry
  obtain ⟨ox, od, J⟩ := inst_at I ha
  obtain ⟨oy, od', J'⟩ := inst_at I hb'
  obtain ⟨m', hF⟩ := I.fr
  refine PySem.W.cmp_K (op := .Eq) (tb := .ref C) hr.units0 hF I.ok.mod.kin J J'.type (by simp [PySem.W.notFirst]) m.at_ m.fn (wpAny_mono (own_run (E := fun _ => E) F hr rfl hb (hx σ) I (.cons vref (.cons vref .nil)) q) (fun u s' hu => ?_) fun _ _ x => x)
  obtain ⟨v, H', I', rv, c, rfl, q'⟩ := hu
  cases rv
  exact ⟨.bl c, H', I', rfl, q'⟩
/-- o[i], in the place of an expression: the subscript is written plainly -/
def tSubO (C : Addr) (sp : Sp) (E : L2.St → XK) (ta tb : TE) : TE := fun σ H Q => ta σ H fun x H1 => tb σ H1 fun y H2 => ∃ a dx fs, x = .ref a ∧ H2 a = some (.ins C dx fs) ∧ sp [.ref a, y] H2 Q (E σ)
theorem pe_subOwn {a b : Expr} {ta tb : TE} {pos : Pos} (m : Meth X.K C "__getitem__" f) (hfn : PySem.W.fnIn X.K f = true) (F : FnOk X.prog X.w X.K X.mg X.base CX k f fd ps sp) (hr : Room (k + 1) X.A) (hb : Binds X.K fd ps []) (hx : ∀ σ, PassesAt CX X σ (E σ))
    (ha : PE X a ta) (hb' : PE X b tb) (hs : ∀ o i, subscripted b true o i = runValue (.builtin "lifetime.subscript" ⟨[o, i], []⟩) := by intro _ _; with_unfolding_all rfl) : PE X (.Subscript a b pos) (tSubO C sp E ta tb) := by
  refine ⟨fun pins s σ H Q I h => ?_⟩
  refine Subscript_ (binT ha hb' (R := fun x y H2 => ∃ a dx fs, x = .ref a ∧ H2 a = some (.ins C dx fs) ∧ sp [.ref a, y] H2 Q (E σ)) I h fun v u s2 x y H2 I2 rx ry q => ?_)
  obtain ⟨o, dx, fs, rfl, ho, q⟩ := q
  cases rx
  obtain ⟨ox, od, J⟩ := inst_at I2 ho
  obtain ⟨m', hF⟩ := I2.fr
  exact PySem.W.sub_K hF I2.ok.mod.kin J m.at_ hfn m.fn (own_run (A := X.A.in1) F hr.in1 rfl hb (hx σ) I2 (.cons vref (.cons ry .nil)) q) (hs _ _)
/-- o[i] = v -/
def rPutO (C : Addr) (sp : Sp) (E : XK) : V → V → V → Hp → (Hp → Prop) → Prop := fun o i v H Q => ∃ a dx fs, o = .ref a ∧ H a = some (.ins C dx fs) ∧ sp [.ref a, i, v] H (fun _ H' => Q H') E
theorem put_own {E : XK} (m : Meth X.K C "__setitem__" f) (hq : PySem.W.noSeq X.K C = true) (F : FnOk X.prog X.w X.K X.mg X.base CX k f fd ps sp) (hr : Room k X.A) (hb : Binds X.K fd ps []) (hx : ∀ σ, PassesAt CX X σ E) : PSet X (rPutO C sp E) := by
  intro pins s σ H o i v ov iv u Q I ro ri rv h
  obtain ⟨a, dx, fs, rfl, ha, q⟩ := h
  cases ro
  obtain ⟨ox, od, J⟩ := inst_at I ha
  obtain ⟨m', hF⟩ := I.fr
  refine PySem.W.ksp_setItem hF I.ok.mod.kin J hq m.at_ m.fn (wpAny_mono (own_run (E := fun _ => E) F hr rfl hb (hx σ) I (.cons vref (.cons ri (.cons rv .nil))) q) (fun w s' hw => ?_) fun _ _ x => x)
  obtain ⟨v', H', I', _, q'⟩ := hw
  exact ⟨H', I', q'⟩
/-- o[i] = v in a try: what is raised is wished for at the slots -/
def tPutO (C : Addr) (sp : Sp) (E : L2.St → XK) (to ti tv : TE) : TS := fun D σ H => tv σ H fun v H1 => to σ H1 fun o H2 => ti σ H2 fun i H3 => ∃ a dx fs, o = .ref a ∧ H3 a = some (.ins C dx fs) ∧ sp [.ref a, i, v] H3 (fun _ H' => D.nx σ H') (E σ)
/-- abs(o) -/
def rAbs (C : Addr) (sp : Sp) (E : XK) : List V → Hp → VK → Prop := fun xs H Q => ∃ a dx fs, xs = [.ref a] ∧ H a = some (.ins C dx fs) ∧ sp [.ref a] H Q E
theorem abs_own {E : XK} (m : Meth X.K C "__abs__" f) (F : FnOk X.prog X.w X.K X.mg X.base CX k f fd ps sp) (hr : Room (k + 1) X.A) (hb : Binds X.K fd ps []) (hx : ∀ σ, PassesAt CX X σ E) : CallR X (.builtin "abs") (rAbs C sp E) := by
  intro pins s σ H xs us Q I r h
  obtain ⟨a, dx, fs, rfl, ha, q⟩ := h
  rw [Vals.ref1 r]
  obtain ⟨ox, od, J⟩ := inst_at I ha
  refine Calls.call_function_entry kind_abs plain_abs entry_abs (args_abs _) ?_
  unfold Builtin.«abs»
  refine wpAny_bind (m := oneArg "abs" _) (wpAny_pure ?_)
  refine wpAny_bind (m := callSpecial? (.ref a) (Str.ofString "__abs__")) (PySem.W.special_fn I.kIn J m.at_ (beq_iff_eq.mp m.fn) (wpAny_mono (own_run (E := fun _ => E) (A := X.A.in1) F hr.in1 rfl hb (hx σ) I (.cons vref .nil) q) (fun u s' hu => ?_) fun _ _ x => x))
  exact wpAny_pure ⟨_, rfl, hu⟩
/-- bool(o) -/
def rBool (C : Addr) (sp : Sp) (E : XK) : List V → Hp → VK → Prop := fun xs H Q => ∃ a dx fs, xs = [.ref a] ∧ H a = some (.ins C dx fs) ∧ sp [.ref a] H (fun v H' => ∃ b, v = .bl b ∧ Q (.bl b) H') E
theorem bool_own {E : XK} (m : Meth X.K C "__bool__" f) (F : FnOk X.prog X.w X.K X.mg X.base CX k f fd ps sp) (hr : Room (k + 2) X.A) (hb : Binds X.K fd ps []) (hx : ∀ σ, PassesAt CX X σ E) : CallR X (.type "bool") (rBool C sp E) := by
  intro pins s σ H xs us Q I r h
  obtain ⟨a, dx, fs, rfl, ha, q⟩ := h
  rw [Vals.ref1 r]
  obtain ⟨ox, od, J⟩ := inst_at I ha
  obtain ⟨m', hF⟩ := I.fr
  refine callType_newIn (S := fun A' R s' => wpAny (model X.prog X.w) A'.in1 (truthy (.ref a)) (fun b s2 => R (.ok (.ret (.bool b))) s2) (fun e s2 => R (.error e) s2) s') PySem.F.called_bool PySem.F.newNe_bool (PySem.F.typeCall_bool_1 _) (PySem.F.newCall_bool_1 _) (fun obj => PySem.F.args_object_init_2 obj _) PySem.F.entry_bool_new (.of_wp fun A' R s' hs => ?_) ?_
  · obtain ⟨hp, g, d, tk, os⟩ := s'
    have f1 := PySem.F.conv_sub_bool
    unfold Builtin.«bool.__new__»
    repeat ((fail_if_success (with_reducible show wpAny _ _ (truthy _) _ _ _)); (fail_if_success (with_reducible show wpAny _ _ (truthy _ >>= _) _ _ _)); (first | assumption | wp_step))
    show wpAny _ _ (truthy (.ref a) >>= fun b => ret (.bool b)) _ _ _
    refine wpAny_bind (wpAny_mono hs (fun b s2 h2 => ?_) fun _ _ x => x)
    exact wpAny_pure ⟨_, rfl, h2⟩
  · refine PySem.W.truthy_K hF I.ok.mod.kin J m.at_ m.fn (wpAny_mono (own_run (E := fun _ => E) (A := X.A.in1.in1) F hr.in1.in1 rfl hb (hx σ) I (.cons vref .nil) q) (fun u s' hu => ?_) fun _ _ x => x)
    obtain ⟨v, H', I', rv, b, rfl, q'⟩ := hu
    cases rv
    exact ⟨PySem.typeIs_bool _ _, .bl b, H', I', rfl, q'⟩
/-- any of a list of ints -/
def rAnyI (K : PySem.W.Frag) : List V → Hp → VK → Prop := fun vs H Q => ∃ (a : Addr) (ns : List Int), vs = [V.ref a] ∧ SqL K H a (ns.map V.int) ∧ Q (.bl (ns.any fun n => n != 0)) H
theorem truth_ints {prog : Program} {w : World} {A : Around} {ns : List Int} {its : List Value} (e : IntsAre its ns) : TruthOf prog w A (fun i v => its.toArray[i]? = some v) (fun i => (ns.map fun n => n != 0).getD i false) := fun i v s Q E hv hq => by
  have hv' : its[i]? = some v := by simpa using hv
  have hi : i < ns.length := by
    have := (List.getElem?_eq_some_iff.mp hv').1
    have := IntsAre.length e
    omega
  obtain ⟨t, ht⟩ := e.get i _ (List.getElem?_eq_getElem hi)
  have ev : v = .int ns[i] t := Option.some.inj (hv'.symm.trans ht)
  subst ev
  have hg : (ns.map fun n => n != 0).getD i false = (ns[i] != 0) := by
    rw [List.getD_eq_getElem?_getD, List.getElem?_map, List.getElem?_eq_getElem hi]
    rfl
  have hq' : Q ((ns.map fun n => n != 0).getD i false) s := hq
  rw [hg] at hq'
  exact P.truthy_int hq'
theorem cr_anyI (hc : X.calm = true) : CallR X (.builtin "any") (rAnyI X.K) := by
  intro pins s σ H vs us Q I r h
  obtain ⟨a, ns, rfl, hs, q⟩ := h
  obtain ⟨its, rv, pl, _⟩ := I.list hs
  rw [Vals.ref1 r]
  have hi := ints_of_vals rv
  refine call_any_walk (iter_any pl.isList fun s2 e2 st ne => ?_)
  subst e2
  refine ⟨_, _, _, _, _, _, _, rfl, Walks.list (A := X.A.in1) (I.ok.hd hc) _ a ne its.toArray, st, truth_ints hi, fun h' tk hk => ?_⟩
  refine ⟨.bl _, H, I.kept fun b o eo => hk b o (fun z => ?_) (Heap.get?_push_of_some _ eo), ?_, q⟩
  · exact absurd (List.mem_singleton.mp z ▸ Heap.lt_size eo) (Nat.lt_irrefl _)
  · show Value.bool _ = Value.bool _
    have e1 := any_range (ns.map fun n => n != 0)
    rw [List.length_map, List.any_map] at e1
    rw [List.size_toArray, IntsAre.length hi]
    exact congrArg Value.bool e1
end
end KO
namespace KO
open PySem PySem.Spec PyProof.Rows L2
section
variable {prog : Program} {w : World} {A : Around} {E : Value → Shared → Prop} {s : Shared} {it l : Addr} {i : Nat} {items : Array Value}
theorem pyNext_item {x : Value} {Q : Option Value → Shared → Prop} (ho : s.heap.get? it = some (GNX.itObj l i)) (hl : s.heap.IsList l items) (hx : items[i]? = some x)
    (hQ : ∀ h', h'.get? it = some (GNX.itObj l (i + 1)) → Heap.SameBut it s.heap h' → Q (some x) { s with heap := h' }) : wpAny (model prog w) A (pyNext (.ref it)) Q E s := by
  have hT : s.TypeIs (.ref it) "list_iterator" := ⟨_, ho, rfl⟩
  unfold pyNext
  refine wpAny_bind (wpAny_attempt (wpAny_callSpecial?_slot (name := Str.ofString "__next__") hT slot_listiter_next
    (wpAny_call_entry slot_listiter_next hT entry_listiter_next ?_ (args_listiter_next _))))
  exact GNX.next_item ho hl hx fun h' e sb => wpAny_pure (hQ h' e sb)
theorem pyNext_end {Q : Option Value → Shared → Prop} (hh : A.handled = none) (ho : s.heap.get? it = some (GNX.itObj l i)) (hl : s.heap.IsList l items) (hx : items[i]? = none)
    (hQ : ∀ h1 h', h1.get? it = some (GNX.itEnd i) → Heap.SameBut it s.heap h1 → (∀ b o, h1.get? b = some o → h'.get? b = some o) → Q none { s with heap := h' }) : wpAny (model prog w) A (pyNext (.ref it)) Q E s := by
  have hT : s.TypeIs (.ref it) "list_iterator" := ⟨_, ho, rfl⟩
  unfold pyNext
  refine wpAny_bind (wpAny_attempt (wpAny_callSpecial?_slot (name := Str.ofString "__next__") hT slot_listiter_next
    (wpAny_call_entry slot_listiter_next hT entry_listiter_next ?_ (args_listiter_next _))))
  refine GNX.next_end hh ho hl hx fun h1 h' e vs e1 sb k ne he hv => ?_
  refine wpAny_bind (wpAny_isInstance (T := "StopIteration") (b := true) ⟨_, he, rfl⟩ isSubtype_stop ?_)
  exact wpAny_pure (hQ h1 h' e1 sb k)
end
section
variable {X : Cx} {k kl ki : Nat} {f fi fl C : Addr} {fd fdI fdL : FuncData} {ps psI psL : List Str} {sp spI spL : Sp}
/-- a method that raises nothing runs under any wish -/
theorem own_run0 {A : Around} {pins : List (Addr × Obj)} {σ : L2.St} {H : Hp} {s : Shared} {Q : VK} {us : List Value} {vs : List V} {E' : Value → Shared → Prop} (F : FnOk X.prog X.w X.K X.mg X.base CX0 k f fd ps sp) (hr : Room k A) (fr : A.frames = X.A.frames) (hb : Binds X.K fd ps [])
    (I : Inv X pins σ H s) (r : Vals vs us) (h : sp vs H Q E0) : wpAny (model X.prog X.w) A (call (.ref f) us) (EP X pins σ Q) E' s := by
  have hl : us.length = ps.length := r.length.symm.trans (F.len _ _ _ _ h)
  have b := hb s us I.kIn (by rw [List.append_nil]; exact hl)
  rw [List.append_nil] at b
  have e := I.env0
  have e2 : Env0 X.prog X.w X.K X.mg X.base A X.stack s H := ⟨by rw [fr]; exact e.frames, e.mod, e.bs, e.bsz, e.funs, e.frf, e.hok, e.bare⟩
  refine wpAny_call (codeAny_mono (F.run A X.stack s H ⟨us, []⟩ us vs Q E0 hr e2 b r h) fun r s' hq => ?_)
  cases r with
  | error e => exact hq.elim
  | ok fl =>
    cases fl with
    | ret u => exact I.after hq
    | next => exact hq.elim
    | brk => exact hq.elim
    | cont => exact hq.elim
theorem upd3 {H : Hp} {a b : Addr} {x y z : HO} (ne : a ≠ b) : upd (upd (upd H a x) b y) a z = upd (upd H a z) b y := by
  funext c
  by_cases h1 : c = a
  · rw [h1, upd_same, upd_ne ne, upd_same]
  · rw [upd_ne h1]
    by_cases h2 : c = b
    · rw [h2, upd_same, upd_same]
    · rw [upd_ne h2, upd_ne h2, upd_ne h1, upd_ne h1]
/-- the loop of extend over a list's iterator at it, whose list at l is neither the iterator nor the one that is filled -/
theorem it_loop {A1 : Around} {pins : List (Addr × Obj)} {σ : L2.St} {R : Result → Shared → Prop} {H0 : Hp} {l it S : Addr} {zs : List V} (hh : A1.in1.handled = none) (lit : l ≠ it) (itS : it ≠ S) (lS : l ≠ S)
    (hl : H0 l = some (.lst zs)) (hn : zs.length ≤ 1000)
    (hR : ∀ s, Inv X pins σ (upd (upd H0 it (ItE it zs.length)) S (.lst zs)) s → R (.ok (.ret .none)) s) :
    ∀ k i s, zs.length - i = k → i ≤ zs.length → Inv X pins σ (upd (upd H0 it (ItO l it i)) S (.lst (zs.take i))) s → codeAny (model X.prog X.w) A1 (.builtin "list.extend.loop" ⟨[.ref S, .ref it, .none], []⟩) R s := by
  intro k
  induction k with
  | zero =>
    intro i s hk hi I
    have e : i = zs.length := by omega
    subst e
    have hit : (upd (upd H0 it (ItO l it zs.length)) S (.lst (zs.take zs.length))) it = some (ItO l it zs.length) := by rw [upd_ne itS, upd_same]
    have hl1 : (upd (upd H0 it (ItO l it zs.length)) S (.lst (zs.take zs.length))) l = some (.lst zs) := by rw [upd_ne lS, upd_ne lit]; exact hl
    obtain ⟨z, its, c, rv, hlen, el⟩ := I.lstM hl1
    refine codeAny_builtin PySem.F.entry_extend_loop ?_
    rw [Around.under_plainId PySem.F.plain_extend_loop _]
    show wpAny _ A1.in1 (pyNext (.ref it) >>= _) _ _ s
    refine wpAny_bind (pyNext_end (l := l) (i := zs.length) (items := its.toArray) hh (itO_get I hit) ⟨_, el, rfl, _, rfl⟩ (by rw [List.getElem?_toArray]; exact rv.none_of (by simp)) fun h1 h' e1 sb kk => ?_)
    refine wpAny_pure (hR _ ?_)
    have mu : Mut ((upd (upd H0 it (ItO l it zs.length)) S (.lst (zs.take zs.length))) it) := by rw [hit]; exact True.intro
    have I2 := I.write (x := it) (e := it) (h' := h') (t' := s.toks) (o := ItE it zs.length) mu (.inl rfl) (fun b o nb z => kk _ _ ((sb.2 b nb).trans z)) ⟨_, kk _ _ e1⟩ (itE_ok (kk _ _ e1))
    have eH : upd (upd (upd H0 it (ItO l it zs.length)) S (.lst (zs.take zs.length))) it (ItE it zs.length) = upd (upd H0 it (ItE it zs.length)) S (.lst zs) := by
      rw [upd3 itS, List.take_length]
    rw [eH] at I2
    exact I2
  | succ k ih =>
    intro i s hk hi I
    have hlt : i < zs.length := by omega
    have hit : (upd (upd H0 it (ItO l it i)) S (.lst (zs.take i))) it = some (ItO l it i) := by rw [upd_ne itS, upd_same]
    have hl1 : (upd (upd H0 it (ItO l it i)) S (.lst (zs.take i))) l = some (.lst zs) := by rw [upd_ne lS, upd_ne lit]; exact hl
    obtain ⟨z, its, c, rv, hlen, el⟩ := I.lstM hl1
    obtain ⟨u, hu, ru⟩ := rv.get (List.getElem?_eq_getElem hlt)
    refine codeAny_builtin PySem.F.entry_extend_loop ?_
    rw [Around.under_plainId PySem.F.plain_extend_loop _]
    show wpAny _ A1.in1 (pyNext (.ref it) >>= _) _ _ s
    refine wpAny_bind (pyNext_item (l := l) (i := i) (items := its.toArray) (itO_get I hit) ⟨_, el, rfl, _, rfl⟩ (by rw [List.getElem?_toArray]; exact hu) fun h' e1 sb => ?_)
    have mu : Mut ((upd (upd H0 it (ItO l it i)) S (.lst (zs.take i))) it) := by rw [hit]; exact True.intro
    have I2 := I.write (x := it) (e := it) (h' := h') (t' := s.toks) (o := ItO l it (i + 1)) mu (.inl rfl) (fun b o nb z => (sb.2 b nb).trans z) ⟨_, e1⟩ (itO_ok e1)
    have eH : upd (upd (upd H0 it (ItO l it i)) S (.lst (zs.take i))) it (ItO l it (i + 1)) = upd (upd H0 it (ItO l it (i + 1))) S (.lst (zs.take i)) := by
      rw [upd3 itS]
    rw [eH] at I2
    have hS : (upd (upd H0 it (ItO l it (i + 1))) S (.lst (zs.take i))) S = some (.lst (zs.take i)) := upd_same
    obtain ⟨z2, its2, c2, rv2, hlen2, e2⟩ := I2.lstM hS
    show wpAny _ A1.in1 (updateSeq S (·.push u) >>= _) _ _ _
    have hl2 := rv2.length
    rw [List.length_take] at hl2
    refine wpAny_bind (wpAny_updateSeq e2 rfl (wpAny_pure ⟨plainId_quiet PySem.F.plain_extend_loop _, ?_⟩) (by rw [List.size_toArray, sizeLine_eq]; omega) (by show (its2.toArray.push u).size ≤ sizeLine + 1; rw [Array.size_push, List.size_toArray, sizeLine_eq]; omega))
    have I3 := I2.lset (f := (·.push u)) (its' := its2 ++ [u]) (ys := zs.take i ++ [zs[i]]) (t' := s.toks) hS e2 (by simp) (rv2.append (.cons ru .nil)) (by rw [List.length_append, List.length_singleton, sizeLine_eq]; omega)
    rw [upd_upd] at I3
    refine ih (i + 1) _ (by omega) hlt ?_
    rw [List.take_add_one, List.getElem?_eq_getElem hlt]
    exact I3
/-- list(o): o has its own __iter__, which hands back a list's iterator, and its own __len__; neither raises -/
def rListO (K : PySem.W.Frag) (C : Addr) (spI spL : Sp) : List V → Hp → VK → Prop := fun xs H Q => ∃ a dx fs, xs = [.ref a] ∧ H a = some (.ins C dx fs) ∧ ∀ S, H S = none →
  spI [.ref a] (upd H S (.lst [])) (fun v H1 => ∃ (it l : Addr) (zs : List V), v = .ref it ∧ H1 it = some (ItO l it 0) ∧ H1 l = some (.lst zs) ∧ H1 S = some (.lst []) ∧ H1 a = some (.ins C dx fs) ∧ zs.length ≤ 1000 ∧ it ≠ S ∧ l ≠ it ∧ l ≠ S ∧
    spL [.ref a] H1 (fun v H2 => ∃ n : Int, v = .int n ∧ 0 ≤ n ∧ n ≤ 1000 ∧ H2 = H1 ∧ Q (.ref S) (upd (upd H1 it (ItE it zs.length)) S (.lst zs))) E0) E0
theorem listOwn (mi : Meth X.K C "__iter__" fi) (ml : Meth X.K C "__len__" fl) (FI : FnOk X.prog X.w X.K X.mg X.base CX0 k fi fdI psI spI) (bI : Binds X.K fdI psI []) (FL : FnOk X.prog X.w X.K X.mg X.base CX0 k fl fdL psL spL) (bL : Binds X.K fdL psL [])
    (hc : X.calm = true) (hr : Room (k + 3) X.A) : CallR X (.type "list") (rListO X.K C spI spL) := by
  intro pins s σ H xs us Q I r h
  obtain ⟨a, dx, fs, rfl, ha, hq⟩ := h
  rw [Vals.ref1 r]
  refine callType_codes (Q₁ := fun x s1 => x = .ref s.heap.objs.size ∧ s1 = { s with heap := s.heap.push { cls := .type "list", data := .seq #[] } }) PySem.F.called_list (PySem.F.typeCall_list_1 _) PySem.F.entry_list_init (code_list_new _ ⟨rfl, rfl⟩) fun x s1 h1 => ?_
  obtain ⟨rfl, rfl⟩ := h1
  have got : (s.heap.push { cls := .type "list", data := .seq #[] }).get? s.heap.objs.size = some { cls := .type "list", data := .seq #[] } := Heap.get?_push_size _ rfl
  refine ⟨⟨_, got, rfl⟩, PySem.F.args_list_init_2 _ _, ?_⟩
  have fr : H s.heap.objs.size = none := I.hok.fresh (Nat.le_refl _)
  have hsp := hq _ fr
  have I1 : Inv X pins σ (upd H s.heap.objs.size (.lst [])) { s with heap := s.heap.push { cls := .type "list", data := .seq #[] } } := I.lnew (its := []) (t' := s.toks) .nil (Nat.zero_le _)
  generalize s.heap.objs.size = S at got fr hsp I1 ⊢
  show wpAny _ _ (do let old ← Builtin.List.listItems (.ref S); Builtin.List.listUpdate (.ref S) (fun _ => #[]); letGo old.toList.reverse; Builtin.List.listExtendWith (.ref S) (.ref a) .none) _ _ _
  refine wpAny_bind ?_
  unfold Builtin.List.listItems
  refine wpAny_bind (wpAny_seqItems got rfl (wpAny_pure ?_))
  show wpAny _ _ (updateSeq S (fun _ => #[]) >>= fun _ => letGo (#[] : Array Value).toList.reverse >>= fun _ => Builtin.List.listExtendWith (.ref S) (.ref a) .none) _ _ _
  refine wpAny_bind (wpAny_updateSeq got rfl ?_)
  have I2 := I1.lset (f := fun _ => #[]) (its := []) (its' := []) (ys := []) (t' := s.toks) upd_same got rfl .nil (Nat.zero_le _)
  rw [upd_upd] at I2
  refine wpAny_bind (wpAny_letGo ?_)
  generalize ({ s with heap := (s.heap.push { cls := .type "list", data := .seq #[] }).update S (Obj.mapSeq fun _ => #[]) } : Shared) = s2 at I2 ⊢
  have ha2 : upd H S (.lst []) a = some (.ins C dx fs) := by rw [upd_ne (ne_of_none ha fr)]; exact ha
  have ne1 : S ≠ a := fun z => by rw [← z, fr] at ha; cases ha
  obtain ⟨ox, od, J⟩ := inst_at I2 ha2
  obtain ⟨m0, hF⟩ := I2.fr
  unfold Builtin.List.listExtendWith
  refine wpAny_bind (J.type.here ?_)
  have b1 : Builtin.List.listSameRef (.ref S) (.ref a) = false := by simp [Builtin.List.listSameRef, ne1]
  have b2 : (Value.ref C == Value.type "list") = false := rfl
  have b3 : (Value.ref C == Value.type "tuple") = false := rfl
  simp only [b1, b2, b3, Bool.or_false, Bool.false_eq_true, if_false]
  refine wpAny_bind (PySem.W.owit_iter hF I2.ok.mod.kin J mi.at_ mi.fn (wpAny_mono (own_run0 (A := X.A.in1.in1) FI (hr.mono (by omega) : Room (k + 2) X.A).in1.in1 rfl bI I2 (.cons vref .nil) hsp) (fun u s3 hu => ?_) fun _ _ x => x))
  obtain ⟨v, H3, I3, rv, it, l, zs, rfl, hit, hl, hS, ha3, hz, itS, lit, lS, hlen⟩ := hu
  cases rv
  have oit := itO_get I3 hit
  unfold PySem.W.OwitIt
  refine wpAny_specialOf (show s3.TypeIs (.ref it) "list_iterator" from ⟨_, oit, rfl⟩) slot_listiter_next.lookup ?_
  show wpAny _ _ _ _ _ s3
  obtain ⟨ox3, od3, J3⟩ := inst_at I3 ha3
  obtain ⟨m3, hF3⟩ := I3.fr
  refine wpAny_bind (wpAny_holding ?_)
  unfold Builtin.List.listLengthHint
  refine wpAny_bind (wpAny_bind (J3.type.here ((PySem.W.looks_findIn I3.kIn ml.at_).here ?_)))
  refine PySem.W.KFB.if_not rfl ?_
  refine PySem.W.KFB.if_so rfl ?_
  refine wpAny_bind (wpAny_rule ?_)
  refine wpAny_bind (wpAny_attempt (PySem.W.len_K hF3 I3.ok.mod.kin J3 ml.at_ ml.fn (wpAny_mono (own_run0 (A := X.A.in1.in1.in1) FL (hr.mono (by omega) : Room (k + 3) X.A).in1.in1.in1 rfl bL I3 (.cons vref .nil) hlen) (fun u s4 hu => ?_) fun _ _ x => x)))
  obtain ⟨v, H4, I4, rv, n, rfl, n0, n1, eH, q⟩ := hu
  subst eH
  obtain ⟨t4, rfl⟩ := rv
  refine ⟨⟨n0, by omega⟩, ?_⟩
  have I5 : Inv X pins σ H4 { s4 with toks := s4.toks + 1 } := I4.tok _
  generalize ({ s4 with toks := s4.toks + 1 } : Shared) = s5 at I5 ⊢
  refine wpAny_bind (wpAny_pure ?_)
  refine PySem.W.KFB.if_not (by unfold Builtin.List.listTooLong; rw [decide_eq_false]; rw [sizeLine_eq]; omega) ?_
  refine wpAny_pure ?_
  have eH : upd (upd H4 it (ItO l it 0)) S (.lst (zs.take 0)) = H4 := by
    funext b
    by_cases hb : b = S
    · rw [hb, upd_same, hS, List.take_zero]
    · rw [upd_ne hb]
      by_cases hb2 : b = it
      · rw [hb2, upd_same, hit]
      · rw [upd_ne hb2]
  have loop : ∀ s6 : Shared, Inv X pins σ H4 s6 → codeAny (model X.prog X.w) X.A.in1 (.builtin "list.extend.loop" ⟨[.ref S, .ref it, .none], []⟩) (wants (fun r s₂ => r = Value.none ∧ EP X pins σ Q (Value.ref S) s₂) X.xe) s6 := by
    intro s6 I6
    refine it_loop (pins := pins) (σ := σ) (H0 := H4) (by simp [I.ok.hd hc]) lit itS lS hl hz (fun s7 I7 => ⟨rfl, .ref S, _, I7, vref, q⟩) zs.length 0 s6 rfl (Nat.zero_le _) ?_
    rw [eH]
    exact I6
  cases hroom : (n != 0) with
  | false => exact wpAny_pure ⟨plainId_quiet PySem.F.plain_extend_loop _, loop s5 I5⟩
  | true =>
    refine wpAny_bind (wpAny_rule ?_)
    refine wpAny_bind ?_
    show wpAny _ _ (updateSeq S (·.push .none) >>= fun _ => updateSeq S (·.pop)) _ _ _
    obtain ⟨z, its, k3, r3, hl3, e3⟩ := I5.lstM hS
    cases r3
    refine wpAny_bind (wpAny_updateSeq e3 rfl ?_)
    have I6 := I5.lset (f := (·.push Value.none)) (its' := [Value.none]) (ys := [.non]) (t' := s5.toks) hS e3 (by simp) (.cons rfl .nil) (by rw [List.length_singleton, sizeLine_eq]; decide)
    obtain ⟨z4, its4, k4, r4, hl4, e4⟩ := I6.lstM upd_same
    obtain ⟨u4, rfl, ru4⟩ := r4.one
    refine wpAny_updateSeq e4 rfl ?_ (by show 1 ≤ sizeLine; rw [sizeLine_eq]; decide) (by show 0 ≤ sizeLine + 1; exact Nat.zero_le _)
    refine wpAny_pure ⟨plainId_quiet PySem.F.plain_extend_loop _, loop _ ?_⟩
    have I7 := I6.lset (f := (·.pop)) (its := [u4]) (its' := []) (ys := []) (t' := s5.toks) upd_same e4 (by rfl) .nil (Nat.zero_le _)
    rw [upd_upd] at I7
    have hH : upd H4 S (.lst []) = H4 := by
      funext b
      by_cases hb : b = S
      · rw [hb, upd_same, hS]
      · rw [upd_ne hb]
    rw [hH] at I7
    exact I7
end
end KO
namespace KO
open PySem PySem.Spec PyProof.Rows L2
section
variable {X : Cx} {CX : CXT} {k : Nat} {f C : Addr} {fd : FuncData} {ps : List Str} {sp : Sp} {E : L2.St → XK}
/-- X(): an own class over a built-in error, without own __init__, made with nothing -/
theorem pmk_own0 {bmB : List Value} {B newId initId : String} {x : Str} {p pos : Pos} (F : ExcBaseFacts B newId initId bmB) (q : PySem.W.excIn X.K C bmB newId = true) (gC : X.mg x = some (.ref C)) (kC : PySem.W.keepIn X.K (.ref C) = true) (r : Raises X (.ref C)) (hg : Gl X x)
    (hdb : (x == ("__debug__" : Str)) = false := by decide) : PMk X (.Call (.Name x p) [] [] pos) (fun _ H Q => Q (.ref C) none H) := by
  intro pins s σ H Q I h
  refine wpAny_Call_Name_kw (ld_glob I hg gC ?_ hdb)
  refine PySem.W.callWith_K0 I.kIn kC ?_
  obtain ⟨bm, N, nm, qn, bs, hdct, sn, sub, ab, col, dd, k0, k1, k2, k3, k5, mN, hC, hN, hni, T⟩ := exc_obj I.kIn q
  refine wpAny_call_exc_subT F T hC hN hni (fun h' e hm => ?_) (by show 0 ≤ sizeLine; exact Nat.zero_le _)
  exact mk_of I hm r h (I.hok.gone hm.new)
/-- one of two ways -/
theorem cr_or {b : Value} {r1 r2 : List V → Hp → VK → Prop} (h1 : CallR X b r1) (h2 : CallR X b r2) : CallR X b (fun xs H Q => r1 xs H Q ∨ r2 xs H Q) := by
  intro pins s σ H xs us Q I r h
  rcases h with h | h
  · exact h1 pins s σ H xs us Q I r h
  · exact h2 pins s σ H xs us Q I r h
section
variable {prog : Program} {w : World} {A : Around} {E : Value → Shared → Prop} {s : Shared} {l : Addr} {xs : Array (Int × Tok)}
theorem min_tupI {Q : Value → Shared → Prop} (hh : A.handled = none) (hl : s.heap.IsTuple l (intItems xs)) (hne : 0 < xs.size)
    (h : ∀ v h' tk, (intItems xs)[argBest (fun i j => decide (numAt xs i < numAt xs j)) (xs.size - 1)]? = some v → (∀ b o, s.heap.get? b = some o → h'.get? b = some o) → Q v { s with heap := h', toks := tk }) :
    wpAny (model prog w) A (call (.builtin "min") [.ref l]) Q E s := by
  have hlt : l < s.heap.objs.size := by obtain ⟨_, e, _⟩ := hl; exact Heap.lt_size e
  refine call_min_walk (wpAny_pyIter_tuple hl ?_)
  refine ⟨_, _, _, _, _, _, _, rfl, Walks.tuple (A := A.in1) hh _ l (Nat.ne_of_lt hlt) (intItems xs), ⟨⟨_, Heap.get?_push_size _ rfl, rfl, rfl⟩, hl.push _⟩, (fun b hb => ?_), by simpa [intItems] using hne, CmpOf.ints_lt (numAt xs) (fun _ _ => intItems_at), fun v h' tk hP hk => ?_⟩
  · show b < (s.heap.push _).objs.size
    rw [Heap.size_push]
    rcases List.mem_cons.mp hb with rfl | hb
    · exact Nat.lt_succ_self _
    · rcases List.mem_cons.mp hb with rfl | hb
      · exact Nat.lt_succ_of_lt hlt
      · cases hb
  · refine h v h' tk (by simpa [intItems] using hP) fun b o e => hk b o (fun hm => ?_) (Heap.get?_push_of_some _ e)
    rcases List.mem_cons.mp hm with e1 | hm
    · exact absurd (e1 ▸ Heap.lt_size e) (Nat.lt_irrefl _)
    · cases hm
theorem min_rawT {its : List Value} {ns : List Int} {Q : Value → Shared → Prop} (hh : A.handled = none) (hl : s.heap.IsTuple l its.toArray) (hi : IntsAre its ns) (hne : 0 < ns.length)
    (h : ∀ h' tk M t', (∀ b o, s.heap.get? b = some o → h'.get? b = some o) → M ∈ ns → (∀ a, a ∈ ns → M ≤ a) → Q (.int M t') { s with heap := h', toks := tk }) : wpAny (model prog w) A (call (.builtin "min") [.ref l]) Q E s := by
  obtain ⟨xs, e⟩ := hi.allInts.items
  have hn : numsOf (intItems xs).toList = ns := by rw [← e]; exact hi.numsOf
  rw [nums_intItems] at hn
  subst hn
  rw [e] at hl
  have hsz : 0 < xs.size := by simpa using hne
  refine min_tupI hh hl hsz fun v h' tk hv hk => ?_
  obtain ⟨t, rfl⟩ := intItems_at hv
  obtain ⟨h1, h2⟩ := argBest_lt (numAt xs) (xs.size - 1)
  refine h h' tk _ t hk ?_ fun a ha => ?_
  · rw [numAt_eq]; exact PySem.getD_mem (by rw [List.length_map, Array.length_toList]; omega)
  · obtain ⟨j, hj, rfl⟩ := mem_getD ha
    rw [List.length_map, Array.length_toList] at hj
    rw [← numAt_eq]; exact h2 j (by omega)
end
/-- min(t), t a tuple of ints -/
def rMinT (K : PySem.W.Frag) : List V → Hp → VK → Prop := fun vs H Q => ∃ (a : Addr) (ns : List Int), vs = [V.ref a] ∧ SqT K H a (ns.map V.int) ∧ 0 < ns.length ∧ ∀ m, m ∈ ns → (∀ y, y ∈ ns → m ≤ y) → Q (.int m) H
theorem cr_minT (hc : X.calm = true) : CallR X (.builtin "min") (rMinT X.K) := by
  intro pins s σ H vs us Q I r h
  obtain ⟨a, ns, rfl, hs, hne, q⟩ := h
  obtain ⟨its, rv, hl, _⟩ := I.tuple hs
  rw [Vals.ref1 r]
  exact min_rawT (I.ok.hd hc) hl rv.ints hne fun h' tk m t' hk h1 h2 => ⟨.int _, H, I.kept hk, ⟨_, rfl⟩, q m h1 h2⟩
/-- min(xs), xs a list or a tuple of ints -/
def rMinS (K : PySem.W.Frag) : List V → Hp → VK → Prop := fun vs H Q => ∃ (a : Addr) (ns : List Int), vs = [V.ref a] ∧ (SqL K H a (ns.map V.int) ∨ SqT K H a (ns.map V.int)) ∧ 0 < ns.length ∧ ∀ m, m ∈ ns → (∀ y, y ∈ ns → m ≤ y) → Q (.int m) H
theorem cr_minS (hc : X.calm = true) : CallR X (.builtin "min") (rMinS X.K) := by
  intro pins s σ H vs us Q I r h
  obtain ⟨a, ns, rfl, hs, hne, q⟩ := h
  rcases hs with hs | hs
  · exact cr_min hc pins s σ H _ us Q I r ⟨a, ns, rfl, hs, hne, q⟩
  · exact cr_minT hc pins s σ H _ us Q I r ⟨a, ns, rfl, hs, hne, q⟩
/-- isinstance(e, c), e the error that the suite holds: its class is D, it has no dict -/
def rIsX (K : PySem.W.Frag) (D a : Addr) (cls : Value) (d : Option Addr) : List V → Hp → VK → Prop := fun xs H Q => cls = .ref D ∧ d = none ∧ rIsE K D a xs H Q
theorem call_isX {a D : Addr} {oe : Obj} {cls : Value} {d : Option Addr} {pn : List (Addr × Obj)} (Ce : ExcC X.K D) (hz : Zc cls d oe) (hf : ∃ vs, oe.data = .fields vs) : CallR (X.suite a ((a, oe) :: pn)) (.builtin "isinstance") (rIsX X.K D a cls d) := by
  intro pins s σ H xs us Q I r h
  obtain ⟨rfl, rfl, h⟩ := h
  exact call_isE Ce hz hf pins s σ H xs us Q I r h
/-- o.m(e, ..): what is raised is wished for at the slots -/
def tMethX (C : Addr) (m : Str) (sp : Sp) (E : L2.St → XK) (ta : TE) (t : TA) : TE := fun σ H Q => ta σ H fun x H1 => ∃ a dx fs, x = .ref a ∧ H1 a = some (.ins C dx fs) ∧ fs.lookup m = none ∧ t σ H1 fun vs H2 => sp (x :: vs) H2 Q (E σ)
theorem pe_methX {m : Str} {o e : Expr} {es : List Expr} {ta : TE} {t : TA} {apos pos : Pos} {pl : Sem Bool} (he : PE X o ta) (c : Cls X.K C) (hm : Meth X.K C m f) (F : FnOk X.prog X.w X.K X.mg X.base CX k f fd ps sp) (hr : Room k X.A) (hb : Binds X.K fd ps []) (hx : ∀ σ, PassesAt CX X σ (E σ)) (ha : PA X (e :: es) t)
    (hst : starEach (e :: es) X.env = (false, eval e X.env) :: starEach es X.env := by rfl) (hpl : (backTo pos (starEach es X.env)).any (·.1) = false := by rfl)
    (ht : eval (.Call (.Attribute o m apos) (e :: es) [] pos) X.env = (do
      let ov ← eval o X.env
      standAt apos.atName
      let (f, first) ← holding [ov] (getMethod ov m pl)
      callWith pos f first (backTo pos (starEach (e :: es) X.env)) (backToKw pos (keywordEach [] X.env))) := by rfl) :
    PE X (.Call (.Attribute o m apos) (e :: es) [] pos) (tMethX C m sp E ta t) := by
  refine ⟨fun pins s σ H Q I h => ?_⟩
  refine PySem.W.methodCall_KW (pl := pl) (thn (he.run pins s σ H _ I h) fun u s1 ⟨x, H1, I1, rx, a, dx, fs, ex, ea, l, q⟩ => ?_) ht
  subst ex
  obtain rfl : u = Value.ref a := rx
  refine getmeth_ok I1 ea c hm l ?_
  refine PySem.W.callWith_K (first := [.ref a]) (h₀ := X.base) I.ok.mod.kin hm.kp (thn (ha.run pos pins s1 σ H1 _ I1 q) fun us s2 ⟨vs, H2, I2, r, q2⟩ => ⟨I2.kIn, ?_⟩) hst hpl
  exact run_fnS (us := .ref a :: us) (vs := .ref a :: vs) F hr hb (hx σ) I2 (.cons rfl r) q2
/-- C(e, ..): what is raised is wished for at the slots -/
def tMakeX (C : Addr) (sp : Sp) (E : L2.St → XK) (t : TA) : TE := fun σ H Q => t σ H fun vs H1 => ∀ x dx, H1 x = none → H1 dx = none → dx ≠ x →
  sp (.ref x :: vs) (upd (upd H1 dx (.own x)) x (.ins C dx [])) (fun v H2 => v = .non ∧ Q (.ref x) H2) (E σ)
theorem run_makeX {pins : List (Addr × Obj)} {σ : L2.St} {H : Hp} {s : Shared} {Q : VK} {us : List Value} {vs : List V} (M : Mk X.K C f) (F : FnOk X.prog X.w X.K X.mg X.base CX k f fd ps sp) (hr : Room (k + 1) X.A) (hb : Binds X.K fd ps [])
    (hx : PassesAt CX X σ (E σ)) (I : Inv X pins σ H s) (r : Vals vs us)
    (h : ∀ x dx, H x = none → H dx = none → dx ≠ x → sp (.ref x :: vs) (upd (upd H dx (.own x)) x (.ins C dx [])) (fun v H2 => v = .non ∧ Q (.ref x) H2) (E σ)) :
    wpAny (model X.prog X.w) X.A (call (.ref C) us) (EP X pins σ Q) X.xe s := by
  have hq := h (s.heap.objs.size + 1) s.heap.objs.size (I.hok.fresh (Nat.le_succ _)) (I.hok.fresh (Nat.le_refl _)) (Nat.ne_of_lt (Nat.lt_succ_self _))
  have I2 := Inv.made (C := C) I
  have r2 : Vals (V.ref (s.heap.objs.size + 1) :: vs) (Value.ref (s.heap.objs.size + 1) :: us) := .cons rfl r
  have hl : (Value.ref (s.heap.objs.size + 1) :: us ++ []).length = ps.length := by
    have e := r2.length
    rw [F.len _ _ _ _ hq] at e
    rw [List.append_nil]
    exact e.symm
  rw [List.append_nil] at hl
  refine wpAny_call (make_map (f := f) I.kIn M.makes M.init (beq_iff_eq.mp M.fn) (codeAny_mono (F.run _ X.stack _ _ ⟨Value.ref (s.heap.objs.size + 1) :: us, []⟩ (Value.ref (s.heap.objs.size + 1) :: us) _ _ (E σ) (hr.make C us [])
    (I2.env0.make C us []) (by have b := hb _ (Value.ref (s.heap.objs.size + 1) :: us) I2.kIn (by rw [List.append_nil]; exact hl); rw [List.append_nil] at b; exact b) r2 hq) fun r s' hq' => ?_))
  cases r with
  | error e => exact hx pins _ _ e s' I2 hq'
  | ok fl =>
    cases fl with
    | ret u =>
      obtain ⟨v, H', I3, rv, ev, q3⟩ := I2.after hq'
      subst ev
      exact ⟨rv, ⟨V.ref (s.heap.objs.size + 1), H', I3, rfl, q3⟩⟩
    | next => exact False.elim hq'
    | brk => exact False.elim hq'
    | cont => exact False.elim hq'
theorem pe_makeX {x : Str} {p pos : Pos} {e : Expr} {es : List Expr} {t : TA} (M : Mk X.K C f) (F : FnOk X.prog X.w X.K X.mg X.base CX k f fd ps sp) (hr : Room (k + 1) X.A) (hg : Gl X x) (hm : X.mg x = some (.ref C)) (hb : Binds X.K fd ps []) (hx : ∀ σ, PassesAt CX X σ (E σ))
    (ha : PA X (e :: es) t) (hdb : (x == ("__debug__" : Str)) = false := by decide) (he : starEach (e :: es) X.env = (false, eval e X.env) :: starEach es X.env := by rfl) (hpl : (backTo pos (starEach es X.env)).any (·.1) = false := by rfl) :
    PE X (.Call (.Name x p) (e :: es) [] pos) (tMakeX C sp E t) := by
  refine ⟨fun pins s σ H Q I h => ?_⟩
  refine wpAny_Call_Name_kw (ld_glob I hg hm ?_ hdb)
  refine PySem.W.callWith_K (h₀ := X.base) I.ok.mod.kin M.kp (thn (ha.run pos pins s σ H _ I h) fun us s1 ⟨vs, H1, I1, r, q⟩ => ⟨I1.kIn, ?_⟩) he hpl
  exact run_makeX M F hr hb (hx σ) I1 r q
/-- o[i] = v: what is raised is wished for at the slots -/
theorem pg_putX {o i : Expr} {to ti : TE} {pos : Pos} (m : Meth X.K C "__setitem__" f) (hq : PySem.W.noSeq X.K C = true) (F : FnOk X.prog X.w X.K X.mg X.base CX k f fd ps sp) (hr : Room k X.A) (hb : Binds X.K fd ps []) (hx : ∀ σ, PassesAt CX X σ (E σ)) (ho : PE X o to) (hi : PE X i ti)
    (ha : ∀ v, assign (.Subscript o i pos) X.env v = (do
      let ov ← holding [v] (eval o X.env)
      let iv ← holding [v, ov] (eval i X.env)
      standAt pos
      holding [v, ov, iv] (setItem ov iv v)
      release [v, ov, iv] []) := by intro _; rfl) : PG X (.Subscript o i pos) (fun v σ H Q => to σ H fun o H1 => ti σ H1 fun i H2 => ∃ a dx fs, o = .ref a ∧ H2 a = some (.ins C dx fs) ∧ sp [.ref a, i, v] H2 (fun _ H3 => Q σ H3) (E σ)) := by
  refine ⟨fun pins s σ H v u Q I r h => ?_⟩
  rw [ha]
  refine wpAny_bind (wpAny_holding (thn (ho.run pins s σ H _ I h) fun ov s1 ⟨x, H1, I1, r1, q1⟩ => ?_))
  refine wpAny_bind (wpAny_holding (thn (hi.run pins s1 σ H1 _ I1 q1) fun iv s2 ⟨y, H2, I2, r2, q2⟩ => ?_))
  obtain ⟨a, dx, fs, rfl, ea, q⟩ := q2
  cases r1
  obtain ⟨ox, od, J⟩ := inst_at I2 ea
  obtain ⟨m', hF⟩ := I2.fr
  refine wpAny_bind (wpAny_standAt (wpAny_bind (wpAny_holding (PySem.W.ksp_setItem hF I2.ok.mod.kin J hq m.at_ m.fn (wpAny_mono (own_run F hr rfl hb (hx σ) I2 (.cons vref (.cons r2 (.cons r .nil))) q) (fun w s' hw => ?_) fun _ _ x => x)))))
  obtain ⟨v', H', I', _, q'⟩ := hw
  exact wpAny_release ⟨σ, H', I', q'⟩
end
end KO
namespace KO
open PySem PySem.Spec PyProof.Rows L2
/-- the state of a zip that a list is filled from, behind i pairs -/
def ZSt (z TI TO i1 i2 a b S : Addr) (h : Heap) (i : Nat) : Prop := IsPair h TI (.ref i1) (.ref i2) ∧ h.IsListIter i1 a i ∧ h.IsListIter i2 b i ∧ (∃ o, h.get? TO = some o) ∧
  ((IsZip h z TI TO .none ∧ ∃ u v, IsPair h TO u v) ∨ ∃ T f oT, IsZipHeld h z TI TO T f ∧ h.get? T = some oT ∧ T ≠ z ∧ T ≠ i1 ∧ T ≠ i2 ∧ T ≠ S)
section
variable {X : Cx} {pins : List (Addr × Obj)} {σ : L2.St}
theorem ZSt.other {z TI TO i1 i2 a b S : Addr} {h h' : Heap} {i : Nat} (st : ZSt z TI TO i1 i2 a b S h i) (n : ∀ c ∈ [z, TI, TO, i1, i2], c ≠ S) (k : ∀ c o, c ≠ S → h.get? c = some o → h'.get? c = some o) : ZSt z TI TO i1 i2 a b S h' i := by
  obtain ⟨p1, p2, p3, ⟨o, p4⟩, p5⟩ := st
  refine ⟨k _ _ (n TI (by simp)) p1, p2.at fun o e => k _ o (n i1 (by simp)) e, p3.at fun o e => k _ o (n i2 (by simp)) e, ⟨o, k _ _ (n TO (by simp)) p4⟩, ?_⟩
  rcases p5 with ⟨q1, u, v, q2⟩ | ⟨T, f, oT, q1, q2, q3, q4, q5, q6⟩
  · exact .inl ⟨k _ _ (n z (by simp)) q1, u, v, k _ _ (n TO (by simp)) q2⟩
  · exact .inr ⟨T, f, oT, k _ _ (n z (by simp)) q1, k _ _ q6 q2, q3, q4, q5, q6⟩
/-- pair by pair at the addresses ts -/
def ZPr (H : Hp) (xs ys : List V) (ts : List Addr) : Prop := ∀ (j : Nat) (t : Addr), ts[j]? = some t → ∃ x y, xs[j]? = some x ∧ ys[j]? = some y ∧ H t = some (.tup [x, y])
theorem ZPr.but {H H' : Hp} {xs ys : List V} {ts : List Addr} {S : Addr} {zs : List V} (p : ZPr H xs ys ts) (hS : H S = some (.lst zs)) (k : ∀ c o, c ≠ S → H c = some o → H' c = some o) : ZPr H' xs ys ts := fun j t hj => by
  obtain ⟨x, y, h1, h2, h3⟩ := p j t hj
  exact ⟨x, y, h1, h2, k _ _ (ne_of h3 hS (by intro z; cases z)) h3⟩
theorem zip_loop {A1 : Around} {R : Result → Shared → Prop} {H0 : Hp} {z TI TO i1 i2 a b S : Addr} {xs ys : List V} (hh : A1.in1.handled = none) (D : ZipApart z TI TO i1 i2 a b) (hS0 : ∀ c ∈ [z, TI, TO, i1, i2], c ≠ S) (aS : a ≠ S) (bS : b ≠ S) (hl : xs.length = ys.length) (hn : xs.length ≤ 1000)
    (hR : ∀ s H ts, Inv X pins σ H s → ts.length = xs.length → ZPr H xs ys ts → H S = some (.lst (ts.map V.ref)) → (∀ c o, c ≠ S → H0 c = some o → H c = some o) → R (.ok (.ret .none)) s) :
    ∀ k i s H ts, xs.length - i = k → i ≤ xs.length → Inv X pins σ H s → (∀ c ∈ [z, TI, TO, i1, i2], FpOk X pins H c) → SqL X.K H a xs → SqL X.K H b ys → H S = some (.lst (ts.map V.ref)) → ts.length = i → ZPr H xs ys ts → (∀ c o, c ≠ S → H0 c = some o → H c = some o) →
      ZSt z TI TO i1 i2 a b S s.heap i → codeAny (model X.prog X.w) A1 (.builtin "list.extend.loop" ⟨[.ref S, .ref z, .none], []⟩) R s := by
  intro k
  induction k with
  | zero =>
    intro i s H ts hk hi I hf qa qb hS ht pr fr st
    have e : i = xs.length := by omega
    subst e
    obtain ⟨its, rv, p1, _⟩ := I.list qa
    obtain ⟨its2, rv2, p2, _⟩ := I.list qb
    obtain ⟨hTI, h1, h2, ⟨oO, hO⟩, hz⟩ := st
    refine codeAny_builtin PySem.F.entry_extend_loop ?_
    rw [Around.under_plainId PySem.F.plain_extend_loop _]
    show wpAny _ A1.in1 (pyNext (.ref z) >>= _) _ _ s
    have hend : its.toArray[xs.length]? = none := by
      rw [List.getElem?_toArray]
      exact rv.none_of (by simp)
    rcases hz with ⟨hz, u, v, hTO⟩ | ⟨T, f, oT, hz, hT, r1, r2, r3, r4⟩
    · refine wpAny_bind (wpAny_pyNext_zip_end hh D hz hTI hTO h1 h2 p1.isList p2.isList (.inl hend) fun h' hk => wpAny_pure (hR _ H ts ?_ ht pr hS fr))
      exact I.turnedL (t' := s.toks) (ch := [z, TI, TO, i1, i2]) (fun c o hb q => hk c o (fun q' => hb (by simp [q'])) (fun q' => hb (by simp [q'])) (fun q' => hb (by simp [q'])) (fun q' => hb (by simp [q'])) q) hf
    · refine wpAny_bind (wpAny_pyNext_zip_end_held hh D hz hT hTI h1 h2 p1.isList p2.isList (.inl hend) fun h' hk => wpAny_pure (hR _ H ts ?_ ht pr hS fr))
      exact I.turnedL (t' := s.toks) (ch := [z, TI, TO, i1, i2]) (fun c o hb q => hk c o (fun q' => hb (by simp [q'])) (fun q' => hb (by simp [q'])) (fun q' => hb (by simp [q'])) q) hf
  | succ k ih =>
    intro i s H ts hk hi I hf qa qb hS ht pr fr st
    have hlt : i < xs.length := by omega
    obtain ⟨its, rv, p1, _⟩ := I.list qa
    obtain ⟨its2, rv2, p2, _⟩ := I.list qb
    obtain ⟨hTI, h1, h2, ⟨oO, hO⟩, hz⟩ := st
    have hx : xs[i]? = some xs[i] := List.getElem?_eq_getElem hlt
    have hy : ys[i]? = some ys[i] := List.getElem?_eq_getElem (by omega)
    obtain ⟨u, hu, ru⟩ := rv.get hx
    obtain ⟨u2, hu2, ru2⟩ := rv2.get hy
    have nT : H s.heap.objs.size = none := I.hok.fresh (Nat.le_refl _)
    obtain ⟨_, itsS, cS, rS, hlS, eS⟩ := I.lstM hS
    have lS : S < s.heap.objs.size := Heap.lt_size eS
    have lz : z < s.heap.objs.size := by rcases hz with ⟨hz, _⟩ | ⟨T, f, oT, hz, _⟩ <;> exact Heap.lt_size hz
    have lTI : TI < s.heap.objs.size := Heap.lt_size hTI
    have lTO : TO < s.heap.objs.size := Heap.lt_size hO
    have l1 : i1 < s.heap.objs.size := by obtain ⟨_, e, _⟩ := h1; exact Heap.lt_size e
    have l2 : i2 < s.heap.objs.size := by obtain ⟨_, e, _⟩ := h2; exact Heap.lt_size e
    -- behind the pair
    have step : ∀ h', (∀ c o, c ∉ [z, TI, TO, i1, i2] → s.heap.get? c = some o → h'.get? c = some o) → IsPair h' s.heap.objs.size u u2 → ZSt z TI TO i1 i2 a b S h' (i + 1) →
        wpAny (model X.prog X.w) A1.in1 (updateSeq S (·.push (.ref s.heap.objs.size)) >>= fun _ => again (.builtin "list.extend.loop" ⟨[.ref S, .ref z, .none], []⟩)) (fun fin s' => match fin with | .done f => R (.ok f) s' | .again c' => c'.quiet = true ∧ codeAny (model X.prog X.w) A1 c' R s') (fun e s' => R (.error e) s') { s with heap := h' } := by
      intro h' kk hT st'
      have new : ObjOk X.prog X.w (upd H s.heap.objs.size (.tup [xs[i], ys[i]])) h' s.heap.objs.size (.tup [xs[i], ys[i]]) := ⟨by show 2 ≤ sizeLine; decide, [u, u2], .cons ru (.cons ru2 .nil), ⟨_, hT, rfl, _, rfl⟩⟩
      have I1 : Inv X pins σ (upd H s.heap.objs.size (.tup [xs[i], ys[i]])) { s with heap := h' } := I.turnedNew (t' := s.toks) (ch := [z, TI, TO, i1, i2]) kk hf (Nat.le_refl _) new
      have nST : s.heap.objs.size ≠ S := Nat.ne_of_gt lS
      have hS1 : (upd H s.heap.objs.size (.tup [xs[i], ys[i]])) S = some (.lst (ts.map V.ref)) := by rw [upd_ne (Ne.symm nST)]; exact hS
      obtain ⟨_, its3, c3, r3, hl3, e3⟩ := I1.lstM hS1
      have hlen3 := r3.length
      rw [List.length_map, ht] at hlen3
      refine wpAny_bind (wpAny_updateSeq e3 rfl (wpAny_pure ⟨plainId_quiet PySem.F.plain_extend_loop _, ?_⟩) (by rw [List.size_toArray, sizeLine_eq]; omega) (by show (its3.toArray.push (.ref s.heap.objs.size)).size ≤ sizeLine + 1; rw [Array.size_push, List.size_toArray, sizeLine_eq]; omega))
      have I3 := I1.lset (f := (·.push (.ref s.heap.objs.size))) (its' := its3 ++ [.ref s.heap.objs.size]) (ys := (ts ++ [s.heap.objs.size]).map V.ref) (t' := s.toks) hS1 e3 (by simp) (by rw [List.map_append]; exact r3.append (.cons rfl .nil)) (by rw [List.length_map, List.length_append, ht, sizeLine_eq]; show i + 1 ≤ _; omega)
      have kO : ∀ c o, c ≠ S → H c = some o → (upd (upd H s.heap.objs.size (.tup [xs[i], ys[i]])) S (.lst ((ts ++ [s.heap.objs.size]).map V.ref))) c = some o := fun c o nc hc => by
        rw [upd_ne nc, upd_ne (ne_of_none hc nT)]
        exact hc
      have ext2 : Ext H (upd H s.heap.objs.size (.tup [xs[i], ys[i]])) := Ext.upd nT
      have qk : ∀ {c : Addr} {zs : List V}, c ≠ S → SqL X.K H c zs → SqL X.K (upd (upd H s.heap.objs.size (.tup [xs[i], ys[i]])) S (.lst ((ts ++ [s.heap.objs.size]).map V.ref))) c zs := fun {c zs} nc q => by
        rcases q with (q | ⟨o, q⟩) | q
        · exact .inl (.inl (kO _ _ nc q))
        · exact .inl (.inr ⟨o, kO _ _ nc q⟩)
        · exact .inr q
      have sz : ∀ c ∈ [z, TI, TO, i1, i2], c < s.heap.objs.size := fun c hc => by
        have e' : c = z ∨ c = TI ∨ c = TO ∨ c = i1 ∨ c = i2 := by simpa using hc
        rcases e' with q | q | q | q | q
        · rw [q]; exact lz
        · rw [q]; exact lTI
        · rw [q]; exact lTO
        · rw [q]; exact l1
        · rw [q]; exact l2
      refine ih (i + 1) _ _ (ts ++ [s.heap.objs.size]) (by omega) hlt I3 (fun c hc => ?_) (qk aS qa) (qk bS qb) upd_same (by rw [List.length_append, ht]; rfl) ?_ (fun c o nc h0 => kO _ _ nc (fr c o nc h0)) (st'.other hS0 fun c o nc e => (Heap.get?_update_other _ _ (Ne.symm nc)).trans e)
      · obtain ⟨f0, f1⟩ := hf c hc
        refine ⟨?_, f1⟩
        rw [upd_ne (hS0 c hc), upd_ne (Nat.ne_of_lt (sz c hc))]
        exact f0
      · intro j t hj
        by_cases hji : j < ts.length
        · rw [List.getElem?_append_left hji] at hj
          obtain ⟨x, y, g1, g2, g3⟩ := pr j t hj
          exact ⟨x, y, g1, g2, kO _ _ (ne_of g3 hS (by intro z; cases z)) g3⟩
        · rw [List.getElem?_append_right (by omega)] at hj
          obtain ⟨hj1, hj2⟩ := List.getElem?_eq_some_iff.mp hj
          have ej : j = i := by
            have : j - ts.length < 1 := hj1
            omega
          subst ej
          have et : s.heap.objs.size = t := by
            rw [← hj2]
            simp
          rw [← et]
          exact ⟨_, _, hx, hy, by rw [upd_ne nST, upd_same]⟩
    refine codeAny_builtin PySem.F.entry_extend_loop ?_
    rw [Around.under_plainId PySem.F.plain_extend_loop _]
    show wpAny _ A1.in1 (pyNext (.ref z) >>= _) _ _ s
    have hu' : its.toArray[i]? = some u := by rw [List.getElem?_toArray]; exact hu
    have hu2' : its2.toArray[i]? = some u2 := by rw [List.getElem?_toArray]; exact hu2
    have nT1 : s.heap.objs.size ≠ i1 := Nat.ne_of_gt l1
    have nT2 : s.heap.objs.size ≠ i2 := Nat.ne_of_gt l2
    have nTz : s.heap.objs.size ≠ z := Nat.ne_of_gt lz
    have nTS : s.heap.objs.size ≠ S := Nat.ne_of_gt lS
    rcases hz with ⟨hz, v, v2, hTO⟩ | ⟨T, f, oT, hz, hT, r1, r2, r3, r4⟩
    · refine wpAny_bind (wpAny_pyNext_zip_item D hz hTI hTO h1 h2 p1.isList p2.isList hu' hu2' fun h' z' TO' h1' h2' hTT hsz hk => ?_)
      exact step h' (fun c o hb q => hk c o (fun q' => hb (by simp [q'])) (fun q' => hb (by simp [q'])) (fun q' => hb (by simp [q'])) (fun q' => hb (by simp [q'])) q) hTT
        ⟨hk _ _ D.TIz D.TITO D.TIi1 D.TIi2 hTI, h1', h2', ⟨_, TO'⟩, .inr ⟨_, false, _, z', hTT, nTz, nT1, nT2, nTS⟩⟩
    · refine wpAny_bind (wpAny_pyNext_zip_item_held D hz hT hTI h1 h2 p1.isList p2.isList hu' hu2' fun h' z' h1' h2' hTT hsz hk => ?_)
      exact step h' (fun c o hb q => hk c o (fun q' => hb (by simp [q'])) (fun q' => hb (by simp [q'])) (fun q' => hb (by simp [q'])) q) hTT
        ⟨hk _ _ D.TIz D.TIi1 D.TIi2 hTI, h1', h2', ⟨_, hk _ _ D.TOz D.TOi1 D.TOi2 hO⟩, .inr ⟨T, true, oT, z', hk _ _ r1 r2 r3 hT, r1, r2, r3, r4⟩⟩
/-- list(zip(a, b)), two lists of one length: a new list of new pairs -/
def tListZip (K : PySem.W.Frag) (ta : TA) : TE := fun σ H Q => ta σ H fun vs H1 => ∃ a b xs ys, vs = [.ref a, .ref b] ∧ SqL K H1 a xs ∧ SqL K H1 b ys ∧ xs.length = ys.length ∧ xs.length ≤ 1000 ∧
  ∀ l H2 ts, H1 l = none → Same H1 H2 → H2 l = some (.lst (ts.map V.ref)) → ts.length = xs.length → ZPr H2 xs ys ts → Q (.ref l) H2
theorem zip_nolen : typeLookup (.type "zip") "__len__" = pure none := am_miss_of_fast (by decide +kernel)
theorem zip_nohint : typeLookup (.type "zip") "__length_hint__" = pure none := am_miss_of_fast (by decide +kernel)
theorem pe_listZip {e e2 : Expr} {ta : TA} {p p2 pos pos2 : Pos} (hc : X.calm = true) (hg : Gl X "list") (hm : X.mg "list" = none) (hg2 : Gl X "zip") (hm2 : X.mg "zip" = none) (ha : PA X [e, e2] ta)
    (hs : starEach [e, e2] X.env = (false, eval e X.env) :: starEach [e2] X.env := by rfl) (hpl : (backTo pos2 (starEach [e2] X.env)).any (·.1) = false := by rfl)
    (hs2 : starEach [.Call (.Name "zip" p2) [e, e2] [] pos2] X.env = (false, eval (.Call (.Name "zip" p2) [e, e2] [] pos2) X.env) :: starEach [] X.env := by rfl) :
    PE X (.Call (.Name "list" p) [.Call (.Name "zip" p2) [e, e2] [] pos2] [] pos) (tListZip X.K ta) := by
  refine ⟨fun pins s σ H Q I h => ?_⟩
  refine Call_ (ld_blt I hg hm PyProof.Rows.boot_list (PyProof.Rows.callWith_type1 (args_cons (Call_ (ld_blt I hg2 hm2 PyProof.Rows.boot_zip (PyProof.Rows.callWith_type1 (thn (ha.run pos2 pins s σ H _ I h) fun us s1 ⟨vs, H1, I1, r1, q1⟩ => ?_) hs hpl))) hs2) hs2 rfl))
  obtain ⟨a, b, xs, ys, rfl, qa, qb, hl, hn, q⟩ := q1
  obtain ⟨u1, u2, rfl, ra, rb⟩ := vals2 r1
  cases ra
  cases rb
  obtain ⟨its, rv, p1, _⟩ := I1.list qa
  obtain ⟨its2, rv2, p2', _⟩ := I1.list qb
  have la : a < s1.heap.objs.size := p1.lt
  have lb : b < s1.heap.objs.size := p2'.lt
  refine call_zip_2 p1.isList p2'.isList fun h' hz hTI hTO h1 h2 hsz hk => args_nil ?_
  have I2 : Inv X pins σ H1 { s1 with heap := h' } := I1.kept (t' := s1.toks) hk
  have D := PySem.W.ktu_apart s1.heap.objs.size a b la lb
  have hf : ∀ c ∈ [s1.heap.objs.size + 4, s1.heap.objs.size + 2, s1.heap.objs.size + 3, s1.heap.objs.size, s1.heap.objs.size + 1], FpOk X pins H1 c := fun c hcm => by
    have e' : c = s1.heap.objs.size + 4 ∨ c = s1.heap.objs.size + 2 ∨ c = s1.heap.objs.size + 3 ∨ c = s1.heap.objs.size ∨ c = s1.heap.objs.size + 1 := by simpa using hcm
    have hle : s1.heap.objs.size ≤ c := by omega
    exact I1.fpOk hle (I1.hok.fresh hle)
  have hlt : ∀ c ∈ [s1.heap.objs.size + 4, s1.heap.objs.size + 2, s1.heap.objs.size + 3, s1.heap.objs.size, s1.heap.objs.size + 1], c < h'.objs.size := fun c hcm => by
    have e' : c = s1.heap.objs.size + 4 ∨ c = s1.heap.objs.size + 2 ∨ c = s1.heap.objs.size + 3 ∨ c = s1.heap.objs.size ∨ c = s1.heap.objs.size + 1 := by simpa using hcm
    rw [hsz]
    omega
  have la' : a < h'.objs.size := Nat.lt_of_lt_of_le la (by rw [hsz]; exact Nat.le_add_right _ _)
  have lb' : b < h'.objs.size := Nat.lt_of_lt_of_le lb (by rw [hsz]; exact Nat.le_add_right _ _)
  generalize s1.heap.objs.size + 4 = z at hz D hf hlt ⊢
  generalize s1.heap.objs.size + 2 = TI at hz hTI D hf hlt
  generalize s1.heap.objs.size + 3 = TO at hz hTO D hf hlt
  generalize s1.heap.objs.size + 1 = i2 at hTI h2 D hf hlt
  generalize s1.heap.objs.size = i1 at hTI h1 D hf hlt
  refine callType_codes (Q₁ := fun x s3 => x = .ref h'.objs.size ∧ s3 = { s1 with heap := h'.push { cls := .type "list", data := .seq #[] } }) PySem.F.called_list (PySem.F.typeCall_list_1 _) PySem.F.entry_list_init (code_list_new _ ⟨rfl, rfl⟩) fun x s3 hx => ?_
  obtain ⟨rfl, rfl⟩ := hx
  have got : (h'.push { cls := .type "list", data := .seq #[] }).get? h'.objs.size = some { cls := .type "list", data := .seq #[] } := Heap.get?_push_size _ rfl
  refine ⟨⟨_, got, rfl⟩, PySem.F.args_list_init_2 _ _, ?_⟩
  have fr : H1 h'.objs.size = none := I2.hok.fresh (Nat.le_refl _)
  have I3 : Inv X pins σ (upd H1 h'.objs.size (.lst [])) { s1 with heap := h'.push { cls := .type "list", data := .seq #[] } } := I2.lnew (its := []) (t' := s1.toks) .nil (Nat.zero_le _)
  have nS : ∀ c ∈ [z, TI, TO, i1, i2], c ≠ h'.objs.size := fun c hc => Nat.ne_of_lt (hlt c hc)
  have aS : a ≠ h'.objs.size := Nat.ne_of_lt la'
  have bS : b ≠ h'.objs.size := Nat.ne_of_lt lb'
  have st0 : ZSt z TI TO i1 i2 a b h'.objs.size h' 0 := ⟨hTI, h1, h2, ⟨_, hTO⟩, .inl ⟨hz, _, _, hTO⟩⟩
  have st1 : ZSt z TI TO i1 i2 a b h'.objs.size (h'.push { cls := .type "list", data := .seq #[] }) 0 := st0.other nS fun c o _ e => Heap.get?_push_of_some _ e
  generalize h'.objs.size = S at got fr I3 nS aS bS st1 ⊢
  show wpAny _ _ (do let old ← Builtin.List.listItems (.ref S); Builtin.List.listUpdate (.ref S) (fun _ => #[]); letGo old.toList.reverse; Builtin.List.listExtendWith (.ref S) (.ref z) .none) _ _ _
  refine wpAny_bind ?_
  unfold Builtin.List.listItems
  refine wpAny_bind (wpAny_seqItems got rfl (wpAny_pure ?_))
  show wpAny _ _ (updateSeq S (fun _ => #[]) >>= fun _ => letGo (#[] : Array Value).toList.reverse >>= fun _ => Builtin.List.listExtendWith (.ref S) (.ref z) .none) _ _ _
  refine wpAny_bind (wpAny_updateSeq got rfl ?_)
  have I4 := I3.lset (f := fun _ => #[]) (its := []) (its' := []) (ys := []) (t' := s1.toks) upd_same got rfl .nil (Nat.zero_le _)
  rw [upd_upd] at I4
  refine wpAny_bind (wpAny_letGo ?_)
  have st2 : ZSt z TI TO i1 i2 a b S ((h'.push { cls := .type "list", data := .seq #[] }).update S (Obj.mapSeq fun _ => #[])) 0 := st1.other nS fun c o nc e => (Heap.get?_update_other _ _ (Ne.symm nc)).trans e
  generalize hs4 : ({ s1 with heap := (h'.push { cls := .type "list", data := .seq #[] }).update S (Obj.mapSeq fun _ => #[]) } : Shared) = s4 at I4 ⊢
  have st4 : ZSt z TI TO i1 i2 a b S s4.heap 0 := by
    rw [← hs4]
    exact st2
  have hz4 : IsZip s4.heap z TI TO .none := by
    rw [← hs4]
    exact (Heap.get?_update_other _ _ (Ne.symm (nS z (by simp)))).trans (Heap.get?_push_of_some _ hz)
  have hT : s4.TypeIs (.ref z) "zip" := ⟨_, hz4, rfl⟩
  clear hs4 st2 st1 got I3
  unfold Builtin.List.listExtendWith
  refine wpAny_bind (wpAny_typeOf hT ?_)
  have b1 : Builtin.List.listSameRef (.ref S) (.ref z) = false := by simp [Builtin.List.listSameRef, (nS z (by simp)).symm]
  have b2 : (Value.type "zip" == Value.type "list") = false := rfl
  have b3 : (Value.type "zip" == Value.type "tuple") = false := rfl
  simp only [b1, b2, b3, Bool.or_false, Bool.false_eq_true, if_false]
  refine wpAny_bind (wpAny_pyIter_zip hz4 ?_)
  refine wpAny_bind (wpAny_holding ?_)
  unfold Builtin.List.listLengthHint
  refine wpAny_bind (wpAny_specialOf hT zip_nolen ?_)
  show wpAny _ _ (specialOf (Value.ref z) (Str.ofString "__length_hint__") >>= _) _ _ _
  refine wpAny_bind (wpAny_specialOf hT zip_nohint ?_)
  refine wpAny_pure ?_
  show wpAny _ _ (rule "list.extend.makes-room" >>= fun _ => Builtin.List.listTouch (.ref S) >>= fun _ => again (.builtin "list.extend.loop" ⟨[.ref S, .ref z, .none], []⟩)) _ _ _
  refine wpAny_bind (wpAny_rule ?_)
  refine wpAny_bind ?_
  show wpAny _ _ (updateSeq S (·.push .none) >>= fun _ => updateSeq S (·.pop)) _ _ _
  have hSl : (upd H1 S (.lst [])) S = some (.lst []) := upd_same
  obtain ⟨_, it3, k3, r3, hl3, e3⟩ := I4.lstM hSl
  cases r3
  refine wpAny_bind (wpAny_updateSeq e3 rfl ?_)
  have I6 := I4.lset (f := (·.push Value.none)) (its' := [Value.none]) (ys := [.non]) (t' := s4.toks) hSl e3 (by simp) (.cons rfl .nil) (by rw [List.length_singleton, sizeLine_eq]; decide)
  have st6 := st4.other nS (h' := (s4.heap.update S (Obj.mapSeq (·.push Value.none)))) fun c o nc e => (Heap.get?_update_other _ _ (Ne.symm nc)).trans e
  obtain ⟨_, it4, k4, r4, hl4, e4⟩ := I6.lstM upd_same
  obtain ⟨u4, rfl, ru4⟩ := r4.one
  refine wpAny_updateSeq e4 rfl ?_ (by show 1 ≤ sizeLine; rw [sizeLine_eq]; decide) (by show 0 ≤ sizeLine + 1; exact Nat.zero_le _)
  have I7 := I6.lset (f := (·.pop)) (its := [u4]) (its' := []) (ys := []) (t' := s4.toks) upd_same e4 (by rfl) .nil (Nat.zero_le _)
  rw [upd_upd, upd_upd] at I7
  have st7 := st6.other nS (h' := ((s4.heap.update S (Obj.mapSeq (·.push Value.none))).update S (Obj.mapSeq (·.pop)))) fun c o nc e => (Heap.get?_update_other _ _ (Ne.symm nc)).trans e
  have qk : ∀ {c : Addr} {zs : List V}, SqL X.K H1 c zs → SqL X.K (upd H1 S (.lst [])) c zs := fun {c zs} q => SqL.ext q (Ext.upd fr)
  refine wpAny_pure ⟨plainId_quiet PySem.F.plain_extend_loop _, zip_loop (pins := pins) (σ := σ) (H0 := H1) (by simp [I1.ok.hd hc]) D nS aS bS hl hn (fun s7 H7 ts I7 e7 p7 h7 f7 => ⟨rfl, .ref S, H7, I7, vref, q S H7 ts fr (fun c o hc0 => f7 c o (ne_of_none hc0 fr) hc0) h7 e7 p7⟩) xs.length 0 _ _ [] rfl (Nat.zero_le _) I7 (fun c hc => ?_) (qk qa) (qk qb) upd_same rfl (fun j t hj => by cases j <;> cases hj) (fun c o nc h0 => by rw [upd_ne nc]; exact h0) st7⟩
  obtain ⟨f0, f1⟩ := hf c hc
  exact ⟨by rw [upd_ne (nS c hc)]; exact f0, f1⟩
/-- o op p, both of the class: an object comes back -/
def rBinO (C : Addr) (sp : Sp) (E : XK) : R2 := fun x y H Q => ∃ a dx fs b dy gs, x = .ref a ∧ y = .ref b ∧ H a = some (.ins C dx fs) ∧ H b = some (.ins C dy gs) ∧ sp [.ref a, .ref b] H (fun v H' => ∃ r, v = .ref r ∧ Q (.ref r) H') E
theorem bin_own {CX : CXT} {k : Nat} {f C : Addr} {fd : FuncData} {ps : List Str} {sp : Sp} {E : XK} {op : Operator} {name : Str} (hn : PySem.dunder op.info.2 = name) (m : Meth X.K C name f) (sf : PySem.W.selfFirst X.K C = true) (F : FnOk X.prog X.w X.K X.mg X.base CX k f fd ps sp) (hr : Room k X.A) (hb : Binds X.K fd ps []) (hx : ∀ σ, PassesAt CX X σ E) : OpR X (binaryOp op) (rBinO C sp E) := by
  subst hn
  intro pins s σ H x y v u Q I rx ry h
  obtain ⟨a, dx, fs, b, dy, gs, rfl, rfl, ha, hb', q⟩ := h
  cases rx
  cases ry
  obtain ⟨ox, od, J⟩ := inst_at I ha
  obtain ⟨oy, od', J'⟩ := inst_at I hb'
  obtain ⟨m', hF⟩ := I.fr
  refine PySem.W.binop_K hF I.ok.mod.kin J J'.type sf m.at_ m.fn (wpAny_mono (own_run (E := fun _ => E) F hr rfl hb (hx σ) I (.cons vref (.cons vref .nil)) q) (fun u s' hu => ?_) fun _ _ x => x)
  obtain ⟨v, H', I', rv, r, rfl, q'⟩ := hu
  cases rv
  exact ⟨.ref r, H', I', vref, q'⟩
end
end KO
namespace KO
open PySem PySem.Spec PyProof.Rows L2 PySem.W
section
variable {prog : Program} {w : World} {A : Around} {E : Value → Shared → Prop} {s : Shared} {K : PySem.W.Frag} {x C L f g : Addr} {h₀ : Heap} {m : Str → Option Value} {ox : Obj} {od : Option Obj}
theorem int_mul_ref {i : Int} {t : Tok} {P : PySem.Fin → Shared → Prop} (hx : s.heap.get? x = some ox) (hd : ox.data = .plain) (h : P (.done (.ret .notImplemented)) s) : wpAny (model prog w) A (Builtin.«int.__mul__» ⟨[.int i t, .ref x], []⟩) P E s := by
  obtain ⟨hp, g, d, tk, os⟩ := s
  obtain ⟨oc, odd, dt, sl⟩ := ox
  dsimp only at hd
  subst hd
  repeat (any_goals (first | assumption | with_reducible refine wpAny_load hx ?_ | wp_step))
theorem rmul_K {i : Int} {t : Tok} {Q : Value → Shared → Prop} (F : Fr h₀ L s.heap m) (X₀ : K.In h₀) (I : PySem.W.InstAt s.heap x ox C od) (hd : ox.data = .plain) (hc : selfFirst K C = true)
    (hs : findIn K (.ref C) (PySem.dunder "mul") = some (some (.ref g))) (hr : findIn K (.ref C) (dunderR "mul") = some (some (.ref f))) (hf : isFn K (.ref f) = true) (hsub : subIn K (.ref C) (.type "int") = some false)
    (h : wpAny (model prog w) A (call (.ref f) [.ref x, .int i t]) (PySem.W.CmpBack Q) E s) : wpAny (model prog w) A (binaryOp .Mult (.int i t) (.ref x)) Q E s := by
  have X := X₀.keeps F.keep
  obtain ⟨cd, rest, hcd, hm⟩ := ksp_first hc
  have one := ksp_try X I hr hf h
  have hx := I.1
  obtain ⟨hh, gg, d, tt, os⟩ := s
  have hT : (⟨hh, gg, d, tt, os⟩ : Shared).TypeIs (.int i t) "int" := typeIs_int _ i t
  have L1 : Looks (model prog w) hh (typeOf (.int i t)) (.type "int") := Looks.of_pure rfl
  have L2 : Looks (model prog w) hh (typeOf (.ref x)) (.ref C) := I.type
  have L3 : Looks (model prog w) hh (fillsNumberSlot (.type "int") "mul") true := Looks.of_pure PySem.F.fills_int_mul
  have L4 : Looks (model prog w) hh (fillsNumberSlot (.ref C) "mul") true := fills_K X hcd hm hs
  have L5 : Looks (model prog w) hh (isSubtype (.ref C) (.type "int")) false := looks_subIn X hsub
  have L7 : Looks (model prog w) hh (numberSlotInPython (.type "int") "mul") false := Looks.of_pure rfl
  have hne : (Value.type "int" == Value.ref C) = false := Bool.eq_false_iff.mpr fun q => by cases beq_iff_eq.mp q
  simp only [binaryOp, show Operator.Mult.info = ("*", "mul") from rfl]
  refine wpAny_holding (wpAny_bind ?_)
  unfold binaryOp1
  refine wpAny_bind (L1.at (wpAny_bind (L2.at (wpAny_bind (L3.at ?_)))))
  simp only [hne, Bool.false_eq_true, if_false]
  ksp_lk
  unfold tryMethod
  refine wpAny_bind (wpAny_callSpecial?_slot hT PySem.F.slot_int_mul (wpAny_call_entry PySem.F.slot_int_mul hT PySem.F.entry_int_mul (int_mul_ref hx hd ⟨_, rfl, wpAny_pure ?_⟩) (PySem.F.args_int_mul_2 _ _)))
  show wpAny _ _ (tryMethod (.ref x) (dunderR "mul") (.int i t) >>= _) _ _ _
  refine wpAny_bind (wpAny_mono one (fun r s' hr' => ?_) fun _ _ e => e)
  obtain ⟨v, rfl, hq⟩ := hr'
  ksp_lk
  exact hq
end
section
variable {X : Cx} {CX : CXT} {k : Nat} {f g C : Addr} {fd : FuncData} {ps : List Str} {sp : Sp} {E : XK}
theorem vint (i : Int) (t : Tok) : RelV (.int i) (Value.int i t) := ⟨t, rfl⟩
/-- o op n, n an int: an object comes back -/
def rBinOI (C : Addr) (sp : Sp) (E : XK) : R2 := fun x y H Q => ∃ a dx fs, ∃ i : Int, x = .ref a ∧ y = .int i ∧ H a = some (.ins C dx fs) ∧ sp [.ref a, .int i] H (fun v H' => ∃ r, v = .ref r ∧ Q (.ref r) H') E
theorem bin_ownI {op : Operator} {name nameR : Str} {rc fo ro : Option Value} (hn : PySem.dunder op.info.2 = name) (hnR : dunderR op.info.2 = nameR) (m : Meth X.K C name f) (sf : PySem.W.selfFirst X.K C = true) (hr' : PySem.W.findIn X.K (.ref C) nameR = some rc) (hp : rc = none ∨ ∃ g : Addr, rc = some (.ref g))
    (h1 : PySem.W.findIn X.K (.type "int") name = some fo) (h2 : PySem.W.findIn X.K (.type "int") nameR = some ro) (hsub : PySem.W.subIn X.K (.type "int") (.ref C) = some false)
    (F : FnOk X.prog X.w X.K X.mg X.base CX k f fd ps sp) (hr : Room k X.A) (hb : Binds X.K fd ps []) (hx : ∀ σ, PassesAt CX X σ E) : OpR X (binaryOp op) (rBinOI C sp E) := by
  subst hn
  subst hnR
  intro pins s σ H x y v u Q I rx ry h
  obtain ⟨a, dx, fs, i, rfl, rfl, ha, q⟩ := h
  cases rx
  obtain ⟨t, rfl⟩ := ry
  obtain ⟨ox, od, J⟩ := inst_at I ha
  obtain ⟨m', hF⟩ := I.fr
  refine PySem.W.ksp_binT hF I.ok.mod.kin J (by rfl) sf m.at_ m.fn hr' hp h1 h2 hsub (wpAny_mono (own_run (E := fun _ => E) F hr rfl hb (hx σ) I (.cons vref (.cons (vint _ t) .nil)) q) (fun u s' hu => ?_) fun _ _ x => x)
  obtain ⟨v, H', I', rv, r, rfl, q'⟩ := hu
  cases rv
  exact ⟨.ref r, H', I', vref, q'⟩
/-- n * o, n an int: the object's own __rmul__ -/
def rMulOI (C : Addr) (sp : Sp) (E : XK) : R2 := fun x y H Q => ∃ a dx fs, ∃ i : Int, x = .int i ∧ y = .ref a ∧ H a = some (.ins C dx fs) ∧ sp [.ref a, .int i] H (fun v H' => ∃ r, v = .ref r ∧ Q (.ref r) H') E
theorem rmul_own {gm : Addr} (m0 : Meth X.K C "__mul__" gm) (m : Meth X.K C "__rmul__" f) (sf : PySem.W.selfFirst X.K C = true) (hsub : PySem.W.subIn X.K (.ref C) (.type "int") = some false)
    (F : FnOk X.prog X.w X.K X.mg X.base CX k f fd ps sp) (hr : Room k X.A) (hb : Binds X.K fd ps []) (hx : ∀ σ, PassesAt CX X σ E) : OpR X (binaryOp .Mult) (rMulOI C sp E) := by
  intro pins s σ H x y v u Q I rx ry h
  obtain ⟨a, dx, fs, i, rfl, rfl, ha, q⟩ := h
  cases ry
  obtain ⟨t, rfl⟩ := rx
  obtain ⟨mA, J0, _⟩ := ins_get I.hok ha
  obtain ⟨od, J, _⟩ := J0.look
  obtain ⟨m', hF⟩ := I.fr
  have h0 : PySem.W.findIn X.K (.ref C) (PySem.dunder "mul") = some (some (.ref gm)) := m0.at_
  have h1 : PySem.W.findIn X.K (.ref C) (dunderR "mul") = some (some (.ref f)) := m.at_
  refine rmul_K hF I.ok.mod.kin J (by rfl) sf h0 h1 m.fn hsub (wpAny_mono (own_run (E := fun _ => E) F hr rfl hb (hx σ) I (.cons vref (.cons (vint _ t) .nil)) q) (fun u s' hu => ?_) fun _ _ x => x)
  obtain ⟨v, H', I', rv, r, rfl, q'⟩ := hu
  cases rv
  exact ⟨.ref r, H', I', vref, q'⟩
end
end KO
namespace SX
open PySem PySem.Spec PyProof.Rows L2 KO
/-! ### small words -/
theorem iteD {c A B : Prop} [Decidable c] (hc : ¬ c) (h : B) : if decide c = true then A else B := by
  rw [decide_eq_false hc]
  exact iteF h
theorem iteDT {c A B : Prop} [Decidable c] (hc : c) (h : A) : if decide c = true then A else B := by
  rw [decide_eq_true hc]
  exact iteT h
theorem iteND {c A B : Prop} [Decidable c] (hc : c) (h : B) : if (!decide c) = true then A else B := iteNS hc h
theorem iteDs {c A B : Prop} [Decidable c] (h1 : c → A) (h2 : ¬ c → B) : if decide c = true then A else B := by
  by_cases h : c
  · exact iteDT h (h1 h)
  · exact iteD h (h2 h)
/-- a op b op c op d, three comparisons -/
def tChain3 (r r' r'' : R2) (ta tb tc td : TE) : TE := fun σ H Q => ta σ H fun x H1 => tb σ H1 fun y H2 => r x y H2 fun z H3 => ∃ k, z = .bl k ∧
  (if k = true then tc σ H3 fun y' H4 => r' y y' H4 fun z' H5 => ∃ k', z' = .bl k' ∧ (if k' = true then td σ H5 fun y'' H6 => r'' y' y'' H6 Q else Q (.bl false) H5) else Q (.bl false) H3)
theorem pe_chain3 {X : Cx} {a b c d : Expr} {pos : Pos} {ta tb tc td : TE} {op op' op2 : CmpOp} {r r' r'' : R2} (ho : OpR X (compareOp op) r) (ho' : OpR X (compareOp op') r') (ho2 : OpR X (compareOp op2) r'')
    (ha : PE X a ta) (hb : PE X b tb) (hc : PE X c tc) (hd : PE X d td) (hm : lastMarks [op, op', op2] [b, c, d] = false := by with_unfolding_all rfl) : PE X (.Compare a [op, op', op2] [b, c, d] pos) (tChain3 r r' r'' ta tb tc td) := by
  refine ⟨fun pins s σ H Q I h => ?_⟩
  refine Compare_chain (thn (ha.run pins s σ H _ I h) fun v s1 ⟨x, H1, I1, r1, q1⟩ => chain_link (thn (hb.run pins s1 σ H1 _ I1 q1) fun u s2 ⟨y, H2, I2, r2, q2⟩ =>
    thn (ho pins s2 σ H2 x y v u _ I2 r1 r2 q2) fun d s3 ⟨z, H3, I3, r3, k, e, q3⟩ => ?_)) hm
  subst e
  cases r3
  refine wpAny_truthy_bool ?_
  cases k with
  | false => exact ite_ff ⟨.bl false, H3, I3, rfl, q3⟩
  | true =>
    refine ite_tt (chain_link (thn (hc.run pins s3 σ H3 _ I3 q3) fun u' s4 ⟨y', H4, I4, r4, q4⟩ => thn (ho' pins s4 σ H4 y y' u u' _ I4 r2 r4 q4) fun d' s5 ⟨z', H5, I5, r5, k', e', q5⟩ => ?_))
    subst e'
    cases r5
    refine wpAny_truthy_bool ?_
    cases k' with
    | false => exact ite_ff ⟨.bl false, H5, I5, rfl, q5⟩
    | true => exact ite_tt (chain_last (thn (hd.run pins s5 σ H5 _ I5 q5) fun w' s6 ⟨y2, H6, I6, r6, q6⟩ => ho2 pins s6 σ H6 y' y2 u' w' Q I6 r4 r6 q6))
/-- isinstance of a built-in class -/
theorem isi {K : PySem.W.Frag} {H : Hp} {x : V} {a b : String} {r : Bool} {Q : VK} (h : TyX K H x (.type a)) (k : kitB a b = some r) (q : Q (.bl r) H) : rIsi K [x, .ty b] H Q :=
  ⟨x, .ty b, _, _, r, rfl, .ty b, h, kit_ty k, q⟩
/-! ### heaps -/
def But (p : Addr) (H H' : Hp) : Prop := ∀ b o, b ≠ p → H b = some o → H' b = some o
theorem But.refl (p : Addr) (H : Hp) : But p H H := fun _ _ _ h => h
theorem But.trans {p : Addr} {H H1 H2 : Hp} (a : But p H H1) (b : But p H1 H2) : But p H H2 := fun c o n h => b c o n (a c o n h)
theorem But.of {p : Addr} {H H' : Hp} (s : Same H H') : But p H H' := fun b o _ h => s b o h
theorem But.put {p : Addr} {H : Hp} {o : HO} : But p H (upd H p o) := fun b u n h => by
  rw [upd_ne n]
  exact h
theorem same_upd {H : Hp} {p : Addr} {o : HO} (h : H p = none) : Same H (upd H p o) := fun b x e => by
  rw [upd_ne (ne_of_none e h)]
  exact e
/-- a fresh object was changed -/
theorem Same.put {H H' : Hp} {p : Addr} {o : HO} (s : Same H H') (h : H p = none) : Same H (upd H' p o) := fun b x e => by
  rw [upd_ne (ne_of_none e h)]
  exact s b x e
theorem But.put' {q : Addr} {H H' : Hp} {p : Addr} {o : HO} (s : But q H H') (h : H p = none) : But q H (upd H' p o) := fun b x n e => by
  rw [upd_ne (ne_of_none e h)]
  exact s b x n e
/-- what is free behind was free before, but for the pool -/
theorem But.free {p : Addr} {H H' : Hp} (e : But p H H') {l : Addr} (hl : l ≠ p) (h : H' l = none) : H l = none := by
  cases q : H l with
  | none => rfl
  | some o =>
    rw [e l o hl q] at h
    cases h
def Pool (H : Hp) (p : Addr) : Prop := ∃ x f c : Int, H p = some (.lst [.int x, .int f, .int c])
theorem Pool.ne {H : Hp} {p l : Addr} (h : Pool H p) (hl : H l = none) : l ≠ p := fun e => by
  obtain ⟨x, f, c, h⟩ := h
  rw [e, h] at hl
  cases hl
theorem Pool.same {H H' : Hp} {p : Addr} (h : Pool H p) (s : Same H H') : Pool H' p := by
  obtain ⟨x, f, c, h⟩ := h
  exact ⟨x, f, c, s _ _ h⟩
theorem Pool.upd {H : Hp} {p l : Addr} {o : HO} (h : Pool H p) (hl : l ≠ p) : Pool (upd H l o) p := by
  obtain ⟨x, f, c, h⟩ := h
  exact ⟨x, f, c, by rw [upd_ne hl.symm]; exact h⟩

def Eqp (p : Addr) (H H' : Hp) : Prop := ∀ b, b ≠ p → H' b = H b
theorem Eqp.refl (p : Addr) (H : Hp) : Eqp p H H := fun _ _ => rfl
theorem Eqp.trans {p : Addr} {H H1 H2 : Hp} (a : Eqp p H H1) (b : Eqp p H1 H2) : Eqp p H H2 := fun c h => (b c h).trans (a c h)
theorem Same.eqp {H H1 H2 : Hp} {p : Addr} (s : Same H H1) (e : Eqp p H1 H2) (h : H p = none) : Same H H2 := fun b x q => by
  rw [e b (ne_of_none q h)]
  exact s b x q
/-- what stands stays, but for the pool at p; and a pool stands there -/
def Run (p : Addr) (H H' : Hp) : Prop := But p H H' ∧ Pool H' p
theorem Run.but {p : Addr} {H H' : Hp} (r : Run p H H') : But p H H' := r.1
theorem Run.trans {p : Addr} {H H1 H2 : Hp} (a : Run p H H1) (b : Run p H1 H2) : Run p H H2 := ⟨a.1.trans b.1, b.2⟩
theorem Run.get {p a : Addr} {H H' : Hp} {o : HO} (r : Run p H H') (h : H a = some o) (n : a ≠ p) : H' a = some o := r.1 _ _ n h
theorem upd_get {H : Hp} {p a : Addr} {u o : HO} (h : H a = some o) (hp : H p = none) : upd H p u a = some o := by
  rw [upd_ne (ne_of_none h hp)]; exact h
/-- an object that is no pool list is not at p -/
theorem Pool.tne {H : Hp} {p a : Addr} {xs : List V} (h : Pool H p) (ha : H a = some (.tup xs)) : a ≠ p := by
  obtain ⟨x, f, c, h⟩ := h
  exact ne_of ha h (by intro z; cases z)
theorem Pool.ine {H : Hp} {p a C dx : Addr} {fs : List (Str × V)} (h : Pool H p) (ha : H a = some (.ins C dx fs)) : a ≠ p := by
  obtain ⟨x, f, c, h⟩ := h
  exact ne_of ha h (by intro z; cases z)
/-! ### isinstance of a caught error that has a dict -/
section
variable {X : Cx} {CX : CXT} {k : Nat}
def rIsD (K : PySem.W.Frag) (D a : Addr) (cls : Value) (d : Option Addr) : List V → Hp → VK → Prop := fun xs H Q => cls = .ref D ∧ ∃ (dd : Addr) (fs : List (Str × V)), d = some dd ∧ H dd = some (.xd fs) ∧ rIsE K D a xs H Q
theorem call_isD {a D : Addr} {oe : Obj} {cls : Value} {d : Option Addr} {pn : List (Addr × Obj)} (C : ExcC X.K D) (hz : Zc cls d oe) (hf : ∃ vs, oe.data = .fields vs) : CallR (X.suite a ((a, oe) :: pn)) (.builtin "isinstance") (rIsD X.K D a cls d) := by
  intro pins s σ H xs us Q I r h
  obtain ⟨rfl, dd, fs, rfl, hdd, c, cv, b, rfl, hcv, e, q⟩ := h
  cases r with
  | cons rx rr =>
    cases rr with
    | cons rt rr =>
      cases rr
      cases rx
      have ec := hcv _ rt
      subst ec
      obtain ⟨hget, _⟩ := I.pin (a, oe) (List.mem_append.mpr (.inl List.mem_cons_self))
      obtain ⟨vs, hv⟩ := hf
      have hx : ObjOk X.prog X.w H s.heap dd (.xd fs) := I.hok dd _ hdd
      obtain ⟨mA, hns, hr⟩ := hx
      obtain ⟨od, ho, hl⟩ := lookIn_ns hns
      have J : PySem.W.InstAt s.heap a oe D (some od) := ⟨hget, hz.1, by unfold PySem.W.notCls; rw [hv] <;> rfl, by rw [hz.2]; exact ho⟩
      obtain ⟨cd, hc, _⟩ := PySem.W.any_some C.hd
      exact PySem.W.kia_one (PySem.W.kitx_exc (by rw [hc]; rfl) C.hg C.hk C.hs C.ha C.hn C.ht C.hm) I.kIn J e (fun z => nomatch z) fun tk => ⟨.bl b, H, I.kept (t' := tk) fun _ _ z => z, rfl, q⟩
/-! ### errors with one or two fields -/
theorem del_upd1 {H : Hp} {a dx : Addr} {o1 o2 o3 u : HO} (ha : H a = none) (ne : dx ≠ a) : upd (del (upd (upd (upd H a o1) dx o2) a o3) a) dx u = upd H dx u := by
  funext b
  unfold upd del
  by_cases h1 : b = dx
  · rw [if_pos h1, if_pos h1]
  · rw [if_neg h1, if_neg h1]
    by_cases h2 : b = a
    · rw [if_pos h2, h2, ha]
    · simp [h1, h2]
theorem del_upd2 {H : Hp} {a dx : Addr} {o1 o2 o3 o4 u : HO} (ha : H a = none) (ne : dx ≠ a) : upd (del (upd (upd (upd (upd H a o1) dx o2) a o3) dx o4) a) dx u = upd H dx u := by
  funext b
  unfold upd del
  by_cases h1 : b = dx
  · rw [if_pos h1, if_pos h1]
  · rw [if_neg h1, if_neg h1]
    by_cases h2 : b = a
    · rw [if_pos h2, h2, ha]
    · simp [h1, h2]
/-- __init__ with one field -/
def spX1 (C : Addr) (f : Str) : Sp := fun vs H Q _ => ∃ (a : Addr) (v : V), vs = [.ref a, v] ∧ H a = some (exo a C none) ∧ ∀ dx, H dx = none → dx ≠ a → Q .non (upd (upd H dx (exd dx [(f, v)])) a (exo a C (some dx)))
def spX2 (C : Addr) (f g : Str) : Sp := fun vs H Q _ => ∃ (a : Addr) (v u : V), vs = [.ref a, v, u] ∧ H a = some (exo a C none) ∧ ∀ dx, H dx = none → dx ≠ a → Q .non (upd (upd (upd H dx (exd dx [(f, v)])) a (exo a C (some dx))) dx (exd dx [(g, u), (f, v)]))
def tR1 (C : Addr) (f : Str) (te : TE) : L2.St → Hp → XK → Prop := fun σ H Q => te σ H fun v H1 => ∀ d, H1 d = none → Q (.ref C) (some d) (upd H1 d (.xd [(f, v)]))
def tR2 (C : Addr) (f g : Str) (te tf : TE) : L2.St → Hp → XK → Prop := fun σ H Q => te σ H fun v H1 => tf σ H1 fun u H2 => ∀ d, H2 d = none → Q (.ref C) (some d) (upd H2 d (.xd [(g, u), (f, v)]))
variable {x : Str} {C fI : Addr} {fd : FuncData} {f g : Str} {e e2 : Expr} {te tf : TE} {p pos : Pos} {ps : List Str}
theorem PMk.imp {e : Expr} {t u : L2.St → Hp → XK → Prop} (h : PMk X e t) (i : ∀ σ H Q, u σ H Q → t σ H Q) : PMk X e u := fun pins s σ H Q I q => h pins s σ H Q I (i σ H Q q)
theorem pmk_1 (T : OexC X.K C) (iC : PySem.W.findIn X.K (.ref C) "__init__" = some (some (.ref fI))) (tI : PySem.W.typeIn X.K (.ref fI) = some (.type "function"))
    (F1 : FnOk X.prog X.w X.K X.mg X.base CX0 k fI fd ps (spX1 C f)) (hr : Room (k + 1) X.A) (hb : Binds X.K fd ps []) (hg : Gl X x) (hm : X.mg x = some (.ref C)) (mono : ∀ σ H (Q Q' : VK), (∀ v H, Q v H → Q' v H) → te σ H Q → te σ H Q') (ha : PA X [e] (tCons te tNil))
    (hdb : (x == ("__debug__" : Str)) = false := by decide) (he : starEach [e] X.env = (false, eval e X.env) :: starEach [] X.env := by rfl) (hpl : (backTo pos (starEach [] X.env)).any (·.1) = false := by rfl) :
    PMk X (.Call (.Name x p) [e] [] pos) (tR1 C f te) := by
  refine PMk.imp (pmk_oex (dvs := []) T iC tI F1 hr hb .nil (fun _ _ _ _ _ _ _ h => h.elim) hg hm ha hdb he hpl) fun σ H Q q => ?_
  refine mono _ _ _ _ (fun v H1 q1 => ⟨by simp, fun a ha => ?_⟩) q
  refine ⟨a, v, rfl, upd_same, fun dx hdx ne => ⟨rfl, dx, [(f, v)], upd_same, ?_, ?_, ?_⟩⟩
  · rw [upd_ne ne, upd_same]
  · rw [upd_ne ne] at hdx; exact hdx
  · rw [del_upd1 ha ne]
    rw [upd_ne ne] at hdx
    exact q1 dx hdx
theorem pmk_2 (T : OexC X.K C) (iC : PySem.W.findIn X.K (.ref C) "__init__" = some (some (.ref fI))) (tI : PySem.W.typeIn X.K (.ref fI) = some (.type "function"))
    (F1 : FnOk X.prog X.w X.K X.mg X.base CX0 k fI fd ps (spX2 C f g)) (hr : Room (k + 1) X.A) (hb : Binds X.K fd ps []) (hg : Gl X x) (hm : X.mg x = some (.ref C)) (mono : ∀ σ H (Q Q' : VK), (∀ v H, Q v H → Q' v H) → te σ H Q → te σ H Q') (mono2 : ∀ σ H (Q Q' : VK), (∀ v H, Q v H → Q' v H) → tf σ H Q → tf σ H Q')
    (ha : PA X [e, e2] (tCons te (tCons tf tNil)))
    (hdb : (x == ("__debug__" : Str)) = false := by decide) (he : starEach [e, e2] X.env = (false, eval e X.env) :: starEach [e2] X.env := by rfl) (hpl : (backTo pos (starEach [e2] X.env)).any (·.1) = false := by rfl) :
    PMk X (.Call (.Name x p) [e, e2] [] pos) (tR2 C f g te tf) := by
  refine PMk.imp (pmk_oex (dvs := []) T iC tI F1 hr hb .nil (fun _ _ _ _ _ _ _ h => h.elim) hg hm ha hdb he hpl) fun σ H Q q => ?_
  refine mono _ _ _ _ (fun v H1 q1 => mono2 _ _ _ _ (fun u H2 q2 => ⟨by simp, fun a ha => ?_⟩) q1) q
  refine ⟨a, v, u, rfl, upd_same, fun dx hdx ne => ⟨rfl, dx, [(g, u), (f, v)], ?_, upd_same, ?_, ?_⟩⟩
  · rw [upd_ne (Ne.symm ne), upd_same]
  · rw [upd_ne ne] at hdx; exact hdx
  · rw [del_upd2 ha ne]
    rw [upd_ne ne] at hdx
    exact q2 dx hdx
theorem mono_C {v : V} : ∀ σ H (Q Q' : VK), (∀ v H, Q v H → Q' v H) → tC v σ H Q → tC v σ H Q' := fun _ _ _ _ h q => h _ _ q
theorem mono_V {i : Nat} : ∀ σ H (Q Q' : VK), (∀ v H, Q v H → Q' v H) → tVar i σ H Q → tVar i σ H Q' := fun _ _ _ _ h ⟨v, e, q⟩ => ⟨v, e, h _ _ q⟩
end
end SX
namespace SX
open PySem PySem.Spec PyProof.Rows L2 KO
theorem Run.flip {p : Addr} {H H1 H2 : Hp} (b : Run p H1 H2) (a : Run p H H1) : Run p H H2 := a.trans b
theorem Run.upd {p a : Addr} {H H1 : Hp} {o : HO} (r : Run p H H1) (n : H1 a = none) : Run p H (upd H1 a o) :=
  ⟨fun b x h e => upd_get (r.1 b x h e) n, r.2.upd (r.2.ne n)⟩
theorem Run.add {p : Addr} {H H1 H2 : Hp} (r : Run p H H1) (s : Same H1 H2) : Run p H H2 := ⟨fun b x h e => s _ _ (r.1 b x h e), r.2.same s⟩
theorem Run.nil {p : Addr} {H : Hp} (h : Pool H p) : Run p H H := ⟨But.refl p H, h⟩
/-- a tracked object that is not p's was changed -/
theorem Run.put {p a : Addr} {H H1 : Hp} {o : HO} (r : Run p H H1) (n : H a = none) (ne : a ≠ p) : Run p H (L2.upd H1 a o) :=
  ⟨fun b x h e => by rw [upd_ne (ne_of_none e n)]; exact r.1 b x h e, r.2.upd ne⟩
theorem Run.free {p a : Addr} {H H1 : Hp} (r : Run p H H1) (n : H1 a = none) : H a = none := r.1.free (r.2.ne n) n
end SX
namespace SX
open PySem PySem.Spec PyProof.Rows L2 KO
theorem Run.add' {p : Addr} {H H1 H2 : Hp} (s : Same H1 H2) (r : Run p H H1) : Run p H H2 := r.add s
theorem Pool.same' {H H' : Hp} {p : Addr} (s : Same H H') (h : Pool H p) : Pool H' p := h.same s
theorem Same.get {H H' : Hp} {a : Addr} {o : HO} (s : Same H H') (h : H a = some o) : H' a = some o := s _ _ h
end SX
namespace SX
open PySem PySem.Spec PyProof.Rows L2 KO
theorem Pool.rne {p : Addr} {H H' : Hp} {l : Addr} (r : Run p H H') (hl : H' l = none) : l ≠ p := r.2.ne hl
theorem Pool.run {p : Addr} {H H' : Hp} (r : Run p H H') : Pool H' p := r.2
end SX
namespace SX
open PySem PySem.Spec PyProof.Rows L2 KO
theorem Pool.ne' {p : Addr} {H : Hp} {l : Addr} (hl : H l = none) (h : Pool H p) : l ≠ p := h.ne hl
theorem Pool.te' {p : Addr} {H : Hp} {l : Addr} {xs : List V} (hl : H l = some (.tup xs)) (h : Pool H p) : l ≠ p := h.tne hl
theorem Pool.ie' {p : Addr} {H : Hp} {l C dx : Addr} {fs : List (Str × V)} (hl : H l = some (.ins C dx fs)) (h : Pool H p) : l ≠ p := h.ine hl
end SX
namespace SX
open PySem PySem.Spec PyProof.Rows L2 KO
/-- v shows the datum d, of depth below n, by objects apart from p -/
def Dq (p : Addr) : Nat → Hp → V → PyData → Prop
  | 0, _, _, _ => False
  | n + 1, H, v, d => match d with
    | .none => v = .non
    | .bool b => v = .bl b
    | .int i => v = .int i
    | .str s => v = .str s
    | .list ds => ∃ (a : Addr) (xs : List V), v = .ref a ∧ a ≠ p ∧ H a = some (.lst xs) ∧ xs.length = ds.length ∧ ds.length ≤ 1000 ∧ ∀ (i : Nat) (x : V) (e : PyData), xs[i]? = some x → ds[i]? = some e → Dq p n H x e
    | .tuple ds => ∃ (a : Addr) (xs : List V), v = .ref a ∧ a ≠ p ∧ H a = some (.tup xs) ∧ xs.length = ds.length ∧ ds.length ≤ 1000 ∧ ∀ (i : Nat) (x : V) (e : PyData), xs[i]? = some x → ds[i]? = some e → Dq p n H x e
    | .dict _ => False
variable {p : Addr} {H H' : Hp}
theorem Dq.keep (k : ∀ b o, b ≠ p → H b = some o → H' b = some o) : ∀ {n : Nat} {v : V} {d : PyData}, Dq p n H v d → Dq p n H' v d
  | 0, _, _, h => h.elim
  | n + 1, v, d, h => by
    cases d with
    | none => exact h
    | bool b => exact h
    | int i => exact h
    | str s => exact h
    | dict kv => exact h
    | list ds =>
      obtain ⟨a, xs, e, ne, ha, hl, hz, r⟩ := h
      exact ⟨a, xs, e, ne, k _ _ ne ha, hl, hz, fun i x e h1 h2 => Dq.keep k (r i x e h1 h2)⟩
    | tuple ds =>
      obtain ⟨a, xs, e, ne, ha, hl, hz, r⟩ := h
      exact ⟨a, xs, e, ne, k _ _ ne ha, hl, hz, fun i x e h1 h2 => Dq.keep k (r i x e h1 h2)⟩
theorem Dq.same {n : Nat} {v : V} {d : PyData} (h : Dq p n H v d) (s : Same H H') : Dq p n H' v d := h.keep fun b o _ e => s b o e
theorem Dq.run {n : Nat} {v : V} {d : PyData} (h : Dq p n H v d) (s : Run p H H') : Dq p n H' v d := h.keep s.1
theorem Dq.up : ∀ {n : Nat} {v : V} {d : PyData}, Dq p n H v d → Dq p (n + 1) H v d
  | 0, _, _, h => h.elim
  | n + 1, v, d, h => by
    cases d with
    | none => exact h
    | bool b => exact h
    | int i => exact h
    | str s => exact h
    | dict kv => exact h
    | list ds =>
      obtain ⟨a, xs, e, ne, ha, hl, hz, r⟩ := h
      exact ⟨a, xs, e, ne, ha, hl, hz, fun i x e h1 h2 => Dq.up (r i x e h1 h2)⟩
    | tuple ds =>
      obtain ⟨a, xs, e, ne, ha, hl, hz, r⟩ := h
      exact ⟨a, xs, e, ne, ha, hl, hz, fun i x e h1 h2 => Dq.up (r i x e h1 h2)⟩
theorem Dq.le {n m : Nat} (hm : n ≤ m) {v : V} {d : PyData} (h : Dq p n H v d) : Dq p m H v d := by
  obtain ⟨k, rfl⟩ := Nat.exists_eq_add_of_le hm
  clear hm
  induction k with
  | zero => exact h
  | succ k ih => exact ih.up
theorem DpAll.of {K : PySem.W.Frag} : ∀ {xs : List V} {ds : List PyData}, xs.length = ds.length → (∀ (i : Nat) (x : V) (e : PyData), xs[i]? = some x → ds[i]? = some e → Dp K H x e) → DpAll K H xs ds
  | [], [], _, _ => .nil
  | [], _ :: _, h, _ => by simp at h
  | _ :: _, [], h, _ => by simp at h
  | x :: xs, d :: ds, h, r => .cons (r 0 x d rfl rfl) (DpAll.of (by simpa using h) fun i y e h1 h2 => r (i + 1) y e (by simpa using h1) (by simpa using h2))
theorem Dq.dp {K : PySem.W.Frag} : ∀ {n : Nat} {v : V} {d : PyData}, Dq p n H v d → Dp K H v d
  | 0, _, _, h => h.elim
  | n + 1, v, d, h => by
    cases d with
    | none => obtain rfl : v = _ := h; exact .non
    | bool b => obtain rfl : v = _ := h; exact .bl b
    | int i => obtain rfl : v = _ := h; exact .int i
    | str s => obtain rfl : v = _ := h; exact .str s
    | dict kv => exact h.elim
    | list ds =>
      obtain ⟨a, xs, rfl, ne, ha, hl, hz, r⟩ := h
      exact .lst (SqL.of ha) (DpAll.of hl fun i x e h1 h2 => (r i x e h1 h2).dp)
    | tuple ds =>
      obtain ⟨a, xs, rfl, ne, ha, hl, hz, r⟩ := h
      exact .tup (SqT.of ha) (DpAll.of hl fun i x e h1 h2 => (r i x e h1 h2).dp)
/-- a list or a tuple, by its items -/
theorem dq_int {n : Nat} {i : Int} : Dq p (n + 1) H (.int i) (.int i) := rfl
theorem dq_str {n : Nat} {i : Str} : Dq p (n + 1) H (.str i) (.str i) := rfl
theorem dq_bl {n : Nat} {i : Bool} : Dq p (n + 1) H (.bl i) (.bool i) := rfl
theorem dq_non {n : Nat} : Dq p (n + 1) H .non .none := rfl
/-- all of a list -/
def DqA (p : Addr) (n : Nat) (H : Hp) (xs : List V) (ds : List PyData) : Prop := xs.length = ds.length ∧ ∀ (i : Nat) (x : V) (e : PyData), xs[i]? = some x → ds[i]? = some e → Dq p n H x e
theorem DqA.nil {n : Nat} : DqA p n H [] [] := ⟨rfl, fun i x e h => by simp at h⟩
theorem DqA.cons {n : Nat} {x : V} {xs : List V} {d : PyData} {ds : List PyData} (h : Dq p n H x d) (r : DqA p n H xs ds) : DqA p n H (x :: xs) (d :: ds) := ⟨by simp [r.1], fun i y e h1 h2 => by
  cases i with
  | zero =>
    simp at h1 h2
    subst h1 h2
    exact h
  | succ i => exact r.2 i y e (by simpa using h1) (by simpa using h2)⟩
theorem DqA.keep {n : Nat} (k : ∀ b o, b ≠ p → H b = some o → H' b = some o) {xs : List V} {ds : List PyData} (h : DqA p n H xs ds) : DqA p n H' xs ds := ⟨h.1, fun i x e h1 h2 => (h.2 i x e h1 h2).keep k⟩
theorem DqA.same {n : Nat} {xs : List V} {ds : List PyData} (h : DqA p n H xs ds) (s : Same H H') : DqA p n H' xs ds := h.keep fun b o _ e => s b o e
theorem DqA.run {n : Nat} {xs : List V} {ds : List PyData} (h : DqA p n H xs ds) (s : Run p H H') : DqA p n H' xs ds := h.keep s.1
theorem DqA.append {n : Nat} {xs ys : List V} {ds es : List PyData} (h : DqA p n H xs ds) (r : DqA p n H ys es) : DqA p n H (xs ++ ys) (ds ++ es) := by
  refine ⟨by simp [h.1, r.1], fun i x e h1 h2 => ?_⟩
  by_cases hi : i < xs.length
  · rw [List.getElem?_append_left hi] at h1
    rw [List.getElem?_append_left (by rw [← h.1]; exact hi)] at h2
    exact h.2 i x e h1 h2
  · rw [List.getElem?_append_right (by omega)] at h1
    rw [List.getElem?_append_right (by rw [← h.1]; omega), ← h.1] at h2
    exact r.2 _ x e h1 h2
theorem DqA.lst {n : Nat} {a : Addr} {xs : List V} {ds : List PyData} (r : DqA p n H xs ds) (ne : a ≠ p) (ha : H a = some (.lst xs)) (hz : ds.length ≤ 1000) : Dq p (n + 1) H (.ref a) (.list ds) := ⟨a, xs, rfl, ne, ha, r.1, hz, r.2⟩
theorem DqA.tup {n : Nat} {a : Addr} {xs : List V} {ds : List PyData} (r : DqA p n H xs ds) (ne : a ≠ p) (ha : H a = some (.tup xs)) (hz : ds.length ≤ 1000) : Dq p (n + 1) H (.ref a) (.tuple ds) := ⟨a, xs, rfl, ne, ha, r.1, hz, r.2⟩
theorem Dq.ofL {n : Nat} {v : V} {ds : List PyData} (h : Dq p (n + 1) H v (.list ds)) : ∃ (a : Addr) (xs : List V), v = .ref a ∧ a ≠ p ∧ H a = some (.lst xs) ∧ DqA p n H xs ds ∧ ds.length ≤ 1000 := by
  obtain ⟨a, xs, e, ne, ha, hl, hz, r⟩ := h
  exact ⟨a, xs, e, ne, ha, ⟨hl, r⟩, hz⟩
theorem Dq.ofT {n : Nat} {v : V} {ds : List PyData} (h : Dq p (n + 1) H v (.tuple ds)) : ∃ (a : Addr) (xs : List V), v = .ref a ∧ a ≠ p ∧ H a = some (.tup xs) ∧ DqA p n H xs ds ∧ ds.length ≤ 1000 := by
  obtain ⟨a, xs, e, ne, ha, hl, hz, r⟩ := h
  exact ⟨a, xs, e, ne, ha, ⟨hl, r⟩, hz⟩
theorem DqA.ints {n : Nat} : ∀ {ns : List Int}, DqA p (n + 1) H (ns.map V.int) (ns.map PyData.int)
  | [] => .nil
  | _ :: ns => .cons dq_int DqA.ints
theorem DqA.of_ints {n : Nat} : ∀ {ns : List Int} {xs : List V}, DqA p (n + 1) H xs (ns.map PyData.int) → xs = ns.map V.int
  | [], [], _ => rfl
  | [], _ :: _, h => by simp [DqA] at h
  | _ :: _, [], h => by simp [DqA] at h
  | m :: ns, x :: xs, h => by
    have e1 : x = .int m := h.2 0 x (.int m) rfl rfl
    have e2 := DqA.of_ints (n := n) (ns := ns) (xs := xs) ⟨by simpa using h.1, fun i y e h1 h2 => h.2 (i + 1) y e (by simpa using h1) (by simpa using h2)⟩
    rw [e1, e2]
    rfl
/-! ### what isinstance asks -/
variable {K : PySem.W.Frag}
theorem at_of' {α : Type} {xs : List α} {i : Int} {j : Nat} {x : α} (e : i = (j : Int)) (h : xs[j]? = some x) : atI xs i = some x := by
  subst e
  exact atI_nat h
end SX
namespace SX
open PySem PySem.Spec PyProof.Rows L2 KO
theorem lit_at {ns : List Int} {r : Int} (h0 : 0 ≤ r) (h1 : r < ns.length) : ∃ v : Int, atI (ns.map V.int) r = some (.int v) ∧ v ∈ ns := by
  obtain ⟨j, rfl⟩ := Int.eq_ofNat_of_zero_le h0
  have hj : j < ns.length := by omega
  exact ⟨ns[j], atI_nat (by rw [List.getElem?_map, List.getElem?_eq_getElem hj]; rfl), List.getElem_mem hj⟩
end SX
namespace SX
open PySem PySem.Spec PyProof.Rows L2 KO
/-! ### data of tuples alone: nothing that is written changes them -/
def Tq : Nat → Hp → V → PyData → Prop
  | 0, _, _, _ => False
  | n + 1, H, v, d => match d with
    | .none => v = .non
    | .bool b => v = .bl b
    | .int i => v = .int i
    | .str s => v = .str s
    | .list _ => False
    | .tuple ds => ∃ (a : Addr) (xs : List V), v = .ref a ∧ H a = some (.tup xs) ∧ xs.length = ds.length ∧ ds.length ≤ 1000 ∧ ∀ (i : Nat) (x : V) (e : PyData), xs[i]? = some x → ds[i]? = some e → Tq n H x e
    | .dict _ => False
/-- tuples stay -/
def TK (H H' : Hp) : Prop := ∀ b xs, H b = some (.tup xs) → H' b = some (.tup xs)
theorem TK.refl (H : Hp) : TK H H := fun _ _ h => h
theorem TK.trans {H H1 H2 : Hp} (a : TK H H1) (b : TK H1 H2) : TK H H2 := fun c xs h => b c xs (a c xs h)
theorem TK.run {p : Addr} {H H' : Hp} (hp : Pool H p) (r : Run p H H') : TK H H' := fun b xs h => r.1 b _ (hp.tne h) h
theorem TK.same {H H' : Hp} (s : Same H H') : TK H H' := fun b xs h => s b _ h
theorem TK.new {H : Hp} {a : Addr} {o : HO} (n : H a = none) : TK H (upd H a o) := fun b xs h => upd_get h n
theorem TK.put {H : Hp} {a : Addr} {ys : List V} {o : HO} (n : H a = some (.lst ys)) : TK H (upd H a o) := fun b xs h => by
  rw [upd_ne (ne_of h n (by intro z; cases z))]
  exact h
variable {p : Addr} {H H' : Hp}
theorem Tq.keep (k : TK H H') : ∀ {n : Nat} {v : V} {d : PyData}, Tq n H v d → Tq n H' v d
  | 0, _, _, h => h.elim
  | n + 1, v, d, h => by
    cases d with
    | none => exact h
    | bool b => exact h
    | int i => exact h
    | str s => exact h
    | dict kv => exact h
    | list ds => exact h
    | tuple ds =>
      obtain ⟨a, xs, e, ha, hl, hz, r⟩ := h
      exact ⟨a, xs, e, k _ _ ha, hl, hz, fun i x e h1 h2 => Tq.keep k (r i x e h1 h2)⟩
theorem Tq.up : ∀ {n : Nat} {v : V} {d : PyData}, Tq n H v d → Tq (n + 1) H v d
  | 0, _, _, h => h.elim
  | n + 1, v, d, h => by
    cases d with
    | none => exact h
    | bool b => exact h
    | int i => exact h
    | str s => exact h
    | dict kv => exact h
    | list ds => exact h
    | tuple ds =>
      obtain ⟨a, xs, e, ha, hl, hz, r⟩ := h
      exact ⟨a, xs, e, ha, hl, hz, fun i x e h1 h2 => Tq.up (r i x e h1 h2)⟩
theorem Tq.dq {ys : List V} (hp : H p = some (.lst ys)) : ∀ {n : Nat} {v : V} {d : PyData}, Tq n H v d → Dq p n H v d
  | 0, _, _, h => h.elim
  | n + 1, v, d, h => by
    cases d with
    | none => exact h
    | bool b => exact h
    | int i => exact h
    | str s => exact h
    | dict kv => exact h
    | list ds => exact h.elim
    | tuple ds =>
      obtain ⟨a, xs, e, ha, hl, hz, r⟩ := h
      exact ⟨a, xs, e, ne_of ha hp (by intro z; cases z), ha, hl, hz, fun i x e h1 h2 => Tq.dq hp (r i x e h1 h2)⟩
/-- the items of a list or a tuple -/
def TqA (n : Nat) (H : Hp) (xs : List V) (ds : List PyData) : Prop := xs.length = ds.length ∧ ∀ (i : Nat) (x : V) (e : PyData), xs[i]? = some x → ds[i]? = some e → Tq n H x e
theorem TqA.keep {n : Nat} {xs : List V} {ds : List PyData} (k : TK H H') (h : TqA n H xs ds) : TqA n H' xs ds := ⟨h.1, fun i x e h1 h2 => (h.2 i x e h1 h2).keep k⟩
theorem TqA.nil {n : Nat} : TqA n H [] [] := ⟨rfl, fun i x e h => by simp at h⟩
theorem TqA.cons {n : Nat} {x : V} {xs : List V} {d : PyData} {ds : List PyData} (h : Tq n H x d) (r : TqA n H xs ds) : TqA n H (x :: xs) (d :: ds) := ⟨by simp [r.1], fun i y e h1 h2 => by
  cases i with
  | zero =>
    simp at h1 h2
    subst h1 h2
    exact h
  | succ i => exact r.2 i y e (by simpa using h1) (by simpa using h2)⟩
theorem TqA.append {n : Nat} {xs ys : List V} {ds es : List PyData} (h : TqA n H xs ds) (r : TqA n H ys es) : TqA n H (xs ++ ys) (ds ++ es) := by
  refine ⟨by simp [h.1, r.1], fun i x e h1 h2 => ?_⟩
  by_cases hi : i < xs.length
  · rw [List.getElem?_append_left hi] at h1
    rw [List.getElem?_append_left (by rw [← h.1]; exact hi)] at h2
    exact h.2 i x e h1 h2
  · rw [List.getElem?_append_right (by omega)] at h1
    rw [List.getElem?_append_right (by rw [← h.1]; omega), ← h.1] at h2
    exact r.2 _ x e h1 h2
theorem TqA.dqa {n : Nat} {xs ys : List V} {ds : List PyData} (hp : H p = some (.lst ys)) (h : TqA n H xs ds) : DqA p n H xs ds := ⟨h.1, fun i x e h1 h2 => (h.2 i x e h1 h2).dq hp⟩
theorem TqA.tup {n : Nat} {a : Addr} {xs : List V} {ds : List PyData} (r : TqA n H xs ds) (ha : H a = some (.tup xs)) (hz : ds.length ≤ 1000) : Tq (n + 1) H (.ref a) (.tuple ds) := ⟨a, xs, rfl, ha, r.1, hz, r.2⟩
theorem TqA.lst {n : Nat} {a : Addr} {xs ys : List V} {ds : List PyData} (r : TqA n H xs ds) (hp : H p = some (.lst ys)) (ne : a ≠ p) (ha : H a = some (.lst xs)) (hz : ds.length ≤ 1000) : Dq p (n + 1) H (.ref a) (.list ds) := (r.dqa hp).lst ne ha hz
theorem TqA.ints {n : Nat} : ∀ {ns : List Int}, TqA (n + 1) H (ns.map V.int) (ns.map PyData.int)
  | [] => .nil
  | _ :: ns => .cons rfl TqA.ints
theorem TqA.of_ints {n : Nat} : ∀ {ns : List Int} {xs : List V}, TqA (n + 1) H xs (ns.map PyData.int) → xs = ns.map V.int
  | [], [], _ => rfl
  | [], _ :: _, h => by simp [TqA] at h
  | _ :: _, [], h => by simp [TqA] at h
  | m :: ns, x :: xs, h => by
    have e1 : x = .int m := h.2 0 x (.int m) rfl rfl
    have e2 := TqA.of_ints (n := n) (ns := ns) (xs := xs) ⟨by simpa using h.1, fun i y e h1 h2 => h.2 (i + 1) y e (by simpa using h1) (by simpa using h2)⟩
    rw [e1, e2]
    rfl
theorem Tq.ofT {n : Nat} {v : V} {ds : List PyData} (h : Tq (n + 1) H v (.tuple ds)) : ∃ (a : Addr) (xs : List V), v = .ref a ∧ H a = some (.tup xs) ∧ TqA n H xs ds ∧ ds.length ≤ 1000 := by
  obtain ⟨a, xs, e, ha, hl, hz, r⟩ := h
  exact ⟨a, xs, e, ha, ⟨hl, r⟩, hz⟩
theorem TqA.get {n i : Nat} {xs : List V} {ds : List PyData} {d : PyData} (h : TqA n H xs ds) (hd : ds[i]? = some d) : ∃ x, xs[i]? = some x ∧ Tq n H x d := by
  have hi : i < ds.length := (List.getElem?_eq_some_iff.mp hd).1
  have hx := List.getElem?_eq_getElem (l := xs) (i := i) (by rw [h.1]; exact hi)
  exact ⟨_, hx, h.2 i _ d hx hd⟩
theorem TqA.get' {n i : Nat} {xs : List V} {ds : List PyData} {x : V} (h : TqA n H xs ds) (hx : xs[i]? = some x) : ∃ d, ds[i]? = some d ∧ Tq n H x d := by
  have hi : i < xs.length := (List.getElem?_eq_some_iff.mp hx).1
  have hd := List.getElem?_eq_getElem (l := ds) (i := i) (by rw [← h.1]; exact hi)
  exact ⟨_, hd, h.2 i _ _ hx hd⟩
/-! ### comprehensions -/
theorem keepT {σ : L2.St} {H : Hp} {te : TE} {R : V → Hp → Prop} {N : Hp → Prop} (h : te σ H R) : tYes σ H fun b H3 => if b = true then te σ H3 R else N H3 := by
  show if true = true then te σ H R else N H
  exact iteT h
section
variable {K : PySem.W.Frag} {p D : Addr} {H1 : Hp} {g : TG} {tt : TT} {te : TE} {vs : List Nat} {σ : L2.St} {Qd : Hp → Prop} {m : Nat}
/-- what stands while the new list at D is filled -/
def Fill (p D : Addr) (H1 H' : Hp) (m : Nat) (ds : List PyData) : Prop := ∃ xs, H' D = some (.lst xs) ∧ TqA m H' xs ds ∧ Run p H1 H'
theorem Fill.start (hD : H1 D = none) (hp : Pool H1 p) : Fill p D H1 (upd H1 D (.lst [])) m [] := ⟨[], upd_same, .nil, (Run.nil hp).upd hD⟩
theorem Fill.more {H' H4 : Hp} {ds : List PyData} {d : PyData} {y : V} (hD : H1 D = none) (hp : Pool H1 p) (f : Fill p D H1 H' m ds) (hz : ds.length ≤ 1000) (r : Run p H' H4) (hy : Tq m H4 y d) :
    ∃ acc, H4 D = some (.lst acc) ∧ acc.length < sizeLine ∧ Fill p D H1 (upd H4 D (.lst (acc ++ [y]))) m (ds ++ [d]) := by
  obtain ⟨xs, h1, h2, h3⟩ := f
  have Dp : D ≠ p := hp.ne hD
  have h1' : H4 D = some (.lst xs) := r.1 _ _ Dp h1
  have k : TK H4 (upd H4 D (.lst (xs ++ [y]))) := TK.put h1'
  exact ⟨xs, h1', by rw [h2.1, sizeLine_eq]; omega, xs ++ [y], upd_same, ((h2.keep (TK.run h3.2 r)).append (.cons hy .nil)).keep k, (h3.trans r).put hD Dp⟩
theorem Fill.none {H' H4 : Hp} {ds : List PyData} (hD : H1 D = none) (hp : Pool H1 p) (f : Fill p D H1 H' m ds) (r : Run p H' H4) : Fill p D H1 H4 m ds := by
  obtain ⟨xs, h1, h2, h3⟩ := f
  exact ⟨xs, r.1 _ _ (hp.ne hD) h1, h2.keep (TK.run h3.2 r), h3.trans r⟩
end
end SX
namespace SX
open PySem PySem.Spec PyProof.Rows L2 KO
theorem ixN_of {n : Nat} {i : Int} (h0 : 0 ≤ i) (h1 : i < n) : ixN n i = some i.toNat := by
  unfold ixN
  rw [if_pos h0, if_pos h1]
end SX
namespace SX
open PySem PySem.Spec PyProof.Rows L2 KO
theorem imin (i j : Int) : (if j < i then j else i) = min i j := by
  by_cases h : j < i
  · rw [if_pos h]; omega
  · rw [if_neg h]; omega
theorem imax (i j : Int) : (if j > i then j else i) = max i j := by
  by_cases h : j > i
  · rw [if_pos h]; omega
  · rw [if_neg h]; omega
/-! ### spans of a net -/
abbrev Sp4 := Int × Int × Int × Int
def dSp (s : Sp4) : PyData := .tuple [.int s.1, .int s.2.1, .int s.2.2.1, .int s.2.2.2]
def gSp (T n : Int) (s : Sp4) : Prop := 0 ≤ s.1 ∧ s.1 < n ∧ 0 ≤ s.2.1 ∧ s.2.1 < n ∧ s.1 ≠ s.2.1 ∧ 0 ≤ s.2.2.1 ∧ s.2.2.1 ≤ s.2.2.2 ∧ s.2.2.2 ≤ s.2.2.1 + T - 1 ∧ s.2.2.2 ≤ 999
theorem turn_ne {s t n : Int} (h0 : 0 ≤ s) (h1 : s < n) (h2 : 0 ≤ t) (h3 : t < n - 1) : 0 ≤ (s + 1 + t) % n ∧ (s + 1 + t) % n < n ∧ s ≠ (s + 1 + t) % n := by
  have a := Int.emod_nonneg (s + 1 + t) (show n ≠ 0 by omega)
  have b := Int.emod_lt_of_pos (s + 1 + t) (show 0 < n by omega)
  refine ⟨a, b, fun e => ?_⟩
  by_cases c : s + 1 + t < n
  · rw [Int.emod_eq_of_lt (by omega) c] at e
    omega
  · have d : (s + 1 + t) % n = s + 1 + t - n := by
      rw [← Int.sub_emod_right (s + 1 + t) n]
      exact Int.emod_eq_of_lt (by omega) (by omega)
    omega
theorem tq_sp {H : Hp} {a : Addr} {s e l m : Int} (h : H a = some (.tup [.int s, .int e, .int l, .int m])) : Tq 2 H (.ref a) (dSp (s, e, l, m)) :=
  TqA.tup (.cons rfl (.cons rfl (.cons rfl (.cons rfl .nil)))) h (by simp)
theorem sp_of {H : Hp} {v : V} {s : Sp4} (h : Tq 2 H v (dSp s)) : ∃ a, v = .ref a ∧ H a = some (.tup [.int s.1, .int s.2.1, .int s.2.2.1, .int s.2.2.2]) := by
  obtain ⟨a, xs, rfl, ha, hx, _⟩ := Tq.ofT h
  have := TqA.of_ints (n := 0) (ns := [s.1, s.2.1, s.2.2.1, s.2.2.2]) hx
  subst this
  exact ⟨a, rfl, ha⟩
/-- list of data: an item by a number -/
theorem at_lst {n : Nat} {H : Hp} {xs : List V} {ds : List PyData} (h : TqA n H xs ds) {i : Int} (h0 : 0 ≤ i) (h1 : i < ds.length) : ∃ x d, atI xs i = some x ∧ ds[i.toNat]? = some d ∧ Tq n H x d := by
  obtain ⟨j, rfl⟩ := Int.eq_ofNat_of_zero_le h0
  have hj : j < ds.length := by omega
  obtain ⟨x, hx, hq⟩ := h.get (List.getElem?_eq_getElem hj)
  exact ⟨x, _, atI_nat hx, List.getElem?_eq_getElem hj, hq⟩
theorem TqA.set {n : Nat} {H : Hp} {xs : List V} {ds : List PyData} (h : TqA n H xs ds) {x : V} {d : PyData} (hx : Tq n H x d) (j : Nat) : TqA n H (xs.set j x) (ds.set j d) := by
  refine ⟨by simp [h.1], fun i y e h1 h2 => ?_⟩
  rw [List.getElem?_set] at h1 h2
  by_cases hij : j = i
  · subst hij
    rw [if_pos rfl] at h1 h2
    split at h1
    · rename_i hl
      rw [if_pos (by rw [← h.1]; exact hl)] at h2
      cases h1
      cases h2
      exact hx
    · cases h1
  · rw [if_neg hij] at h1 h2
    exact h.2 i y e h1 h2
end SX
namespace SX
open PySem PySem.Spec PyProof.Rows L2 KO
def spSpans (H H' : Hp) (p a : Addr) (T n c : Int) : Prop := ∃ (xs : List V) (sps : List Sp4), H' a = some (.lst xs) ∧ TqA 2 H' xs (sps.map dSp) ∧ (sps.length : Int) = c ∧ (∀ s ∈ sps, gSp T n s) ∧ Run p H H'
theorem spSpans.run {H H1 H2 : Hp} {p a : Addr} {T n c : Int} (ne : a ≠ p) (h : spSpans H H1 p a T n c) (r : Run p H1 H2) : spSpans H H2 p a T n c := by
  obtain ⟨xs, sps, h1, h2, h3, h4, h5⟩ := h
  exact ⟨xs, sps, r.1 _ _ ne h1, h2.keep (TK.run h5.2 r), h3, h4, h5.trans r⟩
theorem spSpans.more {H H1 H2 : Hp} {p a b : Addr} {T n c c' s e l m : Int} (hn : H a = none) (ne : a ≠ p) {xs : List V} {sps : List Sp4} (h1 : H1 a = some (.lst xs)) (h2 : TqA 2 H1 xs (sps.map dSp)) (h3 : (sps.length : Int) = c) (h4 : ∀ s ∈ sps, gSp T n s) (h5 : Run p H H1)
    (r : Run p H1 H2) (hb : H2 b = none) (g : gSp T n (s, e, l, m)) (hc : c' = c + 1) : spSpans H (upd (upd H2 b (.tup [.int s, .int e, .int l, .int m])) a (.lst (xs ++ [.ref b]))) p a T n c' := by
  have h1' : H2 a = some (.lst xs) := r.1 _ _ ne h1
  have nb : a ≠ b := ne_of_none h1' hb
  have k1 : TK H2 (upd H2 b (.tup [.int s, .int e, .int l, .int m])) := TK.new hb
  have h1'' : (upd H2 b (.tup [.int s, .int e, .int l, .int m])) a = some (.lst xs) := upd_get h1' hb
  have k2 : TK _ (upd (upd H2 b (.tup [.int s, .int e, .int l, .int m])) a (.lst (xs ++ [.ref b]))) := TK.put h1''
  refine ⟨_, sps ++ [(s, e, l, m)], upd_same, ?_, by simp; omega, fun x hx => ?_, (((h5.trans r).upd hb).put hn ne)⟩
  · rw [List.map_append]
    refine TqA.keep k2 (TqA.append (TqA.keep k1 (h2.keep (TK.run h5.2 r))) (.cons (tq_sp upd_same) .nil))
  · rcases List.mem_append.mp hx with h | h
    · exact h4 x h
    · rw [List.mem_singleton.mp h]
      exact g
/-- one of them put at another's place -/
theorem spSpans.swap {H H1 : Hp} {p a : Addr} {T n c : Int} (hn : H a = none) (ne : a ≠ p) {xs : List V} {sps : List Sp4} (h1 : H1 a = some (.lst xs)) (h2 : TqA 2 H1 xs (sps.map dSp)) (h3 : (sps.length : Int) = c) (h4 : ∀ s ∈ sps, gSp T n s) (h5 : Run p H H1)
    {i : Nat} {x : V} {d : PyData} (hd : (sps.map dSp)[i]? = some d) (hx : Tq 2 H1 x d) (j : Nat) : spSpans H (upd H1 a (.lst (xs.set j x))) p a T n c := by
  rw [List.getElem?_map] at hd
  cases e : sps[i]? with
  | none => rw [e] at hd; cases hd
  | some s =>
    rw [e] at hd
    obtain rfl : dSp s = d := Option.some.inj hd
    refine ⟨_, sps.set j s, upd_same, ?_, by simp; exact h3, fun y hy => ?_, h5.put hn ne⟩
    · have := (h2.set hx j).keep (TK.put (o := .lst (xs.set j x)) h1)
      rw [List.map_set]
      exact this
    · rcases List.mem_or_eq_of_mem_set hy with h | h
      · exact h4 y h
      · rw [h]
        exact h4 s (List.mem_of_getElem? e)
end SX
namespace SX
theorem gSp_of {T n s e l d : Int} (h0 : 0 ≤ s) (h1 : s < n) (h : 0 ≤ e ∧ e < n ∧ s ≠ e) (h2 : 0 ≤ l) (h3 : 0 ≤ d) (h4 : d < T) (h5 : l + d ≤ 999) : gSp T n (s, e, l, l + d) :=
  ⟨h0, h1, h.1, h.2.1, h.2.2, h2, by show l ≤ l + d; omega, by show l + d ≤ l + T - 1; omega, h5⟩
end SX
namespace SX
open PySem PySem.Spec PyProof.Rows L2 KO
theorem lit_at' {xs : List V} {ns : List Int} (e : xs = ns.map V.int) {r : Int} (h0 : 0 ≤ r) (h1 : r < xs.length) : ∃ v : Int, atI xs r = some (.int v) ∧ v ∈ ns ∧ ns[r.toNat]? = some v := by
  subst e
  obtain ⟨j, rfl⟩ := Int.eq_ofNat_of_zero_le h0
  have hj : j < ns.length := by rw [List.length_map] at h1; omega
  exact ⟨ns[j], atI_nat (by rw [List.getElem?_map, List.getElem?_eq_getElem hj]; rfl), List.getElem_mem hj, List.getElem?_eq_getElem hj⟩
/-- a list of ints grows in a comprehension -/
theorem ints_more {H' H4 : Hp} {D p : Addr} {ns : List Int} {r : Int} (ne : D ≠ p) (h : H' D = some (.lst (ns.map V.int))) (hz : ns.length ≤ 1000) (R : Run p H' H4) :
    ∃ acc, H4 D = some (.lst acc) ∧ acc.length < sizeLine ∧ (upd H4 D (.lst (acc ++ [V.int r]))) D = some (.lst ((ns ++ [r]).map V.int)) :=
  ⟨_, R.1 _ _ ne h, by rw [List.length_map, sizeLine_eq]; omega, by rw [upd_same, List.map_append]; rfl⟩
theorem gone_b {rest T t : Int} (h0 : 0 ≤ rest) (h1 : rest < T) (hT : 2 ≤ T) (hT2 : T ≤ 60) (ht : 0 ≤ t) (h : t < 3 ∨ t < 1 + (999 - rest) / T) : 0 ≤ rest + T * t ∧ rest + T * t ≤ 999 := by
  have a : 0 ≤ T * t := Int.mul_nonneg (by omega) ht
  refine ⟨by omega, ?_⟩
  rcases h with h | h
  · have : T * t ≤ 60 * 2 := Int.mul_le_mul hT2 (by omega) ht (by decide)
    omega
  · have b : t * T ≤ 999 - rest := Int.le_of_lt_add_one (by
      have := (Int.le_ediv_iff_mul_le (by omega : 0 < T)).mp (show t ≤ (999 - rest) / T by omega)
      omega)
    have : T * t = t * T := Int.mul_comm _ _
    omega
theorem gSp_of2 {T n s e g b a : Int} (h0 : 0 ≤ s) (h1 : s < n) (h : 0 ≤ e ∧ e < n ∧ s ≠ e) (h2 : 0 ≤ b) (h3 : 0 ≤ a) (h4 : b ≤ g) (h5 : a + b ≤ T - 1) (h6 : g + a ≤ 999) : gSp T n (s, e, g - b, g + a) :=
  ⟨h0, h1, h.1, h.2.1, h.2.2, by show 0 ≤ g - b; omega, by show g - b ≤ g + a; omega, by show g + a ≤ g - b + T - 1; omega, h6⟩
end SX
namespace SX
open PySem PySem.Spec PyProof.Rows L2 KO
theorem iteNDT {c A B : Prop} [Decidable c] (hc : ¬ c) (h : A) : if (!decide c) = true then A else B := by
  rw [decide_eq_false hc]
  exact iteT h
theorem iteNDs {c A B : Prop} [Decidable c] (h1 : ¬ c → A) (h2 : c → B) : if (!decide c) = true then A else B := by
  by_cases h : c
  · exact iteND h (h2 h)
  · exact iteNDT h (h1 h)
/-- a net as it stands at a: its spans are the tuple at t -/
def NetAt (C : Addr) (H : Hp) (a : Addr) (T n : Int) (sps : List Sp4) : Prop := ∃ (dx t : Addr) (xs : List V), H a = some (.ins C dx [("round_length", .int T), ("events", .int n), ("spans", .ref t)]) ∧ H t = some (.tup xs) ∧ TqA 2 H xs (sps.map dSp)
theorem NetAt.keep {C : Addr} {H H' : Hp} {a : Addr} {T n : Int} {sps : List Sp4} (k : ∀ b o, (∀ xs, o ≠ .lst xs) → H b = some o → H' b = some o) (h : NetAt C H a T n sps) : NetAt C H' a T n sps := by
  obtain ⟨dx, t, xs, h1, h2, h3⟩ := h
  exact ⟨dx, t, xs, k _ _ (fun _ z => nomatch z) h1, k _ _ (fun _ z => nomatch z) h2, h3.keep fun b ys e => k _ _ (fun _ z => nomatch z) e⟩
theorem NetAt.run {C p : Addr} {H H' : Hp} {a : Addr} {T n : Int} {sps : List Sp4} (hp : Pool H p) (r : Run p H H') (h : NetAt C H a T n sps) : NetAt C H' a T n sps :=
  h.keep fun b o nl e => r.1 b o (fun z => by
    obtain ⟨x, f, c, q⟩ := hp
    rw [z, q] at e
    exact nl _ (Option.some.inj e).symm) e
theorem NetAt.same {C : Addr} {H H' : Hp} {a : Addr} {T n : Int} {sps : List Sp4} (s : Same H H') (h : NetAt C H a T n sps) : NetAt C H' a T n sps := h.keep fun b o _ e => s b o e
end SX
namespace SX
open PySem PySem.Spec PyProof.Rows L2 KO
theorem take_more {α : Type} {l : List α} {i : Nat} {x : α} (h : l[i]? = some x) : l.take (i + 1) = l.take i ++ [x] := by
  rw [List.take_add_one, h]
  rfl
/-- a new net -/
theorem net_new {C x dx t : Addr} {H H' : Hp} {T n : Int} {xs : List V} {sps : List Sp4} (nx : H x = none) (ndx : H dx = none) (k : ∀ b o, b ≠ x → (upd (upd H dx (.own x)) x (.ins C dx [])) b = some o → H' b = some o)
    (hx : H' x = some (.ins C dx [("round_length", .int T), ("events", .int n), ("spans", .ref t)])) (ht : H' t = some (.tup xs)) (hq : TqA 2 H xs (sps.map dSp)) : NetAt C H' x T n sps ∧ Same H H' := by
  have s : Same H H' := fun b o e => k b o (ne_of_none e nx) (by rw [upd_ne (ne_of_none e nx)]; exact upd_get e ndx)
  exact ⟨⟨dx, t, xs, hx, ht, hq.keep (TK.same s)⟩, s⟩
theorem sp_at {H : Hp} {xs : List V} {sps : List Sp4} (h : TqA 2 H xs (sps.map dSp)) {i : Nat} {x : V} (hx : xs[i]? = some x) : ∃ b sp, x = .ref b ∧ sps[i]? = some sp ∧ H b = some (.tup [.int sp.1, .int sp.2.1, .int sp.2.2.1, .int sp.2.2.2]) := by
  obtain ⟨d, hd, qd⟩ := h.get' hx
  rw [List.getElem?_map] at hd
  cases e : sps[i]? with
  | none => rw [e] at hd; cases hd
  | some sp =>
    rw [e] at hd
    obtain rfl : dSp sp = d := Option.some.inj hd
    obtain ⟨b, rfl, hb⟩ := sp_of qd
    exact ⟨b, sp, rfl, rfl, hb⟩
theorem sp_at' {H : Hp} {xs : List V} {sps : List Sp4} (h : TqA 2 H xs (sps.map dSp)) {i : Nat} {sp : Sp4} (hs : sps[i]? = some sp) : ∃ b, xs[i]? = some (.ref b) ∧ H b = some (.tup [.int sp.1, .int sp.2.1, .int sp.2.2.1, .int sp.2.2.2]) := by
  obtain ⟨x, hx, hq⟩ := h.get (d := dSp sp) (i := i) (by rw [List.getElem?_map, hs]; rfl)
  obtain ⟨b, rfl, hb⟩ := sp_of hq
  exact ⟨b, hx, hb⟩
end SX
namespace SX
open PySem PySem.Spec PyProof.Rows L2 KO
section
variable {X : Cx} {K : PySem.W.Frag}
theorem ix_listK (h : X.K = K) : IxR X (rIxL K) := by subst h; exact ix_list
theorem ix_tupK (h : X.K = K) : IxR X (rIxT K) := by subst h; exact ix_tup
theorem pe_fldK {e : Expr} {f : Str} {pos : Pos} {ta : TE} (h : X.K = K) (he : PE X e ta) (hb : attributeBase e f X.env (eval e X.env) = eval e X.env) : PE X (.Attribute e f pos) (tFld K ta f) := by subst h; exact pe_fld he hb
theorem call_tuple_ofK (h : X.K = K) : CallR X (.type "tuple") (fun xs H Q => ∃ p ys, xs = [.ref p] ∧ ((SqL K H p ys ∧ ∀ l, H l = none → Q (.ref l) (upd H l (.tup ys))) ∨ (SqT K H p ys ∧ Q (.ref p) H))) := by subst h; exact call_tuple_of
theorem call_list_ofK (h : X.K = K) : CallR X (.type "list") (fun xs H Q => ∃ p ys, xs = [.ref p] ∧ (SqL K H p ys ∨ SqT K H p ys) ∧ ∀ l, H l = none → Q (.ref l) (upd H l (.lst ys))) := by subst h; exact call_list_of
theorem call_len_seqK (h : X.K = K) : CallR X (.builtin "len") (fun xs H Q => ∃ p ys, xs = [.ref p] ∧ (SqL K H p ys ∨ SqT K H p ys) ∧ Q (.int ys.length) H) := by subst h; exact call_len_seq
theorem op_in_seqK (h : X.K = K) : OpR X (compareOp .In) (rIn K false) := by subst h; exact op_in_seq
theorem op_notIn_seqK (h : X.K = K) : OpR X (compareOp .NotIn) (rIn K true) := by subst h; exact op_notIn_seq
theorem op_eqDK (h : X.K = K) (hu : X.A.units + 64 < cLine) : OpR X (compareOp .Eq) (rEqD K) := by subst h; exact op_eqD hu
theorem op_neDK (h : X.K = K) (hu : X.A.units + 64 < cLine) : OpR X (compareOp .NotEq) (rNeD K) := by subst h; exact op_neD hu
theorem cr_sumK (h : X.K = K) (hc : X.calm = true) : CallR X (.builtin "sum") (rSum K) := by subst h; exact cr_sum hc
theorem call_isiK' (h : X.K = K) : CallR X (.builtin "isinstance") (rIsi K) := by subst h; exact call_isi
theorem pg_tupK {pos : Pos} {es : List Expr} {k : Nat} {t : TGs} {n : Nat} (hK : X.K = K) (hc : X.calm = true) (h : PGs X es t) (hn : (assignEach es X.env).length = n := by rfl) (hst : (assignEach es X.env).findIdx? (·.1) = none := by rfl) : PG X (.Tuple es k pos) (gTup K n t) := by
  subst hK
  exact pg_tup hc h hn hst
end
end SX
namespace SXT
open PySem PySem.Spec PyProof.Rows
open Sem (wp)
open AutoSeq1 (wpAny_loadPart')
theorem meets_enumerate_newT (l : Addr) (items : Array Value) (n : Nat) (dct : Option Addr) (sl : Array (Option Value)) :
    Meets (Builtin.«enumerate.__new__» ⟨[.type "enumerate", .ref l], []⟩) (fun _ R s => s.heap.get? l = some { cls := .type "tuple", dict := dct, data := .seq items n, slots := sl } ∧
      R (.ok (.ret (.ref (s.heap.push { cls := .type "tuple_iterator", data := .fields #[.ref l, .int 0 0] }).objs.size)))
        { s with heap := (s.heap.push { cls := .type "tuple_iterator", data := .fields #[.ref l, .int 0 0] }).push { cls := .type "enumerate", data := .fields #[.none, .bool false, .ref s.heap.objs.size, rawInt 0, .none, .none] } }) :=
  .of_wp fun prog w A R s h => by
    obtain ⟨hp, g, d, tk, os⟩ := s; obtain ⟨hl, h⟩ := h
    have hsub := sub_enumerate
    have hL : Heap.IsTuple (Shared.heap ⟨hp, g, d, tk, os⟩) l items := ⟨_, hl, rfl, n, rfl⟩
    wp_walk using wpAny_loadPart' hl
    refine wpAny_stack_any fun st => wpAny_pure ?_
    split
    · rename_i c _ _ _ _ _
      cases (c == Value.type "enumerate")
      · wp_walk using wpAny_loadPart' hl, wpAny_pyIter_tuple hL
        exact ⟨_, rfl, h⟩
      · wp_walk using wpAny_loadPart' hl, wpAny_pyIter_tuple hL
        exact ⟨_, rfl, h⟩
    · wp_walk using wpAny_loadPart' hl, wpAny_pyIter_tuple hL
      exact ⟨_, rfl, h⟩
section
variable {prog : Program} {w : World} {A : Around} {E : Value → Shared → Prop} {s : Shared}
theorem call_enumerate_tuple {l : Addr} {items : Array Value} {Q : Value → Shared → Prop} (hL : s.heap.IsTuple l items)
    (h : ∀ h', IsEnum h' (s.heap.objs.size + 1) s.heap.objs.size 0 .none → h'.IsTupleIter s.heap.objs.size l 0 → h'.objs.size = s.heap.objs.size + 2 →
      (∀ b o, s.heap.get? b = some o → h'.get? b = some o) → Q (.ref (s.heap.objs.size + 1)) { s with heap := h' }) :
    wpAny (model prog w) A (call (.type "enumerate") [.ref l]) Q E s := by
  obtain ⟨⟨c, dct, dt, sl⟩, hl, hc, n, hd⟩ := hL
  replace hc : c = .type "tuple" := hc
  replace hd : dt = .seq items n := hd
  subst hc hd
  refine callType_new F.called_enumerate (by decide) (F.typeCall_enumerate_1 _) (F.newCall_enumerate_1 _) (fun obj => F.args_object_init_2 obj _) F.entry_enumerate_new
    (meets_enumerate_newT l items n dct sl) ⟨hl, ?_⟩
  have hz : (s.heap.push { cls := .type "tuple_iterator", data := .fields #[.ref l, .int 0 0] }).objs.size = s.heap.objs.size + 1 := Heap.size_push ..
  show _ ∧ _
  rw [hz]
  have he : IsEnum ((s.heap.push { cls := .type "tuple_iterator", data := .fields #[.ref l, .int 0 0] }).push
      { cls := .type "enumerate", data := .fields #[.none, .bool false, .ref s.heap.objs.size, rawInt 0, .none, .none] }) (s.heap.objs.size + 1) s.heap.objs.size 0 .none := by
    have := Heap.get?_push_size (s.heap.push { cls := .type "tuple_iterator", data := .fields #[.ref l, .int 0 0] })
      (o := { cls := .type "enumerate", data := .fields #[.none, .bool false, .ref s.heap.objs.size, rawInt 0, .none, .none] }) rfl
    rw [hz] at this; exact this
  refine ⟨⟨_, he, rfl⟩, h _ he ⟨_, Heap.get?_push_of_some _ (Heap.get?_push_size _ rfl), rfl, rfl⟩ (by rw [Heap.size_push, hz]) fun b o x => Heap.get?_push_of_some _ (Heap.get?_push_of_some _ x)⟩
end
end SXT
namespace L2
open PySem PySem.Spec PyProof.Rows
/-- enumerate(t), t a tuple: each item in a new pair -/
def IteT (K : PySem.W.Frag) (a : Addr) : It :=
  ⟨fun i H => ∃ (xs : List V) (x : V), SqT K H a xs ∧ xs[i]? = some x, fun i H v H' => ∃ T x, v = .ref T ∧ H T = none ∧ H' = upd H T (.tup [.int (i : Nat), x]) ∧ ∀ xs, SqT K H a xs → xs[i]? = some x, fun i H => ∃ xs : List V, SqT K H a xs ∧ xs.length ≤ i⟩
theorem turn_enumT {P : Program} {w : World} {K : PySem.W.Frag} {elts : List Expr} {kk : Nat} {tpos : Pos} (a e it : Addr) :
    Turn P w K (.Tuple elts kk tpos) (IteT K a) [e, it] e (fun i h => (∃ old, IsEnum h e it ((i : Nat) : Int) old) ∧ h.IsTupleIter it a i ∧ e ≠ it ∧ a ≠ it ∧ a ≠ e) where
  mem := by simp
  obj := fun i h st b hb => by
    obtain ⟨⟨old, he⟩, ⟨o, ho, hc, hd⟩, _⟩ := st
    have e' : b = e ∨ b = it := by simpa using hb
    rcases e' with z | z
    · rw [z]; exact ⟨_, he, fun v q => nomatch q⟩
    · rw [z]; exact ⟨o, ho, fun v q => by rw [hd] at q; cases q⟩
  keep := fun i h h' st k => let ⟨⟨old, he⟩, hi, hne⟩ := st; ⟨⟨old, k e (by simp) _ he⟩, hi.at fun o q => k it (by simp) o q, hne⟩
  item := by
    intro X hP hw hK hc i pins s σ H E I hf st hg
    subst hP hw hK
    obtain ⟨⟨old, he⟩, hit, hne, hai, hae⟩ := st
    obtain ⟨xs, x, hq, hx⟩ := hg
    obtain ⟨its, rv, p, hz⟩ := I.tuple hq
    obtain ⟨u, hu, ru⟩ := rv.get hx
    have hel : e < s.heap.objs.size := Heap.lt_size he
    have hil : it < s.heap.objs.size := by obtain ⟨_, q, _⟩ := hit; exact Heap.lt_size q
    have hi : i < its.toArray.size := by
      have := (List.getElem?_eq_some_iff.mp hu).1
      simpa using this
    refine wpAny_pyNext_enum_itemD (Draws.tuple (A := X.A.in1) (I.ok.hd hc) it a hai its.toArray) he ⟨hit, p⟩ hi hne (by simp [hne, Ne.symm hae]) fun x' h' tk hP ho hst' hT hsz hk => ?_
    have ex : x' = u := Option.some.inj (hP.symm.trans (by simpa using hu))
    subst ex
    refine ⟨_, rfl, wpAny_letOwnedTupleGo_enum (s := { s with heap := h', toks := tk + 1 }) ho fun h'' he' sb => ?_⟩
    have hT2 : h''.get? s.heap.objs.size = some { cls := .type "tuple", data := .seq #[.int i tk, x'] } := (sb.2 _ (Nat.ne_of_gt hel)).trans hT
    have new : ObjOk X.prog X.w (upd H s.heap.objs.size (.tup [.int (i : Nat), x])) h'' s.heap.objs.size (.tup [.int (i : Nat), x]) :=
      ⟨by show 2 ≤ sizeLine; decide, [.int i tk, x'], .cons ⟨_, rfl⟩ (.cons ru .nil), ⟨_, hT2, rfl, _, rfl⟩⟩
    have I1 : Inv X pins σ (upd H s.heap.objs.size (.tup [.int (i : Nat), x])) { s with heap := h'', toks := tk + 1 } :=
      I.turnedNew (ch := [e, it]) (fun b ob hb q => (sb.2 b (fun z => hb (by simp [z]))).trans (hk b ob (fun z => hb (by simp [z])) (fun z => hb (by simp [z])) q)) hf (Nat.le_refl _) new
    refine ⟨.ref s.heap.objs.size, _, I1, rfl, ⟨_, x, rfl, I.hok.fresh (Nat.le_refl _), rfl, fun ys hy => by rw [I.tuple_inj hy hq]; exact hx⟩, ⟨⟨x', ?_⟩, hst'.1.at fun o q => (sb.2 it (Ne.symm hne)).trans q, hne, hai, hae⟩, fun b hb => ?_⟩
    · have e1 : ((i + 1 : Nat) : Int) = (i : Int) + 1 := by omega
      rw [e1]; exact he'
    · have hb' : b < s.heap.objs.size := by
        have e' : b = e ∨ b = it := by simpa using hb
        rcases e' with z | z
        · rw [z]; exact hel
        · rw [z]; exact hil
      rw [upd_ne (Nat.ne_of_lt hb')]
      exact (hf b hb).1
  done := by
    intro X hP hw hK hc i pins s σ H E I hf st hg
    subst hP hw hK
    obtain ⟨⟨old, he⟩, hit, hne, hai, hae⟩ := st
    obtain ⟨xs, hq, hx⟩ := hg
    obtain ⟨its, rv, p, hz⟩ := I.tuple hq
    obtain ⟨f0, f1, f2, f3, f4, f5⟩ := hf it (by simp)
    have hl := rv.length
    have dn : ∀ (s : Shared) (Q : Value → Shared → Prop) (E : Value → Shared → Prop), s.heap.IsTupleIter it a i ∧ s.heap.IsTuple a its.toArray →
        (∀ h' e, Heap.ExtBut it s.heap h' → (∃ o, h'.get? e = some o ∧ o.cls = .type "StopIteration") → E (.ref e) { s with heap := h' }) → wpAny (model X.prog X.w) X.A.in1 (Builtin.SmallTypes.nextOf (.ref it)) Q E s := fun s Q E st hE =>
      wpAny_nextOf_tuple_end (show X.A.in1.handled = none from I.ok.hd hc) st.1 st.2 (by simp; omega) hE
    have D : Draws X.prog X.w X.A.in1 it [it, a] i (fun j v => j < 0 ∧ v = v) (fun j h => h.IsTupleIter it a j ∧ h.IsTuple a its.toArray ∧ i ≤ j) :=
      { live := fun _ _ st => let ⟨o, ho, _⟩ := st.1; ⟨o, ho⟩
        frame := fun _ _ _ st hk => ⟨st.1.at fun o e => hk it (by simp) o e, st.2.1.at fun o e => hk a (by simp) o e, st.2.2⟩
        item := fun j s Q E hj st _ => absurd st.2.2 (by omega)
        done := fun s Q E st hE => dn s Q E ⟨st.1, st.2.1⟩ hE }
    exact wpAny_pyNext_enum_endD D he ⟨hit, p, Nat.le_refl _⟩ fun h' eb => ⟨rfl, I.turned (t' := s.toks) (fun b o hb q => eb b o hb q) f0 f1 f3 f4 f5⟩
  self := fun A i s Q E st h => let ⟨⟨_, he⟩, _⟩ := st; wpAny_pyIter_enum he h
def iEnumT (K : PySem.W.Frag) (ta : TA) : TI := fun σ H R => ta σ H fun vs H1 => ∃ a xs, vs = [.ref a] ∧ SqT K H1 a xs ∧ R (IteT K a) H1
theorem pi_enumT {X : Cx} {e : Expr} {ta : TA} {p pos tpos : Pos} {elts : List Expr} {kk : Nat} (hg : Gl X "enumerate") (hm : X.mg "enumerate" = none) (ha : PA X [e] ta) (hs : starEach [e] X.env = [(false, eval e X.env)] := by rfl) :
    PI X (.Tuple elts kk tpos) (.Call (.Name "enumerate" p) [e] [] pos) (iEnumT X.K ta) := by
  refine ⟨fun pins s σ H R I h => ?_⟩
  refine Call_ (ld_blt I hg hm boot_enumerate (PyProof.Rows.callWith_type1 (thn (ha.run pos pins s σ H _ I h) fun us s1 ⟨vs, H1, I1, r1, q1⟩ => ?_) hs rfl))
  obtain ⟨a, xs, ex, hq, q⟩ := q1
  subst ex
  cases r1 with
  | cons r rr =>
    cases rr
    cases r
    obtain ⟨its, rv, p', hz⟩ := I1.tuple hq
    have hlt : a < s1.heap.objs.size := by obtain ⟨_, e, _⟩ := p'; exact Heap.lt_size e
    refine SXT.call_enumerate_tuple (show s1.heap.IsTuple a its.toArray from p') fun h' he hit hsz hk => wpAny_pyIter_enum he ?_
    have I2 : Inv X pins σ H1 { s1 with heap := h' } := I1.kept (t' := s1.toks) hk
    refine ⟨s1.heap.objs.size + 1, [s1.heap.objs.size + 1, s1.heap.objs.size], _, _, H1, rfl, I2, turn_enumT a (s1.heap.objs.size + 1) s1.heap.objs.size, ⟨⟨.none, he⟩, hit, Nat.succ_ne_self _, Nat.ne_of_lt hlt, Nat.ne_of_lt (Nat.lt_succ_of_lt hlt)⟩, fun b hb => ?_, q⟩
    have e' : b = s1.heap.objs.size + 1 ∨ b = s1.heap.objs.size := by simpa using hb
    have hle : s1.heap.objs.size ≤ b := by
      rcases e' with z | z
      · rw [z]; exact Nat.le_add_right _ _
      · rw [z]; exact Nat.le_refl _
    exact I1.fpOk hle (I1.hok.fresh hle)
section
variable {K : PySem.W.Frag} {a : Addr} {xs : List V} {g : TG} {tb : TS} {D : Ends} {σ : St} {H : Hp}
/-- the loop over enumerate(t) -/
theorem for_enumT (Pv : Nat → St → Hp → Prop) (h0 : Pv 0 σ H) (hq : ∀ i σ H, i ≤ xs.length → Pv i σ H → SqT K H a xs)
    (hs : ∀ i x T σ H, xs[i]? = some x → Pv i σ H → H T = none → g (.ref T) σ (upd H T (.tup [.int (i : Nat), x])) fun σ2 H2 => tb { D with nx := Pv (i + 1), ct := Pv (i + 1), bk := D.nx } σ2 H2) (hd : ∀ σ H, Pv xs.length σ H → D.nx σ H) :
    ∃ W : Nat → Nat → St → Hp → Prop, (∃ m, W 0 m σ H) ∧ ∀ i m σ H, W i m σ H →
      ((IteT K a).stop i H ∧ D.nx σ H) ∨ ((IteT K a).go i H ∧ ∃ N : St → Hp → Prop, (∀ σ' H', N σ' H' → ∃ m', m' < m ∧ W (i + 1) m' σ' H') ∧ ∀ x H', (IteT K a).yld i H x H' → g x σ H' fun σ2 H2 => tb { D with nx := N, ct := N, bk := D.nx } σ2 H2) := by
  refine ⟨fun i m σ H => m = xs.length - i ∧ i ≤ xs.length ∧ Pv i σ H, ⟨xs.length, by simp, Nat.zero_le _, h0⟩, ?_⟩
  rintro i m σ H ⟨rfl, hi, p⟩
  have q := hq i σ H hi p
  by_cases hlt : i < xs.length
  · refine .inr ⟨⟨xs, xs[i], q, by simp [hlt]⟩, Pv (i + 1), fun σ' H' p' => ⟨xs.length - (i + 1), by omega, rfl, hlt, p'⟩, fun x H' y => ?_⟩
    obtain ⟨T, z, e1, e2, e3, e4⟩ := y
    subst e1 e3
    exact hs i z T σ H (e4 xs q) p e2
  · have e : i = xs.length := by omega
    subst e
    exact .inl ⟨⟨xs, q, Nat.le_refl _⟩, hd σ H p⟩
/-- the loop over enumerate(xs) -/
theorem for_enum (Pv : Nat → St → Hp → Prop) (h0 : Pv 0 σ H) (hq : ∀ i σ H, i ≤ xs.length → Pv i σ H → SqL K H a xs)
    (hs : ∀ i x T σ H, xs[i]? = some x → Pv i σ H → H T = none → g (.ref T) σ (upd H T (.tup [.int (i : Nat), x])) fun σ2 H2 => tb { D with nx := Pv (i + 1), ct := Pv (i + 1), bk := D.nx } σ2 H2) (hd : ∀ σ H, Pv xs.length σ H → D.nx σ H) :
    ∃ W : Nat → Nat → St → Hp → Prop, (∃ m, W 0 m σ H) ∧ ∀ i m σ H, W i m σ H →
      ((Ite K a).stop i H ∧ D.nx σ H) ∨ ((Ite K a).go i H ∧ ∃ N : St → Hp → Prop, (∀ σ' H', N σ' H' → ∃ m', m' < m ∧ W (i + 1) m' σ' H') ∧ ∀ x H', (Ite K a).yld i H x H' → g x σ H' fun σ2 H2 => tb { D with nx := N, ct := N, bk := D.nx } σ2 H2) := by
  refine ⟨fun i m σ H => m = xs.length - i ∧ i ≤ xs.length ∧ Pv i σ H, ⟨xs.length, by simp, Nat.zero_le _, h0⟩, ?_⟩
  rintro i m σ H ⟨rfl, hi, p⟩
  have q := hq i σ H hi p
  by_cases hlt : i < xs.length
  · refine .inr ⟨⟨xs, xs[i], q, by simp [hlt]⟩, Pv (i + 1), fun σ' H' p' => ⟨xs.length - (i + 1), by omega, rfl, hlt, p'⟩, fun x H' y => ?_⟩
    obtain ⟨T, z, e1, e2, e3, e4⟩ := y
    subst e1 e3
    exact hs i z T σ H (e4 xs q) p e2
  · have e : i = xs.length := by omega
    subst e
    exact .inl ⟨⟨xs, q, Nat.le_refl _⟩, hd σ H p⟩
end
section
variable {K : PySem.W.Frag} {a : Addr} {xs : List V} {g : TG} {tt : TT} {te : TE} {vs : List Nat} {σ : St} {H1 : Hp} {D : Addr} {Qd : Hp → Prop}
/-- the comprehension over enumerate(t) -/
theorem lc_enumT (Pv : Nat → Hp → Prop) (h0 : Pv 0 (upd H1 D (.lst []))) (hl : ∀ i H, i ≤ xs.length → Pv i H → SqT K H a xs)
    (hs : ∀ i x T H, xs[i]? = some x → Pv i H → H T = none → g (.ref T) (wipe σ vs) (upd H T (.tup [.int (i : Nat), x])) fun σ2 H2 => wipe σ2 vs = wipe σ vs ∧ tt σ2 H2 fun b H3 =>
      if b = true then te σ2 H3 fun y H4 => ∃ acc, H4 D = some (.lst acc) ∧ acc.length < sizeLine ∧ Pv (i + 1) (upd H4 D (.lst (acc ++ [y]))) else Pv (i + 1) H3) (hd : ∀ H, Pv xs.length H → Qd H) :
    ∃ W : Nat → Nat → Hp → Prop, (∃ m, W 0 m (upd H1 D (.lst []))) ∧ ∀ i m H, W i m H →
      ((IteT K a).stop i H ∧ Qd H) ∨ ((IteT K a).go i H ∧ ∃ Nx : Hp → Prop, (∀ H', Nx H' → ∃ m', m' < m ∧ W (i + 1) m' H') ∧ ∀ x H', (IteT K a).yld i H x H' → g x (wipe σ vs) H' fun σ2 H2 => wipe σ2 vs = wipe σ vs ∧ tt σ2 H2 fun b H3 =>
        if b = true then te σ2 H3 fun y H4 => ∃ acc, H4 D = some (.lst acc) ∧ acc.length < sizeLine ∧ Nx (upd H4 D (.lst (acc ++ [y]))) else Nx H3) := by
  refine ⟨fun i m H => m = xs.length - i ∧ i ≤ xs.length ∧ Pv i H, ⟨xs.length, by simp, Nat.zero_le _, h0⟩, ?_⟩
  rintro i m H ⟨rfl, hi, p⟩
  have q := hl i H hi p
  by_cases hlt : i < xs.length
  · refine .inr ⟨⟨xs, xs[i], q, by simp [hlt]⟩, Pv (i + 1), fun H' p' => ⟨xs.length - (i + 1), by omega, rfl, hlt, p'⟩, fun x H' y => ?_⟩
    obtain ⟨T, z, e1, e2, e3, e4⟩ := y
    subst e1 e3
    exact hs i z T H (e4 xs q) p e2
  · have e : i = xs.length := by omega
    subst e
    exact .inl ⟨⟨xs, q, Nat.le_refl _⟩, hd H p⟩
end
end L2
namespace SX
open PySem PySem.Spec PyProof.Rows L2 KO
section
variable {K : PySem.W.Frag} {H : Hp} {p : Addr} {xs : List V} {r : Int} {Q : VK}
theorem rixL_any (h : SqL K H p xs) (h0 : 0 ≤ r) (h1 : r < xs.length) (q : ∀ v, v ∈ xs → Q v H) : rIxL K (.ref p) (.int r) H Q := by
  obtain ⟨j, rfl⟩ := Int.eq_ofNat_of_zero_le h0
  have hj : j < xs.length := by omega
  exact ⟨p, xs, _, xs[j], rfl, rfl, h, atI_nat (List.getElem?_eq_getElem hj), q _ (List.getElem_mem hj)⟩
theorem rixL_ints {ns : List Int} (h : SqL K H p xs) (e : xs = ns.map V.int) (h0 : 0 ≤ r) (h1 : r < ns.length) (q : ∀ w : Int, w ∈ ns → Q (.int w) H) : rIxL K (.ref p) (.int r) H Q := by
  subst e
  refine rixL_any h h0 (by rw [List.length_map]; exact h1) fun v hv => ?_
  obtain ⟨w, hw, rfl⟩ := List.mem_map.mp hv
  exact q w hw
end
/-- all of them ints -/
def AllI (xs : List V) : Prop := ∀ x ∈ xs, ∃ i : Int, x = .int i
theorem AllI.get : ∀ {xs : List V}, AllI xs → ∃ ns : List Int, xs = ns.map V.int
  | [], _ => ⟨[], rfl⟩
  | x :: xs, h => by
    obtain ⟨i, rfl⟩ := h _ List.mem_cons_self
    obtain ⟨ns, rfl⟩ := AllI.get (xs := xs) fun y hy => h y (List.mem_cons_of_mem _ hy)
    exact ⟨i :: ns, rfl⟩
theorem AllI.of (ns : List Int) : AllI (ns.map V.int) := fun x hx => by
  obtain ⟨i, _, rfl⟩ := List.mem_map.mp hx
  exact ⟨i, rfl⟩
theorem AllI.nil : AllI [] := fun x hx => by cases hx
theorem AllI.one (i : Int) : AllI [.int i] := AllI.of [i]
theorem AllI.app {xs ys : List V} (a : AllI xs) (b : AllI ys) : AllI (xs ++ ys) := fun x hx => (List.mem_append.mp hx).elim (a x) (b x)
theorem AllI.cut {xs : List V} (a : AllI xs) (lo hi : Option Int) : AllI (cutV xs lo hi) := fun x hx => a x (List.mem_of_mem_drop (List.mem_of_mem_take hx))
theorem AllI.set {xs : List V} (a : AllI xs) (j : Nat) (i : Int) : AllI (xs.set j (.int i)) := fun x hx => (List.mem_or_eq_of_mem_set hx).elim (a x) fun e => ⟨i, e⟩
/-- a new list of ints -/
def NewI (H H' : Hp) (p b : Addr) (k : Nat) : Prop := ∃ ns : List Int, H b = none ∧ H' b = some (.lst (ns.map V.int)) ∧ ns.length ≤ k ∧ Run p H H'
theorem NewI.of {H H' : Hp} {p b : Addr} {k : Nat} {xs : List V} (n : H b = none) (h : H' b = some (.lst xs)) (a : AllI xs) (hk : xs.length ≤ k) (r : Run p H H') : NewI H H' p b k := by
  obtain ⟨ns, rfl⟩ := a.get
  exact ⟨ns, n, h, by rw [List.length_map] at hk; exact hk, r⟩
end SX
namespace SX
open PySem PySem.Spec PyProof.Rows L2 KO
theorem Run.free' {p a : Addr} {H H1 : Hp} (n : H1 a = none) (r : Run p H H1) : H a = none := r.free n
theorem cut_le {xs : List V} {k : Nat} {lo hi : Option Int} (h : xs.length ≤ k) : (cutV xs lo hi).length ≤ k := Nat.le_trans (cutV_length _ _ _) h
theorem app_le {xs ys : List V} {k j : Nat} (h : xs.length ≤ k) (h2 : ys.length ≤ j) : (xs ++ ys).length ≤ k + j := by rw [List.length_append]; omega
theorem set_le {xs : List V} {k j : Nat} {x : V} (h : xs.length ≤ k) : (xs.set j x).length ≤ k := by rw [List.length_set]; exact h
theorem map_le {xs : List Int} {k : Nat} (h : xs.length ≤ k) : (xs.map V.int).length ≤ k := by rw [List.length_map]; exact h
theorem add_le {a b k j m : Nat} (h : a ≤ k) (h2 : b ≤ j) (h3 : k + j ≤ m) : a + b ≤ m := by omega
end SX
namespace SX
open PySem PySem.Spec PyProof.Rows L2 KO
theorem one_le {x : V} : [x].length ≤ 1 := Nat.le_refl _
end SX
namespace SX
open PySem PySem.Spec PyProof.Rows L2 KO
theorem Run.upd' {p a : Addr} {H H1 : Hp} {o : HO} (n : H1 a = none) (r : Run p H H1) : Run p H (L2.upd H1 a o) := r.upd n
end SX
namespace SX
open PySem PySem.Spec PyProof.Rows L2 KO
theorem ix_seqK {X : Cx} {K : PySem.W.Frag} (h : X.K = K) : IxR X (rIx K) := by subst h; exact ix_seq
end SX
namespace L2
open PySem PySem.Spec PyProof.Rows
/-- several except clauses, each with a name: class, the name's slot, its suite -/
def wManyA (K : PySem.W.Frag) (Wout : WX) (D : Ends) : List (Value × Nat × (Addr → Value → Option Addr → TS)) → WX
  | [] => Wout
  | (c, i, ts) :: r => fun cls d σ H => ∃ b, PySem.W.exmOne K cls c = some b ∧ (b = true → ∀ a, H a = none → ts a cls d { nx := fun σ' H' => D.nx (σ'.set i none) H', rt := D.rt, bk := fun σ' H' => D.bk (σ'.set i none) H', ct := fun σ' H' => D.ct (σ'.set i none) H' } (σ.set i (some (.ref a))) H) ∧ (b = false → wManyA K Wout D r cls d σ H)
inductive HdsOkA (X : Cx) : List ExceptHandler → List (Value × Nat × (Addr → Value → Option Addr → TS)) → Prop
  | nil : HdsOkA X [] []
  | cons {x n : Str} {c : Value} {i : Nat} {ts : Addr → Value → Option Addr → TS} {b₀ : Stmt} {suite : List Stmt} {np pos' : Pos} {hds : List ExceptHandler} {l : List (Value × Nat × (Addr → Value → Option Addr → TS))} (hi : X.N[i]? = some n) (hln : X.env.kindOf n = some .local) (hc : Names X x c)
      (hsu : ∀ (a : Addr) (oe : Obj) (cls : Value) (d : Option Addr) (pn : List (Addr × Obj)), Zc cls d oe → (∃ vs, oe.data = .fields vs) → PSs (X.suite a ((a, oe) :: pn)) (b₀ :: suite) (ts a cls d)) (r : HdsOkA X hds l) :
      HdsOkA X (.ExceptHandler (some (.Name x np)) (some n) (b₀ :: suite) pos' :: hds) ((c, i, ts) :: l)
section
variable {X : Cx} {body : List Stmt} {h₀ : ExceptHandler} {hds : List ExceptHandler} {l : List (Value × Nat × (Addr → Value → Option Addr → TS))} {pos : Pos} {tb : WX → TS} {Wout : WX}
theorem ps_try_manyA (hs : X.stack = X.env :: X.outer) (hf : X.env.frame = some X.env.locals) (hN : X.N.Nodup) (tk : Takes X Wout)
    (hb : ∀ (W : WX) (pn : List (Addr × Obj)) (xe : Value → Shared → Prop), Takes (X.tr pn xe) W → PassesOwn (model X.prog X.w) X.A X.env xe → PSs (X.tr pn xe) body (tb W))
    (hh : HdsOkA X (h₀ :: hds) l) : PS X (.Try body (h₀ :: hds) [] [] pos) (fun D σ H => tb (wManyA X.K Wout D l) D σ H) := by
  refine ⟨fun pins s σ H D I h => ?_⟩
  have ok := I.ok
  have hfr : X.A.frames = some (X.env :: X.outer) := by rw [ok.frames, hs]
  refine wpAny_Try_except ?_
  refine wpAny_mono ((hb (wManyA X.K Wout D l) (X.pn ++ pins) (fun e s₁ => wpAny (model X.prog X.w) X.A (noteFrame e X.env) (fun _ s₂ => wpAny (model X.prog X.w) X.A (setFlight e none) (fun _ s₃ =>
    wpAny (model X.prog X.w) X.A (handleBy e X.env (h₀ :: hds)) (SP X pins D) X.xe s₃) X.xe s₂) X.xe s₁) (fun u s' xx => ?_) PassesOwn.looking).run [] s σ H D (I.toTry _) h) (fun f s1 hsp => ?_) (fun e s1 he => he)
  · -- the catch
    obtain ⟨a, B, sI, pins', σ', H', cls, d, rfl, J', nb, up, sky, na, os, ag, w⟩ := xx
    have J : Inv X pins σ' H' sI := J'.ofTry ok
    have sky' : Sky B (X.env :: X.outer) a (Zc cls d) X.env.locals s'.heap := by rw [← hs]; exact sky
    show wpAny (model X.prog X.w) X.A (noteFrame (.ref a) X.env) _ _ _
    refine Sky.land Zc.steady hfr hf sky' fun h3 fl3 up3 => ?_
    have J3 : Inv X pins σ' H' { s' with heap := h3 } := J.landed nb fl3.1 (up.trans up3) os ag
    obtain ⟨oe3, vs3, he3, hz3, hd3⟩ := fl3.there
    have notFr : ∀ {h : Heap} {o : Obj} {vs : Array Value}, h.FunFrames B (X.env :: X.outer) → h.get? a = some o → o.data = .fields vs → a ∉ frs (X.env :: X.outer) := fun {h o vs} ff e dd hm => by
      obtain ⟨_, o', e', hnf⟩ := ff.mem hm
      rw [e] at e'; cases e'
      exact hnf _ dd
    have nfr := notFr fl3.2.2.1 he3 hd3
    have nL : a ≠ X.env.locals := fun z => nfr (List.mem_filterMap.mpr ⟨X.env, List.mem_cons_self, by rw [hf, z]⟩)
    have nF : a ∉ X.fs := fun hm => by
      obtain ⟨e, he, q⟩ := List.mem_filterMap.mp hm
      exact nfr (List.mem_filterMap.mpr ⟨e, List.mem_cons_of_mem _ he, q⟩)
    have S3 := J3.suite he3 hd3 na nL nF
    have go : ∀ {hds' : List ExceptHandler} {l' : List (Value × Nat × (Addr → Value → Option Addr → TS))}, HdsOkA X hds' l' → wManyA X.K Wout D l' cls d σ' H' →
        wpAny (model X.prog X.w) X.A (handleBy (.ref a) X.env hds') (SP X pins D) X.xe { s' with heap := h3 } := by
      intro hds' l' hk
      induction hk with
      | nil =>
        intro w
        refine wpAny_handleBy_nil ?_
        obtain ⟨k1, k2, k3, oe, vs, T, oT, ts', he, hz, hd, h1, hr⟩ := id fl3
        unfold PySem.passOn
        refine wpAny_bind (wpAny_field he hd h1 ?_)
        rw [if_neg (show ¬ ((Value.ref T == Value.none) = true) from by simp)]
        have fin : wpAny (model X.prog X.w) X.A (setFlight (.ref a) X.env.frame) (fun _ s4 => wpAny (model X.prog X.w) X.A (throw (.ref a) : Sem Flow) (SP X pins D) X.xe s4) X.xe { s' with heap := h3 } := by
          rw [hf]
          refine HandSPX.setFlight_upZ fl3 fun h4 hh4 up4 => wpAny_throw (tk _ _ ?_)
          exact ⟨a, B, sI, pins, σ', H', cls, d, rfl, J, nb, (up.trans up3).trans up4, .inr (.inr (by rw [hs]; exact hh4)), na, os, ag, w⟩
        first
          | exact wpAny_bind (wpAny_pure (wpAny_bind fin))
          | exact wpAny_bind fin
      | @cons x n c i ts b₀ suite np pos' hds2 l2 hi hln hc hsu r ih =>
        intro w
        obtain ⟨b, hb1, hyes, hno⟩ := w
        have hloc : Loc X.env.scope n := .inl hln
        refine wpAny_handleBy_cons (codeAny_handlers_test ?_) (by intro q; cases q)
        have LT : PySem.W.Looks (model X.prog X.w) h3 (typeOf (.ref a)) cls := fun A Q E s k q => wpAny_typeOf_ref (k _ _ he3) (by rw [hz3.1]; exact q)
        have LM := PySem.W.exm_one (M := model X.prog X.w) (J3.kIn) LT hb1
        have test : ∀ {Q : Value → Shared → Prop} {E : Value → Shared → Prop}, Q c { s' with heap := h3 } → wpAny (model X.prog X.w) (X.A.mark (some (.ref a))) (eval (.Name x np) X.env) Q E { s' with heap := h3 } := fun {Q E} q => by
          obtain ⟨hg, hdbg, hm | ⟨hm, hv, hnn⟩⟩ := hc
          · exact ld_glob (X := X.suite a ((a, oe3) :: (X.pn ++ pins))) S3 hg hm q hdbg
          · exact ld_blt (X := X.suite a ((a, oe3) :: (X.pn ++ pins))) S3 hg hm hv q hnn hdbg
        refine test (LM.here ?_)
        cases b with
        | true =>
          refine codeAny_handlers_suite_as ?_
          refine HandSPX.lands_againZ fl3 fun h4 fl4 up4 => ?_
          have J4 : Inv X pins σ' H' { s' with heap := h4 } := J.landed nb fl4.1 ((up.trans up3).trans up4) os ag
          obtain ⟨oe4, vs4, he4, hz4, hd4⟩ := fl4.there
          have S4 := J4.suite he4 hd4 na nL nF
          refine store_ok (X := X.suite a ((a, oe4) :: (X.pn ++ pins))) (v := .ref a) S4 hN hi hloc rfl (fun s5 S5 => ?_) (.inr hln)
          refine wpAny_mono ((hsu a oe4 cls d (X.pn ++ pins) hz4 ⟨_, hd4⟩).run [] s5 _ H' _ S5 (hyes rfl a na)) (fun f s6 hsp => ?_) (fun _ _ z => False.elim z)
          have end_ : ∀ {σ6 : St} {H6 : Hp} {Q : Shared → Prop}, Inv (X.suite a ((a, oe4) :: (X.pn ++ pins))) [] σ6 H6 s6 → (∀ s7, Inv X pins (σ6.set i none) H6 s7 → Q s7) →
              wpAny (model X.prog X.w) X.A (do bindName X.env n .none; unbindBehindTheSuite X.env n pos') (fun _ s7 => Q s7) X.xe s6 := fun {σ6 H6 Q} S6 hq => gone_ok (S6.unsuite ok) hN hi hln hq
          cases f with
          | next =>
            obtain ⟨σ6, H6, S6, q6⟩ := hsp
            exact end_ S6 fun s7 J7 => ⟨_, _, J7, q6⟩
          | brk =>
            obtain ⟨σ6, H6, S6, q6⟩ := hsp
            exact end_ S6 fun s7 J7 => ⟨_, _, J7, q6⟩
          | cont =>
            obtain ⟨σ6, H6, S6, q6⟩ := hsp
            exact end_ S6 fun s7 J7 => ⟨_, _, J7, q6⟩
          | ret u =>
            obtain ⟨v6, σ6, H6, S6, r6, q6⟩ := hsp
            exact end_ S6 fun s7 J7 => ⟨_, _, _, J7, r6, q6⟩
        | false =>
          show wpAny _ X.A (handleBy (.ref a) X.env hds2) _ _ _
          exact ih (hno rfl)
    exact go hh w
  · cases f with
    | next =>
      obtain ⟨σ', H', J', q⟩ := hsp
      exact wpAny_execs_nil ⟨σ', H', J'.ofTry ok, q⟩
    | brk =>
      obtain ⟨σ', H', J', q⟩ := hsp
      exact ⟨σ', H', J'.ofTry ok, q⟩
    | cont =>
      obtain ⟨σ', H', J', q⟩ := hsp
      exact ⟨σ', H', J'.ofTry ok, q⟩
    | ret u =>
      obtain ⟨v, σ', H', J', r, q⟩ := hsp
      exact ⟨v, σ', H', J'.ofTry ok, r, q⟩
end
end L2
namespace SX
open PySem PySem.Spec PyProof.Rows L2 KO
theorem kit_oty {K : PySem.W.Frag} {C : Addr} {t : String} {b : Bool} (h : PySem.W.kitMeta t = true) (s : PySem.W.subIn K (.ref C) (.type t) = some b) : PySem.W.kitOne K (.ref C) (.type t) = some b := by
  unfold PySem.W.kitOne PySem.W.kitCls
  rw [if_neg (by simp)]
  dsimp only
  rw [if_pos h]
  exact s
theorem kit_ref {K : PySem.W.Frag} {C D : Addr} {b : Bool} (ss : PySem.W.subIn K (.ref C) (.ref C) = some true) (s : PySem.W.subIn K (.ref C) (.ref D) = some b) (hd : PySem.W.hasDictIn K D = true) (ty : PySem.W.typeIn K (.ref D) = some (.type "type")) : PySem.W.kitOne K (.ref C) (.ref D) = some b := by
  obtain ⟨cd, hc, _⟩ := PySem.W.any_some hd
  unfold PySem.W.kitOne PySem.W.kitCls
  by_cases e : C = D
  · subst e
    rw [ss] at s
    cases s
    simp
  · rw [if_neg (by simpa using e)]
    dsimp only
    rw [hc, ty]
    simpa using s
theorem Tq.dq' {p : Addr} {H : Hp} (hp : ∀ xs, H p ≠ some (.tup xs)) : ∀ {n : Nat} {v : V} {d : PyData}, Tq n H v d → Dq p n H v d
  | 0, _, _, h => h.elim
  | n + 1, v, d, h => by
    cases d with
    | none => exact h
    | bool b => exact h
    | int i => exact h
    | str s => exact h
    | dict kv => exact h
    | list ds => exact h.elim
    | tuple ds =>
      obtain ⟨a, xs, e, ha, hl, hz, r⟩ := h
      exact ⟨a, xs, e, fun z => hp xs (by rw [← z]; exact ha), ha, hl, hz, fun i x e h1 h2 => Tq.dq' hp (r i x e h1 h2)⟩
end SX
namespace SX
open PySem PySem.Spec PyProof.Rows L2 KO
theorem op_catTK {X : Cx} {K : PySem.W.Frag} (h : X.K = K) : OpR X (binaryOp .Add) (rCatT K) := by subst h; exact op_catT
end SX
namespace RF
open PySem PySem.Spec PyProof.Rows L2 KO SX

/-! ### what a def is worth: a program over plain data, with choices, errors and demands -/
/-- an error: its class and its fields -/
structure Ex where
  cls : Str
  fs : List (Str × PyData)
structure Mo (α : Type) where
  run : (α → Prop) → (Ex → Prop) → Prop
  mono : ∀ {Q Q' : α → Prop} {E E' : Ex → Prop}, (∀ x, Q x → Q' x) → (∀ x, E x → E' x) → run Q E → run Q' E'
namespace Mo
variable {α β : Type}
protected def pure (a : α) : Mo α := ⟨fun Q _ => Q a, fun h _ q => h _ q⟩
protected def bind (m : Mo α) (k : α → Mo β) : Mo β := ⟨fun Q E => m.run (fun x => (k x).run Q E) E, fun h e q => m.mono (fun x => (k x).mono h e) e q⟩
def throw (e : Ex) : Mo α := ⟨fun _ E => E e, fun _ e q => e _ q⟩
def stuck : Mo α := ⟨fun _ _ => False, fun _ _ q => q⟩
/-- it is there -/
def get (o : Option α) : Mo α := ⟨fun Q _ => ∃ a, o = some a ∧ Q a, fun h _ q => by obtain ⟨a, e, q⟩ := q; exact ⟨a, e, h _ q⟩⟩
/-- it is so -/
def req (p : Prop) : Mo Unit := ⟨fun Q _ => p ∧ Q (), fun h _ q => ⟨q.1, h _ q.2⟩⟩
/-- any that is so -/
def any (p : α → Prop) : Mo α := ⟨fun Q _ => ∀ a, p a → Q a, fun h _ q a x => h _ (q a x)⟩
/-- nothing is raised -/
def calm (m : Mo α) : Mo α := ⟨fun Q _ => m.run Q fun _ => False, fun h _ q => m.mono h (fun _ z => z) q⟩
instance : Monad Mo where
  pure := Mo.pure
  bind := Mo.bind
@[simp] theorem run_pure {a : α} {Q : α → Prop} {E : Ex → Prop} : (pure a : Mo α).run Q E = Q a := rfl
@[simp] theorem run_bind {m : Mo α} {k : α → Mo β} {Q : β → Prop} {E : Ex → Prop} : (m >>= k).run Q E = m.run (fun x => (k x).run Q E) E := rfl
@[simp] theorem run_map {m : Mo α} {f : α → β} {Q : β → Prop} {E : Ex → Prop} : (f <$> m).run Q E = m.run (fun x => Q (f x)) E := rfl
@[simp] theorem run_throw {e : Ex} {Q : α → Prop} {E : Ex → Prop} : (throw e : Mo α).run Q E = E e := rfl
@[simp] theorem run_stuck {Q : α → Prop} {E : Ex → Prop} : (stuck : Mo α).run Q E = False := rfl
@[simp] theorem run_get {o : Option α} {Q : α → Prop} {E : Ex → Prop} : (get o).run Q E = ∃ a, o = some a ∧ Q a := rfl
@[simp] theorem run_req {p : Prop} {Q : Unit → Prop} {E : Ex → Prop} : (req p).run Q E = (p ∧ Q ()) := rfl
@[simp] theorem run_any {p : α → Prop} {Q : α → Prop} {E : Ex → Prop} : (any p).run Q E = ∀ a, p a → Q a := rfl
@[simp] theorem run_calm {m : Mo α} {Q : α → Prop} {E : Ex → Prop} : (calm m).run Q E = m.run Q fun _ => False := rfl
@[simp] theorem run_ite {c : Prop} [Decidable c] {a b : Mo α} {Q : α → Prop} {E : Ex → Prop} : (if c then a else b).run Q E = if c then a.run Q E else b.run Q E := by split <;> rfl
end Mo

/-! ### what is known of a value, of an object -/
structure Pr where
  r : V → Hp → Prop
  mono : ∀ {v : V} {F F' : Hp}, Same F F' → r v F → r v F'
structure Po where
  r : HO → Hp → Prop
  mono : ∀ {o : HO} {F F' : Hp}, Same F F' → r o F → r o F'
abbrev Rel (α : Type) := α → Pr
/-- a slot: nothing known, a value of which all is frozen, an object of one's own -/
inductive En where
  | un
  | fz (p : Pr)
  | ow (l : Bool) (a : Addr) (q : Po)
  | lk (f : Bool) (h : Hp) (p : Pr)
abbrev Ctx := List En
def En.own? : En → Option Addr
  | .ow _ a _ => some a
  | _ => none
def owns (Γ : Ctx) : List Addr := Γ.filterMap En.own?
theorem mem_owns {Γ : Ctx} {i : Nat} {l : Bool} {a : Addr} {q : Po} (h : Γ[i]? = some (.ow l a q)) : a ∈ owns Γ := List.mem_filterMap.mpr ⟨_, List.mem_of_getElem? h, rfl⟩
theorem of_owns {Γ : Ctx} {a : Addr} (h : a ∈ owns Γ) : ∃ (i : Nat) (l : Bool) (q : Po), Γ[i]? = some (.ow l a q) := by
  obtain ⟨e, he, q⟩ := List.mem_filterMap.mp h
  obtain ⟨i, hi⟩ := List.getElem?_of_mem he
  cases e with
  | un => cases q
  | fz p => cases q
  | ow l b p => cases q; exact ⟨i, l, p, hi⟩
  | lk f h p => cases q

/-- from the frozen part F of the heap H to F' of H'; M may have been changed -/
structure Go (M : List Addr) (F H F' H' : Hp) : Prop where
  fs : Same F F'
  le : Same F' H'
  hs : ∀ b o, b ∉ M → H b = some o → H' b = some o
  fr : ∀ b o, H b = some o → F b = none → F' b = none
  th : ∀ b o, H b = some o → ∃ o', H' b = some o'
section
variable {M M' : List Addr} {F F' F1 F2 H H' H1 H2 : Hp}
theorem Go.refl (h : Same F H) : Go M F H F H := ⟨Same.refl _, h, fun _ _ _ e => e, fun _ _ _ e => e, fun _ o e => ⟨o, e⟩⟩
theorem Go.trans (a : Go M F H F1 H1) (b : Go M' F1 H1 F2 H2) (s : ∀ x ∈ M', x ∈ M ∨ H x = none) : Go M F H F2 H2 where
  fs := a.fs.trans b.fs
  le := b.le
  hs := fun x o n e => by
    refine b.hs x o (fun m => ?_) (a.hs x o n e)
    rcases s x m with h | h
    · exact n h
    · rw [h] at e; cases e
  fr := fun x o e f => by
    obtain ⟨o', e'⟩ := a.th x o e
    exact b.fr x o' e' (a.fr x o e f)
  th := fun x o e => by
    obtain ⟨o', e'⟩ := a.th x o e
    exact b.th x o' e'
theorem Go.mono (a : Go M F H F1 H1) (s : ∀ x ∈ M, x ∈ M' ∨ H x = none) : Go M' F H F1 H1 where
  fs := a.fs
  le := a.le
  hs := fun x o n e => by
    refine a.hs x o (fun m => ?_) e
    rcases s x m with h | h
    · exact n h
    · rw [h] at e; cases e
  fr := a.fr
  th := a.th
/-- a new thing, frozen at once -/
theorem Go.new {p : Addr} {o : HO} (s : Same F H) (h : H p = none) : Go M F H (upd F p o) (upd H p o) where
  fs := fun b x e => upd_get e (s.free h)
  le := fun b x e => by
    by_cases hb : b = p
    · subst hb; rw [upd_same] at e ⊢; exact e
    · rw [upd_ne hb] at e ⊢; exact s _ _ e
  hs := fun b x _ e => upd_get e h
  fr := fun b x e f => by rw [upd_ne (ne_of_none e h)]; exact f
  th := fun b x e => ⟨x, upd_get e h⟩
/-- a new thing of one's own -/
theorem Go.newO {p : Addr} {o : HO} (s : Same F H) (h : H p = none) : Go M F H F (upd H p o) where
  fs := Same.refl _
  le := fun b x e => upd_get (s _ _ e) h
  hs := fun b x _ e => upd_get e h
  fr := fun b x e f => f
  th := fun b x e => ⟨x, upd_get e h⟩
/-- a thing of one's own is changed -/
theorem Go.put {p : Addr} {o u : HO} (s : Same F H) (h : F p = none) (hp : H p = some u) : Go [p] F H F (upd H p o) where
  fs := Same.refl _
  le := fun b x e => by rw [upd_ne (ne_of_none e h)]; exact s _ _ e
  hs := fun b x n e => by rw [upd_ne (by simpa using n)]; exact e
  fr := fun b x e f => f
  th := fun b x e => by
    by_cases hb : b = p
    · subst hb; exact ⟨o, upd_same⟩
    · exact ⟨x, by rw [upd_ne hb]; exact e⟩
/-- a thing made since is frozen -/
theorem Go.freeze {p : Addr} {o : HO} (a : Go M F H F1 H1) (s : Same F H) (hp : H1 p = some o) (h : H p = none) : Go M F H (upd F1 p o) H1 where
  fs := fun b x e => by
    rw [upd_ne (ne_of_none (s _ _ e) h)]
    exact a.fs b x e
  le := fun b x e => by
    by_cases hb : b = p
    · subst hb; rw [upd_same] at e; rw [hp]; exact e
    · rw [upd_ne hb] at e; exact a.le _ _ e
  hs := a.hs
  fr := fun b x e f => by rw [upd_ne (ne_of_none e h)]; exact a.fr b x e f
  th := a.th
theorem same_put {p : Addr} {o : HO} (s : Same F H) (h : F p = none) : Same F (upd H p o) := fun b x e => by rw [upd_ne (ne_of_none e h)]; exact s _ _ e
end

/-- the frozen part and the heap at the def's entry; what of its own it was handed -/
structure Gf where
  F0 : Hp
  H0 : Hp
  M : List Addr
def EnOk (G : Gf) (F H : Hp) : En → Option (Option V) → Prop
  | .un, _ => True
  | .fz p, s => ∃ v, s = some (some v) ∧ p.r v F
  | .ow l a q, s => s = some (some (.ref a)) ∧ F a = none ∧ (if l = true then G.H0 a = none else a ∈ G.M) ∧ ∃ o, H a = some o ∧ q.r o F
  | .lk f h p, s => (∃ v, s = some (some v) ∧ p.r v F) ∧ (∀ b, h b = none → G.H0 b = none ∧ (f = true → G.F0 b = none)) ∧ ∀ b, H b = none → h b = none
/-- nothing that was there is gone -/
theorem none_th {H H' : Hp} (th : ∀ b o, H b = some o → ∃ o', H' b = some o') {b : Addr} (h : H' b = none) : H b = none := by
  cases e : H b with
  | none => rfl
  | some o => obtain ⟨o', e'⟩ := th _ _ e; rw [h] at e'; cases e'
structure Ok (G : Gf) (Γ : Ctx) (σ : L2.St) (F H : Hp) : Prop where
  go : Go G.M G.F0 G.H0 F H
  en : ∀ (i : Nat) (e : En), Γ[i]? = some e → EnOk G F H e σ[i]?
  ap : ∀ (i j : Nat) (l m : Bool) (a : Addr) (p q : Po), Γ[i]? = some (.ow l a p) → Γ[j]? = some (.ow m a q) → i = j
  ln : σ.length = Γ.length
section
variable {G : Gf} {Γ Γ' : Ctx} {σ : L2.St} {F H F' H' : Hp}
theorem Ok.le (o : Ok G Γ σ F H) : Same F H := o.go.le
theorem own_of {l : Bool} {a : Addr} (h : if l = true then G.H0 a = none else a ∈ G.M) : a ∈ G.M ∨ G.H0 a = none := by
  cases l with
  | true => exact .inr h
  | false => exact .inl h
theorem Ok.own (o : Ok G Γ σ F H) {a : Addr} (h : a ∈ owns Γ) : a ∈ G.M ∨ G.H0 a = none := by
  obtain ⟨i, l, q, e⟩ := of_owns h
  exact own_of (o.en i _ e).2.2.1
theorem Ok.ownF (o : Ok G Γ σ F H) {a : Addr} (h : a ∈ owns Γ) : F a = none := by
  obtain ⟨i, l, q, e⟩ := of_owns h
  exact (o.en i _ e).2.1
theorem Ok.ownH (o : Ok G Γ σ F H) {a : Addr} (h : a ∈ owns Γ) : ∃ u, H a = some u := by
  obtain ⟨i, l, q, e⟩ := of_owns h
  obtain ⟨u, hu, _⟩ := (o.en i _ e).2.2.2
  exact ⟨u, hu⟩
/-- the heap moves on, the own things as they were -/
theorem Ok.move {M : List Addr} (o : Ok G Γ σ F H) (g : Go M F H F' H') (hM : ∀ x ∈ M, H x = none ∨ (x ∈ G.M ∨ G.H0 x = none) ∧ x ∉ owns Γ) : Ok G Γ σ F' H' where
  go := o.go.trans g fun x m => by
    rcases hM x m with h | h
    · right
      cases e : G.H0 x with
      | none => rfl
      | some y =>
        obtain ⟨o', e'⟩ := o.go.th _ _ e
        rw [h] at e'; cases e'
    · exact h.1
  en := fun i e he => by
    have q := o.en i e he
    cases e with
    | un => trivial
    | fz p =>
      obtain ⟨v, h1, h2⟩ := q
      exact ⟨v, h1, p.mono g.fs h2⟩
    | ow l a p =>
      obtain ⟨h1, h2, h3, u, h4, h5⟩ := q
      refine ⟨h1, g.fr _ _ h4 h2, h3, u, g.hs _ _ (fun m => ?_) h4, p.mono g.fs h5⟩
      rcases hM a m with h | h
      · rw [h] at h4; cases h4
      · exact h.2 (mem_owns he)
    | lk f h p =>
      obtain ⟨⟨v, h1, h2⟩, h3, h4⟩ := q
      exact ⟨⟨v, h1, p.mono g.fs h2⟩, h3, fun b e => h4 b (none_th g.th e)⟩
  ap := o.ap
  ln := o.ln
/-- less is known -/
def Le : Ctx → Ctx → Prop
  | [], [] => True
  | e :: l, e' :: l' => (e = .un ∨ e = e') ∧ Le l l'
  | _, _ => False
theorem Le.len : ∀ {Γ Γ' : Ctx}, Le Γ Γ' → Γ.length = Γ'.length
  | [], [], _ => rfl
  | _ :: _, _ :: _, h => by simp [Le.len h.2]
  | [], _ :: _, h => h.elim
  | _ :: _, [], h => h.elim
theorem Le.get : ∀ {Γ Γ' : Ctx} {i : Nat} {e : En}, Le Γ Γ' → Γ[i]? = some e → e = .un ∨ Γ'[i]? = some e
  | [], [], _, _, _, h => by simp at h
  | x :: l, y :: l', 0, e, h, q => by
    simp at q
    subst q
    rcases h.1 with h | h
    · exact .inl h
    · exact .inr (by simp [h])
  | x :: l, y :: l', i + 1, e, h, q => by
    have := Le.get (i := i) (e := e) h.2 (by simpa using q)
    simpa using this
  | [], _ :: _, _, _, h, _ => h.elim
  | _ :: _, [], _, _, h, _ => h.elim
theorem Le.refl : ∀ Γ : Ctx, Le Γ Γ
  | [] => trivial
  | _ :: l => ⟨.inr rfl, Le.refl l⟩
theorem Le.trans : ∀ {A B C : Ctx}, Le A B → Le B C → Le A C
  | [], [], [], _, _ => trivial
  | a :: A, b :: B, c :: C, h, k => ⟨by
      rcases h.1 with h1 | h1
      · exact .inl h1
      · rcases k.1 with k1 | k1
        · exact .inl (h1.trans k1)
        · exact .inr (h1.trans k1), Le.trans h.2 k.2⟩
  | [], _ :: _, _, h, _ => h.elim
  | _ :: _, [], _, h, _ => h.elim
  | [], [], _ :: _, _, k => k.elim
  | _ :: _, _ :: _, [], _, k => k.elim
theorem Le.set : ∀ {Γ Γ' : Ctx} {i : Nat} {e : En}, Le Γ Γ' → Γ[i]? = some .un → Le Γ (Γ'.set i e)
  | [], [], _, _, _, h => by simp at h
  | x :: l, y :: l', 0, e, h, q => by
    simp at q
    exact ⟨.inl q, h.2⟩
  | x :: l, y :: l', i + 1, e, h, q => ⟨h.1, Le.set (i := i) h.2 (by simpa using q)⟩
  | [], _ :: _, _, _, h, _ => h.elim
  | _ :: _, [], _, _, h, _ => h.elim
theorem Ok.weak (o : Ok G Γ σ F H) (l : Le Γ' Γ) : Ok G Γ' σ F H where
  go := o.go
  en := fun i e he => by
    rcases l.get he with h | h
    · subst h; trivial
    · exact o.en i e h
  ap := fun i j l1 l2 a p q h1 h2 => by
    rcases l.get h1 with h | h1
    · cases h
    · rcases l.get h2 with h | h2
      · cases h
      · exact o.ap i j _ _ a p q h1 h2
  ln := o.ln.trans l.len.symm
theorem owns_le {a : Addr} (l : Le Γ' Γ) (h : a ∈ owns Γ') : a ∈ owns Γ := by
  obtain ⟨i, l2, q, e⟩ := of_owns h
  rcases l.get e with h | h
  · cases h
  · exact mem_owns h
/-- a value is put into a slot -/
theorem Ok.set (o : Ok G Γ σ F H) {i : Nat} {v : V} {p : Pr} (h : p.r v F) : Ok G (Γ.set i (.fz p)) (σ.set i (some v)) F H where
  go := o.go
  en := fun j e he => by
    by_cases hij : i = j
    · subst hij
      have hl : i < Γ.length := by
        have := (List.getElem?_eq_some_iff.mp he).1
        simpa using this
      rw [List.getElem?_set_self hl] at he
      cases he
      exact ⟨v, List.getElem?_set_self (by rw [o.ln]; exact hl), h⟩
    · rw [List.getElem?_set_ne hij] at he ⊢
      exact o.en j e he
  ap := fun j k l1 l2 a p q h1 h2 => by
    have key : ∀ {j : Nat} {l : Bool} {p : Po}, (Γ.set i (.fz ‹Pr›))[j]? = some (.ow l a p) → Γ[j]? = some (.ow l a p) := fun {j l p} e => by
      by_cases hij : i = j
      · subst hij
        have hl : i < Γ.length := by
          have := (List.getElem?_eq_some_iff.mp e).1
          simpa using this
        rw [List.getElem?_set_self hl] at e
        cases e
      · rw [List.getElem?_set_ne hij] at e
        exact e
    exact o.ap j k _ _ a p q (key h1) (key h2)
  ln := by simp [o.ln]
/-- a slot of which nothing is known -/
theorem Ok.forget (o : Ok G Γ σ F H) (i : Nat) {v : Option V} : Ok G (Γ.set i .un) (σ.set i v) F H where
  go := o.go
  en := fun j e he => by
    by_cases hij : i = j
    · subst hij
      have hl : i < Γ.length := by
        have := (List.getElem?_eq_some_iff.mp he).1
        simpa using this
      rw [List.getElem?_set_self hl] at he
      cases he
      trivial
    · rw [List.getElem?_set_ne hij] at he ⊢
      exact o.en j e he
  ap := fun j k l1 l2 a p q h1 h2 => by
    have key : ∀ {j : Nat} {l : Bool} {p : Po}, (Γ.set i .un)[j]? = some (.ow l a p) → Γ[j]? = some (.ow l a p) := fun {j l p} e => by
      by_cases hij : i = j
      · subst hij
        have hl : i < Γ.length := by
          have := (List.getElem?_eq_some_iff.mp e).1
          simpa using this
        rw [List.getElem?_set_self hl] at e
        cases e
      · rw [List.getElem?_set_ne hij] at e
        exact e
    exact o.ap j k _ _ a p q (key h1) (key h2)
  ln := by simp [o.ln]
/-- a new own thing is put into a slot -/
theorem Ok.setO (o : Ok G Γ σ F H) {i : Nat} {a : Addr} {u : HO} {q : Po} (h0 : G.H0 a = none) (hF : F a = none) (hn : a ∉ owns Γ) (hH : H a = some u) (h : q.r u F) : Ok G (Γ.set i (.ow true a q)) (σ.set i (some (.ref a))) F H where
  go := o.go
  en := fun j e he => by
    by_cases hij : i = j
    · subst hij
      have hl : i < Γ.length := by
        have := (List.getElem?_eq_some_iff.mp he).1
        simpa using this
      rw [List.getElem?_set_self hl] at he
      cases he
      exact ⟨List.getElem?_set_self (by rw [o.ln]; exact hl), hF, h0, u, hH, h⟩
    · rw [List.getElem?_set_ne hij] at he ⊢
      exact o.en j e he
  ap := fun j k l1 l2 b p r h1 h2 => by
    have key : ∀ {j : Nat} {l : Bool} {p : Po}, (Γ.set i (.ow true a q))[j]? = some (.ow l b p) → (j = i ∧ b = a) ∨ (j ≠ i ∧ Γ[j]? = some (.ow l b p)) := fun {j l p} e => by
      by_cases hij : i = j
      · subst hij
        have hl : i < Γ.length := by
          have := (List.getElem?_eq_some_iff.mp e).1
          simpa using this
        rw [List.getElem?_set_self hl] at e
        cases e
        exact .inl ⟨rfl, rfl⟩
      · rw [List.getElem?_set_ne hij] at e
        exact .inr ⟨Ne.symm hij, e⟩
    rcases key h1 with ⟨e1, e2⟩ | ⟨e1, e2⟩
    · rcases key h2 with ⟨f1, f2⟩ | ⟨f1, f2⟩
      · rw [e1, f1]
      · exact absurd (mem_owns f2) (by rw [e2]; exact hn)
    · rcases key h2 with ⟨f1, f2⟩ | ⟨f1, f2⟩
      · exact absurd (mem_owns e2) (by rw [f2]; exact hn)
      · exact o.ap j k _ _ b p r e2 f2
  ln := by simp [o.ln]
/-- the own thing of slot i was changed -/
theorem Ok.put (o : Ok G Γ σ F H) {i : Nat} {l : Bool} {a : Addr} {u : HO} {p q : Po} (hi : Γ[i]? = some (.ow l a p)) (h : q.r u F) : Ok G (Γ.set i (.ow l a q)) σ F (upd H a u) where
  go := by
    obtain ⟨_, h2, h3, w, h4, _⟩ := o.en i _ hi
    exact o.go.trans (Go.put o.le h2 h4) fun x m => by
      rw [List.mem_singleton.mp m]
      exact own_of h3
  en := fun j e he => by
    obtain ⟨k1, k2, k3, w, k4, _⟩ := o.en i _ hi
    by_cases hij : i = j
    · subst hij
      have hl : i < Γ.length := by
        have := (List.getElem?_eq_some_iff.mp he).1
        simpa using this
      rw [List.getElem?_set_self hl] at he
      cases he
      exact ⟨k1, k2, k3, u, upd_same, h⟩
    · rw [List.getElem?_set_ne hij] at he
      have z := o.en j e he
      cases e with
      | un => trivial
      | fz r => exact z
      | ow l b r =>
        obtain ⟨z1, z2, z3, y, z4, z5⟩ := z
        refine ⟨z1, z2, z3, y, ?_, z5⟩
        rw [upd_ne]
        · exact z4
        · rintro rfl
          exact hij (o.ap i j _ _ _ _ _ hi he)
      | lk f h r =>
        refine ⟨z.1, z.2.1, fun b e => z.2.2 b ?_⟩
        by_cases hb : b = a
        · subst hb; rw [upd_same] at e; cases e
        · rw [upd_ne hb] at e; exact e
  ap := fun j k l1 l2 b r s h1 h2 => by
    have key : ∀ {j : Nat} {m : Bool} {r : Po}, (Γ.set i (.ow l a q))[j]? = some (.ow m b r) → ∃ m' r', Γ[j]? = some (.ow m' b r') := fun {j m r} e => by
      by_cases hij : i = j
      · subst hij
        have hl : i < Γ.length := by
          have := (List.getElem?_eq_some_iff.mp e).1
          simpa using this
        rw [List.getElem?_set_self hl] at e
        cases e
        exact ⟨_, p, hi⟩
      · rw [List.getElem?_set_ne hij] at e
        exact ⟨_, r, e⟩
    obtain ⟨_, r1, e1⟩ := key h1
    obtain ⟨_, r2, e2⟩ := key h2
    exact o.ap j k _ _ b r1 r2 e1 e2
  ln := by simp [o.ln]
/-- the own thing of slot i is frozen: its slot shows it -/
theorem Ok.frz (o : Ok G Γ σ F H) {i : Nat} {a : Addr} {q : Po} (hi : Γ[i]? = some (.ow true a q)) : ∃ u, H a = some u ∧ q.r u F ∧ Ok G (Γ.set i .un) σ (upd F a u) H := by
  obtain ⟨k1, k2, k3, w, k4, k5⟩ := o.en i _ hi
  have h0 : G.H0 a = none := k3
  have s : Same F (upd F a w) := same_upd k2
  refine ⟨w, k4, k5, ⟨?_, fun j e he => ?_, fun j k l1 l2 b p r h1 h2 => ?_, by simp [o.ln]⟩⟩
  · by_cases hs : Same G.F0 G.H0
    · exact o.go.freeze hs k4 h0
    · refine ⟨fun b x e => s _ _ (o.go.fs _ _ e), fun b x e => ?_, o.go.hs, fun b x e f => ?_, o.go.th⟩
      · by_cases hb : b = a
        · subst hb; rw [upd_same] at e; rw [k4]; exact e
        · rw [upd_ne hb] at e; exact o.go.le _ _ e
      · rw [upd_ne (ne_of_none e h0)]; exact o.go.fr _ _ e f
  · by_cases hij : i = j
    · subst hij
      have hl : i < Γ.length := by
        have := (List.getElem?_eq_some_iff.mp he).1
        simpa using this
      rw [List.getElem?_set_self hl] at he
      cases he
      trivial
    · rw [List.getElem?_set_ne hij] at he
      have z := o.en j e he
      cases e with
      | un => trivial
      | fz r =>
        obtain ⟨v, e1, e2⟩ := z
        exact ⟨v, e1, r.mono s e2⟩
      | ow l b r =>
        obtain ⟨z1, z2, z3, y, z4, z5⟩ := z
        refine ⟨z1, ?_, z3, y, z4, r.mono s z5⟩
        rw [upd_ne]
        · exact z2
        · rintro rfl
          exact hij (o.ap i j _ _ _ _ _ hi he)
      | lk f h r =>
        obtain ⟨⟨v, e1, e2⟩, z⟩ := z
        exact ⟨⟨v, e1, r.mono s e2⟩, z⟩
  · have key : ∀ {j : Nat} {l : Bool} {p : Po}, (Γ.set i .un)[j]? = some (.ow l b p) → Γ[j]? = some (.ow l b p) := fun {j l p} e => by
      by_cases hij : i = j
      · subst hij
        have hl : i < Γ.length := by
          have := (List.getElem?_eq_some_iff.mp e).1
          simpa using this
        rw [List.getElem?_set_self hl] at e
        cases e
      · rw [List.getElem?_set_ne hij] at e
        exact e
    exact o.ap j k _ _ b p r (key h1) (key h2)
end

/-! ### data of any form -/
theorem SqT.ofR {K : PySem.W.Frag} {H : Hp} {a : Addr} {xs : List V} (h : Rd H a (.tup xs)) : SqT K H a xs := .inl h
theorem Rd.mono {H H' : Hp} {a : Addr} {u : HO} (h : Rd H a u) (s : Same H H') : Rd H' a u := by
  rcases h with h | ⟨o, h⟩
  · exact .inl (s _ _ h)
  · exact .inr ⟨o, s _ _ h⟩
def Dt : Nat → Hp → V → PyData → Prop
  | 0, _, _, _ => False
  | n + 1, H, v, d => match d with
    | .none => v = .non
    | .bool b => v = .bl b
    | .int i => v = .int i
    | .str s => v = .str s
    | .list ds => ∃ (a : Addr) (xs : List V), v = .ref a ∧ H a = some (.lst xs) ∧ xs.length = ds.length ∧ ds.length ≤ 1000 ∧ ∀ (i : Nat) (x : V) (e : PyData), xs[i]? = some x → ds[i]? = some e → Dt n H x e
    | .tuple ds => ∃ (a : Addr) (xs : List V), v = .ref a ∧ Rd H a (.tup xs) ∧ xs.length = ds.length ∧ ds.length ≤ 1000 ∧ ∀ (i : Nat) (x : V) (e : PyData), xs[i]? = some x → ds[i]? = some e → Dt n H x e
    | .dict _ => False
section
variable {H H' : Hp}
theorem Dt.mono (s : Same H H') : ∀ {n : Nat} {v : V} {d : PyData}, Dt n H v d → Dt n H' v d
  | 0, _, _, h => h.elim
  | n + 1, v, d, h => by
    cases d with
    | none => exact h
    | bool b => exact h
    | int i => exact h
    | str s => exact h
    | dict kv => exact h
    | list ds =>
      obtain ⟨a, xs, e, ha, hl, hz, r⟩ := h
      exact ⟨a, xs, e, s _ _ ha, hl, hz, fun i x e h1 h2 => Dt.mono s (r i x e h1 h2)⟩
    | tuple ds =>
      obtain ⟨a, xs, e, ha, hl, hz, r⟩ := h
      exact ⟨a, xs, e, Rd.mono ha s, hl, hz, fun i x e h1 h2 => Dt.mono s (r i x e h1 h2)⟩
theorem Dt.up : ∀ {n : Nat} {v : V} {d : PyData}, Dt n H v d → Dt (n + 1) H v d
  | 0, _, _, h => h.elim
  | n + 1, v, d, h => by
    cases d with
    | none => exact h
    | bool b => exact h
    | int i => exact h
    | str s => exact h
    | dict kv => exact h
    | list ds =>
      obtain ⟨a, xs, e, ha, hl, hz, r⟩ := h
      exact ⟨a, xs, e, ha, hl, hz, fun i x e h1 h2 => Dt.up (r i x e h1 h2)⟩
    | tuple ds =>
      obtain ⟨a, xs, e, ha, hl, hz, r⟩ := h
      exact ⟨a, xs, e, ha, hl, hz, fun i x e h1 h2 => Dt.up (r i x e h1 h2)⟩
theorem Dt.le {n m : Nat} (hm : n ≤ m) {v : V} {d : PyData} (h : Dt n H v d) : Dt m H v d := by
  obtain ⟨k, rfl⟩ := Nat.exists_eq_add_of_le hm
  clear hm
  induction k with
  | zero => exact h
  | succ k ih => exact ih.up
theorem DpAll.ofI {K : PySem.W.Frag} : ∀ {xs : List V} {ds : List PyData}, xs.length = ds.length → (∀ (i : Nat) (x : V) (e : PyData), xs[i]? = some x → ds[i]? = some e → Dp K H x e) → DpAll K H xs ds
  | [], [], _, _ => .nil
  | [], _ :: _, h, _ => by simp at h
  | _ :: _, [], h, _ => by simp at h
  | x :: xs, d :: ds, h, r => .cons (r 0 x d rfl rfl) (DpAll.ofI (by simpa using h) fun i y e h1 h2 => r (i + 1) y e (by simpa using h1) (by simpa using h2))
theorem Dt.dp {K : PySem.W.Frag} : ∀ {n : Nat} {v : V} {d : PyData}, Dt n H v d → Dp K H v d
  | 0, _, _, h => h.elim
  | n + 1, v, d, h => by
    cases d with
    | none => obtain rfl : v = _ := h; exact .non
    | bool b => obtain rfl : v = _ := h; exact .bl b
    | int i => obtain rfl : v = _ := h; exact .int i
    | str s => obtain rfl : v = _ := h; exact .str s
    | dict kv => exact h.elim
    | list ds =>
      obtain ⟨a, xs, rfl, ha, hl, hz, r⟩ := h
      exact .lst (SqL.of ha) (DpAll.ofI hl fun i x e h1 h2 => (r i x e h1 h2).dp)
    | tuple ds =>
      obtain ⟨a, xs, rfl, ha, hl, hz, r⟩ := h
      exact .tup (.inl ha) (DpAll.ofI hl fun i x e h1 h2 => (r i x e h1 h2).dp)
end
/-- any datum, at most eight deep -/
def rD (d : PyData) : Pr := ⟨fun v F => Dt 8 F v d, fun s h => h.mono s⟩
end RF
namespace RF
open PySem PySem.Spec PyProof.Rows L2 KO SX

/-! ### the weakest readings -/
def tE (X : Cx) (e : Expr) : TE := fun σ H Q => ∀ (pins : List (Addr × Obj)) (s : Shared), Inv X pins σ H s → wpAny (model X.prog X.w) X.A (eval e X.env) (EP X pins σ Q) X.xe s
def tT (X : Cx) (e : Expr) : TT := fun σ H Q => ∀ (pins : List (Addr × Obj)) (s : Shared), Inv X pins σ H s → wpAny (model X.prog X.w) X.A (isTrue e X.env (eval e X.env)) (TP X pins σ Q) X.xe s
def tW (X : Cx) (e : Expr) : TT := fun σ H Q => ∀ (whole : Sem Value) (pins : List (Addr × Obj)) (s : Shared), Inv X pins σ H s → wpAny (model X.prog X.w) X.A (isTrue e X.env whole) (TP X pins σ Q) X.xe s
def tAs (X : Cx) (es : List Expr) : TA := fun σ H Q => ∀ (pos : Pos) (pins : List (Addr × Obj)) (s : Shared), Inv X pins σ H s → wpAny (model X.prog X.w) X.A (spliced (backTo pos (starEach es X.env))) (AP X pins σ Q) X.xe s
def tS (X : Cx) (st : Stmt) : TS := fun D σ H => ∀ (pins : List (Addr × Obj)) (s : Shared), Inv X pins σ H s → wpAny (model X.prog X.w) X.A (exec st X.env) (SP X pins D) X.xe s
def tSs (X : Cx) (l : List Stmt) : TS := fun D σ H => ∀ (pins : List (Addr × Obj)) (s : Shared), Inv X pins σ H s → wpAny (model X.prog X.w) X.A (execs l X.env) (SP X pins D) X.xe s
section
variable {X : Cx} {e : Expr} {es : List Expr} {st : Stmt} {l : List Stmt}
theorem peE : PE X e (tE X e) := ⟨fun pins s σ H Q I h => h pins s I⟩
theorem ptT : L2.PT X e (tT X e) := ⟨fun pins s σ H Q I h => h pins s I⟩
theorem pwW : PW X e (tW X e) := ⟨fun wh pins s σ H Q I h => h wh pins s I⟩
theorem paA : PA X es (tAs X es) := ⟨fun pos pins s σ H Q I h => h pos pins s I⟩
theorem psS : PS X st (tS X st) := ⟨fun pins s σ H D I h => h pins s I⟩
theorem pssS : PSs X l (tSs X l) := ⟨fun pins s σ H D I h => h pins s I⟩
end

/-! ### judgements -/
def del (F : Hp) (a : Addr) : Hp := fun b => if b = a then none else F b
theorem del_ne {F : Hp} {a b : Addr} (h : b ≠ a) : del F a b = F b := if_neg h
theorem del_same {F : Hp} {a : Addr} : del F a a = none := if_pos rfl
theorem del_ok {F : Hp} {a b : Addr} {x : HO} (h : F b = some x) (n : b ≠ a) : del F a b = some x := (del_ne n).trans h
/-- how a value comes: frozen, or as a new thing of one's own -/
inductive RK (γ : Type) where
  | fz (ρ : γ → Pr)
  | ow (ρ : γ → Po)
  | nw (ρ : γ → Pr)
  | on (ps : γ → List Pr)
/-- of no list that h has -/
def nwp (h : Hp) (p : Pr) : Pr := ⟨fun v F => p.r v F ∧ ∀ a vs, h a ≠ none → F a = some (.lst vs) → p.r v (del F a), fun {v F F'} s q => ⟨p.mono s q.1, fun a vs n e => by
  cases ea : F a with
  | none => exact p.mono (fun b o e2 => del_ok (s _ _ e2) (by rintro rfl; rw [ea] at e2; cases e2)) q.1
  | some o =>
    have := s _ _ ea
    rw [e] at this
    obtain rfl := Option.some.inj this
    refine p.mono (fun b o e2 => ?_) (q.2 a vs n ea)
    unfold del at e2
    split at e2
    · cases e2
    · rename_i hb; exact del_ok (s _ _ e2) hb⟩⟩
def RK.ok {γ : Type} (k : RK γ) (x : γ) (v : V) (H F' H' : Hp) : Prop :=
  match k with
  | .fz ρ => (ρ x).r v F'
  | .ow ρ => ∃ a u, v = .ref a ∧ H a = none ∧ F' a = none ∧ H' a = some u ∧ (ρ x).r u F'
  | .nw ρ => (nwp H (ρ x)).r v F'
  | .on ps => ∃ (a : Addr) (vs : List V), v = .ref a ∧ H a = none ∧ F' a = none ∧ H' a = some (.lst vs) ∧ vs.length = (ps x).length ∧ ∀ (i : Nat) (p : Pr) (w : V), (ps x)[i]? = some p → (vs : List V)[i]? = some w → (nwp H p).r w F'
/-- how an error lies -/
def ErrOk (_K : PySem.W.Frag) (mg : Str → Option Value) (ex : Ex) (cls : Value) (d : Option Addr) (F : Hp) : Prop :=
  ∃ C, mg ex.cls = some (.ref C) ∧ cls = .ref C ∧ ((d = none ∧ ex.fs = []) ∨ ∃ dd fs, d = some dd ∧ F dd = some (.xd fs) ∧ ∀ f y, ex.fs.lookup f = some y → ∃ v, fs.lookup f = some v ∧ Dt 8 F v y)
section
variable {α β γ : Type} (X : Cx) (W : WX) (G : Gf) (Γ : Ctx) (σ : L2.St) (F H : Hp)
def NQ (k : RK γ) (Q : VK) (x : γ) : Prop := ∀ v F' H', Ok G Γ σ F' H' → Go (owns Γ) F H F' H' → k.ok x v H F' H' → Q v H'
def EQ (ex : Ex) : Prop := ∀ cls d F' H', Ok G Γ σ F' H' → Go (owns Γ) F H F' H' → ErrOk X.K X.mg ex cls d F' → W cls d σ H'
end
section
variable {α β γ : Type} (X : Cx) (W : WX) (Γ : Ctx)
/-- an expression's reading is told by m; the value comes as k -/
def RTE (t : TE) (m : Mo γ) (k : RK γ) : Prop := ∀ G σ F H Q, Ok G Γ σ F H → m.run (NQ G Γ σ F H k Q) (EQ X W G Γ σ F H) → t σ H Q
def RE (e : Expr) (m : Mo γ) (k : RK γ) : Prop := RTE X W Γ (tE X e) m k
def RTT (t : TT) (m : Mo Bool) : Prop := ∀ G σ F H Q, Ok G Γ σ F H → m.run (fun b => ∀ F' H', Ok G Γ σ F' H' → Go (owns Γ) F H F' H' → Q b H') (EQ X W G Γ σ F H) → t σ H Q
def ArEn (F H : Hp) : En → V → Prop
  | .un, _ => True
  | .fz p, v => p.r v F
  | .ow _ a q, v => v = .ref a ∧ F a = none ∧ ∃ u, H a = some u ∧ q.r u F
  | .lk _ _ _, _ => False
def ArgOk (F H : Hp) (p : Ctx) (vs : List V) : Prop := vs.length = p.length ∧ (∀ (i : Nat) (e : En) (v : V), p[i]? = some e → vs[i]? = some v → ArEn F H e v) ∧ ∀ (j : Nat) (l : Bool) (a : Addr) (q : Po), p[j]? = some (.ow l a q) → ∃ (i : Nat) (l' : Bool), Γ[i]? = some (En.ow l' a q)
def RTA (t : TA) (m : Mo β) (p : β → Ctx) : Prop := ∀ G σ F H Q, Ok G Γ σ F H → m.run (fun x => ∀ vs F' H', Ok G Γ σ F' H' → Go (owns Γ) F H F' H' → ArgOk Γ F' H' (p x) vs → Q vs H') (EQ X W G Γ σ F H) → t σ H Q
/-- an operation on two values -/
def ROp (r : R2) (p q : Pr) (m : Mo γ) (k : RK γ) : Prop := ∀ G σ F H Q x y, Ok G Γ σ F H → p.r x F → q.r y F → m.run (NQ G Γ σ F H k Q) (EQ X W G Γ σ F H) → r x y H Q
def RUn (r : V → Hp → VK → Prop) (p : Pr) (m : Mo γ) (k : RK γ) : Prop := ∀ G σ F H Q x, Ok G Γ σ F H → p.r x F → m.run (NQ G Γ σ F H k Q) (EQ X W G Γ σ F H) → r x H Q
/-- a built-in call -/
def RCall (r : List V → Hp → VK → Prop) (p : Ctx) (m : Mo γ) (k : RK γ) : Prop := ∀ G σ F H Q vs, Ok G Γ σ F H → ArgOk Γ F H p vs → m.run (NQ G Γ σ F H k Q) (EQ X W G Γ σ F H) → r vs H Q
end
section
variable {α β γ : Type} {X : Cx} {W : WX} {G : Gf} {Γ : Ctx} {σ : L2.St} {F F1 F2 H H1 H2 : Hp} {k : RK γ} {Q : VK} {e a b : Expr} {t ta tb : TE} {m : Mo γ}
theorem RK.ok.back {k : RK γ} {x : γ} {v : V} (h : k.ok x v H1 F2 H2) (g : ∀ b o, H b = some o → ∃ o', H1 b = some o') : k.ok x v H F2 H2 := by
  cases k with
  | fz ρ => exact h
  | ow ρ =>
    obtain ⟨a, u, e, h1, h2⟩ := h
    refine ⟨a, u, e, ?_, h2⟩
    cases q : H a with
    | none => rfl
    | some o => obtain ⟨o', e'⟩ := g _ _ q; rw [h1] at e'; cases e'
  | nw ρ => exact ⟨h.1, fun a vs n e => h.2 a vs (fun z => n (none_th g z)) e⟩
  | on ps =>
    obtain ⟨a, vs, e, h1, h2, h3, h4, h5⟩ := h
    exact ⟨a, vs, e, none_th g h1, h2, h3, h4, fun i p w e1 e2 => ⟨(h5 i p w e1 e2).1, fun a vs n e => (h5 i p w e1 e2).2 a vs (fun z => n (none_th g z)) e⟩⟩
theorem owns_tr : ∀ x ∈ owns Γ, x ∈ owns Γ ∨ H x = none := fun _ h => .inl h
theorem NQ.step {x : γ} (g : Go (owns Γ) F H F1 H1) (q : NQ G Γ σ F H k Q x) : NQ G Γ σ F1 H1 k Q x := fun v F' H' o g' z => q v F' H' o (g.trans g' owns_tr) (z.back g.th)
theorem EQ.step {ex : Ex} (g : Go (owns Γ) F H F1 H1) (q : EQ X W G Γ σ F H ex) : EQ X W G Γ σ F1 H1 ex := fun c d F' H' o g' z => q c d F' H' o (g.trans g' owns_tr) z
theorem NQ.here {ρ : γ → Pr} {x : γ} {v : V} (q : NQ G Γ σ F H (.fz ρ) Q x) (o : Ok G Γ σ F H) (h : (ρ x).r v F) : Q v H := q v F H o (Go.refl o.le) h
/-- a run is carried on from a later heap -/
theorem run_step {m : Mo γ} (g : Go (owns Γ) F H F1 H1) (q : m.run (NQ G Γ σ F H k Q) (EQ X W G Γ σ F H)) : m.run (NQ G Γ σ F1 H1 k Q) (EQ X W G Γ σ F1 H1) := m.mono (fun _ => NQ.step g) (fun _ => EQ.step g) q
theorem run_stepE {m : Mo β} {R : β → Prop} (g : Go (owns Γ) F H F1 H1) (q : m.run R (EQ X W G Γ σ F H)) : m.run R (EQ X W G Γ σ F1 H1) := m.mono (fun _ h => h) (fun _ => EQ.step g) q
theorem re_of (h : PE X e t) (r : RTE X W Γ t m k) : RE X W Γ e m k := fun G σ F H Q o q pins s I => h.run pins s σ H Q I (r G σ F H Q o q)
/-- a new thing is frozen -/
theorem Ok.frzNew {a : Addr} {u : HO} (o0 : Ok G Γ σ F H) (o : Ok G Γ σ F1 H1) (g : Go (owns Γ) F H F1 H1) (h0 : H a = none) (hF : F1 a = none) (hH : H1 a = some u) : Ok G Γ σ (upd F1 a u) H1 ∧ Go (owns Γ) F H (upd F1 a u) H1 := by
  have s : Same F1 (upd F1 a u) := same_upd hF
  have g0 : G.H0 a = none := by
    cases q : G.H0 a with
    | none => rfl
    | some y =>
      obtain ⟨o', e'⟩ := o0.go.th _ _ q
      rw [h0] at e'; cases e'
  refine ⟨⟨⟨fun b x e => s _ _ (o.go.fs _ _ e), fun b x e => ?_, o.go.hs, fun b x e f => ?_, o.go.th⟩, fun i e he => ?_, o.ap, o.ln⟩, g.freeze o0.le hH h0⟩
  · by_cases hb : b = a
    · subst hb; rw [upd_same] at e; rw [hH]; exact e
    · rw [upd_ne hb] at e; exact o.go.le _ _ e
  · rw [upd_ne (ne_of_none e g0)]; exact o.go.fr _ _ e f
  · have z := o.en i e he
    cases e with
    | un => trivial
    | fz r =>
      obtain ⟨v, e1, e2⟩ := z
      exact ⟨v, e1, r.mono s e2⟩
    | ow l b r =>
      obtain ⟨z1, z2, z3, y, z4, z5⟩ := z
      refine ⟨z1, ?_, z3, y, z4, r.mono s z5⟩
      rw [upd_ne]
      · exact z2
      · rintro rfl
        obtain ⟨w, hw⟩ := o0.ownH (mem_owns he)
        rw [h0] at hw; cases hw
    | lk f h r =>
      obtain ⟨⟨v, e1, e2⟩, z⟩ := z
      exact ⟨⟨v, e1, r.mono s e2⟩, z⟩
/-- what an own thing is when it is frozen -/
def frzP (K : PySem.W.Frag) (q : Po) : Pr := ⟨fun v F => ∃ a u, v = .ref a ∧ F a = some u ∧ q.r u F, fun {v F F'} s ⟨a, u, e, h1, h2⟩ => ⟨a, u, e, s _ _ h1, q.mono s h2⟩⟩
theorem rte_frz {ρ : γ → Po} {ρ' : γ → Pr} (h : RTE X W Γ t m (.ow ρ)) (hc : ∀ x a u F, F a = some u → (ρ x).r u F → (ρ' x).r (.ref a) F) : RTE X W Γ t m (.fz ρ') := fun G σ F H Q o q => by
  refine h G σ F H Q o (m.mono (fun x hx v F' H' o' g' z => ?_) (fun _ z => z) q)
  obtain ⟨a, u, rfl, h1, h2, h3, h4⟩ := z
  obtain ⟨o2, g2⟩ := o.frzNew o' g' h1 h2 h3
  exact hx _ _ _ o2 g2 (hc x a u _ upd_same ((ρ x).mono (same_upd h2) h4))
theorem re_frz {ρ : γ → Po} {ρ' : γ → Pr} (h : RE X W Γ e m (.ow ρ)) (hc : ∀ x a u F, F a = some u → (ρ x).r u F → (ρ' x).r (.ref a) F) : RE X W Γ e m (.fz ρ') := rte_frz h hc
/-- another reading of the same value -/
theorem re_imp {m' : Mo β} {k' : RK β} (h : RE X W Γ e m k) (hm : ∀ G σ F H Q, Ok G Γ σ F H → m'.run (NQ G Γ σ F H k' Q) (EQ X W G Γ σ F H) → m.run (NQ G Γ σ F H k Q) (EQ X W G Γ σ F H)) : RE X W Γ e m' k' := fun G σ F H Q o q => h G σ F H Q o (hm G σ F H Q o q)
/-- the value seen as another -/
theorem re_map {ρ : γ → Pr} {ρ' : β → Pr} (f : γ → β) (h : RE X W Γ e m (.fz ρ)) (hc : ∀ x v F, (ρ x).r v F → (ρ' (f x)).r v F) : RE X W Γ e (f <$> m) (.fz ρ') := fun G σ F H Q o q =>
  h G σ F H Q o (m.mono (fun x hx v F' H' o' g' z => hx v F' H' o' g' (hc x v F' z)) (fun _ z => z) q)
theorem re_as {ρ ρ' : γ → Pr} (h : RE X W Γ e m (.fz ρ)) (hc : ∀ x v F, (ρ x).r v F → (ρ' x).r v F) : RE X W Γ e m (.fz ρ') := fun G σ F H Q o q =>
  h G σ F H Q o (m.mono (fun x hx v F' H' o' g' z => hx v F' H' o' g' (hc x v F' z)) (fun _ z => z) q)

/-! ### two values, one value, a list of values -/
section
variable {ma : Mo α} {mb : Mo β} {mr : α → β → Mo γ} {ρa : α → Pr} {ρb : β → Pr} {r r' : R2}
theorem rte_two {ta tb : TE} (ha : RTE X W Γ ta ma (.fz ρa)) (hb : RTE X W Γ tb mb (.fz ρb)) (hr : ∀ x y, ROp X W Γ r (ρa x) (ρb y) (mr x y) k) : RTE X W Γ (tOp r ta tb) (ma >>= fun x => mb >>= fun y => mr x y) k := fun G σ F H Q o q => by
  refine ha G σ F H _ o (ma.mono (fun x hx v F' H' o' g' z => ?_) (fun _ z => z) q)
  refine hb G σ F' H' _ o' (mb.mono (fun y hy u F2 H2 o2 g2 z2 => ?_) (fun _ => EQ.step g') hx)
  have g3 := g'.trans g2 owns_tr
  exact hr x y G σ F2 H2 Q v u o2 ((ρa x).mono g2.fs z) z2 (run_step g3 hy)
theorem rte_one {ta : TE} {mr : α → Mo γ} {r : V → Hp → VK → Prop} (ha : RTE X W Γ ta ma (.fz ρa)) (hr : ∀ x, RUn X W Γ r (ρa x) (mr x) k) : RTE X W Γ (tUn r ta) (ma >>= mr) k := fun G σ F H Q o q => by
  refine ha G σ F H _ o (ma.mono (fun x hx v F' H' o' g' z => ?_) (fun _ z => z) q)
  exact hr x G σ F' H' Q v o' z (run_step g' hx)
theorem re_bin {op : Operator} {pos : Pos} (ho : OpR X (binaryOp op) r) (hr : ∀ x y, ROp X W Γ r (ρa x) (ρb y) (mr x y) k) (ha : RE X W Γ a ma (.fz ρa)) (hb : RE X W Γ b mb (.fz ρb)) : RE X W Γ (.BinOp a op b pos) (ma >>= fun x => mb >>= fun y => mr x y) k :=
  re_of (pe_op ho peE peE) (rte_two ha hb hr)
theorem re_cmp {op : CmpOp} {pos : Pos} (ho : OpR X (compareOp op) r) (hr : ∀ x y, ROp X W Γ r (ρa x) (ρb y) (mr x y) k) (ha : RE X W Γ a ma (.fz ρa)) (hb : RE X W Γ b mb (.fz ρb)) (hm : behindInMarks op b = false) : RE X W Γ (.Compare a [op] [b] pos) (ma >>= fun x => mb >>= fun y => mr x y) k :=
  re_of (pe_cmpR ho peE peE hm) (rte_two ha hb hr)
theorem re_ix {pos : Pos} (hi : IxR X r) (hr : ∀ x y, ROp X W Γ r (ρa x) (ρb y) (mr x y) k) (ha : RE X W Γ a ma (.fz ρa)) (hb : RE X W Γ b mb (.fz ρb)) (hs : PlainIx b) : RE X W Γ (.Subscript a b pos) (ma >>= fun x => mb >>= fun y => mr x y) k :=
  re_of (pe_ix hi peE peE hs) (rte_two ha hb hr)
theorem re_un {op : UnaryOp} {pos : Pos} {mr : α → Mo γ} {r : V → Hp → VK → Prop} (ho : UnR X (unaryOp op) r) (hr : ∀ x, RUn X W Γ r (ρa x) (mr x) k) (ha : RE X W Γ a ma (.fz ρa)) : RE X W Γ (.UnaryOp op a pos) (ma >>= mr) k :=
  re_of (pe_un ho peE) (rte_one ha hr)
end
/-! arguments -/
section
variable {es : List Expr} {ma : Mo α} {mb : Mo β} {ρ : α → Pr} {p : β → Ctx}
def RA (X : Cx) (W : WX) (Γ : Ctx) (es : List Expr) (m : Mo β) (p : β → Ctx) : Prop := RTA X W Γ (tAs X es) m p
theorem ra_of {ta : TA} (h : PA X es ta) (r : RTA X W Γ ta mb p) : RA X W Γ es mb p := fun G σ F H Q o q pos pins s I => h.run pos pins s σ H Q I (r G σ F H Q o q)
theorem ra_nil : RA X W Γ [] (pure ()) (fun _ => []) := ra_of pa_nil fun G σ F H Q o q => q [] F H o (Go.refl o.le) ⟨rfl, fun i e v h => by simp at h, fun i l a q h => by simp at h⟩
/-- a value is handed over -/
theorem ra_cons (ha : RE X W Γ e ma (.fz ρ)) (hb : RA X W Γ es mb p) (hc : starEach (e :: es) X.env = (false, eval e X.env) :: starEach es X.env := by rfl) :
    RA X W Γ (e :: es) (ma >>= fun x => mb >>= fun y => pure (x, y)) (fun z => .fz (ρ z.1) :: p z.2) := by
  refine ra_of (pa_cons (hs := hc) peE paA) fun G σ F H Q o q => ?_
  refine ha G σ F H _ o (ma.mono (fun x hx v F' H' o' g' z => ?_) (fun _ z => z) q)
  refine hb G σ F' H' _ o' (mb.mono (fun y hy vs F2 H2 o2 g2 z2 => ?_) (fun _ => EQ.step g') hx)
  refine hy (v :: vs) F2 H2 o2 (g'.trans g2 owns_tr) ⟨by simp [z2.1], fun i en u h1 h2 => ?_, fun i l a q h => ?_⟩
  · cases i with
    | zero =>
      simp at h1 h2
      subst h1 h2
      exact (ρ x).mono g2.fs z
    | succ i => exact z2.2.1 i en u (by simpa using h1) (by simpa using h2)
  · cases i with
    | zero => simp at h
    | succ i => exact z2.2.2 i l a q (by simpa using h)
/-- a thing of one's own is handed over -/
theorem ra_own {i : Nat} {l : Bool} {a : Addr} {qo : Po} {x : Str} {pos : Pos} (hi : Γ[i]? = some (.ow l a qo)) (hp : PE X (.Name x pos) (tVar i)) (hb : RA X W Γ es mb p) (hc : starEach (.Name x pos :: es) X.env = (false, eval (.Name x pos) X.env) :: starEach es X.env := by rfl) :
    RA X W Γ (.Name x pos :: es) mb (fun z => .ow false a qo :: p z) := by
  refine ra_of (pa_cons (hs := hc) hp paA) fun G σ F H Q o q => ?_
  refine ⟨.ref a, (o.en i _ hi).1, ?_⟩
  refine hb G σ F H _ o (mb.mono (fun y hy vs F2 H2 o2 g2 z2 => ?_) (fun _ z => z) q)
  refine hy (.ref a :: vs) F2 H2 o2 g2 ⟨by simp [z2.1], fun j en u h1 h2 => ?_, fun j l a q h => ?_⟩
  · cases j with
    | zero =>
      simp at h1 h2
      subst h1 h2
      have z := o2.en i _ hi
      exact ⟨rfl, z.2.1, z.2.2.2⟩
    | succ j => exact z2.2.1 j en u (by simpa using h1) (by simpa using h2)
  · cases j with
    | zero =>
      simp at h
      obtain ⟨h1, h2, h3⟩ := h
      subst h1 h2 h3
      exact ⟨i, _, hi⟩
    | succ j => exact z2.2.2 j l a q (by simpa using h)
end

/-! ### plain values -/
def rI (i : Int) : Pr := ⟨fun v _ => v = .int i, fun _ h => h⟩
def rB (b : Bool) : Pr := ⟨fun v _ => v = .bl b, fun _ h => h⟩
def rS (s : Str) : Pr := ⟨fun v _ => v = .str s, fun _ h => h⟩
def rN (_ : Unit) : Pr := ⟨fun v _ => v = .non, fun _ h => h⟩
def rO (ρ : α → Pr) : Option α → Pr
  | none => ⟨fun v _ => v = .non, fun _ h => h⟩
  | some x => ρ x
/-- a slot -/
theorem re_var {ρ : α → Pr} {x : α} (i : Nat) {n : Str} {pos : Pos} (hi : Γ[i]? = some (.fz (ρ x))) (hp : PE X (.Name n pos) (tVar i)) : RE X W Γ (.Name n pos) (pure x) (.fz ρ) :=
  re_of hp fun G σ F H Q o q => by
    obtain ⟨v, h1, h2⟩ := o.en i _ hi
    exact ⟨v, h1, NQ.here (ρ := ρ) q o h2⟩
/-- a written value -/
theorem re_con {ρ : α → Pr} {v : V} (x : α) (hp : PE X e (tC v)) (h : ∀ F, (ρ x).r v F) : RE X W Γ e (pure x) (.fz ρ) := re_of hp fun G σ F H Q o q => NQ.here (ρ := ρ) q o (h F)
theorem re_int {i : Int} {j pos} : RE X W Γ (.Constant (.int i) j pos) (pure i) (.fz rI) := re_con i pe_int fun _ => rfl
theorem re_bl {b : Bool} {j pos} : RE X W Γ (.Constant (.bool b) j pos) (pure b) (.fz rB) := re_con b pe_bl fun _ => rfl
theorem re_str {s : Str} {j pos} : RE X W Γ (.Constant (.str s) j pos) (pure s) (.fz rS) := re_con s pe_str fun _ => rfl
theorem re_non {j pos} : RE X W Γ (.Constant .none j pos) (pure ()) (.fz rN) := re_con () pe_non fun _ => rfl
/-- two ints -/
theorem rop_i0 {g : Int → Int → V} {ρ : γ → Pr} {f : Int → Int → γ} (h : ∀ i j F, (ρ (f i j)).r (g i j) F) (i j : Int) : ROp X W Γ (rI0 g) (rI i) (rI j) (pure (f i j)) (.fz ρ) := by
  intro G σ F H Q x y o hx hy q
  obtain rfl : x = .int i := hx
  obtain rfl : y = .int j := hy
  exact ⟨i, j, rfl, rfl, NQ.here (ρ := ρ) q o (h i j F)⟩
/-- so, if p -/
def Mo.rq (p : Prop) (a : α) : Mo α := ⟨fun Q _ => p ∧ Q a, fun h _ q => ⟨q.1, h _ q.2⟩⟩
@[simp] theorem Mo.run_rq {p : Prop} {a : α} {Q : α → Prop} {E : Ex → Prop} : (Mo.rq p a).run Q E = (p ∧ Q a) := rfl
theorem rop_i {C : Int → Int → Prop} {g : Int → Int → V} {ρ : γ → Pr} {f : Int → Int → γ} (h : ∀ i j F, (ρ (f i j)).r (g i j) F) (i j : Int) : ROp X W Γ (L2.rI C g) (rI i) (rI j) (Mo.rq (C i j) (f i j)) (.fz ρ) := by
  intro G σ F H Q x y o hx hy q
  obtain rfl : x = .int i := hx
  obtain rfl : y = .int j := hy
  exact ⟨i, j, rfl, rfl, q.1, NQ.here (ρ := ρ) q.2 o (h i j F)⟩
section
variable {ma mb : Mo Int} {pos : Pos}
theorem re_add (ha : RE X W Γ a ma (.fz rI)) (hb : RE X W Γ b mb (.fz rI)) : RE X W Γ (.BinOp a .Add b pos) (ma >>= fun i => mb >>= fun j => pure (i + j)) (.fz rI) := re_bin op_add (rop_i0 fun _ _ _ => rfl) ha hb
theorem re_sub (ha : RE X W Γ a ma (.fz rI)) (hb : RE X W Γ b mb (.fz rI)) : RE X W Γ (.BinOp a .Sub b pos) (ma >>= fun i => mb >>= fun j => pure (i - j)) (.fz rI) := re_bin op_sub (rop_i0 fun _ _ _ => rfl) ha hb
theorem re_mul (ha : RE X W Γ a ma (.fz rI)) (hb : RE X W Γ b mb (.fz rI)) : RE X W Γ (.BinOp a .Mult b pos) (ma >>= fun i => mb >>= fun j => Mo.rq (CMul i j) (i * j)) (.fz rI) := re_bin op_mul (rop_i fun _ _ _ => rfl) ha hb
theorem re_mod (ha : RE X W Γ a ma (.fz rI)) (hb : RE X W Γ b mb (.fz rI)) : RE X W Γ (.BinOp a .Mod b pos) (ma >>= fun i => mb >>= fun j => Mo.rq (0 < j) (i % j)) (.fz rI) := re_bin op_mod (rop_i fun _ _ _ => rfl) ha hb
theorem re_div (ha : RE X W Γ a ma (.fz rI)) (hb : RE X W Γ b mb (.fz rI)) : RE X W Γ (.BinOp a .FloorDiv b pos) (ma >>= fun i => mb >>= fun j => Mo.rq (CDiv i j) (i / j)) (.fz rI) := re_bin op_fdiv (rop_i fun _ _ _ => rfl) ha hb
theorem re_divW (ha : RE X W Γ a ma (.fz rI)) (hb : RE X W Γ b mb (.fz rI)) : RE X W Γ (.BinOp a .FloorDiv b pos) (ma >>= fun i => mb >>= fun j => Mo.rq (CDivW i j) (i / j)) (.fz rI) := re_bin op_fdivW (rop_i fun _ _ _ => rfl) ha hb
theorem re_pow (ha : RE X W Γ a ma (.fz rI)) (hb : RE X W Γ b mb (.fz rI)) : RE X W Γ (.BinOp a .Pow b pos) (ma >>= fun i => mb >>= fun j => Mo.rq (CPow i j) (i ^ j.toNat)) (.fz rI) := re_bin op_pow (rop_i fun _ _ _ => rfl) ha hb
theorem re_neg (ha : RE X W Γ a ma (.fz rI)) : RE X W Γ (.UnaryOp .USub a pos) (ma >>= fun i => pure (-i)) (.fz rI) := re_un (r := rU fun i => .int (-i)) un_neg (fun i G σ F H Q x o hx q => ⟨i, hx, NQ.here (ρ := rI) q o rfl⟩) ha
theorem re_lt (ha : RE X W Γ a ma (.fz rI)) (hb : RE X W Γ b mb (.fz rI)) : RE X W Γ (.Compare a [.Lt] [b] pos) (ma >>= fun i => mb >>= fun j => pure (decide (i < j))) (.fz rB) := re_cmp op_lt (rop_i0 fun _ _ _ => rfl) ha hb (nomark _)
theorem re_le (ha : RE X W Γ a ma (.fz rI)) (hb : RE X W Γ b mb (.fz rI)) : RE X W Γ (.Compare a [.LtE] [b] pos) (ma >>= fun i => mb >>= fun j => pure (decide (i ≤ j))) (.fz rB) := re_cmp op_le (rop_i0 fun _ _ _ => rfl) ha hb (nomark _)
theorem re_gt (ha : RE X W Γ a ma (.fz rI)) (hb : RE X W Γ b mb (.fz rI)) : RE X W Γ (.Compare a [.Gt] [b] pos) (ma >>= fun i => mb >>= fun j => pure (decide (j < i))) (.fz rB) := re_cmp op_gt (rop_i0 fun _ _ _ => rfl) ha hb (nomark _)
theorem re_ge (ha : RE X W Γ a ma (.fz rI)) (hb : RE X W Γ b mb (.fz rI)) : RE X W Γ (.Compare a [.GtE] [b] pos) (ma >>= fun i => mb >>= fun j => pure (decide (j ≤ i))) (.fz rB) := re_cmp op_ge (rop_i0 fun _ _ _ => rfl) ha hb (nomark _)
end
/-! equality of plain values -/
/-- values that are told without a heap -/
class Sc (ρ : α → Pr) where
  v : α → V
  is : ∀ {x : α} {u : V} {F : Hp}, (ρ x).r u F → u = v x
instance scI : Sc rI := ⟨V.int, fun h => h⟩
instance scB : Sc rB := ⟨V.bl, fun h => h⟩
instance scS : Sc rS := ⟨V.str, fun h => h⟩
instance scN : Sc rN := ⟨fun _ => .non, fun h => h⟩
instance scO {ρ : α → Pr} [s : Sc ρ] : Sc (rO ρ) := ⟨fun o => match o with | none => .non | some x => s.v x, fun {x u F} h => by
  cases x with
  | none => exact h
  | some x => exact s.is h⟩
theorem rop_eq {ρa : α → Pr} {ρb : β → Pr} [sa : Sc ρa] [sb : Sc ρb] (hs : ∀ x y, scal (sa.v x) (sb.v y) = true) (x : α) (y : β) : ROp X W Γ rEq (ρa x) (ρb y) (pure (decide (sa.v x = sb.v y))) (.fz rB) := fun G σ F H Q u w o hu hw q => by
  rw [sa.is hu, sb.is hw]
  exact ⟨hs x y, NQ.here (ρ := rB) q o rfl⟩
theorem rop_ne {ρa : α → Pr} {ρb : β → Pr} [sa : Sc ρa] [sb : Sc ρb] (hs : ∀ x y, scal (sa.v x) (sb.v y) = true) (x : α) (y : β) : ROp X W Γ rNe (ρa x) (ρb y) (pure (!decide (sa.v x = sb.v y))) (.fz rB) := fun G σ F H Q u w o hu hw q => by
  rw [sa.is hu, sb.is hw]
  exact ⟨hs x y, NQ.here (ρ := rB) q o rfl⟩
section
variable {ma : Mo α} {mb : Mo β} {pos : Pos} {ρa : α → Pr} {ρb : β → Pr} [sa : Sc ρa] [sb : Sc ρb]
theorem re_eqS (hs : ∀ x y, scal (sa.v x) (sb.v y) = true) (ha : RE X W Γ a ma (.fz ρa)) (hb : RE X W Γ b mb (.fz ρb)) : RE X W Γ (.Compare a [.Eq] [b] pos) (ma >>= fun i => mb >>= fun j => pure (decide (sa.v i = sb.v j))) (.fz rB) := re_cmp op_eq (rop_eq hs) ha hb (nomark _)
theorem re_neS (hs : ∀ x y, scal (sa.v x) (sb.v y) = true) (ha : RE X W Γ a ma (.fz ρa)) (hb : RE X W Γ b mb (.fz ρb)) : RE X W Γ (.Compare a [.NotEq] [b] pos) (ma >>= fun i => mb >>= fun j => pure (!decide (sa.v i = sb.v j))) (.fz rB) := re_cmp op_ne (rop_ne hs) ha hb (nomark _)
end
section
variable {ma mb : Mo Int} {pos : Pos}
theorem re_eqI (ha : RE X W Γ a ma (.fz rI)) (hb : RE X W Γ b mb (.fz rI)) : RE X W Γ (.Compare a [.Eq] [b] pos) (ma >>= fun i => mb >>= fun j => pure (decide (i = j))) (.fz rB) :=
  re_cmp (r := rEq) op_eq (fun i j G σ F H Q u w o hu hw q => by
    obtain rfl : u = .int i := hu
    obtain rfl : w = .int j := hw
    refine ⟨rfl, NQ.here (ρ := rB) q o ?_⟩
    show V.bl (decide (V.int i = V.int j)) = V.bl (decide (i = j))
    congr 1
    exact decide_eq_decide.mpr ⟨fun h => V.int.inj h, fun h => by rw [h]⟩) ha hb (nomark _)
theorem re_neI (ha : RE X W Γ a ma (.fz rI)) (hb : RE X W Γ b mb (.fz rI)) : RE X W Γ (.Compare a [.NotEq] [b] pos) (ma >>= fun i => mb >>= fun j => pure (decide (i ≠ j))) (.fz rB) :=
  re_cmp (r := rNe) op_ne (fun i j G σ F H Q u w o hu hw q => by
    obtain rfl : u = .int i := hu
    obtain rfl : w = .int j := hw
    refine ⟨rfl, NQ.here (ρ := rB) q o ?_⟩
    show V.bl (!decide (V.int i = V.int j)) = V.bl (decide (i ≠ j))
    congr 1
    by_cases h : i = j
    · subst h; simp
    · have : V.int i ≠ V.int j := fun z => h (V.int.inj z)
      simp [h, this]) ha hb (nomark _)
end
/-! None -/
section
variable {ma : Mo (Option α)} {pos : Pos} {ρ : α → Pr} {j : Nat} {p2 : Pos}
theorem re_isN (hn : ∀ x v F, (ρ x).r v F → v ≠ .non) (ha : RE X W Γ a ma (.fz (rO ρ))) : RE X W Γ (.Compare a [.Is] [.Constant .none j p2] pos) (ma >>= fun x => pure x.isNone) (.fz rB) := by
  refine re_of (pe_cmpR op_isN peE pe_non (nomark _)) fun G σ F H Q o q => ?_
  refine ha G σ F H _ o (ma.mono (fun x hx v F' H' o' g' z => ?_) (fun _ z => z) q)
  refine ⟨rfl, hx _ F' H' o' g' ?_⟩
  cases x with
  | none => obtain rfl : v = .non := z; rfl
  | some x => show V.bl (decide (v = .non)) = V.bl false; rw [decide_eq_false (hn x v F' z)]
theorem re_notN (hn : ∀ x v F, (ρ x).r v F → v ≠ .non) (ha : RE X W Γ a ma (.fz (rO ρ))) : RE X W Γ (.Compare a [.IsNot] [.Constant .none j p2] pos) (ma >>= fun x => pure x.isSome) (.fz rB) := by
  refine re_of (pe_cmpR op_notN peE pe_non (nomark _)) fun G σ F H Q o q => ?_
  refine ha G σ F H _ o (ma.mono (fun x hx v F' H' o' g' z => ?_) (fun _ z => z) q)
  refine ⟨rfl, hx _ F' H' o' g' ?_⟩
  cases x with
  | none => obtain rfl : v = .non := z; rfl
  | some x => show V.bl (!decide (v = .non)) = V.bl true; rw [decide_eq_false (hn x v F' z)]; rfl
end
/-! bools -/
section
variable {ma mb : Mo Bool} {pos : Pos} {rest : List Expr}
theorem re_not (ha : RE X W Γ a ma (.fz rB)) : RE X W Γ (.UnaryOp .Not a pos) (ma >>= fun c => pure (!c)) (.fz rB) := by
  refine re_of (pe_not peE) fun G σ F H Q o q => ?_
  refine ha G σ F H _ o (ma.mono (fun x hx v F' H' o' g' z => ?_) (fun _ z => z) q)
  exact ⟨x, z, hx _ F' H' o' g' rfl⟩
theorem re_one {op} {ρ : γ → Pr} {m : Mo γ} (ha : RE X W Γ a m (.fz ρ)) : RE X W Γ (.BoolOp op [a] pos) m (.fz ρ) := re_of (pe_one peE) fun G σ F H Q o q => ha G σ F H Q o q
theorem re_and (ha : RE X W Γ a ma (.fz rB)) (hb : RE X W Γ (.BoolOp .And (b :: rest) pos) mb (.fz rB)) : RE X W Γ (.BoolOp .And (a :: b :: rest) pos) (ma >>= fun c => if c then mb else pure false) (.fz rB) := by
  refine re_of (pe_and peE peE) fun G σ F H Q o q => ?_
  refine ha G σ F H _ o (ma.mono (fun x hx v F' H' o' g' z => ?_) (fun _ z => z) q)
  refine ⟨x, z, ?_⟩
  cases x with
  | false => exact iteF (hx _ F' H' o' g' rfl)
  | true => exact iteT (hb G σ F' H' Q o' (run_step g' hx))
theorem re_or (ha : RE X W Γ a ma (.fz rB)) (hb : RE X W Γ (.BoolOp .Or (b :: rest) pos) mb (.fz rB)) : RE X W Γ (.BoolOp .Or (a :: b :: rest) pos) (ma >>= fun c => if c then pure true else mb) (.fz rB) := by
  refine re_of (pe_or peE peE) fun G σ F H Q o q => ?_
  refine ha G σ F H _ o (ma.mono (fun x hx v F' H' o' g' z => ?_) (fun _ z => z) q)
  refine ⟨x, z, ?_⟩
  cases x with
  | true => exact iteT (hx _ F' H' o' g' rfl)
  | false => exact iteF (hb G σ F' H' Q o' (run_step g' hx))
end
/-! tests -/
def RT (X : Cx) (W : WX) (Γ : Ctx) (e : Expr) (m : Mo Bool) : Prop := RTT X W Γ (tT X e) m
def RW (X : Cx) (W : WX) (Γ : Ctx) (e : Expr) (m : Mo Bool) : Prop := RTT X W Γ (tW X e) m
section
variable {ma mb : Mo Bool} {pos : Pos} {rest : List Expr}
theorem rt_of {t : TT} (h : L2.PT X e t) (r : RTT X W Γ t ma) : RT X W Γ e ma := fun G σ F H Q o q pins s I => h.run pins s σ H Q I (r G σ F H Q o q)
theorem rw_of {t : TT} (h : L2.PW X e t) (r : RTT X W Γ t ma) : RW X W Γ e ma := fun G σ F H Q o q wh pins s I => h.run wh pins s σ H Q I (r G σ F H Q o q)
theorem rt_val (h : RE X W Γ e ma (.fz rB)) (he : ∀ whole, isTrue e X.env whole = (do let v ← whole; standAt e.pos; holding [v] (truthy v)) := by intro _; rfl) : RT X W Γ e ma :=
  rt_of (pt_val peE he) fun G σ F H Q o q => h G σ F H _ o (ma.mono (fun x hx v F' H' o' g' z => ⟨x, z, hx F' H' o' g'⟩) (fun _ z => z) q)
theorem rt_cmp {op : CmpOp} {c : Expr} {α β : Type} {r : R2} {ma : Mo α} {mb : Mo β} {mr : α → β → Mo Bool} {ρa : α → Pr} {ρb : β → Pr} (ho : OpR X (compareOp op) r) (hr : ∀ x y, ROp X W Γ r (ρa x) (ρb y) (mr x y) (.fz rB)) (ha : RE X W Γ a ma (.fz ρa)) (hb : RE X W Γ b mb (.fz ρb)) (hm : behindInMarks op b = false) :
    RT X W Γ (.Compare a [op] [b] pos) (ma >>= fun x => mb >>= fun y => mr x y) :=
  rt_of (pt_cmpR ho peE peE hm) fun G σ F H Q o q => rte_two ha hb hr G σ F H _ o (Mo.mono _ (fun x hx v F' H' o' g' z => ⟨x, z, hx F' H' o' g'⟩) (fun _ z => z) q)
/-- a comparison as a test: by its value -/
theorem rt_rcmp {op : CmpOp} {ho : True} (h : ∀ (t : TE), PE X (.Compare a [op] [b] pos) t → L2.PT X (.Compare a [op] [b] pos) (tTest t)) (hv : RE X W Γ (.Compare a [op] [b] pos) ma (.fz rB)) : RT X W Γ (.Compare a [op] [b] pos) ma :=
  rt_of (h _ peE) fun G σ F H Q o q => hv G σ F H _ o (ma.mono (fun x hx v F' H' o' g' z => ⟨x, z, hx F' H' o' g'⟩) (fun _ z => z) q)
theorem rt_not (h : RT X W Γ a ma) : RT X W Γ (.UnaryOp .Not a pos) (ma >>= fun c => pure (!c)) :=
  rt_of (pt_not ptT) fun G σ F H Q o q => h G σ F H _ o q
theorem rt_w (h : RW X W Γ e ma) : RT X W Γ e ma := rt_of pwW.pt h
theorem rw_and1 (h : RT X W Γ a ma) : RW X W Γ (.BoolOp .And [a] pos) ma := rw_of (pw_and1 ptT) h
theorem rw_or1 (h : RT X W Γ a ma) : RW X W Γ (.BoolOp .Or [a] pos) ma := rw_of (pw_or1 ptT) h
theorem rw_and (ha : RT X W Γ a ma) (hb : RW X W Γ (.BoolOp .And (b :: rest) pos) mb) : RW X W Γ (.BoolOp .And (a :: b :: rest) pos) (ma >>= fun c => if c then mb else pure false) := by
  refine rw_of (pw_and ptT pwW) fun G σ F H Q o q => ?_
  refine ha G σ F H _ o (ma.mono (fun x hx F' H' o' g' => ?_) (fun _ z => z) q)
  cases x with
  | false => exact iteF (hx F' H' o' g')
  | true => exact iteT (hb G σ F' H' Q o' (mb.mono (fun c hc F2 H2 o2 g2 => hc F2 H2 o2 (g'.trans g2 owns_tr)) (fun _ => EQ.step g') hx))
theorem rw_or (ha : RT X W Γ a ma) (hb : RW X W Γ (.BoolOp .Or (b :: rest) pos) mb) : RW X W Γ (.BoolOp .Or (a :: b :: rest) pos) (ma >>= fun c => if c then pure true else mb) := by
  refine rw_of (pw_or ptT pwW) fun G σ F H Q o q => ?_
  refine ha G σ F H _ o (ma.mono (fun x hx F' H' o' g' => ?_) (fun _ z => z) q)
  cases x with
  | true => exact iteT (hx F' H' o' g')
  | false => exact iteF (hb G σ F' H' Q o' (mb.mono (fun c hc F2 H2 o2 g2 => hc F2 H2 o2 (g'.trans g2 owns_tr)) (fun _ => EQ.step g') hx))
end
end
end RF
namespace RF
open PySem PySem.Spec PyProof.Rows L2 KO SX

/-! ### lists and tuples -/
def Ps (F : Hp) : List Pr → List V → Prop
  | [], [] => True
  | p :: ps, v :: vs => p.r v F ∧ Ps F ps vs
  | _, _ => False
section
variable {F F' : Hp}
theorem Ps.len : ∀ {ps : List Pr} {vs : List V}, Ps F ps vs → vs.length = ps.length
  | [], [], _ => rfl
  | _ :: _, _ :: _, h => by simp [Ps.len h.2]
  | [], _ :: _, h => h.elim
  | _ :: _, [], h => h.elim
theorem Ps.mono (s : Same F F') : ∀ {ps : List Pr} {vs : List V}, Ps F ps vs → Ps F' ps vs
  | [], [], _ => trivial
  | p :: _, _ :: _, h => ⟨p.mono s h.1, Ps.mono s h.2⟩
  | [], _ :: _, h => h.elim
  | _ :: _, [], h => h.elim
theorem Ps.get : ∀ {ps : List Pr} {vs : List V} {i : Nat} {p : Pr}, Ps F ps vs → ps[i]? = some p → ∃ v, vs[i]? = some v ∧ p.r v F
  | [], [], _, _, _, h => by simp at h
  | q :: ps, v :: vs, 0, p, h, e => by
    simp at e
    subst e
    exact ⟨v, rfl, h.1⟩
  | q :: ps, v :: vs, i + 1, p, h, e => by
    obtain ⟨w, h1, h2⟩ := Ps.get (i := i) h.2 (by simpa using e)
    exact ⟨w, by simpa using h1, h2⟩
  | [], _ :: _, _, _, h, _ => h.elim
  | _ :: _, [], _, _, h, _ => h.elim
theorem Ps.get' {ps : List Pr} {vs : List V} {i : Nat} {v : V} (h : Ps F ps vs) (e : vs[i]? = some v) : ∃ p, ps[i]? = some p ∧ p.r v F := by
  have hi : i < ps.length := by rw [← h.len]; exact (List.getElem?_eq_some_iff.mp e).1
  obtain ⟨w, h1, h2⟩ := h.get (List.getElem?_eq_getElem hi)
  rw [e] at h1
  cases h1
  exact ⟨_, List.getElem?_eq_getElem hi, h2⟩
theorem Ps.at {ps : List Pr} {vs : List V} {i : Int} {p : Pr} (h : Ps F ps vs) (e : atI ps i = some p) : ∃ v, atI vs i = some v ∧ p.r v F := by
  unfold atI at e ⊢
  rw [h.len]
  cases q : ixN ps.length i with
  | none => rw [q] at e; cases e
  | some j =>
    rw [q] at e
    exact h.get (show ps[j]? = some p from e)
theorem Ps.app : ∀ {ps qs : List Pr} {vs us : List V}, Ps F ps vs → Ps F qs us → Ps F (ps ++ qs) (vs ++ us)
  | [], _, [], _, _, h => h
  | _ :: _, _, _ :: _, _, h, k => ⟨h.1, Ps.app h.2 k⟩
  | [], _, _ :: _, _, h, _ => h.elim
  | _ :: _, _, [], _, h, _ => h.elim
theorem Ps.take : ∀ {ps : List Pr} {vs : List V} (n : Nat), Ps F ps vs → Ps F (ps.take n) (vs.take n)
  | _, _, 0, _ => by simp [Ps]
  | [], [], _ + 1, _ => trivial
  | _ :: _, _ :: _, n + 1, h => ⟨h.1, Ps.take n h.2⟩
  | [], _ :: _, _, h => h.elim
  | _ :: _, [], _, h => h.elim
theorem Ps.drop : ∀ {ps : List Pr} {vs : List V} (n : Nat), Ps F ps vs → Ps F (ps.drop n) (vs.drop n)
  | _, _, 0, h => h
  | [], [], _ + 1, _ => trivial
  | _ :: _, _ :: _, n + 1, h => Ps.drop n h.2
  | [], _ :: _, _, h => h.elim
  | _ :: _, [], _, h => h.elim
theorem Ps.set : ∀ {ps : List Pr} {vs : List V} {p : Pr} {v : V} (n : Nat), Ps F ps vs → p.r v F → Ps F (ps.set n p) (vs.set n v)
  | [], [], _, _, _, _, _ => trivial
  | _ :: _, _ :: _, _, _, 0, h, k => ⟨k, h.2⟩
  | _ :: _, _ :: _, _, _, n + 1, h, k => ⟨h.1, Ps.set n h.2 k⟩
  | [], _ :: _, _, _, _, h, _ => h.elim
  | _ :: _, [], _, _, _, h, _ => h.elim
theorem Ps.sc {α : Type} {ρ : α → Pr} [s : Sc ρ] : ∀ {xs : List α} {vs : List V}, Ps F (xs.map ρ) vs → vs = xs.map s.v
  | [], [], _ => rfl
  | _ :: _, _ :: _, h => by rw [List.map_cons, ← s.is h.1, ← Ps.sc h.2]
  | [], _ :: _, h => h.elim
  | _ :: _, [], h => h.elim
end
def oLu (ps : List Pr) : Po := ⟨fun o F => ∃ vs, o = .lst vs ∧ Ps F ps vs, fun s ⟨vs, e, h⟩ => ⟨vs, e, h.mono s⟩⟩
def rLu (ps : List Pr) : Pr := ⟨fun v F => ∃ a vs, v = .ref a ∧ F a = some (.lst vs) ∧ Ps F ps vs, fun s ⟨a, vs, e, h, k⟩ => ⟨a, vs, e, s _ _ h, k.mono s⟩⟩
def rTu (ps : List Pr) : Pr := ⟨fun v F => ∃ a vs, v = .ref a ∧ Rd F a (.tup vs) ∧ Ps F ps vs, fun s ⟨a, vs, e, h, k⟩ => ⟨a, vs, e, Rd.mono h s, k.mono s⟩⟩
section
variable {α β γ δ ε ζ : Type}
def oL (ρ : α → Pr) (xs : List α) : Po := oLu (xs.map ρ)
def rL (ρ : α → Pr) (xs : List α) : Pr := rLu (xs.map ρ)
/-- a tuple of like items, of any length -/
def rTs (ρ : α → Pr) (xs : List α) : Pr := rTu (xs.map ρ)
def rT1 (ρ : α → Pr) (x : α) : Pr := rTu [ρ x]
def rT2 (ρ : α → Pr) (σ : β → Pr) (x : α × β) : Pr := rTu [ρ x.1, σ x.2]
def rT3 (ρ : α → Pr) (σ : β → Pr) (τ : γ → Pr) (x : α × β × γ) : Pr := rTu [ρ x.1, σ x.2.1, τ x.2.2]
def rT4 (ρ : α → Pr) (σ : β → Pr) (τ : γ → Pr) (υ : δ → Pr) (x : α × β × γ × δ) : Pr := rTu [ρ x.1, σ x.2.1, τ x.2.2.1, υ x.2.2.2]
def rT5 (ρ : α → Pr) (σ : β → Pr) (τ : γ → Pr) (υ : δ → Pr) (φ : ε → Pr) (x : α × β × γ × δ × ε) : Pr := rTu [ρ x.1, σ x.2.1, τ x.2.2.1, υ x.2.2.2.1, φ x.2.2.2.2]
theorem frz_L {ρ : α → Pr} (xs : List α) (a : Addr) (u : HO) (F : Hp) (h : F a = some u) (k : (oL ρ xs).r u F) : (rL ρ xs).r (.ref a) F := by
  obtain ⟨vs, rfl, k⟩ := k
  exact ⟨a, vs, rfl, h, k⟩
theorem atI_map {f : α → β} {xs : List α} {i : Int} : atI (xs.map f) i = (atI xs i).map f := by
  unfold atI
  rw [List.length_map]
  cases ixN xs.length i with
  | none => rfl
  | some j => simp
/-- a slice -/
def cutL (xs : List α) (lo hi : Option Int) : List α := (xs.drop (HT.sIx xs.length 0 lo)).take (HT.sIx xs.length xs.length hi - HT.sIx xs.length 0 lo)
theorem Ps.cut {F : Hp} {ps : List Pr} {vs : List V} (lo hi : Option Int) (h : Ps F ps vs) : Ps F (cutL ps lo hi) (cutV vs lo hi) := by
  unfold cutL cutV
  rw [h.len]
  exact (h.drop _).take _
theorem cutL_map {f : α → β} {xs : List α} {lo hi : Option Int} : cutL (xs.map f) lo hi = (cutL xs lo hi).map f := by
  unfold cutL
  rw [List.length_map, List.map_take, List.map_drop]
end
section
variable {α β γ : Type} {X : Cx} {W : WX} {Γ : Ctx} {e a b : Expr} {es : List Expr} {pos : Pos} {m : Mo β}
theorem Ok.new {G : Gf} {σ : L2.St} {F H : Hp} {d : Addr} {u : HO} (o : Ok G Γ σ F H) (hd : H d = none) : Ok G Γ σ (upd F d u) (upd H d u) ∧ Go (owns Γ) F H (upd F d u) (upd H d u) :=
  ⟨o.move (M := []) (Go.new o.le hd) (fun _ h => by simp at h), Go.new o.le hd⟩
theorem Ok.newO {G : Gf} {σ : L2.St} {F H : Hp} {d : Addr} {u : HO} (o : Ok G Γ σ F H) (hd : H d = none) : Ok G Γ σ F (upd H d u) ∧ Go (owns Γ) F H F (upd H d u) :=
  ⟨o.move (M := []) (Go.newO o.le hd) (fun _ h => by simp at h), Go.newO o.le hd⟩
/-- entries that are all frozen -/
theorem ArgOk.ps {F H : Hp} : ∀ {ps : List Pr} {vs : List V}, ArgOk Γ F H (ps.map .fz) vs → Ps F ps vs
  | [], [], _ => trivial
  | p :: ps, v :: vs, h => ⟨h.2.1 0 (.fz p) v rfl rfl, ArgOk.ps ⟨by simpa using h.1, fun i en u h2 h3 => h.2.1 (i + 1) en u (by simpa using h2) (by simpa using h3), fun j l a q h2 => h.2.2 (j + 1) l a q (by simpa using h2)⟩⟩
  | [], _ :: _, h => absurd h.1 (by simp)
  | _ :: _, [], h => absurd h.1 (by simp)
theorem re_tup {x1} {p : β → Ctx} (f : β → γ) (ρ : γ → Pr) (ps : β → List Pr) (ha : RA X W Γ es m p) (hp : ∀ y, p y = (ps y).map .fz := by intro _; rfl) (hρ : ∀ y, ρ (f y) = rTu (ps y) := by intro _; rfl) (hl : ∀ y, (ps y).length ≤ sizeLine := by intro _; simp [sizeLine_eq]) :
    RE X W Γ (.Tuple es x1 pos) (m >>= fun y => pure (f y)) (.fz ρ) := by
  refine re_of (pe_tup paA) fun G σ F H Q o q => ?_
  refine ha G σ F H _ o (m.mono (fun y hy vs F' H' o' g' z => ?_) (fun _ z => z) q)
  rw [hp y] at z
  have k := z.ps
  refine ⟨by rw [k.len]; exact hl y, fun d hd => ?_⟩
  obtain ⟨o2, g2⟩ := o'.new (u := .tup vs) hd
  refine hy _ _ _ o2 (g'.trans g2 owns_tr) ?_
  show (ρ (f y)).r _ _
  rw [hρ y]
  exact ⟨d, vs, rfl, .inl upd_same, k.mono g2.fs⟩
/-- what comes from a new object, for the wish from an earlier heap -/
theorem NQ.own {k : γ → Po} {G : Gf} {σ : L2.St} {F H F1 H1 : Hp} {Q : VK} {x : γ} {d : Addr} {u : HO} (q : NQ G Γ σ F H (.ow k) Q x) (o : Ok G Γ σ F1 H1) (g : Go (owns Γ) F H F1 H1) (hd : H1 d = none) (h : (k x).r u F1) : Q (.ref d) (upd H1 d u) := by
  obtain ⟨o2, g2⟩ := o.newO (u := u) hd
  have hf : ∀ {A B : Hp}, Same A B → B d = none → A d = none := fun s e => s.free e
  refine q _ _ _ o2 (g.trans g2 owns_tr) ⟨d, u, rfl, ?_, o.le.free hd, upd_same, h⟩
  cases e : H d with
  | none => rfl
  | some y =>
    obtain ⟨y', e'⟩ := g.th _ _ e
    rw [hd] at e'; cases e'
theorem NQ.ownF {k : γ → Pr} {G : Gf} {σ : L2.St} {F H F1 H1 : Hp} {Q : VK} {x : γ} {d : Addr} {u : HO} (q : NQ G Γ σ F H (.fz k) Q x) (o : Ok G Γ σ F1 H1) (g : Go (owns Γ) F H F1 H1) (hd : H1 d = none) (h : (k x).r (.ref d) (upd F1 d u)) : Q (.ref d) (upd H1 d u) := by
  obtain ⟨o2, g2⟩ := o.new (u := u) hd
  exact q _ _ _ o2 (g.trans g2 owns_tr) h
theorem re_lst {p : β → Ctx} (f : β → List γ) (ρ : γ → Pr) (ha : RA X W Γ es m p) (hp : ∀ y, p y = ((f y).map ρ).map .fz := by intro _; rfl) (hl : ∀ y, ((f y).map ρ).length ≤ sizeLine := by intro _; simp [sizeLine_eq]) :
    RE X W Γ (.List es pos) (m >>= fun y => pure (f y)) (.ow (oL ρ)) := by
  refine re_of (pe_lst paA) fun G σ F H Q o q => ?_
  refine ha G σ F H _ o (m.mono (fun y hy vs F' H' o' g' z => ?_) (fun _ z => z) q)
  rw [hp y] at z
  have k := z.ps
  exact ⟨by rw [k.len]; exact hl y, fun d hd => hy.own o' g' hd ⟨vs, rfl, k⟩⟩
theorem re_lst0 {ρ : γ → Pr} : RE X W Γ (.List [] pos) (pure []) (.ow (oL ρ)) := by
  refine re_of (pe_lst pa_nil) fun G σ F H Q o q => ?_
  exact ⟨Nat.zero_le _, fun d hd => NQ.own q o (Go.refl o.le) hd ⟨[], rfl, trivial⟩⟩
/-! items -/
section
variable {ma : Mo (List γ)} {mb : Mo Int} {ρ : γ → Pr} {α : Type} {mt : Mo α} {ρt : α → Pr}
theorem rop_ixL (hK : True) (xs : List γ) (i : Int) : ROp X W Γ (rIxL X.K) (rL ρ xs) (rI i) (Mo.get (atI xs i)) (.fz ρ) := by
  intro G σ F H Q x y o hx hy q
  obtain ⟨a, vs, rfl, h1, h2⟩ := hx
  obtain rfl : y = .int i := hy
  obtain ⟨z, hz, q⟩ := q
  obtain ⟨v, hv, hr⟩ := h2.at (i := i) (p := ρ z) (by rw [atI_map, hz]; rfl)
  exact ⟨a, vs, i, v, rfl, rfl, SqL.of (o.le _ _ h1), hv, NQ.here (ρ := ρ) q o hr⟩
theorem rop_ixT (hK : True) (xs : List γ) (i : Int) : ROp X W Γ (rIxT X.K) (rTs ρ xs) (rI i) (Mo.get (atI xs i)) (.fz ρ) := by
  intro G σ F H Q x y o hx hy q
  obtain ⟨a, vs, rfl, h1, h2⟩ := hx
  obtain rfl : y = .int i := hy
  obtain ⟨z, hz, q⟩ := q
  obtain ⟨v, hv, hr⟩ := h2.at (i := i) (p := ρ z) (by rw [atI_map, hz]; rfl)
  exact ⟨a, vs, i, v, rfl, rfl, SqT.ofR (Rd.mono h1 o.le), hv, NQ.here (ρ := ρ) q o hr⟩
theorem re_ixL (ha : RE X W Γ a ma (.fz (rL ρ))) (hb : RE X W Γ b mb (.fz rI)) (hs : PlainIx b := by exact fun _ _ => rfl) : RE X W Γ (.Subscript a b pos) (ma >>= fun xs => mb >>= fun i => Mo.get (atI xs i)) (.fz ρ) := re_ix ix_list (rop_ixL trivial) ha hb hs
theorem re_ixTs (ha : RE X W Γ a ma (.fz (rTs ρ))) (hb : RE X W Γ b mb (.fz rI)) (hs : PlainIx b := by exact fun _ _ => rfl) : RE X W Γ (.Subscript a b pos) (ma >>= fun xs => mb >>= fun i => Mo.get (atI xs i)) (.fz ρ) := re_ix ix_tup (rop_ixT trivial) ha hb hs
/-- an item of a tuple of a form that is known, at a written place -/
theorem re_at {g : α → γ} (ps : α → List Pr) (c : Int) (ha : RE X W Γ a mt (.fz ρt)) (hρ : ∀ x, ρt x = rTu (ps x) := by intro _; rfl) (hc : RE X W Γ b (pure c) (.fz rI)) (hg : ∀ x, atI (ps x) c = some (ρ (g x)) := by intro _; rfl) (hs : PlainIx b := by exact fun _ _ => rfl) : RE X W Γ (.Subscript a b pos) (mt >>= fun x => pure (g x)) (.fz ρ) := by
  refine re_of (pe_ix ix_tup peE peE hs) fun G σ F H Q o q => ?_
  refine ha G σ F H _ o (mt.mono (fun y hy v F' H' o' g' z => ?_) (fun _ z => z) q)
  have z : (ρt y).r v F' := z
  rw [hρ y] at z
  obtain ⟨t, vs, rfl, h1, h2⟩ := z
  obtain ⟨v, hv, hr⟩ := h2.at (hg y)
  refine hc G σ F' H' _ o' fun w F2 H2 o2 g2 e => ?_
  obtain rfl : w = .int c := e
  exact ⟨t, vs, c, v, rfl, rfl, SqT.ofR (Rd.mono h1 (g2.fs.trans o2.le)), hv, hy v F2 H2 o2 (g'.trans g2 owns_tr) ((ρ _).mono g2.fs hr)⟩
end
/-! an own list read -/
section
variable {ρ : γ → Pr} {i : Nat} {l : Bool} {ad : Addr} {xs : List γ} {mb : Mo Int} {x : Str} {p2 : Pos}
theorem re_ixO (hi : Γ[i]? = some (.ow l ad (oL ρ xs))) (hp : PE X (.Name x p2) (tVar i)) (hb : RE X W Γ b mb (.fz rI)) (hs : PlainIx b := by exact fun _ _ => rfl) : RE X W Γ (.Subscript (.Name x p2) b pos) (mb >>= fun i => Mo.get (atI xs i)) (.fz ρ) := by
  refine re_of (pe_ix ix_list hp peE hs) fun G σ F H Q o q => ?_
  refine ⟨.ref ad, (o.en i _ hi).1, ?_⟩
  refine hb G σ F H _ o (mb.mono (fun j hy v F' H' o' g' z => ?_) (fun _ z => z) q)
  obtain rfl : v = .int j := z
  obtain ⟨_, _, _, u, hu, vs, rfl, hps⟩ := o'.en i _ hi
  obtain ⟨z, hz, hy⟩ := hy
  obtain ⟨v, hv, hr⟩ := hps.at (i := j) (p := ρ z) (by rw [atI_map, hz]; rfl)
  exact ⟨ad, vs, j, v, rfl, rfl, SqL.of hu, hv, hy v F' H' o' g' hr⟩
end
/-! slices -/
section
variable {lo hi : Option Expr} {ml mh : Mo (Option Int)} {ma : Mo (List γ)} {ρ : γ → Pr} {p2 : Pos}
def tP (X : Cx) (e : Option Expr) : TO := fun σ H Q => ∀ (pins : List (Addr × Obj)) (s : Shared), Inv X pins σ H s → wpAny (model X.prog X.w) X.A (evalPart e X.env) (fun u s' => ∃ o H', Inv X pins σ H' s' ∧ IsPart u o ∧ Q o H') X.xe s
theorem poP {e : Option Expr} : PO X e (tP X e) := ⟨fun pins s σ H Q I h => h pins s I⟩
def RP (X : Cx) (W : WX) (Γ : Ctx) (e : Option Expr) (m : Mo (Option Int)) : Prop := ∀ G σ F H Q, Ok G Γ σ F H → m.run (fun x => ∀ F' H', Ok G Γ σ F' H' → Go (owns Γ) F H F' H' → Q x H') (EQ X W G Γ σ F H) → tP X e σ H Q
theorem rp_none : RP X W Γ none (pure none) := fun G σ F H Q o q pins s I => po_none.run pins s σ H Q I (q F H o (Go.refl o.le))
theorem rp_some {m : Mo Int} (h : RE X W Γ e m (.fz rI)) : RP X W Γ (some e) (m >>= fun i => pure (some i)) := fun G σ F H Q o q pins s I =>
  (po_some peE).run pins s σ H Q I (h G σ F H _ o (m.mono (fun x hx v F' H' o' g' z => ⟨x, z, hx F' H' o' g'⟩) (fun _ z => z) q))
theorem re_slL (ha : RE X W Γ a ma (.fz (rL ρ))) (hl : RP X W Γ lo ml) (hh : RP X W Γ hi mh) : RE X W Γ (.Subscript a (.Slice lo hi none p2) pos) (ma >>= fun xs => ml >>= fun l => mh >>= fun h => pure (cutL xs l h)) (.ow (oL ρ)) := by
  refine re_of (pe_slice sl_list peE poP poP) fun G σ F H Q o q => ?_
  refine ha G σ F H _ o (ma.mono (fun xs hx v F1 H1 o1 g1 z => ?_) (fun _ z => z) q)
  refine hl G σ F1 H1 _ o1 (ml.mono (fun l hx F2 H2 o2 g2 => ?_) (fun _ => EQ.step g1) hx)
  have g12 := g1.trans g2 owns_tr
  refine hh G σ F2 H2 _ o2 (mh.mono (fun h hx F3 H3 o3 g3 => ?_) (fun _ => EQ.step g12) hx)
  have g13 := g12.trans g3 owns_tr
  obtain ⟨ad, vs, rfl, h1, h2⟩ := z
  have s13 : Same F1 F3 := g2.fs.trans g3.fs
  refine ⟨ad, vs, rfl, SqL.of (o3.le _ _ (s13 _ _ h1)), fun d hd => hx.own o3 g13 hd ⟨_, rfl, ?_⟩⟩
  rw [← cutL_map]
  exact (h2.mono s13).cut l h
theorem re_slO {i : Nat} {l : Bool} {ad : Addr} {xs : List γ} {x : Str} {p3 : Pos} (hi' : Γ[i]? = some (.ow l ad (oL ρ xs))) (hp : PE X (.Name x p3) (tVar i)) (hl : RP X W Γ lo ml) (hh : RP X W Γ hi mh) : RE X W Γ (.Subscript (.Name x p3) (.Slice lo hi none p2) pos) (ml >>= fun l => mh >>= fun h => pure (cutL xs l h)) (.ow (oL ρ)) := by
  refine re_of (pe_slice sl_list hp poP poP) fun G σ F H Q o q => ?_
  refine ⟨.ref ad, (o.en i _ hi').1, ?_⟩
  refine hl G σ F H _ o (ml.mono (fun l hx F2 H2 o2 g2 => ?_) (fun _ z => z) q)
  refine hh G σ F2 H2 _ o2 (mh.mono (fun h hx F3 H3 o3 g3 => ?_) (fun _ => EQ.step g2) hx)
  have g13 := g2.trans g3 owns_tr
  obtain ⟨_, _, _, u, hu, vs, rfl, hps⟩ := o3.en i _ hi'
  refine ⟨ad, vs, rfl, SqL.of hu, fun d hd => hx.own o3 g13 hd ⟨_, rfl, ?_⟩⟩
  rw [← cutL_map]
  exact hps.cut l h
end
/-! list + list -/
section
variable {ma mb : Mo (List γ)} {ρ : γ → Pr}
theorem re_cat (ha : RE X W Γ a ma (.fz (rL ρ))) (hb : RE X W Γ b mb (.fz (rL ρ))) : RE X W Γ (.BinOp a .Add b pos) (ma >>= fun xs => mb >>= fun ys => Mo.rq (xs.length + ys.length ≤ sizeLine) (xs ++ ys)) (.ow (oL ρ)) :=
  re_bin op_cat (fun xs ys G σ F H Q x y o hx hy q => by
    obtain ⟨a, vs, rfl, h1, h2⟩ := hx
    obtain ⟨b, us, rfl, k1, k2⟩ := hy
    refine ⟨a, b, vs, us, rfl, rfl, o.le _ _ h1, o.le _ _ k1, by rw [h2.len, k2.len, List.length_map, List.length_map]; exact q.1, fun d hd => NQ.own q.2 o (Go.refl o.le) hd ⟨_, rfl, ?_⟩⟩
    rw [List.map_append]
    exact h2.app k2) ha hb
theorem re_rep {mn : Mo Int} (ha : RE X W Γ a ma (.fz (rL ρ))) (hb : RE X W Γ b mn (.fz rI)) : RE X W Γ (.BinOp a .Mult b pos) (ma >>= fun xs => mn >>= fun n => Mo.rq (-(2 ^ 63) ≤ n ∧ n < 2 ^ 63 ∧ xs.length * n.toNat ≤ sizeLine) (List.replicate n.toNat xs).flatten) (.ow (oL ρ)) :=
  re_bin op_rep (fun xs n G σ F H Q x y o hx hy q => by
    obtain ⟨a, vs, rfl, h1, h2⟩ := hx
    obtain rfl : y = .int n := hy
    refine ⟨a, n, vs, rfl, rfl, o.le _ _ h1, q.1.1, q.1.2.1, by rw [h2.len, List.length_map]; exact q.1.2.2, fun d hd => NQ.own q.2 o (Go.refl o.le) hd ⟨_, rfl, ?_⟩⟩
    generalize n.toNat = k
    induction k with
    | zero => trivial
    | succ k ih =>
      rw [List.replicate_succ, List.flatten_cons, List.replicate_succ, List.flatten_cons, List.map_append]
      exact h2.app ih) ha hb
end
/-! ### a list or a tuple, read where it stands -/
/-- what the sequence at a is: a list (of any), or a frozen tuple -/
def SqAt (k : Bool) (F H : Hp) (a : Addr) (vs : List V) : Prop := if k = true then H a = some (.lst vs) else Rd F a (.tup vs)
def RSq (X : Cx) (W : WX) (Γ : Ctx) (k : Bool) (e : Expr) (m : Mo (List γ)) (ρ : γ → Pr) : Prop :=
  ∀ G σ F H Q, Ok G Γ σ F H → m.run (fun xs => ∀ a vs F' H', Ok G Γ σ F' H' → Go (owns Γ) F H F' H' → SqAt k F' H' a vs → Ps F' (xs.map ρ) vs → Q (.ref a) H') (EQ X W G Γ σ F H) → tE X e σ H Q
section
variable {m : Mo (List γ)} {ρ : γ → Pr} {k : Bool}
theorem SqAt.or {K : PySem.W.Frag} {F H : Hp} {a : Addr} {vs : List V} (h : SqAt k F H a vs) (s : Same F H) : SqL K H a vs ∨ SqT K H a vs := by
  cases k with
  | true => exact .inl (SqL.of h)
  | false => exact .inr (SqT.ofR (Rd.mono h s))
theorem rsq_L (h : RE X W Γ e m (.fz (rL ρ))) : RSq X W Γ true e m ρ := fun G σ F H Q o q =>
  h G σ F H Q o (m.mono (fun xs hx v F' H' o' g' z => by
    obtain ⟨a, vs, rfl, h1, h2⟩ := z
    exact hx a vs F' H' o' g' (o'.le _ _ h1) h2) (fun _ z => z) q)
theorem rsq_T (h : RE X W Γ e m (.fz (rTs ρ))) : RSq X W Γ false e m ρ := fun G σ F H Q o q =>
  h G σ F H Q o (m.mono (fun xs hx v F' H' o' g' z => by
    obtain ⟨a, vs, rfl, h1, h2⟩ := z
    exact hx a vs F' H' o' g' h1 h2) (fun _ z => z) q)
theorem rsq_O {i : Nat} {l : Bool} {ad : Addr} {xs : List γ} {x : Str} (hi : Γ[i]? = some (.ow l ad (oL ρ xs))) (hp : PE X (.Name x pos) (tVar i)) : RSq X W Γ true (.Name x pos) (pure xs) ρ := fun G σ F H Q o q pins s I => by
  obtain ⟨h1, _, _, u, hu, vs, rfl, hps⟩ := o.en i _ hi
  exact hp.run pins s σ H Q I ⟨.ref ad, h1, q ad vs F H o (Go.refl o.le) hu hps⟩
theorem rsq_F (h : RE X W Γ e m (.ow (oL ρ))) : RSq X W Γ true e m ρ := rsq_L (re_frz h frz_L)
/-- a tuple of a form that is known, as a sequence -/
theorem rsq_at {α : Type} {mt : Mo α} {ρt : α → Pr} (g : α → List γ) (h : RE X W Γ e mt (.fz ρt)) (hρ : ∀ x, ρt x = rTu ((g x).map ρ) := by intro _; rfl) : RSq X W Γ false e (mt >>= fun x => pure (g x)) ρ := fun G σ F H Q o q =>
  h G σ F H Q o (mt.mono (fun x hx v F' H' o' g' z => by
    have z : (ρt x).r v F' := z
    rw [hρ x] at z
    obtain ⟨a, vs, rfl, h1, h2⟩ := z
    exact hx a vs F' H' o' g' h1 h2) (fun _ z => z) q)
/-- a built-in call with one argument -/
theorem re_bi1 {id : String} {r : List V → Hp → VK → Prop} {x : Str} {p : Pos} {mr : List γ → Mo β} {kr : RK β} (hc : CallR X (.builtin id) r) (hr : ∀ xs G σ F H Q a vs, Ok G Γ σ F H → SqAt k F H a vs → Ps F (xs.map ρ) vs → (mr xs).run (NQ G Γ σ F H kr Q) (EQ X W G Γ σ F H) → r [.ref a] H Q) (h : RSq X W Γ k e m ρ)
    (hg : Gl X x) (hm : X.mg x = none) (hv : bootBuiltins x = some (.builtin id)) (hn : x ≠ "__name__" := by decide) (hdb : (x == ("__debug__" : Str)) = false := by decide) (he : starEach [e] X.env = [(false, eval e X.env)] := by rfl) :
    RE X W Γ (.Call (.Name x p) [e] [] pos) (m >>= mr) kr := by
  refine re_of (pe_callB hc hg hm hv (pa_cons peE pa_nil he) hn hdb he rfl) fun G σ F H Q o q => ?_
  refine h G σ F H _ o (m.mono (fun xs hx a vs F' H' o' g' z1 z2 => ?_) (fun _ z => z) q)
  exact hr xs G σ F' H' Q a vs o' z1 z2 (run_step g' hx)
theorem re_ty1 {T : String} {r : List V → Hp → VK → Prop} {x : Str} {p : Pos} {mr : List γ → Mo β} {kr : RK β} (hc : CallR X (.type T) r) (hr : ∀ xs G σ F H Q a vs, Ok G Γ σ F H → SqAt k F H a vs → Ps F (xs.map ρ) vs → (mr xs).run (NQ G Γ σ F H kr Q) (EQ X W G Γ σ F H) → r [.ref a] H Q) (h : RSq X W Γ k e m ρ)
    (hg : Gl X x) (hm : X.mg x = none) (hv : bootBuiltins x = some (.type T)) (hn : x ≠ "__name__" := by decide) (hdb : (x == ("__debug__" : Str)) = false := by decide) (he : starEach [e] X.env = [(false, eval e X.env)] := by rfl) :
    RE X W Γ (.Call (.Name x p) [e] [] pos) (m >>= mr) kr := by
  refine re_of (pe_callTy hc hg hm hv (pa_cons peE pa_nil he) hn hdb he rfl) fun G σ F H Q o q => ?_
  refine h G σ F H _ o (m.mono (fun xs hx a vs F' H' o' g' z1 z2 => ?_) (fun _ z => z) q)
  exact hr xs G σ F' H' Q a vs o' z1 z2 (run_step g' hx)
section
variable {p : Pos}
theorem re_len (h : RSq X W Γ k e m ρ) (hm : X.mg "len" = none) (hg : Gl X "len" := by rfl) (he : starEach [e] X.env = [(false, eval e X.env)] := by rfl) : RE X W Γ (.Call (.Name "len" p) [e] [] pos) (m >>= fun xs => pure (xs.length : Int)) (.fz rI) :=
  re_bi1 call_len_seq (fun xs G σ F H Q a vs o z1 z2 q => ⟨a, vs, rfl, z1.or o.le, by have := NQ.here (ρ := rI) q o rfl; rw [z2.len, List.length_map]; exact this⟩) h hg hm (by decide +kernel) (he := he)
theorem re_list (h : RSq X W Γ k e m ρ) (hm : X.mg "list" = none) (hg : Gl X "list" := by rfl) (he : starEach [e] X.env = [(false, eval e X.env)] := by rfl) : RE X W Γ (.Call (.Name "list" p) [e] [] pos) (m >>= fun xs => pure xs) (.ow (oL ρ)) :=
  re_ty1 call_list_of (fun xs G σ F H Q a vs o z1 z2 q => ⟨a, vs, rfl, z1.or o.le, fun d hd => NQ.own q o (Go.refl o.le) hd ⟨vs, rfl, z2⟩⟩) h hg hm (by decide +kernel) (he := he)
theorem re_tuple (h : RSq X W Γ k e m ρ) (hm : X.mg "tuple" = none) (hg : Gl X "tuple" := by rfl) (he : starEach [e] X.env = [(false, eval e X.env)] := by rfl) : RE X W Γ (.Call (.Name "tuple" p) [e] [] pos) (m >>= fun xs => pure xs) (.fz (rTs ρ)) :=
  re_ty1 call_tuple_of (fun xs G σ F H Q a vs o z1 z2 q => by
    cases k with
    | true => exact ⟨a, vs, rfl, .inl ⟨SqL.of z1, fun d hd => NQ.ownF q o (Go.refl o.le) hd ⟨d, vs, rfl, .inl upd_same, z2.mono (same_upd (o.le.free hd))⟩⟩⟩
    | false => exact ⟨a, vs, rfl, .inr ⟨SqT.ofR (Rd.mono z1 o.le), NQ.here (ρ := rTs ρ) q o ⟨a, vs, rfl, z1, z2⟩⟩⟩) h hg hm (by decide +kernel) (he := he)
end
end
section
variable {p : Pos} {mi : Mo (List Int)} {k : Bool}
theorem re_sum (h : RSq X W Γ true e mi rI) (hm : X.mg "sum" = none) (hc : X.calm = true := by rfl) (hg : Gl X "sum" := by rfl) (he : starEach [e] X.env = [(false, eval e X.env)] := by rfl) : RE X W Γ (.Call (.Name "sum" p) [e] [] pos) (mi >>= fun xs => pure xs.sum) (.fz rI) :=
  re_bi1 (cr_sum hc) (fun xs G σ F H Q a vs o z1 z2 q => ⟨a, xs, rfl, by rw [← (show vs = xs.map V.int from Ps.sc (s := scI) z2)]; exact SqL.of z1, NQ.here (ρ := rI) q o rfl⟩) h hg hm (by decide +kernel) (he := he)
theorem re_sorted (h : RSq X W Γ true e mi rI) (hm : X.mg "sorted" = none) (hg : Gl X "sorted" := by rfl) (he : starEach [e] X.env = [(false, eval e X.env)] := by rfl) : RE X W Γ (.Call (.Name "sorted" p) [e] [] pos) (mi >>= fun xs => Mo.rq (xs.length < 64) () >>= fun _ => Mo.any (fun ys : List Int => ys.Perm xs ∧ ys.Pairwise (· ≤ ·))) (.ow (oL rI)) :=
  re_bi1 cr_sorted (fun xs G σ F H Q a vs o z1 z2 q => ⟨a, xs, rfl, by rw [← (show vs = xs.map V.int from Ps.sc (s := scI) z2)]; exact SqL.of z1, q.1, fun ys d h1 h2 hd => NQ.own (q.2 ys ⟨h1, h2⟩) o (Go.refl o.le) hd ⟨_, rfl, by
    clear q h1 h2 z1 z2
    induction ys with
    | nil => trivial
    | cons y ys ih => exact ⟨rfl, ih⟩⟩⟩) h hg hm (by decide +kernel) (he := he)
theorem re_maxL (h : RSq X W Γ true e mi rI) (hm : X.mg "max" = none) (hc : X.calm = true := by rfl) (hg : Gl X "max" := by rfl) (he : starEach [e] X.env = [(false, eval e X.env)] := by rfl) : RE X W Γ (.Call (.Name "max" p) [e] [] pos) (mi >>= fun xs => Mo.rq (0 < xs.length) () >>= fun _ => Mo.any (fun i : Int => i ∈ xs ∧ ∀ y ∈ xs, y ≤ i)) (.fz rI) :=
  re_bi1 (cr_max hc) (fun xs G σ F H Q a vs o z1 z2 q => ⟨a, xs, rfl, by rw [← (show vs = xs.map V.int from Ps.sc (s := scI) z2)]; exact SqL.of z1, q.1, fun i h1 h2 => NQ.here (ρ := rI) (q.2 i ⟨h1, h2⟩) o rfl⟩) h hg hm (by decide +kernel) (he := he)
theorem re_minL (h : RSq X W Γ true e mi rI) (hm : X.mg "min" = none) (hc : X.calm = true := by rfl) (hg : Gl X "min" := by rfl) (he : starEach [e] X.env = [(false, eval e X.env)] := by rfl) : RE X W Γ (.Call (.Name "min" p) [e] [] pos) (mi >>= fun xs => Mo.rq (0 < xs.length) () >>= fun _ => Mo.any (fun i : Int => i ∈ xs ∧ ∀ y ∈ xs, i ≤ y)) (.fz rI) :=
  re_bi1 (cr_min hc) (fun xs G σ F H Q a vs o z1 z2 q => ⟨a, xs, rfl, by rw [← (show vs = xs.map V.int from Ps.sc (s := scI) z2)]; exact SqL.of z1, q.1, fun i h1 h2 => NQ.here (ρ := rI) (q.2 i ⟨h1, h2⟩) o rfl⟩) h hg hm (by decide +kernel) (he := he)
variable {mb : Mo (List Bool)}
theorem re_all (h : RSq X W Γ true e mb rB) (hm : X.mg "all" = none) (hc : X.calm = true := by rfl) (hg : Gl X "all" := by rfl) (he : starEach [e] X.env = [(false, eval e X.env)] := by rfl) : RE X W Γ (.Call (.Name "all" p) [e] [] pos) (mb >>= fun xs => pure (xs.all id)) (.fz rB) :=
  re_bi1 (cr_all hc) (fun xs G σ F H Q a vs o z1 z2 q => ⟨a, xs, rfl, by rw [← (show vs = xs.map V.bl from Ps.sc (s := scB) z2)]; exact SqL.of z1, NQ.here (ρ := rB) q o rfl⟩) h hg hm (by decide +kernel) (he := he)
theorem re_any (h : RSq X W Γ true e mb rB) (hm : X.mg "any" = none) (hc : X.calm = true := by rfl) (hg : Gl X "any" := by rfl) (he : starEach [e] X.env = [(false, eval e X.env)] := by rfl) : RE X W Γ (.Call (.Name "any" p) [e] [] pos) (mb >>= fun xs => pure (xs.any id)) (.fz rB) :=
  re_bi1 (cr_any hc) (fun xs G σ F H Q a vs o z1 z2 q => ⟨a, xs, rfl, by rw [← (show vs = xs.map V.bl from Ps.sc (s := scB) z2)]; exact SqL.of z1, NQ.here (ρ := rB) q o rfl⟩) h hg hm (by decide +kernel) (he := he)
end
/-! int(..), abs, min and max of two -/
section
variable {mi mj : Mo Int} {mb : Mo Bool} {p : Pos}
theorem re_intI (h : RE X W Γ e mi (.fz rI)) (hm : X.mg "int" = none) (hg : Gl X "int" := by rfl) (he : starEach [e] X.env = [(false, eval e X.env)] := by rfl) : RE X W Γ (.Call (.Name "int" p) [e] [] pos) mi (.fz rI) :=
  re_of (pe_callTy (T := "int") call_int1 hg hm (by decide +kernel) (pa_cons peE pa_nil he) (by decide) (by decide) he rfl) fun G σ F H Q o q => h G σ F H _ o (mi.mono (fun i hx v F' H' o' g' z => by
    obtain rfl : v = .int i := z
    exact .inl ⟨i, rfl, hx _ F' H' o' g' rfl⟩) (fun _ z => z) q)
theorem re_intB (h : RE X W Γ e mb (.fz rB)) (hm : X.mg "int" = none) (hg : Gl X "int" := by rfl) (he : starEach [e] X.env = [(false, eval e X.env)] := by rfl) : RE X W Γ (.Call (.Name "int" p) [e] [] pos) (mb >>= fun c => pure (if c then (1 : Int) else 0)) (.fz rI) :=
  re_of (pe_callTy (T := "int") call_int1 hg hm (by decide +kernel) (pa_cons peE pa_nil he) (by decide) (by decide) he rfl) fun G σ F H Q o q => h G σ F H _ o (mb.mono (fun c hx v F' H' o' g' z => by
    obtain rfl : v = .bl c := z
    exact .inr ⟨c, rfl, hx _ F' H' o' g' rfl⟩) (fun _ z => z) q)
theorem re_abs (h : RE X W Γ e mi (.fz rI)) (hm : X.mg "abs" = none) (hg : Gl X "abs" := by rfl) (he : starEach [e] X.env = [(false, eval e X.env)] := by rfl) : RE X W Γ (.Call (.Name "abs" p) [e] [] pos) (mi >>= fun i => pure (i.natAbs : Int)) (.fz rI) :=
  re_of (pe_callB call_abs hg hm (by decide +kernel) (pa_cons peE pa_nil he) (by decide) (by decide) he rfl) fun G σ F H Q o q => h G σ F H _ o (mi.mono (fun i hx v F' H' o' g' z => by
    obtain rfl : v = .int i := z
    refine ⟨i, rfl, hx _ F' H' o' g' ?_⟩
    show V.int _ = V.int _
    congr 1
    split <;> omega) (fun _ z => z) q)
theorem re_max2 (ha : RE X W Γ a mi (.fz rI)) (hb : RE X W Γ b mj (.fz rI)) (hm : X.mg "max" = none) (hc : X.calm = true := by rfl) (hg : Gl X "max" := by rfl) (he : starEach [a, b] X.env = (false, eval a X.env) :: starEach [b] X.env := by rfl) (he2 : starEach [b] X.env = [(false, eval b X.env)] := by rfl) (hpl : (backTo pos (starEach [b] X.env)).any (·.1) = false := by rfl) : RE X W Γ (.Call (.Name "max" p) [a, b] [] pos) (mi >>= fun i => mj >>= fun j => pure (max i j)) (.fz rI) :=
  re_of (pe_callB (call_max2 hc) hg hm (by decide +kernel) (pa_cons peE (pa_cons peE pa_nil he2) he) (by decide) (by decide) he hpl) fun G σ F H Q o q => ha G σ F H _ o (mi.mono (fun i hx v F' H' o' g' z => by
    refine hb G σ F' H' _ o' (mj.mono (fun j hy u F2 H2 o2 g2 z2 => ?_) (fun _ => EQ.step g') hx)
    obtain rfl : v = .int i := z
    obtain rfl : u = .int j := z2
    refine ⟨i, j, rfl, hy _ F2 H2 o2 (g'.trans g2 owns_tr) ?_⟩
    show V.int _ = V.int _
    congr 1
    split <;> omega) (fun _ z => z) q)
theorem re_min2 (ha : RE X W Γ a mi (.fz rI)) (hb : RE X W Γ b mj (.fz rI)) (hm : X.mg "min" = none) (hc : X.calm = true := by rfl) (hg : Gl X "min" := by rfl) (he : starEach [a, b] X.env = (false, eval a X.env) :: starEach [b] X.env := by rfl) (he2 : starEach [b] X.env = [(false, eval b X.env)] := by rfl) (hpl : (backTo pos (starEach [b] X.env)).any (·.1) = false := by rfl) : RE X W Γ (.Call (.Name "min" p) [a, b] [] pos) (mi >>= fun i => mj >>= fun j => pure (min i j)) (.fz rI) :=
  re_of (pe_callB (call_min2 hc) hg hm (by decide +kernel) (pa_cons peE (pa_cons peE pa_nil he2) he) (by decide) (by decide) he hpl) fun G σ F H Q o q => ha G σ F H _ o (mi.mono (fun i hx v F' H' o' g' z => by
    refine hb G σ F' H' _ o' (mj.mono (fun j hy u F2 H2 o2 g2 z2 => ?_) (fun _ => EQ.step g') hx)
    obtain rfl : v = .int i := z
    obtain rfl : u = .int j := z2
    refine ⟨i, j, rfl, hy _ F2 H2 o2 (g'.trans g2 owns_tr) ?_⟩
    show V.int _ = V.int _
    congr 1
    split <;> omega) (fun _ z => z) q)
end
/-! in -/
section
variable {γ : Type} {ma : Mo γ} {mb : Mo (List γ)} {ρ : γ → Pr} [s : Sc ρ] {k : Bool}
theorem re_in {neg : Bool} {op : CmpOp} (ho : OpR X (compareOp op) (rIn X.K neg)) (hf : ∀ x, flatV (s.v x) = true) (he : ∀ x y, eqV (s.v x) (s.v y) = decide (s.v x = s.v y)) (ha : RE X W Γ a ma (.fz ρ)) (hb : RSq X W Γ k b mb ρ) (hm : behindInMarks op b = false) :
    RE X W Γ (.Compare a [op] [b] pos) (ma >>= fun x => mb >>= fun xs => pure (if neg then !(xs.any fun y => decide (s.v y = s.v x)) else xs.any fun y => decide (s.v y = s.v x))) (.fz rB) := by
  refine re_of (pe_cmpR ho peE peE hm) fun G σ F H Q o q => ?_
  refine ha G σ F H _ o (ma.mono (fun x hx v F' H' o' g' z => ?_) (fun _ z => z) q)
  refine hb G σ F' H' _ o' (mb.mono (fun xs hy ad vs F2 H2 o2 g2 z1 z2 => ?_) (fun _ => EQ.step g') hx)
  have e := z2.sc
  have e2 := s.is (x := x) (u := v) (F := F') z
  subst e e2
  refine ⟨ad, _, rfl, z1.or o2.le, hf x, by simp [hf], ?_⟩
  have w := hy _ F2 H2 o2 (g'.trans g2 owns_tr) rfl
  have e3 : inV (s.v x) (xs.map s.v) = xs.any fun y => decide (s.v y = s.v x) := by
    unfold inV
    rw [List.any_map]
    congr 1
    funext y
    exact he y x
  rw [e3]
  exact w
end
theorem eqV_int (i j : Int) : eqV (.int i) (.int j) = decide (V.int i = V.int j) := dec_int.symm
theorem eqV_str (i j : Str) : eqV (.str i) (.str j) = decide (V.str i = V.str j) := dec_str.symm
theorem anyI (i : Int) (xs : List Int) : (xs.any fun y => decide (V.int y = V.int i)) = decide (i ∈ xs) := by
  rw [Bool.eq_iff_iff]
  simp
theorem anyS (i : Str) (xs : List Str) : (xs.any fun y => decide (V.str y = V.str i)) = decide (i ∈ xs) := by
  rw [Bool.eq_iff_iff]
  simp
section
variable {mi : Mo Int} {ms : Mo Str} {mis : Mo (List Int)} {mss : Mo (List Str)} {k : Bool}
theorem re_inI (ha : RE X W Γ a mi (.fz rI)) (hb : RSq X W Γ k b mis rI) (hm : behindInMarks .In b = false := by rfl) : RE X W Γ (.Compare a [.In] [b] pos) (mi >>= fun i => mis >>= fun xs => pure (decide (i ∈ xs))) (.fz rB) := by
  have h : RE X W Γ (.Compare a [.In] [b] pos) (mi >>= fun x => mis >>= fun xs => pure ((xs.any fun y => decide (V.int y = V.int x)))) (.fz rB) := re_in (s := scI) (pos := pos) op_in_seq (fun _ => rfl) eqV_int ha hb hm
  simp only [anyI] at h
  exact h
theorem re_ninI (ha : RE X W Γ a mi (.fz rI)) (hb : RSq X W Γ k b mis rI) (hm : behindInMarks .NotIn b = false := by rfl) : RE X W Γ (.Compare a [.NotIn] [b] pos) (mi >>= fun i => mis >>= fun xs => pure (!decide (i ∈ xs))) (.fz rB) := by
  have h : RE X W Γ (.Compare a [.NotIn] [b] pos) (mi >>= fun x => mis >>= fun xs => pure (!(xs.any fun y => decide (V.int y = V.int x)))) (.fz rB) := re_in (s := scI) (pos := pos) op_notIn_seq (fun _ => rfl) eqV_int ha hb hm
  simp only [anyI] at h
  exact h
theorem re_inS (ha : RE X W Γ a ms (.fz rS)) (hb : RSq X W Γ k b mss rS) (hm : behindInMarks .In b = false := by rfl) : RE X W Γ (.Compare a [.In] [b] pos) (ms >>= fun i => mss >>= fun xs => pure (decide (i ∈ xs))) (.fz rB) := by
  have h : RE X W Γ (.Compare a [.In] [b] pos) (ms >>= fun x => mss >>= fun xs => pure ((xs.any fun y => decide (V.str y = V.str x)))) (.fz rB) := re_in (s := scS) (pos := pos) op_in_seq (fun _ => rfl) eqV_str ha hb hm
  simp only [anyS] at h
  exact h
theorem re_ninS (ha : RE X W Γ a ms (.fz rS)) (hb : RSq X W Γ k b mss rS) (hm : behindInMarks .NotIn b = false := by rfl) : RE X W Γ (.Compare a [.NotIn] [b] pos) (ms >>= fun i => mss >>= fun xs => pure (!decide (i ∈ xs))) (.fz rB) := by
  have h : RE X W Γ (.Compare a [.NotIn] [b] pos) (ms >>= fun x => mss >>= fun xs => pure (!(xs.any fun y => decide (V.str y = V.str x)))) (.fz rB) := re_in (s := scS) (pos := pos) op_notIn_seq (fun _ => rfl) eqV_str ha hb hm
  simp only [anyS] at h
  exact h
end
end
end RF
namespace RF
open PySem PySem.Spec PyProof.Rows L2 KO SX

/-! ### statements -/
/-- how a block comes to its end -/
inductive Fin where
  | ret (R : V → Hp → Hp → Hp → Prop)
  | nx (Γ : Ctx)
  | nxa (Γ : (Nat → Addr) → Ctx)
  | bk (Γ : Ctx)
  | nc (Γ : Ctx)
def FinOk (G : Gf) (Γe : Ctx) (D : Ends) (F0 : Hp) : Fin → Prop
  | .ret R => ∀ v σ F H, Same G.F0 F → Ok G Γe σ F H → R v G.H0 F H → D.rt v H
  | .nx Γ => ∀ σ F H, Same G.F0 F → Ok G Γ σ F H → D.nx σ H
  | .nxa Γ => ∀ f σ F H, Same G.F0 F → Ok G (Γ f) σ F H → D.nx σ H
  | .bk Γ => ∀ σ F H, Same G.F0 F → Ok G Γ σ F H → D.bk σ H
  | .nc Γ => ∀ σ F H, Same G.F0 F → Ok G Γ σ F H → D.nx σ H ∧ D.ct σ H
theorem FinOk.step {G : Gf} {Γe : Ctx} {D : Ends} {F0 F1 : Hp} {z : Fin} (q : FinOk G Γe D F0 z) : FinOk G Γe D F1 z := by
  cases z <;> exact q
def XQ (X : Cx) (W : WX) (G : Gf) (Γe : Ctx) (F0 : Hp) (ex : Ex) : Prop := ∀ cls d σ F H, Same G.F0 F → Ok G Γe σ F H → ErrOk X.K X.mg ex cls d F → W cls d σ H
theorem XQ.step {X : Cx} {W : WX} {G : Gf} {Γe : Ctx} {F0 F1 : Hp} {ex : Ex} (_s : Same F0 F1) (q : XQ X W G Γe F0 ex) : XQ X W G Γe F1 ex := q
theorem XQ.any {X : Cx} {W : WX} {G : Gf} {Γe : Ctx} {F0 F1 : Hp} {ex : Ex} (q : XQ X W G Γe F0 ex) : XQ X W G Γe F1 ex := q
section
variable {α β γ δ : Type}
/-- a block, told by m whose outcomes end as Z says; lv: it never runs off its end -/
def RB (X : Cx) (W : WX) (Γe : Ctx) (lv : Bool) (Γ : Ctx) (l : List Stmt) (m : Mo γ) (Z : γ → Fin) : Prop :=
  Le Γe Γ → ∀ G σ F H (D : Ends) (nx' : L2.St → Hp → Prop), (lv = false → nx' = D.nx) → Ok G Γ σ F H → m.run (fun x => FinOk G Γe D F (Z x)) (XQ X W G Γe F) → tSs X l { D with nx := nx' } σ H
variable {X : Cx} {W : WX} {Γe Γ Γ' : Ctx} {lv : Bool} {st : Stmt} {rest : List Stmt} {m : Mo γ} {Z : γ → Fin} {t : TE} {e : Expr} {pos : Pos}
theorem run_fin {G : Gf} {D : Ends} {F F1 : Hp} {m : Mo γ} (_s : Same F F1) (q : m.run (fun x => FinOk G Γe D F (Z x)) (XQ X W G Γe F)) : m.run (fun x => FinOk G Γe D F1 (Z x)) (XQ X W G Γe F1) := m.mono (fun _ => FinOk.step) (fun _ => XQ.any) q
theorem run_any {G : Gf} {D : Ends} {F F1 : Hp} {m : Mo γ} (q : m.run (fun x => FinOk G Γe D F (Z x)) (XQ X W G Γe F)) : m.run (fun x => FinOk G Γe D F1 (Z x)) (XQ X W G Γe F1) := m.mono (fun _ => FinOk.step) (fun _ => XQ.any) q
theorem XQ.eq {G : Gf} {σ : L2.St} {F H : Hp} {ex : Ex} (le : Le Γe Γ) (q : XQ X W G Γe F ex) : EQ X W G Γ σ F H ex := fun c d F' H' o g z => q c d σ F' H' o.go.fs (o.weak le) z
theorem rb_nil {x : γ} (hz : Z x = .nx Γ' ∨ Z x = .nc Γ') (hl : Le Γ' Γ) : RB X W Γe false Γ [] (pure x) Z := fun le G σ F H D nx' hn o q => by
  obtain rfl := hn rfl
  refine fun pins s I => pss_nil.run pins s σ H _ I ?_
  have q : FinOk G Γe D F (Z x) := q
  rcases hz with hz | hz
  · rw [hz] at q; exact q σ F H o.go.fs (o.weak hl)
  · rw [hz] at q; exact (q σ F H o.go.fs (o.weak hl)).1
theorem tSs_cons {t : TS} {D : Ends} {σ : L2.St} {H : Hp} (h : PS X st t) (q : t { D with nx := tSs X rest D } σ H) : tSs X (st :: rest) D σ H := fun pins s I => (pss_cons h pssS).run pins s σ H D I q
/-- x = e -/
theorem rb_set {i : Nat} {me : Mo α} {ρ : α → Pr} {mr : α → Mo γ} (hs : PS X st (tAsg t (gName i))) (he : RTE X W Γ t me (.fz ρ)) (hi : Γe[i]? = some .un) (hr : ∀ x, RB X W Γe lv (Γ.set i (.fz (ρ x))) rest (mr x) Z) : RB X W Γe lv Γ (st :: rest) (me >>= mr) Z := fun le G σ F H D nx' hn o q =>
  tSs_cons hs (he G σ F H _ o (me.mono (fun x hx v F' H' o' g' z => hr x (le.set hi) G _ F' H' D nx' hn (o'.set z) (run_fin g'.fs hx)) (fun _ => XQ.eq le) q))
/-- x = e, a new thing of one's own -/
theorem rb_setO {i : Nat} {me : Mo α} {ρ : α → Po} {mr : α → Mo γ} (hs : PS X st (tAsg t (gName i))) (he : RTE X W Γ t me (.ow ρ)) (hi : Γe[i]? = some .un) (hr : ∀ x a, RB X W Γe lv (Γ.set i (.ow true a (ρ x))) rest (mr x) Z) : RB X W Γe lv Γ (st :: rest) (me >>= mr) Z := fun le G σ F H D nx' hn o q =>
  tSs_cons hs (he G σ F H _ o (me.mono (fun x hx v F' H' o' g' z => by
    obtain ⟨a, u, rfl, h1, h2, h3, h4⟩ := z
    refine hr x a (le.set hi) G _ F' H' D nx' hn (o'.setO ?_ h2 (fun hm => ?_) h3 h4) (run_fin g'.fs hx)
    · cases q : G.H0 a with
      | none => rfl
      | some y =>
        obtain ⟨y', e'⟩ := o.go.th _ _ q
        rw [h1] at e'; cases e'
    · obtain ⟨w, hw⟩ := o.ownH hm
      rw [h1] at hw; cases hw) (fun _ => XQ.eq le) q))
/-- the own thing of slot i is changed no more -/
theorem rb_frz {i : Nat} {a : Addr} {q : Po} {p : Pr} (hi : Γ[i]? = some (.ow true a q)) (hc : ∀ u F, F a = some u → q.r u F → p.r (.ref a) F) (he : Γe[i]? = some .un) (hr : RB X W Γe lv (Γ.set i (.fz p)) rest m Z) : RB X W Γe lv Γ rest m Z := fun le G σ F H D nx' hn o r => by
  obtain ⟨u, h1, h2, o2⟩ := o.frz hi
  have s : Same F (upd F a u) := same_upd (o.en i _ hi).2.1
  have hv : σ[i]? = some (some (.ref a)) := (o.en i _ hi).1
  have o3 := o2.set (i := i) (v := .ref a) (p := p) (hc u _ upd_same (q.mono s h2))
  have e1 : (Γ.set i .un).set i (.fz p) = Γ.set i (.fz p) := by simp
  have e2 : σ.set i (some (.ref a)) = σ := by
    refine List.ext_getElem? fun j => ?_
    by_cases hj : i = j
    · subst hj
      rw [List.getElem?_set_self (List.getElem?_eq_some_iff.mp hv).1, hv]
    · rw [List.getElem?_set_ne hj]
  rw [e1, e2] at o3
  exact hr (le.set he) G σ _ H D nx' hn o3 (run_fin s r)
/-- less is known from here -/
theorem rb_weak (hl : Le Γ' Γ) (he : Le Γe Γ') (hr : RB X W Γe lv Γ' rest m Z) : RB X W Γe lv Γ rest m Z := fun _ G σ F H D nx' hn o r => hr he G σ F H D nx' hn (o.weak hl) r
/-- an expression alone -/
theorem rb_expr {me : Mo α} {ρ : α → Pr} {mr : α → Mo γ} (hs : PS X st (tDrop t)) (he : RTE X W Γ t me (.fz ρ)) (hr : ∀ x, RB X W Γe lv Γ rest (mr x) Z) : RB X W Γe lv Γ (st :: rest) (me >>= mr) Z := fun le G σ F H D nx' hn o q =>
  tSs_cons hs (he G σ F H _ o (me.mono (fun x hx v F' H' o' g' z => hr x le G σ F' H' D nx' hn o' (run_fin g'.fs hx)) (fun _ => XQ.eq le) q))
/-- return e -/
theorem rb_ret {me : Mo α} {k : RK α} (kx : α → γ) (he : RE X W Γ e me k) (hz : ∀ x, Z (kx x) = .ret (k.ok x)) : RB X W Γe lv Γ (.Return (some e) pos :: rest) (me >>= fun x => pure (kx x)) Z := fun le G σ F H D nx' hn o q =>
  tSs_cons (ps_ret peE) (he G σ F H _ o (me.mono (fun x hx v F' H' o' g' z => by
    have hx : FinOk G Γe D F (Z (kx x)) := hx
    rw [hz x] at hx
    exact hx v σ F' H' o'.go.fs (o'.weak le) (z.back o.go.th)) (fun _ => XQ.eq le) q))
theorem rb_retO {i : Nat} {a : Addr} {q : Po} {x : Str} {p : Pos} {y : γ} {z : δ} {k : δ → Po} (hi : Γ[i]? = some (.ow true a q)) (hp : PE X (.Name x p) (tVar i)) (hz : Z y = .ret ((RK.ow k).ok z)) (hk : k z = q) : RB X W Γe lv Γ (.Return (some (.Name x p)) pos :: rest) (pure y) Z := fun le G σ F H D nx' hn o r =>
  tSs_cons (ps_ret hp) (by
    have r : FinOk G Γe D F (Z y) := r
    rw [hz] at r
    obtain ⟨h1, h2, h3, u, h4, h5⟩ := o.en i _ hi
    exact ⟨.ref a, h1, r _ σ F H o.go.fs (o.weak le) ⟨a, u, rfl, h3, h2, h4, by rw [hk]; exact h5⟩⟩)
theorem rb_retN {y : γ} (hz : Z y = .ret ((RK.fz rN).ok ())) : RB X W Γe lv Γ (.Return none pos :: rest) (pure y) Z := fun le G σ F H D nx' hn o r =>
  tSs_cons ps_retN (by
    have r : FinOk G Γe D F (Z y) := r
    rw [hz] at r
    exact r _ σ F H o.go.fs (o.weak le) rfl)
theorem rb_brk {y : γ} (hz : Z y = .bk Γ') (hl : Le Γ' Γ) : RB X W Γe lv Γ (.Break pos :: rest) (pure y) Z := fun le G σ F H D nx' hn o r =>
  tSs_cons ps_break (by
    have r : FinOk G Γe D F (Z y) := r
    rw [hz] at r
    exact r σ F H o.go.fs (o.weak hl))
theorem rb_cont {y : γ} (hz : Z y = .nc Γ') (hl : Le Γ' Γ) : RB X W Γe lv Γ (.Continue pos :: rest) (pure y) Z := fun le G σ F H D nx' hn o r =>
  tSs_cons ps_continue (by
    have r : FinOk G Γe D F (Z y) := r
    rw [hz] at r
    exact (r σ F H o.go.fs (o.weak hl)).2)
theorem rb_pass (hr : RB X W Γe lv Γ rest m Z) : RB X W Γe lv Γ (.Pass pos :: rest) m Z := fun le G σ F H D nx' hn o q => tSs_cons ps_pass (hr le G σ F H D nx' hn o q)
/-- if: the branch leaves -/
theorem rb_if1 {c : Expr} {a : List Stmt} {mc : Mo Bool} {ma mr : Mo γ} (hc : RT X W Γ c mc) (ha : RB X W Γe true Γ a ma Z) (hr : RB X W Γe lv Γ rest mr Z) : RB X W Γe lv Γ (.If c a [] pos :: rest) (mc >>= fun b => if b = true then ma else mr) Z := fun le G σ F H D nx' hn o q =>
  tSs_cons (ps_if ptT pssS pss_nil) (hc G σ F H _ o (mc.mono (fun b hx F' H' o' g' => by
    cases b with
    | true => exact iteT (ha le G σ F' H' D _ (fun z => by cases z) o' (run_fin g'.fs (by simpa using hx)))
    | false => exact iteF (hr le G σ F' H' D nx' hn o' (run_fin g'.fs (by simpa using hx)))) (fun _ => XQ.eq le) q))
/-- if: the last statement -/
theorem rb_if0 {c : Expr} {a b : List Stmt} {mc : Mo Bool} {ma mb : Mo γ} (hc : RT X W Γ c mc) (ha : RB X W Γe lv Γ a ma Z) (hb : RB X W Γe lv Γ b mb Z) : RB X W Γe lv Γ [.If c a b pos] (mc >>= fun k => if k = true then ma else mb) Z := fun le G σ F H D nx' hn o q => by
  refine fun pins s I => (pss_one (ps_if ptT pssS pssS)).run pins s σ H _ I ?_
  exact hc G σ F H _ o (mc.mono (fun k hx F' H' o' g' => by
    cases k with
    | true => exact iteT (ha le G σ F' H' D nx' hn o' (run_fin g'.fs (by simpa using hx)))
    | false => exact iteF (hb le G σ F' H' D nx' hn o' (run_fin g'.fs (by simpa using hx)))) (fun _ => XQ.eq le) q)
/-- if: both branches leave, so nothing follows -/
theorem rb_if2 {c : Expr} {a b : List Stmt} {mc : Mo Bool} {ma mb : Mo γ} (hc : RT X W Γ c mc) (ha : RB X W Γe true Γ a ma Z) (hb : RB X W Γe true Γ b mb Z) : RB X W Γe lv Γ (.If c a b pos :: rest) (mc >>= fun k => if k = true then ma else mb) Z := fun le G σ F H D nx' hn o q =>
  tSs_cons (ps_if ptT pssS pssS) (hc G σ F H _ o (mc.mono (fun k hx F' H' o' g' => by
    cases k with
    | true => exact iteT (ha le G σ F' H' D _ (fun z => by cases z) o' (run_fin g'.fs (by simpa using hx)))
    | false => exact iteF (hb le G σ F' H' D _ (fun z => by cases z) o' (run_fin g'.fs (by simpa using hx)))) (fun _ => XQ.eq le) q))
/-- if: both branches run on; what they leave is Γj -/
theorem rb_ifJ {c : Expr} {a b : List Stmt} {mc : Mo Bool} {ma mb : Mo δ} {mr : δ → Mo γ} (Γj : δ → Ctx) (hc : RT X W Γ c mc) (ha : RB X W Γe false Γ a ma (fun j => .nx (Γj j))) (hb : RB X W Γe false Γ b mb (fun j => .nx (Γj j))) (hl : ∀ j, Le Γe (Γj j)) (hr : ∀ j, RB X W Γe lv (Γj j) rest (mr j) Z) :
    RB X W Γe lv Γ (.If c a b pos :: rest) (mc >>= fun k => (if k = true then ma else mb) >>= mr) Z := fun le G σ F H D nx' hn o q =>
  tSs_cons (ps_if ptT pssS pssS) (hc G σ F H _ o (mc.mono (fun k hx F' H' o' g' => by
    have key : ∀ j, (mr j).run (fun x => FinOk G Γe D F (Z x)) (XQ X W G Γe F) → FinOk G Γe { D with nx := tSs X rest { D with nx := nx' } } F' (.nx (Γj j)) := fun j hj σ2 F2 H2 s2 o2 => hr j (hl j) G σ2 F2 H2 D nx' hn o2 (run_any hj)
    cases k with
    | true => exact iteT (ha le G σ F' H' { D with nx := tSs X rest { D with nx := nx' } } _ (fun _ => rfl) o' (ma.mono key (fun _ => XQ.step g'.fs) (by simpa using hx)))
    | false => exact iteF (hb le G σ F' H' { D with nx := tSs X rest { D with nx := nx' } } _ (fun _ => rfl) o' (mb.mono key (fun _ => XQ.step g'.fs) (by simpa using hx)))) (fun _ => XQ.eq le) q))
/-- if: the first branch leaves, the second runs on -/
theorem rb_ifL {c : Expr} {a b : List Stmt} {mc : Mo Bool} {ma : Mo γ} {mb : Mo δ} {mr : δ → Mo γ} (Γj : δ → Ctx) (hc : RT X W Γ c mc) (ha : RB X W Γe true Γ a ma Z) (hb : RB X W Γe false Γ b mb (fun j => .nx (Γj j))) (hl : ∀ j, Le Γe (Γj j)) (hr : ∀ j, RB X W Γe lv (Γj j) rest (mr j) Z) :
    RB X W Γe lv Γ (.If c a b pos :: rest) (mc >>= fun k => if k = true then ma else mb >>= mr) Z := fun le G σ F H D nx' hn o q =>
  tSs_cons (ps_if ptT pssS pssS) (hc G σ F H _ o (mc.mono (fun k hx F' H' o' g' => by
    have key : ∀ j, (mr j).run (fun x => FinOk G Γe D F (Z x)) (XQ X W G Γe F) → FinOk G Γe { D with nx := tSs X rest { D with nx := nx' } } F' (.nx (Γj j)) := fun j hj σ2 F2 H2 s2 o2 => hr j (hl j) G σ2 F2 H2 D nx' hn o2 (run_any hj)
    cases k with
    | true => exact iteT (ha le G σ F' H' D _ (fun z => by cases z) o' (run_fin g'.fs (by simpa using hx)))
    | false => exact iteF (hb le G σ F' H' { D with nx := tSs X rest { D with nx := nx' } } _ (fun _ => rfl) o' (mb.mono key (fun _ => XQ.step g'.fs) (by simpa using hx)))) (fun _ => XQ.eq le) q))
/-! own lists changed -/
variable {ρ : α → Pr} {i : Nat} {l : Bool} {ad : Addr} {xs : List α}
/-- x.append(e) -/
theorem rb_app {me : Mo α} {mr : α → Mo γ} (hs : PS X st (tDrop (tBM X.K "list" rAppend (tVar i) (tCons (tE X e) tNil)))) (hi : Γ[i]? = some (.ow l ad (oL ρ xs))) (he : RE X W Γ e me (.fz ρ)) (hie : Γe[i]? = some .un) (hr : ∀ x, RB X W Γe lv (Γ.set i (.ow l ad (oL ρ (xs ++ [x])))) rest (mr x) Z) :
    RB X W Γe lv Γ (st :: rest) (me >>= fun x => Mo.rq (xs.length < sizeLine) x >>= mr) Z := fun le G σ F H D nx' hn o q =>
  tSs_cons hs (by
    obtain ⟨h1, _, _, u, hu, vs, rfl, hps⟩ := o.en i _ hi
    refine ⟨.ref ad, h1, .inl ⟨rfl, vs, SqL.of hu⟩, ?_⟩
    refine he G σ F H _ o (me.mono (fun x hx v F' H' o' g' z => ?_) (fun _ => XQ.eq le) q)
    obtain ⟨_, _, _, u2, hu2, vs2, rfl, hps2⟩ := o'.en i _ hi
    refine ⟨ad, vs2, v, rfl, rfl, hu2, by rw [hps2.len, List.length_map]; exact hx.1, ?_⟩
    refine hr x (le.set hie) G σ F' _ D nx' hn (o'.put (q := oL ρ (xs ++ [x])) hi ⟨_, rfl, ?_⟩) (run_fin g'.fs hx.2)
    rw [List.map_append]
    exact hps2.app ⟨z, trivial⟩)
/-- x[j] = e -/
theorem rb_setix {ei : Expr} {me : Mo α} {mi : Mo Int} {mr : α → Int → Nat → Mo γ} (hs : PS X st (tAsg (tE X e) (gSub (tVar i) (tE X ei) rSetL))) (hi : Γ[i]? = some (.ow l ad (oL ρ xs))) (he : RE X W Γ e me (.fz ρ)) (hj : RE X W Γ ei mi (.fz rI)) (hie : Γe[i]? = some .un)
    (hr : ∀ x j n, RB X W Γe lv (Γ.set i (.ow l ad (oL ρ (xs.set n x)))) rest (mr x j n) Z) :
    RB X W Γe lv Γ (st :: rest) (me >>= fun x => mi >>= fun j => Mo.get (ixN xs.length j) >>= fun n => mr x j n) Z := fun le G σ F H D nx' hn o q =>
  tSs_cons hs (by
    refine he G σ F H _ o (me.mono (fun x hx v F1 H1 o1 g1 z1 => ?_) (fun _ => XQ.eq le) q)
    refine ⟨.ref ad, (o1.en i _ hi).1, ?_⟩
    refine hj G σ F1 H1 _ o1 (mi.mono (fun j hx w F2 H2 o2 g2 z2 => ?_) (fun _ z => XQ.eq le (XQ.step g1.fs z)) hx)
    obtain ⟨_, _, _, u, hu, vs, rfl, hps⟩ := o2.en i _ hi
    obtain ⟨n, hn', hx⟩ := hx
    refine ⟨ad, vs, j, n, rfl, z2, hu, by rw [hps.len, List.length_map]; exact hn', ?_⟩
    refine hr x j n (le.set hie) G σ F2 _ D nx' hn (o2.put (q := oL ρ (xs.set n x)) hi ⟨_, rfl, ?_⟩) (run_fin (g1.fs.trans g2.fs) hx)
    rw [List.map_set]
    exact hps.set n ((ρ x).mono g2.fs z1))
end
end RF
namespace RF
open PySem PySem.Spec PyProof.Rows L2 KO SX

/-! ### walks -/
/-- what J gives: the items xs, each as ρ says, whatever is frozen behind F1 -/
def Src {α : Type} (J : It) (xs : List α) (ρ : α → Pr) (F1 : Hp) : Prop :=
  ∀ F2 H2, Same F1 F2 → Same F2 H2 → (∀ i, i < xs.length → J.go i H2) ∧ J.stop xs.length H2 ∧ ∀ i x v H3, xs[i]? = some x → J.yld i H2 v H3 → ∃ F3, Go [] F2 H2 F3 H3 ∧ (ρ x).r v F3
section
variable {α β γ δ : Type} {X : Cx} {W : WX} {Γe Γ Γ' : Ctx} {lv : Bool} {e tg iter : Expr} {pos : Pos}
def RI (X : Cx) (W : WX) (Γ : Ctx) (wi : TI) (m : Mo (List α)) (ρ : α → Pr) : Prop := ∀ G σ F H R, Ok G Γ σ F H → m.run (fun xs => ∀ J F' H', Ok G Γ σ F' H' → Go (owns Γ) F H F' H' → Src J xs ρ F' → R J H') (EQ X W G Γ σ F H) → wi σ H R
variable {m : Mo (List α)} {ρ : α → Pr}
theorem src_list {K : PySem.W.Frag} {F : Hp} {a : Addr} {vs : List V} {xs : List α} (h : F a = some (.lst vs)) (hp : Ps F (xs.map ρ) vs) : Src (Itl K a) xs ρ F := fun F2 H2 s1 s2 => by
  have h2 : SqL K H2 a vs := SqL.of (s2 _ _ (s1 _ _ h))
  have w := walk_list (K := K) (a := a) (xs := vs)
  have hl : vs.length = xs.length := by rw [hp.len, List.length_map]
  refine ⟨fun i hi => w.goes i H2 (by rw [hl]; exact hi) h2, hl ▸ w.stops H2 h2, fun i x v H3 hx y => ?_⟩
  obtain ⟨rfl, e⟩ := w.yields i H2 v H3 (by rw [hl]; exact (List.getElem?_eq_some_iff.mp hx).1) h2 y
  obtain ⟨u, h3, h4⟩ := hp.get (i := i) (p := ρ x) (by rw [List.getElem?_map, hx]; rfl)
  rw [e] at h3
  cases h3
  exact ⟨F2, Go.refl s2, (ρ x).mono s1 h4⟩
theorem src_tup {K : PySem.W.Frag} {F : Hp} {a : Addr} {vs : List V} {xs : List α} (h : Rd F a (.tup vs)) (hp : Ps F (xs.map ρ) vs) : Src (Itt K a) xs ρ F := fun F2 H2 s1 s2 => by
  have h2 : SqT K H2 a vs := SqT.ofR (Rd.mono h (s1.trans s2))
  have w := walk_tup (K := K) (a := a) (xs := vs)
  have hl : vs.length = xs.length := by rw [hp.len, List.length_map]
  refine ⟨fun i hi => w.goes i H2 (by rw [hl]; exact hi) h2, hl ▸ w.stops H2 h2, fun i x v H3 hx y => ?_⟩
  obtain ⟨rfl, e⟩ := w.yields i H2 v H3 (by rw [hl]; exact (List.getElem?_eq_some_iff.mp hx).1) h2 y
  obtain ⟨u, h3, h4⟩ := hp.get (i := i) (p := ρ x) (by rw [List.getElem?_map, hx]; rfl)
  rw [e] at h3
  cases h3
  exact ⟨F2, Go.refl s2, (ρ x).mono s1 h4⟩
theorem ri_list (h : RE X W Γ e m (.fz (rL ρ))) : RI X W Γ (iList X.K (tE X e)) m ρ := fun G σ F H R o q => by
  refine h G σ F H _ o (m.mono (fun xs hx v F' H' o' g' z => ?_) (fun _ z => z) q)
  obtain ⟨a, vs, rfl, h1, h2⟩ := z
  exact ⟨a, rfl, ⟨vs, SqL.of (o'.le _ _ h1)⟩, hx _ F' H' o' g' (src_list h1 h2)⟩
theorem ri_tup (h : RE X W Γ e m (.fz (rTs ρ))) : RI X W Γ (iTup X.K (tE X e)) m ρ := fun G σ F H R o q => by
  refine h G σ F H _ o (m.mono (fun xs hx v F' H' o' g' z => ?_) (fun _ z => z) q)
  obtain ⟨a, vs, rfl, h1, h2⟩ := z
  exact ⟨a, rfl, ⟨vs, SqT.ofR (Rd.mono h1 o'.le)⟩, hx _ F' H' o' g' (src_tup h1 h2)⟩
/-- lo, lo + 1, .. n of them -/
def rangeL (lo : Int) (n : Nat) : List Int := (List.range n).map fun (i : Nat) => lo + (i : Int)
theorem src_range {lo : Int} {n : Nat} {F : Hp} : Src (Itr lo n) (rangeL lo n) rI F := fun F2 H2 s1 s2 => by
  have w := walk_range (lo := lo) (n := n)
  have hl : (rangeL lo n).length = n := by simp [rangeL]
  refine ⟨fun i hi => w.goes i H2 (by rw [← hl]; exact hi) trivial, by rw [hl]; exact w.stops H2 trivial, fun i x v H3 hx y => ?_⟩
  have hi : i < n := by rw [← hl]; exact (List.getElem?_eq_some_iff.mp hx).1
  obtain ⟨rfl, e⟩ := w.yields i H2 v H3 hi trivial y
  refine ⟨F2, Go.refl s2, ?_⟩
  have : x = lo + (i : Int) := by
    simp [rangeL, List.getElem?_map, List.getElem?_range hi] at hx
    exact hx.symm
  rw [this]
  exact e
theorem ri_range1 {me : Mo Int} (h : RE X W Γ e me (.fz rI)) : RI X W Γ (iRng1 (tCons (tE X e) tNil)) (me >>= fun j => Mo.rq (-(2 ^ 62) ≤ j ∧ j < 2 ^ 62) (rangeL 0 j.toNat)) rI := fun G σ F H R o q => by
  refine h G σ F H _ o (me.mono (fun j hx v F' H' o' g' z => ?_) (fun _ z => z) q)
  obtain rfl : v = .int j := z
  exact ⟨j, rfl, hx.1.1, hx.1.2, hx.2 _ F' H' o' g' src_range⟩
theorem ri_range2 {a b : Expr} {ma mb : Mo Int} (ha : RE X W Γ a ma (.fz rI)) (hb : RE X W Γ b mb (.fz rI)) : RI X W Γ (iRng2 (tCons (tE X a) (tCons (tE X b) tNil))) (ma >>= fun i => mb >>= fun j => Mo.rq (-(2 ^ 62) ≤ i ∧ i < 2 ^ 62 ∧ -(2 ^ 62) ≤ j ∧ j < 2 ^ 62) (rangeL i (j - i).toNat)) rI := fun G σ F H R o q => by
  refine ha G σ F H _ o (ma.mono (fun i hx v F' H' o' g' z => ?_) (fun _ z => z) q)
  refine hb G σ F' H' _ o' (mb.mono (fun j hy u F2 H2 o2 g2 z2 => ?_) (fun _ => EQ.step g') hx)
  obtain rfl : v = .int i := z
  obtain rfl : u = .int j := z2
  exact ⟨i, j, rfl, hy.1, hy.2 _ F2 H2 o2 (g'.trans g2 owns_tr) src_range⟩
/-- number and item -/
def enumL (xs : List α) : List (Int × α) := (List.range xs.length).zipWith (fun i x => ((i : Nat), x)) xs
theorem enumL_get {xs : List α} {i : Nat} : (enumL xs)[i]? = xs[i]?.map fun x => ((i : Int), x) := by
  unfold enumL
  rw [List.getElem?_zipWith]
  by_cases h : i < xs.length
  · rw [List.getElem?_range h, List.getElem?_eq_getElem h]
    rfl
  · rw [List.getElem?_eq_none (by simpa using h), List.getElem?_eq_none (by simpa using h)]
    rfl
theorem enumL_len {xs : List α} : (enumL xs).length = xs.length := by simp [enumL]
theorem src_pair {J : It} {n : Nat} {Gd : Hp → Prop} {us ws : Nat → Option V} (w : Walk J n Gd (YPair us ws)) {ys : List β} {π : β → Pr} {σ τ : β → Pr} {F : Hp} (hn : ys.length = n) (hg : ∀ F2 H2, Same F F2 → Same F2 H2 → Gd H2)
    (hy : ∀ i y u v, ys[i]? = some y → us i = some u → ws i = some v → (σ y).r u F ∧ (τ y).r v F) (hπ : ∀ y, π y = rTu [σ y, τ y]) : Src J ys π F := fun F2 H2 s1 s2 => by
  have g := hg F2 H2 s1 s2
  refine ⟨fun i hi => w.goes i H2 (by rw [← hn]; exact hi) g, by rw [hn]; exact w.stops H2 g, fun i y v H3 hx q => ?_⟩
  obtain ⟨T, u, x, rfl, hT, rfl, e1, e2⟩ := w.yields i H2 v H3 (by rw [← hn]; exact (List.getElem?_eq_some_iff.mp hx).1) g q
  obtain ⟨k1, k2⟩ := hy i y u x hx e1 e2
  have gn : Go [] F2 H2 (upd F2 T (.tup [u, x])) (upd H2 T (.tup [u, x])) := Go.new s2 hT
  refine ⟨_, gn, ?_⟩
  rw [hπ y]
  exact ⟨T, _, rfl, .inl upd_same, (σ y).mono (s1.trans gn.fs) k1, (τ y).mono (s1.trans gn.fs) k2, trivial⟩
theorem src_enum {K : PySem.W.Frag} {F : Hp} {a : Addr} {vs : List V} {xs : List α} (h : F a = some (.lst vs)) (hp : Ps F (xs.map ρ) vs) : Src (Ite K a) (enumL xs) (rT2 rI ρ) F := by
  have hl : vs.length = xs.length := by rw [hp.len, List.length_map]
  refine src_pair (β := Int × α) (walk_enum (K := K) (a := a) (xs := vs)) (σ := fun y => rI y.1) (τ := fun y => ρ y.2) (by rw [enumL_len, hl]) (fun F2 H2 s1 s2 => SqL.of (s2 _ _ (s1 _ _ h))) (fun i y u v hy e1 e2 => ?_) (fun _ => rfl)
  rw [enumL_get] at hy
  cases q : xs[i]? with
  | none => rw [q] at hy; cases hy
  | some x =>
    rw [q] at hy
    obtain rfl := Option.some.inj hy
    cases e1
    obtain ⟨w, h3, h4⟩ := hp.get (i := i) (p := ρ x) (by rw [List.getElem?_map, q]; rfl)
    rw [e2] at h3
    cases h3
    exact ⟨rfl, h4⟩
theorem walk_enumT {K : PySem.W.Frag} {a : Addr} {xs : List V} : Walk (IteT K a) xs.length (fun H => SqT K H a xs) (YPair (fun i => some (.int (i : Nat))) (fun i => xs[i]?)) := by
  refine ⟨fun i _ hi q => ⟨xs, xs[i], q, by simp [hi]⟩, fun _ q => ⟨xs, q, Nat.le_refl _⟩, fun i H v H' _ q y => ?_⟩
  obtain ⟨T, x, h1, h2, h3, h4⟩ := y
  exact ⟨T, .int (i : Nat), x, h1, h2, h3, rfl, h4 xs q⟩
theorem src_enumT {K : PySem.W.Frag} {F : Hp} {a : Addr} {vs : List V} {xs : List α} (h : Rd F a (.tup vs)) (hp : Ps F (xs.map ρ) vs) : Src (IteT K a) (enumL xs) (rT2 rI ρ) F := by
  have hl : vs.length = xs.length := by rw [hp.len, List.length_map]
  refine src_pair (β := Int × α) (walk_enumT (K := K) (a := a) (xs := vs)) (σ := fun y => rI y.1) (τ := fun y => ρ y.2) (by rw [enumL_len, hl]) (fun F2 H2 s1 s2 => SqT.ofR (Rd.mono h (s1.trans s2))) (fun i y u v hy e1 e2 => ?_) (fun _ => rfl)
  rw [enumL_get] at hy
  cases q : xs[i]? with
  | none => rw [q] at hy; cases hy
  | some x =>
    rw [q] at hy
    obtain rfl := Option.some.inj hy
    cases e1
    obtain ⟨w, h3, h4⟩ := hp.get (i := i) (p := ρ x) (by rw [List.getElem?_map, q]; rfl)
    rw [e2] at h3
    cases h3
    exact ⟨rfl, h4⟩
theorem ri_enum (h : RE X W Γ e m (.fz (rL ρ))) : RI X W Γ (iEnum X.K (tCons (tE X e) tNil)) (m >>= fun xs => pure (enumL xs)) (rT2 rI ρ) := fun G σ F H R o q => by
  refine h G σ F H _ o (m.mono (fun xs hx v F' H' o' g' z => ?_) (fun _ z => z) q)
  obtain ⟨a, vs, rfl, h1, h2⟩ := z
  exact ⟨a, vs, rfl, SqL.of (o'.le _ _ h1), hx _ F' H' o' g' (src_enum h1 h2)⟩
theorem ri_enumT (h : RE X W Γ e m (.fz (rTs ρ))) : RI X W Γ (iEnumT X.K (tCons (tE X e) tNil)) (m >>= fun xs => pure (enumL xs)) (rT2 rI ρ) := fun G σ F H R o q => by
  refine h G σ F H _ o (m.mono (fun xs hx v F' H' o' g' z => ?_) (fun _ z => z) q)
  obtain ⟨a, vs, rfl, h1, h2⟩ := z
  exact ⟨a, vs, rfl, SqT.ofR (Rd.mono h1 o'.le), hx _ F' H' o' g' (src_enumT h1 h2)⟩
theorem src_zip {K : PySem.W.Frag} {ρ' : β → Pr} {F : Hp} {a b : Addr} {vs us : List V} {xs : List α} {ys : List β} (h : F a = some (.lst vs)) (hp : Ps F (xs.map ρ) vs) (h' : F b = some (.lst us)) (hp' : Ps F (ys.map ρ') us) : Src (Itz K a b) (xs.zip ys) (rT2 ρ ρ') F := by
  have hl : vs.length = xs.length := by rw [hp.len, List.length_map]
  have hl' : us.length = ys.length := by rw [hp'.len, List.length_map]
  refine src_pair (β := α × β) (walk_zip (K := K) (a := a) (b := b) (xs := vs) (ys := us) rfl) (σ := fun y => ρ y.1) (τ := fun y => ρ' y.2) (by rw [List.length_zip, hl, hl']) (fun F2 H2 s1 s2 => ⟨SqL.of (s2 _ _ (s1 _ _ h)), SqL.of (s2 _ _ (s1 _ _ h'))⟩) (fun i y u v hy e1 e2 => ?_) (fun _ => rfl)
  obtain ⟨k1, k2⟩ := List.getElem?_zip_eq_some.mp hy
  obtain ⟨w, h3, h4⟩ := hp.get (i := i) (p := ρ y.1) (by rw [List.getElem?_map, k1]; rfl)
  obtain ⟨w', h5, h6⟩ := hp'.get (i := i) (p := ρ' y.2) (by rw [List.getElem?_map, k2]; rfl)
  rw [e1] at h3
  rw [e2] at h5
  cases h3
  cases h5
  exact ⟨h4, h6⟩
theorem ri_zip {ρ' : β → Pr} {e2 : Expr} {m2 : Mo (List β)} (h : RE X W Γ e m (.fz (rL ρ))) (h2 : RE X W Γ e2 m2 (.fz (rL ρ'))) : RI X W Γ (iZip X.K (tCons (tE X e) (tCons (tE X e2) tNil))) (m >>= fun xs => m2 >>= fun ys => pure (xs.zip ys)) (rT2 ρ ρ') := fun G σ F H R o q => by
  refine h G σ F H _ o (m.mono (fun xs hx v F' H' o' g' z => ?_) (fun _ z => z) q)
  refine h2 G σ F' H' _ o' (m2.mono (fun ys hy u F2 H2 o2 g2 z2 => ?_) (fun _ => EQ.step g') hx)
  obtain ⟨a, vs, rfl, h1, k1⟩ := z
  obtain ⟨b, us, rfl, h3, k3⟩ := z2
  have h1 := g2.fs _ _ h1
  exact ⟨a, b, vs, us, rfl, SqL.of (o2.le _ _ h1), SqL.of (o2.le _ _ h3), hy _ F2 H2 o2 (g'.trans g2 owns_tr) (src_zip h1 (k1.mono g2.fs) h3 k3)⟩

/-! ### where an item goes -/
/-- g puts a value as p says into slots, giving the context f Γ; vs: the slots -/
def RG (K : PySem.W.Frag) (g : TG) (p : Pr) (f : Ctx → Ctx) (vs : List Nat) : Prop := ∀ G Γ σ F H Q v, Ok G Γ σ F H → p.r v F → (∀ σ', Ok G (f Γ) σ' F H → wipe σ' vs = wipe σ vs → Q σ' H) → g v σ H Q
theorem wipe_set {σ : L2.St} {i : Nat} {v : Option V} : ∀ {vs : List Nat}, i ∈ vs → wipe (σ.set i v) vs = wipe σ vs
  | [], h => by simp at h
  | j :: vs, h => by
    unfold wipe
    by_cases hj : j = i
    · subst hj
      by_cases hm : j ∈ vs
      · rw [wipe_set hm]
      · clear h
        -- set commutes with the wiping of others, and is then overwritten
        have key : ∀ ws : List Nat, j ∉ ws → wipe (σ.set j v) ws = (wipe σ ws).set j v := by
          intro ws
          induction ws with
          | nil => intro _; rfl
          | cons k ws ih =>
            intro hk
            unfold wipe
            rw [ih (fun h => hk (List.mem_cons_of_mem _ h)), List.set_comm _ _ (fun e => hk (by rw [e]; exact List.mem_cons_self))]
        rw [key vs hm, List.set_set]
    · rw [wipe_set ((List.mem_cons.mp h).resolve_left (fun e => hj e.symm))]
theorem rg_name {K : PySem.W.Frag} {p : Pr} {i : Nat} : RG K (gName i) p (fun Γ => Γ.set i (.fz p)) [i] := fun G Γ σ F H Q v o hv q => q _ (o.set hv) (wipe_set (by simp))
/-- a target of a tuple: the slots in their order -/
def setAll : List Nat → List Pr → Ctx → Ctx
  | i :: is, p :: ps, Γ => setAll is ps (Γ.set i (.fz p))
  | _, _, Γ => Γ
def gNames : List Nat → TGs
  | [] => gNil
  | i :: is => gCons (gName i) (gNames is)
theorem rg_names {G : Gf} {F H : Hp} : ∀ {is : List Nat} {ps : List Pr} {vs : List V} {Γ : Ctx} {σ : L2.St} {ws : List Nat} {Q : L2.St → Hp → Prop}, is.length = ps.length → Ok G Γ σ F H → Ps F ps vs → (∀ i ∈ is, i ∈ ws) → (∀ σ', Ok G (setAll is ps Γ) σ' F H → wipe σ' ws = wipe σ ws → Q σ' H) → gNames is vs σ H Q
  | [], [], [], _, σ, _, _, _, o, _, _, q => ⟨rfl, q σ o rfl⟩
  | i :: is, p :: ps, v :: vs, Γ, σ, ws, Q, hl, o, h, hw, q => ⟨v, vs, rfl, rg_names (by simpa using hl) (o.set h.1) h.2 (fun j hj => hw j (List.mem_cons_of_mem _ hj)) fun σ' o' e => q σ' o' (e.trans (wipe_set (hw i List.mem_cons_self)))⟩
  | [], [], _ :: _, _, _, _, _, _, _, h, _, _ => h.elim
  | _ :: _, _ :: _, [], _, _, _, _, _, _, h, _, _ => h.elim
  | [], _ :: _, _, _, _, _, _, hl, _, _, _, _ => by simp at hl
  | _ :: _, [], _, _, _, _, _, hl, _, _, _, _ => by simp at hl
theorem rg_tup {K : PySem.W.Frag} {ps : List Pr} (is : List Nat) (hl : is.length = ps.length) : RG K (gTup K ps.length (gNames is)) (rTu ps) (setAll is ps) is := fun G Γ σ F H Q v o hv q => by
  obtain ⟨a, vs, rfl, h1, h2⟩ := hv
  exact ⟨a, vs, rfl, SqT.ofR (Rd.mono h1 o.le), h2.len, rg_names hl o h2 (fun _ h => h) q⟩

/-! ### for -/
inductive Lp (S α : Type) where
  | go (s : S)
  | brk (s : S)
  | ret (a : α)
def Mo.loop {S : Type} (f : S → β → Mo (Lp S δ)) : List β → S → Mo (Lp S δ)
  | [], s => pure (.go s)
  | x :: xs, s => f s x >>= fun o => match o with
    | .go s' => Mo.loop f xs s'
    | .brk s' => pure (.brk s')
    | .ret a => pure (.ret a)
def Mo.fold {S : Type} (f : S → β → Mo S) : List β → S → Mo S
  | [], s => pure s
  | x :: xs, s => f s x >>= fun s' => Mo.fold f xs s'
def Lp.fin {S : Type} (ΓI : S → Ctx) (Zr : δ → Fin) : Lp S δ → Fin
  | .go s => .nc (ΓI s)
  | .brk s => .bk (ΓI s)
  | .ret a => Zr a
def Lp.out {S : Type} (mr : S → Mo γ) (kr : δ → γ) : Lp S δ → Mo γ
  | .go s => mr s
  | .brk s => mr s
  | .ret a => pure (kr a)
section
variable {S : Type} {Z : γ → Fin} {st : Stmt} {rest body : List Stmt} {wi : TI} {g : TG} {mi : Mo (List β)} {ρi : β → Pr}
def noLk : Ctx → Bool
  | [] => true
  | .lk true _ _ :: _ => false
  | _ :: l => noLk l
theorem noLk.get : ∀ {Γ : Ctx} {i : Nat} {h : Hp} {p : Pr}, noLk Γ = true → Γ[i]? = some (.lk true h p) → False
  | [], _, _, _, _, e => by simp at e
  | en :: l, 0, h, p, n, e => by
    simp at e
    subst e
    cases n
  | en :: l, i + 1, h, p, n, e => noLk.get (Γ := l) (i := i) (by cases en with
    | lk f h p => cases f with
      | true => cases n
      | false => exact n
    | _ => exact n) (by simpa using e)
theorem Ok.reb {G : Gf} {Γ : Ctx} {σ : L2.St} {F H : Hp} (o : Ok G Γ σ F H) (n : noLk Γ = true) : Ok ⟨F, G.H0, G.M⟩ Γ σ F H where
  go := ⟨Same.refl _, o.le, o.go.hs, fun _ _ _ h => h, o.go.th⟩
  en := fun i e he => by
    have z := o.en i e he
    cases e with
    | un => trivial
    | fz p => exact z
    | ow l a q => exact z
    | lk f h p => cases f with
      | true => exact (noLk.get n he).elim
      | false => exact ⟨z.1, fun b hb => ⟨(z.2.1 b hb).1, fun x => by cases x⟩, z.2.2⟩
  ap := o.ap
  ln := o.ln
theorem Ok.unreb {G : Gf} {Γ Γ2 : Ctx} {σ σ2 : L2.St} {F H F2 H2 : Hp} (o : Ok G Γ σ F H) (o2 : Ok ⟨F, G.H0, G.M⟩ Γ2 σ2 F2 H2) : Ok G Γ2 σ2 F2 H2 where
  go := ⟨o.go.fs.trans o2.go.fs, o2.le, o2.go.hs, fun b x e f => o2.go.fr b x e (o.go.fr b x e f), o2.go.th⟩
  en := fun i e he => by
    have z := o2.en i e he
    cases e with
    | un => trivial
    | fz p => exact z
    | ow l a q => exact z
    | lk f h p => exact ⟨z.1, fun b hb => ⟨(z.2.1 b hb).1, fun hf => by
        have k := (z.2.1 b hb).2 hf
        cases e : G.F0 b with
        | none => rfl
        | some x =>
          have k : F b = none := k
          rw [o.go.fs _ _ e] at k; cases k⟩, z.2.2⟩
  ap := o2.ap
  ln := o2.ln
theorem rb_for {s0 : S} {vs : List Nat} (ΓI : S → Ctx) (tg : β → Ctx → Ctx) {mb : S → β → Mo (Lp S δ)} {mr : S → Mo γ} {kr : δ → γ} {Zr : δ → Fin} (hs : PS X st (tFor wi g (tSs X body))) (hi : RI X W Γ wi mi ρi) (hg : ∀ x, RG X.K g (ρi x) (tg x) vs)
    (h0 : Le (ΓI s0) Γ) (hle : ∀ s, Le Γe (ΓI s)) (hlt : ∀ x s, Le Γe (tg x (ΓI s))) (hb : ∀ s x, RB X W Γe false (tg x (ΓI s)) body (mb s x) (Lp.fin ΓI Zr)) (hz : ∀ a, Z (kr a) = Zr a) (hret : ∀ a, ∃ R, Zr a = .ret R) (hr : ∀ s, RB X W Γe lv (ΓI s) rest (mr s) Z) (hk : ∀ s, noLk (ΓI s) = true := by intro _; rfl) :
    RB X W Γe lv Γ (st :: rest) (mi >>= fun xs => Mo.loop mb xs s0 >>= Lp.out mr kr) Z := fun le G σ F H D nx' hn o q =>
  tSs_cons hs (by
    refine hi G σ F H _ o (mi.mono (fun xs hx J F' H' o' g' src => ?_) (fun _ => XQ.eq le) q)
    let Fn : Hp → Lp S δ → Prop := fun F2 l => (Lp.out mr kr l).run (fun x => FinOk G Γe D F2 (Z x)) (XQ X W G Γe F2)
    have fstep : ∀ {A B : Hp} {l : Lp S δ}, Fn A l → Fn B l := fun h => run_any h
    have hx : (Mo.loop mb xs s0).run (Fn F') (XQ X W G Γe F') := Mo.mono _ (fun l h => fstep h) (fun _ => XQ.any) hx
    refine ⟨fun i k σ2 H2 => k = xs.length - i ∧ i ≤ xs.length ∧ ∃ s F2, Ok G (ΓI s) σ2 F2 H2 ∧ Same F' F2 ∧ (Mo.loop mb (xs.drop i) s).run (Fn F2) (XQ X W G Γe F2), ⟨_, rfl, Nat.zero_le _, s0, F', o'.weak h0, Same.refl _, hx⟩, ?_⟩
    rintro i k σ2 H2 ⟨rfl, hik, s, F2, o2, s2, r⟩
    obtain ⟨w1, w2, w3⟩ := src F2 H2 s2 o2.le
    by_cases hlt' : i < xs.length
    · refine .inr ⟨w1 i hlt', fun σ' H' => ∃ m', m' < xs.length - i ∧ m' = xs.length - (i + 1) ∧ i + 1 ≤ xs.length ∧ ∃ s F2, Ok G (ΓI s) σ' F2 H' ∧ Same F' F2 ∧ (Mo.loop mb (xs.drop (i + 1)) s).run (Fn F2) (XQ X W G Γe F2), fun σ' H' ⟨m', h1, h2, h3, h4⟩ => ⟨m', h1, h2, h3, h4⟩, fun v H3 y => ?_⟩
      have hget : xs[i]? = some xs[i] := List.getElem?_eq_getElem hlt'
      obtain ⟨F3, g3, hv⟩ := w3 i xs[i] v H3 hget y
      have o3 : Ok G (ΓI s) σ2 F3 H3 := o2.move g3 (fun _ h => by simp at h)
      have o3r := o3.reb (hk s)
      refine hg xs[i] ⟨F3, G.H0, G.M⟩ _ σ2 F3 H3 _ v o3r hv fun σ4 o4 _ => ?_
      rw [List.drop_eq_getElem_cons hlt'] at r
      refine hb s xs[i] (hlt _ _) ⟨F3, G.H0, G.M⟩ σ4 F3 H3 { nx := _, rt := D.rt, bk := tSs X rest { D with nx := nx' }, ct := _ } _ (fun _ => rfl) o4 (Mo.mono _ (fun l hl => ?_) (fun _ hq cls d σ6 F6 H6 _ o6 z => hq cls d σ6 F6 H6 (o3.unreb o6).go.fs (o3.unreb o6) z) r)
      have next : ∀ s', (Mo.loop mb (xs.drop (i + 1)) s').run (Fn F2) (XQ X W G Γe F2) → ∀ σ5 F5 H5, Same F3 F5 → Ok G (ΓI s') σ5 F5 H5 → ∃ m', m' < xs.length - i ∧ m' = xs.length - (i + 1) ∧ i + 1 ≤ xs.length ∧ ∃ s F2, Ok G (ΓI s) σ5 F2 H5 ∧ Same F' F2 ∧ (Mo.loop mb (xs.drop (i + 1)) s).run (Fn F2) (XQ X W G Γe F2) := fun s' hl σ5 F5 H5 s5 o5 =>
        ⟨_, by omega, rfl, by omega, s', F5, o5, (s2.trans g3.fs).trans s5, Mo.mono _ (fun l h => fstep h) (fun _ => XQ.any) hl⟩
      cases l with
      | go s' =>
        have hl : (Mo.loop mb (xs.drop (i + 1)) s').run (Fn F2) (XQ X W G Γe F2) := hl
        exact fun σ5 F5 H5 s5 o5 => ⟨next s' hl σ5 F5 H5 s5 (o3.unreb o5), next s' hl σ5 F5 H5 s5 (o3.unreb o5)⟩
      | brk s' =>
        have hl : Fn F2 (.brk s') := hl
        exact fun σ5 F5 H5 s5 o5 => hr s' (hle s') G σ5 F5 H5 D nx' hn (o3.unreb o5) (run_any hl)
      | ret a =>
        have hl : FinOk G Γe D F2 (Z (kr a)) := hl
        rw [hz a] at hl
        obtain ⟨R, hR⟩ := hret a
        show FinOk ⟨F3, G.H0, G.M⟩ Γe _ F3 (Zr a)
        rw [hR] at hl ⊢
        exact fun v5 σ5 F5 H5 s5 o5 => hl v5 σ5 F5 H5 (o3.unreb o5).go.fs (o3.unreb o5)
    · have e : i = xs.length := by omega
      subst e
      refine .inl ⟨w2, ?_⟩
      rw [List.drop_length] at r
      have r : Fn F2 (.go s) := r
      exact hr s (hle s) G σ2 F2 H2 D nx' hn o2 r)
theorem loop_fold {f : S → β → Mo S} {R : Lp S δ → Prop} {E : Ex → Prop} : ∀ (xs : List β) (s : S), (Mo.fold f xs s).run (fun s => R (.go s)) E → (Mo.loop (fun s x => f s x >>= fun s' => pure (Lp.go s')) xs s).run R E
  | [], _, h => h
  | x :: xs, s, h => (f s x).mono (fun s' hs' => loop_fold xs s' hs') (fun _ h => h) h
/-- a loop that always runs through -/
theorem rb_forF {s0 : S} {vs : List Nat} (ΓI : S → Ctx) (tg : β → Ctx → Ctx) {mb : S → β → Mo S} {mr : S → Mo γ} (hs : PS X st (tFor wi g (tSs X body))) (hi : RI X W Γ wi mi ρi) (hg : ∀ x, RG X.K g (ρi x) (tg x) vs)
    (h0 : Le (ΓI s0) Γ) (hle : ∀ s, Le Γe (ΓI s)) (hlt : ∀ x s, Le Γe (tg x (ΓI s))) (hb : ∀ s x, RB X W Γe false (tg x (ΓI s)) body (mb s x) (fun s' => .nc (ΓI s'))) (hr : ∀ s, RB X W Γe lv (ΓI s) rest (mr s) Z) (hk : ∀ s, noLk (ΓI s) = true := by intro _; rfl) :
    RB X W Γe lv Γ (st :: rest) (mi >>= fun xs => Mo.fold mb xs s0 >>= mr) Z := by
  have hb' : ∀ s x, RB X W Γe false (tg x (ΓI s)) body (mb s x >>= fun s' => pure (Lp.go (α := Empty) s')) (Lp.fin ΓI fun a => a.elim) := fun s x le G σ F H D nx' hn o q => hb s x le G σ F H D nx' hn o q
  have h := rb_for (δ := Empty) (kr := fun a => a.elim) (Z := Z) (γ := γ) ΓI tg hs hi hg h0 hle hlt hb' (fun a => a.elim) (fun a => a.elim) hr hk
  refine fun le G σ F H D nx' hn o q => h le G σ F H D nx' hn o (mi.mono (fun xs hx => ?_) (fun _ h => h) q)
  exact loop_fold xs s0 hx
end
end
end RF
namespace RF
open PySem PySem.Spec PyProof.Rows L2 KO SX

/-! ### while -/
section
variable {α β γ δ : Type} {X : Cx} {W : WX} {Γe Γ Γ' : Ctx} {lv : Bool}
/-- n turns at most -/
def whN {S : Type} (c : S → Mo Bool) (f : S → Mo (Lp S δ)) : Nat → S → (Lp S δ → Prop) → (Ex → Prop) → Prop
  | 0, _, _, _ => False
  | n + 1, s, Q, E => (c s).run (fun b => if b = true then (f s).run (fun l => match l with
      | .go s' => whN c f n s' Q E
      | .brk s' => Q (.brk s')
      | .ret a => Q (.ret a)) E else Q (.go s)) E
theorem whN_mono {S : Type} {c : S → Mo Bool} {f : S → Mo (Lp S δ)} {Q Q' : Lp S δ → Prop} {E E' : Ex → Prop} (hq : ∀ x, Q x → Q' x) (he : ∀ x, E x → E' x) : ∀ (n : Nat) (s : S), whN c f n s Q E → whN c f n s Q' E'
  | 0, _, h => h
  | n + 1, s, h => (c s).mono (fun b hb => by
      cases b with
      | true =>
        rw [if_pos rfl] at hb ⊢
        refine (f s).mono (fun l hl => ?_) he hb
        cases l with
        | go s' => exact whN_mono hq he n s' hl
        | brk s' => exact hq _ hl
        | ret a => exact hq _ hl
      | false =>
        rw [if_neg Bool.false_ne_true] at hb ⊢
        exact hq _ hb) he h
def Mo.while {S : Type} (c : S → Mo Bool) (f : S → Mo (Lp S δ)) (s : S) : Mo (Lp S δ) := ⟨fun Q E => ∃ n, whN c f n s Q E, fun hq he ⟨n, h⟩ => ⟨n, whN_mono hq he n s h⟩⟩
@[simp] theorem Mo.run_while {S : Type} {c : S → Mo Bool} {f : S → Mo (Lp S δ)} {s : S} {Q : Lp S δ → Prop} {E : Ex → Prop} : (Mo.while c f s).run Q E = ∃ n, whN c f n s Q E := rfl
theorem rb_while {S : Type} {Z : γ → Fin} {st : Stmt} {rest body : List Stmt} {c : Expr} {s0 : S} (ΓI : S → Ctx) {mc : S → Mo Bool} {mb : S → Mo (Lp S δ)} {mr : S → Mo γ} {kr : δ → γ} {Zr : δ → Fin} (hs : PS X st (tWhile (tT X c) (tSs X body))) (hc : ∀ s, RT X W (ΓI s) c (mc s))
    (h0 : Le (ΓI s0) Γ) (hle : ∀ s, Le Γe (ΓI s)) (hb : ∀ s, RB X W Γe false (ΓI s) body (mb s) (Lp.fin ΓI Zr)) (hz : ∀ a, Z (kr a) = Zr a) (hret : ∀ a, ∃ R, Zr a = .ret R) (hr : ∀ s, RB X W Γe lv (ΓI s) rest (mr s) Z) :
    RB X W Γe lv Γ (st :: rest) (Mo.while mc mb s0 >>= Lp.out mr kr) Z := fun le G σ F H D nx' hn o q =>
  tSs_cons hs (by
    let Fn : Hp → Lp S δ → Prop := fun F2 l => (Lp.out mr kr l).run (fun x => FinOk G Γe D F2 (Z x)) (XQ X W G Γe F2)
    have fstep : ∀ {A B : Hp} {l : Lp S δ}, Fn A l → Fn B l := fun h => run_any h
    obtain ⟨n0, q⟩ := q
    refine ⟨fun n σ2 H2 => ∃ s F2, Ok G (ΓI s) σ2 F2 H2 ∧ whN mc mb n s (Fn F2) (XQ X W G Γe F2), ⟨n0, s0, F, o.weak h0, q⟩, ?_⟩
    rintro n σ2 H2 ⟨s, F2, o2, r⟩
    cases n with
    | zero => exact r.elim
    | succ n =>
      refine hc s G σ2 F2 H2 _ o2 ((mc s).mono (fun b hb' F3 H3 o3 g3 => ?_) (fun _ => XQ.eq (hle s)) r)
      cases b with
      | false => exact iteF (hr s (hle s) G σ2 F3 H3 D nx' hn o3 (run_fin g3.fs (show Fn F2 (.go s) by simpa using hb')))
      | true =>
        refine iteT ⟨fun σ' H' => ∃ s F2, Ok G (ΓI s) σ' F2 H' ∧ whN mc mb n s (Fn F2) (XQ X W G Γe F2), fun σ' H' h => ⟨n, Nat.lt_succ_self _, h⟩, ?_⟩
        refine hb s (hle s) G σ2 F3 H3 { nx := _, rt := D.rt, bk := tSs X rest { D with nx := nx' }, ct := _ } _ (fun _ => rfl) o3 ((mb s).mono (fun l hl => ?_) (fun _ => XQ.step g3.fs) (by simpa using hb'))
        cases l with
        | go s' =>
          have key : ∀ σ5 F5 H5, Same G.F0 F5 → Ok G (ΓI s') σ5 F5 H5 → ∃ s F2, Ok G (ΓI s) σ5 F2 H5 ∧ whN mc mb n s (Fn F2) (XQ X W G Γe F2) := fun σ5 F5 H5 s5 o5 => ⟨s', F5, o5, whN_mono (fun l h => fstep h) (fun _ => XQ.any) n s' hl⟩
          exact fun σ5 F5 H5 s5 o5 => ⟨key σ5 F5 H5 s5 o5, key σ5 F5 H5 s5 o5⟩
        | brk s' =>
          have hl : Fn F2 (.brk s') := hl
          exact fun σ5 F5 H5 s5 o5 => hr s' (hle s') G σ5 F5 H5 D nx' hn o5 (run_any hl)
        | ret a =>
          have hl : FinOk G Γe D F2 (Z (kr a)) := hl
          rw [hz a] at hl
          obtain ⟨R, hR⟩ := hret a
          show FinOk G Γe _ F3 (Zr a)
          rw [hR] at hl ⊢
          exact fun v5 σ5 F5 H5 s5 o5 => hl v5 σ5 F5 H5 s5 o5)
end

/-! ### list comprehensions -/
abbrev W0 : WX := fun _ _ _ _ => False
section
variable {α β γ δ : Type} {X : Cx} {W : WX} {Γe Γ Γ' : Ctx} {lv : Bool} {scope : Scope} {elt c : Expr} {ifs : List Expr}
def tEi (X : Cx) (scope : Scope) (elt : Expr) : TE := fun σ H Q => ∀ (s : Shared) (H0 : Hp) (C : Addr) (cl : List (Str × Addr)) (fp : List Addr), tE (X.blk s H0 scope (compEnvC scope cl C X.env) fp) elt σ H Q
def tPi (X : Cx) (scope : Scope) (ifs : List Expr) : TT := fun σ H Q => ∀ (s : Shared) (H0 : Hp) (C : Addr) (cl : List (Str × Addr)) (fp : List Addr) (pins : List (Addr × Obj)) (s' : Shared), Inv (X.blk s H0 scope (compEnvC scope cl C X.env) fp) pins σ H s' →
  wpAny (model X.prog X.w) X.A (forIn ifs true fun c r => if r = true then do let ok ← isTrue c (compEnvC scope cl C X.env) (eval c (compEnvC scope cl C X.env)); pure (ForInStep.yield ok) else pure (ForInStep.yield r)) (TP (X.blk s H0 scope (compEnvC scope cl C X.env) fp) pins σ Q) (fun _ _ => False) s'
theorem peEi (s : Shared) (H0 : Hp) (C : Addr) (cl : List (Str × Addr)) (fp : List Addr) : PE (X.blk s H0 scope (compEnvC scope cl C X.env) fp) elt (tEi X scope elt) := ⟨fun pins s' σ H Q I h => h s H0 C cl fp pins s' I⟩
theorem ptPi (s : Shared) (H0 : Hp) (C : Addr) (cl : List (Str × Addr)) (fp : List Addr) : PTs (X.blk s H0 scope (compEnvC scope cl C X.env) fp) ifs (tPi X scope ifs) := ⟨fun pins s' σ H Q I h => h s H0 C cl fp pins s' I⟩
/-- an expression within the comprehension -/
def REi (X : Cx) (scope : Scope) (Γ : Ctx) (e : Expr) (m : Mo γ) (k : RK γ) : Prop := ∀ (s : Shared) (H0 : Hp) (C : Addr) (cl : List (Str × Addr)) (fp : List Addr), RE (X.blk s H0 scope (compEnvC scope cl C X.env) fp) W0 Γ e m k
def RTi (X : Cx) (scope : Scope) (Γ : Ctx) (ifs : List Expr) (m : Mo Bool) : Prop := ∀ G σ F H Q, Ok G Γ σ F H → m.run (fun b => ∀ F' H', Ok G Γ σ F' H' → Go (owns Γ) F H F' H' → Q b H') (fun _ => False) → tPi X scope ifs σ H Q
theorem rti_nil : RTi X scope Γ [] (pure true) := fun G σ F H Q o q s H0 C cl fp pins s' I => (pts_nil (X := X.blk s H0 scope (compEnvC scope cl C X.env) fp)).run pins s' σ H Q I (q F H o (Go.refl o.le))
theorem rti_one {m : Mo Bool} (h : ∀ (s : Shared) (H0 : Hp) (C : Addr) (cl : List (Str × Addr)) (fp : List Addr), RT (X.blk s H0 scope (compEnvC scope cl C X.env) fp) W0 Γ c m) : RTi X scope Γ [c] m := fun G σ F H Q o q s H0 C cl fp pins s' I =>
  (pts_one (X := X.blk s H0 scope (compEnvC scope cl C X.env) fp) ptT).run pins s' σ H Q I (h s H0 C cl fp G σ F H Q o (m.mono (fun _ h => h) (fun _ z => z.elim) q))
def Mo.comp (c : β → Mo Bool) (f : β → Mo γ) : List β → Mo (List γ)
  | [] => pure []
  | x :: xs => c x >>= fun b => if b = true then f x >>= fun y => Mo.comp c f xs >>= fun ys => pure (y :: ys) else Mo.comp c f xs
def Mo.lc (c : β → Mo Bool) (f : β → Mo γ) (xs : List β) : Mo (List γ) := Mo.rq (xs.length ≤ sizeLine) () >>= fun _ => Mo.calm (Mo.comp c f xs)
def wipeC (Γ : Ctx) : List Nat → Ctx
  | [] => Γ
  | v :: vs => (wipeC Γ vs).set v .un
theorem Ok.wipe {G : Gf} {σ : L2.St} {F H : Hp} (o : Ok G Γ σ F H) : ∀ vs : List Nat, Ok G (wipeC Γ vs) (wipe σ vs) F H
  | [] => o
  | v :: vs => by unfold wipeC L2.wipe; exact (Ok.wipe o vs).forget v
theorem owns_set {i : Nat} {en : En} {a : Addr} (hen : en.own? = none) (h : a ∈ owns (Γ.set i en)) : a ∈ owns Γ := by
  obtain ⟨j, l, q, e⟩ := of_owns h
  by_cases hij : i = j
  · subst hij
    have hl : i < Γ.length := by
      have := (List.getElem?_eq_some_iff.mp e).1
      simpa using this
    rw [List.getElem?_set_self hl] at e
    cases e
    cases hen
  · rw [List.getElem?_set_ne hij] at e
    exact mem_owns e
theorem owns_wipe {a : Addr} : ∀ {vs : List Nat}, a ∈ owns (wipeC Γ vs) → a ∈ owns Γ
  | [], h => h
  | v :: vs, h => owns_wipe (vs := vs) (owns_set rfl h)
/-- what a target leaves alone -/
structure RGo (f : Ctx → Ctx) (vs : List Nat) : Prop where
  sub : ∀ Γ a, a ∈ owns (f Γ) → a ∈ owns Γ
  keep : ∀ (Γ : Ctx) (i : Nat), i ∉ vs → (f Γ)[i]? = Γ[i]?
theorem rgo_name {p : Pr} {i : Nat} : RGo (fun Γ => Γ.set i (.fz p)) [i] := ⟨fun _ _ h => owns_set rfl h, fun Γ j h => List.getElem?_set_ne (fun e => h (by simp [e]))⟩
theorem setAll_keep {j : Nat} : ∀ {is : List Nat} {ps : List Pr} {Γ : Ctx}, j ∉ is → (setAll is ps Γ)[j]? = Γ[j]?
  | i :: is, p :: ps, Γ, h => by
    unfold setAll
    rw [setAll_keep (fun m => h (List.mem_cons_of_mem _ m)), List.getElem?_set_ne (fun e => h (by simp [e]))]
  | [], _, _, _ => by unfold setAll; rfl
  | _ :: _, [], _, _ => by unfold setAll; rfl
theorem setAll_owns {a : Addr} : ∀ {is : List Nat} {ps : List Pr} {Γ : Ctx}, a ∈ owns (setAll is ps Γ) → a ∈ owns Γ
  | i :: is, p :: ps, Γ, h => by
    unfold setAll at h
    exact owns_set (en := .fz p) (i := i) rfl (setAll_owns h)
  | [], _, _, h => by unfold setAll at h; exact h
  | _ :: _, [], _, h => by unfold setAll at h; exact h
theorem rgo_tup {is : List Nat} {ps : List Pr} : RGo (setAll is ps) is := ⟨fun _ _ h => setAll_owns h, fun _ _ h => setAll_keep h⟩
theorem wipe_get {σ : L2.St} {i : Nat} : ∀ {vs : List Nat}, (wipe σ vs)[i]? = if i ∈ vs then (σ[i]?).map (fun _ => none) else σ[i]?
  | [] => by simp [wipe]
  | v :: vs => by
    unfold wipe
    by_cases hv : v = i
    · subst hv
      rw [List.getElem?_set, if_pos rfl, wipe_length, if_pos List.mem_cons_self]
      by_cases hl : v < σ.length
      · rw [if_pos hl, List.getElem?_eq_getElem hl]; rfl
      · rw [if_neg hl, List.getElem?_eq_none (by omega)]; rfl
    · rw [List.getElem?_set_ne hv, wipe_get]
      have : (i ∈ v :: vs) ↔ i ∈ vs := by
        rw [List.mem_cons]
        exact ⟨fun h => h.resolve_left (fun e => hv e.symm), .inr⟩
      simp only [this]
theorem wipe_wipe (σ : L2.St) (vs : List Nat) : wipe (wipe σ vs) vs = wipe σ vs := by
  refine List.ext_getElem? fun i => ?_
  rw [wipe_get, wipe_get]
  by_cases h : i ∈ vs
  · rw [if_pos h, if_pos h]
    cases σ[i]? <;> rfl
  · rw [if_neg h, if_neg h]
theorem wipeC_keep {j : Nat} : ∀ {vs : List Nat}, j ∉ vs → (wipeC Γ vs)[j]? = Γ[j]?
  | [], _ => rfl
  | v :: vs, h => by
    unfold wipeC
    rw [List.getElem?_set_ne (fun e => h (by simp [e])), wipeC_keep (fun m => h (List.mem_cons_of_mem _ m))]
theorem un1 {i : Nat} (h : Γ[i]? = some .un) : ∀ v ∈ [i], Γ[v]? = some .un := fun v hv => by rw [List.mem_singleton.mp hv]; exact h
theorem un2 {i j : Nat} (h : Γ[i]? = some .un) (h2 : Γ[j]? = some .un) : ∀ v ∈ [i, j], Γ[v]? = some .un := fun v hv => by
  rcases List.mem_cons.mp hv with e | hv
  · rw [e]; exact h
  · exact un1 h2 v hv
theorem un3 {i j k : Nat} (h : Γ[i]? = some .un) (h2 : Γ[j]? = some .un) (h3 : Γ[k]? = some .un) : ∀ v ∈ [i, j, k], Γ[v]? = some .un := fun v hv => by
  rcases List.mem_cons.mp hv with e | hv
  · rw [e]; exact h
  · exact un2 h2 h3 v hv
/-- from within a block back to the slots around it -/
theorem Ok.back {G : Gf} {f : Ctx → Ctx} {vs : List Nat} {σ σ3 : L2.St} {F H F5 H5 : Hp} (o : Ok G Γ σ F H) (hf : RGo f vs) (hun : ∀ v ∈ vs, Γ[v]? = some .un) (s : Same F F5) (o5 : Ok G (f (wipeC Γ vs)) σ3 F5 H5) : Ok G Γ σ F5 H5 where
  go := o5.go
  en := fun i e he => by
    cases e with
    | un => trivial
    | fz p =>
      obtain ⟨v, h1, h2⟩ := o.en i _ he
      exact ⟨v, h1, p.mono s h2⟩
    | ow l a q =>
      have hi : i ∉ vs := fun h => by rw [hun i h] at he; cases he
      have h5 := o5.en i (.ow l a q) (by rw [hf.keep _ _ hi, wipeC_keep hi]; exact he)
      exact ⟨(o.en i _ he).1, h5.2⟩
    | lk f h p =>
      have hi : i ∉ vs := fun h => by rw [hun i h] at he; cases he
      have h5 := o5.en i (.lk f h p) (by rw [hf.keep _ _ hi, wipeC_keep hi]; exact he)
      obtain ⟨⟨v, h1, h2⟩, z, _⟩ := o.en i _ he
      exact ⟨⟨v, h1, p.mono s h2⟩, z, h5.2.2⟩
  ap := o.ap
  ln := o.ln
theorem rte_lc {wi : TI} {g : TG} {mi : Mo (List β)} {ρi : β → Pr} {vs : List Nat} {mc : β → Mo Bool} {mf : β → Mo γ} {ρ : γ → Pr} (tg : β → Ctx → Ctx) (hi : RI X W Γ wi mi ρi) (hg : ∀ x, RG X.K g (ρi x) (tg x) vs) (hgo : ∀ x, RGo (tg x) vs) (hun : ∀ v ∈ vs, Γ[v]? = some .un)
    (ht : ∀ x, RTi X scope (tg x (wipeC Γ vs)) ifs (mc x)) (he : ∀ x, REi X scope (tg x (wipeC Γ vs)) elt (mf x) (.fz ρ)) : RTE X W Γ (tLc wi g (tPi X scope ifs) (tEi X scope elt) vs) (mi >>= Mo.lc mc mf) (.ow (oL ρ)) := fun G σ F H Q o q => by
  refine hi G σ F H _ o (mi.mono (fun xs hx J F1 H1 o1 g1 src D hD => ?_) (fun _ z => z) q)
  obtain ⟨hz, hx⟩ := hx
  have hD0 : H D = none := by
    cases e : H D with
    | none => rfl
    | some y => obtain ⟨y', e'⟩ := g1.th _ _ e; rw [hD] at e'; cases e'
  have hG0 : G.H0 D = none := by
    cases e : G.H0 D with
    | none => rfl
    | some y => obtain ⟨y', e'⟩ := o.go.th _ _ e; rw [hD0] at e'; cases e'
  have hDo : D ∉ owns Γ := fun h => by
    obtain ⟨y, hy⟩ := o.ownH h
    rw [hD0] at hy; cases hy
  have hF1 : F1 D = none := o1.le.free hD
  let St : Nat → Hp → Prop := fun i H' => ∃ F' ys us, Ok G Γ σ F' H' ∧ Go (owns Γ) F H F' H' ∧ Same F1 F' ∧ F' D = none ∧ H' D = some (.lst us) ∧ Ps F' (ys.map ρ) us ∧ ys.length ≤ i ∧ (Mo.comp mc mf (xs.drop i)).run (fun zs => NQ G Γ σ F H (.ow (oL ρ)) Q (ys ++ zs)) (fun _ => False)
  obtain ⟨oD, gD⟩ := o1.newO (u := .lst []) hD
  refine ⟨fun i k H' => k = xs.length - i ∧ i ≤ xs.length ∧ St i H', ⟨_, rfl, Nat.zero_le _, F1, [], [], oD, g1.trans gD owns_tr, Same.refl _, hF1, upd_same, trivial, Nat.le_refl _, hx⟩, ?_⟩
  rintro i k H' ⟨rfl, hik, F', ys, us, o', g', s1, hF', hH', hps, hle, r⟩
  obtain ⟨w1, w2, w3⟩ := src F' H' s1 o'.le
  by_cases hlt : i < xs.length
  · refine .inr ⟨w1 i hlt, fun H'' => i + 1 ≤ xs.length ∧ St (i + 1) H'', fun H'' h => ⟨_, by omega, rfl, h.1, h.2⟩, fun v H2 y => ?_⟩
    rw [List.drop_eq_getElem_cons hlt] at r
    obtain ⟨F2, g2, hv⟩ := w3 i xs[i] v H2 (List.getElem?_eq_getElem hlt) y
    have o2 : Ok G Γ σ F2 H2 := o'.move g2 (fun _ h => by simp at h)
    have g2' : Go (owns Γ) F' H' F2 H2 := g2.mono (fun _ h => by simp at h)
    refine hg xs[i] G _ _ F2 H2 _ v (o2.wipe vs) hv fun σ3 o3 hw => ⟨by rw [hw]; exact wipe_wipe σ vs, ?_⟩
    have sub : ∀ a ∈ owns (tg xs[i] (wipeC Γ vs)), a ∈ owns Γ := fun a h => owns_wipe ((hgo _).sub _ _ h)
    refine ht xs[i] G σ3 F2 H2 _ o3 ((mc xs[i]).mono (fun b hb F3 H3 o4 g3 => ?_) (fun _ z => z) r)
    have g2D : H2 D = some (.lst us) := g2.hs _ _ (by simp) hH'
    have f2D : F2 D = none := g2.fr _ _ hH' hF'
    have back : ∀ {F5 H5 : Hp}, Go (owns (tg xs[i] (wipeC Γ vs))) F2 H2 F5 H5 → Ok G (tg xs[i] (wipeC Γ vs)) σ3 F5 H5 → Ok G Γ σ F5 H5 ∧ Go (owns Γ) F H F5 H5 ∧ Same F1 F5 ∧ F5 D = none ∧ H5 D = some (.lst us) ∧ Same F' F5 := fun {F5 H5} g5 o5 => by
      have s5 : Same F' F5 := g2.fs.trans g5.fs
      refine ⟨o'.back (hgo _) hun s5 o5, (g'.trans g2' owns_tr).trans g5 (fun a h => .inl (sub a h)), s1.trans s5, g5.fr _ _ g2D f2D, g5.hs _ _ (fun h => hDo (sub _ h)) g2D, s5⟩
    cases b with
    | false =>
      obtain ⟨b1, b2, b3, b4, b5, b6⟩ := back g3 o4
      exact iteF ⟨hlt, F3, ys, us, b1, b2, b3, b4, b5, hps.mono b6, by omega, hb⟩
    | true =>
      refine iteT fun s H0 C cl fp => ?_
      have hb : (mf xs[i] >>= fun y => Mo.comp mc mf (xs.drop (i + 1)) >>= fun ys => pure (y :: ys)).run (fun zs => NQ G Γ σ F H (.ow (oL ρ)) Q (ys ++ zs)) (fun _ => False) := hb
      refine he xs[i] s H0 C cl fp G σ3 F3 H3 _ o4 ((mf xs[i]).mono (fun y hy w F4 H4 o5 g5 z => ?_) (fun _ z => z.elim) hb)
      obtain ⟨b1, b2, b3, b4, b5, b6⟩ := back (g3.trans g5 owns_tr) o5
      have hul : us.length < xs.length := by rw [hps.len, List.length_map]; omega
      refine ⟨us, b5, by omega, hlt, F4, ys ++ [y], us ++ [w], b1.move (Go.put b1.le b4 b5) (fun a h => ?_), b2.trans (Go.put b1.le b4 b5) (fun a h => ?_), b3, b4, upd_same, ?_, by simp; omega, ?_⟩
      · rw [List.mem_singleton.mp h]
        exact .inr ⟨.inr hG0, hDo⟩
      · rw [List.mem_singleton.mp h]
        exact .inr hD0
      · rw [List.map_append]
        exact (hps.mono b6).app ⟨z, trivial⟩
      · refine Mo.mono _ (fun zs h => ?_) (fun _ z => z) hy
        rw [List.append_assoc]
        exact h
  · have e : i = xs.length := by omega
    subst e
    refine .inl ⟨w2, ?_⟩
    rw [List.drop_length] at r
    have r : NQ G Γ σ F H (.ow (oL ρ)) Q (ys ++ []) := r
    rw [List.append_nil] at r
    exact r _ F' H' o' g' ⟨D, _, rfl, hD0, hF', hH', us, rfl, hps⟩
end
end RF
namespace RF
open PySem PySem.Spec PyProof.Rows L2 KO SX

/-! ### defs and their calls -/
def OwnOk (F H : Hp) (Γ : Ctx) : Prop := ∀ (i : Nat) (l : Bool) (a : Addr) (q : Po), Γ[i]? = some (.ow l a q) → F a = none ∧ ∃ u, H a = some u ∧ q.r u F
/-- what a def is worth: for parameters as pp says it does m, and hands back as kr says -/
def spR {ι β γ : Type} (K : PySem.W.Frag) (mg : Str → Option Value) (pp : ι → β → Ctx) (m : β → Mo γ) (kr : RK γ) : Sp := fun vs H Q E => ∃ (i : ι) (x : β) (F : Hp), Ok ⟨F, H, owns (pp i x)⟩ (pp i x) (vs.map some) F H ∧
  (m x).run (fun y => ∀ v F' H', Go (owns (pp i x)) F H F' H' → OwnOk F' H' (pp i x) → kr.ok y v H F' H' → Q v H') (fun ex => ∀ cls d F' H', Go (owns (pp i x)) F H F' H' → OwnOk F' H' (pp i x) → ErrOk K mg ex cls d F' → E cls d H')
section
variable {α β γ δ : Type} {X : Cx} {W : WX} {Γe Γ Γ' : Ctx} {lv : Bool} {e : Expr} {es : List Expr}
theorem ap_of {Γ : Ctx} (h : (owns Γ).Nodup) : ∀ (i j : Nat) (l m : Bool) (a : Addr) (p q : Po), Γ[i]? = some (.ow l a p) → Γ[j]? = some (.ow m a q) → i = j := by
  intro i j l m a p q h1 h2
  induction Γ generalizing i j with
  | nil => simp at h1
  | cons en Γ ih =>
    have tail : (owns Γ).Nodup := by
      unfold owns at h
      rw [List.filterMap_cons] at h
      cases e : en.own? with
      | none => rw [e] at h; exact h
      | some b => rw [e] at h; exact (List.nodup_cons.mp h).2
    have head : ∀ {k : Nat} {l : Bool} {q : Po} {l' : Bool} {q' : Po}, en = .ow l a q → Γ[k]? = some (.ow l' a q') → False := fun {k l q l' q'} e1 e2 => by
      subst e1
      unfold owns at h
      rw [List.filterMap_cons] at h
      exact (List.nodup_cons.mp h).1 (mem_owns e2)
    cases i with
    | zero =>
      cases j with
      | zero => rfl
      | succ j => exact (head (by simpa using h1) (by simpa using h2)).elim
    | succ i =>
      cases j with
      | zero => exact (head (by simpa using h2) (by simpa using h1)).elim
      | succ j => rw [ih tail i j (by simpa using h1) (by simpa using h2)]
theorem map_some_get {vs : List V} {i : Nat} {s : Option V} (h : (vs.map some)[i]? = some s) : ∃ v, vs[i]? = some v ∧ s = some v := by
  rw [List.getElem?_map] at h
  cases e : vs[i]? with
  | none => rw [e] at h; cases h
  | some v => rw [e] at h; exact ⟨v, rfl, (Option.some.inj h).symm⟩
/-- the entries of a call, from its arguments -/
theorem Ok.ofArgs {F H : Hp} {p : Ctx} {vs : List V} (s : Same F H) (h : ArgOk Γ F H p vs) (hap : (owns p).Nodup) (hl : ∀ (i : Nat) (l : Bool) (a : Addr) (q : Po), p[i]? = some (.ow l a q) → l = false) : Ok ⟨F, H, owns p⟩ p (vs.map some) F H where
  go := Go.refl s
  en := fun i en he => by
    have hi : i < vs.length := by rw [h.1]; exact (List.getElem?_eq_some_iff.mp he).1
    have hv := List.getElem?_eq_getElem hi
    have z := h.2.1 i en _ he hv
    have e : (vs.map some)[i]? = some (some vs[i]) := by rw [List.getElem?_map, hv]; rfl
    rw [e]
    cases en with
    | un => trivial
    | fz p => exact ⟨_, rfl, z⟩
    | ow l a q =>
      obtain ⟨z1, z2, z3⟩ := z
      refine ⟨by rw [z1], z2, ?_, z3⟩
      rw [hl i l a q he]
      exact mem_owns he
    | lk f h p => exact z.elim
  ap := ap_of hap
  ln := by rw [List.length_map, h.1]
/-- behind a call -/
theorem Ok.afterCall {G : Gf} {σ : L2.St} {F H F' H' : Hp} {p : Ctx} {vs : List V} (o : Ok G Γ σ F H) (h : ArgOk Γ F H p vs) (g : Go (owns p) F H F' H') (w : OwnOk F' H' p) : Ok G Γ σ F' H' ∧ Go (owns Γ) F H F' H' := by
  have sub : ∀ a ∈ owns p, a ∈ owns Γ := fun a ha => by
    obtain ⟨j, l, q, e⟩ := of_owns ha
    obtain ⟨i, l', e'⟩ := h.2.2 j l a q e
    exact mem_owns e'
  have g2 : Go (owns Γ) F H F' H' := g.mono fun a ha => .inl (sub a ha)
  refine ⟨⟨o.go.trans g2 fun a ha => ?_, fun i en he => ?_, o.ap, o.ln⟩, g2⟩
  · rcases o.own ha with h | h
    · exact .inl h
    · exact .inr h
  · have z := o.en i en he
    cases en with
    | un => trivial
    | fz r =>
      obtain ⟨v, z1, z2⟩ := z
      exact ⟨v, z1, r.mono g.fs z2⟩
    | ow l a q =>
      obtain ⟨z1, z2, z3, u, z4, z5⟩ := z
      by_cases hm : a ∈ owns p
      · obtain ⟨j, l2, q2, e⟩ := of_owns hm
        obtain ⟨i2, l3, e2⟩ := h.2.2 j l2 a q2 e
        have hii := o.ap i i2 l l3 a q q2 he e2
        subst hii
        rw [he] at e2
        cases e2
        obtain ⟨w1, w2⟩ := w j l2 a q e
        exact ⟨z1, w1, z3, w2⟩
      · exact ⟨z1, g.fr _ _ z4 z2, z3, u, g.hs _ _ hm z4, q.mono g.fs z5⟩
    | lk f h r =>
      obtain ⟨⟨v, z1, z2⟩, z3, z4⟩ := z
      exact ⟨⟨v, z1, r.mono g.fs z2⟩, z3, fun b e => z4 b (none_th g.th e)⟩
/-- no parameter that is one's own, or one that stands first -/
def oneOwn : Ctx → Bool
  | [] => true
  | .ow false _ _ :: l => l.all fun e => e.own?.isNone
  | l => l.all fun e => e.own?.isNone
theorem noOwn {l : Ctx} (h : (l.all fun e => e.own?.isNone) = true) : owns l = [] := by
  unfold owns
  rw [List.filterMap_eq_nil_iff]
  intro e he
  have := List.all_eq_true.mp h e he
  simpa using this
theorem one_ap {l : Ctx} (h : oneOwn l = true) : (owns l).Nodup ∧ ∀ (i : Nat) (b : Bool) (a : Addr) (q : Po), l[i]? = some (.ow b a q) → b = false := by
  have key : ∀ {l : Ctx} {i : Nat} {b : Bool} {a : Addr} {q : Po}, (l.all fun e => e.own?.isNone) = true → l[i]? = some (.ow b a q) → False := fun {l i b a q} h e => by
    have := List.all_eq_true.mp h _ (List.mem_of_getElem? e)
    simp [En.own?] at this
  cases l with
  | nil => exact ⟨by simp [owns], fun i b a q e => by simp at e⟩
  | cons en l =>
    cases en with
    | un => exact ⟨by rw [noOwn (show ((En.un :: l).all fun e => e.own?.isNone) = true from h)]; exact List.nodup_nil, fun i b a q e => (key h e).elim⟩
    | fz p => exact ⟨by rw [noOwn (show ((En.fz p :: l).all fun e => e.own?.isNone) = true from h)]; exact List.nodup_nil, fun i b a q e => (key h e).elim⟩
    | lk f hh p => exact ⟨by rw [noOwn (show ((En.lk f hh p :: l).all fun e => e.own?.isNone) = true from h)]; exact List.nodup_nil, fun i b a q e => (key h e).elim⟩
    | ow b a q =>
      cases b with
      | true => exact (key (show ((En.ow true a q :: l).all fun e => e.own?.isNone) = true from h) (i := 0) rfl).elim
      | false =>
        have h : (l.all fun e => e.own?.isNone) = true := h
        refine ⟨?_, fun i b a' q' e => ?_⟩
        · have : owns (En.ow false a q :: l) = a :: owns l := rfl
          rw [this, noOwn h]
          simp
        · cases i with
          | zero => simp at e; exact e.1
          | succ i => exact (key h (i := i) (by simpa using e)).elim
section
variable {k : Nat} {f C : Addr} {fd : FuncData} {ps : List Str} {ι : Type} {pp : ι → β → Ctx} {m : β → Mo γ} {kr : RK γ} {ma : Mo β} {x : Str} {p pos : Pos}
theorem run_spR {G : Gf} {σ : L2.St} {F H : Hp} {vs : List V} {Q : VK} {i : ι} {y : β} (o : Ok G Γ σ F H) (h : ArgOk Γ F H (pp i y) vs) (hap : oneOwn (pp i y) = true) (q : (m y).run (NQ G Γ σ F H kr Q) (EQ X W G Γ σ F H)) : spR X.K X.mg pp m kr vs H Q (WE W σ) := by
  obtain ⟨h1, h2⟩ := one_ap hap
  refine ⟨i, y, F, Ok.ofArgs o.le h h1 h2, (m y).mono (fun z hz v F' H' g w r => ?_) (fun ex hex cls d F' H' g w r => ?_) q⟩
  · obtain ⟨o2, g2⟩ := o.afterCall h g w
    exact hz v F' H' o2 g2 r
  · obtain ⟨o2, g2⟩ := o.afterCall h g w
    exact hex cls d F' H' o2 g2 r
theorem own_none {l : Ctx} {i : Nat} {b : Bool} {a : Addr} {q : Po} (h : (l.all fun e => e.own?.isNone) = true) (e : l[i]? = some (.ow b a q)) : False := by
  have := List.all_eq_true.mp h _ (List.mem_of_getElem? e)
  simp [En.own?] at this
theorem own_first {a : Addr} {q : Po} {tail us : Ctx} (h : (tail.all fun e => e.own?.isNone) = true) (i : Nat) (l : Bool) (b : Addr) (p : Po) (e : (En.ow false a q :: tail)[i]? = some (.ow l b p)) : (En.ow false a q :: us)[i]? = some (.ow l b p) := by
  cases i with
  | zero => exact e
  | succ i => exact (own_none h (i := i) (by simpa using e)).elim
theorem re_call {pa : β → Ctx} (i : ι) (Fn : FnOk X.prog X.w X.K X.mg X.base (L2.CX X.prog X.w) k f fd ps (spR X.K X.mg pp m kr)) (hr : Room k X.A) (tk : Takes X W) (ha : RA X W Γ (e :: es) ma pa) (hm : X.mg x = some (.ref f)) (hk : PySem.W.keepIn X.K (.ref f) = true) (hb : Binds X.K fd ps [])
    (hpp : ∀ y, pa y = pp i y := by intro _; rfl) (hap : ∀ y, oneOwn (pp i y) = true := by intro _; rfl) (hg : Gl X x := by rfl) (hdb : (x == ("__debug__" : Str)) = false := by decide) (he : starEach (e :: es) X.env = (false, eval e X.env) :: starEach es X.env := by rfl) (hpl : (backTo pos (starEach es X.env)).any (·.1) = false := by rfl) :
    RE X W Γ (.Call (.Name x p) (e :: es) [] pos) (ma >>= m) kr := by
  refine re_of (pe_callS Fn hr hg hm hk hb (fun σ => passAt tk σ) paA hdb he hpl) fun G σ F H Q o q => ?_
  refine ha G σ F H _ o (ma.mono (fun y hy vs F' H' o' g' z => ?_) (fun _ z => z) q)
  rw [hpp y] at z
  exact run_spR o' z (hap y) (run_step g' hy)
end
/-! a def's body -/
theorem fn_mk {P : Program} {w : World} {K : PySem.W.Frag} {mg : Str → Option Value} {base : Heap} {x qual : Str} {st : Stmt} {f : Addr} {fd : FuncData} {N ps : List Str} {k : Nat} {ι : Type} {pp : ι → β → Ctx} {m : β → Mo γ} {kr : RK γ} {Γe Γ0 : ι → β → Ctx} {Z : ι → β → γ → Fin}
    (F : Fun K x qual st f fd) (S : FnScope N ps (defScope st)) (hlen : ∀ c y, (pp c y).length = ps.length) (hΓ : ∀ c y, Γ0 c y = pp c y ++ List.replicate (N.length - ps.length) .un) (hle : ∀ c y, Le (Γe c y) (Γ0 c y))
    (hown : ∀ c y (i : Nat) (l : Bool) (a : Addr) (q : Po), (pp c y)[i]? = some (.ow l a q) → (Γe c y)[i]? = some (.ow l a q)) (hz : ∀ c y z, Z c y z = .ret (kr.ok z) ∨ (Z c y z = .nx (Γe c y) ∧ ∀ H F' H', kr.ok z .non H F' H'))
    (hbody : ∀ (cdv : Value) (A : Around) (outer : List Env) (s : Shared) (H : Hp) (E : XK) (c : ι) (y : β), Room k (A.deeper (envOfC qual (defScope st) s.heap.objs.size f cdv)) →
      RB (cxOf (L2.CX P w) P w K mg base N qual (defScope st) f cdv A outer s H E) (fun cls d _ H => E cls d H) (Γe c y) false (Γ0 c y) (defBody st) (m y) (Z c y)) :
    FnOk P w K mg base (L2.CX P w) (k + 1) f fd ps (spR K mg pp m kr) := by
  have ln : ∀ {vs : List V} {c : ι} {y : β} {F0 H : Hp}, Ok ⟨F0, H, owns (pp c y)⟩ (pp c y) (vs.map some) F0 H → vs.length = ps.length := fun {vs c y F0 H} o => by
    have := o.ln
    rw [List.length_map, hlen] at this
    exact this
  refine F.okX S (fun vs H Q E ⟨c, y, F0, o, _⟩ => ln o) fun cdv A outer s H vs Q E hr ⟨c, y, F0, o, q⟩ => ?_
  refine ⟨_, pssS, ?_⟩
  have hl := ln o
  have o0 : Ok ⟨F0, H, owns (pp c y)⟩ (Γ0 c y) (L2.start N vs) F0 H := by
    rw [hΓ c y]
    refine ⟨o.go, fun i en he => ?_, fun i j l l' a p q h1 h2 => ?_, by unfold L2.start; simp [hl, hlen c y]⟩
    · by_cases hi : i < (pp c y).length
      · rw [List.getElem?_append_left hi] at he
        have z := o.en i en he
        have e : (L2.start N vs)[i]? = (vs.map some)[i]? := by
          unfold L2.start
          rw [List.getElem?_append_left (by rw [List.length_map, hl, ← hlen c y]; exact hi)]
        rw [e]
        exact z
      · rw [List.getElem?_append_right (by omega), List.getElem?_replicate] at he
        split at he
        · cases he; trivial
        · cases he
    · have key : ∀ {i : Nat} {l : Bool} {p : Po}, (pp c y ++ List.replicate (N.length - ps.length) En.un)[i]? = some (.ow l a p) → (pp c y)[i]? = some (.ow l a p) := fun {i l p} h => by
        by_cases hi : i < (pp c y).length
        · rw [List.getElem?_append_left hi] at h; exact h
        · rw [List.getElem?_append_right (by omega), List.getElem?_replicate] at h
          split at h
          · cases h
          · cases h
      exact o.ap i j l l' a p q (key h1) (key h2)
  have own : ∀ {σ : L2.St} {F' H' : Hp}, Ok ⟨F0, H, owns (pp c y)⟩ (Γe c y) σ F' H' → OwnOk F' H' (pp c y) := fun {σ F' H'} o i l a q h => by
    obtain ⟨_, h2, _, u, h4, h5⟩ := o.en i _ (hown c y i l a q h)
    exact ⟨h2, u, h4, h5⟩
  refine hbody cdv A outer s H E c y hr (hle c y) ⟨F0, H, owns (pp c y)⟩ (L2.start N vs) F0 H { nx := fun _ H' => Q .non H', rt := Q } _ (fun _ => rfl) o0 ((m y).mono (fun z hzq => ?_) (fun ex hex cls d σ F' H' _ o' r => ?_) q)
  · rcases hz c y z with h | ⟨h, h2⟩
    · rw [h]
      exact fun v σ F' H' _ o' r => hzq v F' H' o'.go (own o') r
    · rw [h]
      exact fun σ F' H' _ o' => hzq .non F' H' o'.go (own o') (h2 _ _ _)
  · exact hex cls d F' H' o'.go (own o') r
end
end RF
namespace RF
open PySem PySem.Spec PyProof.Rows L2 KO SX

/-! ### instances -/
def Fs (F : Hp) : List (Str × Pr) → List (Str × V) → Prop
  | [], [] => True
  | (n, p) :: fs, (n', v) :: gs => n = n' ∧ p.r v F ∧ Fs F fs gs
  | _, _ => False
section
variable {F F' : Hp}
theorem Fs.mono (s : Same F F') : ∀ {fs : List (Str × Pr)} {gs : List (Str × V)}, Fs F fs gs → Fs F' fs gs
  | [], [], _ => trivial
  | (_, p) :: _, (_, _) :: _, h => ⟨h.1, p.mono s h.2.1, Fs.mono s h.2.2⟩
  | [], _ :: _, h => h.elim
  | _ :: _, [], h => h.elim
theorem Fs.len : ∀ {fs : List (Str × Pr)} {gs : List (Str × V)}, Fs F fs gs → gs.length = fs.length
  | [], [], _ => rfl
  | (_, _) :: _, (_, _) :: _, h => by simp [Fs.len h.2.2]
  | [], _ :: _, h => h.elim
  | _ :: _, [], h => h.elim
theorem Fs.look {f : Str} {p : Pr} : ∀ {fs : List (Str × Pr)} {gs : List (Str × V)}, Fs F fs gs → fs.lookup f = some p → ∃ v, gs.lookup f = some v ∧ p.r v F
  | [], [], _, e => by cases e
  | (n, q) :: fs, (n', v) :: gs, h, e => by
    obtain ⟨rfl, h1, h2⟩ := h
    rw [List.lookup_cons] at e ⊢
    cases c : (f == n) with
    | true => rw [c] at e; cases e; exact ⟨v, rfl, h1⟩
    | false => rw [c] at e; exact Fs.look h2 e
  | [], _ :: _, h, _ => h.elim
  | _ :: _, [], h, _ => h.elim
theorem Fs.lookN {f : Str} : ∀ {fs : List (Str × Pr)} {gs : List (Str × V)}, Fs F fs gs → fs.lookup f = none → gs.lookup f = none
  | [], [], _, _ => rfl
  | (n, q) :: fs, (n', v) :: gs, h, e => by
    obtain ⟨rfl, h1, h2⟩ := h
    rw [List.lookup_cons] at e ⊢
    cases c : (f == n) with
    | true => rw [c] at e; cases e
    | false => rw [c] at e; exact Fs.lookN h2 e
  | [], _ :: _, h, _ => h.elim
  | _ :: _, [], h, _ => h.elim
def putP (f : Str) (p : Pr) : List (Str × Pr) → List (Str × Pr)
  | [] => [(f, p)]
  | (n, q) :: fs => if n = f then (f, p) :: fs else (n, q) :: putP f p fs
end
def oIn (C : Addr) (fs : List (Str × Pr)) : Po := ⟨fun o F => ∃ dx gs, o = .ins C dx gs ∧ Fs F fs gs, fun s ⟨dx, gs, e, h⟩ => ⟨dx, gs, e, h.mono s⟩⟩
def rIn (C : Addr) (fs : List (Str × Pr)) : Pr := ⟨fun v F => ∃ a dx gs, v = .ref a ∧ F a = some (.ins C dx gs) ∧ Fs F fs gs, fun s ⟨a, dx, gs, e, h, k⟩ => ⟨a, dx, gs, e, s _ _ h, k.mono s⟩⟩
theorem frz_In {C : Addr} {fs : List (Str × Pr)} (a : Addr) (u : HO) (F : Hp) (h : F a = some u) (k : (oIn C fs).r u F) : (rIn C fs).r (.ref a) F := by
  obtain ⟨dx, gs, rfl, k⟩ := k
  exact ⟨a, dx, gs, rfl, h, k⟩
section
variable {F : Hp}
theorem Fs.put {f : Str} {p : Pr} {v : V} (hv : p.r v F) : ∀ {fs : List (Str × Pr)} {gs : List (Str × V)}, Fs F fs gs → Fs F (putP f p fs) (putF f v gs)
  | [], [], _ => ⟨rfl, hv, trivial⟩
  | (n, q) :: fs, (n', u) :: gs, h => by
    obtain ⟨rfl, h1, h2⟩ := h
    unfold putP putF
    by_cases e : n = f
    · subst e
      simp [Fs, hv, h2]
    · simp [e, Fs, h1, Fs.put hv h2]
  | [], _ :: _, h => h.elim
  | _ :: _, [], h => h.elim
end
section
variable {α β γ δ : Type} {X : Cx} {W : WX} {Γe Γ Γ' : Ctx} {lv : Bool} {e o : Expr} {es : List Expr} {st : Stmt} {rest : List Stmt} {Z : γ → Fin} {pos : Pos}
/-- e.f -/
theorem re_fld {C : Addr} {f : Str} {me : Mo α} {ρ : α → Pr} {ρ' : β → Pr} {g : α → β} (fs : α → List (Str × Pr)) (he : RE X W Γ e me (.fz ρ)) (c : Cls X.K C) (n : NoAttr X.K C f) (hρ : ∀ x, ρ x = rIn C (fs x) := by intro _; rfl) (hf : ∀ x, (fs x).lookup f = some (ρ' (g x)) := by intro _; rfl) (hb : attributeBase e f X.env (eval e X.env) = eval e X.env := by rfl) :
    RE X W Γ (.Attribute e f pos) (me >>= fun x => pure (g x)) (.fz ρ') := by
  refine re_of (pe_fld peE hb) fun G σ F H Q o q => ?_
  refine he G σ F H _ o (me.mono (fun x hx v F' H' o' g' z => ?_) (fun _ z => z) q)
  have z : (ρ x).r v F' := z
  rw [hρ x] at z
  obtain ⟨a, dx, gs, rfl, h1, h2⟩ := z
  obtain ⟨u, h3, h4⟩ := h2.look (hf x)
  exact ⟨a, C, dx, gs, u, rfl, o'.le _ _ h1, c, n, h3, hx u F' H' o' g' h4⟩
/-- self.f, self one's own -/
theorem re_fldO {C a : Addr} {i : Nat} {l : Bool} {x f : Str} {p2 : Pos} {fs : List (Str × Pr)} {ρ' : β → Pr} {y : β} (hi : Γ[i]? = some (.ow l a (oIn C fs))) (hp : PE X (.Name x p2) (tVar i)) (c : Cls X.K C) (n : NoAttr X.K C f) (hf : fs.lookup f = some (ρ' y) := by rfl) (hb : attributeBase (.Name x p2) f X.env (eval (.Name x p2) X.env) = eval (.Name x p2) X.env := by rfl) :
    RE X W Γ (.Attribute (.Name x p2) f pos) (pure y) (.fz ρ') := by
  refine re_of (pe_fld hp hb) fun G σ F H Q o q => ?_
  obtain ⟨h1, _, _, u, hu, dx, gs, rfl, hg⟩ := o.en i _ hi
  obtain ⟨w, h3, h4⟩ := hg.look hf
  exact ⟨.ref a, h1, a, C, dx, gs, w, rfl, hu, c, n, h3, NQ.here (ρ := ρ') q o h4⟩
/-- self.f = e -/
theorem rb_setfld {C a : Addr} {i : Nat} {l : Bool} {f : Str} {fs : List (Str × Pr)} {me : Mo α} {ρ : α → Pr} {mr : α → Mo γ} (hs : PS X st (sFld X.K (tVar i) (tE X e) f)) (hi : Γ[i]? = some (.ow l a (oIn C fs))) (he : RE X W Γ e me (.fz ρ)) (c : Cls X.K C) (n : NoAttr X.K C f) (hlen : fs.length < 1000) (hie : Γe[i]? = some .un)
    (hr : ∀ x, RB X W Γe lv (Γ.set i (.ow l a (oIn C (putP f (ρ x) fs)))) rest (mr x) Z) : RB X W Γe lv Γ (st :: rest) (me >>= mr) Z := fun le G σ F H D nx' hn o q =>
  tSs_cons hs (he G σ F H _ o (me.mono (fun x hx v F' H' o' g' z => by
    obtain ⟨h1, _, _, u, hu, dx, gs, rfl, hg⟩ := o'.en i _ hi
    refine ⟨.ref a, h1, a, C, dx, gs, rfl, hu, c, n, by rw [hg.len]; exact hlen, ?_⟩
    exact hr x (le.set hie) G σ F' _ D nx' hn (o'.put (q := oIn C (putP f (ρ x) fs)) hi ⟨dx, _, rfl, hg.put z⟩) (run_fin g'.fs hx)) (fun _ => XQ.eq le) q))
/-! methods -/
section
variable {k : Nat} {f C : Addr} {fd : FuncData} {ps : List Str} {pp : β → Ctx} {m : α × β → Mo γ} {kr : RK γ} {ma : Mo β} {n : Str} {apos : Pos} {pl : Sem Bool} {mo : Mo α} {ρo : α → Pr}
theorem ra_both {F H : Hp} {p : Ctx} {vs : List V} {v : V} {q : Pr} (h : ArgOk Γ F H p vs) (hv : q.r v F) : ArgOk Γ F H (.fz q :: p) (v :: vs) := ⟨by simp [h.1], fun i en u h1 h2 => by
    cases i with
    | zero =>
      simp at h1 h2
      subst h1 h2
      exact hv
    | succ i => exact h.2.1 i en u (by simpa using h1) (by simpa using h2), fun j l a q h1 => by
    cases j with
    | zero => simp at h1
    | succ j => exact h.2.2 j l a q (by simpa using h1)⟩
theorem oneOwn_tail {q : Pr} {p : Ctx} (h : oneOwn (.fz q :: p) = true) : oneOwn (.fz q :: p) = true := h
/-- o.m(e, ..) -/
theorem re_meth {pa : β → Ctx} (fs : α → List (Str × Pr)) (ho : RE X W Γ o mo (.fz ρo)) (c : Cls X.K C) (hm : Meth X.K C n f) (Fn : FnOk X.prog X.w X.K X.mg X.base (L2.CX X.prog X.w) k f fd ps (spR X.K X.mg (fun (_ : Unit) z => .fz (ρo z.1) :: pp z.2) m kr)) (hr : Room k X.A) (tk : Takes X W) (ha : RA X W Γ (e :: es) ma pa) (hb : Binds X.K fd ps [])
    (hρ : ∀ x, ρo x = rIn C (fs x) := by intro _; rfl) (hn : ∀ x, (fs x).lookup n = none := by intro _; rfl) (hpp : ∀ y, pa y = pp y := by intro _; rfl) (hap : ∀ x y, oneOwn (.fz (ρo x) :: pp y) = true := by intro _ _; rfl) (hst : starEach (e :: es) X.env = (false, eval e X.env) :: starEach es X.env := by rfl) (hpl : (backTo pos (starEach es X.env)).any (·.1) = false := by rfl)
    (ht : eval (.Call (.Attribute o n apos) (e :: es) [] pos) X.env = (do
      let ov ← eval o X.env
      standAt apos.atName
      let (f, first) ← holding [ov] (getMethod ov n pl)
      callWith pos f first (backTo pos (starEach (e :: es) X.env)) (backToKw pos (keywordEach [] X.env))) := by rfl) :
    RE X W Γ (.Call (.Attribute o n apos) (e :: es) [] pos) (mo >>= fun x => ma >>= fun y => m (x, y)) kr := by
  refine re_of (pe_methX peE c hm Fn hr hb (fun σ => passAt tk σ) paA hst hpl ht) fun G σ F H Q o q => ?_
  refine ho G σ F H _ o (mo.mono (fun x hx v F1 H1 o1 g1 z => ?_) (fun _ z => z) q)
  have z' : (ρo x).r v F1 := z
  have z2 := z'
  rw [hρ x] at z2
  obtain ⟨a, dx, gs, rfl, h1, h2⟩ := z2
  refine ⟨a, dx, gs, rfl, o1.le _ _ h1, h2.lookN (hn x), ?_⟩
  refine ha G σ F1 H1 _ o1 (ma.mono (fun y hy vs F' H' o' g' z => ?_) (fun _ => EQ.step g1) hx)
  rw [hpp y] at z
  exact run_spR (pp := fun (_ : Unit) z => .fz (ρo z.1) :: pp z.2) (i := ()) (y := (x, y)) o' (ra_both z ((ρo x).mono g'.fs z')) (hap x y) (run_step (g1.trans g' owns_tr) hy)
/-- o.m() -/
theorem pe_methX0 {CX : CXT} {ta : TE} {E : L2.St → XK} {sp : Sp} (he : PE X o ta) (c : Cls X.K C) (hm : Meth X.K C n f) (F : FnOk X.prog X.w X.K X.mg X.base CX k f fd ps sp) (hr : Room k X.A) (hb : Binds X.K fd ps []) (hx : ∀ σ, PassesAt CX X σ (E σ))
    (ht : eval (.Call (.Attribute o n apos) [] [] pos) X.env = (do
      let ov ← eval o X.env
      standAt apos.atName
      let (f, first) ← holding [ov] (getMethod ov n pl)
      callWith pos f first (backTo pos (starEach [] X.env)) (backToKw pos (keywordEach [] X.env))) := by rfl) :
    PE X (.Call (.Attribute o n apos) [] [] pos) (tMethX C n sp E ta tNil) := by
  refine ⟨fun pins s σ H Q I h => ?_⟩
  refine PySem.W.methodCall_KW (pl := pl) (thn (he.run pins s σ H _ I h) fun u s1 ⟨x, H1, I1, rx, a, dx, fs, ex, ea, l, q⟩ => ?_) ht
  subst ex
  obtain rfl : u = Value.ref a := rx
  refine getmeth_ok I1 ea c hm l ?_
  exact PySem.W.callWith_K0 (first := [.ref a]) I1.kIn hm.kp (run_fnS (us := [.ref a]) (vs := [.ref a]) F hr hb (hx σ) I1 (.cons rfl .nil) q)
theorem re_meth0 {m : α → Mo γ} (fs : α → List (Str × Pr)) (ho : RE X W Γ o mo (.fz ρo)) (c : Cls X.K C) (hm : Meth X.K C n f) (Fn : FnOk X.prog X.w X.K X.mg X.base (L2.CX X.prog X.w) k f fd ps (spR X.K X.mg (fun (_ : Unit) (z : α × Unit) => [.fz (ρo z.1)]) (fun z => m z.1) kr)) (hr : Room k X.A) (tk : Takes X W) (hb : Binds X.K fd ps [])
    (hρ : ∀ x, ρo x = rIn C (fs x) := by intro _; rfl) (hn : ∀ x, (fs x).lookup n = none := by intro _; rfl)
    (ht : eval (.Call (.Attribute o n apos) [] [] pos) X.env = (do
      let ov ← eval o X.env
      standAt apos.atName
      let (f, first) ← holding [ov] (getMethod ov n pl)
      callWith pos f first (backTo pos (starEach [] X.env)) (backToKw pos (keywordEach [] X.env))) := by rfl) :
    RE X W Γ (.Call (.Attribute o n apos) [] [] pos) (mo >>= m) kr := by
  refine re_of (pe_methX0 peE c hm Fn hr hb (fun σ => passAt tk σ) ht) fun G σ F H Q o q => ?_
  refine ho G σ F H _ o (mo.mono (fun x hx v F1 H1 o1 g1 z => ?_) (fun _ z => z) q)
  have z' : (ρo x).r v F1 := z
  have z2 := z'
  rw [hρ x] at z2
  obtain ⟨a, dx, gs, rfl, h1, h2⟩ := z2
  refine ⟨a, dx, gs, rfl, o1.le _ _ h1, h2.lookN (hn x), ?_⟩
  exact run_spR (pp := fun (_ : Unit) (z : α × Unit) => [.fz (ρo z.1)]) (i := ()) (y := (x, ())) (vs := [.ref a]) o1 (ra_both ⟨rfl, fun i en u h => by simp at h, fun j l a q h => by simp at h⟩ z') rfl (run_step g1 hx)
end
/-! making an instance -/
def spI {β γ : Type} (K : PySem.W.Frag) (mg : Str → Option Value) (C : Addr) (pp : β → Ctx) (m : β → Mo γ) (fo : γ → List (Str × Pr)) : Sp := fun vs H Q E => ∃ (x : β) (F : Hp) (a : Addr) (ws : List V), vs = .ref a :: ws ∧ Ok ⟨F, H, [a]⟩ (.ow false a (oIn C []) :: pp x) (vs.map some) F H ∧
  (m x).run (fun y => ∀ F' H', Go [a] F H F' H' → F' a = none → (∃ u, H' a = some u ∧ (oIn C (fo y)).r u F') → Q .non H') (fun ex => ∀ cls d F' H', Go [a] F H F' H' → ErrOk K mg ex cls d F' → E cls d H')
section
variable {k : Nat} {f C : Addr} {fd : FuncData} {ps : List Str} {pp : β → Ctx} {m : β → Mo γ} {fo : γ → List (Str × Pr)} {ma : Mo β} {x : Str} {p : Pos}
theorem re_make {pa : β → Ctx} (M : Mk X.K C f) (Fn : FnOk X.prog X.w X.K X.mg X.base (L2.CX X.prog X.w) k f fd ps (spI X.K X.mg C pp m fo)) (hr : Room (k + 1) X.A) (tk : Takes X W) (ha : RA X W Γ (e :: es) ma pa) (hm : X.mg x = some (.ref C)) (hb : Binds X.K fd ps [])
    (hpp : ∀ y, pa y = pp y := by intro _; rfl) (hno : ∀ y, ((pp y).all fun e => e.own?.isNone) = true := by intro _; rfl) (hg : Gl X x := by rfl) (hdb : (x == ("__debug__" : Str)) = false := by decide) (he : starEach (e :: es) X.env = (false, eval e X.env) :: starEach es X.env := by rfl) (hpl : (backTo pos (starEach es X.env)).any (·.1) = false := by rfl) :
    RE X W Γ (.Call (.Name x p) (e :: es) [] pos) (ma >>= m) (.ow fun y => oIn C (fo y)) := by
  refine re_of (pe_makeX M Fn hr hg hm hb (fun σ => passAt tk σ) paA hdb he hpl) fun G σ F H Q o q => ?_
  refine ha G σ F H _ o (ma.mono (fun y hy vs F1 H1 o1 g1 z x dx hx hdx ne => ?_) (fun _ z => z) q)
  rw [hpp y] at z
  have gA : Go [x] F1 H1 F1 (upd H1 dx (.own x)) := Go.newO o1.le hdx
  have hx2 : (upd H1 dx (.own x)) x = none := by rw [upd_ne (Ne.symm ne)]; exact hx
  have gB : Go [x] F1 (upd H1 dx (.own x)) F1 (upd (upd H1 dx (.own x)) x (.ins C dx [])) := Go.newO gA.le hx2
  have gC := gA.trans gB (fun a h => .inl h)
  generalize hH2 : upd (upd H1 dx (.own x)) x (.ins C dx []) = H2 at gB gC ⊢
  have hH2x : H2 x = some (.ins C dx []) := by rw [← hH2]; exact upd_same
  have hFx : F1 x = none := o1.le.free hx
  have lift : ∀ {F' H'}, Go [x] F1 H2 F' H' → Ok G Γ σ F' H' ∧ Go (owns Γ) F H F' H' := fun {F' H'} g => by
    have g2 : Go [x] F1 H1 F' H' := gC.trans g (fun a h => .inl h)
    exact ⟨o1.move g2 (fun a h => .inl (by rw [List.mem_singleton.mp h]; exact hx)), g1.trans g2 (fun a h => .inr (by
      rw [List.mem_singleton.mp h]
      cases e : H x with
      | none => rfl
      | some y => obtain ⟨y', e'⟩ := g1.th _ _ e; rw [hx] at e'; cases e'))⟩
  have hHx : H x = none := by
    cases e : H x with
    | none => rfl
    | some y => obtain ⟨y', e'⟩ := g1.th _ _ e; rw [hx] at e'; cases e'
  refine ⟨y, F1, x, vs, rfl, ⟨Go.refl gB.le, fun i en he => ?_, ap_of ?_, by simp [z.1]⟩, (m y).mono (fun w hw F' H' g h1 h2 => ⟨rfl, ?_⟩) (fun ex hex cls d F' H' g r => ?_) hy⟩
  · cases i with
    | zero =>
      simp at he
      subst he
      exact ⟨rfl, hFx, by simp, _, hH2x, dx, [], rfl, trivial⟩
    | succ i =>
      have he : (pp y)[i]? = some en := by simpa using he
      have hi : i < vs.length := by rw [z.1]; exact (List.getElem?_eq_some_iff.mp he).1
      have hv := List.getElem?_eq_getElem hi
      have zz := z.2.1 i en _ he hv
      have ee : ((V.ref x :: vs).map some)[i + 1]? = some (some vs[i]) := by
        rw [List.getElem?_map, List.getElem?_cons_succ, hv]; rfl
      rw [ee]
      cases en with
      | un => trivial
      | fz r => exact ⟨_, rfl, zz⟩
      | ow l b q =>
        have := List.all_eq_true.mp (hno y) _ (List.mem_of_getElem? he)
        simp [En.own?] at this
      | lk f h r => exact zz.elim
  · have : owns (En.ow false x (oIn C []) :: pp y) = x :: owns (pp y) := rfl
    rw [this, noOwn (hno y)]
    simp
  · obtain ⟨o2, g2⟩ := lift g
    obtain ⟨u, hu, hr2⟩ := h2
    exact hw (.ref x) F' H' o2 g2 ⟨x, u, rfl, hHx, h1, hu, hr2⟩
  · obtain ⟨o2, g2⟩ := lift g
    exact hex cls d F' H' o2 g2 r
end
end
section
variable {β γ : Type}
theorem init_mk {P : Program} {w : World} {K : PySem.W.Frag} {mg : Str → Option Value} {base : Heap} {x qual : Str} {st : Stmt} {f C : Addr} {fd : FuncData} {N ps : List Str} {k : Nat} {pp : β → Ctx} {m : β → Mo γ} {fo : γ → List (Str × Pr)} {Γe : Ctx} {Γ0 : Addr → β → Ctx} {Γo : Addr → γ → Ctx}
    (F : Fun K x qual st f fd) (S : FnScope N ps (defScope st)) (hlen : ∀ y, (pp y).length + 1 = ps.length) (hΓ : ∀ a y, Γ0 a y = .ow false a (oIn C []) :: pp y ++ List.replicate (N.length - ps.length) .un) (hle : ∀ a y, Le Γe (Γ0 a y)) (hno : ∀ y, ((pp y).all fun e => e.own?.isNone) = true)
    (hout : ∀ a z, (Γo a z)[0]? = some (.ow false a (oIn C (fo z))))
    (hbody : ∀ (cdv : Value) (A : Around) (outer : List Env) (s : Shared) (H : Hp) (E : XK) (a : Addr) (y : β), Room k (A.deeper (envOfC qual (defScope st) s.heap.objs.size f cdv)) →
      RB (cxOf (L2.CX P w) P w K mg base N qual (defScope st) f cdv A outer s H E) (fun cls d _ H => E cls d H) Γe false (Γ0 a y) (defBody st) (m y) (fun z => .nx (Γo a z))) :
    FnOk P w K mg base (L2.CX P w) (k + 1) f fd ps (spI K mg C pp m fo) := by
  have ln : ∀ {vs : List V} {y : β} {a : Addr} {F0 H : Hp}, Ok ⟨F0, H, [a]⟩ (.ow false a (oIn C []) :: pp y) (vs.map some) F0 H → vs.length = ps.length := fun {vs y a F0 H} o => by
    have := o.ln
    rw [List.length_map, List.length_cons, hlen] at this
    exact this
  refine F.okX S (fun vs H Q E ⟨y, F0, a, ws, _, o, _⟩ => ln o) fun cdv A outer s H vs Q E hr ⟨y, F0, a, ws, _, o, q⟩ => ?_
  refine ⟨_, pssS, ?_⟩
  have hl := ln o
  have key : ∀ {i : Nat} {en : En}, (Γ0 a y)[i]? = some en → en = .un ∨ (En.ow false a (oIn C []) :: pp y)[i]? = some en := fun {i en} h => by
    rw [hΓ a y] at h
    by_cases hi : i < (En.ow false a (oIn C []) :: pp y).length
    · rw [List.getElem?_append_left hi] at h; exact .inr h
    · rw [List.getElem?_append_right (by omega), List.getElem?_replicate] at h
      split at h
      · cases h; exact .inl rfl
      · cases h
  have o0 : Ok ⟨F0, H, [a]⟩ (Γ0 a y) (L2.start N vs) F0 H := by
    refine ⟨o.go, fun i en he => ?_, fun i j l l' b p q h1 h2 => ?_, by rw [hΓ]; unfold L2.start; simp [hl, ← hlen y]; omega⟩
    · rcases key he with h | h
      · subst h; trivial
      · have hi : i < ps.length := by rw [← hlen y]; exact (by simpa using (List.getElem?_eq_some_iff.mp h).1)
        have z := o.en i en h
        have e : (L2.start N vs)[i]? = (vs.map some)[i]? := by
          unfold L2.start
          rw [List.getElem?_append_left (by rw [List.length_map, hl]; exact hi)]
        rw [e]
        exact z
    · rcases key h1 with h | h1
      · cases h
      · rcases key h2 with h | h2
        · cases h
        · exact o.ap i j l l' b p q h1 h2
  refine hbody cdv A outer s H E a y hr (hle a y) ⟨F0, H, [a]⟩ (L2.start N vs) F0 H { nx := fun _ H' => Q .non H', rt := Q } _ (fun _ => rfl) o0 ((m y).mono (fun z hzq σ F' H' _ o' => ?_) (fun ex hex cls d σ F' H' _ o' r => hex cls d F' H' o'.go r) q)
  obtain ⟨_, h2, _, h4⟩ := o'.en 0 _ (hout a z)
  exact hzq F' H' o'.go h2 h4
end
end RF
namespace RF
open PySem PySem.Spec PyProof.Rows L2 KO SX

/-! ### any value as a datum -/
class Enc {α : Type} (ρ : α → Pr) where
  n : Nat
  d : α → PyData
  ok : α → Prop
  is : ∀ {x : α} {v : V} {F : Hp}, ok x → (ρ x).r v F → Dt n F v (d x)
section
variable {α β γ δ ε : Type}
instance encI : Enc rI := ⟨1, .int, fun _ => True, fun _ h => h⟩
instance encB : Enc rB := ⟨1, .bool, fun _ => True, fun _ h => h⟩
instance encS : Enc rS := ⟨1, .str, fun _ => True, fun _ h => h⟩
instance encN : Enc rN := ⟨1, fun _ => .none, fun _ => True, fun _ h => h⟩
instance encD : Enc rD := ⟨8, id, fun _ => True, fun _ h => h⟩
instance encO {ρ : α → Pr} [s : Enc ρ] : Enc (rO ρ) := ⟨s.n + 1, fun o => match o with | none => .none | some x => s.d x, fun o => match o with | none => True | some x => s.ok x, fun {x v F} k h => by
  cases x with
  | none => exact h
  | some x => exact (s.is k h).up⟩
theorem dt_ps {F : Hp} {n : Nat} : ∀ {ps : List Pr} {ds : List PyData} {vs : List V}, ps.length = ds.length → (∀ (i : Nat) (p : Pr) (d : PyData), ps[i]? = some p → ds[i]? = some d → ∀ v, p.r v F → Dt n F v d) → Ps F ps vs → vs.length = ds.length ∧ ∀ (i : Nat) (x : V) (e : PyData), vs[i]? = some x → ds[i]? = some e → Dt n F x e := fun {ps ds vs} hl h k => by
  refine ⟨by rw [k.len, hl], fun i x e h1 h2 => ?_⟩
  obtain ⟨p, h3, h4⟩ := k.get' h1
  exact h i p e h3 h2 x h4
theorem dt_map {ρ : α → Pr} [s : Enc ρ] {F : Hp} {xs : List α} (hk : ∀ x ∈ xs, s.ok x) (i : Nat) (p : Pr) (d : PyData) (h1 : (xs.map ρ)[i]? = some p) (h2 : (xs.map s.d)[i]? = some d) (v : V) (h : p.r v F) : Dt s.n F v d := by
  rw [List.getElem?_map] at h1 h2
  cases e : xs[i]? with
  | none => rw [e] at h1; cases h1
  | some x =>
    rw [e] at h1 h2
    obtain rfl := Option.some.inj h1
    obtain rfl := Option.some.inj h2
    exact s.is (hk x (List.mem_of_getElem? e)) h
instance encL {ρ : α → Pr} [s : Enc ρ] : Enc (rL ρ) := ⟨s.n + 1, fun xs => .list (xs.map s.d), fun xs => xs.length ≤ 1000 ∧ ∀ x ∈ xs, s.ok x, fun {xs v F} k h => by
  obtain ⟨a, vs, rfl, h1, h2⟩ := h
  obtain ⟨h3, h4⟩ := dt_ps (ds := xs.map s.d) (by simp) (dt_map k.2) h2
  exact ⟨a, vs, rfl, h1, h3, by simpa using k.1, h4⟩⟩
instance encTs {ρ : α → Pr} [s : Enc ρ] : Enc (rTs ρ) := ⟨s.n + 1, fun xs => .tuple (xs.map s.d), fun xs => xs.length ≤ 1000 ∧ ∀ x ∈ xs, s.ok x, fun {xs v F} k h => by
  obtain ⟨a, vs, rfl, h1, h2⟩ := h
  obtain ⟨h3, h4⟩ := dt_ps (ds := xs.map s.d) (by simp) (dt_map k.2) h2
  exact ⟨a, vs, rfl, h1, h3, by simpa using k.1, h4⟩⟩
/-- a tuple of a form that is known -/
theorem dt_tu {F : Hp} {n : Nat} {ps : List Pr} {ds : List PyData} {v : V} (hl : ps.length = ds.length) (hz : ds.length ≤ 1000) (h : (rTu ps).r v F) (r : ∀ (i : Nat) (p : Pr) (d : PyData), ps[i]? = some p → ds[i]? = some d → ∀ v, p.r v F → Dt n F v d) : Dt (n + 1) F v (.tuple ds) := by
  obtain ⟨a, vs, rfl, h1, h2⟩ := h
  obtain ⟨h3, h4⟩ := dt_ps hl r h2
  exact ⟨a, vs, rfl, h1, h3, hz, h4⟩
theorem all2 {P : Pr → PyData → Prop} : ∀ {ps : List Pr} {ds : List PyData}, Paired P ps ds → ∀ (i : Nat) (p : Pr) (d : PyData), ps[i]? = some p → ds[i]? = some d → P p d
  | _, _, .nil, _, _, _, h, _ => by simp at h
  | _, _, .cons h t, 0, p, d, h1, h2 => by simp at h1 h2; subst h1 h2; exact h
  | _, _, .cons h t, i + 1, p, d, h1, h2 => all2 t i p d (by simpa using h1) (by simpa using h2)
section
variable {ρ : α → Pr} {σ : β → Pr} {τ : γ → Pr} {υ : δ → Pr} {φ : ε → Pr} [r : Enc ρ] [s : Enc σ] [t : Enc τ] [u : Enc υ] [w : Enc φ]
instance encT1 : Enc (rT1 ρ) := ⟨r.n + 1, fun x => .tuple [r.d x], fun x => r.ok x, fun {x v F} k h =>
  dt_tu rfl (by show 1 ≤ 1000; decide) h (all2 (.cons (fun v h => r.is k h) .nil))⟩
instance encT2 : Enc (rT2 ρ σ) := ⟨max r.n s.n + 1, fun x => .tuple [r.d x.1, s.d x.2], fun x => r.ok x.1 ∧ s.ok x.2, fun {x v F} k h =>
  dt_tu rfl (by show 2 ≤ 1000; decide) h (all2 (.cons (fun v h => (r.is k.1 h).le (by omega)) (.cons (fun v h => (s.is k.2 h).le (by omega)) .nil)))⟩
instance encT3 : Enc (rT3 ρ σ τ) := ⟨max r.n (max s.n t.n) + 1, fun x => .tuple [r.d x.1, s.d x.2.1, t.d x.2.2], fun x => r.ok x.1 ∧ s.ok x.2.1 ∧ t.ok x.2.2, fun {x v F} k h =>
  dt_tu rfl (by show 3 ≤ 1000; decide) h (all2 (.cons (fun v h => (r.is k.1 h).le (by omega)) (.cons (fun v h => (s.is k.2.1 h).le (by omega)) (.cons (fun v h => (t.is k.2.2 h).le (by omega)) .nil))))⟩
instance encT4 : Enc (rT4 ρ σ τ υ) := ⟨max r.n (max s.n (max t.n u.n)) + 1, fun x => .tuple [r.d x.1, s.d x.2.1, t.d x.2.2.1, u.d x.2.2.2], fun x => r.ok x.1 ∧ s.ok x.2.1 ∧ t.ok x.2.2.1 ∧ u.ok x.2.2.2, fun {x v F} k h =>
  dt_tu rfl (by show 4 ≤ 1000; decide) h (all2 (.cons (fun v h => (r.is k.1 h).le (by omega)) (.cons (fun v h => (s.is k.2.1 h).le (by omega)) (.cons (fun v h => (t.is k.2.2.1 h).le (by omega)) (.cons (fun v h => (u.is k.2.2.2 h).le (by omega)) .nil)))))⟩
instance encT5 : Enc (rT5 ρ σ τ υ φ) := ⟨max r.n (max s.n (max t.n (max u.n w.n))) + 1, fun x => .tuple [r.d x.1, s.d x.2.1, t.d x.2.2.1, u.d x.2.2.2.1, w.d x.2.2.2.2], fun x => r.ok x.1 ∧ s.ok x.2.1 ∧ t.ok x.2.2.1 ∧ u.ok x.2.2.2.1 ∧ w.ok x.2.2.2.2, fun {x v F} k h =>
  dt_tu rfl (by show 5 ≤ 1000; decide) h (all2 (.cons (fun v h => (r.is k.1 h).le (by omega)) (.cons (fun v h => (s.is k.2.1 h).le (by omega)) (.cons (fun v h => (t.is k.2.2.1 h).le (by omega)) (.cons (fun v h => (u.is k.2.2.2.1 h).le (by omega)) (.cons (fun v h => (w.is k.2.2.2.2 h).le (by omega)) .nil))))))⟩
end
end
section
variable {α β γ δ : Type} {X : Cx} {W : WX} {Γe Γ Γ' : Ctx} {lv : Bool} {e ee o : Expr} {es : List Expr} {st : Stmt} {rest : List Stmt} {Z : γ → Fin} {pos : Pos}
/-- a value as a datum -/
theorem re_enc {ρ : α → Pr} [s : Enc ρ] {m : Mo α} (h : RE X W Γ e m (.fz ρ)) (hn : s.n ≤ 8 := by decide) : RE X W Γ e (m >>= fun x => Mo.rq (s.ok x) (s.d x)) (.fz rD) := fun G σ F H Q o q =>
  h G σ F H Q o (m.mono (fun x hx v F' H' o' g' z => hx.2 v F' H' o' g' ((s.is hx.1 z).le hn)) (fun _ z => z) q)
theorem re_isND {m : Mo PyData} {j : Nat} {p2 : Pos} (ha : RE X W Γ e m (.fz rD)) : RE X W Γ (.Compare e [.Is] [.Constant .none j p2] pos) (m >>= fun x => pure (match x with | .none => true | _ => false)) (.fz rB) := by
  refine re_of (pe_cmpR op_isN peE pe_non (nomark _)) fun G σ F H Q o q => ?_
  refine ha G σ F H _ o (m.mono (fun x hx v F' H' o' g' z => ?_) (fun _ z => z) q)
  refine ⟨rfl, hx _ F' H' o' g' ?_⟩
  have z : Dt 8 F' v x := z
  cases x with
  | none => obtain rfl : v = .non := z; rfl
  | bool b => obtain rfl : v = _ := z; rfl
  | int b => obtain rfl : v = _ := z; rfl
  | str b => obtain rfl : v = _ := z; rfl
  | list ds => obtain ⟨a, xs, rfl, _⟩ := z; rfl
  | tuple ds => obtain ⟨a, xs, rfl, _⟩ := z; rfl
  | dict kv => exact z.elim
/-! ### raise -/
theorem tE_mono : ∀ (σ : L2.St) (H : Hp) (Q Q' : VK), (∀ v H, Q v H → Q' v H) → tE X e σ H Q → tE X e σ H Q' := fun σ H Q Q' h q pins s I => thn (q pins s I) fun u s' ⟨v, H', I', r, k⟩ => ⟨v, H', I', r, h v H' k⟩
def RX (X : Cx) (W : WX) (Γ : Ctx) (t : L2.St → Hp → XK → Prop) (m : Mo Ex) : Prop := ∀ G σ F H (Q : XK), Ok G Γ σ F H → m.run (fun ex => ∀ cls d F' H', Ok G Γ σ F' H' → Go (owns Γ) F H F' H' → ErrOk X.K X.mg ex cls d F' → Q cls d H') (EQ X W G Γ σ F H) → t σ H Q
theorem rx_1 {C : Addr} {c f : Str} {ρ : α → Pr} [s : Enc ρ] {me : Mo α} (he : RE X W Γ e me (.fz ρ)) (hm : X.mg c = some (.ref C)) (hn : s.n ≤ 8 := by decide) : RX X W Γ (tR1 C f (tE X e)) (me >>= fun x => Mo.rq (s.ok x) ⟨c, [(f, s.d x)]⟩) := fun G σ F H Q o q => by
  refine he G σ F H _ o (me.mono (fun x hx v F' H' o' g' z d hd => ?_) (fun _ z => z) q)
  obtain ⟨o2, g2⟩ := o'.new (u := .xd [(f, v)]) hd
  refine hx.2 _ _ _ _ o2 (g'.trans g2 owns_tr) ⟨C, hm, rfl, .inr ⟨d, _, rfl, upd_same, fun f' y h => ?_⟩⟩
  have h : List.lookup f' [(f, s.d x)] = some y := h
  rw [List.lookup_cons] at h ⊢
  cases k : (f' == f) with
  | true =>
    rw [k] at h
    cases h
    exact ⟨v, rfl, ((s.is hx.1 z).mono g2.fs).le hn⟩
  | false => rw [k] at h; cases h
theorem rx_2 {C : Addr} {c f g : Str} {e2 : Expr} {ρ : α → Pr} {ρ2 : β → Pr} [s : Enc ρ] [s2 : Enc ρ2] {me : Mo α} {me2 : Mo β} (he : RE X W Γ e me (.fz ρ)) (he2 : RE X W Γ e2 me2 (.fz ρ2)) (hm : X.mg c = some (.ref C)) (hn : s.n ≤ 8 := by decide) (hn2 : s2.n ≤ 8 := by decide) :
    RX X W Γ (tR2 C f g (tE X e) (tE X e2)) (me >>= fun x => me2 >>= fun y => Mo.rq (s.ok x ∧ s2.ok y) ⟨c, [(g, s2.d y), (f, s.d x)]⟩) := fun G σ F H Q o q => by
  refine he G σ F H _ o (me.mono (fun x hx v F1 H1 o1 g1 z => ?_) (fun _ z => z) q)
  refine he2 G σ F1 H1 _ o1 (me2.mono (fun y hy u F' H' o' g' z2 d hd => ?_) (fun _ => EQ.step g1) hx)
  obtain ⟨o2, g2⟩ := o'.new (u := .xd [(g, u), (f, v)]) hd
  refine hy.2 _ _ _ _ o2 ((g1.trans g' owns_tr).trans g2 owns_tr) ⟨C, hm, rfl, .inr ⟨d, _, rfl, upd_same, fun f' w h => ?_⟩⟩
  have h : List.lookup f' [(g, s2.d y), (f, s.d x)] = some w := h
  rw [List.lookup_cons] at h ⊢
  cases k : (f' == g) with
  | true =>
    rw [k] at h
    cases h
    exact ⟨u, rfl, ((s2.is hy.1.2 z2).mono g2.fs).le hn2⟩
  | false =>
    rw [k] at h
    rw [List.lookup_cons] at h ⊢
    cases k2 : (f' == f) with
    | true =>
      rw [k2] at h
      cases h
      exact ⟨v, rfl, ((s.is hy.1.1 z).mono (g'.fs.trans g2.fs)).le hn⟩
    | false => rw [k2] at h; cases h
theorem rb_raise {t : L2.St → Hp → XK → Prop} {mx : Mo Ex} (hp : PMk X ee t) (tk : Takes X W) (hx : RX X W Γ t mx) (hc : X.calm = true := by rfl) : RB X W Γe lv Γ (.Raise (some ee) none pos :: rest) (mx >>= fun ex => Mo.throw ex) Z := fun le G σ F H D nx' hn o q =>
  tSs_cons (ps_raise hc tk hp) (hx G σ F H _ o (mx.mono (fun ex h cls d F' H' o' g' z => h cls d σ F' H' o'.go.fs (o'.weak le) z) (fun _ => XQ.eq le) q))
end
end RF
namespace RF
open PySem PySem.Spec PyProof.Rows L2 KO SX

/-! ### try -/
section
variable {α β γ δ : Type}
/-- an error of the class cn is handled by h; one of the classes fls goes on -/
def Mo.catch1 (m : Mo α) (cn : Str) (fls : List Str) (h : Ex → Mo α) : Mo α := ⟨fun Q E => m.run Q fun ex => if ex.cls = cn then (h ex).run Q (fun _ => False) else (ex.cls ∈ fls ∧ E ex), fun {Q Q' E E'} hq he r => m.mono hq (fun ex hx => by
  by_cases c : ex.cls = cn
  · rw [if_pos c] at hx ⊢
    exact (h ex).mono hq (fun _ z => z) hx
  · rw [if_neg c] at hx ⊢
    exact ⟨hx.1, he _ hx.2⟩) r⟩
@[simp] theorem Mo.run_catch1 {m : Mo α} {cn : Str} {fls : List Str} {h : Ex → Mo α} {Q : α → Prop} {E : Ex → Prop} : (Mo.catch1 m cn fls h).run Q E = m.run Q fun ex => if ex.cls = cn then (h ex).run Q (fun _ => False) else (ex.cls ∈ fls ∧ E ex) := rfl
/-- the slot that holds the error ex, whose object is a, its own dict at d -/
def exP (a : Addr) (d : Option Addr) (ex : Ex) : Pr := ⟨fun v F => v = .ref a ∧ ((d = none ∧ ex.fs = []) ∨ ∃ dd fs, d = some dd ∧ F dd = some (.xd fs) ∧ ∀ f y, ex.fs.lookup f = some y → ∃ v, fs.lookup f = some v ∧ Dt 8 F v y), fun s h => ⟨h.1, h.2.imp id fun ⟨dd, fs, h1, h2, h3⟩ => ⟨dd, fs, h1, s _ _ h2, fun f y h => by
  obtain ⟨v, h4, h5⟩ := h3 f y h
  exact ⟨v, h4, h5.mono s⟩⟩⟩⟩
variable {X : Cx} {W : WX} {Γe Γx Γ Γ' : Ctx} {lv : Bool} {e : Expr} {st : Stmt} {rest body suite : List Stmt} {Z : γ → Fin} {pos : Pos}
def tTb (X : Cx) (body : List Stmt) (W : WX) : TS := fun D σ H => ∀ (pn : List (Addr × Obj)) (xe : Value → Shared → Prop), Takes (X.tr pn xe) W → PassesOwn (model X.prog X.w) X.A X.env xe → tSs (X.tr pn xe) body D σ H
def tTs (X : Cx) (suite : List Stmt) (a : Addr) (cls : Value) (d : Option Addr) : TS := fun D σ H => ∀ (oe : Obj) (pn : List (Addr × Obj)), Zc cls d oe → (∃ vs, oe.data = .fields vs) → tSs (X.suite a ((a, oe) :: pn)) suite D σ H
theorem tb_ok (W : WX) (pn : List (Addr × Obj)) (xe : Value → Shared → Prop) (h1 : Takes (X.tr pn xe) W) (h2 : PassesOwn (model X.prog X.w) X.A X.env xe) : PSs (X.tr pn xe) body (tTb X body W) := ⟨fun pins s σ H D I h => h pn xe h1 h2 pins s I⟩
theorem ts_ok (a : Addr) (oe : Obj) (cls : Value) (d : Option Addr) (pn : List (Addr × Obj)) (h1 : Zc cls d oe) (h2 : ∃ vs, oe.data = .fields vs) : PSs (X.suite a ((a, oe) :: pn)) suite (tTs X suite a cls d) := ⟨fun pins s σ H D I h => h oe pn h1 h2 pins s I⟩
/-- the state of a suite at its entry -/
theorem Ok.toSuite {G : Gf} {σ : L2.St} {F H : Hp} {i : Nat} {a : Addr} {cls : Value} {d : Option Addr} {ex : Ex} (o : Ok G Γ σ F H) (z : ErrOk X.K X.mg ex cls d F) : Ok G (Γ.set i (.fz (exP a d ex))) (σ.set i (some (.ref a))) F H := by
  obtain ⟨C, h1, h2, h3⟩ := z
  exact o.set ⟨rfl, h3⟩
theorem le_un {n : Nat} {p : Pr} : ∀ {B : Ctx} {i : Nat}, Le (List.replicate n .un) (B.set i .un) → Le (List.replicate n .un) (B.set i (.fz p)) := by
  induction n with
  | zero => 
    intro B i h
    cases B with
    | nil => exact trivial
    | cons b B => cases i <;> exact h.elim
  | succ n ih =>
    intro B i h
    cases B with
    | nil => exact h.elim
    | cons b B =>
      cases i with
      | zero => exact ⟨.inl rfl, h.2⟩
      | succ i => exact ⟨.inl rfl, ih h.2⟩
theorem rb_try1 {i : Nat} {cn : Str} {Cc : Addr} {fls : List Str} {mb : Mo δ} {mh : Ex → Mo δ} {mr : δ → Mo γ} (Γj Γs : δ → Ctx) (hs : PS X st (fun D σ H => tTb X body (wAs X.K (.ref Cc) i (tTs X suite) W D) D σ H)) (hcn : X.mg cn = some (.ref Cc)) (hsub : PySem.W.exmOne X.K (.ref Cc) (.ref Cc) = some true)
    (hfls : ∀ n ∈ fls, ∀ C', X.mg n = some (.ref C') → PySem.W.exmOne X.K (.ref C') (.ref Cc) = some false)
    (hb : ∀ pn xe W', Takes (X.tr pn xe) W' → PassesOwn (model X.prog X.w) X.A X.env xe → RB (X.tr pn xe) W' Γx false Γ body mb (fun j => .nx (Γj j)))
    (hh : ∀ a oe d pn ex, ex.cls = cn → Zc (.ref Cc) d oe → (∃ vs, oe.data = .fields vs) → RB (X.suite a ((a, oe) :: pn)) W0 (List.replicate Γx.length .un) false (Γx.set i (.fz (exP a d ex))) suite (mh ex) (fun j => .nx (Γs j)))
    (hx : Le Γx Γ) (hex : Le Γe Γx) (hjs : ∀ j, Le (Γj j) ((Γs j).set i .un)) (hj : ∀ j, Le Γe (Γj j)) (hu : Le (List.replicate Γx.length .un) (Γx.set i .un)) (hr : ∀ j, RB X W Γe lv (Γj j) rest (mr j) Z) :
    RB X W Γe lv Γ (st :: rest) (Mo.catch1 mb cn fls mh >>= mr) Z := fun le G σ F H D nx' hn o q =>
  tSs_cons hs fun pn xe tk po => by
    have key : ∀ j, (mr j).run (fun x => FinOk G Γe D F (Z x)) (XQ X W G Γe F) → ∀ σ2 F2 H2, Same G.F0 F2 → Ok G (Γj j) σ2 F2 H2 → tSs X rest { D with nx := nx' } σ2 H2 := fun j hj' σ2 F2 H2 s2 o2 => hr j (hj j) G σ2 F2 H2 D nx' hn o2 (run_any hj')
    refine hb pn xe _ tk po hx G σ F H { D with nx := tSs X rest { D with nx := nx' } } _ (fun _ => rfl) o (mb.mono (fun j hj' => key j hj') (fun ex hx' cls d σ2 F2 H2 s2 o2 z => ?_) q)
    obtain ⟨C, hC, rfl, hd⟩ := id z
    by_cases c : ex.cls = cn
    · rw [if_pos c] at hx'
      rw [c, hcn] at hC
      cases hC
      refine ⟨true, hsub, fun _ a ha => ?_, fun h => by cases h⟩
      intro oe pn' hz hf
      refine hh a oe d pn' ex c hz hf ?_ G _ F2 H2 { nx := _, rt := D.rt, bk := _, ct := _ } _ (fun _ => rfl) (o2.toSuite (a := a) z) ((mh ex).mono (fun j hj' σ3 F3 H3 s3 o3 => ?_) (fun _ z => z.elim) hx')
      · exact le_un hu
      · have o4 := o3.forget i (v := none)
        exact key j hj' _ F3 H3 s3 (o4.weak (hjs j))
    · rw [if_neg c] at hx'
      refine ⟨false, hfls _ hx'.1 C hC, fun h => (by cases h), fun _ => ?_⟩
      exact hx'.2 _ d σ2 F2 H2 s2 (o2.weak hex) z
end
/-! ### draws -/
def spPool (K : PySem.W.Frag) : Sp := fun vs H Q _ => ∃ (a : Addr) (ns : List Int) (k : Nat), vs = [.ref a, .int k] ∧ SqL K H a (ns.map V.int) ∧ k ≤ 1000 ∧ ∀ H' p, H p = none → Same H H' → Pool H' p → Q (.ref p) H'
def spTake : Sp := fun vs H Q _ => ∃ (p : Addr) (m : Int), vs = [.ref p, .int m] ∧ Pool H p ∧ 0 < m ∧ m < 1152921504606846976 ∧ ∀ H' r, 0 ≤ r → r < m → Run p H H' → Q (.int r) H'
def oPool : Po := ⟨fun o _ => ∃ x f c : Int, o = .lst [.int x, .int f, .int c], fun _ h => h⟩
/-- the script -/
def rScr (K : PySem.W.Frag) (ns : List Int) : Pr := ⟨fun v F => ∃ a, v = .ref a ∧ SqL K F a (ns.map V.int), fun s ⟨a, e, h⟩ => ⟨a, e, s.seq h⟩⟩
def Mo.take (m : Int) : Mo Int := Mo.rq (0 < m ∧ m < 1152921504606846976) () >>= fun _ => Mo.any (fun r : Int => 0 ≤ r ∧ r < m)
theorem args2 {G : Gf} {p q : Pr} {vs : List V} {F H : Hp} (o : Ok G [.fz p, .fz q] (vs.map some) F H) : ∃ u, (∃ v, vs = [u, v] ∧ q.r v F) ∧ p.r u F := by
  have hl : vs.length = 2 := by
    have := o.ln
    rw [List.length_map] at this
    exact this
  obtain ⟨u, v, rfl⟩ : ∃ u v, vs = [u, v] := by
    match vs, hl with
    | [u, v], _ => exact ⟨u, v, rfl⟩
  obtain ⟨v', e, h6⟩ := o.en 0 _ rfl
  obtain ⟨v2, e2, h7⟩ := o.en 1 _ rfl
  have e : some (some u) = some (some v') := e
  have e2 : some (some v) = some (some v2) := e2
  cases e
  cases e2
  exact ⟨u, ⟨v, rfl, h7⟩, h6⟩
section
variable {P : Program} {w : World} {K : PySem.W.Frag} {mg : Str → Option Value} {base : Heap} {k : Nat} {f : Addr} {fd : FuncData} {ps : List Str} {sp sp' : Sp}
theorem _root_.L2.FnOk.cx (F : FnOk P w K mg base CX0 k f fd ps sp) : FnOk P w K mg base (L2.CX P w) k f fd ps sp := ⟨F.len, fun A outer s H args us vs Q E hr e0 hb hv hs => codeAny_mono (F.run A outer s H args us vs Q E hr e0 hb hv hs) fun r s' h => by
  cases r with
  | error e => exact h.elim
  | ok fl => cases fl <;> exact h⟩
theorem _root_.L2.FnOk.c0 (F : FnOk P w K mg base (L2.CX P w) k f fd ps sp) (hi : ∀ vs H Q E, sp' vs H Q E → sp vs H Q E0) : FnOk P w K mg base CX0 k f fd ps sp' := ⟨fun vs H Q E h => F.len vs H Q E0 (hi vs H Q E h), fun A outer s H args us vs Q E hr e0 hb hv hs => codeAny_mono (F.run A outer s H args us vs Q E0 hr e0 hb hv (hi vs H Q E hs)) fun r s' h => by
  cases r with
  | error e =>
    obtain ⟨_, _, _, _, _, _, _, _, _, _, _, _, z⟩ := h
    exact z.elim
  | ok fl => cases fl <;> exact h⟩
theorem run_go {p : Addr} {F H H' : Hp} (s : Same F H) (hF : F p = none) (r : Run p H H') : Go [p] F H F H' where
  fs := Same.refl _
  le := fun b o e => r.1 b o (ne_of_none e hF) (s b o e)
  hs := fun b o n e => r.1 b o (by simpa using n) e
  fr := fun b o _ e => e
  th := fun b o e => by
    by_cases h : b = p
    · subst h
      obtain ⟨x, f, c, q⟩ := r.2
      exact ⟨_, q⟩
    · exact ⟨o, r.1 b o h e⟩
theorem take_sp {vs : List V} {H : Hp} {Q : VK} {E : XK} (h : spR K mg (fun (a : Addr) (z : Int × Unit) => [.ow false a oPool, .fz (rI z.1)]) (fun z => Mo.take z.1) (.fz rI) vs H Q E) : spTake vs H Q E := by
  obtain ⟨a, ⟨m, _⟩, F, o, q⟩ := h
  have hl : vs.length = 2 := by
    have := o.ln
    rw [List.length_map] at this
    exact this
  obtain ⟨u, v, rfl⟩ : ∃ u v, vs = [u, v] := by
    match vs, hl with
    | [u, v], _ => exact ⟨u, v, rfl⟩
  obtain ⟨h1, h2, _, x, h4, h5⟩ := o.en 0 _ rfl
  obtain ⟨v', e, h6⟩ := o.en 1 _ rfl
  have h1 : some (some u) = some (some (V.ref a)) := h1
  have e : some (some v) = some (some v') := e
  cases h1
  cases e
  obtain rfl : v = .int m := h6
  obtain ⟨x, f, c, rfl⟩ := h5
  refine ⟨a, m, rfl, ⟨x, f, c, h4⟩, q.1.1, q.1.2, fun H' r h0 h1 R => ?_⟩
  refine q.2 r ⟨h0, h1⟩ _ F H' (run_go o.le h2 R) (fun i l b p h => ?_) rfl
  match i, h with
  | 0, h =>
    cases h
    obtain ⟨x, f, c, h⟩ := R.2
    exact ⟨h2, _, h, x, f, c, rfl⟩
  | 1, h => cases h
  | i + 2, h => cases h
theorem pool_sp {vs : List V} {H : Hp} {Q : VK} {E : XK} (h : spR K mg (fun (_ : Unit) (z : List Int × Int × Unit) => [.fz (rScr K z.1), .fz (rI z.2.1)]) (fun z => Mo.rq (0 ≤ z.2.1 ∧ z.2.1 ≤ 1000) ()) (.ow fun _ => oPool) vs H Q E) : spPool K vs H Q E := by
  obtain ⟨_, ⟨ns, k, _⟩, F, o, q⟩ := h
  obtain ⟨u, ⟨v, rfl, h2⟩, a, rfl, h1⟩ := args2 o
  obtain rfl : v = .int k := h2
  obtain ⟨⟨k0, k1⟩, q⟩ := q
  obtain ⟨j, rfl⟩ := Int.eq_ofNat_of_zero_le k0
  have k1 : (j : Int) ≤ 1000 := k1
  refine ⟨a, ns, j, rfl, o.le.seq h1, by omega, fun H' p hp s pl => ?_⟩
  obtain ⟨x, f, c, hpl⟩ := pl
  exact q _ F H' ⟨Same.refl _, o.le.trans s, fun b o _ e => s b o e, fun b o _ e => e, fun b o e => ⟨o, s b o e⟩⟩ (fun i l b p h => by
    match i, h with
    | 0, h => cases h
    | 1, h => cases h
    | i + 2, h => cases h) ⟨p, _, rfl, hp, o.le.free hp, hpl, x, f, c, rfl⟩
end
end RF
namespace RF
open PySem PySem.Spec PyProof.Rows L2 KO SX

/-! ### comparisons, as values and as tests -/
section
variable {α β γ δ : Type} {X : Cx} {W : WX} {Γ : Ctx} {e a b c d : Expr} {pos : Pos} {op op' op2 : CmpOp}
def RC (X : Cx) (W : WX) (Γ : Ctx) (op : CmpOp) (a b : Expr) (m : Mo Bool) : Prop := ∃ r, OpR X (compareOp op) r ∧ RTE X W Γ (tOp r (tE X a) (tE X b)) m (.fz rB)
theorem re_rc {m : Mo Bool} (h : RC X W Γ op a b m) (hm : behindInMarks op b = false := by rfl) : RE X W Γ (.Compare a [op] [b] pos) m (.fz rB) := by
  obtain ⟨r, ho, h⟩ := h
  exact re_of (pe_cmpR ho peE peE hm) h
theorem rt_rc {m : Mo Bool} (h : RC X W Γ op a b m) (hm : behindInMarks op b = false := by rfl) : RT X W Γ (.Compare a [op] [b] pos) m := by
  obtain ⟨r, ho, h⟩ := h
  exact rt_of (pt_cmpR ho peE peE hm) fun G σ F H Q o q => h G σ F H _ o (Mo.mono _ (fun x hx v F' H' o' g' z => ⟨x, z, hx F' H' o' g'⟩) (fun _ z => z) q)
section
variable {ma : Mo α} {mb : Mo β} {ρa : α → Pr} {ρb : β → Pr} {r : R2} {f : α → β → Bool}
theorem rc_of (ho : OpR X (compareOp op) r) (hr : ∀ x y, ROp X W Γ r (ρa x) (ρb y) (pure (f x y)) (.fz rB)) (ha : RE X W Γ a ma (.fz ρa)) (hb : RE X W Γ b mb (.fz ρb)) : RC X W Γ op a b (ma >>= fun x => mb >>= fun y => pure (f x y)) := ⟨r, ho, rte_two ha hb hr⟩
end
/-- the comparisons of ints -/
structure ICmp (X : Cx) (op : CmpOp) (f : Int → Int → Bool) : Prop where
  h : ∃ r, OpR X (compareOp op) r ∧ ∀ (W : WX) (Γ : Ctx) (x y : Int), ROp X W Γ r (rI x) (rI y) (pure (f x y)) (.fz rB)
theorem i_lt : ICmp X .Lt (fun i j => decide (i < j)) := ⟨_, op_lt, fun _ _ => rop_i0 fun _ _ _ => rfl⟩
theorem i_le : ICmp X .LtE (fun i j => decide (i ≤ j)) := ⟨_, op_le, fun _ _ => rop_i0 fun _ _ _ => rfl⟩
theorem i_gt : ICmp X .Gt (fun i j => decide (j < i)) := ⟨_, op_gt, fun _ _ => rop_i0 fun _ _ _ => rfl⟩
theorem i_ge : ICmp X .GtE (fun i j => decide (j ≤ i)) := ⟨_, op_ge, fun _ _ => rop_i0 fun _ _ _ => rfl⟩
theorem i_eq : ICmp X .Eq (fun i j => decide (i = j)) := ⟨rEq, op_eq, fun W Γ i j G σ F H Q u w o hu hw q => by
    obtain rfl : u = .int i := hu
    obtain rfl : w = .int j := hw
    refine ⟨rfl, NQ.here (ρ := rB) q o ?_⟩
    show V.bl (decide (V.int i = V.int j)) = V.bl (decide (i = j))
    congr 1
    exact decide_eq_decide.mpr ⟨fun h => V.int.inj h, fun h => by rw [h]⟩⟩
theorem i_ne : ICmp X .NotEq (fun i j => decide (i ≠ j)) := ⟨rNe, op_ne, fun W Γ i j G σ F H Q u w o hu hw q => by
    obtain rfl : u = .int i := hu
    obtain rfl : w = .int j := hw
    refine ⟨rfl, NQ.here (ρ := rB) q o ?_⟩
    show V.bl (!decide (V.int i = V.int j)) = V.bl (decide (i ≠ j))
    congr 1
    by_cases h : i = j
    · subst h; simp
    · have : V.int i ≠ V.int j := fun z => h (V.int.inj z)
      simp [h, this]⟩
section
variable {ma mb mc md : Mo Int} {f f' f2 : Int → Int → Bool}
theorem rc_i (hi : ICmp X op f) (ha : RE X W Γ a ma (.fz rI)) (hb : RE X W Γ b mb (.fz rI)) : RC X W Γ op a b (ma >>= fun i => mb >>= fun j => pure (f i j)) := by
  obtain ⟨r, ho, hr⟩ := hi.h
  exact rc_of ho (hr W Γ) ha hb
theorem rte_chain {r r' : R2} (hr : ∀ x y, ROp X W Γ r (rI x) (rI y) (pure (f x y)) (.fz rB)) (hr' : ∀ x y, ROp X W Γ r' (rI x) (rI y) (pure (f' x y)) (.fz rB)) (ha : RE X W Γ a ma (.fz rI)) (hb : RE X W Γ b mb (.fz rI)) (hc : RE X W Γ c mc (.fz rI)) :
    RTE X W Γ (tChain r r' (tE X a) (tE X b) (tE X c)) (ma >>= fun i => mb >>= fun j => if f i j = true then mc >>= fun k => pure (f' j k) else pure false) (.fz rB) := fun G σ F H Q o q => by
  refine ha G σ F H _ o (ma.mono (fun i hx v F1 H1 o1 g1 z1 => ?_) (fun _ z => z) q)
  refine hb G σ F1 H1 _ o1 (mb.mono (fun j hy u F2 H2 o2 g2 z2 => ?_) (fun _ => EQ.step g1) hx)
  have g12 := g1.trans g2 owns_tr
  refine hr i j G σ F2 H2 _ v u o2 ((rI i).mono g2.fs z1) z2 (fun w F3 H3 o3 g3 z3 => ?_)
  have z3 : w = .bl (f i j) := z3
  refine ⟨_, z3, ?_⟩
  have g13 := g12.trans g3 owns_tr
  dsimp only at hy
  cases hf : f i j with
  | false =>
    rw [hf] at hy z3
    subst z3
    exact iteF (hy _ F3 H3 o3 g13 rfl)
  | true =>
    rw [if_pos hf] at hy
    refine iteT (hc G σ F3 H3 _ o3 (mc.mono (fun k hk w' F4 H4 o4 g4 z4 => ?_) (fun _ => EQ.step g13) hy))
    exact hr' j k G σ F4 H4 Q u w' o4 ((rI j).mono (g3.fs.trans g4.fs) z2) z4 (NQ.step (g13.trans g4 owns_tr) hk)
theorem re_chain (hi : ICmp X op f) (hi' : ICmp X op' f') (ha : RE X W Γ a ma (.fz rI)) (hb : RE X W Γ b mb (.fz rI)) (hc : RE X W Γ c mc (.fz rI)) (hm : lastMarks [op, op'] [b, c] = false := by with_unfolding_all rfl) :
    RE X W Γ (.Compare a [op, op'] [b, c] pos) (ma >>= fun i => mb >>= fun j => if f i j = true then mc >>= fun k => pure (f' j k) else pure false) (.fz rB) := by
  obtain ⟨r, ho, hr⟩ := hi.h
  obtain ⟨r', ho', hr'⟩ := hi'.h
  exact re_of (pe_chain ho ho' peE peE peE hm) (rte_chain (hr W Γ) (hr' W Γ) ha hb hc)
theorem rt_chain (hi : ICmp X op f) (hi' : ICmp X op' f') (ha : RE X W Γ a ma (.fz rI)) (hb : RE X W Γ b mb (.fz rI)) (hc : RE X W Γ c mc (.fz rI)) (hm : lastMarks [op, op'] [b, c] = false := by with_unfolding_all rfl) :
    RT X W Γ (.Compare a [op, op'] [b, c] pos) (ma >>= fun i => mb >>= fun j => if f i j = true then mc >>= fun k => pure (f' j k) else pure false) := by
  obtain ⟨r, ho, hr⟩ := hi.h
  obtain ⟨r', ho', hr'⟩ := hi'.h
  exact rt_of (pt_chain ho ho' peE peE peE hm) fun G σ F H Q o q => rte_chain (hr W Γ) (hr' W Γ) ha hb hc G σ F H _ o (Mo.mono _ (fun x hx v F' H' o' g' z => ⟨x, z, hx F' H' o' g'⟩) (fun _ z => z) q)
theorem re_chain3 (hi : ICmp X op f) (hi' : ICmp X op' f') (hi2 : ICmp X op2 f2) (ha : RE X W Γ a ma (.fz rI)) (hb : RE X W Γ b mb (.fz rI)) (hc : RE X W Γ c mc (.fz rI)) (hd : RE X W Γ d md (.fz rI)) (hm : lastMarks [op, op', op2] [b, c, d] = false := by with_unfolding_all rfl) :
    RE X W Γ (.Compare a [op, op', op2] [b, c, d] pos) (ma >>= fun i => mb >>= fun j => if f i j = true then mc >>= fun k => if f' j k = true then md >>= fun l => pure (f2 k l) else pure false else pure false) (.fz rB) := by
  obtain ⟨r, ho, hr⟩ := hi.h
  obtain ⟨r', ho', hr'⟩ := hi'.h
  obtain ⟨r2, ho2, hr2⟩ := hi2.h
  refine re_of (pe_chain3 ho ho' ho2 peE peE peE peE hm) fun G σ F H Q o q => ?_
  refine ha G σ F H _ o (ma.mono (fun i hx v F1 H1 o1 g1 z1 => ?_) (fun _ z => z) q)
  refine hb G σ F1 H1 _ o1 (mb.mono (fun j hy u F2 H2 o2 g2 z2 => ?_) (fun _ => EQ.step g1) hx)
  have g12 := g1.trans g2 owns_tr
  refine hr W Γ i j G σ F2 H2 _ v u o2 ((rI i).mono g2.fs z1) z2 (fun w F3 H3 o3 g3 z3 => ?_)
  have z3 : w = .bl (f i j) := z3
  refine ⟨_, z3, ?_⟩
  have g13 := g12.trans g3 owns_tr
  dsimp only at hy
  cases hf : f i j with
  | false =>
    rw [hf] at hy z3
    subst z3
    exact iteF (hy _ F3 H3 o3 g13 rfl)
  | true =>
    rw [if_pos hf] at hy
    refine iteT (hc G σ F3 H3 _ o3 (mc.mono (fun k hk w' F4 H4 o4 g4 z4 => ?_) (fun _ => EQ.step g13) hy))
    have g14 := g13.trans g4 owns_tr
    refine hr' W Γ j k G σ F4 H4 _ u w' o4 ((rI j).mono (g3.fs.trans g4.fs) z2) z4 (fun w5 F5 H5 o5 g5 z5 => ?_)
    have z5 : w5 = .bl (f' j k) := z5
    refine ⟨_, z5, ?_⟩
    have g15 := g14.trans g5 owns_tr
    dsimp only at hk
    cases hf' : f' j k with
    | false =>
      rw [hf'] at hk z5
      subst z5
      exact iteF (hk _ F5 H5 o5 g15 rfl)
    | true =>
      rw [if_pos hf'] at hk
      refine iteT (hd G σ F5 H5 _ o5 (md.mono (fun l hl w6 F6 H6 o6 g6 z6 => ?_) (fun _ => EQ.step g15) hk))
      exact hr2 W Γ k l G σ F6 H6 Q w' w6 o6 ((rI k).mono (g5.fs.trans g6.fs) z4) z6 (NQ.step (g15.trans g6 owns_tr) hl)
end
/-! None -/
section
variable {ma : Mo (Option α)} {ρ : α → Pr} {j : Nat} {p2 : Pos}
/-- values that are never None -/
class NN (ρ : α → Pr) : Prop where
  nn : ∀ x v F, (ρ x).r v F → v ≠ .non
instance : NN rI := ⟨fun x v F h z => by subst z; cases h⟩
instance : NN rB := ⟨fun x v F h z => by subst z; cases h⟩
instance : NN rS := ⟨fun x v F h z => by subst z; cases h⟩
instance {ρ : α → Pr} : NN (rL ρ) := ⟨fun x v F ⟨a, vs, e, _⟩ z => by subst z; cases e⟩
instance {ρ : α → Pr} : NN (rTs ρ) := ⟨fun x v F ⟨a, vs, e, _⟩ z => by subst z; cases e⟩
theorem nn_tu {ps : List Pr} {v : V} {F : Hp} (h : (rTu ps).r v F) : v ≠ .non := fun z => by
  obtain ⟨a, vs, e, _⟩ := h
  subst z; cases e
instance {ρ : α → Pr} {σ : β → Pr} : NN (rT2 ρ σ) := ⟨fun x v F h => nn_tu h⟩
instance {ρ : α → Pr} {σ : β → Pr} {τ : γ → Pr} : NN (rT3 ρ σ τ) := ⟨fun x v F h => nn_tu h⟩
theorem rc_isN [n : NN ρ] (ha : RE X W Γ a ma (.fz (rO ρ))) : RC X W Γ .Is a (.Constant .none j p2) (ma >>= fun x => pure x.isNone) := ⟨_, op_isN, fun G σ F H Q o q => by
  refine ha G σ F H _ o (ma.mono (fun x hx v F' H' o' g' z pins s I => pe_non.run pins s σ H' _ I ⟨rfl, ?_⟩) (fun _ z => z) q)
  refine hx _ F' H' o' g' ?_
  cases x with
  | none => obtain rfl : v = .non := z; rfl
  | some x => show V.bl (decide (v = .non)) = V.bl false; rw [decide_eq_false (n.nn x v F' z)]⟩
theorem rc_notN [n : NN ρ] (ha : RE X W Γ a ma (.fz (rO ρ))) : RC X W Γ .IsNot a (.Constant .none j p2) (ma >>= fun x => pure x.isSome) := ⟨_, op_notN, fun G σ F H Q o q => by
  refine ha G σ F H _ o (ma.mono (fun x hx v F' H' o' g' z pins s I => pe_non.run pins s σ H' _ I ⟨rfl, ?_⟩) (fun _ z => z) q)
  refine hx _ F' H' o' g' ?_
  cases x with
  | none => obtain rfl : v = .non := z; rfl
  | some x => show V.bl (!decide (v = .non)) = V.bl true; rw [decide_eq_false (n.nn x v F' z)]; rfl⟩
def isNoneD : PyData → Bool
  | .none => true
  | _ => false
theorem rc_isND {m : Mo PyData} (ha : RE X W Γ a m (.fz rD)) : RC X W Γ .Is a (.Constant .none j p2) (m >>= fun x => pure (isNoneD x)) := ⟨_, op_isN, fun G σ F H Q o q => by
  refine ha G σ F H _ o (m.mono (fun x hx v F' H' o' g' z pins s I => pe_non.run pins s σ H' _ I ⟨rfl, ?_⟩) (fun _ z => z) q)
  refine hx _ F' H' o' g' ?_
  have z : Dt 8 F' v x := z
  cases x with
  | none => obtain rfl : v = .non := z; rfl
  | bool b => obtain rfl : v = _ := z; rfl
  | int b => obtain rfl : v = _ := z; rfl
  | str b => obtain rfl : v = _ := z; rfl
  | list ds => obtain ⟨a, xs, rfl, _⟩ := z; rfl
  | tuple ds => obtain ⟨a, xs, rfl, _⟩ := z; rfl
  | dict kv => exact z.elim⟩
end
/-! plain values -/
section
variable {ma : Mo α} {mb : Mo β} {ρa : α → Pr} {ρb : β → Pr} [sa : Sc ρa] [sb : Sc ρb]
theorem rc_eqS (hs : ∀ x y, scal (sa.v x) (sb.v y) = true) (ha : RE X W Γ a ma (.fz ρa)) (hb : RE X W Γ b mb (.fz ρb)) : RC X W Γ .Eq a b (ma >>= fun i => mb >>= fun j => pure (decide (sa.v i = sb.v j))) := rc_of op_eq (rop_eq hs) ha hb
theorem rc_neS (hs : ∀ x y, scal (sa.v x) (sb.v y) = true) (ha : RE X W Γ a ma (.fz ρa)) (hb : RE X W Γ b mb (.fz ρb)) : RC X W Γ .NotEq a b (ma >>= fun i => mb >>= fun j => pure (!decide (sa.v i = sb.v j))) := rc_of op_ne (rop_ne hs) ha hb
end
/-! in -/
section
variable {ma : Mo γ} {mb : Mo (List γ)} {ρ : γ → Pr} [s : Sc ρ] {k : Bool}
theorem rc_in {neg : Bool} (ho : OpR X (compareOp op) (L2.rIn X.K neg)) (hf : ∀ x, flatV (s.v x) = true) (he : ∀ x y, eqV (s.v x) (s.v y) = decide (s.v x = s.v y)) (ha : RE X W Γ a ma (.fz ρ)) (hb : RSq X W Γ k b mb ρ) :
    RC X W Γ op a b (ma >>= fun x => mb >>= fun xs => pure (if neg then !(xs.any fun y => decide (s.v y = s.v x)) else xs.any fun y => decide (s.v y = s.v x))) := ⟨_, ho, fun G σ F H Q o q => by
  refine ha G σ F H _ o (ma.mono (fun x hx v F' H' o' g' z => ?_) (fun _ z => z) q)
  refine hb G σ F' H' _ o' (mb.mono (fun xs hy ad vs F2 H2 o2 g2 z1 z2 => ?_) (fun _ => EQ.step g') hx)
  have e := z2.sc
  have e2 := s.is (x := x) (u := v) (F := F') z
  subst e e2
  refine ⟨ad, _, rfl, z1.or o2.le, hf x, by simp [hf], ?_⟩
  have w := hy _ F2 H2 o2 (g'.trans g2 owns_tr) rfl
  have e3 : inV (s.v x) (xs.map s.v) = xs.any fun y => decide (s.v y = s.v x) := by
    unfold inV
    rw [List.any_map]
    congr 1
    funext y
    exact he y x
  rw [e3]
  exact w⟩
end
section
variable {mi : Mo Int} {ms : Mo Str} {mis : Mo (List Int)} {mss : Mo (List Str)} {k : Bool}
theorem rc_inI (ha : RE X W Γ a mi (.fz rI)) (hb : RSq X W Γ k b mis rI) : RC X W Γ .In a b (mi >>= fun i => mis >>= fun xs => pure (decide (i ∈ xs))) := by
  have h : RC X W Γ .In a b (mi >>= fun x => mis >>= fun xs => pure ((xs.any fun y => decide (V.int y = V.int x)))) := rc_in (s := scI) op_in_seq (fun _ => rfl) eqV_int ha hb
  simp only [anyI] at h
  exact h
theorem rc_ninI (ha : RE X W Γ a mi (.fz rI)) (hb : RSq X W Γ k b mis rI) : RC X W Γ .NotIn a b (mi >>= fun i => mis >>= fun xs => pure (!decide (i ∈ xs))) := by
  have h : RC X W Γ .NotIn a b (mi >>= fun x => mis >>= fun xs => pure (!(xs.any fun y => decide (V.int y = V.int x)))) := rc_in (s := scI) op_notIn_seq (fun _ => rfl) eqV_int ha hb
  simp only [anyI] at h
  exact h
theorem rc_inS (ha : RE X W Γ a ms (.fz rS)) (hb : RSq X W Γ k b mss rS) : RC X W Γ .In a b (ms >>= fun i => mss >>= fun xs => pure (decide (i ∈ xs))) := by
  have h : RC X W Γ .In a b (ms >>= fun x => mss >>= fun xs => pure ((xs.any fun y => decide (V.str y = V.str x)))) := rc_in (s := scS) op_in_seq (fun _ => rfl) eqV_str ha hb
  simp only [anyS] at h
  exact h
theorem rc_ninS (ha : RE X W Γ a ms (.fz rS)) (hb : RSq X W Γ k b mss rS) : RC X W Γ .NotIn a b (ms >>= fun i => mss >>= fun xs => pure (!decide (i ∈ xs))) := by
  have h : RC X W Γ .NotIn a b (ms >>= fun x => mss >>= fun xs => pure (!(xs.any fun y => decide (V.str y = V.str x)))) := rc_in (s := scS) op_notIn_seq (fun _ => rfl) eqV_str ha hb
  simp only [anyS] at h
  exact h
end
/-! data, compared as a whole -/
section
variable {ma : Mo PyData} {mb : Mo PyData}
theorem rop_eqD (x y : PyData) : ROp X W Γ (rEqD X.K) (rD x) (rD y) (Mo.rq (SeqAt.shaped x = true ∧ SeqAt.shaped y = true) (PyData.eqv x y)) (.fz rB) := fun G σ F H Q u w o hu hw q =>
  ⟨x, y, (Dt.mono o.le hu).dp, (Dt.mono o.le hw).dp, q.1.1, q.1.2, NQ.here (ρ := rB) q.2 o rfl⟩
theorem rc_eqD (hu : X.A.units + 64 < cLine) (ha : RE X W Γ a ma (.fz rD)) (hb : RE X W Γ b mb (.fz rD)) : RC X W Γ .Eq a b (ma >>= fun x => mb >>= fun y => Mo.rq (SeqAt.shaped x = true ∧ SeqAt.shaped y = true) (PyData.eqv x y)) := ⟨_, op_eqD hu, rte_two ha hb rop_eqD⟩
theorem rop_neD (x y : PyData) : ROp X W Γ (rNeD X.K) (rD x) (rD y) (Mo.rq (SeqAt.shaped x = true ∧ SeqAt.shaped y = true) (!PyData.eqv x y)) (.fz rB) := fun G σ F H Q u w o hu hw q =>
  ⟨x, y, (Dt.mono o.le hu).dp, (Dt.mono o.le hw).dp, q.1.1, q.1.2, NQ.here (ρ := rB) q.2 o rfl⟩
theorem rc_neD (hu : X.A.units + 64 < cLine) (ha : RE X W Γ a ma (.fz rD)) (hb : RE X W Γ b mb (.fz rD)) : RC X W Γ .NotEq a b (ma >>= fun x => mb >>= fun y => Mo.rq (SeqAt.shaped x = true ∧ SeqAt.shaped y = true) (!PyData.eqv x y)) := ⟨_, op_neD hu, rte_two ha hb rop_neD⟩
end
/-! a list or a tuple as a test -/
theorem tru_seq {K : PySem.W.Frag} {ρ : γ → Pr} {k : Bool} {F H : Hp} {a : Addr} {vs : List V} {xs : List γ} (h : SqAt k F H a vs) (hp : Ps F (xs.map ρ) vs) (s : Same F H) : TruV K (.ref a) H (!xs.isEmpty) := by
  have e : vs.isEmpty = xs.isEmpty := by
    have := hp.len
    rw [List.length_map] at this
    cases xs <;> cases vs <;> simp_all
  cases k with
  | true => exact .inl ⟨vs, SqL.of h, by rw [e]⟩
  | false => exact .inr (.inl ⟨vs, SqT.ofR (Rd.mono h s), by rw [e]⟩)
theorem rt_seq {m : Mo (List γ)} {ρ : γ → Pr} {k : Bool} (h : RSq X W Γ k e m ρ) (he : ∀ whole, isTrue e X.env whole = (do let v ← whole; standAt e.pos; holding [v] (truthy v)) := by intro _; rfl) : RT X W Γ e (m >>= fun xs => pure (!xs.isEmpty)) :=
  rt_of (pt_truth peE he) fun G σ F H Q o q => h G σ F H _ o (m.mono (fun xs hx a vs F' H' o' g' z1 z2 => ⟨!xs.isEmpty, tru_seq z1 z2 o'.le, hx F' H' o' g'⟩) (fun _ z => z) q)
end
end RF
namespace RF
open PySem PySem.Spec PyProof.Rows L2 KO SX
section
variable {α β γ δ : Type} {X : Cx} {W : WX} {Γe Γx Γ Γ' : Ctx} {lv : Bool} {e ee o a b c : Expr} {es : List Expr} {st : Stmt} {rest body suite : List Stmt} {Z : γ → Fin} {pos : Pos} {t : TE}
/-- a target of any form -/
theorem rb_asg {me : Mo α} {ρ : α → Pr} {mr : α → Mo γ} {g : TG} {vs : List Nat} {tg : α → Ctx → Ctx} (hs : PS X st (tAsg t g)) (he : RTE X W Γ t me (.fz ρ)) (hg : ∀ x, RG X.K g (ρ x) (tg x) vs) (hl : ∀ x, Le Γe (tg x Γ)) (hr : ∀ x, RB X W Γe lv (tg x Γ) rest (mr x) Z) : RB X W Γe lv Γ (st :: rest) (me >>= mr) Z := fun le G σ F H D nx' hn o q =>
  tSs_cons hs (he G σ F H _ o (me.mono (fun x hx v F' H' o' g' z => hg x G Γ σ F' H' _ v o' z fun σ' o2 _ => hr x (hl x) G σ' F' H' D nx' hn o2 (run_fin g'.fs hx)) (fun _ => XQ.eq le) q))
/-- a if c else b -/
theorem re_if {mc : Mo Bool} {ma mb : Mo γ} {ρ : γ → Pr} (hc : RT X W Γ c mc) (ha : RE X W Γ a ma (.fz ρ)) (hb : RE X W Γ b mb (.fz ρ)) : RE X W Γ (.IfExp c a b pos) (mc >>= fun k => if k = true then ma else mb) (.fz ρ) := by
  refine re_of (pe_ifExp ptT peE peE) fun G σ F H Q o q => ?_
  refine hc G σ F H _ o (mc.mono (fun k hx F' H' o' g' => ?_) (fun _ z => z) q)
  cases k with
  | true => exact iteT (ha G σ F' H' Q o' (run_step g' (by simpa using hx)))
  | false => exact iteF (hb G σ F' H' Q o' (run_step g' (by simpa using hx)))
theorem rc_notND {m : Mo PyData} {j : Nat} {p2 : Pos} (ha : RE X W Γ a m (.fz rD)) : RC X W Γ .IsNot a (.Constant .none j p2) (m >>= fun x => pure (!isNoneD x)) := ⟨_, op_notN, fun G σ F H Q o q => by
  refine ha G σ F H _ o (m.mono (fun x hx v F' H' o' g' z pins s I => pe_non.run pins s σ H' _ I ⟨rfl, ?_⟩) (fun _ z => z) q)
  refine hx _ F' H' o' g' ?_
  have z : Dt 8 F' v x := z
  cases x with
  | none => obtain rfl : v = .non := z; rfl
  | bool b => obtain rfl : v = _ := z; rfl
  | int b => obtain rfl : v = _ := z; rfl
  | str b => obtain rfl : v = _ := z; rfl
  | list ds => obtain ⟨a, xs, rfl, _⟩ := z; rfl
  | tuple ds => obtain ⟨a, xs, rfl, _⟩ := z; rfl
  | dict kv => exact z.elim⟩
/-! ### the error in an except suite -/
section
variable {ad C : Addr} {oe : Obj} {d : Option Addr} {pn : List (Addr × Obj)} {ex : Ex} {n f : Str} {i : Nat} {p : Pos}
theorem re_exf (T : XfC X.K C) (hno : PySem.W.findIn X.K (.ref C) f = some none) (hz : Zc (.ref C) d oe) (hf : ∃ vs, oe.data = .fields vs) (hi : Γ[i]? = some (.fz (exP ad d ex))) (hp : PE (X.suite ad ((ad, oe) :: pn)) (.Name n p) (tVar i)) (hb : attributeBase (.Name n p) f X.env (eval (.Name n p) X.env) = eval (.Name n p) X.env := by rfl) :
    RE (X.suite ad ((ad, oe) :: pn)) W Γ (.Attribute (.Name n p) f pos) (Mo.get (ex.fs.lookup f)) (.fz rD) :=
  re_of (pe_xf T hno hz hf hp hb) fun G σ F H Q o q => by
    obtain ⟨v, h1, rfl, h2⟩ := o.en i _ hi
    obtain ⟨y, hy, q⟩ := q
    refine ⟨.ref ad, h1, rfl, rfl, ?_⟩
    rcases h2 with ⟨_, h2⟩ | ⟨dd, fs, h2, h3, h4⟩
    · rw [h2] at hy; cases hy
    · obtain ⟨u, h5, h6⟩ := h4 f y hy
      exact ⟨dd, fs, u, h2, o.le _ _ h3, h5, NQ.here (ρ := rD) q o h6⟩
theorem call_isA {D : Addr} (Ce : ExcC X.K D) (hz : Zc (.ref D) d oe) (hf : ∃ vs, oe.data = .fields vs) : CallR (X.suite ad ((ad, oe) :: pn)) (.builtin "isinstance") (fun xs H Q => rIsX X.K D ad (.ref D) d xs H Q ∨ rIsD X.K D ad (.ref D) d xs H Q) := by
  intro pins s σ H xs us Q I r h
  rcases h with h | h
  · exact call_isX Ce hz hf pins s σ H xs us Q I r h
  · exact call_isD Ce hz hf pins s σ H xs us Q I r h
theorem re_exis {r : Bool} {cv : Value} {v : V} {p2 p3 : Pos} {n2 : Str} (Ce : ExcC X.K C) (hz : Zc (.ref C) d oe) (hf : ∃ vs, oe.data = .fields vs) (hi : Γ[i]? = some (.fz (exP ad d ex))) (hp : PE (X.suite ad ((ad, oe) :: pn)) (.Name n p) (tVar i)) (hc : PE (X.suite ad ((ad, oe) :: pn)) (.Name n2 p2) (tC v)) (hcv : ∀ u, RelV v u → u = cv) (hk : PySem.W.kitOne X.K (.ref C) cv = some r)
    (hm : X.mg "isinstance" = none) (hg : Gl X "isinstance" := by rfl) :
    RE (X.suite ad ((ad, oe) :: pn)) W Γ (.Call (.Name "isinstance" p3) [.Name n p, .Name n2 p2] [] pos) (pure r) (.fz rB) :=
  re_of (pe_callB (X := X.suite ad ((ad, oe) :: pn)) (call_isA Ce hz hf) hg hm (by decide +kernel) (pa_cons hp (pa_cons hc pa_nil))) fun G σ F H Q o q => by
    obtain ⟨u, h1, rfl, h2⟩ := o.en i _ hi
    refine ⟨.ref ad, h1, ?_⟩
    have fin : rIsE X.K C ad [.ref ad, v] H Q := ⟨v, cv, r, rfl, hcv, hk, NQ.here (ρ := rB) q o rfl⟩
    rcases h2 with ⟨h2, _⟩ | ⟨dd, fs, h2, h3, _⟩
    · exact .inl ⟨rfl, h2, fin⟩
    · exact .inr ⟨rfl, dd, fs, h2, o.le _ _ h3, fin⟩
end
/-! ### an error without fields; try without a name -/
theorem rx_0 {C : Addr} {c : Str} (hm : X.mg c = some (.ref C)) : RX X W Γ (fun _ H Q => Q (.ref C) none H) (pure ⟨c, []⟩) := fun G σ F H Q o q => q _ _ F H o (Go.refl o.le) ⟨C, hm, rfl, .inl ⟨rfl, rfl⟩⟩
def tTo (X : Cx) (suite : List Stmt) (a : Addr) (cls : Value) (d : Option Addr) : TS := tTs X suite a cls d
/-- try: a body that runs on; except C: a suite that leaves -/
theorem rb_tryO {cn : Str} {Cc : Addr} {fls : List Str} {mb : Mo δ} {mh : Mo γ} {mr : δ → Mo γ} (Γj : δ → Ctx) (hs : PS X st (fun D σ H => tTb X body (wOnly X.K (.ref Cc) (tTs X suite) W D) D σ H)) (hcn : X.mg cn = some (.ref Cc)) (hsub : PySem.W.exmOne X.K (.ref Cc) (.ref Cc) = some true)
    (hfls : ∀ n ∈ fls, ∀ C', X.mg n = some (.ref C') → PySem.W.exmOne X.K (.ref C') (.ref Cc) = some false)
    (hb : ∀ pn xe W', Takes (X.tr pn xe) W' → PassesOwn (model X.prog X.w) X.A X.env xe → RB (X.tr pn xe) W' Γx false Γ body mb (fun j => .nx (Γj j)))
    (hh : ∀ a oe d pn, Zc (.ref Cc) d oe → (∃ vs, oe.data = .fields vs) → RB (X.suite a ((a, oe) :: pn)) W0 Γe true Γx suite mh Z)
    (hx : Le Γx Γ) (hex : Le Γe Γx) (hj : ∀ j, Le Γe (Γj j)) (hr : ∀ j, RB X W Γe lv (Γj j) rest (mr j) Z) :
    RB X W Γe lv Γ (st :: rest) ((⟨fun Q E => mb.run (fun j => (mr j).run Q E) fun ex => if ex.cls = cn then mh.run Q (fun _ => False) else (ex.cls ∈ fls ∧ E ex), fun {Q Q' E E'} hq he r => mb.mono (fun j => (mr j).mono hq he) (fun ex hx => by
      by_cases c : ex.cls = cn
      · rw [if_pos c] at hx ⊢
        exact mh.mono hq (fun _ z => z) hx
      · rw [if_neg c] at hx ⊢
        exact ⟨hx.1, he _ hx.2⟩) r⟩ : Mo γ)) Z := fun le G σ F H D nx' hn o q =>
  tSs_cons hs fun pn xe tk po => by
    have key : ∀ j, (mr j).run (fun x => FinOk G Γe D F (Z x)) (XQ X W G Γe F) → ∀ σ2 F2 H2, Same G.F0 F2 → Ok G (Γj j) σ2 F2 H2 → tSs X rest { D with nx := nx' } σ2 H2 := fun j hj' σ2 F2 H2 s2 o2 => hr j (hj j) G σ2 F2 H2 D nx' hn o2 (run_any hj')
    refine hb pn xe _ tk po hx G σ F H { D with nx := tSs X rest { D with nx := nx' } } _ (fun _ => rfl) o (mb.mono (fun j hj' => key j hj') (fun ex hx' cls d σ2 F2 H2 s2 o2 z => ?_) q)
    obtain ⟨C, hC, rfl, hd⟩ := id z
    by_cases c : ex.cls = cn
    · rw [if_pos c] at hx'
      rw [c, hcn] at hC
      cases hC
      refine ⟨true, hsub, fun _ a ha => ?_, fun h => by cases h⟩
      intro oe pn' hz hf
      exact hh a oe d pn' hz hf hex G _ F2 H2 D _ (fun z => by cases z) o2 (mh.mono (fun _ h => h.step) (fun _ z => z.elim) hx')
    · rw [if_neg c] at hx'
      refine ⟨false, hfls _ hx'.1 C hC, fun h => (by cases h), fun _ => ?_⟩
      exact hx'.2 _ d σ2 F2 H2 s2 (o2.weak hex) z
end
/-! ### nets -/
abbrev Sp4' := Int × Int × Int × Int
abbrev ONet := Int × Int × List Sp4'
def fsNet (x : ONet) : List (Str × Pr) := [("round_length", rI x.1), ("events", rI x.2.1), ("spans", rTs (rT4 rI rI rI rI) x.2.2)]
def rNet (C : Addr) (x : ONet) : Pr := RF.rIn C (fsNet x)
end RF
namespace RF
open PySem PySem.Spec PyProof.Rows L2 KO SX
section
variable {α β γ δ : Type}
/-! ### dicts whose keys are ints -/
def Ks (F : Hp) (ρ : α → Pr) : List (Int × α) → List (Key × V) → Prop
  | [], [] => True
  | (k, x) :: r, (k', v) :: r' => k' = .inl k ∧ (ρ x).r v F ∧ Ks F ρ r r'
  | _, _ => False
def dget (kvs : List (Int × α)) (k : Int) : Option α := (kvs.find? fun p => decide (p.1 = k)).map (·.2)
def dput (kvs : List (Int × α)) (k : Int) (x : α) : List (Int × α) := if (kvs.any fun p => decide (p.1 = k)) = true then kvs.map (fun p => if p.1 = k then (p.1, x) else p) else kvs ++ [(k, x)]
section
variable {F F' : Hp} {ρ : α → Pr}
theorem Ks.mono (s : Same F F') : ∀ {kvs : List (Int × α)} {gs : List (Key × V)}, Ks F ρ kvs gs → Ks F' ρ kvs gs
  | [], [], _ => trivial
  | (_, x) :: _, (_, _) :: _, h => ⟨h.1, (ρ x).mono s h.2.1, Ks.mono s h.2.2⟩
  | [], _ :: _, h => h.elim
  | _ :: _, [], h => h.elim
theorem Ks.len : ∀ {kvs : List (Int × α)} {gs : List (Key × V)}, Ks F ρ kvs gs → gs.length = kvs.length
  | [], [], _ => rfl
  | (_, _) :: _, (_, _) :: _, h => by simp [Ks.len h.2.2]
  | [], _ :: _, h => h.elim
  | _ :: _, [], h => h.elim
theorem keydec (a b : Int) : (decide ((Sum.inl a : Key) = Sum.inl b)) = decide (a = b) := by
  by_cases h : a = b
  · subst h; simp
  · have : ¬ (Sum.inl a : Key) = Sum.inl b := fun q => h (Sum.inl.inj q)
    simp [h, this]
theorem Ks.get {k : Int} : ∀ {kvs : List (Int × α)} {gs : List (Key × V)}, Ks F ρ kvs gs → (∃ x v, dget kvs k = some x ∧ valV gs (Sum.inl k) = some v ∧ (ρ x).r v F) ∨ (dget kvs k = none ∧ valV gs (Sum.inl k) = none)
  | [], [], _ => .inr ⟨rfl, rfl⟩
  | (k1, x) :: r, (k2, v) :: r', h => by
    obtain ⟨rfl, h1, h2⟩ := h
    unfold dget valV
    rw [List.find?_cons, List.find?_cons, keydec]
    by_cases e : k1 = k
    · simp only [e, decide_true]
      exact .inl ⟨x, v, rfl, rfl, h1⟩
    · simp only [e, decide_false]
      exact Ks.get h2
  | [], _ :: _, h => h.elim
  | _ :: _, [], h => h.elim
theorem Ks.any {k : Int} : ∀ {kvs : List (Int × α)} {gs : List (Key × V)}, Ks F ρ kvs gs → (gs.any fun kv => decide (kv.1 = (Sum.inl k : Key))) = kvs.any fun p => decide (p.1 = k)
  | [], [], _ => rfl
  | (k1, x) :: r, (k2, v) :: r', h => by
    obtain ⟨rfl, h1, h2⟩ := h
    rw [List.any_cons, List.any_cons, Ks.any h2, keydec]
  | [], _ :: _, h => h.elim
  | _ :: _, [], h => h.elim
theorem Ks.app : ∀ {kvs kvs2 : List (Int × α)} {gs gs2 : List (Key × V)}, Ks F ρ kvs gs → Ks F ρ kvs2 gs2 → Ks F ρ (kvs ++ kvs2) (gs ++ gs2)
  | [], _, [], _, _, h => h
  | (_, _) :: _, _, (_, _) :: _, _, h, k => ⟨h.1, h.2.1, Ks.app h.2.2 k⟩
  | [], _, _ :: _, _, h, _ => h.elim
  | _ :: _, _, [], _, h, _ => h.elim
theorem Ks.rep {k : Int} {x : α} {v : V} (hv : (ρ x).r v F) : ∀ {kvs : List (Int × α)} {gs : List (Key × V)}, Ks F ρ kvs gs → Ks F ρ (kvs.map fun p => if p.1 = k then (p.1, x) else p) (gs.map fun kv => if kv.1 = (Sum.inl k : Key) then (kv.1, v) else kv)
  | [], [], _ => trivial
  | (k1, y) :: r, (k2, u) :: r', h => by
    obtain ⟨rfl, h1, h2⟩ := h
    have ih := Ks.rep (k := k) hv h2
    by_cases e : k1 = k
    · simp only [List.map_cons, e, if_true]
      exact ⟨rfl, hv, ih⟩
    · have e2 : ¬ (Sum.inl k1 : Key) = Sum.inl k := fun q => e (Sum.inl.inj q)
      simp only [List.map_cons, e, e2, if_false]
      exact ⟨rfl, h1, ih⟩
  | [], _ :: _, h => h.elim
  | _ :: _, [], h => h.elim
theorem Ks.put {k : Int} {x : α} {v : V} {kvs : List (Int × α)} {gs : List (Key × V)} (h : Ks F ρ kvs gs) (hv : (ρ x).r v F) : Ks F ρ (dput kvs k x) (putK gs (Sum.inl k) v) := by
  unfold dput putK
  rw [h.any]
  split
  · exact h.rep hv
  · exact h.app ⟨rfl, hv, trivial⟩
end
def oDk (ρ : α → Pr) (kvs : List (Int × α)) : Po := ⟨fun o F => ∃ gs, o = .dK gs ∧ Ks F ρ kvs gs, fun s ⟨gs, e, h⟩ => ⟨gs, e, h.mono s⟩⟩
variable {X : Cx} {W : WX} {Γe Γx Γ Γ' : Ctx} {lv : Bool} {e ee o a b c : Expr} {es : List Expr} {st : Stmt} {rest body suite : List Stmt} {Z : γ → Fin} {pos p2 p3 : Pos} {t : TE} {ρ : α → Pr}
/-- {k: v} -/
theorem re_disp1 {mk : Mo Int} {mv : Mo α} (hk : RE X W Γ a mk (.fz rI)) (hv : RE X W Γ b mv (.fz ρ)) : RE X W Γ (.Dict [some a] [b] pos) (mk >>= fun k => mv >>= fun v => pure [(k, v)]) (.ow (oDk ρ)) := by
  refine re_of (pe_disp (pps_cons peE peE pps_nil) rfl rfl (by simp) (by simp)) fun G σ F H Q o q p hp => ?_
  obtain ⟨o1, g1⟩ := o.newO (u := .dK []) hp
  have hpo : p ∉ owns Γ := fun h => by
    obtain ⟨w, hw⟩ := o.ownH h
    rw [hp] at hw; cases hw
  have hpF : F p = none := o.le.free hp
  have hpG : G.H0 p = none := by
    cases e : G.H0 p with
    | none => rfl
    | some y => obtain ⟨y', e'⟩ := o.go.th _ _ e; rw [hp] at e'; cases e'
  refine hk G σ F _ _ o1 (mk.mono (fun k hx v1 F1 H1 o2 g2 z1 => ?_) (fun _ => EQ.step g1) q)
  have g12 := g1.trans g2 owns_tr
  refine hv G σ F1 H1 _ o2 (mv.mono (fun x hx v2 F2 H2 o3 g3 z2 => ?_) (fun _ => EQ.step g12) hx)
  have g13 := g12.trans g3 owns_tr
  have hH1 : H1 p = some (.dK []) := g2.hs _ _ hpo upd_same
  have hF1 : F1 p = none := g2.fr _ _ upd_same hpF
  have hH2 : H2 p = some (.dK []) := g3.hs _ _ hpo hH1
  have hF2 : F2 p = none := g3.fr _ _ hH1 hF1
  obtain rfl : v1 = .int k := z1
  refine ⟨hH2, [(Sum.inl k, v2)], rfl, by simp, ?_⟩
  have gp : Go [p] F2 H2 F2 (upd H2 p (.dK (mergeK [] [(Sum.inl k, v2)]))) := Go.put o3.le hF2 hH2
  refine hx _ _ _ (o3.move gp fun y hy => ?_) (g13.trans gp fun y hy => ?_) ⟨p, _, rfl, hp, hF2, upd_same, [(Sum.inl k, v2)], rfl, rfl, z2, trivial⟩
  · rw [List.mem_singleton.mp hy]
    exact .inr ⟨.inr hpG, hpo⟩
  · rw [List.mem_singleton.mp hy]
    exact .inr hp
section
variable {i : Nat} {l : Bool} {ad : Addr} {kvs : List (Int × α)} {x : Str} {mk : Mo Int}
/-- d[k] -/
theorem re_dget (hi : Γ[i]? = some (.ow l ad (oDk ρ kvs))) (hp : PE X (.Name x p2) (tVar i)) (hk : RE X W Γ b mk (.fz rI)) (hu : X.A.units + 1 < cLine) (hs : NoSl b := by exact fun _ _ => rfl) : RE X W Γ (.Subscript (.Name x p2) b pos) (mk >>= fun k => Mo.get (dget kvs k)) (.fz ρ) := by
  refine re_of (pe_dget hu hp peE hs) fun G σ F H Q o q => ?_
  refine ⟨.ref ad, (o.en i _ hi).1, ?_⟩
  refine hk G σ F H _ o (mk.mono (fun k hx v F' H' o' g' z => ?_) (fun _ z => z) q)
  obtain rfl : v = .int k := z
  obtain ⟨_, _, _, u, hu2, gs, rfl, hg⟩ := o'.en i _ hi
  obtain ⟨y, hy, hx⟩ := hx
  rcases hg.get (k := k) with ⟨y', v, h1, h2, h3⟩ | ⟨h1, _⟩
  · rw [hy] at h1
    cases h1
    refine ⟨ad, v, rfl, ?_, hx v F' H' o' g' h3⟩
    rw [← h2]
    exact DGet.k (k := Sum.inl k) hu2
  · rw [hy] at h1; cases h1
theorem dk_in (hi : Γ[i]? = some (.ow l ad (oDk ρ kvs))) {G : Gf} {σ : L2.St} {F H : Hp} (o : Ok G Γ σ F H) (k : Int) : ∃ r : Option V, DGet H ad (.int k) r ∧ r.isSome = (dget kvs k).isSome := by
  obtain ⟨_, _, _, u, hu2, gs, rfl, hg⟩ := o.en i _ hi
  refine ⟨_, DGet.k (k := Sum.inl k) hu2, ?_⟩
  rcases hg.get (k := k) with ⟨y', v, h1, h2, h3⟩ | ⟨h1, h2⟩
  · rw [h1, h2]; rfl
  · rw [h1, h2]; rfl
theorem rte_din (hi : Γ[i]? = some (.ow l ad (oDk ρ kvs))) (hk : RE X W Γ a mk (.fz rI)) : RTE X W Γ (tDIn (tE X a) (tVar i)) (mk >>= fun k => pure (dget kvs k).isSome) (.fz rB) := fun G σ F H Q o q => by
  refine hk G σ F H _ o (mk.mono (fun k hx v F' H' o' g' z => ?_) (fun _ z => z) q)
  obtain rfl : v = .int k := z
  obtain ⟨r, h1, h2⟩ := dk_in hi o' k
  exact ⟨.ref ad, (o'.en i _ hi).1, ad, r, rfl, h1, hx _ F' H' o' g' (by show V.bl _ = V.bl _; rw [h2])⟩
theorem rte_dnotin (hi : Γ[i]? = some (.ow l ad (oDk ρ kvs))) (hk : RE X W Γ a mk (.fz rI)) : RTE X W Γ (tDNotIn (tE X a) (tVar i)) (mk >>= fun k => pure (!(dget kvs k).isSome)) (.fz rB) := fun G σ F H Q o q => by
  refine hk G σ F H _ o (mk.mono (fun k hx v F' H' o' g' z => ?_) (fun _ z => z) q)
  obtain rfl : v = .int k := z
  obtain ⟨r, h1, h2⟩ := dk_in hi o' k
  exact ⟨.ref ad, (o'.en i _ hi).1, ad, r, rfl, h1, hx _ F' H' o' g' (by show V.bl _ = V.bl _; rw [h2])⟩
theorem rt_tB {t : TE} {m : Mo Bool} (hm : behindInMarks .In b = false) (hp : PC X .In a b t) (h : RTE X W Γ t m (.fz rB)) : RT X W Γ (.Compare a [.In] [b] pos) m := rt_of (pt_cmp (h1 := hm) hp) fun G σ F H Q o q => h G σ F H _ o (m.mono (fun x hx v F' H' o' g' z => ⟨x, z, hx F' H' o' g'⟩) (fun _ z => z) q)
theorem rt_tBn {t : TE} {m : Mo Bool} (hm : behindInMarks .NotIn b = false) (hp : PC X .NotIn a b t) (h : RTE X W Γ t m (.fz rB)) : RT X W Γ (.Compare a [.NotIn] [b] pos) m := rt_of (pt_cmp (h1 := hm) hp) fun G σ F H Q o q => h G σ F H _ o (m.mono (fun x hx v F' H' o' g' z => ⟨x, z, hx F' H' o' g'⟩) (fun _ z => z) q)
theorem rt_din (hi : Γ[i]? = some (.ow l ad (oDk ρ kvs))) (hp : PE X (.Name x p2) (tVar i)) (hk : RE X W Γ a mk (.fz rI)) (hu : X.A.units + 1 < cLine) : RT X W Γ (.Compare a [.In] [.Name x p2] pos) (mk >>= fun k => pure (dget kvs k).isSome) := rt_tB rfl (pc_din hu peE hp) (rte_din hi hk)
theorem rt_dnotin (hi : Γ[i]? = some (.ow l ad (oDk ρ kvs))) (hp : PE X (.Name x p2) (tVar i)) (hk : RE X W Γ a mk (.fz rI)) (hu : X.A.units + 1 < cLine) : RT X W Γ (.Compare a [.NotIn] [.Name x p2] pos) (mk >>= fun k => pure (!(dget kvs k).isSome)) := rt_tBn rfl (pc_dnotin hu peE hp) (rte_dnotin hi hk)
/-- d.get(k) -/
theorem re_dgetm {apos : Pos} (hi : Γ[i]? = some (.ow l ad (oDk ρ kvs))) (hp : PE X (.Name x p2) (tVar i)) (hk : RE X W Γ b mk (.fz rI)) (hu : X.A.units + 1 < cLine) (m : M1 X (.Name x p2) "get" apos b pos) : RE X W Γ (.Call (.Attribute (.Name x p2) "get" apos) [b] [] pos) (mk >>= fun k => pure (dget kvs k)) (.fz (rO ρ)) := by
  refine re_of (pe_dget1 hu hp peE m) fun G σ F H Q o q => ?_
  obtain ⟨h1, _, _, u, hu2, gs, rfl, hg⟩ := o.en i _ hi
  refine ⟨.ref ad, h1, ad, rfl, .inl ⟨gs, .inl hu2⟩, ?_⟩
  refine hk G σ F H _ o (mk.mono (fun k hx v F' H' o' g' z => ?_) (fun _ z => z) q)
  obtain rfl : v = .int k := z
  obtain ⟨_, _, _, u, hu3, gs', rfl, hg'⟩ := o'.en i _ hi
  refine ⟨_, DGet.k (k := Sum.inl k) hu3, hx _ F' H' o' g' ?_⟩
  show ((rO ρ) (dget kvs k)).r _ F'
  rcases hg'.get (k := k) with ⟨y', v, h1, h2, h3⟩ | ⟨h1, h2⟩
  · rw [h1, h2]; exact h3
  · rw [h1, h2]; rfl
/-- d[k] = e -/
theorem rb_dput {me : Mo α} {mr : α → Int → Mo γ} (hs : PS X st (sDPut (tVar i) (tE X b) (tE X e))) (hi : Γ[i]? = some (.ow l ad (oDk ρ kvs))) (he : RE X W Γ e me (.fz ρ)) (hk : RE X W Γ b mk (.fz rI)) (hie : Γe[i]? = some .un) (hr : ∀ x k, RB X W Γe lv (Γ.set i (.ow l ad (oDk ρ (dput kvs k x)))) rest (mr x k) Z) :
    RB X W Γe lv Γ (st :: rest) (me >>= fun x => mk >>= fun k => Mo.rq (kvs.length < sizeLine) k >>= fun k => mr x k) Z := fun le G σ F H D nx' hn o q =>
  tSs_cons hs (by
    refine he G σ F H _ o (me.mono (fun y hx v F1 H1 o1 g1 z1 => ?_) (fun _ => XQ.eq le) q)
    refine ⟨.ref ad, (o1.en i _ hi).1, ?_⟩
    refine hk G σ F1 H1 _ o1 (mk.mono (fun k hx w F2 H2 o2 g2 z2 => ?_) (fun _ z => XQ.eq le (XQ.step g1.fs z)) hx)
    obtain rfl : w = .int k := z2
    obtain ⟨_, _, _, u, hu, gs, rfl, hg⟩ := o2.en i _ hi
    refine ⟨ad, _, rfl, DPut.k (k := Sum.inl k) hu (by rw [hg.len]; exact hx.1), ?_⟩
    exact hr y k (le.set hie) G σ F2 _ D nx' hn (o2.put (q := oDk ρ (dput kvs k y)) hi ⟨_, rfl, hg.put ((ρ y).mono g2.fs z1)⟩) (run_fin (g1.fs.trans g2.fs) hx.2))
end
/-! ### pop -/
theorem Ps.dropLast {F : Hp} : ∀ {ps : List Pr} {vs : List V}, Ps F ps vs → Ps F ps.dropLast vs.dropLast
  | [], [], _ => trivial
  | [_], [_], _ => trivial
  | _ :: p :: ps, _ :: v :: vs, h => ⟨h.1, Ps.dropLast (ps := p :: ps) (vs := v :: vs) h.2⟩
  | [], _ :: _, h => h.elim
  | _ :: _, [], h => h.elim
  | [_], _ :: _ :: _, h => h.2.elim
  | _ :: _ :: _, [_], h => h.2.elim
/-- x = xs.pop() -/
theorem rb_setPop {i j : Nat} {l : Bool} {ad : Addr} {xs : List α} {mr : α → Mo γ} (hs : PS X st (tAsg (tBM0 X.K "list" rPop (tVar i)) (gName j))) (hi : Γ[i]? = some (.ow l ad (oL ρ xs))) (hie : Γe[i]? = some .un) (hje : Γe[j]? = some .un) (hr : ∀ x, RB X W Γe lv ((Γ.set i (.ow l ad (oL ρ xs.dropLast))).set j (.fz (ρ x))) rest (mr x) Z) :
    RB X W Γe lv Γ (st :: rest) (Mo.get xs[xs.length - 1]? >>= mr) Z := fun le G σ F H D nx' hn o q =>
  tSs_cons hs (by
    obtain ⟨h1, _, _, u, hu, vs, rfl, hps⟩ := o.en i _ hi
    obtain ⟨x, hx, q⟩ := q
    obtain ⟨v, hv, hr2⟩ := hps.get (i := xs.length - 1) (p := ρ x) (by rw [List.getElem?_map, hx]; rfl)
    refine ⟨.ref ad, h1, .inl ⟨rfl, vs, SqL.of hu⟩, ad, vs, v, rfl, rfl, hu, by rw [hps.len, List.length_map]; exact hv, ?_⟩
    have o2 := o.put (q := oL ρ xs.dropLast) (u := .lst vs.dropLast) hi ⟨_, rfl, by rw [List.map_dropLast]; exact hps.dropLast⟩
    exact hr x ((le.set hie).set hje) G _ F _ D nx' hn (o2.set hr2) q)
/-! ### xs[::-1] -/
theorem Ps.rev {F : Hp} : ∀ {ps : List Pr} {vs : List V}, Ps F ps vs → Ps F ps.reverse vs.reverse
  | [], [], _ => trivial
  | _ :: _, _ :: _, h => by
    rw [List.reverse_cons, List.reverse_cons]
    exact (Ps.rev h.2).app ⟨h.1, trivial⟩
  | [], _ :: _, h => h.elim
  | _ :: _, [], h => h.elim
theorem re_rev {k : Nat} {p1 : Pos} {m : Mo (List α)} (h : RSq X W Γ true e m ρ) : RE X W Γ (.Subscript e (.Slice none none (some (.UnaryOp .USub (.Constant (.int 1) k p1) p2)) p3) pos) (m >>= fun xs => pure xs.reverse) (.ow (oL ρ)) :=
  re_of (pe_revL peE) fun G σ F H Q o q => h G σ F H _ o (m.mono (fun xs hx ad vs F' H' o' g' z1 z2 => by
    refine ⟨ad, vs, rfl, SqL.of z1, fun d hd => NQ.own hx o' g' hd ⟨_, rfl, ?_⟩⟩
    rw [List.map_reverse]
    exact z2.rev) (fun _ z => z) q)
/-! ### isinstance of the error in a suite, several classes -/
section
variable {C : Addr} {oe : Obj} {d : Option Addr} {pn : List (Addr × Obj)} {ex : Ex} {n f : Str} {i : Nat} {p : Pos}
def rIsDT (K : PySem.W.Frag) (D a : Addr) (cls : Value) (d : Option Addr) : List V → Hp → VK → Prop := fun xs H Q => cls = .ref D ∧ ∃ (dd : Addr) (fs : List (Str × V)) (tp : Addr) (cs : List V) (us : List Value) (b : Bool), d = some dd ∧ H dd = some (.xd fs) ∧ xs = [.ref a, .ref tp] ∧ H tp = some (.tup cs) ∧ Paired ClsV cs us ∧ PySem.W.kitAny K (.ref D) us = some b ∧ Q (.bl b) H
theorem call_isDT {a D : Addr} {cls : Value} (Ce : ExcC X.K D) (hz : Zc cls d oe) (hf : ∃ vs, oe.data = .fields vs) : CallR (X.suite a ((a, oe) :: pn)) (.builtin "isinstance") (rIsDT X.K D a cls d) := by
  intro pins s σ H xs us Q I r h
  obtain ⟨rfl, dd, fs, tp, cs, ws, b, rfl, hdd, rfl, hT, k, e, q⟩ := h
  obtain ⟨u1, u2, rfl, r1, r2⟩ := vals2 r
  cases (show u1 = Value.ref a from r1)
  cases (show u2 = Value.ref tp from r2)
  obtain ⟨hget, _⟩ := I.pin (a, oe) (List.mem_append.mpr (.inl List.mem_cons_self))
  obtain ⟨vs, hv⟩ := hf
  have hx : ObjOk X.prog X.w H s.heap dd (.xd fs) := I.hok dd _ hdd
  obtain ⟨mA, hns, hr⟩ := hx
  obtain ⟨od, ho, hl⟩ := lookIn_ns hns
  have J : PySem.W.InstAt s.heap a oe D (some od) := ⟨hget, hz.1, by unfold PySem.W.notCls; rw [hv] <;> rfl, by rw [hz.2]; exact ho⟩
  obtain ⟨cd, hc, _⟩ := PySem.W.any_some Ce.hd
  obtain ⟨_, its, rv, o, h1, h2, n, h3⟩ := (show ObjOk X.prog X.w H s.heap tp (.tup cs) from I.hok tp _ hT)
  have e3 := ClsV.all k rv
  subst e3
  obtain ⟨oc, od', dt, sl⟩ := o
  simp only at h2 h3
  subst h2 h3
  exact PySem.W.kia_tup (PySem.W.kitx_exc (by rw [hc]; rfl) Ce.hg Ce.hk Ce.hs Ce.ha Ce.hn Ce.ht Ce.hm) I.kIn J h1 e (fun z => nomatch z) fun tk => ⟨.bl b, H, I.kept (t' := tk) fun _ _ z => z, rfl, q⟩
/-- the classes of a written tuple -/
inductive ClsEs (X : Cx) : List Expr → List Addr → Prop where
  | nil : ClsEs X [] []
  | cons {n : Str} {p : Pos} {C : Addr} {es : List Expr} {cs : List Addr} (h : PE X (.Name n p) (tC (.ref C))) (hc : starEach (.Name n p :: es) X.env = (false, eval (.Name n p) X.env) :: starEach es X.env) (r : ClsEs X es cs) : ClsEs X (.Name n p :: es) (C :: cs)
def tCs : List Addr → TA
  | [] => tNil
  | c :: cs => tCons (tC (.ref c)) (tCs cs)
theorem ClsEs.pa {X : Cx} : ∀ {es : List Expr} {cs : List Addr}, ClsEs X es cs → PA X es (tCs cs)
  | _, _, .nil => pa_nil
  | _, _, .cons h hc r => pa_cons h r.pa hc
theorem tCs_run {σ : L2.St} {H : Hp} : ∀ {cs : List Addr} {Q : List V → Hp → Prop}, Q (cs.map V.ref) H → tCs cs σ H Q
  | [], _, q => q
  | c :: cs, Q, q => tCs_run (cs := cs) (Q := fun xs H2 => Q (.ref c :: xs) H2) q
theorem paired_cls : ∀ cs : List Addr, Paired ClsV (cs.map V.ref) (cs.map Value.ref)
  | [] => .nil
  | c :: cs => .cons (.own c) (paired_cls cs)
theorem re_exisT {ad : Addr} {r : Bool} {cs : List Addr} {es : List Expr} {x1 : Nat} {p3 p4 : Pos} (Ce : ExcC X.K C) (hz : Zc (.ref C) d oe) (hf : ∃ vs, oe.data = .fields vs) (hi : Γ[i]? = some (.fz (exP ad d ex))) (hp : PE (X.suite ad ((ad, oe) :: pn)) (.Name n p) (tVar i)) (hc : ClsEs (X.suite ad ((ad, oe) :: pn)) es cs) (hk : PySem.W.kitAny X.K (.ref C) (cs.map Value.ref) = some r) (hl : cs.length ≤ 1000)
    (hm : X.mg "isinstance" = none) (hg : Gl X "isinstance" := by rfl) :
    RE (X.suite ad ((ad, oe) :: pn)) W Γ (.Call (.Name "isinstance" p3) [.Name n p, .Tuple es x1 p4] [] pos) (Mo.rq (ex.fs ≠ []) r) (.fz rB) :=
  re_of (pe_callB (X := X.suite ad ((ad, oe) :: pn)) (call_isDT Ce hz hf) hg hm (by decide +kernel) (pa_cons hp (pa_cons (pe_tup hc.pa) pa_nil))) fun G σ F H Q o q => by
    obtain ⟨u, h1, rfl, h2⟩ := o.en i _ hi
    refine ⟨.ref ad, h1, ?_⟩
    refine tCs_run ⟨by rw [List.length_map, sizeLine_eq]; omega, fun tp htp => ?_⟩
    obtain ⟨o2, g2⟩ := o.new (u := .tup (cs.map V.ref)) htp
    rcases h2 with ⟨_, h2⟩ | ⟨dd, fs, h2, h3, _⟩
    · exact absurd h2 q.1
    · refine ⟨rfl, dd, fs, tp, cs.map V.ref, cs.map Value.ref, r, h2, o2.le _ _ (g2.fs _ _ h3), rfl, upd_same, paired_cls cs, hk, ?_⟩
      exact q.2 _ _ _ o2 g2 rfl
end
end
end RF
namespace RF
open PySem PySem.Spec PyProof.Rows L2 KO SX
section
variable {α β γ δ : Type} {X : Cx} {W : WX} {Γe Γ Γ' : Ctx} {lv : Bool} {e ee o a b c : Expr} {es : List Expr} {st : Stmt} {rest body suite : List Stmt} {Z : γ → Fin} {pos p2 p3 : Pos} {t : TE}
/-- it is not None -/
theorem re_get {ρ : α → Pr} {m : Mo (Option α)} (h : RE X W Γ e m (.fz (rO ρ))) : RE X W Γ e (m >>= Mo.get) (.fz ρ) := fun G σ F H Q o q =>
  h G σ F H Q o (m.mono (fun x hx v F' H' o' g' z => by
    obtain ⟨y, rfl, hx⟩ := hx
    exact hx v F' H' o' g' z) (fun _ z => z) q)
/-! ### an own list, read as if it were frozen -/
class NL (ρ : α → Pr) : Prop where
  nl : ∀ {x : α} {v : V} {F : Hp} {a : Addr} {vs : List V}, F a = some (.lst vs) → (ρ x).r v F → (ρ x).r v (del F a)
class NLP (q : Po) : Prop where
  nl : ∀ {u : HO} {F : Hp} {a : Addr} {vs : List V}, F a = some (.lst vs) → q.r u F → q.r u (del F a)
def NLr (p : Pr) : Prop := ∀ {v : V} {F : Hp} {a : Addr} {vs : List V}, F a = some (.lst vs) → p.r v F → p.r v (del F a)
instance : NL rI := ⟨fun _ h => h⟩
instance : NL rB := ⟨fun _ h => h⟩
instance : NL rS := ⟨fun _ h => h⟩
instance : NL rN := ⟨fun _ h => h⟩
instance {ρ : α → Pr} [n : NL ρ] : NL (rO ρ) := ⟨fun {x} {v F a vs} h k => by
  cases x with
  | none => exact k
  | some y => exact n.nl h k⟩
theorem Ps.nl {F : Hp} {a : Addr} {us : List V} (h : F a = some (.lst us)) : ∀ {ps : List Pr} {vs : List V}, (∀ p ∈ ps, NLr p) → Ps F ps vs → Ps (del F a) ps vs
  | [], [], _, _ => trivial
  | p :: ps, v :: vs, n, k => ⟨n p List.mem_cons_self h k.1, Ps.nl h (fun q hq => n q (List.mem_cons_of_mem _ hq)) k.2⟩
  | [], _ :: _, _, k => k.elim
  | _ :: _, [], _, k => k.elim
theorem nl_T {ps : List Pr} (n : ∀ p ∈ ps, NLr p) : NLr (rTu ps) := fun {v F a vs} h k => by
  obtain ⟨t, ws, rfl, h1, h2⟩ := k
  have hne : t ≠ a := by
    rintro rfl
    rcases h1 with h1 | ⟨o, h1⟩ <;> (rw [h] at h1; cases h1)
  exact ⟨t, ws, rfl, h1.imp (fun h => del_ok h hne) (fun ⟨o, h⟩ => ⟨o, del_ok h hne⟩), h2.nl h n⟩
theorem nlr {ρ : α → Pr} [n : NL ρ] (x : α) : NLr (ρ x) := fun h k => n.nl h k
theorem nl_mem1 {p : Pr} (h : NLr p) : ∀ q ∈ [p], NLr q := fun q hq => by rw [List.mem_singleton.mp hq]; exact h
theorem nl_memc {p : Pr} {ps : List Pr} (h : NLr p) (k : ∀ q ∈ ps, NLr q) : ∀ q ∈ p :: ps, NLr q := fun q hq => by
  rcases List.mem_cons.mp hq with e | e
  · rw [e]; exact h
  · exact k q e
section
variable {ε ζ : Type} {ρ : α → Pr} {σ : β → Pr} {τ : γ → Pr} {υ : δ → Pr} {φ : ε → Pr}
instance [NL ρ] : NL (rTs ρ) := ⟨fun {xs} {v F a vs} h k => nl_T (fun p hp => by
  obtain ⟨x, _, rfl⟩ := List.mem_map.mp hp
  exact nlr x) h k⟩
instance [NL ρ] : NL (rT1 ρ) := ⟨fun {x} {v F a vs} h k => nl_T (nl_mem1 (nlr _)) h k⟩
instance [NL ρ] [NL σ] : NL (rT2 ρ σ) := ⟨fun {x} {v F a vs} h k => nl_T (nl_memc (nlr _) (nl_mem1 (nlr _))) h k⟩
instance [NL ρ] [NL σ] [NL τ] : NL (rT3 ρ σ τ) := ⟨fun {x} {v F a vs} h k => nl_T (nl_memc (nlr _) (nl_memc (nlr _) (nl_mem1 (nlr _)))) h k⟩
instance [NL ρ] [NL σ] [NL τ] [NL υ] : NL (rT4 ρ σ τ υ) := ⟨fun {x} {v F a vs} h k => nl_T (nl_memc (nlr _) (nl_memc (nlr _) (nl_memc (nlr _) (nl_mem1 (nlr _))))) h k⟩
instance [NL ρ] [NL σ] [NL τ] [NL υ] [NL φ] : NL (rT5 ρ σ τ υ φ) := ⟨fun {x} {v F a vs} h k => nl_T (nl_memc (nlr _) (nl_memc (nlr _) (nl_memc (nlr _) (nl_memc (nlr _) (nl_mem1 (nlr _)))))) h k⟩
instance [n : NL ρ] {xs : List α} : NLP (oL ρ xs) := ⟨fun {u F a vs} h k => by
  obtain ⟨ws, rfl, h2⟩ := k
  exact ⟨ws, rfl, h2.nl h (fun p hp => by
    obtain ⟨x, _, rfl⟩ := List.mem_map.mp hp
    exact nlr x)⟩⟩
end
instance : NLP oPool := ⟨fun _ h => h⟩
instance {C : Addr} : NLP (oIn C []) := ⟨fun {u F a vs} h k => by
  obtain ⟨dx, gs, rfl, k⟩ := k
  cases gs with
  | nil => exact ⟨dx, [], rfl, trivial⟩
  | cons _ _ => exact k.elim⟩
theorem ks_nl {ρ : α → Pr} [NL ρ] {F : Hp} {a : Addr} {us : List V} (h : F a = some (.lst us)) : ∀ {kvs : List (Int × α)} {gs : List (Key × V)}, Ks F ρ kvs gs → Ks (del F a) ρ kvs gs
  | [], [], _ => trivial
  | (_, x) :: _, (_, _) :: _, k => ⟨k.1, nlr x h k.2.1, ks_nl h k.2.2⟩
  | [], _ :: _, k => k.elim
  | _ :: _, [], k => k.elim
instance {ρ : α → Pr} [NL ρ] {kvs : List (Int × α)} : NLP (oDk ρ kvs) := ⟨fun {u F a vs} h k => by
  obtain ⟨gs, rfl, k⟩ := k
  exact ⟨gs, rfl, ks_nl h k⟩⟩
/-- of a value no more than that it is not None -/
def rNN (_ : α) : Pr := ⟨fun v _ => v ≠ .non, fun _ h => h⟩
instance : NL (rNN (α := α)) := ⟨fun _ h => h⟩
class NLK (k : RK γ) : Prop where
  nl : ∀ {x : γ} {v : V} {H F H' : Hp} {a : Addr} {vs : List V}, F a = some (.lst vs) → k.ok x v H F H' → k.ok x v H (del F a) H'
instance {ρ : γ → Pr} [n : NL ρ] : NLK (.fz ρ) := ⟨fun h k => n.nl h k⟩
instance {ρ : γ → Po} [n : ∀ x, NLP (ρ x)] : NLK (.ow ρ) := ⟨fun {x v H F H' a vs} h k => by
  obtain ⟨b, u, rfl, h1, h2, h3, h4⟩ := k
  refine ⟨b, u, rfl, h1, ?_, h3, (n x).nl h h4⟩
  unfold del
  split
  · rfl
  · exact h2⟩
def NLC : Ctx → Prop
  | [] => True
  | .ow _ _ q :: r => NLP q ∧ NLC r
  | _ :: r => NLC r
theorem NLC.get : ∀ {Γ : Ctx} {i : Nat} {l : Bool} {a : Addr} {q : Po}, NLC Γ → Γ[i]? = some (.ow l a q) → NLP q
  | [], _, _, _, _, _, h => by simp at h
  | en :: r, 0, l, a, q, n, h => by
    simp at h
    subst h
    exact n.1
  | en :: r, i + 1, l, a, q, n, h => by
    have n' : NLC r := by
      cases en with
      | un => exact n
      | fz p => exact n
      | ow l' a' q' => exact n.2
      | lk f h p => exact n
    exact NLC.get n' (by simpa using h)
section
variable {j : Nat} {l : Bool} {ad : Addr} {ρ : α → Pr} {xs : List α}
/-- the world in which the own list is frozen -/
theorem Ok.bor {G : Gf} {σ : L2.St} {F H : Hp} (o : Ok G Γ σ F H) (hj : Γ[j]? = some (.ow l ad (oL ρ xs))) : ∃ (G' : Gf) (F1 : Hp) (vs : List V), F1 ad = some (.lst vs) ∧ Ok G' (Γ.set j (.fz (rL ρ xs))) σ F1 H ∧ Same F F1 ∧ H ad = some (.lst vs) ∧
    ∀ F' H', NLC (Γ.set j (.fz (rL ρ xs))) → Ok G' (Γ.set j (.fz (rL ρ xs))) σ F' H' → Go (owns (Γ.set j (.fz (rL ρ xs)))) F1 H F' H' → F' ad = some (.lst vs) ∧ Ok G Γ σ (del F' ad) H' ∧ Go (owns Γ) F H (del F' ad) H' := by
  obtain ⟨k1, k2, k3, u, k4, vs, rfl, k5⟩ := o.en j _ hj
  have s : Same F (upd F ad (.lst vs)) := same_upd k2
  have hF0 : G.F0 ad = none := by
    cases e : G.F0 ad with
    | none => rfl
    | some y => rw [o.go.fs _ _ e] at k2; cases k2
  have hlt : j < Γ.length := (List.getElem?_eq_some_iff.mp hj).1
  have other : ∀ {i : Nat} {e : En}, i ≠ j → (Γ.set j (.fz (rL ρ xs)))[i]? = some e → Γ[i]? = some e := fun {i e} n h => by
    rw [List.getElem?_set_ne (Ne.symm n)] at h; exact h
  have keyo : ∀ {i : Nat} {m : Bool} {b : Addr} {q : Po}, (Γ.set j (.fz (rL ρ xs)))[i]? = some (.ow m b q) → i ≠ j ∧ Γ[i]? = some (.ow m b q) := fun {i m b q} h => by
    by_cases hij : i = j
    · subst hij
      rw [List.getElem?_set_self hlt] at h
      cases h
    · exact ⟨hij, other hij h⟩
  refine ⟨⟨G.F0, fun b => if b = ad then none else G.H0 b, G.M⟩, upd F ad (.lst vs), vs, upd_same, ⟨⟨?_, ?_, ?_, ?_, ?_⟩, fun i e he => ?_, fun i i2 m m2 b p q h1 h2 => ?_, ?_⟩, s, k4, fun F' H' hn o' g' => ?_⟩
  · exact fun b x e => s _ _ (o.go.fs _ _ e)
  · intro b x e
    by_cases hb : b = ad
    · subst hb; rw [upd_same] at e; rw [k4]; exact e
    · rw [upd_ne hb] at e; exact o.le _ _ e
  · intro b x n e
    dsimp only at e
    split at e
    · cases e
    · exact o.go.hs b x n e
  · intro b x e f
    dsimp only at e
    split at e
    · cases e
    · rename_i hb
      rw [upd_ne hb]; exact o.go.fr b x e f
  · intro b x e
    dsimp only at e
    split at e
    · cases e
    · exact o.go.th b x e
  · by_cases hij : i = j
    · subst hij
      rw [List.getElem?_set_self hlt] at he
      cases he
      exact ⟨.ref ad, k1, ad, vs, rfl, upd_same, k5.mono s⟩
    · have z := o.en i e (other hij he)
      cases e with
      | un => trivial
      | fz p =>
        obtain ⟨v, e1, e2⟩ := z
        exact ⟨v, e1, p.mono s e2⟩
      | ow m b r =>
        obtain ⟨z1, z2, z3, y, z4, z5⟩ := z
        have hb : b ≠ ad := by
          rintro rfl
          exact hij (o.ap i j _ _ _ _ _ (other hij he) hj)
        refine ⟨z1, by rw [upd_ne hb]; exact z2, ?_, y, z4, r.mono s z5⟩
        cases m with
        | true => exact (if_neg hb).trans z3
        | false => exact z3
      | lk f h p =>
        obtain ⟨⟨v, e1, e2⟩, e3, e4⟩ := z
        refine ⟨⟨v, e1, p.mono s e2⟩, fun b hb => ?_, e4⟩
        refine ⟨?_, (e3 b hb).2⟩
        show (if b = ad then none else G.H0 b) = none
        split
        · rfl
        · exact (e3 b hb).1
  · exact o.ap i i2 _ _ b p q (keyo h1).2 (keyo h2).2
  · rw [o.ln]; simp
  · have ha' : F' ad = some (.lst vs) := g'.fs _ _ upd_same
    have sub : ∀ b ∈ owns (Γ.set j (.fz (rL ρ xs))), b ∈ owns Γ := fun b hb => owns_set rfl hb
    have g : Go (owns Γ) F H (del F' ad) H' := by
      refine ⟨fun b x e => ?_, fun b x e => ?_, fun b x n e => g'.hs b x (fun h => n (sub _ h)) e, fun b x e f => ?_, g'.th⟩
      · have hb : b ≠ ad := by rintro rfl; rw [k2] at e; cases e
        exact del_ok (g'.fs _ _ (s _ _ e)) hb
      · unfold del at e
        split at e
        · cases e
        · exact g'.le _ _ e
      · unfold del
        split
        · rfl
        · rename_i hb
          exact g'.fr b x e (by rw [upd_ne hb]; exact f)
    refine ⟨ha', ⟨o.go.trans g fun x m => o.own m, fun i e he => ?_, o.ap, o.ln⟩, g⟩
    have z := o.en i e he
    cases e with
    | un => trivial
    | fz p =>
      obtain ⟨v, e1, e2⟩ := z
      exact ⟨v, e1, p.mono g.fs e2⟩
    | ow m b r =>
      obtain ⟨z1, z2, z3, y, z4, z5⟩ := z
      by_cases hij : i = j
      · subst hij
        rw [hj] at he
        cases he
        exact ⟨z1, del_same, z3, _, g'.le _ _ ha', vs, rfl, k5.mono g.fs⟩
      · have he2 : (Γ.set j (.fz (rL ρ xs)))[i]? = some (.ow m b r) := by rw [List.getElem?_set_ne (Ne.symm hij)]; exact he
        obtain ⟨y1, y2, y3, w, y4, y5⟩ := o'.en i _ he2
        refine ⟨z1, ?_, z3, w, y4, (hn.get he2).nl ha' y5⟩
        unfold del
        split
        · rfl
        · exact y2
    | lk f h p =>
      obtain ⟨⟨v, e1, e2⟩, e3, e4⟩ := z
      exact ⟨⟨v, e1, p.mono g.fs e2⟩, e3, fun b e => e4 b (none_th g.th e)⟩
theorem rte_bor {k : RK γ} {m : Mo γ} [nk : NLK k] (hj : Γ[j]? = some (.ow l ad (oL ρ xs))) (hn : NLC (Γ.set j (.fz (rL ρ xs)))) (h : RTE X W (Γ.set j (.fz (rL ρ xs))) t m k) : RTE X W Γ t (Mo.calm m) k := fun G σ F H Q o q => by
  obtain ⟨G', F1, vs, h1, o1, s, _, back⟩ := o.bor hj
  refine h G' σ F1 H Q o1 (m.mono (fun x hx v F' H' o' g' z => ?_) (fun _ z => z.elim) q)
  obtain ⟨b1, b2, b3⟩ := back F' H' hn o' g'
  exact hx v _ H' b2 b3 (nk.nl b1 z)
theorem re_bor {k : RK γ} {m : Mo γ} [nk : NLK k] (hj : Γ[j]? = some (.ow l ad (oL ρ xs))) (hn : NLC (Γ.set j (.fz (rL ρ xs)))) (h : RE X W (Γ.set j (.fz (rL ρ xs))) e m k) : RE X W Γ e (Mo.calm m) k := rte_bor hj hn h
theorem rt_bor {m : Mo Bool} (hj : Γ[j]? = some (.ow l ad (oL ρ xs))) (hn : NLC (Γ.set j (.fz (rL ρ xs)))) (h : RT X W (Γ.set j (.fz (rL ρ xs))) e m) : RT X W Γ e (Mo.calm m) := fun G σ F H Q o q => by
  obtain ⟨G', F1, vs, h1, o1, s, _, back⟩ := o.bor hj
  refine h G' σ F1 H Q o1 (m.mono (fun x hx F' H' o' g' => ?_) (fun _ z => z.elim) q)
  obtain ⟨b1, b2, b3⟩ := back F' H' hn o' g'
  exact hx _ H' b2 b3
end
/-! ### a call whose first argument is a new thing of one's own -/
section
variable {k : Nat} {f C : Addr} {fd : FuncData} {ps : List Str} {pp : Addr → β → Ctx} {m : β → Mo γ} {kr : RK γ} {me : Mo Unit} {ma : Mo β} {x : Str} {p : Pos} {qo : Po}
theorem re_callF {pa : β → Ctx} (Fn : FnOk X.prog X.w X.K X.mg X.base (L2.CX X.prog X.w) k f fd ps (spR X.K X.mg pp m kr)) (hr : Room k X.A) (tk : Takes X W) (he : RE X W Γ e me (.ow fun _ => qo)) (ha : RA X W Γ es ma pa) (hm : X.mg x = some (.ref f)) (hk : PySem.W.keepIn X.K (.ref f) = true) (hb : Binds X.K fd ps [])
    (hpp : ∀ c y, pp c y = .ow false c qo :: pa y := by intro _ _; rfl) (hap : ∀ y, ((pa y).all fun e => e.own?.isNone) = true := by intro _; rfl) (hg : Gl X x := by rfl) (hdb : (x == ("__debug__" : Str)) = false := by decide) (hst : starEach (e :: es) X.env = (false, eval e X.env) :: starEach es X.env := by rfl) (hpl : (backTo pos (starEach es X.env)).any (·.1) = false := by rfl) :
    RE X W Γ (.Call (.Name x p) (e :: es) [] pos) (me >>= fun _ => ma >>= m) kr := by
  refine re_of (pe_callS Fn hr hg hm hk hb (fun σ => passAt tk σ) (pa_cons (hs := hst) peE paA) hdb hst hpl) fun G σ F H Q o q => ?_
  refine he G σ F H _ o (me.mono (fun _ hx v F1 H1 o1 g1 z => ?_) (fun _ z => z) q)
  obtain ⟨a, u, rfl, h1, h2, h3, h4⟩ := z
  have hao : a ∉ owns Γ := fun h => by
    obtain ⟨w, hw⟩ := o.ownH h
    rw [h1] at hw; cases hw
  have hG0 : G.H0 a = none := by
    cases e : G.H0 a with
    | none => rfl
    | some y => obtain ⟨y', e'⟩ := o.go.th _ _ e; rw [h1] at e'; cases e'
  refine ha G σ F1 H1 _ o1 (ma.mono (fun y hy vs F2 H2 o2 g2 z2 => ?_) (fun _ => EQ.step g1) hx)
  have g12 := g1.trans g2 owns_tr
  have ha2 : H2 a = some u := g2.hs _ _ hao h3
  have hf2 : F2 a = none := g2.fr _ _ h3 h2
  have hall := hap y
  have hown : owns (pp a y) = [a] := by
    rw [hpp a y]
    show a :: owns (pa y) = [a]
    rw [noOwn hall]
  have harg : ArgOk (pp a y) F2 H2 (pp a y) (.ref a :: vs) := by
    refine ⟨by rw [hpp a y]; simp [z2.1], fun i en w e1 e2 => ?_, fun j l b q h => ⟨j, l, h⟩⟩
    rw [hpp a y] at e1
    cases i with
    | zero =>
      simp at e1 e2
      subst e1 e2
      exact ⟨rfl, hf2, u, ha2, qo.mono g2.fs h4⟩
    | succ i => exact z2.2.1 i en w (by simpa using e1) (by simpa using e2)
  have hone : oneOwn (pp a y) = true := by rw [hpp a y]; exact hall
  obtain ⟨n1, n2⟩ := one_ap hone
  have lift : ∀ {F' H' : Hp}, Go (owns (pp a y)) F2 H2 F' H' → Ok G Γ σ F' H' ∧ Go (owns Γ) F H F' H' := fun {F' H'} g => by
    rw [hown] at g
    refine ⟨o2.move g fun b hb => ?_, g12.trans g fun b hb => ?_⟩
    · rw [List.mem_singleton.mp hb]
      exact .inr ⟨.inr hG0, hao⟩
    · rw [List.mem_singleton.mp hb]
      exact .inr h1
  refine ⟨a, y, F2, Ok.ofArgs o2.le harg n1 n2, (m y).mono (fun z hz v F' H' g w r => ?_) (fun ex hex cls d F' H' g w r => ?_) hy⟩
  · obtain ⟨o3, g3⟩ := lift g
    exact hz v F' H' o3 g3 (r.back g12.th)
  · obtain ⟨o3, g3⟩ := lift g
    exact hex cls d F' H' o3 g3 r
end
/-! ### a, b = [], [] -/
theorem rb_asg2 {i j : Nat} {ρa : α → Po} {ρb : β → Po} {ma : Mo α} {mb : Mo β} {mr : α → β → Mo γ} (hs : PS X st (tAsg (tTup (tCons (tE X a) (tCons (tE X b) tNil))) (gTup X.K 2 (gNames [i, j])))) (ha : RE X W Γ a ma (.ow ρa)) (hb : RE X W Γ b mb (.ow ρb)) (hi : Γe[i]? = some .un) (hj : Γe[j]? = some .un) (hij : (i == j) = false)
    (hr : ∀ x y d d', RB X W Γe lv ((Γ.set i (.ow true d (ρa x))).set j (.ow true d' (ρb y))) rest (mr x y) Z) : RB X W Γe lv Γ (st :: rest) (ma >>= fun x => mb >>= fun y => mr x y) Z := fun le G σ F H D nx' hn o q =>
  tSs_cons hs (by
    refine ha G σ F H _ o (ma.mono (fun x hx v F1 H1 o1 g1 z1 => ?_) (fun _ => XQ.eq le) q)
    obtain ⟨d, u, rfl, h1, h2, h3, h4⟩ := z1
    refine hb G σ F1 H1 _ o1 (mb.mono (fun y hy w F2 H2 o2 g2 z2 => ?_) (fun _ z => XQ.eq le (XQ.step g1.fs z)) hx)
    obtain ⟨d', u', rfl, k1, k2, k3, k4⟩ := z2
    refine ⟨by simp [sizeLine_eq], fun p hp => ?_⟩
    have hdo : d ∉ owns Γ := fun h => by
      obtain ⟨w, hw⟩ := o.ownH h
      rw [h1] at hw; cases hw
    have hdo' : d' ∉ owns Γ := fun h => by
      obtain ⟨w, hw⟩ := o1.ownH h
      rw [k1] at hw; cases hw
    have H0n : ∀ {c : Addr} {F9 H9 : Hp}, Ok G Γ σ F9 H9 → H9 c = none → G.H0 c = none := fun {c F9 H9} o9 h => by
      cases e : G.H0 c with
      | none => rfl
      | some y => obtain ⟨y', e'⟩ := o9.go.th _ _ e; rw [h] at e'; cases e'
    obtain ⟨o3, g3⟩ := o2.new (u := .tup [.ref d, .ref d']) hp
    have d2 : H2 d = some u := g2.hs _ _ hdo h3
    have f2 : F2 d = none := g2.fr _ _ h3 h2
    have hdd : d' ≠ d := by rintro rfl; rw [h3] at k1; cases k1
    have d3 := g3.hs _ _ hdo d2
    have f3 := g3.fr _ _ d2 f2
    have d3' := g3.hs _ _ hdo' k3
    have f3' := g3.fr _ _ k3 k2
    have o4 := o3.setO (i := i) (q := ρa x) (H0n o h1) f3 hdo d3 ((ρa x).mono (g2.fs.trans g3.fs) h4)
    have hdo4 : d' ∉ owns (Γ.set i (.ow true d (ρa x))) := fun h => by
      obtain ⟨n, l, q, e⟩ := of_owns h
      by_cases hin : i = n
      · subst hin
        have hl : i < Γ.length := by
          have := (List.getElem?_eq_some_iff.mp e).1
          simpa using this
        rw [List.getElem?_set_self hl] at e
        cases e
        exact hdd rfl
      · rw [List.getElem?_set_ne hin] at e
        exact hdo' (mem_owns e)
    have o5 := o4.setO (i := j) (q := ρb y) (H0n o1 k1) f3' hdo4 d3' ((ρb y).mono g3.fs k4)
    refine ⟨p, _, rfl, SqT.of upd_same, rfl, .ref d, _, rfl, .ref d', _, rfl, rfl, ?_⟩
    exact hr x y d d' ((le.set hi).set hj) G _ _ _ D nx' hn o5 (run_fin ((g1.fs.trans g2.fs).trans g3.fs) hy))
/-! ### isinstance of a list or None -/
theorem re_isL {ρ : α → Pr} {m : Mo (Option (List α))} {p : Pos} (h : RE X W Γ e m (.fz (rO (rL ρ)))) (h1 : PySem.W.kitOne X.K (.type "list") (.type "list") = some true) (h2 : PySem.W.kitOne X.K (.type "NoneType") (.type "list") = some false) (hm : X.mg "isinstance" = none) (hml : X.mg "list" = none) (hg : Gl X "isinstance" := by rfl) (hgl : Gl X "list" := by rfl)
    (hst : starEach [e, .Name "list" p2] X.env = (false, eval e X.env) :: starEach [.Name "list" p2] X.env := by rfl) (hst2 : starEach [.Name "list" p2] X.env = (false, eval (.Name "list" p2) X.env) :: starEach [] X.env := by rfl) :
    RE X W Γ (.Call (.Name "isinstance" p) [e, .Name "list" p2] [] pos) (m >>= fun x => pure x.isSome) (.fz rB) :=
  re_of (pe_callB call_isi hg hm (by decide +kernel) (pa_cons (hs := hst) peE (pa_cons (hs := hst2) (pe_bltn (v := .ty "list") hgl hml (by decide +kernel) rfl) pa_nil)) (by decide) (by decide) hst rfl) fun G σ F H Q o q => by
    refine h G σ F H _ o (m.mono (fun x hx v F' H' o' g' z => ?_) (fun _ z => z) q)
    cases x with
    | none =>
      obtain rfl : v = .non := z
      exact ⟨.non, .ty "list", _, _, _, rfl, .ty _, .base .non, h2, hx _ F' H' o' g' rfl⟩
    | some xs =>
      obtain ⟨a, vs, rfl, k1, k2⟩ := z
      exact ⟨.ref a, .ty "list", _, _, _, rfl, .ty _, .base (.lst (o'.le _ _ k1)), h1, hx _ F' H' o' g' rfl⟩
end
end RF
namespace RF
open PySem PySem.Spec PyProof.Rows L2 KO SX
section
variable {α β β' γ δ : Type} {X : Cx} {W : WX} {Γe Γ Γ' : Ctx} {lv : Bool} {scope : Scope} {elt c : Expr} {ifs ifs1 : List Expr} {t : TE}
theorem rit_list {m : Mo (List α)} {ρ : α → Pr} (h : RTE X W Γ t m (.fz (rL ρ))) : RI X W Γ (iList X.K t) m ρ := fun G σ F H R o q => by
  refine h G σ F H _ o (m.mono (fun xs hx v F' H' o' g' z => ?_) (fun _ z => z) q)
  obtain ⟨a, vs, rfl, h1, h2⟩ := z
  exact ⟨a, rfl, ⟨vs, SqL.of (o'.le _ _ h1)⟩, hx _ F' H' o' g' (src_list h1 h2)⟩
theorem rit_tup {m : Mo (List α)} {ρ : α → Pr} (h : RTE X W Γ t m (.fz (rTs ρ))) : RI X W Γ (iTup X.K t) m ρ := fun G σ F H R o q => by
  refine h G σ F H _ o (m.mono (fun xs hx v F' H' o' g' z => ?_) (fun _ z => z) q)
  obtain ⟨a, vs, rfl, h1, h2⟩ := z
  exact ⟨a, rfl, ⟨vs, SqT.ofR (Rd.mono h1 o'.le)⟩, hx _ F' H' o' g' (src_tup h1 h2)⟩
theorem rit_range1 {me : Mo Int} (h : RTE X W Γ t me (.fz rI)) : RI X W Γ (iRng1 (tCons t tNil)) (me >>= fun j => Mo.rq (-(2 ^ 62) ≤ j ∧ j < 2 ^ 62) (rangeL 0 j.toNat)) rI := fun G σ F H R o q => by
  refine h G σ F H _ o (me.mono (fun j hx v F' H' o' g' z => ?_) (fun _ z => z) q)
  obtain rfl : v = .int j := z
  exact ⟨j, rfl, hx.1.1, hx.1.2, hx.2 _ F' H' o' g' src_range⟩
theorem rit_range2 {ta tb : TE} {ma mb : Mo Int} (ha : RTE X W Γ ta ma (.fz rI)) (hb : RTE X W Γ tb mb (.fz rI)) : RI X W Γ (iRng2 (tCons ta (tCons tb tNil))) (ma >>= fun i => mb >>= fun j => Mo.rq (-(2 ^ 62) ≤ i ∧ i < 2 ^ 62 ∧ -(2 ^ 62) ≤ j ∧ j < 2 ^ 62) (rangeL i (j - i).toNat)) rI := fun G σ F H R o q => by
  refine ha G σ F H _ o (ma.mono (fun i hx v F' H' o' g' z => ?_) (fun _ z => z) q)
  refine hb G σ F' H' _ o' (mb.mono (fun j hy u F2 H2 o2 g2 z2 => ?_) (fun _ => EQ.step g') hx)
  obtain rfl : v = .int i := z
  obtain rfl : u = .int j := z2
  exact ⟨i, j, rfl, hy.1, hy.2 _ F2 H2 o2 (g'.trans g2 owns_tr) src_range⟩
theorem rte_i {e : Expr} {m : Mo γ} {k : RK γ} (h : REi X scope Γ e m k) : RTE X W0 Γ (tEi X scope e) m k := fun G σ F H Q o q s H0 C cl fp => h s H0 C cl fp G σ F H Q o q
theorem RG.more {K : PySem.W.Frag} {g : TG} {p : Pr} {f : Ctx → Ctx} {vs ws : List Nat} (h : RG K g p f vs) (s : ∀ v ∈ vs, v ∈ ws) : RG K g p f ws := fun G Γ σ F H Q v o hv q => h G Γ σ F H Q v o hv fun σ' o' e => q σ' o' (by
  refine List.ext_getElem? fun i => ?_
  by_cases hi : i ∈ ws
  · by_cases hv2 : i ∈ vs
    · have := congrArg (fun l : L2.St => l[i]?) e
      simp only [wipe_get, if_pos hv2] at this
      simp only [wipe_get, if_pos hi, this]
    · have := congrArg (fun l : L2.St => l[i]?) e
      simp only [wipe_get, if_neg hv2] at this
      simp only [wipe_get, if_pos hi, this]
  · have hv2 : i ∉ vs := fun h => hi (s _ h)
    have := congrArg (fun l : L2.St => l[i]?) e
    simp only [wipe_get, if_neg hv2] at this
    simp only [wipe_get, if_neg hi, this])
theorem RGo.more {f : Ctx → Ctx} {vs ws : List Nat} (h : RGo f vs) (s : ∀ v ∈ vs, v ∈ ws) : RGo f ws := ⟨h.sub, fun Γ i n => h.keep Γ i fun m => n (s _ m)⟩
def Mo.comp2 (c : β → Mo Bool) (f : β → Mo (List γ)) : List β → Mo (List γ)
  | [] => pure []
  | x :: xs => c x >>= fun b => if b = true then f x >>= fun ys => Mo.comp2 c f xs >>= fun zs => pure (ys ++ zs) else Mo.comp2 c f xs
def Mo.lc2 (c : β → Mo Bool) (mi : β → Mo (List β')) (c1 : β → β' → Mo Bool) (f : β → β' → Mo γ) (xs : List β) : Mo (List γ) :=
  Mo.rq (xs.length ≤ 4096) () >>= fun _ => Mo.calm (Mo.comp2 c (fun x => mi x >>= fun ws => Mo.rq (ws.length ≤ 4096) () >>= fun _ => Mo.comp (c1 x) (f x) ws) xs)
theorem rte_lc2 {wi wi1 : TI} {g g1 : TG} {mi : Mo (List β)} {ρi : β → Pr} {vs vs1 : List Nat} {mc : β → Mo Bool} {mi1 : β → Mo (List β')} {ρi1 : β' → Pr} {mc1 : β → β' → Mo Bool} {mf : β → β' → Mo γ} {ρ : γ → Pr} (tg : β → Ctx → Ctx) (tg1 : β' → Ctx → Ctx) (hi : RI X W Γ wi mi ρi) (hg : ∀ x, RG X.K g (ρi x) (tg x) vs) (hgo : ∀ x, RGo (tg x) vs) (hun : ∀ v ∈ vs, Γ[v]? = some .un)
    (ht : ∀ x, RTi X scope (tg x (wipeC Γ vs)) ifs (mc x)) (hi1 : ∀ x, RI X W0 (tg x (wipeC Γ vs)) wi1 (mi1 x) ρi1) (hg1 : ∀ y, RG X.K g1 (ρi1 y) (tg1 y) vs1) (hgo1 : ∀ y, RGo (tg1 y) vs1) (hun1 : ∀ x, ∀ v ∈ vs1, (tg x (wipeC Γ vs))[v]? = some .un)
    (ht1 : ∀ x y, RTi X scope (tg1 y (wipeC (tg x (wipeC Γ vs)) vs1)) ifs1 (mc1 x y)) (he : ∀ x y, REi X scope (tg1 y (wipeC (tg x (wipeC Γ vs)) vs1)) elt (mf x y) (.fz ρ)) :
    RTE X W Γ (tLc2 wi g (tPi X scope ifs) wi1 g1 (tPi X scope ifs1) (tEi X scope elt) vs vs1) (mi >>= Mo.lc2 mc mi1 mc1 mf) (.ow (oL ρ)) := fun G σ F H Q o q => by
  refine hi G σ F H _ o (mi.mono (fun xs hx J F1 H1 o1 g1 src D hD => ?_) (fun _ z => z) q)
  obtain ⟨hz, hx⟩ := hx
  have hD0 : H D = none := by
    cases e : H D with
    | none => rfl
    | some y => obtain ⟨y', e'⟩ := g1.th _ _ e; rw [hD] at e'; cases e'
  have hG0 : G.H0 D = none := by
    cases e : G.H0 D with
    | none => rfl
    | some y => obtain ⟨y', e'⟩ := o.go.th _ _ e; rw [hD0] at e'; cases e'
  have hDo : D ∉ owns Γ := fun h => by
    obtain ⟨y, hy⟩ := o.ownH h
    rw [hD0] at hy; cases hy
  have hF1 : F1 D = none := o1.le.free hD
  let f : β → Mo (List γ) := fun x => mi1 x >>= fun ws => Mo.rq (ws.length ≤ 4096) () >>= fun _ => Mo.comp (mc1 x) (mf x) ws
  let St : Nat → Hp → Prop := fun i H' => ∃ F' ys us, Ok G Γ σ F' H' ∧ Go (owns Γ) F H F' H' ∧ Same F1 F' ∧ F' D = none ∧ H' D = some (.lst us) ∧ Ps F' (ys.map ρ) us ∧ ys.length ≤ i * 4096 ∧ (Mo.comp2 mc f (xs.drop i)).run (fun zs => NQ G Γ σ F H (.ow (oL ρ)) Q (ys ++ zs)) (fun _ => False)
  obtain ⟨oD, gD⟩ := o1.newO (u := .lst []) hD
  refine ⟨fun i k H' => k = xs.length - i ∧ i ≤ xs.length ∧ St i H', ⟨_, rfl, Nat.zero_le _, F1, [], [], oD, g1.trans gD owns_tr, Same.refl _, hF1, upd_same, trivial, Nat.zero_le _, hx⟩, ?_⟩
  rintro i k H' ⟨rfl, hik, F', ys, us, o', g', s1, hF', hH', hps, hle, r⟩
  obtain ⟨w1, w2, w3⟩ := src F' H' s1 o'.le
  by_cases hlt : i < xs.length
  · refine .inr ⟨w1 i hlt, fun H'' => i + 1 ≤ xs.length ∧ St (i + 1) H'', fun H'' h => ⟨_, by omega, rfl, h.1, h.2⟩, fun v H2 y => ?_⟩
    rw [List.drop_eq_getElem_cons hlt] at r
    obtain ⟨F2, g2, hv⟩ := w3 i xs[i] v H2 (List.getElem?_eq_getElem hlt) y
    have o2 : Ok G Γ σ F2 H2 := o'.move g2 (fun _ h => by simp at h)
    have g2' : Go (owns Γ) F' H' F2 H2 := g2.mono (fun _ h => by simp at h)
    refine hg xs[i] G _ _ F2 H2 _ v (o2.wipe vs) hv fun σ3 o3 hw => ⟨by rw [hw]; exact wipe_wipe σ vs, ?_⟩
    have sub : ∀ a ∈ owns (tg xs[i] (wipeC Γ vs)), a ∈ owns Γ := fun a h => owns_wipe ((hgo _).sub _ _ h)
    refine ht xs[i] G σ3 F2 H2 _ o3 ((mc xs[i]).mono (fun b hb F3 H3 o4 g3 => ?_) (fun _ z => z) r)
    have g2D : H2 D = some (.lst us) := g2.hs _ _ (by simp) hH'
    have f2D : F2 D = none := g2.fr _ _ hH' hF'
    have back : ∀ {F5 H5 : Hp}, Go (owns (tg xs[i] (wipeC Γ vs))) F2 H2 F5 H5 → Ok G (tg xs[i] (wipeC Γ vs)) σ3 F5 H5 → Ok G Γ σ F5 H5 ∧ Go (owns Γ) F H F5 H5 ∧ Same F1 F5 ∧ F5 D = none ∧ H5 D = some (.lst us) ∧ Same F' F5 := fun {F5 H5} g5 o5 => by
      have s5 : Same F' F5 := g2.fs.trans g5.fs
      refine ⟨o'.back (hgo _) hun s5 o5, (g'.trans g2' owns_tr).trans g5 (fun a h => .inl (sub a h)), s1.trans s5, g5.fr _ _ g2D f2D, g5.hs _ _ (fun h => hDo (sub _ h)) g2D, s5⟩
    cases b with
    | false =>
      obtain ⟨b1, b2, b3, b4, b5, b6⟩ := back g3 o4
      exact iteF ⟨hlt, F3, ys, us, b1, b2, b3, b4, b5, hps.mono b6, by omega, hb⟩
    | true =>
      refine iteT ?_
      have hb : (mi1 xs[i] >>= fun ws => Mo.rq (ws.length ≤ 4096) () >>= fun _ => Mo.comp (mc1 xs[i]) (mf xs[i]) ws).run (fun ys' => (Mo.comp2 mc f (xs.drop (i + 1))).run (fun zs => NQ G Γ σ F H (.ow (oL ρ)) Q (ys ++ (ys' ++ zs))) (fun _ => False)) (fun _ => False) := hb
      generalize hΓ1 : tg xs[i] (wipeC Γ vs) = Γ1 at *
      have hi1' := hi1 xs[i]
      have ht1' := ht1 xs[i]
      have he' := he xs[i]
      have hun1' := hun1 xs[i]
      rw [hΓ1] at hi1' hun1'
      simp only [hΓ1] at ht1' he'
      refine hi1' G σ3 F3 H3 _ o4 ((mi1 xs[i]).mono (fun ws hws J1 F4 H4 o5 g4 src1 => ?_) (fun _ z => z.elim) hb)
      obtain ⟨hwz, hws⟩ := hws
      let S1 : Nat → Hp → Prop := fun j H' => ∃ F' ys us, Ok G Γ1 σ3 F' H' ∧ Ok G Γ σ F' H' ∧ Go (owns Γ) F H F' H' ∧ Same F1 F' ∧ Same F4 F' ∧ F' D = none ∧ H' D = some (.lst us) ∧ Ps F' (ys.map ρ) us ∧ ys.length ≤ i * 4096 + j ∧ (Mo.comp (mc1 xs[i]) (mf xs[i]) (ws.drop j)).run (fun ys' => (Mo.comp2 mc f (xs.drop (i + 1))).run (fun zs => NQ G Γ σ F H (.ow (oL ρ)) Q (ys ++ (ys' ++ zs))) (fun _ => False)) (fun _ => False)
      obtain ⟨b1, b2, b3, b4, b5, b6⟩ := back (g3.trans g4 owns_tr) o5
      refine ⟨fun j k H' => k = ws.length - j ∧ j ≤ ws.length ∧ S1 j H', ⟨_, rfl, Nat.zero_le _, F4, ys, us, o5, b1, b2, b3, Same.refl _, b4, b5, hps.mono b6, by omega, hws⟩, ?_⟩
      rintro j k H6 ⟨rfl, hjk, F6, ys6, us6, p1, p2, p3, p4, p5, p6, p7, p8, p9, r6⟩
      obtain ⟨x1, x2, x3⟩ := src1 F6 H6 p5 p1.le
      by_cases hjt : j < ws.length
      · refine .inr ⟨x1 j hjt, fun H'' => j + 1 ≤ ws.length ∧ S1 (j + 1) H'', fun H'' h => ⟨_, by omega, rfl, h.1, h.2⟩, fun v7 H7 y7 => ?_⟩
        rw [List.drop_eq_getElem_cons hjt] at r6
        obtain ⟨F7, g7, hv7⟩ := x3 j ws[j] v7 H7 (List.getElem?_eq_getElem hjt) y7
        have o7 : Ok G Γ1 σ3 F7 H7 := p1.move g7 (fun _ h => by simp at h)
        have g7' : Go (owns Γ) F6 H6 F7 H7 := g7.mono (fun _ h => by simp at h)
        refine hg1 ws[j] G _ _ F7 H7 _ v7 (o7.wipe vs1) hv7 fun σ8 o8 hw8 => ⟨by rw [hw8]; exact wipe_wipe σ3 vs1, ?_⟩
        have sub8 : ∀ a ∈ owns (tg1 ws[j] (wipeC Γ1 vs1)), a ∈ owns Γ1 := fun a h => owns_wipe ((hgo1 _).sub _ _ h)
        refine ht1' ws[j] G σ8 F7 H7 _ o8 ((mc1 xs[i] ws[j]).mono (fun b9 hb9 F9 H9 o9 g9 => ?_) (fun _ z => z) r6)
        have g7D : H7 D = some (.lst us6) := g7.hs _ _ (by simp) p7
        have f7D : F7 D = none := g7.fr _ _ p7 p6
        have back2 : ∀ {F5 H5 : Hp}, Go (owns (tg1 ws[j] (wipeC Γ1 vs1))) F7 H7 F5 H5 → Ok G (tg1 ws[j] (wipeC Γ1 vs1)) σ8 F5 H5 → Ok G Γ1 σ3 F5 H5 ∧ Ok G Γ σ F5 H5 ∧ Go (owns Γ) F H F5 H5 ∧ Same F1 F5 ∧ Same F4 F5 ∧ F5 D = none ∧ H5 D = some (.lst us6) ∧ Same F6 F5 := fun {F5 H5} g5 o5' => by
          have s5 : Same F6 F5 := g7.fs.trans g5.fs
          have q1 := p1.back (hgo1 _) hun1' s5 o5'
          have q2 : Ok G Γ σ F5 H5 := p2.back (f := tg xs[i]) (vs := vs) (hgo _) hun s5 (by rw [hΓ1]; exact q1)
          refine ⟨q1, q2, (p3.trans g7' owns_tr).trans g5 (fun a h => .inl (sub a (sub8 a h))), p4.trans s5, p5.trans s5, g5.fr _ _ g7D f7D, g5.hs _ _ (fun h => hDo (sub _ (sub8 _ h))) g7D, s5⟩
        cases b9 with
        | false =>
          obtain ⟨c1, c2, c3, c4, c5, c6, c7, c8⟩ := back2 g9 o9
          exact iteF ⟨hjt, F9, ys6, us6, c1, c2, c3, c4, c5, c6, c7, p8.mono c8, by omega, hb9⟩
        | true =>
          refine iteT fun s H0 C cl fp => ?_
          have hb9 : (mf xs[i] ws[j] >>= fun y => Mo.comp (mc1 xs[i]) (mf xs[i]) (ws.drop (j + 1)) >>= fun ys => pure (y :: ys)).run (fun ys' => (Mo.comp2 mc f (xs.drop (i + 1))).run (fun zs => NQ G Γ σ F H (.ow (oL ρ)) Q (ys6 ++ (ys' ++ zs))) (fun _ => False)) (fun _ => False) := hb9
          refine he' ws[j] s H0 C cl fp G σ8 F9 H9 _ o9 ((mf xs[i] ws[j]).mono (fun y hy w F10 H10 o10 g10 z10 => ?_) (fun _ z => z.elim) hb9)
          obtain ⟨c1, c2, c3, c4, c5, c6, c7, c8⟩ := back2 (g9.trans g10 owns_tr) o10
          have hul : us6.length < 2 ^ 24 := by rw [p8.len, List.length_map]; omega
          have gp : Go [D] F10 H10 F10 (upd H10 D (.lst (us6 ++ [w]))) := Go.put c2.le c6 c7
          have hm : ∀ {Γ' : Ctx}, D ∉ owns Γ' → ∀ x ∈ [D], H10 x = none ∨ (x ∈ G.M ∨ G.H0 x = none) ∧ x ∉ owns Γ' := fun {Γ'} h x hx => by
            rw [List.mem_singleton.mp hx]
            exact .inr ⟨.inr hG0, h⟩
          refine ⟨us6, c7, hul, hjt, F10, ys6 ++ [y], us6 ++ [w], c1.move gp (hm fun h => hDo (sub _ h)), c2.move gp (hm hDo), c3.trans gp (fun a h => ?_), c4, c5, c6, upd_same, ?_, by simp; omega, ?_⟩
          · rw [List.mem_singleton.mp h]
            exact .inr hD0
          · rw [List.map_append]
            exact (p8.mono c8).app ⟨z10, trivial⟩
          · refine Mo.mono _ (fun ys' h => ?_) (fun _ z => z) hy
            have h : (Mo.comp2 mc f (xs.drop (i + 1))).run (fun zs => NQ G Γ σ F H (.ow (oL ρ)) Q (ys6 ++ ((y :: ys') ++ zs))) (fun _ => False) := h
            refine Mo.mono _ (fun zs h => ?_) (fun _ z => z) h
            rw [List.append_assoc]
            exact h
      · have e : j = ws.length := by omega
        subst e
        refine .inl ⟨x2, hlt, F6, ys6, us6, p2, p3, p4, p6, p7, p8, by omega, ?_⟩
        rw [List.drop_length] at r6
        exact r6
  · have e : i = xs.length := by omega
    subst e
    refine .inl ⟨w2, ?_⟩
    rw [List.drop_length] at r
    have r : NQ G Γ σ F H (.ow (oL ρ)) Q (ys ++ []) := r
    rw [List.append_nil] at r
    exact r _ F' H' o' g' ⟨D, _, rfl, hD0, hF', hH', us, rfl, hps⟩
end
end RF
namespace RF
open PySem PySem.Spec PyProof.Rows L2 KO SX
theorem kitAny_f {K : PySem.W.Frag} {t c : Value} {cs : List Value} {r : Bool} (h : PySem.W.kitOne K t c = some false) (k : PySem.W.kitAny K t cs = some r) : PySem.W.kitAny K t (c :: cs) = some r := by
  unfold PySem.W.kitAny
  simp [h, k]
theorem kitAny_t {K : PySem.W.Frag} {t c : Value} {cs : List Value} (h : PySem.W.kitOne K t c = some true) : PySem.W.kitAny K t (c :: cs) = some true := by
  unfold PySem.W.kitAny
  simp [h]
theorem pl0 : ([] : List (Str × Pr)).length ≤ 0 := Nat.le_refl _
theorem pl1 {f : Str} {p : Pr} {n : Nat} : ∀ {fs : List (Str × Pr)}, fs.length ≤ n → (putP f p fs).length ≤ n + 1
  | [], _ => by simp [putP]
  | (g, q) :: fs, h => by
    unfold putP
    split
    · simp at h ⊢; omega
    · simp at h ⊢
      have := pl1 (f := f) (p := p) (n := n - 1) (fs := fs) (by omega)
      omega
theorem plt {n : Nat} {fs : List (Str × Pr)} (h : fs.length ≤ n) (k : n < 1000 := by decide) : fs.length < 1000 := by omega
theorem u1 {n : Nat} (h : n + 64 < cLine) : n + 1 < cLine := by omega
theorem kitAny_n {K : PySem.W.Frag} {t : Value} : PySem.W.kitAny K t [] = some false := rfl
section
variable {α β γ δ : Type} {X : Cx} {W : WX} {Γe Γx Γ Γ' : Ctx} {lv : Bool} {e : Expr} {st bst : Stmt} {rest body suite : List Stmt} {Z : γ → Fin} {pos : Pos}
/-- try with a body of one row: what was known before is known in the suite -/
theorem rb_try1S {i : Nat} {cn : Str} {Cc : Addr} {fls : List Str} {me : Mo α} {jb : α → δ} {mh : Ex → Mo δ} {mr : δ → Mo γ} {tgt : α → Ctx → Ctx} (Γj Γs : δ → Ctx) (hs : PS X st (fun D σ H => tTb X [bst] (wAs X.K (.ref Cc) i (tTs X suite) W D) D σ H)) (hcn : X.mg cn = some (.ref Cc)) (hsub : PySem.W.exmOne X.K (.ref Cc) (.ref Cc) = some true)
    (hfls : ∀ n ∈ fls, ∀ C', X.mg n = some (.ref C') → PySem.W.exmOne X.K (.ref C') (.ref Cc) = some false)
    (hb : ∀ pn xe W', Takes (X.tr pn xe) W' → PassesOwn (model X.prog X.w) X.A X.env xe → ∀ G σ F H D, Ok G Γ σ F H → me.run (fun x => ∀ σ' F' H', Same F F' → Ok G (tgt x Γ) σ' F' H' → D.nx σ' H') (EQ X W' G Γ σ F H) → tSs (X.tr pn xe) [bst] D σ H)
    (hjb : ∀ x, Le (Γj (jb x)) (tgt x Γ))
    (hh : ∀ a oe d pn ex, ex.cls = cn → Zc (.ref Cc) d oe → (∃ vs, oe.data = .fields vs) → RB (X.suite a ((a, oe) :: pn)) W0 (List.replicate Γ.length .un) false (Γ.set i (.fz (exP a d ex))) suite (mh ex) (fun j => .nx (Γs j)))
    (hex : Le Γe Γ) (hjs : ∀ j, Le (Γj j) ((Γs j).set i .un)) (hj : ∀ j, Le Γe (Γj j)) (hu : Le (List.replicate Γ.length .un) (Γ.set i .un)) (hr : ∀ j, RB X W Γe lv (Γj j) rest (mr j) Z) :
    RB X W Γe lv Γ (st :: rest) (Mo.catch1 (me >>= fun x => pure (jb x)) cn fls mh >>= mr) Z := fun le G σ F H D nx' hn o q =>
  tSs_cons hs fun pn xe tk po => by
    have key : ∀ j, (mr j).run (fun x => FinOk G Γe D F (Z x)) (XQ X W G Γe F) → ∀ σ2 F2 H2, Same G.F0 F2 → Ok G (Γj j) σ2 F2 H2 → tSs X rest { D with nx := nx' } σ2 H2 := fun j hj' σ2 F2 H2 s2 o2 => hr j (hj j) G σ2 F2 H2 D nx' hn o2 (run_any hj')
    refine hb pn xe _ tk po G σ F H { D with nx := tSs X rest { D with nx := nx' } } o (me.mono (fun x hx σ2 F2 H2 s2 o2 => key (jb x) hx σ2 F2 H2 o2.go.fs (o2.weak (hjb x))) (fun ex hx' cls d F2 H2 o2 g2 z => ?_) q)
    obtain ⟨C, hC, rfl, hd⟩ := id z
    by_cases c : ex.cls = cn
    · rw [if_pos c] at hx'
      rw [c, hcn] at hC
      cases hC
      refine ⟨true, hsub, fun _ a ha => ?_, fun h => by cases h⟩
      intro oe pn' hz hf
      refine hh a oe d pn' ex c hz hf ?_ G _ F2 H2 { nx := _, rt := D.rt, bk := _, ct := _ } _ (fun _ => rfl) (o2.toSuite (a := a) z) ((mh ex).mono (fun j hj' σ3 F3 H3 s3 o3 => ?_) (fun _ z => z.elim) hx')
      · exact le_un hu
      · have o4 := o3.forget i (v := none)
        exact key j hj' _ F3 H3 s3 (o4.weak (hjs j))
    · rw [if_neg c] at hx'
      refine ⟨false, hfls _ hx'.1 C hC, fun h => (by cases h), fun _ => ?_⟩
      exact hx'.2 _ d σ F2 H2 o2.go.fs (o2.weak hex) z
theorem body_set {i : Nat} {me : Mo α} {ρ : α → Pr} {t : TE} (hs : PS X bst (tAsg t (gName i))) (he : RTE X W Γ t me (.fz ρ)) : ∀ G σ F H D, Ok G Γ σ F H → me.run (fun x => ∀ σ' F' H', Same F F' → Ok G (Γ.set i (.fz (ρ x))) σ' F' H' → D.nx σ' H') (EQ X W G Γ σ F H) → tSs X [bst] D σ H := fun G σ F H D o q => by
  refine fun pins s I => (pss_one hs).run pins s σ H D I (he G σ F H _ o (me.mono (fun x hx v F' H' o' g' z => hx _ F' H' g'.fs (o'.set z)) (fun _ z => z) q))
theorem body_expr {me : Mo α} {ρ : α → Pr} {t : TE} (hs : PS X bst (tDrop t)) (he : RTE X W Γ t me (.fz ρ)) : ∀ G σ F H D, Ok G Γ σ F H → me.run (fun x => ∀ σ' F' H', Same F F' → Ok G Γ σ' F' H' → D.nx σ' H') (EQ X W G Γ σ F H) → tSs X [bst] D σ H := fun G σ F H D o q => by
  refine fun pins s I => (pss_one hs).run pins s σ H D I (he G σ F H _ o (me.mono (fun x hx v F' H' o' g' z => hx _ F' H' g'.fs o') (fun _ z => z) q))
/-- a body that runs on; a handler that leaves -/
def Mo.tryO (mb : Mo δ) (cn : Str) (fls : List Str) (mh : Mo γ) (mr : δ → Mo γ) : Mo γ := ⟨fun Q E => mb.run (fun j => (mr j).run Q E) fun ex => if ex.cls = cn then mh.run Q (fun _ => False) else (ex.cls ∈ fls ∧ E ex), fun {Q Q' E E'} hq he r => mb.mono (fun j => (mr j).mono hq he) (fun ex hx => by
  by_cases c : ex.cls = cn
  · rw [if_pos c] at hx ⊢
    exact mh.mono hq (fun _ z => z) hx
  · rw [if_neg c] at hx ⊢
    exact ⟨hx.1, he _ hx.2⟩) r⟩
@[simp] theorem Mo.run_tryO {mb : Mo δ} {cn : Str} {fls : List Str} {mh : Mo γ} {mr : δ → Mo γ} {Q : γ → Prop} {E : Ex → Prop} : (Mo.tryO mb cn fls mh mr).run Q E = mb.run (fun j => (mr j).run Q E) (fun ex => if ex.cls = cn then mh.run Q (fun _ => False) else (ex.cls ∈ fls ∧ E ex)) := rfl
theorem rb_tryO' {cn : Str} {Cc : Addr} {fls : List Str} {mb : Mo δ} {mh : Mo γ} {mr : δ → Mo γ} (Γj : δ → Ctx) (hs : PS X st (fun D σ H => tTb X body (wOnly X.K (.ref Cc) (tTs X suite) W D) D σ H)) (hcn : X.mg cn = some (.ref Cc)) (hsub : PySem.W.exmOne X.K (.ref Cc) (.ref Cc) = some true)
    (hfls : ∀ n ∈ fls, ∀ C', X.mg n = some (.ref C') → PySem.W.exmOne X.K (.ref C') (.ref Cc) = some false)
    (hb : ∀ pn xe W', Takes (X.tr pn xe) W' → PassesOwn (model X.prog X.w) X.A X.env xe → RB (X.tr pn xe) W' Γx false Γ body mb (fun j => .nx (Γj j)))
    (hh : ∀ a oe d pn, Zc (.ref Cc) d oe → (∃ vs, oe.data = .fields vs) → RB (X.suite a ((a, oe) :: pn)) W0 Γe true Γx suite mh Z)
    (hx : Le Γx Γ) (hex : Le Γe Γx) (hj : ∀ j, Le Γe (Γj j)) (hr : ∀ j, RB X W Γe lv (Γj j) rest (mr j) Z) :
    RB X W Γe lv Γ (st :: rest) (Mo.tryO mb cn fls mh mr) Z := rb_tryO Γj hs hcn hsub hfls hb hh hx hex hj hr
/-- tuple of a tuple is that tuple -/
theorem re_tupT {m : Mo α} {ρ : α → Pr} {p : Pos} (ps : α → List Pr) (h : RE X W Γ e m (.fz ρ)) (hm : X.mg "tuple" = none) (hρ : ∀ x, ρ x = rTu (ps x) := by intro _; rfl) (hg : Gl X "tuple" := by rfl) (he : starEach [e] X.env = [(false, eval e X.env)] := by rfl) : RE X W Γ (.Call (.Name "tuple" p) [e] [] pos) m (.fz ρ) :=
  re_of (pe_callTy call_tuple_of hg hm (by decide +kernel) (pa_cons peE pa_nil he) (by decide) (by decide) he rfl) fun G σ F H Q o q => by
    refine h G σ F H _ o (m.mono (fun x hx v F' H' o' g' z => ?_) (fun _ z => z) q)
    have z' : (ρ x).r v F' := z
    have z2 := z'
    rw [hρ x] at z2
    obtain ⟨a, vs, rfl, h1, h2⟩ := z2
    exact ⟨a, vs, rfl, .inr ⟨SqT.ofR (Rd.mono h1 o'.le), hx _ F' H' o' g' z'⟩⟩
/-! own things whose place is told by no branch -/
theorem rb_nilA {x : γ} {Γa : (Nat → Addr) → Ctx} (f : Nat → Addr) (hz : Z x = .nxa Γa) (hl : Le (Γa f) Γ) : RB X W Γe false Γ [] (pure x) Z := fun le G σ F H D nx' hn o q => by
  obtain rfl := hn rfl
  refine fun pins s I => pss_nil.run pins s σ H _ I ?_
  have q : FinOk G Γe D F (Z x) := q
  rw [hz] at q
  exact q f σ F H o.go.fs (o.weak hl)
theorem rb_ifJA {c : Expr} {a b : List Stmt} {mc : Mo Bool} {ma mb : Mo δ} {mr : δ → Mo γ} (Γj : δ → (Nat → Addr) → Ctx) (hc : RT X W Γ c mc) (ha : RB X W Γe false Γ a ma (fun j => .nxa (Γj j))) (hb : RB X W Γe false Γ b mb (fun j => .nxa (Γj j))) (hl : ∀ j f, Le Γe (Γj j f)) (hr : ∀ j f, RB X W Γe lv (Γj j f) rest (mr j) Z) :
    RB X W Γe lv Γ (.If c a b pos :: rest) (mc >>= fun k => (if k = true then ma else mb) >>= mr) Z := fun le G σ F H D nx' hn o q =>
  tSs_cons (ps_if ptT pssS pssS) (hc G σ F H _ o (mc.mono (fun k hx F' H' o' g' => by
    have key : ∀ j, (mr j).run (fun x => FinOk G Γe D F (Z x)) (XQ X W G Γe F) → FinOk G Γe { D with nx := tSs X rest { D with nx := nx' } } F' (.nxa (Γj j)) := fun j hj f σ2 F2 H2 s2 o2 => hr j f (hl j f) G σ2 F2 H2 D nx' hn o2 (run_any hj)
    cases k with
    | true => exact iteT (ha le G σ F' H' { D with nx := tSs X rest { D with nx := nx' } } _ (fun _ => rfl) o' (ma.mono key (fun _ => XQ.step g'.fs) (by simpa using hx)))
    | false => exact iteF (hb le G σ F' H' { D with nx := tSs X rest { D with nx := nx' } } _ (fun _ => rfl) o' (mb.mono key (fun _ => XQ.step g'.fs) (by simpa using hx)))) (fun _ => XQ.eq le) q))
theorem rb_ifLA {c : Expr} {a b : List Stmt} {mc : Mo Bool} {ma : Mo γ} {mb : Mo δ} {mr : δ → Mo γ} (Γj : δ → (Nat → Addr) → Ctx) (hc : RT X W Γ c mc) (ha : RB X W Γe true Γ a ma Z) (hb : RB X W Γe false Γ b mb (fun j => .nxa (Γj j))) (hl : ∀ j f, Le Γe (Γj j f)) (hr : ∀ j f, RB X W Γe lv (Γj j f) rest (mr j) Z) :
    RB X W Γe lv Γ (.If c a b pos :: rest) (mc >>= fun k => if k = true then ma else mb >>= mr) Z := fun le G σ F H D nx' hn o q =>
  tSs_cons (ps_if ptT pssS pssS) (hc G σ F H _ o (mc.mono (fun k hx F' H' o' g' => by
    have key : ∀ j, (mr j).run (fun x => FinOk G Γe D F (Z x)) (XQ X W G Γe F) → FinOk G Γe { D with nx := tSs X rest { D with nx := nx' } } F' (.nxa (Γj j)) := fun j hj f σ2 F2 H2 s2 o2 => hr j f (hl j f) G σ2 F2 H2 D nx' hn o2 (run_any hj)
    cases k with
    | true => exact iteT (ha le G σ F' H' D _ (fun z => by cases z) o' (run_fin g'.fs (by simpa using hx)))
    | false => exact iteF (hb le G σ F' H' { D with nx := tSs X rest { D with nx := nx' } } _ (fun _ => rfl) o' (mb.mono key (fun _ => XQ.step g'.fs) (by simpa using hx)))) (fun _ => XQ.eq le) q))
/-! a, b = e, e' -/
theorem rb_parF {i j : Nat} {a b : Expr} {ρa : α → Pr} {ρb : β → Pr} {ma : Mo α} {mb : Mo β} {mr : α → β → Mo γ} (hs : PS X st (tPar i j (tCons (tE X a) (tCons (tE X b) tNil)))) (ha : RE X W Γ a ma (.fz ρa)) (hb : RE X W Γ b mb (.fz ρb)) (hi : Γe[i]? = some .un) (hj : Γe[j]? = some .un)
    (hr : ∀ x y, RB X W Γe lv ((Γ.set i (.fz (ρa x))).set j (.fz (ρb y))) rest (mr x y) Z) : RB X W Γe lv Γ (st :: rest) (ma >>= fun x => mb >>= fun y => mr x y) Z := fun le G σ F H D nx' hn o q =>
  tSs_cons hs (by
    refine ha G σ F H _ o (ma.mono (fun x hx v F1 H1 o1 g1 z1 => ?_) (fun _ => XQ.eq le) q)
    refine hb G σ F1 H1 _ o1 (mb.mono (fun y hy w F2 H2 o2 g2 z2 => ?_) (fun _ z => XQ.eq le (XQ.step g1.fs z)) hx)
    exact ⟨v, w, rfl, hr x y ((le.set hi).set hj) G _ F2 H2 D nx' hn ((o2.set ((ρa x).mono g2.fs z1)).set z2) (run_fin (g1.fs.trans g2.fs) hy)⟩)
theorem rb_parO {i j : Nat} {a b : Expr} {ρa : α → Po} {ρb : β → Po} {ma : Mo α} {mb : Mo β} {mr : α → β → Mo γ} (hs : PS X st (tPar i j (tCons (tE X a) (tCons (tE X b) tNil)))) (ha : RE X W Γ a ma (.ow ρa)) (hb : RE X W Γ b mb (.ow ρb)) (hi : Γe[i]? = some .un) (hj : Γe[j]? = some .un)
    (hr : ∀ x y d d', RB X W Γe lv ((Γ.set i (.ow true d (ρa x))).set j (.ow true d' (ρb y))) rest (mr x y) Z) : RB X W Γe lv Γ (st :: rest) (ma >>= fun x => mb >>= fun y => mr x y) Z := fun le G σ F H D nx' hn o q =>
  tSs_cons hs (by
    refine ha G σ F H _ o (ma.mono (fun x hx v F1 H1 o1 g1 z1 => ?_) (fun _ => XQ.eq le) q)
    obtain ⟨d, u, rfl, h1, h2, h3, h4⟩ := z1
    refine hb G σ F1 H1 _ o1 (mb.mono (fun y hy w F2 H2 o2 g2 z2 => ?_) (fun _ z => XQ.eq le (XQ.step g1.fs z)) hx)
    obtain ⟨d', u', rfl, k1, k2, k3, k4⟩ := z2
    have hdo : d ∉ owns Γ := fun h => by
      obtain ⟨w, hw⟩ := o.ownH h
      rw [h1] at hw; cases hw
    have hdo' : d' ∉ owns Γ := fun h => by
      obtain ⟨w, hw⟩ := o1.ownH h
      rw [k1] at hw; cases hw
    have H0n : ∀ {c : Addr} {F9 H9 : Hp}, Ok G Γ σ F9 H9 → H9 c = none → G.H0 c = none := fun {c F9 H9} o9 h => by
      cases e : G.H0 c with
      | none => rfl
      | some y => obtain ⟨y', e'⟩ := o9.go.th _ _ e; rw [h] at e'; cases e'
    have d2 : H2 d = some u := g2.hs _ _ hdo h3
    have f2 : F2 d = none := g2.fr _ _ h3 h2
    have hdd : d' ≠ d := by rintro rfl; rw [h3] at k1; cases k1
    have o4 := o2.setO (i := i) (q := ρa x) (H0n o h1) f2 hdo d2 ((ρa x).mono g2.fs h4)
    have hdo4 : d' ∉ owns (Γ.set i (.ow true d (ρa x))) := fun h => by
      obtain ⟨n, l, q, e⟩ := of_owns h
      by_cases hin : i = n
      · subst hin
        have hl : i < Γ.length := by
          have := (List.getElem?_eq_some_iff.mp e).1
          simpa using this
        rw [List.getElem?_set_self hl] at e
        cases e
        exact hdd rfl
      · rw [List.getElem?_set_ne hin] at e
        exact hdo' (mem_owns e)
    have o5 := o4.setO (i := j) (q := ρb y) (H0n o1 k1) k2 hdo4 k3 k4
    exact ⟨_, _, rfl, hr x y d d' ((le.set hi).set hj) G _ F2 H2 D nx' hn o5 (run_fin (g1.fs.trans g2.fs) hy)⟩)
/-- a datum that is a number -/
def asI : PyData → Option Int
  | .int i => some i
  | _ => none
theorem re_asI {m : Mo PyData} (h : RE X W Γ e m (.fz rD)) : RE X W Γ e (m >>= fun d => Mo.get (asI d)) (.fz rI) := fun G σ F H Q o q =>
  h G σ F H Q o (m.mono (fun x hx v F' H' o' g' z => by
    obtain ⟨i, hi, hx⟩ := hx
    have z : Dt 8 F' v x := z
    cases x with
    | int j =>
      obtain rfl := Option.some.inj hi
      exact hx v F' H' o' g' z
    | _ => cases hi) (fun _ z => z) q)
end
end RF
namespace RF
open PySem PySem.Spec PyProof.Rows L2 KO SX
/-! ### reasoning on programs over data -/
theorem Mo.ext' {α : Type} {m n : Mo α} (h : ∀ Q E, m.run Q E = n.run Q E) : m = n := by
  cases m; cases n
  congr
  funext Q E
  exact h Q E
instance : LawfulMonad Mo := LawfulMonad.mk' (m := Mo) (id_map := fun x => rfl) (pure_bind := fun x f => rfl) (bind_assoc := fun x f g => rfl)
section
variable {α β γ δ : Type}
@[simp] theorem Mo.get_some {x : α} : Mo.get (some x) = (pure x : Mo α) := Mo.ext' fun Q E => by simp
theorem Mo.rq_of {p : Prop} {x : α} (h : p) : Mo.rq p x = (pure x : Mo α) := Mo.ext' fun Q E => by simp [h]
@[simp] theorem Mo.throw_bind {e : Ex} {f : α → Mo β} : (Mo.throw e >>= f) = Mo.throw e := rfl
@[simp] theorem Mo.calm_pure {x : α} : Mo.calm (pure x) = (pure x : Mo α) := rfl
theorem Mo.run_take {m : Int} {Q : Int → Prop} {E : Ex → Prop} : (Mo.take m).run Q E = ((0 < m ∧ m < 1152921504606846976) ∧ ∀ r, 0 ≤ r ∧ r < m → Q r) := rfl
/-- a list comprehension whose element is a plain function -/
theorem Mo.comp_pure {c : β → Mo Bool} {f : β → Mo γ} {p : β → Bool} {g : β → γ} : ∀ {xs : List β}, (∀ x ∈ xs, c x = pure (p x)) → (∀ x ∈ xs, p x = true → f x = pure (g x)) → Mo.comp c f xs = pure ((xs.filter p).map g)
  | [], _, _ => rfl
  | x :: xs, hc, hf => by
    have ih := Mo.comp_pure (xs := xs) (fun y hy => hc y (List.mem_cons_of_mem _ hy)) (fun y hy => hf y (List.mem_cons_of_mem _ hy))
    unfold Mo.comp
    rw [hc x List.mem_cons_self]
    simp only [pure_bind]
    cases h : p x with
    | true => rw [if_pos rfl, hf x List.mem_cons_self h, ih]; simp [h]
    | false => rw [if_neg (by simp), ih]; simp [h]
theorem Mo.lc_pure {c : β → Mo Bool} {f : β → Mo γ} {p : β → Bool} {g : β → γ} {xs : List β} (hl : xs.length ≤ sizeLine) (hc : ∀ x ∈ xs, c x = pure (p x)) (hf : ∀ x ∈ xs, p x = true → f x = pure (g x)) : Mo.lc c f xs = pure ((xs.filter p).map g) := by
  unfold Mo.lc
  rw [Mo.rq_of hl, Mo.comp_pure hc hf]
  rfl
/-- a comprehension by what each element may be -/
theorem Mo.comp_all {c : β → Mo Bool} {f : β → Mo γ} {R : γ → Prop} {E : Ex → Prop} : ∀ {xs : List β} {Q : List γ → Prop}, (∀ x ∈ xs, ∀ Q' : Bool → Prop, (∀ b, Q' b) → (c x).run Q' E) → (∀ x ∈ xs, (f x).run R E) → (∀ ys, ys.length ≤ xs.length → (∀ y ∈ ys, R y) → Q ys) → (Mo.comp c f xs).run Q E
  | [], Q, _, _, q => q [] (Nat.le_refl _) (by simp)
  | x :: xs, Q, hc, hf, q => by
    unfold Mo.comp
    refine hc x List.mem_cons_self _ fun b => ?_
    cases b with
    | true =>
      refine (f x).mono (fun y hy => ?_) (fun _ z => z) (hf x List.mem_cons_self)
      refine Mo.comp_all (fun z hz => hc z (List.mem_cons_of_mem _ hz)) (fun z hz => hf z (List.mem_cons_of_mem _ hz)) fun ys h1 h2 => q (y :: ys) (by simpa using h1) fun z hz => ?_
      rcases List.mem_cons.mp hz with e | e
      · rw [e]; exact hy
      · exact h2 z e
    | false => exact Mo.comp_all (fun z hz => hc z (List.mem_cons_of_mem _ hz)) (fun z hz => hf z (List.mem_cons_of_mem _ hz)) fun ys h1 h2 => q ys (by simp; omega) h2
/-- a comprehension without a condition by what each element may be -/
theorem Mo.comp_each {f : β → Mo γ} {R : β → γ → Prop} {E : Ex → Prop} : ∀ {xs : List β} {Q : List γ → Prop}, (∀ x ∈ xs, (f x).run (R x) E) → (∀ ys, ys.length = xs.length → (∀ (i : Nat) (x : β) (y : γ), xs[i]? = some x → ys[i]? = some y → R x y) → Q ys) → (Mo.comp (fun _ => pure true) f xs).run Q E
  | [], Q, _, q => q [] rfl (by simp)
  | x :: xs, Q, hf, q => by
    unfold Mo.comp
    refine (f x).mono (fun y hy => ?_) (fun _ z => z) (hf x List.mem_cons_self)
    refine Mo.comp_each (fun z hz => hf z (List.mem_cons_of_mem _ hz)) fun ys h1 h2 => q (y :: ys) (by simp [h1]) fun i a b ha hb => ?_
    cases i with
    | zero => simp at ha hb; subst ha hb; exact hy
    | succ i => exact h2 i a b (by simpa using ha) (by simpa using hb)
/-- a fold by an invariant -/
theorem Mo.fold_inv {σ : Type} {f : σ → β → Mo σ} {E : Ex → Prop} (I : Nat → σ → Prop) {Q : σ → Prop} : ∀ {xs : List β} {k : Nat} {s : σ}, I k s → (∀ (i : Nat) (x : β) s, xs[i]? = some x → I (k + i) s → (f s x).run (I (k + i + 1)) E) → (∀ s, I (k + xs.length) s → Q s) → (Mo.fold f xs s).run Q E
  | [], k, s, h, _, q => q s (by simpa using h)
  | x :: xs, k, s, h, hf, q => by
    show ((f s x) >>= fun s' => Mo.fold f xs s').run Q E
    refine (f s x).mono (fun s' hs => ?_) (fun _ z => z) (hf 0 x s rfl h)
    refine Mo.fold_inv I (k := k + 1) hs (fun i y t hy ht => ?_) fun t ht => q t ?_
    · have := hf (i + 1) y t (by simpa using hy) (by rw [show k + (i + 1) = k + 1 + i by omega]; exact ht)
      rw [show k + 1 + i + 1 = k + (i + 1) + 1 by omega]
      exact this
    · rw [show k + (x :: xs).length = k + 1 + xs.length by simp; omega]; exact ht
def Lp.is {S : Type} (I B : S → Prop) (R : δ → Prop) : Lp S δ → Prop
  | .go s => I s
  | .brk s => B s
  | .ret a => R a
/-- a loop by an invariant -/
theorem Mo.loop_inv {σ : Type} {f : σ → β → Mo (Lp σ δ)} {E : Ex → Prop} (I : Nat → σ → Prop) {Q : Lp σ δ → Prop} : ∀ {xs : List β} {k : Nat} {s : σ}, I k s → (∀ (i : Nat) (x : β) s, xs[i]? = some x → I (k + i) s → (f s x).run (Lp.is (I (k + i + 1)) (fun s => Q (.brk s)) (fun a => Q (.ret a))) E) → (∀ s, I (k + xs.length) s → Q (.go s)) → (Mo.loop f xs s).run Q E
  | [], k, s, h, _, q => q s (by simpa using h)
  | x :: xs, k, s, h, hf, q => by
    unfold Mo.loop
    refine (f s x).mono (fun l hl => ?_) (fun _ z => z) (hf 0 x s rfl h)
    cases l with
    | brk s' => exact hl
    | ret a => exact hl
    | go s' =>
      refine Mo.loop_inv I (k := k + 1) hl (fun i y t hy ht => ?_) fun t ht => q t ?_
      · have := hf (i + 1) y t (by simpa using hy) (by rw [show k + (i + 1) = k + 1 + i by omega]; exact ht)
        rw [show k + 1 + i + 1 = k + (i + 1) + 1 by omega]
        exact this
      · rw [show k + (x :: xs).length = k + 1 + xs.length by simp; omega]; exact ht
/-- a while by an invariant and a measure -/
theorem Mo.while_inv {σ : Type} {c : σ → Mo Bool} {f : σ → Mo (Lp σ δ)} {E : Ex → Prop} (I : σ → Prop) (μ : σ → Nat) {Q : Lp σ δ → Prop} (h : ∀ s, I s → (c s).run (fun b => if b = true then (f s).run (Lp.is (fun s' => I s' ∧ μ s' < μ s) (fun s => Q (.brk s)) (fun a => Q (.ret a))) E else Q (.go s)) E) {s : σ} (h0 : I s) : (Mo.while c f s).run Q E := by
  refine ⟨μ s + 1, ?_⟩
  have key : ∀ (n : Nat) (s : σ), I s → μ s < n → whN c f n s Q E := fun n => by
    induction n with
    | zero => intro s _ h; omega
    | succ n ih =>
      intro s hs hn
      refine (c s).mono (fun b hb => ?_) (fun _ z => z) (h s hs)
      split
      · rename_i hb'
        rw [if_pos hb'] at hb
        refine (f s).mono (fun l hl => ?_) (fun _ z => z) hb
        cases l with
        | brk s' => exact hl
        | ret a => exact hl
        | go s' => exact ih s' hl.1 (by have := hl.2; omega)
      · rename_i hb'
        rw [if_neg hb'] at hb
        exact hb
  exact key _ s h0 (Nat.lt_succ_self _)
end
end RF
namespace RF
open PySem PySem.Spec PyProof.Rows L2 KO SX
/-! ### a list or a tuple -/
section
variable {α β γ δ : Type} {X : Cx} {W : WX} {Γe Γ Γ' : Ctx} {lv : Bool} {e a b : Expr} {pos : Pos} {ρ : α → Pr}
def rQ (ρ : α → Pr) (xs : List α) : Pr := ⟨fun v F => ∃ a vs, v = .ref a ∧ (F a = some (.lst vs) ∨ Rd F a (.tup vs)) ∧ Ps F (xs.map ρ) vs, fun s ⟨a, vs, e, h, k⟩ => ⟨a, vs, e, h.imp (s _ _) (fun h => Rd.mono h s), k.mono s⟩⟩
theorem re_QL {m : Mo (List α)} (h : RE X W Γ e m (.fz (rL ρ))) : RE X W Γ e m (.fz (rQ ρ)) := re_as h fun _ _ _ ⟨a, vs, e, h, k⟩ => ⟨a, vs, e, .inl h, k⟩
theorem re_QT {m : Mo (List α)} (h : RE X W Γ e m (.fz (rTs ρ))) : RE X W Γ e m (.fz (rQ ρ)) := re_as h fun _ _ _ ⟨a, vs, e, h, k⟩ => ⟨a, vs, e, .inr h, k⟩
theorem seqQ {K : PySem.W.Frag} {F H : Hp} {a : Addr} {vs : List V} (s : Same F H) (h : F a = some (.lst vs) ∨ Rd F a (.tup vs)) : SqL K H a vs ∨ SqT K H a vs := h.imp (fun h => SqL.of (s _ _ h)) (fun h => SqT.ofR (Rd.mono h s))
theorem re_lenQ {m : Mo (List α)} {p : Pos} (h : RE X W Γ e m (.fz (rQ ρ))) (hm : X.mg "len" = none) (hg : Gl X "len" := by rfl) (he : starEach [e] X.env = [(false, eval e X.env)] := by rfl) : RE X W Γ (.Call (.Name "len" p) [e] [] pos) (m >>= fun xs => pure (xs.length : Int)) (.fz rI) :=
  re_of (pe_callB call_len_seq hg hm (by decide +kernel) (pa_cons peE pa_nil he) (by decide) (by decide) he rfl) fun G σ F H Q o q => by
    refine h G σ F H _ o (m.mono (fun xs hx v F' H' o' g' z => ?_) (fun _ z => z) q)
    obtain ⟨a, vs, rfl, h1, h2⟩ := z
    refine ⟨a, vs, rfl, seqQ o'.le h1, ?_⟩
    refine hx _ F' H' o' g' ?_
    show V.int _ = V.int _
    rw [h2.len, List.length_map]
theorem re_listQ {m : Mo (List α)} {p : Pos} (h : RE X W Γ e m (.fz (rQ ρ))) (hm : X.mg "list" = none) (hg : Gl X "list" := by rfl) (he : starEach [e] X.env = [(false, eval e X.env)] := by rfl) : RE X W Γ (.Call (.Name "list" p) [e] [] pos) (m >>= fun xs => pure xs) (.ow (oL ρ)) :=
  re_of (pe_callTy call_list_of hg hm (by decide +kernel) (pa_cons peE pa_nil he) (by decide) (by decide) he rfl) fun G σ F H Q o q => by
    refine h G σ F H _ o (m.mono (fun xs hx v F' H' o' g' z => ?_) (fun _ z => z) q)
    obtain ⟨a, vs, rfl, h1, h2⟩ := z
    exact ⟨a, vs, rfl, seqQ o'.le h1, fun l hl => NQ.own hx o' g' hl ⟨vs, rfl, h2⟩⟩
theorem re_ixQ {ma : Mo (List α)} {mb : Mo Int} (ha : RE X W Γ a ma (.fz (rQ ρ))) (hb : RE X W Γ b mb (.fz rI)) (hs : PlainIx b := by exact fun _ _ => rfl) : RE X W Γ (.Subscript a b pos) (ma >>= fun xs => mb >>= fun i => Mo.get (atI xs i)) (.fz ρ) := by
  refine re_ix ix_seq (fun xs i G σ F H Q x y o hx hy q => ?_) ha hb hs
  obtain ⟨a, vs, rfl, h1, h2⟩ := hx
  obtain rfl : y = .int i := hy
  obtain ⟨z, hz, q⟩ := q
  obtain ⟨v, hv, hr⟩ := h2.at (i := i) (p := ρ z) (by rw [atI_map, hz]; rfl)
  rcases h1 with h1 | h1
  · exact .inl ⟨a, vs, i, v, rfl, rfl, SqL.of (o.le _ _ h1), hv, NQ.here (ρ := ρ) q o hr⟩
  · exact .inr (.inl ⟨a, vs, i, v, rfl, rfl, SqT.ofR (Rd.mono h1 o.le), hv, NQ.here (ρ := ρ) q o hr⟩)
end
end RF
namespace RF
open PySem PySem.Spec PyProof.Rows L2 KO SX
/-! ### several handlers, each with a name -/
section
variable {α β γ δ : Type}
def Mo.disp : List (Str × (Ex → Mo α)) → Ex → (α → Prop) → (Ex → Prop) → Prop
  | [], ex, _, E => E ex
  | (cn, h) :: r, ex, Q, E => if ex.cls = cn then (h ex).run Q (fun _ => False) else Mo.disp r ex Q E
theorem Mo.disp_mono {Q Q' : α → Prop} {E E' : Ex → Prop} (hq : ∀ x, Q x → Q' x) (he : ∀ x, E x → E' x) : ∀ {hs : List (Str × (Ex → Mo α))} {ex : Ex}, Mo.disp hs ex Q E → Mo.disp hs ex Q' E'
  | [], ex, h => he _ h
  | (cn, h) :: r, ex, k => by
    unfold Mo.disp at k ⊢
    split
    · rename_i c
      rw [if_pos c] at k
      exact (h ex).mono hq (fun _ z => z) k
    · rename_i c
      rw [if_neg c] at k
      exact Mo.disp_mono hq he k
/-- an error of one of the classes ks is handled by the first handler of its class -/
def Mo.catchN (m : Mo α) (ks : List Str) (hs : List (Str × (Ex → Mo α))) : Mo α := ⟨fun Q E => m.run Q fun ex => ex.cls ∈ ks ∧ Mo.disp hs ex Q E, fun {Q Q' E E'} hq he r => m.mono hq (fun ex hx => ⟨hx.1, Mo.disp_mono hq he hx.2⟩) r⟩
@[simp] theorem Mo.run_catchN {m : Mo α} {ks : List Str} {hs : List (Str × (Ex → Mo α))} {Q : α → Prop} {E : Ex → Prop} : (Mo.catchN m ks hs).run Q E = m.run Q fun ex => ex.cls ∈ ks ∧ Mo.disp hs ex Q E := rfl
variable {X : Cx} {W : WX} {Γe Γ Γ' : Ctx} {lv : Bool} {e : Expr} {st bst : Stmt} {rest body : List Stmt} {Z : γ → Fin} {pos : Pos}
inductive RHs (X : Cx) (Γ : Ctx) (Γj : δ → Ctx) (ks : List Str) : List (Value × Nat × (Addr → Value → Option Addr → TS)) → List (Str × (Ex → Mo δ)) → Prop where
  | nil : RHs X Γ Γj ks [] []
  | cons {Cc : Addr} {i : Nat} {cn : Str} {suite : List Stmt} {mh : Ex → Mo δ} {l : List (Value × Nat × (Addr → Value → Option Addr → TS))} {hs : List (Str × (Ex → Mo δ))} (hcn : X.mg cn = some (.ref Cc)) (hsub : PySem.W.exmOne X.K (.ref Cc) (.ref Cc) = some true)
    (hfls : ∀ n ∈ ks, n ≠ cn → ∀ C', X.mg n = some (.ref C') → PySem.W.exmOne X.K (.ref C') (.ref Cc) = some false)
    (hh : ∀ a oe d pn ex, ex.cls = cn → Zc (.ref Cc) d oe → (∃ vs, oe.data = .fields vs) → RB (X.suite a ((a, oe) :: pn)) W0 (List.replicate Γ.length .un) false (Γ.set i (.fz (exP a d ex))) suite (mh ex) (fun j => .nx (Γj j)))
    (hjs : ∀ j, Le (Γj j) ((Γj j).set i .un)) (hu : Le (List.replicate Γ.length .un) (Γ.set i .un)) (r : RHs X Γ Γj ks l hs) : RHs X Γ Γj ks ((.ref Cc, i, tTs X suite) :: l) ((cn, mh) :: hs)
theorem RHs.run {Γj : δ → Ctx} {ks : List Str} {l : List (Value × Nat × (Addr → Value → Option Addr → TS))} {hs : List (Str × (Ex → Mo δ))} (h : RHs X Γ Γj ks l hs) {G : Gf} {D : Ends} {σ : L2.St} {F H : Hp} {ex : Ex} {C : Addr} {d : Option Addr} {Q : δ → Prop} {E : Ex → Prop} (o : Ok G Γ σ F H) (hk : ex.cls ∈ ks) (hC : X.mg ex.cls = some (.ref C)) (z : ErrOk X.K X.mg ex (.ref C) d F)
    (key : ∀ j, Q j → ∀ σ2 F2 H2, Same G.F0 F2 → Ok G (Γj j) σ2 F2 H2 → D.nx σ2 H2) (out : E ex → W (.ref C) d σ H) (q : Mo.disp hs ex Q E) : wManyA X.K W D l (.ref C) d σ H := by
  induction h with
  | nil => exact out q
  | @cons Cc i cn suite mh l hs hcn hsub hfls hh hjs hu r ih =>
    show ∃ b, _
    by_cases c : ex.cls = cn
    · unfold Mo.disp at q
      rw [if_pos c] at q
      have hCC := hC
      rw [c, hcn] at hCC
      cases hCC
      refine ⟨true, hsub, fun _ a ha => ?_, fun h => by cases h⟩
      intro oe pn' hz hf
      refine hh a oe d pn' ex c hz hf (le_un hu) G _ F H { nx := _, rt := D.rt, bk := _, ct := _ } _ (fun _ => rfl) (o.toSuite (a := a) z) ((mh ex).mono (fun j hj' σ3 F3 H3 s3 o3 => ?_) (fun _ z => z.elim) q)
      have o4 := o3.forget i (v := none)
      exact key j hj' _ F3 H3 s3 (o4.weak (hjs j))
    · unfold Mo.disp at q
      rw [if_neg c] at q
      exact ⟨false, hfls _ hk c C hC, fun h => (by cases h), fun _ => ih q⟩
theorem rb_tryNS {ks : List Str} {l : List (Value × Nat × (Addr → Value → Option Addr → TS))} {hs : List (Str × (Ex → Mo δ))} {me : Mo α} {jb : α → δ} {mr : δ → Mo γ} {tgt : α → Ctx → Ctx} (Γj : δ → Ctx) (hst : PS X st (fun D σ H => tTb X [bst] (wManyA X.K W D l) D σ H)) (hH : RHs X Γ Γj ks l hs)
    (hb : ∀ pn xe W', Takes (X.tr pn xe) W' → PassesOwn (model X.prog X.w) X.A X.env xe → ∀ G σ F H D, Ok G Γ σ F H → me.run (fun x => ∀ σ' F' H', Same F F' → Ok G (tgt x Γ) σ' F' H' → D.nx σ' H') (EQ X W' G Γ σ F H) → tSs (X.tr pn xe) [bst] D σ H)
    (hjb : ∀ x, Le (Γj (jb x)) (tgt x Γ)) (hex : Le Γe Γ) (hj : ∀ j, Le Γe (Γj j)) (hr : ∀ j, RB X W Γe lv (Γj j) rest (mr j) Z) :
    RB X W Γe lv Γ (st :: rest) (Mo.catchN (me >>= fun x => pure (jb x)) ks hs >>= mr) Z := fun le G σ F H D nx' hn o q =>
  tSs_cons hst fun pn xe tk po => by
    have key : ∀ j, (mr j).run (fun x => FinOk G Γe D F (Z x)) (XQ X W G Γe F) → ∀ σ2 F2 H2, Same G.F0 F2 → Ok G (Γj j) σ2 F2 H2 → tSs X rest { D with nx := nx' } σ2 H2 := fun j hj' σ2 F2 H2 s2 o2 => hr j (hj j) G σ2 F2 H2 D nx' hn o2 (run_any hj')
    refine hb pn xe _ tk po G σ F H { D with nx := tSs X rest { D with nx := nx' } } o (me.mono (fun x hx σ2 F2 H2 s2 o2 => key (jb x) hx σ2 F2 H2 o2.go.fs (o2.weak (hjb x))) (fun ex hx' cls d F2 H2 o2 g2 z => ?_) q)
    obtain ⟨C, hC, rfl, hd⟩ := id z
    exact hH.run o2 hx'.1 hC z (fun j hj' σ3 F3 H3 s3 o3 => key j hj' σ3 F3 H3 s3 o3) (fun hE => hE _ d σ F2 H2 o2.go.fs (o2.weak hex) z) hx'.2
theorem fls_nil {P : Str → Prop} : ∀ n ∈ ([] : List Str), P n := fun n h => by cases h
theorem fls_cons {P : Str → Prop} {a : Str} {l : List Str} (h : P a) (t : ∀ n ∈ l, P n) : ∀ n ∈ a :: l, P n := fun n hn => by
  rcases List.mem_cons.mp hn with e | e
  · rw [e]; exact h
  · exact t n e
theorem flsA {K : PySem.W.Frag} {mg : Str → Option Value} {n : Str} {C D : Addr} (hg : mg n = some (.ref C)) (h : PySem.W.exmOne K (.ref C) (.ref D) = some false) : ∀ C', mg n = some (.ref C') → PySem.W.exmOne K (.ref C') (.ref D) = some false := fun C' hC => by
  rw [hg] at hC
  cases hC
  exact h
end
end RF
namespace RF
open PySem PySem.Spec PyProof.Rows L2 KO SX
section
variable {α β γ : Type} {X : Cx} {W : WX} {Γ : Ctx} {e a b c : Expr} {es : List Expr} {pos : Pos} {op op' : CmpOp} {ma mb mc : Mo Str} {mi : Mo Int}
/-! ### strings -/
def chars (z : Str) : List Str := z.cps.toList.map fun c => ⟨#[c]⟩
theorem re_addS (ha : RE X W Γ a ma (.fz rS)) (hb : RE X W Γ b mb (.fz rS)) : RE X W Γ (.BinOp a .Add b pos) (ma >>= fun x => mb >>= fun y => Mo.rq (x.length + y.length ≤ sizeLine) (x ++ y)) (.fz rS) :=
  re_bin op_add_str (fun x y G σ F H Q u w o hu hw q => by
    obtain rfl : u = .str x := hu
    obtain rfl : w = .str y := hw
    exact ⟨x, y, rfl, rfl, q.1, NQ.here (ρ := rS) q.2 o rfl⟩) ha hb
theorem op_mul_str : OpR X (binaryOp .Mult) (fun x y H Q => ∃ (z : Str) (n : Int), x = .str z ∧ y = .int n ∧ MulOk z n ∧ Q (.str (Txt.mul z n)) H) := by
  intro pins s σ H x y v u Q I rx ry h
  obtain ⟨z, n, rfl, rfl, hz, q⟩ := h
  obtain ⟨t, rfl⟩ := rx
  obtain ⟨t', rfl⟩ := ry
  exact SB.mul hz fun t' tk => ⟨.str _, H, I.tok _, ⟨_, rfl⟩, q⟩
theorem re_mulS (ha : RE X W Γ a ma (.fz rS)) (hb : RE X W Γ b mi (.fz rI)) : RE X W Γ (.BinOp a .Mult b pos) (ma >>= fun x => mi >>= fun n => Mo.rq (x.length ≤ 1000 ∧ 0 ≤ n ∧ n ≤ 1000) (Txt.mul x n)) (.fz rS) :=
  re_bin op_mul_str (fun x y G σ F H Q u w o hu hw q => by
    obtain rfl : u = .str x := hu
    obtain rfl : w = .int y := hw
    exact ⟨x, y, rfl, rfl, mulOk_of 1000 1000 q.1.1 (by have := q.1.2.2; omega) (by have := q.1.2.1; omega) (by decide) (by decide), NQ.here (ρ := rS) q.2 o rfl⟩) ha hb
theorem re_ixS (ha : RE X W Γ a ma (.fz rS)) (hb : RE X W Γ b mi (.fz rI)) (hs : PlainIx b := by exact fun _ _ => rfl) : RE X W Γ (.Subscript a b pos) (ma >>= fun z => mi >>= fun i => Mo.rq (z.length ≤ sizeLine) () >>= fun _ => Mo.get (atI (chars z) i)) (.fz rS) :=
  re_ix ix_str (fun z i G σ F H Q u w o hu hw q => by
    obtain rfl : u = .str z := hu
    obtain rfl : w = .int i := hw
    obtain ⟨q1, x, hx, q2⟩ := q
    unfold chars at hx
    rw [atI_map] at hx
    cases e : atI z.cps.toList i with
    | none => rw [e] at hx; cases hx
    | some c =>
      rw [e] at hx
      cases hx
      exact ⟨z, i, c, rfl, rfl, q1, e, NQ.here (ρ := rS) q2 o rfl⟩) ha hb hs
theorem re_slS {lo hi : Option Expr} {ml mh : Mo (Option Int)} {p2 : Pos} (ha : RE X W Γ a ma (.fz rS)) (hl : RP X W Γ lo ml) (hh : RP X W Γ hi mh) : RE X W Γ (.Subscript a (.Slice lo hi none p2) pos) (ma >>= fun z => ml >>= fun l => mh >>= fun h => Mo.rq (z.length ≤ sizeLine) (cutS z l h)) (.fz rS) := by
  refine re_of (pe_slice sl_str peE poP poP) fun G σ F H Q o q => ?_
  refine ha G σ F H _ o (ma.mono (fun z hx v F1 H1 o1 g1 zz => ?_) (fun _ z => z) q)
  obtain rfl : v = .str z := zz
  refine hl G σ F1 H1 _ o1 (ml.mono (fun l hx F2 H2 o2 g2 => ?_) (fun _ => EQ.step g1) hx)
  have g12 := g1.trans g2 owns_tr
  refine hh G σ F2 H2 _ o2 (mh.mono (fun h hx F3 H3 o3 g3 => ?_) (fun _ => EQ.step g12) hx)
  exact ⟨z, rfl, hx.1, hx.2 _ F3 H3 o3 (g12.trans g3 owns_tr) rfl⟩
theorem re_lenS {p : Pos} (h : RE X W Γ e ma (.fz rS)) (hm : X.mg "len" = none) (hg : Gl X "len" := by rfl) (he : starEach [e] X.env = [(false, eval e X.env)] := by rfl) : RE X W Γ (.Call (.Name "len" p) [e] [] pos) (ma >>= fun z => Mo.rq (z.length ≤ sizeLine) (z.length : Int)) (.fz rI) := by
  refine re_of (pe_callB call_len_str hg hm (by decide +kernel) (pa_cons peE pa_nil he) (by decide) (by decide) he rfl) fun G σ F H Q o q => ?_
  refine h G σ F H _ o (ma.mono (fun z hx v F' H' o' g' zz => ?_) (fun _ z => z) q)
  obtain rfl : v = .str z := zz
  exact ⟨z, rfl, hx.1, hx.2 _ F' H' o' g' rfl⟩
theorem re_strI {p : Pos} (h : RE X W Γ e mi (.fz rI)) (hm : X.mg "str" = none) (hg : Gl X "str" := by rfl) (he : starEach [e] X.env = [(false, eval e X.env)] := by rfl) : RE X W Γ (.Call (.Name "str" p) [e] [] pos) (mi >>= fun i => Mo.rq (i.natAbs.log2 < 1920) (toString i : Str)) (.fz rS) := by
  refine re_of (pe_callTy call_str_int hg hm (by decide +kernel) (pa_cons peE pa_nil he) (by decide) (by decide) he rfl) fun G σ F H Q o q => ?_
  refine h G σ F H _ o (mi.mono (fun z hx v F' H' o' g' zz => ?_) (fun _ z => z) q)
  obtain rfl : v = .int z := zz
  exact ⟨z, rfl, hx.1, hx.2 _ F' H' o' g' rfl⟩
/-! f'..' -/
theorem re_fmtS (h : RE X W Γ e ma (.fz rS)) : RE X W Γ (.FormattedValue e (-1) none pos) (ma >>= fun y => Mo.rq (y.length ≤ sizeLine) y) (.fz rS) :=
  re_of (pe_fmt peE) fun G σ F H Q o q => h G σ F H _ o (ma.mono (fun z hx v F' H' o' g' zz => .inl ⟨z, zz, hx.1, hx.2 _ F' H' o' g' rfl⟩) (fun _ z => z) q)
theorem re_fmtI (h : RE X W Γ e mi (.fz rI)) : RE X W Γ (.FormattedValue e (-1) none pos) (mi >>= fun i => Mo.rq (i.natAbs.log2 < 1920) (toString i : Str)) (.fz rS) :=
  re_of (pe_fmt peE) fun G σ F H Q o q => h G σ F H _ o (mi.mono (fun z hx v F' H' o' g' zz => .inr ⟨z, zz, hx.1, hx.2 _ F' H' o' g' rfl⟩) (fun _ z => z) q)
def RJ (X : Cx) (W : WX) (Γ : Ctx) (es : List Expr) (m : Str → Mo Str) : Prop := ∃ ts, PJ X es ts ∧ ∀ (acc : Str) G σ F H (Q : Str → Hp → Prop), Ok G Γ σ F H → (m acc).run (fun x => ∀ F' H', Ok G Γ σ F' H' → Go (owns Γ) F H F' H' → Q x H') (EQ X W G Γ σ F H) → tJs ts acc σ H Q
theorem rj_nil : RJ X W Γ [] (fun acc => pure acc) := ⟨[], .nil, fun acc G σ F H Q o q => q F H o (Go.refl o.le)⟩
theorem rj_cons {m : Str → Mo Str} (h : RE X W Γ e ma (.fz rS)) (r : RJ X W Γ es m) : RJ X W Γ (e :: es) (fun acc => ma >>= fun y => Mo.rq ((acc ++ y).length ≤ sizeLine) (acc ++ y) >>= m) := by
  obtain ⟨ts, hp, hr⟩ := r
  refine ⟨_, .cons peE hp, fun acc G σ F H Q o q => ?_⟩
  refine h G σ F H _ o (ma.mono (fun y hx v F' H' o' g' zz => ⟨y, zz, hx.1, ?_⟩) (fun _ z => z) q)
  exact hr _ G σ F' H' Q o' ((m (acc ++ y)).mono (fun c hc F2 H2 o2 g2 => hc F2 H2 o2 (g'.trans g2 owns_tr)) (fun _ => EQ.step g') hx.2)
theorem re_fs {v1 v2 : Expr} {rest : List Expr} {m : Str → Mo Str} (h : RJ X W Γ (v1 :: v2 :: rest) m) : RE X W Γ (.JoinedStr (v1 :: v2 :: rest) pos) (m Str.empty) (.fz rS) := by
  obtain ⟨ts, hp, hr⟩ := h
  exact re_of (pe_joined hp) fun G σ F H Q o q => hr _ G σ F H _ o (Mo.mono _ (fun x hx F' H' o' g' => hx _ F' H' o' g' rfl) (fun _ z => z) q)
/-! join -/
theorem re_join {k : Bool} {apos : Pos} {ml : Mo (List Str)} (ha : RE X W Γ a ma (.fz rS)) (hb : RSq X W Γ k e ml rS) (hs : starEach [e] X.env = [(false, eval e X.env)] := by rfl) (hbase : attributeBase a "join" X.env (eval a X.env) = eval a X.env := by rfl) (hline : (apos.endLine == pos.line) = true := by rfl) :
    RE X W Γ (.Call (.Attribute a "join" apos) [e] [] pos) (ma >>= fun x => ml >>= fun ys => Mo.rq ((ys.map (·.length)).sum + ys.length * x.length ≤ 16777216) (Txt.join x ys)) (.fz rS) := by
  refine re_of (pe_join peE peE hs hbase hline) fun G σ F H Q o q => ?_
  refine ha G σ F H _ o (ma.mono (fun z hx v F1 H1 o1 g1 zz => ?_) (fun _ z => z) q)
  obtain rfl : v = .str z := zz
  refine ⟨⟨z, rfl⟩, hb G σ F1 H1 _ o1 (ml.mono (fun ys hy p vs F2 H2 o2 g2 z1 z2 => ?_) (fun _ => EQ.step g1) hx)⟩
  have e : vs = ys.map V.str := Ps.sc (s := scS) z2
  subst e
  exact ⟨z, p, ys, rfl, rfl, z1.or o2.le, hy.1, hy.2 _ F2 H2 o2 (g1.trans g2 owns_tr) rfl⟩
/-! walks -/
theorem src_str {z : Str} {F : Hp} : Src (Its z) (chars z) rS F := fun F2 H2 s1 s2 => by
  have hl : (chars z).length = z.cps.size := by simp [chars]
  refine ⟨fun i hi => by rw [hl] at hi; exact hi, by show z.cps.size ≤ (chars z).length; omega, fun i x v H3 hx y => ?_⟩
  obtain ⟨rfl, c, hc, rfl⟩ := y
  refine ⟨F2, Go.refl s2, ?_⟩
  unfold chars at hx
  rw [List.getElem?_map, Array.getElem?_toList, hc] at hx
  cases hx
  rfl
theorem ri_str (h : RE X W Γ e ma (.fz rS)) : RI X W Γ (iStr (tE X e)) (ma >>= fun z => pure (chars z)) rS := fun G σ F H R o q => by
  refine h G σ F H _ o (ma.mono (fun z hx v F' H' o' g' zz => ?_) (fun _ z => z) q)
  obtain rfl : v = .str z := zz
  exact ⟨z, rfl, hx _ F' H' o' g' src_str⟩
theorem rit_str {t : TE} (h : RTE X W Γ t ma (.fz rS)) : RI X W Γ (iStr t) (ma >>= fun z => pure (chars z)) rS := fun G σ F H R o q => by
  refine h G σ F H _ o (ma.mono (fun z hx v F' H' o' g' zz => ?_) (fun _ z => z) q)
  obtain rfl : v = .str z := zz
  exact ⟨z, rfl, hx _ F' H' o' g' src_str⟩
/-! comparisons -/
def sgn (x : Str) : Option Nat := match x.cps.toList with | [c] => some c | _ => none
theorem sgn_eq {x : Str} {c : Nat} (h : sgn x = some c) : x = ⟨#[c]⟩ := by
  obtain ⟨⟨l⟩⟩ := x
  unfold sgn at h
  match l, h with
  | [d], h => cases h; rfl
theorem rc_inC (ha : RE X W Γ a ma (.fz rS)) (hb : RE X W Γ b mb (.fz rS)) : RC X W Γ .In a b (ma >>= fun x => mb >>= fun z => Mo.get (sgn x) >>= fun c => pure (decide (c ∈ z.cps.toList))) :=
  ⟨_, op_in_sign, rte_two ha hb fun x z G σ F H Q u w o hu hw q => by
    obtain rfl : u = .str x := hu
    obtain rfl : w = .str z := hw
    obtain ⟨c, hc, q⟩ := q
    have := sgn_eq hc
    subst this
    exact ⟨c, z, rfl, rfl, NQ.here (ρ := rB) q o rfl⟩⟩
theorem rc_ninC (ha : RE X W Γ a ma (.fz rS)) (hb : RE X W Γ b mb (.fz rS)) : RC X W Γ .NotIn a b (ma >>= fun x => mb >>= fun z => Mo.get (sgn x) >>= fun c => pure (!decide (c ∈ z.cps.toList))) :=
  ⟨_, op_notIn_sign, rte_two ha hb fun x z G σ F H Q u w o hu hw q => by
    obtain rfl : u = .str x := hu
    obtain rfl : w = .str z := hw
    obtain ⟨c, hc, q⟩ := q
    have := sgn_eq hc
    subst this
    exact ⟨c, z, rfl, rfl, NQ.here (ρ := rB) q o rfl⟩⟩
structure SCmp (X : Cx) (op : CmpOp) (f : Str → Str → Bool) : Prop where
  h : ∃ r, OpR X (compareOp op) r ∧ ∀ (W : WX) (Γ : Ctx) (x y : Str), ROp X W Γ r (rS x) (rS y) (pure (f x y)) (.fz rB)
theorem s_lt : SCmp X .Lt (fun i j => decide (i.cps.toList < j.cps.toList)) := ⟨_, op_lt_str, fun W Γ x z G σ F H Q u w o hu hw q => by
    obtain rfl : u = .str x := hu
    obtain rfl : w = .str z := hw
    exact ⟨x, z, rfl, rfl, NQ.here (ρ := rB) q o rfl⟩⟩
theorem s_le : SCmp X .LtE (fun i j => !decide (j.cps.toList < i.cps.toList)) := ⟨_, op_le_str, fun W Γ x z G σ F H Q u w o hu hw q => by
    obtain rfl : u = .str x := hu
    obtain rfl : w = .str z := hw
    exact ⟨x, z, rfl, rfl, NQ.here (ρ := rB) q o rfl⟩⟩
theorem rc_s {f : Str → Str → Bool} (hi : SCmp X op f) (ha : RE X W Γ a ma (.fz rS)) (hb : RE X W Γ b mb (.fz rS)) : RC X W Γ op a b (ma >>= fun i => mb >>= fun j => pure (f i j)) := by
  obtain ⟨r, ho, hr⟩ := hi.h
  exact rc_of ho (hr W Γ) ha hb
section
variable {f f' : Str → Str → Bool}
theorem rte_chainS {r r' : R2} (hr : ∀ x y, ROp X W Γ r (rS x) (rS y) (pure (f x y)) (.fz rB)) (hr' : ∀ x y, ROp X W Γ r' (rS x) (rS y) (pure (f' x y)) (.fz rB)) (ha : RE X W Γ a ma (.fz rS)) (hb : RE X W Γ b mb (.fz rS)) (hc : RE X W Γ c mc (.fz rS)) :
    RTE X W Γ (tChain r r' (tE X a) (tE X b) (tE X c)) (ma >>= fun i => mb >>= fun j => if f i j = true then mc >>= fun k => pure (f' j k) else pure false) (.fz rB) := fun G σ F H Q o q => by
  refine ha G σ F H _ o (ma.mono (fun i hx v F1 H1 o1 g1 z1 => ?_) (fun _ z => z) q)
  refine hb G σ F1 H1 _ o1 (mb.mono (fun j hy u F2 H2 o2 g2 z2 => ?_) (fun _ => EQ.step g1) hx)
  have g12 := g1.trans g2 owns_tr
  refine hr i j G σ F2 H2 _ v u o2 ((rS i).mono g2.fs z1) z2 (fun w F3 H3 o3 g3 z3 => ?_)
  have z3 : w = .bl (f i j) := z3
  refine ⟨_, z3, ?_⟩
  have g13 := g12.trans g3 owns_tr
  dsimp only at hy
  cases hf : f i j with
  | false =>
    rw [hf] at hy z3
    subst z3
    exact iteF (hy _ F3 H3 o3 g13 rfl)
  | true =>
    rw [if_pos hf] at hy
    refine iteT (hc G σ F3 H3 _ o3 (mc.mono (fun k hk w' F4 H4 o4 g4 z4 => ?_) (fun _ => EQ.step g13) hy))
    exact hr' j k G σ F4 H4 Q u w' o4 ((rS j).mono (g3.fs.trans g4.fs) z2) z4 (NQ.step (g13.trans g4 owns_tr) hk)
theorem re_chainS (hi : SCmp X op f) (hi' : SCmp X op' f') (ha : RE X W Γ a ma (.fz rS)) (hb : RE X W Γ b mb (.fz rS)) (hc : RE X W Γ c mc (.fz rS)) (hm : lastMarks [op, op'] [b, c] = false := by with_unfolding_all rfl) :
    RE X W Γ (.Compare a [op, op'] [b, c] pos) (ma >>= fun i => mb >>= fun j => if f i j = true then mc >>= fun k => pure (f' j k) else pure false) (.fz rB) := by
  obtain ⟨r, ho, hr⟩ := hi.h
  obtain ⟨r', ho', hr'⟩ := hi'.h
  exact re_of (pe_chain ho ho' peE peE peE hm) (rte_chainS (hr W Γ) (hr' W Γ) ha hb hc)
end
/-! ### own classes: ==, isinstance -/
theorem calmE {G : Gf} {σ : L2.St} {F H : Hp} {k : RK γ} {Q : VK} {m : Mo γ} (q : (Mo.calm m).run (NQ G Γ σ F H k Q) (EQ X W G Γ σ F H)) : m.run (NQ G Γ σ F H k Q) (EQ X W0 G Γ σ F H) := m.mono (fun _ h => h) (fun _ z => z.elim) q
theorem calmE2 {G : Gf} {σ : L2.St} {F H : Hp} {Q : VK} {m : Mo Bool} (q : (Mo.calm m).run (NQ G Γ σ F H (.fz rB) Q) (EQ X W G Γ σ F H)) : m.run (NQ G Γ σ F H (.fz rB) fun v H' => ∃ c, v = .bl c ∧ Q (.bl c) H') (EQ X W0 G Γ σ F H) := m.mono (fun c h v F' H' o' g' z => by
    have z : v = .bl c := z
    subst z
    exact ⟨c, rfl, h _ F' H' o' g' rfl⟩) (fun _ z => z.elim) q
theorem pass_calm (tk : Takes X W) : ∀ σ, PassesAt (L2.CX X.prog X.w) X σ (fun _ _ _ => False) := fun σ pins H s e s' I h => tk e s' (XE.of_call I (fun _ _ _ z => z.elim) h)
theorem rc_eqO {k : Nat} {f C : Addr} {fd : FuncData} {ps : List Str} {m : α × β × Unit → Mo Bool} {mx : Mo α} {my : Mo β} {ρ : α → Pr} {ρ' : β → Pr} (fs : α → List (Str × Pr)) (fs' : β → List (Str × Pr)) (hm : Meth X.K C "__eq__" f) (Fn : FnOk X.prog X.w X.K X.mg X.base (L2.CX X.prog X.w) k f fd ps (spR X.K X.mg (fun (_ : Unit) (z : α × β × Unit) => [.fz (ρ z.1), .fz (ρ' z.2.1)]) m (.fz rB))) (hr : Room k X.A) (tk : Takes X W) (hb : Binds X.K fd ps [])
    (ha : RE X W Γ a mx (.fz ρ)) (hb2 : RE X W Γ b my (.fz ρ')) (hρ : ∀ x, ρ x = rIn C (fs x) := by intro _; rfl) (hρ' : ∀ x, ρ' x = rIn C (fs' x) := by intro _; rfl) : RC X W Γ .Eq a b (mx >>= fun x => my >>= fun y => Mo.calm (m (x, y, ()))) :=
  ⟨_, eq_own hm Fn hr hb (pass_calm tk), rte_two ha hb2 fun x y G σ F H Q u w o hu hw q => by
    have hu' := hu
    have hw' := hw
    rw [hρ x] at hu'
    rw [hρ' y] at hw'
    obtain ⟨p, dx, gs, rfl, h1, _⟩ := hu'
    obtain ⟨p2, dy, gs2, rfl, h2, _⟩ := hw'
    refine ⟨p, dx, gs, p2, dy, gs2, rfl, rfl, o.le _ _ h1, o.le _ _ h2, ?_⟩
    refine run_spR (W := W0) (Γ := Γ) (i := ()) (y := (x, y, ())) o ⟨rfl, fun i en v e1 e2 => ?_, fun i l a q h => ?_⟩ rfl (calmE2 q)
    · match i, e1, e2 with
      | 0, e1, e2 => cases e1; cases e2; exact hu
      | 1, e1, e2 => cases e1; cases e2; exact hw
    · match i, h with
      | 0, h => cases h
      | 1, h => cases h⟩
theorem re_isC {C : Addr} {p p2 : Pos} {n : Str} {mx : Mo α} {ρ : α → Pr} (fs : α → List (Str × Pr)) (ci : C8.InsC X.K C) (h : RE X W Γ e mx (.fz ρ)) (hn : PE X (.Name n p2) (tC (.ref C))) (hm : X.mg "isinstance" = none) (hρ : ∀ x, ρ x = rIn C (fs x) := by intro _; rfl) (hg : Gl X "isinstance" := by rfl)
    (he2 : starEach [.Name n p2] X.env = [(false, eval (.Name n p2) X.env)] := by rfl) (he : starEach [e, .Name n p2] X.env = (false, eval e X.env) :: starEach [.Name n p2] X.env := by rfl) (hpl : (backTo pos (starEach [.Name n p2] X.env)).any (·.1) = false := by rfl) :
    RE X W Γ (.Call (.Name "isinstance" p) [e, .Name n p2] [] pos) (mx >>= fun _ => pure true) (.fz rB) := by
  refine re_of (pe_callB (C8.call_isC ci) hg hm (by decide +kernel) (pa_cons peE (pa_cons hn pa_nil he2) he) (by decide) (by decide) he hpl) fun G σ F H Q o q => ?_
  refine h G σ F H _ o (mx.mono (fun x hx v F' H' o' g' z => ?_) (fun _ z => z) q)
  have z' : (ρ x).r v F' := z
  rw [hρ x] at z'
  obtain ⟨a, dx, gs, rfl, h1, _⟩ := z'
  exact ⟨a, dx, gs, rfl, o'.le _ _ h1, hx _ F' H' o' g' rfl⟩
end
end RF
namespace RF
open PySem PySem.Spec PyProof.Rows L2 KO SX
/-! ### longer tuples -/
section
variable {α β γ δ ε ζ η θ : Type}
def rT6 (ρ : α → Pr) (σ : β → Pr) (τ : γ → Pr) (υ : δ → Pr) (φ : ε → Pr) (χ : ζ → Pr) (x : α × β × γ × δ × ε × ζ) : Pr := rTu [ρ x.1, σ x.2.1, τ x.2.2.1, υ x.2.2.2.1, φ x.2.2.2.2.1, χ x.2.2.2.2.2]
def rT7 (ρ : α → Pr) (σ : β → Pr) (τ : γ → Pr) (υ : δ → Pr) (φ : ε → Pr) (χ : ζ → Pr) (ψ : η → Pr) (x : α × β × γ × δ × ε × ζ × η) : Pr := rTu [ρ x.1, σ x.2.1, τ x.2.2.1, υ x.2.2.2.1, φ x.2.2.2.2.1, χ x.2.2.2.2.2.1, ψ x.2.2.2.2.2.2]
def rT8 (ρ : α → Pr) (σ : β → Pr) (τ : γ → Pr) (υ : δ → Pr) (φ : ε → Pr) (χ : ζ → Pr) (ψ : η → Pr) (ω : θ → Pr) (x : α × β × γ × δ × ε × ζ × η × θ) : Pr := rTu [ρ x.1, σ x.2.1, τ x.2.2.1, υ x.2.2.2.1, φ x.2.2.2.2.1, χ x.2.2.2.2.2.1, ψ x.2.2.2.2.2.2.1, ω x.2.2.2.2.2.2.2]
section
variable {ρ : α → Pr} {σ : β → Pr} {τ : γ → Pr} {υ : δ → Pr} {φ : ε → Pr} {χ : ζ → Pr} {ψ : η → Pr} {ω : θ → Pr}
section
variable [r : Enc ρ] [s : Enc σ] [t : Enc τ] [u : Enc υ] [w : Enc φ] [y : Enc χ] [z : Enc ψ] [z2 : Enc ω]
instance encT6 : Enc (rT6 ρ σ τ υ φ χ) := ⟨max r.n (max s.n (max t.n (max u.n (max w.n y.n)))) + 1, fun x => .tuple [r.d x.1, s.d x.2.1, t.d x.2.2.1, u.d x.2.2.2.1, w.d x.2.2.2.2.1, y.d x.2.2.2.2.2], fun x => r.ok x.1 ∧ s.ok x.2.1 ∧ t.ok x.2.2.1 ∧ u.ok x.2.2.2.1 ∧ w.ok x.2.2.2.2.1 ∧ y.ok x.2.2.2.2.2, fun {x v F} k h =>
  dt_tu rfl (by show 6 ≤ 1000; decide) h (all2 (.cons (fun v h => (r.is k.1 h).le (by omega)) (.cons (fun v h => (s.is k.2.1 h).le (by omega)) (.cons (fun v h => (t.is k.2.2.1 h).le (by omega)) (.cons (fun v h => (u.is k.2.2.2.1 h).le (by omega)) (.cons (fun v h => (w.is k.2.2.2.2.1 h).le (by omega)) (.cons (fun v h => (y.is k.2.2.2.2.2 h).le (by omega)) .nil)))))))⟩
instance encT7 : Enc (rT7 ρ σ τ υ φ χ ψ) := ⟨max r.n (max s.n (max t.n (max u.n (max w.n (max y.n z.n))))) + 1, fun x => .tuple [r.d x.1, s.d x.2.1, t.d x.2.2.1, u.d x.2.2.2.1, w.d x.2.2.2.2.1, y.d x.2.2.2.2.2.1, z.d x.2.2.2.2.2.2], fun x => r.ok x.1 ∧ s.ok x.2.1 ∧ t.ok x.2.2.1 ∧ u.ok x.2.2.2.1 ∧ w.ok x.2.2.2.2.1 ∧ y.ok x.2.2.2.2.2.1 ∧ z.ok x.2.2.2.2.2.2, fun {x v F} k h =>
  dt_tu rfl (by show 7 ≤ 1000; decide) h (all2 (.cons (fun v h => (r.is k.1 h).le (by omega)) (.cons (fun v h => (s.is k.2.1 h).le (by omega)) (.cons (fun v h => (t.is k.2.2.1 h).le (by omega)) (.cons (fun v h => (u.is k.2.2.2.1 h).le (by omega)) (.cons (fun v h => (w.is k.2.2.2.2.1 h).le (by omega)) (.cons (fun v h => (y.is k.2.2.2.2.2.1 h).le (by omega)) (.cons (fun v h => (z.is k.2.2.2.2.2.2 h).le (by omega)) .nil))))))))⟩
instance encT8 : Enc (rT8 ρ σ τ υ φ χ ψ ω) := ⟨max r.n (max s.n (max t.n (max u.n (max w.n (max y.n (max z.n z2.n)))))) + 1, fun x => .tuple [r.d x.1, s.d x.2.1, t.d x.2.2.1, u.d x.2.2.2.1, w.d x.2.2.2.2.1, y.d x.2.2.2.2.2.1, z.d x.2.2.2.2.2.2.1, z2.d x.2.2.2.2.2.2.2], fun x => r.ok x.1 ∧ s.ok x.2.1 ∧ t.ok x.2.2.1 ∧ u.ok x.2.2.2.1 ∧ w.ok x.2.2.2.2.1 ∧ y.ok x.2.2.2.2.2.1 ∧ z.ok x.2.2.2.2.2.2.1 ∧ z2.ok x.2.2.2.2.2.2.2, fun {x v F} k h =>
  dt_tu rfl (by show 8 ≤ 1000; decide) h (all2 (.cons (fun v h => (r.is k.1 h).le (by omega)) (.cons (fun v h => (s.is k.2.1 h).le (by omega)) (.cons (fun v h => (t.is k.2.2.1 h).le (by omega)) (.cons (fun v h => (u.is k.2.2.2.1 h).le (by omega)) (.cons (fun v h => (w.is k.2.2.2.2.1 h).le (by omega)) (.cons (fun v h => (y.is k.2.2.2.2.2.1 h).le (by omega)) (.cons (fun v h => (z.is k.2.2.2.2.2.2.1 h).le (by omega)) (.cons (fun v h => (z2.is k.2.2.2.2.2.2.2 h).le (by omega)) .nil)))))))))⟩
end
instance {ρ : α → Pr} : NN (rQ ρ) := ⟨fun x v F ⟨a, vs, e, _⟩ z => by subst z; cases e⟩
instance : NN (rT1 ρ) := ⟨fun x v F h => nn_tu h⟩
instance : NN (rT4 ρ σ τ υ) := ⟨fun x v F h => nn_tu h⟩
instance : NN (rT5 ρ σ τ υ φ) := ⟨fun x v F h => nn_tu h⟩
instance : NN (rT6 ρ σ τ υ φ χ) := ⟨fun x v F h => nn_tu h⟩
instance : NN (rT7 ρ σ τ υ φ χ ψ) := ⟨fun x v F h => nn_tu h⟩
instance : NN (rT8 ρ σ τ υ φ χ ψ ω) := ⟨fun x v F h => nn_tu h⟩
theorem nn_in {C : Addr} {fs : List (Str × Pr)} {v : V} {F : Hp} (h : (rIn C fs).r v F) : v ≠ .non := fun z => by
  obtain ⟨a, dx, gs, e, _⟩ := h
  subst z; cases e
instance [NL ρ] [NL σ] [NL τ] [NL υ] [NL φ] [NL χ] : NL (rT6 ρ σ τ υ φ χ) := ⟨fun {x} {v F a vs} h k => nl_T (nl_memc (nlr _) (nl_memc (nlr _) (nl_memc (nlr _) (nl_memc (nlr _) (nl_memc (nlr _) (nl_mem1 (nlr _))))))) h k⟩
end
end
/-! ### a value seen as another -/
section
variable {α β γ δ ε ζ α' β' γ' δ' ε' ζ' : Type} {ρ : α → Pr} {ρ' : α' → Pr} {σ : β → Pr} {σ' : β' → Pr} {τ : γ → Pr} {τ' : γ' → Pr} {υ : δ → Pr} {υ' : δ' → Pr} {φ : ε → Pr} {φ' : ε' → Pr} {χ : ζ → Pr} {χ' : ζ' → Pr}
/-- what ρ says of x, ρ' says of f x -/
def Coe (ρ : α → Pr) (ρ' : α' → Pr) (f : α → α') : Prop := ∀ x v F, (ρ x).r v F → (ρ' (f x)).r v F
theorem co_id : Coe ρ ρ (fun x => x) := fun _ _ _ h => h
theorem co_none : Coe rN (rO ρ) (fun _ => none) := fun _ _ _ h => h
theorem co_some {f : α → α'} (h : Coe ρ ρ' f) : Coe ρ (rO ρ') (fun x => some (f x)) := fun x v F k => h x v F k
theorem co_O {f : α → α'} (h : Coe ρ ρ' f) : Coe (rO ρ) (rO ρ') (fun x => x.map f) := fun x v F k => by
  cases x with
  | none => exact k
  | some x => exact h x v F k
theorem co_ps {f : α → α'} (h : Coe ρ ρ' f) {F : Hp} : ∀ {xs : List α} {vs : List V}, Ps F (xs.map ρ) vs → Ps F ((xs.map f).map ρ') vs
  | [], [], _ => trivial
  | x :: xs, v :: vs, k => ⟨h x v F k.1, co_ps h k.2⟩
  | [], _ :: _, k => k.elim
  | _ :: _, [], k => k.elim
theorem co_L {f : α → α'} (h : Coe ρ ρ' f) : Coe (rL ρ) (rL ρ') (fun x => x.map f) := fun x v F ⟨a, vs, e, k, p⟩ => ⟨a, vs, e, k, co_ps h p⟩
theorem co_Ts {f : α → α'} (h : Coe ρ ρ' f) : Coe (rTs ρ) (rTs ρ') (fun x => x.map f) := fun x v F ⟨a, vs, e, k, p⟩ => ⟨a, vs, e, k, co_ps h p⟩
theorem co_Q {f : α → α'} (h : Coe ρ ρ' f) : Coe (rQ ρ) (rQ ρ') (fun x => x.map f) := fun x v F ⟨a, vs, e, k, p⟩ => ⟨a, vs, e, k, co_ps h p⟩
theorem co_LQ {f : α → α'} (h : Coe ρ ρ' f) : Coe (rL ρ) (rQ ρ') (fun x => x.map f) := fun x v F ⟨a, vs, e, k, p⟩ => ⟨a, vs, e, .inl k, co_ps h p⟩
theorem co_TQ {f : α → α'} (h : Coe ρ ρ' f) : Coe (rTs ρ) (rQ ρ') (fun x => x.map f) := fun x v F ⟨a, vs, e, k, p⟩ => ⟨a, vs, e, .inr k, co_ps h p⟩
/-- the parts of a tuple -/
inductive CoP (F : Hp) : List Pr → List Pr → Prop where
  | nil : CoP F [] []
  | cons {p q : Pr} {ps qs : List Pr} (h : ∀ v, p.r v F → q.r v F) (t : CoP F ps qs) : CoP F (p :: ps) (q :: qs)
theorem CoP.ps {F : Hp} : ∀ {ps qs : List Pr} {vs : List V}, CoP F ps qs → Ps F ps vs → Ps F qs vs
  | _, _, [], .nil, _ => trivial
  | _, _, v :: vs, .cons h t, k => ⟨h v k.1, t.ps k.2⟩
  | _, _, [], .cons _ _, k => k.elim
  | _, _, _ :: _, .nil, k => k.elim
theorem co_tu {ps qs : List Pr} {v : V} {F : Hp} (c : CoP F ps qs) (h : (rTu ps).r v F) : (rTu qs).r v F := by
  obtain ⟨a, vs, e, k, p⟩ := h
  exact ⟨a, vs, e, k, c.ps p⟩
/-- any tuple, its parts one by one -/
theorem co_T {f : α → α'} (ps qs : α → List Pr) (h : ∀ x F, CoP F (ps x) (qs x)) (h1 : ∀ x, ρ x = rTu (ps x) := by intro _; rfl) (h2 : ∀ x, ρ' (f x) = rTu (qs x) := by intro _; rfl) : Coe ρ ρ' f := fun x v F k => by
  rw [h2 x]
  rw [h1 x] at k
  exact co_tu (h x F) k
end
section
variable {α β γ δ : Type} {X : Cx} {W : WX} {Γe Γ Γ' : Ctx} {lv : Bool} {e a b : Expr} {es : List Expr} {pos : Pos} {ρ : α → Pr} {m : Mo α}
theorem re_coe {ρ' : β → Pr} {f : α → β} (c : Coe ρ ρ' f) (h : RE X W Γ e m (.fz ρ)) : RE X W Γ e (f <$> m) (.fz ρ') := re_map f h c
theorem rte_coe {ρ' : β → Pr} {f : α → β} {t : TE} (c : Coe ρ ρ' f) (h : RTE X W Γ t m (.fz ρ)) : RTE X W Γ t (f <$> m) (.fz ρ') := fun G σ F H Q o q =>
  h G σ F H Q o (m.mono (fun x hx v F' H' o' g' z => hx v F' H' o' g' (c x v F' z)) (fun _ z => z) q)
theorem rte_as {ρ ρ' : γ → Pr} {m : Mo γ} {t : TE} (h : RTE X W Γ t m (.fz ρ)) (hc : ∀ x v F, (ρ x).r v F → (ρ' x).r v F) : RTE X W Γ t m (.fz ρ') := fun G σ F H Q o q =>
  h G σ F H Q o (m.mono (fun x hx v F' H' o' g' z => hx v F' H' o' g' (hc x v F' z)) (fun _ z => z) q)
/-! ### a datum read -/
/-- what a datum is -/
class Dec (ρ : α → Pr) where
  d : PyData → Option α
  is : ∀ {x : PyData} {y : α} {v : V} {F : Hp} {n : Nat}, n ≤ 8 → d x = some y → Dt n F v x → (ρ y).r v F
def asS : PyData → Option Str
  | .str i => some i
  | _ => none
def asB : PyData → Option Bool
  | .bool i => some i
  | _ => none
theorem dt_pos {n : Nat} {F : Hp} {v : V} {x : PyData} (h : Dt n F v x) : ∃ k, n = k + 1 := by
  cases n with
  | zero => exact h.elim
  | succ k => exact ⟨k, rfl⟩
instance decI : Dec rI := ⟨asI, fun {x y v F n} hn e h => by
  obtain ⟨k, rfl⟩ := dt_pos h
  cases x with
  | int j => obtain rfl := Option.some.inj e; exact h
  | _ => cases e⟩
instance decS : Dec rS := ⟨asS, fun {x y v F n} hn e h => by
  obtain ⟨k, rfl⟩ := dt_pos h
  cases x with
  | str j => obtain rfl := Option.some.inj e; exact h
  | _ => cases e⟩
instance decB : Dec rB := ⟨asB, fun {x y v F n} hn e h => by
  obtain ⟨k, rfl⟩ := dt_pos h
  cases x with
  | bool j => obtain rfl := Option.some.inj e; exact h
  | _ => cases e⟩
instance decD : Dec rD := ⟨some, fun {x y v F n} hn e h => by
  obtain rfl := Option.some.inj e
  exact h.le hn⟩
instance decO {ρ : α → Pr} [s : Dec ρ] : Dec (rO ρ) := ⟨fun x => match x with | .none => some none | x => (s.d x).map some, fun {x y v F n} hn e h => by
  obtain ⟨k, rfl⟩ := dt_pos h
  cases x with
  | none => cases e; exact h
  | int _ => simp only [Option.map_eq_some_iff] at e; obtain ⟨a, e, rfl⟩ := e; exact s.is hn e h
  | bool _ => simp only [Option.map_eq_some_iff] at e; obtain ⟨a, e, rfl⟩ := e; exact s.is hn e h
  | str _ => simp only [Option.map_eq_some_iff] at e; obtain ⟨a, e, rfl⟩ := e; exact s.is hn e h
  | list _ => simp only [Option.map_eq_some_iff] at e; obtain ⟨a, e, rfl⟩ := e; exact s.is hn e h
  | tuple _ => simp only [Option.map_eq_some_iff] at e; obtain ⟨a, e, rfl⟩ := e; exact s.is hn e h
  | dict _ => exact h.elim⟩
theorem dec_ps {ρ : α → Pr} [s : Dec ρ] {F : Hp} {n : Nat} (hn : n ≤ 8) : ∀ {ds : List PyData} {ys : List α} {vs : List V}, ds.mapM s.d = some ys → vs.length = ds.length → (∀ (i : Nat) (x : V) (e : PyData), vs[i]? = some x → ds[i]? = some e → Dt n F x e) → Ps F (ys.map ρ) vs
  | [], ys, [], e, _, _ => by simp at e; subst e; trivial
  | d :: ds, ys, v :: vs, e, hl, h => by
    rw [List.mapM_cons] at e
    cases e1 : s.d d with
    | none => rw [e1] at e; simp at e
    | some y =>
      cases e2 : ds.mapM s.d with
      | none => rw [e1, e2] at e; simp at e
      | some zs =>
        rw [e1, e2] at e
        simp at e
        subst e
        exact ⟨s.is hn e1 (h 0 v d rfl rfl), dec_ps hn e2 (by simpa using hl) fun i x c h1 h2 => h (i + 1) x c (by simpa using h1) (by simpa using h2)⟩
  | [], _, _ :: _, _, hl, _ => by simp at hl
  | _ :: _, _, [], _, hl, _ => by simp at hl
instance decL {ρ : α → Pr} [s : Dec ρ] : Dec (rL ρ) := ⟨fun x => match x with | .list ds => ds.mapM s.d | _ => none, fun {x y v F n} hn e h => by
  obtain ⟨k, rfl⟩ := dt_pos h
  cases x with
  | list ds =>
    obtain ⟨a, xs, rfl, h1, h2, _, h3⟩ := h
    exact ⟨a, xs, rfl, h1, dec_ps (by omega) e h2 h3⟩
  | _ => cases e⟩
instance decTs {ρ : α → Pr} [s : Dec ρ] : Dec (rTs ρ) := ⟨fun x => match x with | .tuple ds => ds.mapM s.d | _ => none, fun {x y v F n} hn e h => by
  obtain ⟨k, rfl⟩ := dt_pos h
  cases x with
  | tuple ds =>
    obtain ⟨a, xs, rfl, h1, h2, _, h3⟩ := h
    exact ⟨a, xs, rfl, h1, dec_ps (by omega) e h2 h3⟩
  | _ => cases e⟩
theorem re_dec {ρ : α → Pr} [s : Dec ρ] {m : Mo PyData} (h : RE X W Γ e m (.fz rD)) : RE X W Γ e (m >>= fun d => Mo.get (s.d d)) (.fz ρ) := fun G σ F H Q o q =>
  h G σ F H Q o (m.mono (fun x hx v F' H' o' g' z => by
    obtain ⟨i, hi, hx⟩ := hx
    exact hx v F' H' o' g' (s.is (Nat.le_refl 8) hi z)) (fun _ z => z) q)
/-- data in a tuple, as a tuple of a form that is known -/
class DecP (ps : List Pr) (ds : List PyData) : Prop where
  is : ∀ {vs : List V} {F : Hp}, Ps F (ds.map rD) vs → Ps F ps vs
def asTup : PyData → Option (List PyData)
  | .tuple ds => some ds
  | _ => none
def asLst : PyData → Option (List PyData)
  | .list ds => some ds
  | _ => none
theorem rsq_DT {m : Mo PyData} (h : RE X W Γ e m (.fz rD)) : RSq X W Γ false e (m >>= fun d => Mo.get (asTup d)) rD := fun G σ F H Q o q =>
  h G σ F H Q o (m.mono (fun x hx v F' H' o' g' z => by
    obtain ⟨ds, hi, hx⟩ := hx
    have z : Dt 8 F' v x := z
    cases x with
    | tuple es =>
      obtain rfl := Option.some.inj hi
      obtain ⟨a, xs, rfl, h1, h2, _, h3⟩ := z
      refine hx a xs F' H' o' g' h1 ?_
      have key : ∀ {es : List PyData} {xs : List V}, xs.length = es.length → (∀ (i : Nat) (x : V) (c : PyData), xs[i]? = some x → es[i]? = some c → Dt 7 F' x c) → Ps F' (es.map rD) xs := fun {es} => by
        induction es with
        | nil => intro xs hl _; cases xs with
          | nil => trivial
          | cons _ _ => simp at hl
        | cons d es ih => intro xs hl h; cases xs with
          | nil => simp at hl
          | cons v xs => exact ⟨(h 0 v d rfl rfl).up, ih (by simpa using hl) fun i x c h1 h2 => h (i + 1) x c (by simpa using h1) (by simpa using h2)⟩
      exact key h2 h3
    | _ => cases hi) (fun _ z => z) q)
/-- a tuple of data as one of a form that is known -/
theorem re_decT {ρ' : β → Pr} {m : Mo (List PyData)} {f : List PyData → Option β} (hf : ∀ ds y v F, f ds = some y → (rTs rD ds).r v F → (ρ' y).r v F) (h : RE X W Γ e m (.fz (rTs rD))) : RE X W Γ e (m >>= fun ds => Mo.get (f ds)) (.fz ρ') := fun G σ F H Q o q =>
  h G σ F H Q o (m.mono (fun x hx v F' H' o' g' z => by
    obtain ⟨i, hi, hx⟩ := hx
    exact hx v F' H' o' g' (hf x i v F' hi z)) (fun _ z => z) q)
section
variable {ε : Type} {ρ2 : β → Pr} {τ : γ → Pr} {υ : δ → Pr} {φ : ε → Pr} [r : Dec ρ] [s : Dec ρ2] [t : Dec τ] [u : Dec υ] [w : Dec φ]
theorem rd1 {d : PyData} {y : α} {v : V} {F : Hp} (e : r.d d = some y) (h : (rD d).r v F) : (ρ y).r v F := r.is (Nat.le_refl 8) e h
def dT2 (ρ : α → Pr) (ρ2 : β → Pr) [r : Dec ρ] [s : Dec ρ2] : List PyData → Option (α × β)
  | [a, b] => do let a ← r.d a; let b ← s.d b; pure (a, b)
  | _ => none
def dT3 (ρ : α → Pr) (ρ2 : β → Pr) (τ : γ → Pr) [r : Dec ρ] [s : Dec ρ2] [t : Dec τ] : List PyData → Option (α × β × γ)
  | [a, b, c] => do let a ← r.d a; let b ← s.d b; let c ← t.d c; pure (a, b, c)
  | _ => none
def dT4 (ρ : α → Pr) (ρ2 : β → Pr) (τ : γ → Pr) (υ : δ → Pr) [r : Dec ρ] [s : Dec ρ2] [t : Dec τ] [u : Dec υ] : List PyData → Option (α × β × γ × δ)
  | [a, b, c, d] => do let a ← r.d a; let b ← s.d b; let c ← t.d c; let d ← u.d d; pure (a, b, c, d)
  | _ => none
def dT5 (ρ : α → Pr) (ρ2 : β → Pr) (τ : γ → Pr) (υ : δ → Pr) (φ : ε → Pr) [r : Dec ρ] [s : Dec ρ2] [t : Dec τ] [u : Dec υ] [w : Dec φ] : List PyData → Option (α × β × γ × δ × ε)
  | [a, b, c, d, e] => do let a ← r.d a; let b ← s.d b; let c ← t.d c; let d ← u.d d; let e ← w.d e; pure (a, b, c, d, e)
  | _ => none
theorem some_bind {A B : Type} {o : Option A} {f : A → Option B} {y : B} (h : (o >>= f) = some y) : ∃ a, o = some a ∧ f a = some y := by
  cases o with
  | none => cases h
  | some a => exact ⟨a, rfl, h⟩
theorem dT5_ok (ds : List PyData) (y : α × β × γ × δ × ε) (v : V) (F : Hp) (e : dT5 ρ ρ2 τ υ φ ds = some y) (h : (rTs rD ds).r v F) : (rT5 ρ ρ2 τ υ φ y).r v F := by
  match ds, e, h with
  | [a, b, c, d, k], e, ⟨p, vs, hv, h1, h2⟩ =>
    obtain ⟨y1, e1, e⟩ := some_bind e
    obtain ⟨y2, e2, e⟩ := some_bind e
    obtain ⟨y3, e3, e⟩ := some_bind e
    obtain ⟨y4, e4, e⟩ := some_bind e
    obtain ⟨y5, e5, e⟩ := some_bind e
    obtain rfl := Option.some.inj e
    match vs, h2 with
    | [v1, v2, v3, v4, v5], ⟨z1, z2, z3, z4, z5, _⟩ => exact ⟨p, _, hv, h1, rd1 e1 z1, rd1 e2 z2, rd1 e3 z3, rd1 e4 z4, rd1 e5 z5, trivial⟩
end
/-! ### a list or a tuple walked -/
def iSeqQ (K : PySem.W.Frag) (tl : TE) : TI := fun σ H R => tl σ H fun x H1 => ∃ a, x = .ref a ∧ (((∃ xs, SqL K H1 a xs) ∧ R (Itl K a) H1) ∨ ((∃ xs, SqT K H1 a xs) ∧ R (Itt K a) H1))
theorem pi_seqQ {tg l : Expr} {tl : TE} (hl : PE X l tl) : PI X tg l (iSeqQ X.K tl) := by
  refine ⟨fun pins s σ H R I h => ?_⟩
  refine thn (hl.run pins s σ H _ I h) fun v s1 ⟨x, H1, I1, r1, q1⟩ => ?_
  obtain ⟨a, e, q1⟩ := q1
  subst e
  cases r1
  rcases q1 with ⟨⟨xs, hq⟩, q⟩ | ⟨⟨xs, hq⟩, q⟩
  · obtain ⟨its, rv, p, hz⟩ := I1.list hq
    refine wpAny_pyIter_list p.isList ?_
    refine ⟨s1.heap.objs.size, [s1.heap.objs.size], _, _, H1, rfl, I1.kept (t' := s1.toks) fun b o e => Heap.get?_push_of_some _ e, turn_list a _, ⟨_, Heap.get?_push_size _ rfl, rfl, rfl⟩, fun b hb => ?_, q⟩
    have e : b = s1.heap.objs.size := by simpa using hb
    subst e
    exact I1.fpOk (Nat.le_refl _) (I1.hok.fresh (Nat.le_refl _))
  · obtain ⟨its, rv, p, hz⟩ := I1.tuple hq
    refine wpAny_pyIter_tuple (show s1.heap.IsTuple a its.toArray from p) ?_
    refine ⟨s1.heap.objs.size, [s1.heap.objs.size], _, _, H1, rfl, I1.kept (t' := s1.toks) fun b o e => Heap.get?_push_of_some _ e, turn_tuple a _, ⟨_, Heap.get?_push_size _ rfl, rfl, rfl⟩, fun b hb => ?_, q⟩
    have e : b = s1.heap.objs.size := by simpa using hb
    subst e
    exact I1.fpOk (Nat.le_refl _) (I1.hok.fresh (Nat.le_refl _))
theorem ri_Q {m : Mo (List α)} (h : RE X W Γ e m (.fz (rQ ρ))) : RI X W Γ (iSeqQ X.K (tE X e)) m ρ := fun G σ F H R o q => by
  refine h G σ F H _ o (m.mono (fun xs hx v F' H' o' g' z => ?_) (fun _ z => z) q)
  obtain ⟨a, vs, rfl, h1, h2⟩ := z
  rcases h1 with h1 | h1
  · exact ⟨a, rfl, .inl ⟨⟨vs, SqL.of (o'.le _ _ h1)⟩, hx _ F' H' o' g' (src_list h1 h2)⟩⟩
  · exact ⟨a, rfl, .inr ⟨⟨vs, SqT.ofR (Rd.mono h1 o'.le)⟩, hx _ F' H' o' g' (src_tup h1 h2)⟩⟩
theorem rit_Q {m : Mo (List α)} {t : TE} (h : RTE X W Γ t m (.fz (rQ ρ))) : RI X W Γ (iSeqQ X.K t) m ρ := fun G σ F H R o q => by
  refine h G σ F H _ o (m.mono (fun xs hx v F' H' o' g' z => ?_) (fun _ z => z) q)
  obtain ⟨a, vs, rfl, h1, h2⟩ := z
  rcases h1 with h1 | h1
  · exact ⟨a, rfl, .inl ⟨⟨vs, SqL.of (o'.le _ _ h1)⟩, hx _ F' H' o' g' (src_list h1 h2)⟩⟩
  · exact ⟨a, rfl, .inr ⟨⟨vs, SqT.ofR (Rd.mono h1 o'.le)⟩, hx _ F' H' o' g' (src_tup h1 h2)⟩⟩
end
end RF
namespace RF
open PySem PySem.Spec PyProof.Rows L2 KO SX
section
variable {α β γ δ : Type} {X : Cx} {W : WX} {Γe Γ Γ' : Ctx} {lv : Bool} {e a b : Expr} {es : List Expr} {pos : Pos}
/-! ### tuples: +, slices -/
theorem rop_cat {p q : Pr} {ps qs : List Pr} {ρ : γ → Pr} {y : γ} (hp : p = rTu ps) (hq : q = rTu qs) (hy : ρ y = rTu (ps ++ qs)) : ROp X W Γ (rCatA X.K) p q (Mo.rq (ps.length + qs.length ≤ sizeLine) y) (.fz ρ) := fun G σ F H Q u w o hu hw r => by
  subst hp hq
  obtain ⟨a, vs, rfl, h1, h2⟩ := hu
  obtain ⟨b, us, rfl, h3, h4⟩ := hw
  have app := h2.app h4
  refine ⟨a, b, vs, us, rfl, rfl, SqT.ofR (Rd.mono h1 o.le), SqT.ofR (Rd.mono h3 o.le), by rw [h2.len, h4.len]; exact r.1, fun e => ?_, fun _ e => ?_, fun _ _ d hd => ?_⟩
  · refine NQ.here (ρ := ρ) r.2 o ?_
    rw [hy]
    subst e
    exact ⟨b, us, rfl, h3, by simpa using app⟩
  · refine NQ.here (ρ := ρ) r.2 o ?_
    rw [hy]
    subst e
    exact ⟨a, vs, rfl, h1, by simpa using app⟩
  · refine NQ.ownF r.2 o (Go.refl o.le) hd ?_
    rw [hy]
    exact ⟨d, _, rfl, .inl upd_same, app.mono (same_upd (o.le.free hd))⟩
theorem re_catT {ma : Mo α} {mb : Mo β} {ρa : α → Pr} {ρb : β → Pr} {ρ : γ → Pr} (f : α → β → γ) (ps : α → List Pr) (qs : β → List Pr) (ha : RE X W Γ a ma (.fz ρa)) (hb : RE X W Γ b mb (.fz ρb)) (h1 : ∀ x, ρa x = rTu (ps x) := by intro _; rfl) (h2 : ∀ x, ρb x = rTu (qs x) := by intro _; rfl) (h3 : ∀ x y, ρ (f x y) = rTu (ps x ++ qs y) := by intro _ _; rfl) (hl : ∀ x y, (ps x).length + (qs y).length ≤ sizeLine := by intro _ _; simp [sizeLine_eq]) :
    RE X W Γ (.BinOp a .Add b pos) (ma >>= fun x => mb >>= fun y => pure (f x y)) (.fz ρ) :=
  re_bin op_catA (fun x y G σ F H Q u w o hu hw r => rop_cat (W := W) (h1 x) (h2 y) (h3 x y) G σ F H Q u w o hu hw ⟨hl x y, r⟩) ha hb
theorem re_catTs {ma mb : Mo (List α)} {ρ : α → Pr} (ha : RE X W Γ a ma (.fz (rTs ρ))) (hb : RE X W Γ b mb (.fz (rTs ρ))) : RE X W Γ (.BinOp a .Add b pos) (ma >>= fun x => mb >>= fun y => Mo.rq (x.length + y.length ≤ sizeLine) (x ++ y)) (.fz (rTs ρ)) :=
  re_bin op_catA (fun x y G σ F H Q u w o hu hw r => rop_cat (W := W) (ps := x.map ρ) (qs := y.map ρ) (ρ := rTs ρ) (y := x ++ y) rfl rfl (by unfold rTs; rw [List.map_append]) G σ F H Q u w o hu hw ⟨by simpa using r.1, r.2⟩) ha hb
section
variable {lo hi : Option Expr} {ml mh : Mo (Option Int)} {p2 : Pos}
theorem re_slG {ma : Mo α} {ρ : α → Pr} {ρ' : γ → Pr} (g : α → Option Int → Option Int → γ) (ps : α → List Pr) (ha : RE X W Γ a ma (.fz ρ)) (hl : RP X W Γ lo ml) (hh : RP X W Γ hi mh) (h1 : ∀ x, ρ x = rTu (ps x)) (h2 : ∀ x l h, ρ' (g x l h) = rTu (cutL (ps x) l h)) : RE X W Γ (.Subscript a (.Slice lo hi none p2) pos) (ma >>= fun z => ml >>= fun l => mh >>= fun h => pure (g z l h)) (.fz ρ') := by
  refine re_of (pe_slice sl_tupA peE poP poP) fun G σ F H Q o q => ?_
  refine ha G σ F H _ o (ma.mono (fun z hx v F1 H1 o1 g1 zz => ?_) (fun _ z => z) q)
  have zz : (ρ z).r v F1 := zz
  rw [h1 z] at zz
  obtain ⟨ad, vs, rfl, k1, k2⟩ := zz
  refine hl G σ F1 H1 _ o1 (ml.mono (fun l hx F2 H2 o2 g2 => ?_) (fun _ => EQ.step g1) hx)
  have g12 := g1.trans g2 owns_tr
  refine hh G σ F2 H2 _ o2 (mh.mono (fun h hx F3 H3 o3 g3 => ?_) (fun _ => EQ.step g12) hx)
  have g13 := g12.trans g3 owns_tr
  have s13 : Same F1 F3 := g2.fs.trans g3.fs
  have cut := (k2.mono s13).cut l h
  refine ⟨ad, vs, rfl, SqT.ofR (Rd.mono k1 (s13.trans o3.le)), fun e => ?_, fun _ d hd => ?_⟩
  · refine hx _ F3 H3 o3 g13 ?_
    show (ρ' (g z l h)).r _ _
    rw [h2 z l h]
    refine ⟨ad, vs, rfl, Rd.mono k1 s13, ?_⟩
    have : cutV vs l h = vs := by
      unfold cutV
      rw [e.1, e.2]
      simp
    rw [← this]
    exact cut
  · refine hx.ownF o3 g13 hd ?_
    show (ρ' (g z l h)).r _ _
    rw [h2 z l h]
    exact ⟨d, _, rfl, .inl upd_same, cut.mono (same_upd (o3.le.free hd))⟩
theorem re_slTs {ma : Mo (List α)} {ρ : α → Pr} (ha : RE X W Γ a ma (.fz (rTs ρ))) (hl : RP X W Γ lo ml) (hh : RP X W Γ hi mh) : RE X W Γ (.Subscript a (.Slice lo hi none p2) pos) (ma >>= fun z => ml >>= fun l => mh >>= fun h => pure (cutL z l h)) (.fz (rTs ρ)) :=
  re_slG (fun z l h => cutL z l h) (fun z => z.map ρ) ha hl hh (fun _ => rfl) (fun x l h => by unfold rTs; rw [cutL_map])
/-- a slice of a tuple of a form that is known, at written places -/
theorem re_slT {ma : Mo α} {ρ : α → Pr} {ρ' : γ → Pr} (g : α → γ) (ps : α → List Pr) (l h : Option Int) (ha : RE X W Γ a ma (.fz ρ)) (hl : RP X W Γ lo (pure l)) (hh : RP X W Γ hi (pure h)) (h1 : ∀ x, ρ x = rTu (ps x) := by intro _; rfl) (h2 : ∀ x, ρ' (g x) = rTu (cutL (ps x) l h) := by intro _; rfl) : RE X W Γ (.Subscript a (.Slice lo hi none p2) pos) (ma >>= fun z => pure (g z)) (.fz ρ') := by
  refine re_of (pe_slice sl_tupA peE poP poP) fun G σ F H Q o q => ?_
  refine ha G σ F H _ o (ma.mono (fun z hx v F1 H1 o1 g1 zz => ?_) (fun _ z => z) q)
  have zz : (ρ z).r v F1 := zz
  rw [h1 z] at zz
  obtain ⟨ad, vs, rfl, k1, k2⟩ := zz
  refine hl G σ F1 H1 _ o1 fun F2 H2 o2 g2 => ?_
  have g12 := g1.trans g2 owns_tr
  refine hh G σ F2 H2 _ o2 fun F3 H3 o3 g3 => ?_
  have g13 := g12.trans g3 owns_tr
  have s13 : Same F1 F3 := g2.fs.trans g3.fs
  have cut := (k2.mono s13).cut l h
  refine ⟨ad, vs, rfl, SqT.ofR (Rd.mono k1 (s13.trans o3.le)), fun e => ?_, fun _ d hd => ?_⟩
  · refine hx _ F3 H3 o3 g13 ?_
    show (ρ' (g z)).r _ _
    rw [h2 z]
    refine ⟨ad, vs, rfl, Rd.mono k1 s13, ?_⟩
    have : cutV vs l h = vs := by
      unfold cutV
      rw [e.1, e.2]
      simp
    rw [← this]
    exact cut
  · refine hx.ownF o3 g13 hd ?_
    show (ρ' (g z)).r _ _
    rw [h2 z]
    exact ⟨d, _, rfl, .inl upd_same, cut.mono (same_upd (o3.le.free hd))⟩
theorem rp_int {i : Int} {j : Nat} {p : Pos} : RP X W Γ (some (.Constant (.int i) j p)) (pure (some i)) := rp_some re_int
theorem rp_neg {i : Int} {j : Nat} {p p3 : Pos} : RP X W Γ (some (.UnaryOp .USub (.Constant (.int i) j p) p3)) (pure (some (-i))) := rp_some (re_neg re_int)
end
end
end RF
namespace RF
open PySem PySem.Spec PyProof.Rows L2 KO SX
section
variable {α β γ δ : Type} {X : Cx} {W : WX} {Γ : Ctx} {e a b : Expr} {pos : Pos} {k : Nat} {f C : Addr} {fd : FuncData} {ps : List Str} {CX : CXT} {sp : Sp}
def rStrO (C : Addr) (sp : Sp) (E : XK) : List V → Hp → VK → Prop := fun xs H Q => ∃ a dx fs, xs = [.ref a] ∧ H a = some (.ins C dx fs) ∧ sp [.ref a] H (fun v H' => ∃ z, v = .str z ∧ Q (.str z) H') E
theorem str_own {E : XK} (m : Meth X.K C "__str__" f) (F : FnOk X.prog X.w X.K X.mg X.base CX k f fd ps sp) (hr : Room (k + 2) X.A) (hb : Binds X.K fd ps []) (hx : ∀ σ, PassesAt CX X σ E) : CallR X (.type "str") (rStrO C sp E) := by
  intro pins s σ H xs us Q I r h
  obtain ⟨a, dx, fs, rfl, ha, q⟩ := h
  rw [Vals.ref1 r]
  obtain ⟨ox, od, J⟩ := inst_at I ha
  refine PySem.W.kso_call (by have := hr.in1.in1.un; omega) I.kIn J m.at_ m.fn (wpAny_mono (own_run (E := fun _ => E) (A := X.A.in1.in1) F hr.in1.in1 rfl hb (hx σ) I (.cons vref .nil) q) (fun u s' hu => ?_) fun _ _ x => x)
  obtain ⟨v, H', I', rv, z, rfl, q'⟩ := hu
  obtain ⟨t, rfl⟩ := rv
  exact ⟨.str z, H', I', ⟨t, rfl⟩, q'⟩
theorem calmF {Q' : VK} {G : Gf} {σ : L2.St} {F H : Hp} {Q : VK} {kr : RK γ} {m : Mo γ} (hq : ∀ y, NQ G Γ σ F H kr Q y → NQ G Γ σ F H kr Q' y) (q : (Mo.calm m).run (NQ G Γ σ F H kr Q) (EQ X W G Γ σ F H)) : m.run (NQ G Γ σ F H kr Q') (EQ X W0 G Γ σ F H) := m.mono (fun c h => hq c h) (fun _ z => z.elim) q
theorem arg1 {F H : Hp} {p : Pr} {v : V} (h : p.r v F) : ArgOk Γ F H [.fz p] [v] := ⟨rfl, fun i en u e1 e2 => by
  match i, e1, e2 with
  | 0, e1, e2 => cases e1; cases e2; exact h, fun i l a q h => by
  match i, h with
  | 0, h => cases h⟩
theorem re_strO {p : Pos} {m : α × Unit → Mo Str} {mx : Mo α} {ρ : α → Pr} (fs : α → List (Str × Pr)) (hm : Meth X.K C "__str__" f) (Fn : FnOk X.prog X.w X.K X.mg X.base (L2.CX X.prog X.w) k f fd ps (spR X.K X.mg (fun (_ : Unit) (z : α × Unit) => [.fz (ρ z.1)]) m (.fz rS))) (hr : Room (k + 2) X.A) (tk : Takes X W) (hb : Binds X.K fd ps [])
    (ha : RE X W Γ e mx (.fz ρ)) (hms : X.mg "str" = none) (hρ : ∀ x, ρ x = rIn C (fs x) := by intro _; rfl) (hg : Gl X "str" := by rfl) (he : starEach [e] X.env = [(false, eval e X.env)] := by rfl) : RE X W Γ (.Call (.Name "str" p) [e] [] pos) (mx >>= fun x => Mo.calm (m (x, ()))) (.fz rS) := by
  refine re_of (pe_callTy (str_own hm Fn hr hb (pass_calm tk)) hg hms (by decide +kernel) (pa_cons peE pa_nil he) (by decide) (by decide) he rfl) fun G σ F H Q o q => ?_
  refine ha G σ F H _ o (mx.mono (fun x hx v F' H' o' g' z => ?_) (fun _ z => z) q)
  have z' : (ρ x).r v F' := z
  have z0 : (ρ x).r v F' := z
  rw [hρ x] at z'
  obtain ⟨ad, dx, gs, rfl, h1, _⟩ := z'
  refine ⟨ad, dx, gs, rfl, o'.le _ _ h1, ?_⟩
  exact run_spR (W := W0) (Γ := Γ) (i := ()) (y := (x, ())) o' (arg1 z0) rfl (calmF (fun y hy v F' H' o' g' z => by
    have z : v = .str y := z
    subst z
    exact ⟨y, rfl, hy _ F' H' o' g' rfl⟩) (run_step g' hx))
theorem re_lenO {p : Pos} {m : α × Unit → Mo Int} {mx : Mo α} {ρ : α → Pr} (fs : α → List (Str × Pr)) (hm : Meth X.K C "__len__" f) (Fn : FnOk X.prog X.w X.K X.mg X.base (L2.CX X.prog X.w) k f fd ps (spR X.K X.mg (fun (_ : Unit) (z : α × Unit) => [.fz (ρ z.1)]) m (.fz rI))) (hr : Room (k + 1) X.A) (tk : Takes X W) (hb : Binds X.K fd ps [])
    (ha : RE X W Γ e mx (.fz ρ)) (hms : X.mg "len" = none) (hρ : ∀ x, ρ x = rIn C (fs x) := by intro _; rfl) (hg : Gl X "len" := by rfl) (he : starEach [e] X.env = [(false, eval e X.env)] := by rfl) : RE X W Γ (.Call (.Name "len" p) [e] [] pos) (mx >>= fun x => Mo.calm (m (x, ())) >>= fun n => Mo.rq (0 ≤ n ∧ n < 2 ^ 63) n) (.fz rI) := by
  refine re_of (pe_callB (len_own hm Fn hr hb (pass_calm tk)) hg hms (by decide +kernel) (pa_cons peE pa_nil he) (by decide) (by decide) he rfl) fun G σ F H Q o q => ?_
  refine ha G σ F H _ o (mx.mono (fun x hx v F' H' o' g' z => ?_) (fun _ z => z) q)
  have z' : (ρ x).r v F' := z
  have z0 : (ρ x).r v F' := z
  rw [hρ x] at z'
  obtain ⟨ad, dx, gs, rfl, h1, _⟩ := z'
  refine ⟨ad, dx, gs, rfl, o'.le _ _ h1, ?_⟩
  have hx' : (Mo.calm (m (x, ()))).run (fun n => (0 ≤ n ∧ n < 2 ^ 63) ∧ NQ G Γ σ F' H' (.fz rI) Q n) (EQ X W0 G Γ σ F' H') := Mo.mono _ (fun n hn => ⟨hn.1, NQ.step g' hn.2⟩) (fun _ z => False.elim z) hx
  refine run_spR (W := W0) (Γ := Γ) (i := ()) (y := (x, ())) o' (arg1 z0) rfl ((m (x, ())).mono (fun n hn v F2 H2 o2 g2 z => ?_) (fun _ z => z.elim) hx')
  have z : v = .int n := z
  subst z
  exact ⟨n, rfl, hn.1.1, hn.1.2, hn.2 _ F2 H2 o2 g2 rfl⟩
end
end RF
namespace RF
open PySem PySem.Spec PyProof.Rows L2 KO SX
/-! ### texts by their signs -/
def tl (z : Str) : List Nat := z.cps.toList
theorem len_tl (z : Str) : z.length = (tl z).length := by unfold tl Str.length; rw [Array.length_toList]
theorem str_ext {x y : Str} (h : tl x = tl y) : x = y := by
  cases x with | mk a => cases y with | mk b => exact congrArg Str.mk (Array.toList_inj.mp h)
theorem tl_app (x y : Str) : tl (x ++ y) = tl x ++ tl y := by show (x.cps ++ y.cps).toList = _; simp [tl]
theorem len_app (x y : Str) : (x ++ y).length = x.length + y.length := by rw [len_tl, tl_app, List.length_append, ← len_tl, ← len_tl]
theorem tl_mk (l : List Nat) : tl ⟨l.toArray⟩ = l := by simp [tl]
theorem tl_one (c : Nat) : tl ⟨#[c]⟩ = [c] := rfl
theorem tl_cut (z : Str) (l h : Option Int) : tl (cutS z l h) = cutL (tl z) l h := by
  unfold cutS cutL
  rw [tl_mk, ← len_tl]
  rfl
section
variable {α : Type}
theorem cut_to (xs : List α) {k : Int} (h : 0 ≤ k) : cutL xs none (some k) = xs.take k.toNat := by
  unfold cutL
  rw [HT.sIx_none, show k = ((k.toNat : Nat) : Int) by omega, HT.sIx_nat]
  rw [Int.toNat_natCast, List.drop_zero, Nat.sub_zero]
  by_cases h : k.toNat ≤ xs.length
  · rw [Nat.min_eq_left h]
  · rw [Nat.min_eq_right (by omega), List.take_of_length_le (Nat.le_refl _), List.take_of_length_le (by omega)]
theorem cut_from (xs : List α) {k : Int} (h : 0 ≤ k) : cutL xs (some k) none = xs.drop k.toNat := by
  unfold cutL
  rw [HT.sIx_none, show k = ((k.toNat : Nat) : Int) by omega, HT.sIx_nat]
  rw [Int.toNat_natCast]
  by_cases h : k.toNat ≤ xs.length
  · rw [Nat.min_eq_left h, List.take_of_length_le (by rw [List.length_drop]; omega)]
  · rw [Nat.min_eq_right (by omega), List.drop_eq_nil_of_le (as := xs) (i := k.toNat) (by omega)]
    simp
theorem atI_in {xs : List α} {i : Int} (h : 0 ≤ i) (h2 : i < xs.length) : ∃ x, atI xs i = some x ∧ xs[i.toNat]? = some x := by
  have h3 : i.toNat < xs.length := by omega
  refine ⟨xs[i.toNat], ?_, List.getElem?_eq_getElem h3⟩
  unfold atI ixN
  rw [if_pos h, if_pos h2]
  exact List.getElem?_eq_getElem h3
theorem atI_zero {x : α} {xs : List α} : atI (x :: xs) 0 = some x := by
  unfold atI ixN
  rw [if_pos (by decide), if_pos (by simp)]
  rfl
theorem cpow9 : CPow 10 9 := by unfold CPow; decide
theorem cpow8 : CPow 10 8 := by unfold CPow; decide
theorem pow9 : ((10 : Int) ^ (9 : Int).toNat) = 1000000000 := by decide +kernel
theorem pow8 : ((10 : Int) ^ (8 : Int).toNat) = 100000000 := by decide +kernel
theorem atI_last {xs : List α} {x : α} (h : xs.getLast? = some x) : atI xs (-1) = some x := by
  rw [List.getLast?_eq_getElem?] at h
  have h3 : xs.length - 1 < xs.length := by
    by_cases hz : xs.length = 0
    · rw [List.getElem?_eq_none (by omega)] at h; cases h
    · omega
  unfold atI ixN
  rw [if_neg (by decide), if_pos (by omega)]
  show xs[((-1 : Int) + xs.length).toNat]? = some x
  rw [show ((-1 : Int) + xs.length).toNat = xs.length - 1 by omega]
  exact h
theorem nodup_le : ∀ {l m : List α}, l.Nodup → (∀ x ∈ l, x ∈ m) → l.length ≤ m.length
  | [], _, _, _ => Nat.zero_le _
  | x :: l, m, hn, h => by
    obtain ⟨s, t, e⟩ := List.append_of_mem (h x List.mem_cons_self)
    subst e
    obtain ⟨h1, h2⟩ := List.nodup_cons.mp hn
    have := nodup_le (l := l) (m := s ++ t) h2 fun y hy => by
      have := h y (List.mem_cons_of_mem _ hy)
      rcases List.mem_append.mp this with k | k
      · exact List.mem_append_left _ k
      · rcases List.mem_cons.mp k with e | k
        · subst e; exact absurd hy h1
        · exact List.mem_append_right _ k
    simp only [List.length_append, List.length_cons] at this ⊢
    omega
end
theorem fold_app {α : Type} (a : Array α) : ∀ (n : Nat) (b : Array α), ((List.replicate n a).foldl (· ++ ·) b).toList = b.toList ++ (List.replicate n a.toList).flatten
  | 0, b => by simp
  | n + 1, b => by rw [List.replicate_succ, List.foldl_cons, fold_app a n]; simp [List.replicate_succ]
theorem tl_mul (x : Str) {n : Int} (h : 0 ≤ n) : tl (Txt.mul x n) = (List.replicate n.toNat (tl x)).flatten := by
  unfold Txt.mul
  split
  · rename_i h1
    rw [show n.toNat = 0 by omega]
    rfl
  · split
    · rename_i h1 h2
      rw [Bool.or_eq_true] at h2
      rcases h2 with h2 | h2
      · have : n = 1 := by simpa using h2
        subst this
        simp [List.replicate]
      · have : x.length = 0 := by simpa using h2
        rw [len_tl] at this
        rw [List.eq_nil_of_length_eq_zero this]
        simp
    · rw [show tl ⟨(List.replicate n.toNat x.cps).foldl (· ++ ·) #[]⟩ = ((List.replicate n.toNat x.cps).foldl (· ++ ·) #[]).toList from rfl, fold_app]
      simp [tl]
theorem len_mul (x : Str) {n : Int} (h : 0 ≤ n) : (Txt.mul x n).length = n.toNat * x.length := by
  rw [len_tl, tl_mul x h, len_tl]
  simp
theorem tl_join0 : ∀ ys : List Str, tl (Txt.join ("" : Str) ys) = (ys.map tl).flatten := by
  intro ys
  unfold Txt.join
  rw [StrLaws.glued_eq_join]
  induction ys with
  | nil => rfl
  | cons y ys ih =>
    cases ys with
    | nil => simp [Str.join]
    | cons z zs =>
      show tl (y ++ ("" : Str) ++ Str.join "" (z :: zs)) = _
      rw [tl_app, tl_app, ih]
      have : tl ("" : Str) = [] := by decide +kernel
      rw [this]
      simp
/-- a name: one to eight letters -/
def isw (z : Str) : Prop := (1 ≤ z.length ∧ z.length ≤ 8) ∧ ∀ c ∈ tl z, 97 ≤ c ∧ c ≤ 122
instance (z : Str) : Decidable (isw z) := by unfold isw; infer_instance
theorem isw_len {z : Str} (h : isw z) : z.length ≤ 8 := h.1.2
theorem mem_chars {z w : Str} (h : w ∈ chars z) : ∃ c, c ∈ tl z ∧ w = ⟨#[c]⟩ := by
  unfold chars at h
  obtain ⟨c, hc, rfl⟩ := List.mem_map.mp h
  exact ⟨c, hc, rfl⟩
theorem lt_one {a b : Nat} : ([a] < [b]) ↔ a < b := by rw [List.cons_lt_cons_iff]; simp [List.not_lt_nil]
theorem len_chars (z : Str) : (chars z).length = z.length := by unfold chars; rw [List.length_map, len_tl]; rfl
theorem join_len0 {ys : List Str} : (Txt.join ("" : Str) ys).length = (ys.map (·.length)).sum := by
  rw [len_tl, tl_join0]
  induction ys with
  | nil => rfl
  | cons y ys ih => simp [ih, len_tl]
abbrev abc : Str := "abcdefghijklmnopqrstuvwxyz"
theorem tl_abc : tl abc = (List.range 26).map (97 + ·) := by decide +kernel
theorem len_abc : abc.length = 26 := by decide +kernel
theorem chars_abc : chars abc = (List.range 26).map fun i => (⟨#[97 + i]⟩ : Str) := by
  show (tl abc).map _ = _
  rw [tl_abc, List.map_map]
  rfl
theorem abc_at {i : Int} (h : 0 ≤ i) (h2 : i < 26) : ∃ c, 97 ≤ c ∧ c ≤ 122 ∧ atI (chars abc) i = some ⟨#[c]⟩ := by
  obtain ⟨x, e1, e2⟩ := atI_in (xs := chars abc) h (by rw [len_chars, len_abc]; exact h2)
  rw [chars_abc, List.getElem?_map, List.getElem?_range (by omega)] at e2
  exact ⟨97 + i.toNat, by omega, by omega, e1.trans e2.symm⟩
theorem isw_of_join {ys : List Str} (h1 : 1 ≤ ys.length) (h2 : ys.length ≤ 8) (h : ∀ y ∈ ys, ∃ c, 97 ≤ c ∧ c ≤ 122 ∧ y = ⟨#[c]⟩) : isw (Txt.join ("" : Str) ys) := by
  have hl : (ys.map (·.length)).sum = ys.length := by
    clear h1 h2
    induction ys with
    | nil => rfl
    | cons y ys ih =>
      obtain ⟨c, _, _, rfl⟩ := h y List.mem_cons_self
      rw [List.map_cons, List.sum_cons, ih fun z hz => h z (List.mem_cons_of_mem _ hz)]
      show 1 + ys.length = _
      simp [Nat.add_comm]
  refine ⟨by rw [join_len0, hl]; exact ⟨h1, h2⟩, fun c hc => ?_⟩
  rw [tl_join0] at hc
  obtain ⟨l, hl, hc⟩ := List.mem_flatten.mp hc
  obtain ⟨y, hy, rfl⟩ := List.mem_map.mp hl
  obtain ⟨d, k1, k2, rfl⟩ := h y hy
  simp [tl_one] at hc
  subst hc
  exact ⟨k1, k2⟩
theorem run_lc {β γ : Type} {c : β → Mo Bool} {f : β → Mo γ} {xs : List β} {Q : List γ → Prop} {E : Ex → Prop} (hl : xs.length ≤ sizeLine) (h : (Mo.comp c f xs).run Q (fun _ => False)) : (Mo.lc c f xs).run Q E := ⟨hl, h⟩
end RF
namespace RF
open PySem PySem.Spec PyProof.Rows L2 KO SX
/-! ### == of data of one kind -/
theorem eqvAll_map {α : Type} {d : α → PyData} (h : ∀ x y, PyData.eqv (d x) (d y) = true ↔ x = y) : ∀ xs ys : List α, PyData.eqvAll (xs.map d) (ys.map d) = true ↔ xs = ys
  | [], [] => by simp [PyData.eqvAll]
  | x :: xs, [] => by simp [PyData.eqvAll]
  | [], y :: ys => by simp [PyData.eqvAll]
  | x :: xs, y :: ys => by simp [PyData.eqvAll, h, eqvAll_map h xs ys]
def Lay (n : Nat) (d : PyData) : Prop := d.canLay0 = true ∧ d.depth ≤ n
theorem lay_all {α : Type} {d : α → PyData} {n : Nat} : ∀ {xs : List α}, (∀ x ∈ xs, Lay n (d x)) → PyData.canLayAll0 (xs.map d) = true ∧ PyData.depthAll (xs.map d) ≤ n
  | [], _ => by simp [PyData.canLayAll0, PyData.depthAll]
  | x :: xs, h => by
    have h1 := h x List.mem_cons_self
    have h2 := lay_all fun y hy => h y (List.mem_cons_of_mem _ hy)
    simp [PyData.canLayAll0, PyData.depthAll]
    exact ⟨⟨h1.1, h2.1⟩, Nat.max_le.mpr ⟨h1.2, h2.2⟩⟩
theorem lay_tup {n : Nat} {ds : List PyData} (h : ∀ d ∈ ds, Lay n d) : Lay (n + 1) (.tuple ds) := by
  have := lay_all (d := fun d => d) (n := n) h
  rw [List.map_id'] at this
  exact ⟨by simp [PyData.canLay0, this.1], by simp [PyData.depth, this.2]⟩
theorem lay_lst {n : Nat} {ds : List PyData} (h : ∀ d ∈ ds, Lay n d) : Lay (n + 1) (.list ds) := by
  have := lay_all (d := fun d => d) (n := n) h
  rw [List.map_id'] at this
  exact ⟨by simp [PyData.canLay0, this.1], by simp [PyData.depth, this.2]⟩
theorem Lay.le {n m : Nat} {d : PyData} (h : Lay n d) (k : n ≤ m) : Lay m d := ⟨h.1, by have := h.2; omega⟩
theorem Lay.shaped {n : Nat} {d : PyData} (h : Lay n d) (k : n ≤ 64) : SeqAt.shaped d = true := by
  unfold SeqAt.shaped
  rw [h.1, Bool.true_and]
  have := h.2
  simp; omega
/-- data whose == tells equality -/
class EqE {α : Type} (ρ : α → Pr) extends Enc ρ where
  k : α → Prop
  kok : ∀ {x}, k x → ok x
  lay : ∀ {x}, k x → Lay n (d x)
  eqv : ∀ x y, PyData.eqv (d x) (d y) = true ↔ x = y
section
variable {α β γ δ ε ζ : Type}
instance eqI : EqE rI := { encI with k := fun _ => True, kok := fun h => h, lay := fun _ => ⟨by show PyData.canLay0 (.int _) = true; simp [PyData.canLay0], by show PyData.depth (.int _) ≤ _; simp [PyData.depth]⟩, eqv := fun x y => by show PyData.eqv (.int x) (.int y) = true ↔ _; simp [PyData.eqv] }
instance eqB : EqE rB := { encB with k := fun _ => True, kok := fun h => h, lay := fun _ => ⟨by show PyData.canLay0 (.bool _) = true; simp [PyData.canLay0], by show PyData.depth (.bool _) ≤ _; simp [PyData.depth]⟩, eqv := fun x y => by show PyData.eqv (.bool x) (.bool y) = true ↔ _; simp [PyData.eqv] }
instance eqN : EqE rN := { encN with k := fun _ => True, kok := fun h => h, lay := fun _ => ⟨by show PyData.canLay0 .none = true; simp [PyData.canLay0], by show PyData.depth .none ≤ _; simp [PyData.depth]⟩, eqv := fun x y => by show PyData.eqv .none .none = true ↔ _; simp [PyData.eqv] }
instance eqS : EqE rS := { encS with k := fun x => PyData.strOk x = true, kok := fun _ => trivial, lay := fun h => ⟨by show PyData.canLay0 (.str _) = true; simpa [PyData.canLay0] using h, by show PyData.depth (.str _) ≤ _; simp [PyData.depth]⟩, eqv := fun x y => by show PyData.eqv (.str x) (.str y) = true ↔ _; simp [PyData.eqv] }
/-- data that are not None -/
class NoN {α : Type} (ρ : α → Pr) [Enc ρ] : Prop where
  nn : ∀ x, PyData.eqv (Enc.d ρ x) .none = false ∧ PyData.eqv .none (Enc.d ρ x) = false
instance : NoN rI := ⟨fun x => by constructor <;> simp [Enc.d, PyData.eqv]⟩
instance : NoN rB := ⟨fun x => by constructor <;> simp [Enc.d, PyData.eqv]⟩
instance : NoN rS := ⟨fun x => by constructor <;> simp [Enc.d, PyData.eqv]⟩
section
variable {ρ : α → Pr} {σ : β → Pr} {τ : γ → Pr} {υ : δ → Pr} {φ : ε → Pr} {χ : ζ → Pr}
instance [Enc ρ] : NoN (rL ρ) := ⟨fun x => by constructor <;> simp [Enc.d, PyData.eqv]⟩
instance [Enc ρ] : NoN (rTs ρ) := ⟨fun x => by constructor <;> simp [Enc.d, PyData.eqv]⟩
instance [Enc ρ] [Enc σ] : NoN (rT2 ρ σ) := ⟨fun x => by constructor <;> simp [Enc.d, PyData.eqv]⟩
instance [Enc ρ] [Enc σ] [Enc τ] : NoN (rT3 ρ σ τ) := ⟨fun x => by constructor <;> simp [Enc.d, PyData.eqv]⟩
instance [Enc ρ] [Enc σ] [Enc τ] [Enc υ] : NoN (rT4 ρ σ τ υ) := ⟨fun x => by constructor <;> simp [Enc.d, PyData.eqv]⟩
instance [Enc ρ] [Enc σ] [Enc τ] [Enc υ] [Enc φ] : NoN (rT5 ρ σ τ υ φ) := ⟨fun x => by constructor <;> simp [Enc.d, PyData.eqv]⟩
instance [Enc ρ] [Enc σ] [Enc τ] [Enc υ] [Enc φ] [Enc χ] : NoN (rT6 ρ σ τ υ φ χ) := ⟨fun x => by constructor <;> simp [Enc.d, PyData.eqv]⟩
instance eqO [s : EqE ρ] [NoN ρ] : EqE (rO ρ) := { encO (ρ := ρ) with
  k := fun o => match o with | none => True | some x => s.k x
  kok := fun {x} h => by cases x with
    | none => exact h
    | some x => exact s.kok h
  lay := fun {x} h => by cases x with
    | none => exact ⟨by show PyData.canLay0 .none = true; simp [PyData.canLay0], by show PyData.depth .none ≤ _; simp [PyData.depth]⟩
    | some x => exact (s.lay h).le (Nat.le_succ _)
  eqv := fun x y => by
    cases x with
    | none => cases y with
      | none => show PyData.eqv .none .none = true ↔ _; simp [PyData.eqv]
      | some y => show PyData.eqv .none (s.d y) = true ↔ _; rw [show PyData.eqv .none (s.d y) = false from (NoN.nn (ρ := ρ) y).2]; simp
    | some x => cases y with
      | none => show PyData.eqv (s.d x) .none = true ↔ _; rw [show PyData.eqv (s.d x) .none = false from (NoN.nn (ρ := ρ) x).1]; simp
      | some y => show PyData.eqv (s.d x) (s.d y) = true ↔ _; rw [s.eqv]; simp }
instance eqL [s : EqE ρ] : EqE (rL ρ) := { encL (ρ := ρ) with
  k := fun xs => xs.length ≤ 1000 ∧ ∀ x ∈ xs, s.k x
  kok := fun h => ⟨h.1, fun x hx => s.kok (h.2 x hx)⟩
  lay := fun h => lay_lst fun d hd => by
    obtain ⟨x, hx, rfl⟩ := List.mem_map.mp hd
    exact s.lay (h.2 x hx)
  eqv := fun x y => by show PyData.eqv (.list (x.map s.d)) (.list (y.map s.d)) = true ↔ _; simp only [PyData.eqv]; exact eqvAll_map s.eqv x y }
instance eqTs [s : EqE ρ] : EqE (rTs ρ) := { encTs (ρ := ρ) with
  k := fun xs => xs.length ≤ 1000 ∧ ∀ x ∈ xs, s.k x
  kok := fun h => ⟨h.1, fun x hx => s.kok (h.2 x hx)⟩
  lay := fun h => lay_tup fun d hd => by
    obtain ⟨x, hx, rfl⟩ := List.mem_map.mp hd
    exact s.lay (h.2 x hx)
  eqv := fun x y => by show PyData.eqv (.tuple (x.map s.d)) (.tuple (y.map s.d)) = true ↔ _; simp only [PyData.eqv]; exact eqvAll_map s.eqv x y }
theorem mem1 {P : PyData → Prop} {d : PyData} (h : P d) : ∀ e ∈ [d], P e := fun e he => by rw [List.mem_singleton.mp he]; exact h
theorem memc {P : PyData → Prop} {d : PyData} {ds : List PyData} (h : P d) (k : ∀ e ∈ ds, P e) : ∀ e ∈ d :: ds, P e := fun e he => by
  rcases List.mem_cons.mp he with q | q
  · rw [q]; exact h
  · exact k e q
variable [r : EqE ρ] [s : EqE σ] [t : EqE τ] [u : EqE υ] [w : EqE φ] [z : EqE χ]
instance eqT1 : EqE (rT1 ρ) := { encT1 (ρ := ρ) with
  k := fun x => r.k x, kok := fun h => r.kok h, lay := fun h => lay_tup (mem1 (r.lay h)), eqv := fun x y => by show PyData.eqv (.tuple [r.d x]) (.tuple [r.d y]) = true ↔ _; simp [PyData.eqv, PyData.eqvAll, r.eqv] }
instance eqT2 : EqE (rT2 ρ σ) := { encT2 (ρ := ρ) (σ := σ) with
  k := fun x => r.k x.1 ∧ s.k x.2
  kok := fun h => ⟨r.kok h.1, s.kok h.2⟩
  lay := fun h => lay_tup (memc ((r.lay h.1).le (by omega)) (mem1 ((s.lay h.2).le (by omega))))
  eqv := fun x y => by obtain ⟨x1, x2⟩ := x; obtain ⟨y1, y2⟩ := y; show PyData.eqv (.tuple [r.d x1, s.d x2]) (.tuple [r.d y1, s.d y2]) = true ↔ _; simp [PyData.eqv, PyData.eqvAll, r.eqv, s.eqv] }
instance eqT3 : EqE (rT3 ρ σ τ) := { encT3 (ρ := ρ) (σ := σ) (τ := τ) with
  k := fun x => r.k x.1 ∧ s.k x.2.1 ∧ t.k x.2.2
  kok := fun h => ⟨r.kok h.1, s.kok h.2.1, t.kok h.2.2⟩
  lay := fun h => lay_tup (memc ((r.lay h.1).le (by omega)) (memc ((s.lay h.2.1).le (by omega)) (mem1 ((t.lay h.2.2).le (by omega)))))
  eqv := fun x y => by obtain ⟨x1, x2, x3⟩ := x; obtain ⟨y1, y2, y3⟩ := y; show PyData.eqv (.tuple [r.d x1, s.d x2, t.d x3]) (.tuple [r.d y1, s.d y2, t.d y3]) = true ↔ _; simp [PyData.eqv, PyData.eqvAll, r.eqv, s.eqv, t.eqv] }
instance eqT4 : EqE (rT4 ρ σ τ υ) := { encT4 (ρ := ρ) (σ := σ) (τ := τ) (υ := υ) with
  k := fun x => r.k x.1 ∧ s.k x.2.1 ∧ t.k x.2.2.1 ∧ u.k x.2.2.2
  kok := fun h => ⟨r.kok h.1, s.kok h.2.1, t.kok h.2.2.1, u.kok h.2.2.2⟩
  lay := fun h => lay_tup (memc ((r.lay h.1).le (by omega)) (memc ((s.lay h.2.1).le (by omega)) (memc ((t.lay h.2.2.1).le (by omega)) (mem1 ((u.lay h.2.2.2).le (by omega))))))
  eqv := fun x y => by obtain ⟨x1, x2, x3, x4⟩ := x; obtain ⟨y1, y2, y3, y4⟩ := y; show PyData.eqv (.tuple [r.d x1, s.d x2, t.d x3, u.d x4]) (.tuple [r.d y1, s.d y2, t.d y3, u.d y4]) = true ↔ _; simp [PyData.eqv, PyData.eqvAll, r.eqv, s.eqv, t.eqv, u.eqv] }
instance eqT5 : EqE (rT5 ρ σ τ υ φ) := { encT5 (ρ := ρ) (σ := σ) (τ := τ) (υ := υ) (φ := φ) with
  k := fun x => r.k x.1 ∧ s.k x.2.1 ∧ t.k x.2.2.1 ∧ u.k x.2.2.2.1 ∧ w.k x.2.2.2.2
  kok := fun h => ⟨r.kok h.1, s.kok h.2.1, t.kok h.2.2.1, u.kok h.2.2.2.1, w.kok h.2.2.2.2⟩
  lay := fun h => lay_tup (memc ((r.lay h.1).le (by omega)) (memc ((s.lay h.2.1).le (by omega)) (memc ((t.lay h.2.2.1).le (by omega)) (memc ((u.lay h.2.2.2.1).le (by omega)) (mem1 ((w.lay h.2.2.2.2).le (by omega)))))))
  eqv := fun x y => by obtain ⟨x1, x2, x3, x4, x5⟩ := x; obtain ⟨y1, y2, y3, y4, y5⟩ := y; show PyData.eqv (.tuple [r.d x1, s.d x2, t.d x3, u.d x4, w.d x5]) (.tuple [r.d y1, s.d y2, t.d y3, u.d y4, w.d y5]) = true ↔ _; simp [PyData.eqv, PyData.eqvAll, r.eqv, s.eqv, t.eqv, u.eqv, w.eqv] }
instance eqT6 : EqE (rT6 ρ σ τ υ φ χ) := { encT6 (ρ := ρ) (σ := σ) (τ := τ) (υ := υ) (φ := φ) (χ := χ) with
  k := fun x => r.k x.1 ∧ s.k x.2.1 ∧ t.k x.2.2.1 ∧ u.k x.2.2.2.1 ∧ w.k x.2.2.2.2.1 ∧ z.k x.2.2.2.2.2
  kok := fun h => ⟨r.kok h.1, s.kok h.2.1, t.kok h.2.2.1, u.kok h.2.2.2.1, w.kok h.2.2.2.2.1, z.kok h.2.2.2.2.2⟩
  lay := fun h => lay_tup (memc ((r.lay h.1).le (by omega)) (memc ((s.lay h.2.1).le (by omega)) (memc ((t.lay h.2.2.1).le (by omega)) (memc ((u.lay h.2.2.2.1).le (by omega)) (memc ((w.lay h.2.2.2.2.1).le (by omega)) (mem1 ((z.lay h.2.2.2.2.2).le (by omega))))))))
  eqv := fun x y => by obtain ⟨x1, x2, x3, x4, x5, x6⟩ := x; obtain ⟨y1, y2, y3, y4, y5, y6⟩ := y; show PyData.eqv (.tuple [r.d x1, s.d x2, t.d x3, u.d x4, w.d x5, z.d x6]) (.tuple [r.d y1, s.d y2, t.d y3, u.d y4, w.d y5, z.d y6]) = true ↔ _; simp [PyData.eqv, PyData.eqvAll, r.eqv, s.eqv, t.eqv, u.eqv, w.eqv, z.eqv] }
end
end
theorem _root_.L2.Room.u65 {k : Nat} {A : Around} (r : Room k A) : A.units + 65 < cLine := by have := r.un; omega
section
variable {α β γ δ : Type} {X : Cx} {W : WX} {Γ : Ctx} {e a b : Expr} {pos : Pos} {ρ : α → Pr}
/-- fit to be compared -/
def Eqk (ρ : α → Pr) [s : EqE ρ] (x : α) : Prop := s.k x
theorem dp_of [s : EqE ρ] {K : PySem.W.Frag} {F H : Hp} {x : α} {v : V} (h : (ρ x).r v F) (k : s.k x) (le : Same F H) : Dp K H v (s.d x) := ((s.is (s.kok k) h).mono le).dp
variable [s : EqE ρ] [DecidableEq α] {ma mb : Mo α}
theorem rc_eqE (hu : X.A.units + 64 < cLine) (hn : s.n ≤ 64 := by decide) (ha : RE X W Γ a ma (.fz ρ)) (hb : RE X W Γ b mb (.fz ρ)) : RC X W Γ .Eq a b (ma >>= fun x => mb >>= fun y => Mo.rq (Eqk ρ x ∧ Eqk ρ y) (decide (x = y))) :=
  ⟨_, op_eqD hu, rte_two ha hb fun x y G σ F H Q u w o hu hw q => by
    refine ⟨_, _, dp_of hu q.1.1 o.le, dp_of hw q.1.2 o.le, (s.lay q.1.1).shaped hn, (s.lay q.1.2).shaped hn, ?_⟩
    have e : PyData.eqv (s.d x) (s.d y) = decide (x = y) := by rw [Bool.eq_iff_iff, s.eqv]; simp
    rw [e]
    exact NQ.here (ρ := rB) q.2 o rfl⟩
theorem rc_neE (hu : X.A.units + 64 < cLine) (hn : s.n ≤ 64 := by decide) (ha : RE X W Γ a ma (.fz ρ)) (hb : RE X W Γ b mb (.fz ρ)) : RC X W Γ .NotEq a b (ma >>= fun x => mb >>= fun y => Mo.rq (Eqk ρ x ∧ Eqk ρ y) (!decide (x = y))) :=
  ⟨_, op_neD hu, rte_two ha hb fun x y G σ F H Q u w o hu hw q => by
    refine ⟨_, _, dp_of hu q.1.1 o.le, dp_of hw q.1.2 o.le, (s.lay q.1.1).shaped hn, (s.lay q.1.2).shaped hn, ?_⟩
    have e : PyData.eqv (s.d x) (s.d y) = decide (x = y) := by rw [Bool.eq_iff_iff, s.eqv]; simp
    rw [e]
    exact NQ.here (ρ := rB) q.2 o rfl⟩
/-! in -/
def rInT (K : PySem.W.Frag) : R2 := fun x y H Q => ∃ d ds, Dp K H x d ∧ Dp K H y (.tuple ds) ∧ SeqAt.shaped d = true ∧ SeqAt.shaped (.tuple ds) = true ∧ Q (.bl (ds.any fun z => PyData.eqv z d)) H
def rNotInT (K : PySem.W.Frag) : R2 := fun x y H Q => ∃ d ds, Dp K H x d ∧ Dp K H y (.tuple ds) ∧ SeqAt.shaped d = true ∧ SeqAt.shaped (.tuple ds) = true ∧ Q (.bl (!ds.any fun z => PyData.eqv z d)) H
theorem op_inT (hu : X.A.units + 65 < cLine) : OpR X (compareOp .In) (rInT X.K) := by
  intro pins s σ H x y v u Q I rx ry h
  obtain ⟨d, ds, hd, he, sd, se, q⟩ := h
  obtain ⟨as, r1⟩ := Dp.reads I d x v hd rx
  obtain ⟨bs, r2⟩ := Dp.reads I (.tuple ds) y u he ry
  exact SeqAt.in_tuple_reads r2 r1 (SeqAt.canLay_of_shaped se) (SeqAt.canLay_of_shaped sd) (room_in_shaped sd hu) ⟨.bl _, H, I, rfl, q⟩
theorem op_notInT (hu : X.A.units + 65 < cLine) : OpR X (compareOp .NotIn) (rNotInT X.K) := by
  intro pins s σ H x y v u Q I rx ry h
  obtain ⟨d, ds, hd, he, sd, se, q⟩ := h
  obtain ⟨as, r1⟩ := Dp.reads I d x v hd rx
  obtain ⟨bs, r2⟩ := Dp.reads I (.tuple ds) y u he ry
  exact SeqAt.notIn_tuple_reads r2 r1 (SeqAt.canLay_of_shaped se) (SeqAt.canLay_of_shaped sd) (room_in_shaped sd hu) ⟨.bl _, H, I, rfl, q⟩
theorem any_mem {x : α} {ys : List α} : ((ys.map s.d).any fun z => PyData.eqv z (s.d x)) = decide (x ∈ ys) := by
  rw [List.any_map, Bool.eq_iff_iff, List.any_eq_true, decide_eq_true_eq]
  constructor
  · rintro ⟨y, hy, h⟩
    have := (s.eqv y x).mp h
    subst this
    exact hy
  · intro h
    exact ⟨x, h, (s.eqv x x).mpr rfl⟩
theorem dt_all {F : Hp} {ys : List α} {vs : List V} (h : Ps F (ys.map ρ) vs) (k : ∀ y ∈ ys, s.k y) : vs.length = (ys.map s.d).length ∧ ∀ (i : Nat) (x : V) (c : PyData), vs[i]? = some x → (ys.map s.d)[i]? = some c → Dt s.n F x c :=
  dt_ps (ds := ys.map s.d) (by simp) (dt_map (s := s.toEnc) fun y hy => s.kok (k y hy)) h
theorem lays {ys : List α} (k : ∀ y ∈ ys, s.k y) : ∀ d ∈ ys.map s.d, Lay s.n d := fun d hd => by
  obtain ⟨x, hx, rfl⟩ := List.mem_map.mp hd
  exact s.lay (k x hx)
variable {ml : Mo (List α)}
def Eqks (ρ : α → Pr) [s : EqE ρ] (xs : List α) : Prop := xs.length ≤ 1000 ∧ ∀ x ∈ xs, s.k x
theorem rc_inE (hu : X.A.units + 65 < cLine) (hn : s.n ≤ 60 := by decide) (ha : RE X W Γ a ma (.fz ρ)) (hb : RSq X W Γ true b ml ρ) : RC X W Γ .In a b (ma >>= fun x => ml >>= fun ys => Mo.rq (Eqk ρ x ∧ Eqks ρ ys) (decide (x ∈ ys))) :=
  ⟨_, op_inD hu, fun G σ F H Q o q => by
    refine ha G σ F H _ o (ma.mono (fun x hx v F1 H1 o1 g1 z1 => ?_) (fun _ z => z) q)
    refine hb G σ F1 H1 _ o1 (ml.mono (fun ys hy ad vs F2 H2 o2 g2 z2 z3 => ?_) (fun _ => EQ.step g1) hx)
    obtain ⟨⟨k1, k2⟩, hy⟩ := hy
    obtain ⟨h3, h4⟩ := dt_all z3 k2.2
    refine ⟨_, _, dp_of z1 k1 (g2.fs.trans o2.le), .lst (SqL.of z2) (DpAll.ofI h3 fun i x c e1 e2 => ((h4 i x c e1 e2).mono o2.le).dp), (s.lay k1).shaped (by omega), (lay_lst (lays k2.2)).shaped (by omega), ?_⟩
    rw [any_mem]
    exact hy _ F2 H2 o2 (g1.trans g2 owns_tr) rfl⟩
theorem rc_ninE (hu : X.A.units + 65 < cLine) (hn : s.n ≤ 60 := by decide) (ha : RE X W Γ a ma (.fz ρ)) (hb : RSq X W Γ true b ml ρ) : RC X W Γ .NotIn a b (ma >>= fun x => ml >>= fun ys => Mo.rq (Eqk ρ x ∧ Eqks ρ ys) (!decide (x ∈ ys))) :=
  ⟨_, op_notInD hu, fun G σ F H Q o q => by
    refine ha G σ F H _ o (ma.mono (fun x hx v F1 H1 o1 g1 z1 => ?_) (fun _ z => z) q)
    refine hb G σ F1 H1 _ o1 (ml.mono (fun ys hy ad vs F2 H2 o2 g2 z2 z3 => ?_) (fun _ => EQ.step g1) hx)
    obtain ⟨⟨k1, k2⟩, hy⟩ := hy
    obtain ⟨h3, h4⟩ := dt_all z3 k2.2
    refine ⟨_, _, dp_of z1 k1 (g2.fs.trans o2.le), .lst (SqL.of z2) (DpAll.ofI h3 fun i x c e1 e2 => ((h4 i x c e1 e2).mono o2.le).dp), (s.lay k1).shaped (by omega), (lay_lst (lays k2.2)).shaped (by omega), ?_⟩
    rw [any_mem]
    exact hy _ F2 H2 o2 (g1.trans g2 owns_tr) rfl⟩
theorem rc_inET (hu : X.A.units + 65 < cLine) (hn : s.n ≤ 60 := by decide) (ha : RE X W Γ a ma (.fz ρ)) (hb : RSq X W Γ false b ml ρ) : RC X W Γ .In a b (ma >>= fun x => ml >>= fun ys => Mo.rq (Eqk ρ x ∧ Eqks ρ ys) (decide (x ∈ ys))) :=
  ⟨_, op_inT hu, fun G σ F H Q o q => by
    refine ha G σ F H _ o (ma.mono (fun x hx v F1 H1 o1 g1 z1 => ?_) (fun _ z => z) q)
    refine hb G σ F1 H1 _ o1 (ml.mono (fun ys hy ad vs F2 H2 o2 g2 z2 z3 => ?_) (fun _ => EQ.step g1) hx)
    obtain ⟨⟨k1, k2⟩, hy⟩ := hy
    obtain ⟨h3, h4⟩ := dt_all z3 k2.2
    refine ⟨_, _, dp_of z1 k1 (g2.fs.trans o2.le), .tup (SqT.ofR (Rd.mono z2 o2.le)) (DpAll.ofI h3 fun i x c e1 e2 => ((h4 i x c e1 e2).mono o2.le).dp), (s.lay k1).shaped (by omega), (lay_tup (lays k2.2)).shaped (by omega), ?_⟩
    rw [any_mem]
    exact hy _ F2 H2 o2 (g1.trans g2 owns_tr) rfl⟩
theorem rc_ninET (hu : X.A.units + 65 < cLine) (hn : s.n ≤ 60 := by decide) (ha : RE X W Γ a ma (.fz ρ)) (hb : RSq X W Γ false b ml ρ) : RC X W Γ .NotIn a b (ma >>= fun x => ml >>= fun ys => Mo.rq (Eqk ρ x ∧ Eqks ρ ys) (!decide (x ∈ ys))) :=
  ⟨_, op_notInT hu, fun G σ F H Q o q => by
    refine ha G σ F H _ o (ma.mono (fun x hx v F1 H1 o1 g1 z1 => ?_) (fun _ z => z) q)
    refine hb G σ F1 H1 _ o1 (ml.mono (fun ys hy ad vs F2 H2 o2 g2 z2 z3 => ?_) (fun _ => EQ.step g1) hx)
    obtain ⟨⟨k1, k2⟩, hy⟩ := hy
    obtain ⟨h3, h4⟩ := dt_all z3 k2.2
    refine ⟨_, _, dp_of z1 k1 (g2.fs.trans o2.le), .tup (SqT.ofR (Rd.mono z2 o2.le)) (DpAll.ofI h3 fun i x c e1 e2 => ((h4 i x c e1 e2).mono o2.le).dp), (s.lay k1).shaped (by omega), (lay_tup (lays k2.2)).shaped (by omega), ?_⟩
    rw [any_mem]
    exact hy _ F2 H2 o2 (g1.trans g2 owns_tr) rfl⟩
/-! l.index(x) -/
theorem re_index {apos : Pos} (hu : X.A.units + 65 < cLine) (hn : s.n ≤ 60 := by decide) (hb : RE X W Γ b ml (.fz (rL ρ))) (ha : RE X W Γ a ma (.fz ρ))
    (hbase : attributeBase b "index" X.env (eval b X.env) = eval b X.env := by rfl)
    (hfew : ((backTo pos (starEach [a] X.env)).all (fun x => !x.1) && (backToKw pos (keywordEach [] X.env)).all (fun x => x.1.isSome)
      && decide ([a].length + ([] : List Keyword).length + (if ([] : List Keyword).isEmpty then 0 else 1) < 30)) = true := by rfl)
    (hline : (apos.endLine == pos.line) = true := by rfl) (hs : starEach [a] X.env = [(false, eval a X.env)] := by rfl) :
    RE X W Γ (.Call (.Attribute b "index" apos) [a] [] pos) (ml >>= fun ys => ma >>= fun x => Mo.rq (Eqk ρ x ∧ Eqks ρ ys) () >>= fun _ => Mo.get (ys.idxOf? x) >>= fun j => pure (j : Int)) (.fz rI) := by
  refine re_of (pe_bm PySem.F.plainAttrs_list PySem.F.slot_list_index PySem.F.type_list_index (mt_indexD hu) peE (pa_cons peE pa_nil hs) hbase hfew hline hs rfl) fun G σ F H Q o q => ?_
  refine hb G σ F H _ o (ml.mono (fun ys hy w F1 H1 o1 g1 z2 => ?_) (fun _ z => z) q)
  obtain ⟨ad, vs, rfl, z2, z3⟩ := z2
  refine ⟨.inl ⟨rfl, vs, SqL.of (o1.le _ _ z2)⟩, ?_⟩
  refine ha G σ F1 H1 _ o1 (ma.mono (fun x hx v F2 H2 o2 g2 z1 => ?_) (fun _ => EQ.step g1) hy)
  obtain ⟨⟨k1, k2⟩, j, hj, hx⟩ := hx
  have z3 := z3.mono g2.fs
  obtain ⟨h3, h4⟩ := dt_all z3 k2.2
  rw [List.idxOf?_eq_some_iff] at hj
  obtain ⟨hjl, hje, hjn⟩ := hj
  refine ⟨ad, v, s.d x, ys.map s.d, j, s.d x, rfl, rfl, .lst (SqL.of (o2.le _ _ (g2.fs _ _ z2))) (DpAll.ofI h3 fun i x c e1 e2 => ((h4 i x c e1 e2).mono o2.le).dp), dp_of z1 k1 o2.le, (lay_lst (lays k2.2)).shaped (by omega), (s.lay k1).shaped (by omega), ?_, (s.eqv _ _).mpr rfl, fun m z' hm hz' => ?_, hx _ F2 H2 o2 (g1.trans g2 owns_tr) rfl⟩
  · rw [List.getElem?_map, List.getElem?_eq_getElem hjl]
    rw [hje]
    rfl
  · rw [List.getElem?_map, List.getElem?_eq_getElem (by omega)] at hz'
    obtain rfl := Option.some.inj hz'
    rw [Bool.eq_false_iff]
    intro h
    have := (s.eqv _ _).mp h
    exact hjn m hm this
end
end RF
namespace RF
open PySem PySem.Spec PyProof.Rows L2 KO SX
theorem tyx_tup {K : PySem.W.Frag} {H : Hp} {a : Addr} {vs : List V} (h : Rd H a (.tup vs)) : TyX K H (.ref a) (.type "tuple") := by
  rcases h with h | ⟨o, h⟩
  · exact .base (.tup h)
  · exact .fTuple h
section
variable {α β γ δ ε ζ : Type} {X : Cx} {W : WX} {Γe Γ Γ' : Ctx} {lv : Bool} {e a b : Expr} {es : List Expr} {pos : Pos}
/-! ### isinstance of a built-in type -/
class Kn (ρ : α → Pr) where
  t : String
  is : ∀ {K : PySem.W.Frag} {x : α} {v : V} {F H : Hp}, Same F H → (ρ x).r v F → TyX K H v (.type t)
instance : Kn rI := ⟨"int", fun _ h => by obtain rfl : _ = V.int _ := h; exact .base (.int _)⟩
instance : Kn rB := ⟨"bool", fun _ h => by obtain rfl : _ = V.bl _ := h; exact .base (.bl _)⟩
instance : Kn rS := ⟨"str", fun _ h => by obtain rfl : _ = V.str _ := h; exact .base (.str _)⟩
instance {ρ : α → Pr} : Kn (rL ρ) := ⟨"list", fun s ⟨a, vs, e, h, _⟩ => by subst e; exact .base (.lst (s _ _ h))⟩
instance {ρ : α → Pr} : Kn (rTs ρ) := ⟨"tuple", fun s ⟨a, vs, e, h, _⟩ => by subst e; exact tyx_tup (Rd.mono h s)⟩
theorem kn_tu {K : PySem.W.Frag} {ps : List Pr} {v : V} {F H : Hp} (s : Same F H) (h : (rTu ps).r v F) : TyX K H v (.type "tuple") := by
  obtain ⟨a, vs, e, h, _⟩ := h
  subst e
  exact tyx_tup (Rd.mono h s)
section
variable {ρ : α → Pr} {σ : β → Pr} {τ : γ → Pr} {υ : δ → Pr} {φ : ε → Pr} {χ : ζ → Pr}
instance : Kn (rT1 ρ) := ⟨"tuple", fun s h => kn_tu s h⟩
instance : Kn (rT2 ρ σ) := ⟨"tuple", fun s h => kn_tu s h⟩
instance : Kn (rT3 ρ σ τ) := ⟨"tuple", fun s h => kn_tu s h⟩
instance : Kn (rT4 ρ σ τ υ) := ⟨"tuple", fun s h => kn_tu s h⟩
instance : Kn (rT5 ρ σ τ υ φ) := ⟨"tuple", fun s h => kn_tu s h⟩
instance : Kn (rT6 ρ σ τ υ φ χ) := ⟨"tuple", fun s h => kn_tu s h⟩
end
theorem re_isi {ρ : α → Pr} [kn : Kn ρ] {m : Mo α} {p p2 : Pos} {n : Str} {T : String} {r : Bool} (h : RE X W Γ e m (.fz ρ)) (hc : PySem.W.kitOne X.K (.type kn.t) (.type T) = some r) (hm : X.mg "isinstance" = none) (hn : PE X (.Name n p2) (tC (.ty T))) (hg : Gl X "isinstance" := by rfl)
    (hst : starEach [e, .Name n p2] X.env = (false, eval e X.env) :: starEach [.Name n p2] X.env := by rfl) (hst2 : starEach [.Name n p2] X.env = (false, eval (.Name n p2) X.env) :: starEach [] X.env := by rfl) :
    RE X W Γ (.Call (.Name "isinstance" p) [e, .Name n p2] [] pos) (m >>= fun _ => pure r) (.fz rB) :=
  re_of (pe_callB call_isi hg hm (by decide +kernel) (pa_cons (hs := hst) peE (pa_cons (hs := hst2) hn pa_nil)) (by decide) (by decide) hst rfl) fun G σ F H Q o q => by
    refine h G σ F H _ o (m.mono (fun x hx v F' H' o' g' z => ?_) (fun _ z => z) q)
    exact ⟨v, .ty T, _, _, r, rfl, .ty _, kn.is o'.le z, hc, hx _ F' H' o' g' rfl⟩
/-! ### an item of a datum -/
theorem re_ixD {ma : Mo PyData} {mb : Mo Int} (ha : RE X W Γ a ma (.fz rD)) (hb : RE X W Γ b mb (.fz rI)) (hs : PlainIx b := by exact fun _ _ => rfl) : RE X W Γ (.Subscript a b pos) (ma >>= fun d => mb >>= fun i => Mo.get (asTup d) >>= fun ds => Mo.get (atI ds i)) (.fz rD) := by
  refine re_of (pe_ix ix_tup peE peE hs) fun G σ F H Q o q => ?_
  refine ha G σ F H _ o (ma.mono (fun x hx v F1 H1 o1 g1 z => ?_) (fun _ z => z) q)
  refine hb G σ F1 H1 _ o1 (mb.mono (fun i hi w F2 H2 o2 g2 z2 => ?_) (fun _ => EQ.step g1) hx)
  obtain rfl : w = .int i := z2
  obtain ⟨ds, h1, d, h2, q⟩ := hi
  have z : Dt 8 F1 v x := z
  cases x with
  | tuple es =>
    obtain rfl := Option.some.inj h1
    obtain ⟨t, xs, rfl, k1, k2, _, k3⟩ := z
    unfold atI at h2
    cases e : ixN es.length i with
    | none => rw [e] at h2; cases h2
    | some j =>
      rw [e] at h2
      have h2 : es[j]? = some d := h2
      have hj : j < xs.length := by rw [k2]; exact (List.getElem?_eq_some_iff.mp h2).1
      refine ⟨t, xs, i, xs[j], rfl, rfl, SqT.ofR (Rd.mono k1 (g2.fs.trans o2.le)), ?_, ?_⟩
      · unfold atI
        rw [k2, e]
        exact List.getElem?_eq_getElem hj
      · refine q _ F2 H2 o2 (g1.trans g2 owns_tr) ?_
        exact ((k3 j _ d (List.getElem?_eq_getElem hj) h2).up).mono g2.fs
  | _ => cases h1
/-! ### objects without lists -/
theorem nlp_in {C : Addr} {fs : List (Str × Pr)} (h : ∀ p ∈ fs, NLr p.2) : NLP (oIn C fs) := ⟨fun {u F a vs} hl k => by
  obtain ⟨dx, gs, rfl, k⟩ := k
  refine ⟨dx, gs, rfl, ?_⟩
  have key : ∀ {fs : List (Str × Pr)} {gs : List (Str × V)}, (∀ p ∈ fs, NLr p.2) → Fs F fs gs → Fs (del F a) fs gs := fun {fs} => by
    induction fs with
    | nil => intro gs _ k; cases gs with
      | nil => trivial
      | cons _ _ => exact k.elim
    | cons p fs ih => intro gs h k; cases gs with
      | nil => exact k.elim
      | cons g gs => exact ⟨k.1, h p List.mem_cons_self hl k.2.1, ih (fun q hq => h q (List.mem_cons_of_mem _ hq)) k.2.2⟩
  exact key h k⟩
theorem nl_in {C : Addr} {fs : List (Str × Pr)} (h : ∀ p ∈ fs, NLr p.2) : NLr (rIn C fs) := fun {v F a vs} hl k => by
  obtain ⟨b, dx, gs, rfl, h1, k⟩ := k
  refine ⟨b, dx, gs, rfl, del_ok h1 (by rintro rfl; rw [hl] at h1; cases h1), ?_⟩
  have key : ∀ {fs : List (Str × Pr)} {gs : List (Str × V)}, (∀ p ∈ fs, NLr p.2) → Fs F fs gs → Fs (del F a) fs gs := fun {fs} => by
    induction fs with
    | nil => intro gs _ k; cases gs with
      | nil => trivial
      | cons _ _ => exact k.elim
    | cons p fs ih => intro gs h k; cases gs with
      | nil => exact k.elim
      | cons g gs => exact ⟨k.1, h p List.mem_cons_self hl k.2.1, ih (fun q hq => h q (List.mem_cons_of_mem _ hq)) k.2.2⟩
  exact key h k
theorem nlf1 {f : Str} {p : Pr} (h : NLr p) : ∀ q ∈ [(f, p)], NLr q.2 := fun q hq => by rw [List.mem_singleton.mp hq]; exact h
theorem nlfc {f : Str} {p : Pr} {ps : List (Str × Pr)} (h : NLr p) (k : ∀ q ∈ ps, NLr q.2) : ∀ q ∈ (f, p) :: ps, NLr q.2 := fun q hq => by
  rcases List.mem_cons.mp hq with e | e
  · rw [e]; exact h
  · exact k q e
/-! x += e -/
section
variable {st : Stmt} {rest : List Stmt} {Z : γ → Fin} {i : Nat} {n : Int} {me : Mo Int} {mr : Int → Mo γ}
theorem rb_augA (hs : PS X st (tAug i (tE X e) (ipI fun i j => i + j))) (hi : Γ[i]? = some (.fz (rI n))) (he : RE X W Γ e me (.fz rI)) (hie : Γe[i]? = some .un) (hr : ∀ v : Int, RB X W Γe lv (Γ.set i (.fz (rI v))) rest (mr v) Z) : RB X W Γe lv Γ (st :: rest) (me >>= fun y => pure (n + y) >>= mr) Z := fun le G σ F H D nx' hn o q =>
  tSs_cons hs (by
    obtain ⟨v, h1, h2⟩ := o.en i _ hi
    obtain rfl : v = .int n := h2
    refine ⟨_, h1, he G σ F H _ o (me.mono (fun y hx v F' H' o' g' z => ?_) (fun _ => XQ.eq le) q)⟩
    obtain rfl : v = .int y := z
    exact ⟨n, y, rfl, rfl, hr (n + y) (le.set hie) G _ F' H' D nx' hn (o'.set (p := rI (n + y)) rfl) (run_fin g'.fs hx)⟩)
theorem rb_augS (hs : PS X st (tAug i (tE X e) (ipI fun i j => i - j))) (hi : Γ[i]? = some (.fz (rI n))) (he : RE X W Γ e me (.fz rI)) (hie : Γe[i]? = some .un) (hr : ∀ v : Int, RB X W Γe lv (Γ.set i (.fz (rI v))) rest (mr v) Z) : RB X W Γe lv Γ (st :: rest) (me >>= fun y => pure (n - y) >>= mr) Z := fun le G σ F H D nx' hn o q =>
  tSs_cons hs (by
    obtain ⟨v, h1, h2⟩ := o.en i _ hi
    obtain rfl : v = .int n := h2
    refine ⟨_, h1, he G σ F H _ o (me.mono (fun y hx v F' H' o' g' z => ?_) (fun _ => XQ.eq le) q)⟩
    obtain rfl : v = .int y := z
    exact ⟨n, y, rfl, rfl, hr (n - y) (le.set hie) G _ F' H' D nx' hn (o'.set (p := rI (n - y)) rfl) (run_fin g'.fs hx)⟩)
end
end
end RF
namespace RF
open PySem PySem.Spec PyProof.Rows L2 KO SX
/-! ### defs with defaults -/
/-- a def by its body -/
structure FunB (P : Program) (w : World) (K : PySem.W.Frag) (mg : Str → Option Value) (base : Heap) (x qual : Str) (st : Stmt) (f : Addr) (fd : FuncData) : Prop where
  okX : ∀ {N ps : List Str} {k : Nat} {sp : Sp} (S : FnScope N ps (defScope st)) (len : ∀ vs H Q E, sp vs H Q E → vs.length = ps.length)
    (hbody : ∀ (cdv : Value) (A : Around) (outer : List Env) (s : Shared) (H : Hp) (vs : List V) (Q : VK) (E : XK), Room k (A.deeper (envOfC qual (defScope st) s.heap.objs.size f cdv)) → sp vs H Q E →
      ∃ t, PSs (cxOf (L2.CX P w) P w K mg base N qual (defScope st) f cdv A outer s H E) (defBody st) t ∧ t { nx := fun _ H' => Q .non H', rt := Q } (L2.start N vs) H), FnOk P w K mg base (L2.CX P w) (k + 1) f fd ps sp
theorem funD_B {P : Program} {w : World} {K : PySem.W.Frag} {mg : Str → Option Value} {base : Heap} {x qual : Str} {st : Stmt} {f : Addr} {fd : FuncData} {dvs : List V} {kws : List (Str × V)} (F : FunD K x qual (defArgs st) (defBody st) (defScope st) dvs kws f fd) : FunB P w K mg base x qual st f fd :=
  ⟨fun S len hbody => F.ok S len hbody⟩
section
variable {α β γ δ : Type} {X : Cx} {W : WX} {Γe Γ Γ' : Ctx} {lv : Bool} {e : Expr} {es : List Expr}
theorem fn_mkB {P : Program} {w : World} {K : PySem.W.Frag} {mg : Str → Option Value} {base : Heap} {x qual : Str} {st : Stmt} {f : Addr} {fd : FuncData} {N ps : List Str} {k : Nat} {ι : Type} {pp : ι → β → Ctx} {m : β → Mo γ} {kr : RK γ} {Γe Γ0 : ι → β → Ctx} {Z : ι → β → γ → Fin}
    (F : FunB P w K mg base x qual st f fd) (S : FnScope N ps (defScope st)) (hlen : ∀ c y, (pp c y).length = ps.length) (hΓ : ∀ c y, Γ0 c y = pp c y ++ List.replicate (N.length - ps.length) .un) (hle : ∀ c y, Le (Γe c y) (Γ0 c y))
    (hown : ∀ c y (i : Nat) (l : Bool) (a : Addr) (q : Po), (pp c y)[i]? = some (.ow l a q) → (Γe c y)[i]? = some (.ow l a q)) (hz : ∀ c y z, Z c y z = .ret (kr.ok z) ∨ (Z c y z = .nx (Γe c y) ∧ ∀ H F' H', kr.ok z .non H F' H'))
    (hbody : ∀ (cdv : Value) (A : Around) (outer : List Env) (s : Shared) (H : Hp) (E : XK) (c : ι) (y : β), Room k (A.deeper (envOfC qual (defScope st) s.heap.objs.size f cdv)) →
      RB (cxOf (L2.CX P w) P w K mg base N qual (defScope st) f cdv A outer s H E) (fun cls d _ H => E cls d H) (Γe c y) false (Γ0 c y) (defBody st) (m y) (Z c y)) :
    FnOk P w K mg base (L2.CX P w) (k + 1) f fd ps (spR K mg pp m kr) := by
  have ln : ∀ {vs : List V} {c : ι} {y : β} {F0 H : Hp}, Ok ⟨F0, H, owns (pp c y)⟩ (pp c y) (vs.map some) F0 H → vs.length = ps.length := fun {vs c y F0 H} o => by
    have := o.ln
    rw [List.length_map, hlen] at this
    exact this
  refine F.okX S (fun vs H Q E ⟨c, y, F0, o, _⟩ => ln o) fun cdv A outer s H vs Q E hr ⟨c, y, F0, o, q⟩ => ?_
  refine ⟨_, pssS, ?_⟩
  have hl := ln o
  have o0 : Ok ⟨F0, H, owns (pp c y)⟩ (Γ0 c y) (L2.start N vs) F0 H := by
    rw [hΓ c y]
    refine ⟨o.go, fun i en he => ?_, fun i j l l' a p q h1 h2 => ?_, by unfold L2.start; simp [hl, hlen c y]⟩
    · by_cases hi : i < (pp c y).length
      · rw [List.getElem?_append_left hi] at he
        have z := o.en i en he
        have e : (L2.start N vs)[i]? = (vs.map some)[i]? := by
          unfold L2.start
          rw [List.getElem?_append_left (by rw [List.length_map, hl, ← hlen c y]; exact hi)]
        rw [e]
        exact z
      · rw [List.getElem?_append_right (by omega), List.getElem?_replicate] at he
        split at he
        · cases he; trivial
        · cases he
    · have key : ∀ {i : Nat} {l : Bool} {p : Po}, (pp c y ++ List.replicate (N.length - ps.length) En.un)[i]? = some (.ow l a p) → (pp c y)[i]? = some (.ow l a p) := fun {i l p} h => by
        by_cases hi : i < (pp c y).length
        · rw [List.getElem?_append_left hi] at h; exact h
        · rw [List.getElem?_append_right (by omega), List.getElem?_replicate] at h
          split at h
          · cases h
          · cases h
      exact o.ap i j l l' a p q (key h1) (key h2)
  have own : ∀ {σ : L2.St} {F' H' : Hp}, Ok ⟨F0, H, owns (pp c y)⟩ (Γe c y) σ F' H' → OwnOk F' H' (pp c y) := fun {σ F' H'} o i l a q h => by
    obtain ⟨_, h2, _, u, h4, h5⟩ := o.en i _ (hown c y i l a q h)
    exact ⟨h2, u, h4, h5⟩
  refine hbody cdv A outer s H E c y hr (hle c y) ⟨F0, H, owns (pp c y)⟩ (L2.start N vs) F0 H { nx := fun _ H' => Q .non H', rt := Q } _ (fun _ => rfl) o0 ((m y).mono (fun z hzq => ?_) (fun ex hex cls d σ F' H' _ o' r => ?_) q)
  · rcases hz c y z with h | ⟨h, h2⟩
    · rw [h]
      exact fun v σ F' H' _ o' r => hzq v F' H' o'.go (own o') r
    · rw [h]
      exact fun σ F' H' _ o' => hzq .non F' H' o'.go (own o') (h2 _ _ _)
  · exact hex cls d F' H' o'.go (own o') r
end
section
variable {β γ : Type}
theorem init_mkB {P : Program} {w : World} {K : PySem.W.Frag} {mg : Str → Option Value} {base : Heap} {x qual : Str} {st : Stmt} {f C : Addr} {fd : FuncData} {N ps : List Str} {k : Nat} {pp : β → Ctx} {m : β → Mo γ} {fo : γ → List (Str × Pr)} {Γe : Ctx} {Γ0 : Addr → β → Ctx} {Γo : Addr → γ → Ctx}
    (F : FunB P w K mg base x qual st f fd) (S : FnScope N ps (defScope st)) (hlen : ∀ y, (pp y).length + 1 = ps.length) (hΓ : ∀ a y, Γ0 a y = .ow false a (oIn C []) :: pp y ++ List.replicate (N.length - ps.length) .un) (hle : ∀ a y, Le Γe (Γ0 a y)) (hno : ∀ y, ((pp y).all fun e => e.own?.isNone) = true)
    (hout : ∀ a z, (Γo a z)[0]? = some (.ow false a (oIn C (fo z))))
    (hbody : ∀ (cdv : Value) (A : Around) (outer : List Env) (s : Shared) (H : Hp) (E : XK) (a : Addr) (y : β), Room k (A.deeper (envOfC qual (defScope st) s.heap.objs.size f cdv)) →
      RB (cxOf (L2.CX P w) P w K mg base N qual (defScope st) f cdv A outer s H E) (fun cls d _ H => E cls d H) Γe false (Γ0 a y) (defBody st) (m y) (fun z => .nx (Γo a z))) :
    FnOk P w K mg base (L2.CX P w) (k + 1) f fd ps (spI K mg C pp m fo) := by
  have ln : ∀ {vs : List V} {y : β} {a : Addr} {F0 H : Hp}, Ok ⟨F0, H, [a]⟩ (.ow false a (oIn C []) :: pp y) (vs.map some) F0 H → vs.length = ps.length := fun {vs y a F0 H} o => by
    have := o.ln
    rw [List.length_map, List.length_cons, hlen] at this
    exact this
  refine F.okX S (fun vs H Q E ⟨y, F0, a, ws, _, o, _⟩ => ln o) fun cdv A outer s H vs Q E hr ⟨y, F0, a, ws, _, o, q⟩ => ?_
  refine ⟨_, pssS, ?_⟩
  have hl := ln o
  have key : ∀ {i : Nat} {en : En}, (Γ0 a y)[i]? = some en → en = .un ∨ (En.ow false a (oIn C []) :: pp y)[i]? = some en := fun {i en} h => by
    rw [hΓ a y] at h
    by_cases hi : i < (En.ow false a (oIn C []) :: pp y).length
    · rw [List.getElem?_append_left hi] at h; exact .inr h
    · rw [List.getElem?_append_right (by omega), List.getElem?_replicate] at h
      split at h
      · cases h; exact .inl rfl
      · cases h
  have o0 : Ok ⟨F0, H, [a]⟩ (Γ0 a y) (L2.start N vs) F0 H := by
    refine ⟨o.go, fun i en he => ?_, fun i j l l' b p q h1 h2 => ?_, by rw [hΓ]; unfold L2.start; simp [hl, ← hlen y]; omega⟩
    · rcases key he with h | h
      · subst h; trivial
      · have hi : i < ps.length := by rw [← hlen y]; exact (by simpa using (List.getElem?_eq_some_iff.mp h).1)
        have z := o.en i en h
        have e : (L2.start N vs)[i]? = (vs.map some)[i]? := by
          unfold L2.start
          rw [List.getElem?_append_left (by rw [List.length_map, hl]; exact hi)]
        rw [e]
        exact z
    · rcases key h1 with h | h1
      · cases h
      · rcases key h2 with h | h2
        · cases h
        · exact o.ap i j l l' b p q h1 h2
  refine hbody cdv A outer s H E a y hr (hle a y) ⟨F0, H, [a]⟩ (L2.start N vs) F0 H { nx := fun _ H' => Q .non H', rt := Q } _ (fun _ => rfl) o0 ((m y).mono (fun z hzq σ F' H' _ o' => ?_) (fun ex hex cls d σ F' H' _ o' r => hex cls d F' H' o'.go r) q)
  obtain ⟨_, h2, _, h4⟩ := o'.en 0 _ (hout a z)
  exact hzq F' H' o'.go h2 h4
end
/-! ### tuples of the module -/
/-- a tuple in the written part -/
def KTup (K : PySem.W.Frag) (p : Addr) (vs : List V) : Prop := ∃ (o : Obj) (its : Array Value) (n : Nat), K.lookup p = some o ∧ o.cls = .type "tuple" ∧ o.dict = none ∧ o.data = .seq its n ∧ its.size ≤ sizeLine ∧ Vals vs its.toList
theorem KTup.sq {K : PySem.W.Frag} {p : Addr} {vs : List V} (h : KTup K p vs) (H : Hp) : SqT K H p vs := by
  obtain ⟨o, its, n, h1, h2, _, h3, h4, h5⟩ := h
  exact .inr ⟨o, its, n, h1, h2, h3, h4, h5⟩
section
variable {α β γ δ : Type} {X : Cx} {W : WX} {Γ : Ctx} {a : Expr} {pos p2 apos : Pos} {n : Str} {ws : List Str} {ma : Mo Str} {tp : Addr}
theorem rc_inKT (hn : PE X (.Name n p2) (tC (.ref tp))) (hk : KTup X.K tp (ws.map V.str)) (ha : RE X W Γ a ma (.fz rS)) : RC X W Γ .In a (.Name n p2) (ma >>= fun x => pure (decide (x ∈ ws))) :=
  ⟨_, op_in_seq, fun G σ F H Q o q => ha G σ F H _ o (ma.mono (fun x hx v F' H' o' g' z => by
    obtain rfl : v = .str x := z
    refine fun pins s I => hn.run pins s σ H' _ I ?_
    refine ⟨tp, ws.map V.str, rfl, .inr (hk.sq _), rfl, by simp [flatV], ?_⟩
    have e3 : inV (.str x) (ws.map V.str) = decide (x ∈ ws) := by
      unfold inV
      rw [List.any_map]
      have : (fun y => L2.eqV y (.str x)) ∘ V.str = fun y => decide (V.str y = V.str x) := by funext y; exact eqV_str y x
      rw [this, anyS]
    rw [e3]
    exact hx _ F' H' o' g' rfl) (fun _ z => z) q)⟩
theorem rc_ninKT (hn : PE X (.Name n p2) (tC (.ref tp))) (hk : KTup X.K tp (ws.map V.str)) (ha : RE X W Γ a ma (.fz rS)) : RC X W Γ .NotIn a (.Name n p2) (ma >>= fun x => pure (!decide (x ∈ ws))) :=
  ⟨_, op_notIn_seq, fun G σ F H Q o q => ha G σ F H _ o (ma.mono (fun x hx v F' H' o' g' z => by
    obtain rfl : v = .str x := z
    refine fun pins s I => hn.run pins s σ H' _ I ?_
    refine ⟨tp, ws.map V.str, rfl, .inr (hk.sq _), rfl, by simp [flatV], ?_⟩
    have e3 : inV (.str x) (ws.map V.str) = decide (x ∈ ws) := by
      unfold inV
      rw [List.any_map]
      have : (fun y => L2.eqV y (.str x)) ∘ V.str = fun y => decide (V.str y = V.str x) := by funext y; exact eqV_str y x
      rw [this, anyS]
    show Q (.bl (!inV (.str x) (ws.map V.str))) _
    rw [e3]
    exact hx _ F' H' o' g' rfl) (fun _ z => z) q)⟩
theorem re_indexKT (hn : PE X (.Name n p2) (tC (.ref tp))) (hk : KTup X.K tp (ws.map V.str)) (ha : RE X W Γ a ma (.fz rS))
    (hbase : attributeBase (.Name n p2) "index" X.env (eval (.Name n p2) X.env) = eval (.Name n p2) X.env := by rfl)
    (hfew : ((backTo pos (starEach [a] X.env)).all (fun x => !x.1) && (backToKw pos (keywordEach [] X.env)).all (fun x => x.1.isSome)
      && decide ([a].length + ([] : List Keyword).length + (if ([] : List Keyword).isEmpty then 0 else 1) < 30)) = true := by rfl)
    (hline : (apos.endLine == pos.line) = true := by rfl) (hs : starEach [a] X.env = [(false, eval a X.env)] := by rfl) :
    RE X W Γ (.Call (.Attribute (.Name n p2) "index" apos) [a] [] pos) (ma >>= fun x => Mo.get (ws.idxOf? x) >>= fun j => pure (j : Int)) (.fz rI) := by
  refine re_of (pe_bm PySem.F.plainAttrs_tuple PySem.F.slot_tuple_index PySem.F.type_tuple_index mt_tup_index hn (pa_cons peE pa_nil hs) hbase hfew hline hs rfl) fun G σ F H Q o q => ?_
  obtain ⟨ob, its, m, h1, h2, h2b, h3, h4, h5⟩ := hk
  refine ⟨.inr (.inl ⟨rfl, ob, h1, h2, h2b⟩), ?_⟩
  refine ha G σ F H _ o (ma.mono (fun x hx v F' H' o' g' z => ?_) (fun _ z => z) q)
  obtain rfl : v = .str x := z
  obtain ⟨j, hj, hx⟩ := hx
  rw [List.idxOf?_eq_some_iff] at hj
  obtain ⟨k1, k2, k3⟩ := hj
  refine ⟨tp, ws, x, j, rfl, rfl, .inr ⟨ob, its, m, h1, h2, h3, h4, h5⟩, ?_, fun i hi => ?_, hx _ F' H' o' g' rfl⟩
  · rw [List.getElem?_eq_getElem k1, k2]
  · rw [List.getElem?_eq_getElem (by omega)]
    intro h
    exact k3 i hi (Option.some.inj h)
end
end RF
namespace RF
open PySem PySem.Spec PyProof.Rows L2 KO SX
/-! ### loops that seek -/
section
variable {α β γ δ : Type}
def Lp.of {S : Type} (s : S) : Option δ → Lp S δ
  | some r => .ret r
  | none => .go s
theorem Mo.loop_find {f : Unit → β → Mo (Lp Unit δ)} {g : β → Option δ} : ∀ {xs : List β}, (∀ x ∈ xs, f () x = pure (Lp.of () (g x))) → Mo.loop f xs () = pure (Lp.of () (xs.findSome? g))
  | [], _ => rfl
  | x :: xs, h => by
    unfold Mo.loop
    rw [h x List.mem_cons_self, List.findSome?_cons]
    cases g x with
    | some r => rfl
    | none => simp only [Lp.of, pure_bind]; exact Mo.loop_find fun y hy => h y (List.mem_cons_of_mem _ hy)
/-- a fold that may end by an error -/
theorem Mo.fold_find {f : Unit → β → Mo Unit} {g : β → Option Ex} {Q : Unit → Prop} {E : Ex → Prop} : ∀ {xs : List β}, (∀ x ∈ xs, f () x = match g x with | some e => Mo.throw e | none => pure ()) → (match xs.findSome? g with | some e => E e | none => Q ()) → (Mo.fold f xs ()).run Q E
  | [], _, q => q
  | x :: xs, h, q => by
    show (f () x >>= fun s => Mo.fold f xs s).run Q E
    rw [h x List.mem_cons_self]
    rw [List.findSome?_cons] at q
    cases e : g x with
    | some r => rw [e] at q; exact q
    | none => rw [e] at q; exact Mo.fold_find (fun y hy => h y (List.mem_cons_of_mem _ hy)) q
theorem Mo.fold_app {f : List γ → β → Mo (List γ)} {g : β → List γ} {c : Nat} (hc : ∀ x, (g x).length ≤ c) {n : Nat} (hf : ∀ s x, s.length ≤ n → f s x = pure (s ++ g x)) : ∀ {xs : List β} {s : List γ}, s.length + c * xs.length ≤ n + c → Mo.fold f xs s = pure (s ++ xs.flatMap g)
  | [], s, _ => by simp [Mo.fold]
  | x :: xs, s, h => by
    show (f s x >>= fun s => Mo.fold f xs s) = _
    have h1 := hc x
    rw [List.length_cons, Nat.mul_succ] at h
    rw [hf s x (by omega)]
    show Mo.fold f xs (s ++ g x) = _
    rw [Mo.fold_app hc hf (by rw [List.length_append]; omega)]
    simp
theorem rangeL_len {lo : Int} {n : Nat} : (rangeL lo n).length = n := by simp [rangeL]
theorem rangeL_mem {lo x : Int} {n : Nat} : x ∈ rangeL lo n ↔ lo ≤ x ∧ x < lo + n := by
  unfold rangeL
  rw [List.mem_map]
  constructor
  · rintro ⟨i, hi, rfl⟩
    have := List.mem_range.mp hi
    omega
  · rintro ⟨h1, h2⟩
    exact ⟨(x - lo).toNat, List.mem_range.mpr (by omega), by omega⟩
theorem rangeL_at {lo : Int} {n i : Nat} (h : i < n) : (rangeL lo n)[i]? = some (lo + i) := by
  unfold rangeL
  rw [List.getElem?_map, List.getElem?_range h]
  rfl
theorem enumL_app {A B : List α} : enumL (A ++ B) = enumL A ++ (enumL B).map (fun x => (x.1 + (A.length : Int), x.2)) := by
  refine List.ext_getElem? fun i => ?_
  rw [enumL_get, List.getElem?_append, List.getElem?_append, enumL_len]
  by_cases h : i < A.length
  · rw [if_pos h, if_pos h, enumL_get]
  · rw [if_neg h, if_neg h, List.getElem?_map, enumL_get]
    cases B[i - A.length]? with
    | none => rfl
    | some b => simp; omega
theorem enumL_mem {A : List α} {x : Int × α} (h : x ∈ enumL A) : 0 ≤ x.1 ∧ x.1 < A.length ∧ A[x.1.toNat]? = some x.2 := by
  obtain ⟨i, hi⟩ := List.getElem?_of_mem h
  rw [enumL_get] at hi
  cases e : A[i]? with
  | none => rw [e] at hi; cases hi
  | some a =>
    rw [e] at hi
    obtain rfl := Option.some.inj hi
    have := (List.getElem?_eq_some_iff.mp e).1
    exact ⟨by simp, by simpa using this, by simpa using e⟩
theorem range_enum {A : List α} : rangeL 0 A.length = (enumL A).map (·.1) := by
  refine List.ext_getElem? fun i => ?_
  rw [List.getElem?_map, enumL_get]
  by_cases h : i < A.length
  · rw [rangeL_at h, List.getElem?_eq_getElem h]; simp
  · rw [List.getElem?_eq_none (by rw [rangeL_len]; omega), List.getElem?_eq_none (by omega)]; rfl
theorem findSome_map {f : α → Option β} {h : β → γ} : ∀ {xs : List α}, (xs.findSome? f).map h = xs.findSome? (fun x => (f x).map h)
  | [] => rfl
  | x :: xs => by
    rw [List.findSome?_cons, List.findSome?_cons]
    cases f x with
    | none => exact findSome_map
    | some b => rfl
theorem findSome_congr {f g : α → Option β} : ∀ {xs : List α}, (∀ x ∈ xs, f x = g x) → xs.findSome? f = xs.findSome? g
  | [], _ => rfl
  | x :: xs, h => by
    rw [List.findSome?_cons, List.findSome?_cons, h x List.mem_cons_self]
    cases g x with
    | none => exact findSome_congr fun y hy => h y (List.mem_cons_of_mem _ hy)
    | some b => rfl
theorem findSome_none {f : α → Option β} : ∀ {xs : List α}, xs.findSome? f = none → ∀ x ∈ xs, f x = none
  | [], _, x, hx => by simp at hx
  | y :: xs, h, x, hx => by
    rw [List.findSome?_cons] at h
    cases e : f y with
    | some b => rw [e] at h; cases h
    | none =>
      rw [e] at h
      rcases List.mem_cons.mp hx with q | q
      · rw [q]; exact e
      · exact findSome_none h x q
theorem findSome_some {f : α → Option β} {b : β} : ∀ {xs : List α}, xs.findSome? f = some b → ∃ x ∈ xs, f x = some b
  | [], h => by cases h
  | y :: xs, h => by
    rw [List.findSome?_cons] at h
    cases e : f y with
    | some c => rw [e] at h; exact ⟨y, List.mem_cons_self, by rw [e]; exact h⟩
    | none =>
      rw [e] at h
      obtain ⟨x, h1, h2⟩ := findSome_some h
      exact ⟨x, List.mem_cons_of_mem _ h1, h2⟩
theorem findSome_mapL {f : β → Option γ} {h : α → β} : ∀ {xs : List α}, (xs.map h).findSome? f = xs.findSome? (fun x => f (h x))
  | [] => rfl
  | x :: xs => by
    rw [List.map_cons, List.findSome?_cons, List.findSome?_cons]
    cases f (h x) with
    | none => exact findSome_mapL
    | some b => rfl
theorem find_filter {p : α → Bool} {h : α → β} : ∀ {xs : List α}, xs.findSome? (fun x => if p x = true then some (h x) else none) = (xs.filter p).head?.map h
  | [] => rfl
  | x :: xs => by
    rw [List.findSome?_cons, List.filter_cons]
    cases p x with
    | true => rfl
    | false => exact find_filter
theorem modN {a m : Int} (h : 0 ≤ a) (k : a < 2 * m) : a % m = if a < m then a else a - m := by
  split
  · rw [Int.emod_eq_of_lt h (by assumption)]
  · rw [← Int.sub_emod_right, Int.emod_eq_of_lt (by omega) (by omega)]
theorem comp2_pure {c : β → Mo Bool} {f : β → Mo (List γ)} {g : β → List γ} : ∀ {xs : List β}, (∀ x ∈ xs, c x = pure true) → (∀ x ∈ xs, f x = pure (g x)) → Mo.comp2 c f xs = pure (xs.flatMap g)
  | [], _, _ => rfl
  | x :: xs, hc, hf => by
    unfold Mo.comp2
    rw [hc x List.mem_cons_self, hf x List.mem_cons_self, comp2_pure (fun y hy => hc y (List.mem_cons_of_mem _ hy)) (fun y hy => hf y (List.mem_cons_of_mem _ hy))]
    rfl
theorem Mo.lc_map {f : β → Mo γ} {g : β → γ} {xs : List β} (hl : xs.length ≤ sizeLine) (hf : ∀ x ∈ xs, f x = pure (g x)) : Mo.lc (fun _ => pure true) f xs = pure (xs.map g) := by
  rw [Mo.lc_pure (p := fun _ => true) (g := g) hl (fun _ _ => rfl) (fun x hx _ => hf x hx), List.filter_eq_self.mpr (by simp)]
/-- a comprehension of draws -/
theorem Mo.lc_each {f : β → Mo γ} {R : β → γ → Prop} {E : Ex → Prop} {xs : List β} {Q : List γ → Prop} (hl : xs.length ≤ sizeLine) (hf : ∀ x ∈ xs, (f x).run (R x) (fun _ => False)) (q : ∀ ys, ys.length = xs.length → (∀ (i : Nat) (x : β) (y : γ), xs[i]? = some x → ys[i]? = some y → R x y) → Q ys) : (Mo.lc (fun _ => pure true) f xs).run Q E :=
  ⟨hl, Mo.comp_each hf q⟩
end
end RF
namespace RF
open PySem PySem.Spec PyProof.Rows L2 KO SX
section
variable {X : Cx} {W : WX} {Γ : Ctx} {a : Expr} {ma : Mo Str} {pos : Pos}
theorem re_upper {apos : Pos} (ha : RE X W Γ a ma (.fz rS)) (hbase : attributeBase a "upper" X.env (eval a X.env) = eval a X.env := by rfl) (hline : (apos.endLine == pos.line) = true := by rfl) :
    RE X W Γ (.Call (.Attribute a "upper" apos) [] [] pos) (ma >>= fun x => Mo.rq (x.length ≤ 5592405) (Txt.upper x)) (.fz rS) := by
  refine re_of (pe_upper peE hbase hline) fun G σ F H Q o q => ?_
  refine ha G σ F H _ o (ma.mono (fun z hx v F1 H1 o1 g1 zz => ?_) (fun _ z => z) q)
  obtain rfl : v = .str z := zz
  exact ⟨⟨z, rfl⟩, z, rfl, rfl, hx.1, hx.2 _ F1 H1 o1 g1 rfl⟩
end
end RF
namespace RF
open PySem PySem.Spec PyProof.Rows L2 KO SX
/-! ### enumerate over a list or a tuple -/
def iEnumQ (K : PySem.W.Frag) (ta : TA) : TI := fun σ H R => ta σ H fun vs H1 => ∃ a, vs = [.ref a] ∧ (((∃ xs, SqL K H1 a xs) ∧ R (Ite K a) H1) ∨ ((∃ xs, SqT K H1 a xs) ∧ R (IteT K a) H1))
theorem pi_enumQ {X : Cx} {e : Expr} {ta : TA} {p pos tpos : Pos} {elts : List Expr} {kk : Nat} (hg : Gl X "enumerate") (hm : X.mg "enumerate" = none) (ha : PA X [e] ta) (hs : starEach [e] X.env = [(false, eval e X.env)] := by rfl) :
    PI X (.Tuple elts kk tpos) (.Call (.Name "enumerate" p) [e] [] pos) (iEnumQ X.K ta) := by
  refine ⟨fun pins s σ H R I h => ?_⟩
  refine Call_ (ld_blt I hg hm boot_enumerate (PyProof.Rows.callWith_type1 (thn (ha.run pos pins s σ H _ I h) fun us s1 ⟨vs, H1, I1, r1, q1⟩ => ?_) hs rfl))
  obtain ⟨a, ex, q1⟩ := q1
  subst ex
  cases r1 with
  | cons r rr =>
    cases rr
    cases r
    rcases q1 with ⟨⟨xs, hq⟩, q⟩ | ⟨⟨xs, hq⟩, q⟩
    · obtain ⟨its, rv, p', hz⟩ := I1.list hq
      refine call_enumerate_list p'.isList fun h' he hit hsz hk => wpAny_pyIter_enum he ?_
      have I2 : Inv X pins σ H1 { s1 with heap := h' } := I1.kept (t' := s1.toks) hk
      refine ⟨s1.heap.objs.size + 1, [s1.heap.objs.size + 1, s1.heap.objs.size], _, _, H1, rfl, I2, turn_enum a (s1.heap.objs.size + 1) s1.heap.objs.size, ⟨⟨.none, he⟩, hit, Nat.succ_ne_self _⟩, fun b hb => ?_, q⟩
      have e' : b = s1.heap.objs.size + 1 ∨ b = s1.heap.objs.size := by simpa using hb
      have hle : s1.heap.objs.size ≤ b := by
        rcases e' with z | z
        · rw [z]; exact Nat.le_add_right _ _
        · rw [z]; exact Nat.le_refl _
      exact I1.fpOk hle (I1.hok.fresh hle)
    · obtain ⟨its, rv, p', hz⟩ := I1.tuple hq
      have hlt : a < s1.heap.objs.size := by obtain ⟨_, e, _⟩ := p'; exact Heap.lt_size e
      refine SXT.call_enumerate_tuple (show s1.heap.IsTuple a its.toArray from p') fun h' he hit hsz hk => wpAny_pyIter_enum he ?_
      have I2 : Inv X pins σ H1 { s1 with heap := h' } := I1.kept (t' := s1.toks) hk
      refine ⟨s1.heap.objs.size + 1, [s1.heap.objs.size + 1, s1.heap.objs.size], _, _, H1, rfl, I2, turn_enumT a (s1.heap.objs.size + 1) s1.heap.objs.size, ⟨⟨.none, he⟩, hit, Nat.succ_ne_self _, Nat.ne_of_lt hlt, Nat.ne_of_lt (Nat.lt_succ_of_lt hlt)⟩, fun b hb => ?_, q⟩
      have e' : b = s1.heap.objs.size + 1 ∨ b = s1.heap.objs.size := by simpa using hb
      have hle : s1.heap.objs.size ≤ b := by
        rcases e' with z | z
        · rw [z]; exact Nat.le_add_right _ _
        · rw [z]; exact Nat.le_refl _
      exact I1.fpOk hle (I1.hok.fresh hle)
section
variable {α : Type} {X : Cx} {W : WX} {Γ : Ctx} {e : Expr} {ρ : α → Pr}
theorem ri_enumQ {m : Mo (List α)} (h : RE X W Γ e m (.fz (rQ ρ))) : RI X W Γ (iEnumQ X.K (tCons (tE X e) tNil)) (m >>= fun xs => pure (enumL xs)) (rT2 rI ρ) := fun G σ F H R o q => by
  refine h G σ F H _ o (m.mono (fun xs hx v F' H' o' g' z => ?_) (fun _ z => z) q)
  obtain ⟨a, vs, rfl, h1, h2⟩ := z
  rcases h1 with h1 | h1
  · exact ⟨a, rfl, .inl ⟨⟨vs, SqL.of (o'.le _ _ h1)⟩, hx _ F' H' o' g' (src_enum h1 h2)⟩⟩
  · exact ⟨a, rfl, .inr ⟨⟨vs, SqT.ofR (Rd.mono h1 o'.le)⟩, hx _ F' H' o' g' (src_enumT h1 h2)⟩⟩
end
end RF
namespace RF
open PySem PySem.Spec PyProof.Rows L2 KO SX
/-! ### a list, a tuple, or the empty tuple that a default is -/
def rQd {α : Type} (K : PySem.W.Frag) (dd : Addr) (ρ : α → Pr) (xs : List α) : Pr := ⟨fun v F => (rQ ρ xs).r v F ∨ (xs = [] ∧ v = .ref dd ∧ KTup K dd []), fun s h => h.elim (fun h => .inl ((rQ ρ xs).mono s h)) .inr⟩
section
variable {α β : Type} {X : Cx} {W : WX} {Γ : Ctx} {e : Expr} {es : List Expr} {ρ : α → Pr} {dd : Addr} {pos p : Pos}
theorem co_Qd {K : PySem.W.Frag} : Coe (rQ ρ) (rQd K dd ρ) (fun xs => xs) := fun _ _ _ h => .inl h
theorem co_toQd {K : PySem.W.Frag} {ρ' : β → Pr} {f : β → List α} (c : Coe ρ' (rQ ρ) f) : Coe ρ' (rQd K dd ρ) f := fun x v F h => .inl (c x v F h)
theorem re_lenQd {K : PySem.W.Frag} {m : Mo (List α)} (h : RE X W Γ e m (.fz (rQd K dd ρ))) (hm : X.mg "len" = none) (hg : Gl X "len" := by rfl) (he : starEach [e] X.env = [(false, eval e X.env)] := by rfl) (hK : X.K = K := by rfl) : RE X W Γ (.Call (.Name "len" p) [e] [] pos) (m >>= fun xs => pure (xs.length : Int)) (.fz rI) := by
  subst hK
  exact
  re_of (pe_callB call_len_seq hg hm (by decide +kernel) (pa_cons peE pa_nil he) (by decide) (by decide) he rfl) fun G σ F H Q o q => by
    refine h G σ F H _ o (m.mono (fun xs hx v F' H' o' g' z => ?_) (fun _ z => z) q)
    rcases z with ⟨a, vs, rfl, h1, h2⟩ | ⟨rfl, rfl, hk⟩
    · refine ⟨a, vs, rfl, seqQ o'.le h1, ?_⟩
      refine hx _ F' H' o' g' ?_
      show V.int _ = V.int _
      rw [h2.len, List.length_map]
    · exact ⟨dd, [], rfl, .inr (hk.sq _), hx _ F' H' o' g' rfl⟩
theorem src_kt {F : Hp} (hk : KTup X.K dd []) : Src (Itt X.K dd) ([] : List α) ρ F := fun F2 H2 s1 s2 => by
  have h2 : SqT X.K H2 dd [] := hk.sq _
  have w := walk_tup (K := X.K) (a := dd) (xs := [])
  exact ⟨fun i hi => absurd hi (Nat.not_lt_zero _), w.stops H2 h2, fun i x v H3 hx y => by simp at hx⟩
theorem src_ktE {F : Hp} (hk : KTup X.K dd []) : Src (IteT X.K dd) (enumL ([] : List α)) (rT2 rI ρ) F := fun F2 H2 s1 s2 => by
  have h2 : SqT X.K H2 dd [] := hk.sq _
  have w := walk_enumT (K := X.K) (a := dd) (xs := [])
  exact ⟨fun i hi => absurd hi (Nat.not_lt_zero _), w.stops H2 h2, fun i x v H3 hx y => by simp [enumL] at hx⟩
theorem ri_Qd {K : PySem.W.Frag} {m : Mo (List α)} (h : RE X W Γ e m (.fz (rQd K dd ρ))) (hK : X.K = K := by rfl) : RI X W Γ (iSeqQ X.K (tE X e)) m ρ := fun G σ F H R o q => by
  subst hK
  refine h G σ F H _ o (m.mono (fun xs hx v F' H' o' g' z => ?_) (fun _ z => z) q)
  rcases z with ⟨a, vs, rfl, h1, h2⟩ | ⟨rfl, rfl, hk⟩
  · rcases h1 with h1 | h1
    · exact ⟨a, rfl, .inl ⟨⟨vs, SqL.of (o'.le _ _ h1)⟩, hx _ F' H' o' g' (src_list h1 h2)⟩⟩
    · exact ⟨a, rfl, .inr ⟨⟨vs, SqT.ofR (Rd.mono h1 o'.le)⟩, hx _ F' H' o' g' (src_tup h1 h2)⟩⟩
  · exact ⟨dd, rfl, .inr ⟨⟨[], hk.sq _⟩, hx _ F' H' o' g' (src_kt hk)⟩⟩
theorem ri_enumQd {K : PySem.W.Frag} {m : Mo (List α)} (h : RE X W Γ e m (.fz (rQd K dd ρ))) (hK : X.K = K := by rfl) : RI X W Γ (iEnumQ X.K (tCons (tE X e) tNil)) (m >>= fun xs => pure (enumL xs)) (rT2 rI ρ) := fun G σ F H R o q => by
  subst hK
  refine h G σ F H _ o (m.mono (fun xs hx v F' H' o' g' z => ?_) (fun _ z => z) q)
  rcases z with ⟨a, vs, rfl, h1, h2⟩ | ⟨rfl, rfl, hk⟩
  · rcases h1 with h1 | h1
    · exact ⟨a, rfl, .inl ⟨⟨vs, SqL.of (o'.le _ _ h1)⟩, hx _ F' H' o' g' (src_enum h1 h2)⟩⟩
    · exact ⟨a, rfl, .inr ⟨⟨vs, SqT.ofR (Rd.mono h1 o'.le)⟩, hx _ F' H' o' g' (src_enumT h1 h2)⟩⟩
  · exact ⟨dd, rfl, .inr ⟨⟨[], hk.sq _⟩, hx _ F' H' o' g' (src_ktE hk)⟩⟩
end
/-! ### an instance made with a default -/
section
variable {X : Cx} {CX : CXT} {k : Nat} {f C : Addr} {fd : FuncData} {ps : List Str} {sp : Sp} {E : L2.St → XK} {dvs : List V} {ds : List Value}
def tMakeXD (C : Addr) (sp : Sp) (dvs : List V) (E : L2.St → XK) (t : TA) : TE := fun σ H Q => t σ H fun vs H1 => ∀ x dx, H1 x = none → H1 dx = none → dx ≠ x →
  sp (.ref x :: (vs ++ dvs)) (upd (upd H1 dx (.own x)) x (.ins C dx [])) (fun v H2 => v = .non ∧ Q (.ref x) H2) (E σ)
theorem run_makeXD {pins : List (Addr × Obj)} {σ : L2.St} {H : Hp} {s : Shared} {Q : VK} {us : List Value} {vs : List V} (M : Mk X.K C f) (F : FnOk X.prog X.w X.K X.mg X.base CX k f fd ps sp) (hr : Room (k + 1) X.A) (hb : Binds X.K fd ps ds) (hd : Vals dvs ds)
    (hx : PassesAt CX X σ (E σ)) (I : Inv X pins σ H s) (r : Vals vs us)
    (h : ∀ x dx, H x = none → H dx = none → dx ≠ x → sp (.ref x :: (vs ++ dvs)) (upd (upd H dx (.own x)) x (.ins C dx [])) (fun v H2 => v = .non ∧ Q (.ref x) H2) (E σ)) :
    wpAny (model X.prog X.w) X.A (call (.ref C) us) (EP X pins σ Q) X.xe s := by
  have hq := h (s.heap.objs.size + 1) s.heap.objs.size (I.hok.fresh (Nat.le_succ _)) (I.hok.fresh (Nat.le_refl _)) (Nat.ne_of_lt (Nat.lt_succ_self _))
  have I2 := Inv.made (C := C) I
  have r2 : Vals (V.ref (s.heap.objs.size + 1) :: (vs ++ dvs)) (Value.ref (s.heap.objs.size + 1) :: (us ++ ds)) := .cons rfl (r.append hd)
  have hl : (Value.ref (s.heap.objs.size + 1) :: us ++ ds).length = ps.length := by
    have e := r2.length
    rw [F.len _ _ _ _ hq] at e
    exact e.symm
  refine wpAny_call (make_map (f := f) I.kIn M.makes M.init (beq_iff_eq.mp M.fn) (codeAny_mono (F.run _ X.stack _ _ ⟨Value.ref (s.heap.objs.size + 1) :: us, []⟩ (Value.ref (s.heap.objs.size + 1) :: (us ++ ds)) _ _ (E σ) (hr.make C us [])
    (I2.env0.make C us []) (hb _ (Value.ref (s.heap.objs.size + 1) :: us) I2.kIn hl) r2 hq) fun r s' hq' => ?_))
  cases r with
  | error e => exact hx pins _ _ e s' I2 hq'
  | ok fl =>
    cases fl with
    | ret u =>
      obtain ⟨v, H', I3, rv, ev, q3⟩ := I2.after hq'
      subst ev
      exact ⟨rv, ⟨V.ref (s.heap.objs.size + 1), H', I3, rfl, q3⟩⟩
    | next => exact False.elim hq'
    | brk => exact False.elim hq'
    | cont => exact False.elim hq'
theorem pe_makeXD {x : Str} {p pos : Pos} {e : Expr} {es : List Expr} {t : TA} (M : Mk X.K C f) (F : FnOk X.prog X.w X.K X.mg X.base CX k f fd ps sp) (hr : Room (k + 1) X.A) (hg : Gl X x) (hm : X.mg x = some (.ref C)) (hb : Binds X.K fd ps ds) (hd : Vals dvs ds) (hx : ∀ σ, PassesAt CX X σ (E σ))
    (ha : PA X (e :: es) t) (hdb : (x == ("__debug__" : Str)) = false := by decide) (he : starEach (e :: es) X.env = (false, eval e X.env) :: starEach es X.env := by rfl) (hpl : (backTo pos (starEach es X.env)).any (·.1) = false := by rfl) :
    PE X (.Call (.Name x p) (e :: es) [] pos) (tMakeXD C sp dvs E t) := by
  refine ⟨fun pins s σ H Q I h => ?_⟩
  refine wpAny_Call_Name_kw (ld_glob I hg hm ?_ hdb)
  refine PySem.W.callWith_K (h₀ := X.base) I.ok.mod.kin M.kp (thn (ha.run pos pins s σ H _ I h) fun us s1 ⟨vs, H1, I1, r, q⟩ => ⟨I1.kIn, ?_⟩) he hpl
  exact run_makeXD M F hr hb hd (hx σ) I1 r q
end
section
variable {α β γ : Type} {X : Cx} {W : WX} {Γ : Ctx} {e : Expr} {es : List Expr} {k : Nat} {f C : Addr} {fd : FuncData} {ps : List Str} {pp : α → Ctx} {m : α → Mo γ} {fo : γ → List (Str × Pr)} {ma : Mo β} {x : Str} {p pos : Pos}
theorem re_makeD {pa : β → Ctx} {full : β → α} {dp : Pr} {dv : V} (M : Mk X.K C f) (Fn : FnOk X.prog X.w X.K X.mg X.base (L2.CX X.prog X.w) k f fd ps (spI X.K X.mg C pp m fo)) (hr : Room (k + 1) X.A) (tk : Takes X W) (ha : RA X W Γ (e :: es) ma pa) (hm : X.mg x = some (.ref C)) (hbd : ∃ ds, Vals [dv] ds ∧ Binds X.K fd ps ds) (hdp : ∀ F, dp.r dv F)
    (hpp : ∀ y, pp (full y) = pa y ++ [.fz dp] := by intro _; rfl) (hno : ∀ y, ((pp (full y)).all fun e => e.own?.isNone) = true := by intro _; rfl) (hg : Gl X x := by rfl) (hdb : (x == ("__debug__" : Str)) = false := by decide) (he : starEach (e :: es) X.env = (false, eval e X.env) :: starEach es X.env := by rfl) (hpl : (backTo pos (starEach es X.env)).any (·.1) = false := by rfl) :
    RE X W Γ (.Call (.Name x p) (e :: es) [] pos) (ma >>= fun y => m (full y)) (.ow fun y => oIn C (fo y)) := by
  obtain ⟨ds, hd, hb⟩ := hbd
  refine re_of (pe_makeXD M Fn hr hg hm hb hd (fun σ => passAt tk σ) paA hdb he hpl) fun G σ F H Q o q => ?_
  refine ha G σ F H _ o (ma.mono (fun y hy vs F1 H1 o1 g1 z x dx hx hdx ne => ?_) (fun _ z => z) q)
  have gA : Go [x] F1 H1 F1 (upd H1 dx (.own x)) := Go.newO o1.le hdx
  have hx2 : (upd H1 dx (.own x)) x = none := by rw [upd_ne (Ne.symm ne)]; exact hx
  have gB : Go [x] F1 (upd H1 dx (.own x)) F1 (upd (upd H1 dx (.own x)) x (.ins C dx [])) := Go.newO gA.le hx2
  have gC := gA.trans gB (fun a h => .inl h)
  generalize hH2 : upd (upd H1 dx (.own x)) x (.ins C dx []) = H2 at gB gC ⊢
  have hH2x : H2 x = some (.ins C dx []) := by rw [← hH2]; exact upd_same
  have hFx : F1 x = none := o1.le.free hx
  have lift : ∀ {F' H'}, Go [x] F1 H2 F' H' → Ok G Γ σ F' H' ∧ Go (owns Γ) F H F' H' := fun {F' H'} g => by
    have g2 : Go [x] F1 H1 F' H' := gC.trans g (fun a h => .inl h)
    exact ⟨o1.move g2 (fun a h => .inl (by rw [List.mem_singleton.mp h]; exact hx)), g1.trans g2 (fun a h => .inr (by
      rw [List.mem_singleton.mp h]
      cases e : H x with
      | none => rfl
      | some y => obtain ⟨y', e'⟩ := g1.th _ _ e; rw [hx] at e'; cases e'))⟩
  have hHx : H x = none := by
    cases e : H x with
    | none => rfl
    | some y => obtain ⟨y', e'⟩ := g1.th _ _ e; rw [hx] at e'; cases e'
  refine ⟨full y, F1, x, vs ++ [dv], rfl, ⟨Go.refl gB.le, fun i en he => ?_, ap_of ?_, by rw [hpp y]; simp [z.1]⟩, (m (full y)).mono (fun w hw F' H' g h1 h2 => ⟨rfl, ?_⟩) (fun ex hex cls d F' H' g r => ?_) hy⟩
  · cases i with
    | zero =>
      simp at he
      subst he
      exact ⟨rfl, hFx, by simp, _, hH2x, dx, [], rfl, trivial⟩
    | succ i =>
      have he : (pp (full y))[i]? = some en := by simpa using he
      by_cases hi : i < vs.length
      case neg =>
        have hm2 := (List.getElem?_eq_some_iff.mp he).1
        rw [hpp y, List.length_append, List.length_singleton, ← z.1] at hm2
        obtain rfl : i = vs.length := by omega
        rw [hpp y, z.1, List.getElem?_append_right (Nat.le_refl _), Nat.sub_self] at he
        obtain rfl := Option.some.inj he
        have ee : ((V.ref x :: (vs ++ [dv])).map some)[vs.length + 1]? = some (some dv) := by simp
        rw [ee]
        exact ⟨_, rfl, hdp _⟩
      have he0 := he
      rw [hpp y, List.getElem?_append_left (by rw [← z.1]; exact hi)] at he
      have hv := List.getElem?_eq_getElem hi
      have zz := z.2.1 i en _ he hv
      have ee : ((V.ref x :: (vs ++ [dv])).map some)[i + 1]? = some (some vs[i]) := by
        rw [List.getElem?_map, List.getElem?_cons_succ, List.getElem?_append_left hi, hv]; rfl
      rw [ee]
      cases en with
      | un => trivial
      | fz r => exact ⟨_, rfl, zz⟩
      | ow l b q =>
        have := List.all_eq_true.mp (hno y) _ (List.mem_of_getElem? he0)
        simp [En.own?] at this
      | lk f h r => exact zz.elim
  · have : owns (En.ow false x (oIn C []) :: pp (full y)) = x :: owns (pp (full y)) := rfl
    rw [this, noOwn (hno y)]
    simp
  · obtain ⟨o2, g2⟩ := lift g
    obtain ⟨u, hu, hr2⟩ := h2
    exact hw (.ref x) F' H' o2 g2 ⟨x, u, rfl, hHx, h1, hu, hr2⟩
  · obtain ⟨o2, g2⟩ := lift g
    exact hex cls d F' H' o2 g2 r
end
end RF
namespace RF
open PySem PySem.Spec PyProof.Rows L2 KO SX
section
variable {α β γ : Type} {X : Cx} {W : WX} {Γ : Ctx} {a b : Expr} {ρ : α → Pr} {dd : Addr} {pos p2 : Pos} {lo hi : Option Expr} {ml mh : Mo (Option Int)}
theorem op_or {o : Value → Value → Sem Value} {r r' : R2} (h : OpR X o r) (h' : OpR X o r') : OpR X o (fun x y H Q => r x y H Q ∨ r' x y H Q) := by
  intro pins s σ H x y v u Q I rx ry q
  rcases q with q | q
  · exact h pins s σ H x y v u Q I rx ry q
  · exact h' pins s σ H x y v u Q I rx ry q
/-- a slice of a list, a tuple, or the empty tuple of a default -/
theorem re_slQd {K : PySem.W.Frag} {ma : Mo (List α)} (ha : RE X W Γ a ma (.fz (rQd K dd ρ))) (hl : RP X W Γ lo ml) (hh : RP X W Γ hi mh) (hK : X.K = K := by rfl) : RE X W Γ (.Subscript a (.Slice lo hi none p2) pos) (ma >>= fun z => ml >>= fun l => mh >>= fun h => pure (cutL z l h)) (.fz (rQd K dd ρ)) := by
  subst hK
  refine re_of (pe_slice (SlR.or sl_list sl_tupA) peE poP poP) fun G σ F H Q o q => ?_
  refine ha G σ F H _ o (ma.mono (fun z hx v F1 H1 o1 g1 zz => ?_) (fun _ z => z) q)
  refine hl G σ F1 H1 _ o1 (ml.mono (fun l hx F2 H2 o2 g2 => ?_) (fun _ => EQ.step g1) hx)
  have g12 := g1.trans g2 owns_tr
  refine hh G σ F2 H2 _ o2 (mh.mono (fun h hx F3 H3 o3 g3 => ?_) (fun _ => EQ.step g12) hx)
  have g13 := g12.trans g3 owns_tr
  have s13 : Same F1 F3 := g2.fs.trans g3.fs
  rcases zz with ⟨ad, vs, rfl, k1, k2⟩ | ⟨rfl, rfl, hk⟩
  · have cut := (k2.mono s13).cut l h
    rw [cutL_map] at cut
    rcases k1 with k1 | k1
    · refine .inl ⟨ad, vs, rfl, SqL.of (o3.le _ _ (s13 _ _ k1)), fun d hd => ?_⟩
      refine hx.ownF o3 g13 hd (.inl ⟨d, _, rfl, .inl upd_same, cut.mono (same_upd (o3.le.free hd))⟩)
    · refine .inr ⟨ad, vs, rfl, SqT.ofR (Rd.mono k1 (s13.trans o3.le)), fun e => ?_, fun _ d hd => ?_⟩
      · refine hx _ F3 H3 o3 g13 (.inl ⟨ad, vs, rfl, .inr (Rd.mono k1 s13), ?_⟩)
        have : cutV vs l h = vs := by
          unfold cutV
          rw [e.1, e.2]
          simp
        rw [← this]
        exact cut
      · exact hx.ownF o3 g13 hd (.inl ⟨d, _, rfl, .inr (.inl upd_same), cut.mono (same_upd (o3.le.free hd))⟩)
  · have e0 : cutL ([] : List α) l h = [] := by unfold cutL; simp
    have hx : (pure (cutL ([] : List α) l h) : Mo (List α)).run (NQ G Γ σ F H (.fz (rQd X.K dd ρ)) Q) (EQ X W G Γ σ F H) := hx
    rw [e0] at hx
    refine .inr ⟨dd, [], rfl, hk.sq _, fun e => ?_, fun e => ?_⟩
    · exact hx _ F3 H3 o3 g13 (.inr ⟨rfl, rfl, hk⟩)
    · have z : ∀ o : Option Int, HT.sIx 0 0 o = 0 := fun o => by
        unfold HT.sIx
        cases o with
        | none => rfl
        | some v => simp; omega
      exact absurd ⟨z l, z h⟩ e
/-- membership, told by the equality of the type -/
def memQ [DecidableEq α] (x : α) (ys : List α) : Bool := decide (x ∈ ys)
variable [s : EqE ρ] [DecidableEq α] {ma : Mo α} {mq : Mo (List α)}
theorem rc_inQd {K : PySem.W.Frag} (hu : X.A.units + 65 < cLine) (hn : s.n ≤ 60 := by decide) (ha : RE X W Γ a ma (.fz ρ)) (hb : RE X W Γ b mq (.fz (rQd K dd ρ))) (hK : X.K = K := by rfl) : RC X W Γ .In a b (ma >>= fun x => mq >>= fun ys => Mo.rq (Eqk ρ x ∧ Eqks ρ ys) (memQ x ys)) := by
  subst hK
  exact ⟨_, op_or (op_inD hu) (op_inT hu), fun G σ F H Q o q => by
    refine ha G σ F H _ o (ma.mono (fun x hx v F1 H1 o1 g1 z1 => ?_) (fun _ z => z) q)
    refine hb G σ F1 H1 _ o1 (mq.mono (fun ys hy v2 F2 H2 o2 g2 zz => ?_) (fun _ => EQ.step g1) hx)
    obtain ⟨⟨k1, k2⟩, hy⟩ := hy
    rcases zz with ⟨ad, vs, rfl, w1, z3⟩ | ⟨rfl, rfl, hk⟩
    · obtain ⟨h3, h4⟩ := dt_all z3 k2.2
      rcases w1 with w1 | w1
      · refine .inl ⟨_, _, dp_of z1 k1 (g2.fs.trans o2.le), .lst (SqL.of (o2.le _ _ w1)) (DpAll.ofI h3 fun i x c e1 e2 => ((h4 i x c e1 e2).mono o2.le).dp), (s.lay k1).shaped (by omega), (lay_lst (lays k2.2)).shaped (by omega), ?_⟩
        rw [any_mem]
        exact hy _ F2 H2 o2 (g1.trans g2 owns_tr) rfl
      · refine .inr ⟨_, _, dp_of z1 k1 (g2.fs.trans o2.le), .tup (SqT.ofR (Rd.mono w1 o2.le)) (DpAll.ofI h3 fun i x c e1 e2 => ((h4 i x c e1 e2).mono o2.le).dp), (s.lay k1).shaped (by omega), (lay_tup (lays k2.2)).shaped (by omega), ?_⟩
        rw [any_mem]
        exact hy _ F2 H2 o2 (g1.trans g2 owns_tr) rfl
    · refine .inr ⟨_, [], dp_of z1 k1 (g2.fs.trans o2.le), .tup (hk.sq _) (DpAll.ofI (by simp) fun i x c e1 e2 => by simp at e1), (s.lay k1).shaped (by omega), (lay_tup (n := s.n) (fun d hd => by simp at hd)).shaped (by omega), ?_⟩
      have := hy (.bl (memQ x ([] : List α))) F2 H2 o2 (g1.trans g2 owns_tr) rfl
      simpa [memQ] using this⟩
/-- the first place, told by the equality of the type -/
def idxQ {α : Type} [DecidableEq α] (x : α) (ys : List α) : Option Nat := ys.idxOf? x
theorem re_indexQ {apos : Pos} {mlq : Mo (List α)} (hu : X.A.units + 65 < cLine) (hn : s.n ≤ 60 := by decide) (hb : RE X W Γ b mlq (.fz (rL ρ))) (ha : RE X W Γ a ma (.fz ρ))
    (hbase : attributeBase b "index" X.env (eval b X.env) = eval b X.env := by rfl)
    (hfew : ((backTo pos (starEach [a] X.env)).all (fun x => !x.1) && (backToKw pos (keywordEach [] X.env)).all (fun x => x.1.isSome)
      && decide ([a].length + ([] : List Keyword).length + (if ([] : List Keyword).isEmpty then 0 else 1) < 30)) = true := by rfl)
    (hline : (apos.endLine == pos.line) = true := by rfl) (hs : starEach [a] X.env = [(false, eval a X.env)] := by rfl) :
    RE X W Γ (.Call (.Attribute b "index" apos) [a] [] pos) (mlq >>= fun ys => ma >>= fun x => Mo.rq (Eqk ρ x ∧ Eqks ρ ys) () >>= fun _ => Mo.get (idxQ x ys) >>= fun j => pure (j : Int)) (.fz rI) := re_index hu hn hb ha hbase hfew hline hs
/-- the empty tuple, written -/
def rT0 (_ : Unit) : Pr := rTu []
end
end RF
namespace GQ
open PySem PySem.SeqAt
open AutoSeq1 (wpAny_loadPart')
open MeetsSeq MeetsSeq2 MeetsSeq3 SeqRoads2
section
variable {prog : Program} {w : World} {A : Around} {R : Result → Shared → Prop}
/-- == of two tuples, item by item, up to the first pair that differs -/
theorem tuple_eqB (l b : Addr) (items items2 : Array Value) (n n2 : Nat) (dd dd2 : Option Addr) (sl sl2 : Array (Option Value)) (I : Nat → Shared → Prop) (J : Shared → Prop)
    (turn : ∀ i (h1 : i < items.size) (h2 : i < items2.size) s, I i s → wpAny (model prog w) A.in1 (eqBool items[i] items2[i]) (fun r s' => if r = true then I (i + 1) s' else J s') (fun e s' => R (.error e) s') s)
    (fin : ∀ s, I (min items.size items2.size) s → R (.ok (.ret (.bool (items.size == items2.size)))) s) (finJ : ∀ s, J s → R (.ok (.ret (.bool false))) s) {s : Shared}
    (hl1 : s.heap.get? l = some { cls := .type "tuple", dict := dd, data := .seq items n, slots := sl }) (hb1 : s.heap.get? b = some { cls := .type "tuple", dict := dd2, data := .seq items2 n2, slots := sl2 }) (h : I 0 s) :
    wpAny (model prog w) A.in1 (Builtin.«tuple.__eq__» ⟨[.ref l, .ref b], []⟩) (FinOf prog w A R) (fun e s' => R (.error e) s') s := by
  have f2 := AutoSeq1.sub_tuple_tuple
  have hZ : (items.toList.zip items2.toList).length = min items.size items2.size := by simp
  have h0 := h
  obtain ⟨hp, g, d, tk, os⟩ := s
  wp_walk using wpAny_loadPart' hl1, wpAny_loadPart' hb1, wpAny_forIn_list _ (fun rest b s' => b.1 = none ∧ ∃ i, rest = (items.toList.zip items2.toList).drop i ∧ i ≤ min items.size items2.size ∧ I i s') _
  case turn =>
    rintro ⟨y, x⟩ rest b s' ⟨hb', i, hz, hi, hI⟩
    have hlt : i < (items.toList.zip items2.toList).length := by
      rcases Nat.lt_or_ge i (items.toList.zip items2.toList).length with h' | h'
      · exact h'
      · rw [List.drop_of_length_le h'] at hz; cases hz
    have h1 : i < items.size := by omega
    have h2 : i < items2.size := by omega
    rw [List.drop_eq_getElem_cons hlt] at hz
    injection hz with hyx hrest
    have hy : y = items[i] := by have := congrArg Prod.fst hyx; simpa using this
    have hx : x = items2[i] := by have := congrArg Prod.snd hyx; simpa using this
    subst hy hx
    refine wpAny_bind (wpAny_mono (turn i h1 h2 s' hI) (fun r s2 q2 => ?_) fun _ _ x => x)
    cases r with
    | true =>
      have q2 : I (i + 1) s2 := q2
      wp_walk
      exact ⟨rfl, i + 1, hrest, by omega, q2⟩
    | false =>
      have q2 : J s2 := q2
      have hR := finJ s2 q2
      wp_walk
      exact hR
  case fin =>
    rintro ⟨b1, b2⟩ s' ⟨hb', i, hz, hi, hI⟩
    simp only at hb'
    subst hb'
    have hge : min items.size items2.size ≤ i := by
      rcases Nat.lt_or_ge i (items.toList.zip items2.toList).length with h' | h'
      · rw [List.drop_eq_getElem_cons h'] at hz; cases hz
      · exact hZ ▸ h'
    have hi' : i = min items.size items2.size := by omega
    have hR := fin s' (hi' ▸ hI)
    wp_walk
    simpa [Builtin.Tuple.tupleCompareSizes] using hR
  case h =>
    exact ⟨rfl, 0, rfl, Nat.zero_le _, h0⟩
end
section
variable {prog : Program} {w : World} {A : Around} {E : Value → Shared → Prop} {s : Shared}
theorem rc_tupB {l b : Addr} {items items2 : Array Value} {Q : Value → Shared → Prop} (hu : A.units < cLine) (I : Nat → Shared → Prop) (J : Shared → Prop)
    (hl : s.heap.IsTuple l items) (hb : s.heap.IsTuple b items2)
    (turn : ∀ i (h1 : i < items.size) (h2 : i < items2.size) s, I i s → wpAny (model prog w) A.in1 (eqBool items[i] items2[i]) (fun r s' => if r = true then I (i + 1) s' else J s') E s)
    (fin : ∀ s, I (min items.size items2.size) s → Q (.bool (items.size == items2.size)) s) (finJ : ∀ s, J s → Q (.bool false) s) (h : I 0 s) : wpAny (model prog w) A (richCompare .Eq (.ref l) (.ref b)) Q E s := by
  obtain ⟨⟨cls, dd, data, sl⟩, ho, hc, n, hd⟩ := id hl
  obtain ⟨⟨cls2, dd2, data2, sl2⟩, ho2, hc2, n2, hd2⟩ := id hb
  simp only at hc hd hc2 hd2
  subst hc hd hc2 hd2
  refine wpAny_richCompare_same_room (op := .Eq) ⟨_, ho, rfl⟩ ⟨_, ho2, rfl⟩ F.slot_tuple_eq (call_here F.slot_tuple_eq ⟨_, ho, rfl⟩ F.entry_tuple_eq (F.args_tuple_eq_2 _ _) ?_) hu
  exact tuple_eqB (R := wants (fun v s' => v ≠ .notImplemented ∧ Q v s') E) l b items items2 n n2 dd dd2 sl sl2 I J turn (fun s' q => ⟨(fun x => nomatch x), fin s' q⟩) (fun s' q => ⟨(fun x => nomatch x), finJ s' q⟩) ho ho2 h
end
end GQ
namespace RF
open PySem PySem.Spec PyProof.Rows L2 KO SX
section
variable {X : Cx} {CX : CXT} {k : Nat} {f C : Addr} {fd : FuncData} {ps : List Str} {sp : Sp} {E : XK}
/-- == of two tuples of own instances -/
def rEqTO (C : Addr) (sp : Sp) (E : XK) : R2 := fun x y H Q => ∃ a b xs ys, x = .ref a ∧ y = .ref b ∧ Rd H a (.tup xs) ∧ Rd H b (.tup ys) ∧ ∃ (I : Nat → Hp → Prop) (J : Hp → Prop), I 0 H ∧
  (∀ i x y H', xs[i]? = some x → ys[i]? = some y → I i H' → ∃ p dx fs q dy gs, x = .ref p ∧ y = .ref q ∧ H' p = some (.ins C dx fs) ∧ H' q = some (.ins C dy gs) ∧ (p = q → I (i + 1) H') ∧ (p ≠ q → sp [.ref p, .ref q] H' (fun v H2 => ∃ c, v = .bl c ∧ if c = true then I (i + 1) H2 else J H2) E)) ∧
  (∀ H', I (min xs.length ys.length) H' → Q (.bl (xs.length == ys.length)) H') ∧ (∀ H', J H' → Q (.bl false) H')
theorem eq_tupO {E : XK} (m : Meth X.K C "__eq__" f) (F : FnOk X.prog X.w X.K X.mg X.base CX k f fd ps sp) (hr : Room (k + 1) X.A) (hb : Binds X.K fd ps []) (hx : ∀ σ, PassesAt CX X σ E) : OpR X (compareOp .Eq) (rEqTO C sp E) := by
  intro pins s σ H x y v u Q II rx ry h
  obtain ⟨a, b, xs, ys, rfl, rfl, ha, hb', I, J, h0, turn, fin, finJ⟩ := h
  cases rx
  cases ry
  obtain ⟨its, r, e, z⟩ := II.tuple (SqT.ofR ha)
  obtain ⟨its2, r2, e2, z2⟩ := II.tuple (SqT.ofR hb')
  refine GQ.rc_tupB hr.units0 (fun i s' => ∃ H', Inv X pins σ H' s' ∧ I i H') (fun s' => ∃ H', Inv X pins σ H' s' ∧ J H') e e2 (fun i h1 h2 s' q => ?_) (fun s' q => ?_) (fun s' q => ?_) ⟨H, II, h0⟩
  · obtain ⟨H1, I1, q⟩ := q
    have g1 : its[i]? = some its.toArray[i] := by
      have h1' : i < its.length := by simpa using h1
      rw [List.getElem?_eq_getElem h1'] <;> simp
    have g2 : its2[i]? = some its2.toArray[i] := by
      have h2' : i < its2.length := by simpa using h2
      rw [List.getElem?_eq_getElem h2'] <;> simp
    have k1 : i < xs.length := by rw [r.length]; simpa using h1
    have k2 : i < ys.length := by rw [r2.length]; simpa using h2
    obtain ⟨u, hu, ru⟩ := r.get (List.getElem?_eq_getElem k1)
    obtain ⟨v, hv, rv⟩ := r2.get (List.getElem?_eq_getElem k2)
    rw [g1] at hu
    rw [g2] at hv
    rw [Option.some.inj hu, Option.some.inj hv]
    obtain ⟨p, dx, fs, q', dy, gs, ep, eq, hp, hq, same, other⟩ := turn i _ _ H1 (List.getElem?_eq_getElem k1) (List.getElem?_eq_getElem k2) q
    rw [ep] at ru
    rw [eq] at rv
    cases ru
    cases rv
    by_cases hpq : p = q'
    · subst hpq
      exact (SeqAt.EqAt.same _) X.prog X.w X.xe _ (by rw [if_pos rfl]; exact ⟨H1, I1, same rfl⟩)
    · refine GQ.eqBool_refG hpq ?_
      obtain ⟨ox, od, K1⟩ := inst_at I1 hp
      obtain ⟨oy, od', K2⟩ := inst_at I1 hq
      obtain ⟨m', hF⟩ := I1.fr
      refine PySem.W.cmp_K (op := .Eq) (tb := .ref C) hr.in1.units0 hF I1.ok.mod.kin K1 K2.type (by simp [PySem.W.notFirst]) m.at_ m.fn (wpAny_mono (own_run (E := fun _ => E) (A := X.A.in1) F hr.in1 rfl hb (hx σ) I1 (.cons vref (.cons vref .nil)) (other hpq)) (fun u s2 hu => ?_) fun _ _ x => x)
      obtain ⟨v, H2, I2, rv, c, rfl, q2⟩ := hu
      cases rv
      refine ⟨c, rfl, ?_⟩
      cases c with
      | true => exact ⟨H2, I2, q2⟩
      | false => exact ⟨H2, I2, q2⟩
  · obtain ⟨H1, I1, q⟩ := q
    have e3 : its.toArray.size = xs.length := by rw [List.size_toArray, r.length]
    have e4 : its2.toArray.size = ys.length := by rw [List.size_toArray, r2.length]
    rw [e3, e4] at q
    rw [e3, e4]
    exact ⟨.bl _, H1, I1, rfl, fin H1 q⟩
  · obtain ⟨H1, I1, q⟩ := q
    exact ⟨.bl false, H1, I1, rfl, finJ H1 q⟩
end
/-! a value tells what it stands for -/
class FI {α : Type} (ρ : α → Pr) : Prop where
  inj : ∀ {x y : α} {v : V} {F : Hp}, (ρ x).r v F → (ρ y).r v F → x = y
section
variable {α β γ δ ε ζ : Type} {ρ : α → Pr} {σ : β → Pr} {τ : γ → Pr} {υ : δ → Pr} {φ : ε → Pr} {χ : ζ → Pr} {F : Hp}
instance : FI rI := ⟨fun {x y v F} h k => by have h : v = V.int x := h; have k : v = V.int y := k; rw [h] at k; injection k⟩
instance : FI rB := ⟨fun {x y v F} h k => by have h : v = V.bl x := h; have k : v = V.bl y := k; rw [h] at k; injection k⟩
instance : FI rS := ⟨fun {x y v F} h k => by have h : v = V.str x := h; have k : v = V.str y := k; rw [h] at k; injection k⟩
instance : FI rN := ⟨fun {x y v F} h k => rfl⟩
theorem Ps.inj [FI ρ] : ∀ {xs ys : List α} {vs : List V}, Ps F (xs.map ρ) vs → Ps F (ys.map ρ) vs → xs = ys
  | [], [], [], _, _ => rfl
  | x :: xs, y :: ys, v :: vs, h, k => by rw [FI.inj h.1 k.1, Ps.inj h.2 k.2]
  | [], _ :: _, [], _, k => k.elim
  | _ :: _, [], [], h, _ => h.elim
  | [], _, _ :: _, h, _ => h.elim
  | _, [], _ :: _, _, k => k.elim
  | _ :: _, _ :: _, [], h, _ => h.elim
theorem rLu_at {ps : List Pr} {v : V} (h : (rLu ps).r v F) : ∃ a vs, v = .ref a ∧ F a = some (.lst vs) ∧ Ps F ps vs := h
theorem rTu_at {ps : List Pr} {v : V} (h : (rTu ps).r v F) : ∃ a vs, v = .ref a ∧ Rd F a (.tup vs) ∧ Ps F ps vs := h
theorem rTu_two {ps qs : List Pr} {v : V} (h : (rTu ps).r v F) (k : (rTu qs).r v F) : ∃ vs, Ps F ps vs ∧ Ps F qs vs := by
  obtain ⟨a, vs, rfl, h1, h2⟩ := rTu_at h
  obtain ⟨b, us, e, k1, k2⟩ := rTu_at k
  cases e
  have hv : vs = us := by
    rcases h1 with h1 | ⟨o, h1⟩ <;> rcases k1 with k1 | ⟨o', k1⟩ <;> rw [h1] at k1 <;> cases k1 <;> rfl
  subst hv
  exact ⟨vs, h2, k2⟩
theorem rLu_two {ps qs : List Pr} {v : V} (h : (rLu ps).r v F) (k : (rLu qs).r v F) : ∃ vs, Ps F ps vs ∧ Ps F qs vs := by
  obtain ⟨a, vs, rfl, h1, h2⟩ := rLu_at h
  obtain ⟨b, us, e, k1, k2⟩ := rLu_at k
  cases e
  rw [h1] at k1
  cases k1
  exact ⟨vs, h2, k2⟩
instance [FI ρ] : FI (rL ρ) := ⟨fun h k => by obtain ⟨vs, h, k⟩ := rLu_two h k; exact Ps.inj h k⟩
instance [FI ρ] : FI (rTs ρ) := ⟨fun h k => by obtain ⟨vs, h, k⟩ := rTu_two h k; exact Ps.inj h k⟩
theorem ps_two {p q : Pr} {ps qs : List Pr} {vs : List V} (h : Ps F (p :: ps) vs) (k : Ps F (q :: qs) vs) : ∃ v us, p.r v F ∧ q.r v F ∧ Ps F ps us ∧ Ps F qs us := by
  match vs, h, k with
  | v :: vs, h, k => exact ⟨v, vs, h.1, k.1, h.2, k.2⟩
instance [FI ρ] [FI σ] : FI (rT2 ρ σ) := ⟨fun {x y v F} h k => by
  obtain ⟨vs, h, k⟩ := rTu_two h k
  obtain ⟨_, _, a1, b1, h, k⟩ := ps_two h k
  obtain ⟨_, _, a2, b2, h, k⟩ := ps_two h k
  exact Prod.ext (FI.inj a1 b1) (FI.inj a2 b2)⟩
instance [FI ρ] [FI σ] [FI τ] : FI (rT3 ρ σ τ) := ⟨fun {x y v F} h k => by
  obtain ⟨vs, h, k⟩ := rTu_two h k
  obtain ⟨_, _, a1, b1, h, k⟩ := ps_two h k
  obtain ⟨_, _, a2, b2, h, k⟩ := ps_two h k
  obtain ⟨_, _, a3, b3, h, k⟩ := ps_two h k
  exact Prod.ext (FI.inj a1 b1) (Prod.ext (FI.inj a2 b2) (FI.inj a3 b3))⟩
instance [FI ρ] [FI σ] [FI τ] [FI υ] : FI (rT4 ρ σ τ υ) := ⟨fun {x y v F} h k => by
  obtain ⟨vs, h, k⟩ := rTu_two h k
  obtain ⟨_, _, a1, b1, h, k⟩ := ps_two h k
  obtain ⟨_, _, a2, b2, h, k⟩ := ps_two h k
  obtain ⟨_, _, a3, b3, h, k⟩ := ps_two h k
  obtain ⟨_, _, a4, b4, h, k⟩ := ps_two h k
  exact Prod.ext (FI.inj a1 b1) (Prod.ext (FI.inj a2 b2) (Prod.ext (FI.inj a3 b3) (FI.inj a4 b4)))⟩
instance [FI ρ] [FI σ] [FI τ] [FI υ] [FI φ] [FI χ] : FI (rT6 ρ σ τ υ φ χ) := ⟨fun {x y v F} h k => by
  obtain ⟨vs, h, k⟩ := rTu_two h k
  obtain ⟨_, _, a1, b1, h, k⟩ := ps_two h k
  obtain ⟨_, _, a2, b2, h, k⟩ := ps_two h k
  obtain ⟨_, _, a3, b3, h, k⟩ := ps_two h k
  obtain ⟨_, _, a4, b4, h, k⟩ := ps_two h k
  obtain ⟨_, _, a5, b5, h, k⟩ := ps_two h k
  obtain ⟨_, _, a6, b6, h, k⟩ := ps_two h k
  exact Prod.ext (FI.inj a1 b1) (Prod.ext (FI.inj a2 b2) (Prod.ext (FI.inj a3 b3) (Prod.ext (FI.inj a4 b4) (Prod.ext (FI.inj a5 b5) (FI.inj a6 b6)))))⟩
instance [FI ρ] [NN ρ] : FI (rO ρ) := ⟨fun {x y v F} h k => by
  cases x with
  | none => cases y with
    | none => rfl
    | some y => exact absurd (show v = .non from h) (NN.nn y v F k)
  | some x => cases y with
    | none => exact absurd (show v = .non from k) (NN.nn x v F h)
    | some y => exact congrArg some (FI.inj (ρ := ρ) h k)⟩
theorem fi_in {α : Type} {C : Addr} {fs : α → List (Str × Pr)} {x y : α} {v : V} (h : (rIn C (fs x)).r v F) (k : (rIn C (fs y)).r v F) : ∃ gs, Fs F (fs x) gs ∧ Fs F (fs y) gs := by
  obtain ⟨a, dx, gs, rfl, h1, h2⟩ := h
  obtain ⟨b, dy, gs2, e, k1, k2⟩ := k
  cases e
  rw [h1] at k1
  cases k1
  exact ⟨gs, h2, k2⟩
theorem fs_two {n m : Str} {p q : Pr} {ps qs : List (Str × Pr)} {vs : List (Str × V)} (h : Fs F ((n, p) :: ps) vs) (k : Fs F ((m, q) :: qs) vs) : ∃ v us, p.r v F ∧ q.r v F ∧ Fs F ps us ∧ Fs F qs us := by
  match vs, h, k with
  | (_, v) :: vs, h, k => exact ⟨v, vs, h.2.1, k.2.1, h.2.2, k.2.2⟩
end
section
variable {α : Type} {X : Cx} {W : WX} {Γ : Ctx} {a b : Expr}
/-- the own == tells equality on these -/
def EqTell [DecidableEq α] (m : α → α → Mo Bool) (xs ys : List α) : Prop := ∀ x ∈ xs, ∀ y ∈ ys, ∀ Q : Bool → Prop, Q (decide (x = y)) → (m x y).run Q fun _ => False
theorem rc_eqTO [DecidableEq α] {k : Nat} {f C : Addr} {fd : FuncData} {ps : List Str} {m : α × α × Unit → Mo Bool} {ma mb : Mo (List α)} {ρ : α → Pr} [FI ρ] (fs : α → List (Str × Pr)) (hm : Meth X.K C "__eq__" f)
    (Fn : FnOk X.prog X.w X.K X.mg X.base (L2.CX X.prog X.w) k f fd ps (spR X.K X.mg (fun (_ : Unit) (z : α × α × Unit) => [.fz (ρ z.1), .fz (ρ z.2.1)]) m (.fz rB))) (hr : Room (k + 1) X.A) (tk : Takes X W) (hb : Binds X.K fd ps [])
    (ha : RE X W Γ a ma (.fz (rTs ρ))) (hb2 : RE X W Γ b mb (.fz (rTs ρ))) (hρ : ∀ x, ρ x = rIn C (fs x) := by intro _; rfl) : RC X W Γ .Eq a b (ma >>= fun x => mb >>= fun y => Mo.rq (EqTell (fun u w => m (u, w, ())) x y) (decide (x = y))) :=
  ⟨_, eq_tupO hm Fn hr hb (pass_calm tk), rte_two ha hb2 fun xs ys G σ F H Q u w o hu hw q => by
    obtain ⟨a, vs, rfl, h1, p1⟩ := hu
    obtain ⟨b, us, rfl, h2, p2⟩ := hw
    have l1 : vs.length = xs.length := by rw [p1.len]; simp
    have l2 : us.length = ys.length := by rw [p2.len]; simp
    have q1 : EqTell (fun u w => m (u, w, ())) xs ys := q.1
    have q2 : NQ G Γ σ F H (.fz rB) Q (decide (xs = ys)) := q.2
    refine ⟨a, b, vs, us, rfl, rfl, Rd.mono h1 o.le, Rd.mono h2 o.le, fun i H' => (∃ F', Ok G Γ σ F' H' ∧ Go (owns Γ) F H F' H') ∧ xs.take i = ys.take i, fun H' => (∃ F', Ok G Γ σ F' H' ∧ Go (owns Γ) F H F' H') ∧ xs ≠ ys, ⟨⟨F, o, Go.refl o.le⟩, rfl⟩, fun i x y H' hx hy hI => ?_, fun H' hI => ?_, fun H' hJ => ?_⟩
    · obtain ⟨⟨F', o', g'⟩, ht⟩ := hI
      obtain ⟨px, ex, rx⟩ := (p1.mono g'.fs).get' hx
      obtain ⟨py, ey, ry⟩ := (p2.mono g'.fs).get' hy
      rw [List.getElem?_map] at ex ey
      cases zx : xs[i]? with
      | none => rw [zx] at ex; cases ex
      | some x0 =>
        cases zy : ys[i]? with
        | none => rw [zy] at ey; cases ey
        | some y0 =>
          rw [zx] at ex
          rw [zy] at ey
          cases ex
          cases ey
          have rx' := rx
          have ry' := ry
          rw [hρ x0] at rx'
          rw [hρ y0] at ry'
          obtain ⟨p, dx, gs, rfl, k1, _⟩ := rx'
          obtain ⟨p', dy, gs2, rfl, k2, _⟩ := ry'
          have tl : ∀ H2, (∃ F2, Ok G Γ σ F2 H2 ∧ Go (owns Γ) F H F2 H2) → (if decide (x0 = y0) = true then ((∃ F2, Ok G Γ σ F2 H2 ∧ Go (owns Γ) F H F2 H2) ∧ xs.take (i + 1) = ys.take (i + 1)) else ((∃ F2, Ok G Γ σ F2 H2 ∧ Go (owns Γ) F H F2 H2) ∧ xs ≠ ys)) := fun H2 h => by
            by_cases e : x0 = y0
            · rw [if_pos (by simpa using e)]
              refine ⟨h, ?_⟩
              rw [List.take_add_one, List.take_add_one, ht, zx, zy, e]
            · rw [if_neg (by simpa using e)]
              refine ⟨h, fun e2 => e ?_⟩
              rw [e2, zy] at zx
              exact (Option.some.inj zx).symm
          have run := q1 x0 (List.mem_of_getElem? zx) y0 (List.mem_of_getElem? zy)
          refine ⟨p, dx, gs, p', dy, gs2, rfl, rfl, o'.le _ _ k1, o'.le _ _ k2, fun e => ?_, fun _ => ?_⟩
          · subst e
            refine ⟨⟨F', o', g'⟩, ?_⟩
            rw [List.take_add_one, List.take_add_one, ht, zx, zy, FI.inj rx ry]
          · refine run_spR (W := W0) (Γ := Γ) (i := ()) (y := (x0, y0, ())) o' ⟨rfl, fun i en v e1 e2 => ?_, fun i l a q h => ?_⟩ rfl ?_
            · match i, e1, e2 with
              | 0, e1, e2 => cases e1; cases e2; exact rx
              | 1, e1, e2 => cases e1; cases e2; exact ry
            · match i, h with
              | 0, h => cases h
              | 1, h => cases h
            · refine (m (x0, y0, ())).mono (fun _ h => h) (fun _ z => z.elim) (run _ ?_)
              intro v F2 H2 o2 g2 hv
              have hv : v = .bl _ := hv
              exact ⟨_, hv, tl H2 ⟨F2, o2, g'.trans g2 owns_tr⟩⟩
    · obtain ⟨⟨F', o', g'⟩, ht⟩ := hI
      rw [l1, l2] at ht ⊢
      have e : (xs.length == ys.length) = decide (xs = ys) := by
        by_cases e : xs = ys
        · simp [e]
        · rw [decide_eq_false e]
          rw [beq_eq_false_iff_ne]
          intro el
          rw [el, Nat.min_self] at ht
          rw [List.take_of_length_le (by omega), List.take_of_length_le (by omega)] at ht
          exact e ht
      rw [e]
      exact q2 _ _ _ o' g' rfl
    · obtain ⟨⟨F', o', g'⟩, ht⟩ := hJ
      have := q2 (.bl false) F' H' o' g'
      rw [decide_eq_false ht] at this
      exact this rfl⟩
end
end RF
namespace RF
open PySem PySem.Spec PyProof.Rows L2 KO SX
/-! ### defs with *args -/
def spS {ι β γ : Type} (n : Nat) (K : PySem.W.Frag) (mg : Str → Option Value) (pp : ι → β → Ctx) (m : β → Mo γ) (kr : RK γ) : Sp := fun vs H Q E => ∃ ws rest, vs = ws ++ rest ∧ ws.length = n ∧ rest.length ≤ sizeLine ∧ ∀ p, H p = none → spR K mg pp m kr (ws ++ [V.ref p]) (upd H p (.tup rest)) Q E
theorem fn_mkS {β γ : Type} {P : Program} {w : World} {K : PySem.W.Frag} {mg : Str → Option Value} {base : Heap} {x qual pv : Str} {st : Stmt} {f : Addr} {fd : FuncData} {N ps : List Str} {k : Nat} {ι : Type} {pp : ι → β → Ctx} {m : β → Mo γ} {kr : RK γ} {Γe Γ0 : ι → β → Ctx} {Z : ι → β → γ → Fin}
    (F : Fun K x qual st f fd) (S : FnScope N (ps ++ [pv]) (defScope st)) (hb : ∀ (kV doc pm : Value) (an : Option Addr) (cdv ct : Value) (us rest : List Value), us.length = ps.length → bindArgs (PySem.W.fnOf x qual (defArgs st) (defBody st) (defScope st) .none kV doc pm an cdv ct) ⟨us ++ rest, []⟩ = (newTuple rest >>= fun t => pure (ps.zip us ++ [(pv, t)])))
    (hlen : ∀ c y, (pp c y).length = (ps ++ [pv]).length) (hΓ : ∀ c y, Γ0 c y = pp c y ++ List.replicate (N.length - (ps ++ [pv]).length) .un) (hle : ∀ c y, Le (Γe c y) (Γ0 c y))
    (hown : ∀ c y (i : Nat) (l : Bool) (a : Addr) (q : Po), (pp c y)[i]? = some (.ow l a q) → (Γe c y)[i]? = some (.ow l a q)) (hz : ∀ c y z, Z c y z = .ret (kr.ok z) ∨ (Z c y z = .nx (Γe c y) ∧ ∀ H F' H', kr.ok z .non H F' H'))
    (hbody : ∀ (cdv : Value) (A : Around) (outer : List Env) (s : Shared) (H : Hp) (E : XK) (c : ι) (y : β), Room k (A.deeper (envOfC qual (defScope st) s.heap.objs.size f cdv)) →
      RB (cxOf (L2.CX P w) P w K mg base N qual (defScope st) f cdv A outer s H E) (fun cls d _ H => E cls d H) (Γe c y) false (Γ0 c y) (defBody st) (m y) (Z c y)) :
    FnR P w K mg base (L2.CX P w) (k + 1) f (spS ps.length K mg pp m kr) := by
  have ln : ∀ {vs : List V} {c : ι} {y : β} {F0 H : Hp}, Ok ⟨F0, H, owns (pp c y)⟩ (pp c y) (vs.map some) F0 H → vs.length = (ps ++ [pv]).length := fun {vs c y F0 H} o => by
    have := o.ln
    rw [List.length_map, hlen] at this
    exact this
  obtain ⟨oc, od, kV, doc, pm, an, cdv, ct, osl, rfl, lk, hcd⟩ := F.ex
  refine StX.fn_star lk hcd S StX.cxUp (hb kV doc pm an cdv ct) fun A outer s H vs Q E hr ⟨c, y, F0, o, q⟩ => ?_
  refine ⟨_, pssS, ?_⟩
  have hl := ln o
  have o0 : Ok ⟨F0, H, owns (pp c y)⟩ (Γ0 c y) (L2.start N vs) F0 H := by
    rw [hΓ c y]
    refine ⟨o.go, fun i en he => ?_, fun i j l l' a p q h1 h2 => ?_, by unfold L2.start; rw [List.length_append, List.length_append, List.length_map, List.length_replicate, List.length_replicate, hl, hlen c y]⟩
    · by_cases hi : i < (pp c y).length
      · rw [List.getElem?_append_left hi] at he
        have z := o.en i en he
        have e : (L2.start N vs)[i]? = (vs.map some)[i]? := by
          unfold L2.start
          rw [List.getElem?_append_left (by rw [List.length_map, hl, ← hlen c y]; exact hi)]
        rw [e]
        exact z
      · rw [List.getElem?_append_right (by omega), List.getElem?_replicate] at he
        split at he
        · cases he; trivial
        · cases he
    · have key : ∀ {i : Nat} {l : Bool} {p : Po}, (pp c y ++ List.replicate (N.length - (ps ++ [pv]).length) En.un)[i]? = some (.ow l a p) → (pp c y)[i]? = some (.ow l a p) := fun {i l p} h => by
        by_cases hi : i < (pp c y).length
        · rw [List.getElem?_append_left hi] at h; exact h
        · rw [List.getElem?_append_right (by omega), List.getElem?_replicate] at h
          split at h
          · cases h
          · cases h
      exact o.ap i j l l' a p q (key h1) (key h2)
  have own : ∀ {σ : L2.St} {F' H' : Hp}, Ok ⟨F0, H, owns (pp c y)⟩ (Γe c y) σ F' H' → OwnOk F' H' (pp c y) := fun {σ F' H'} o i l a q h => by
    obtain ⟨_, h2, _, u, h4, h5⟩ := o.en i _ (hown c y i l a q h)
    exact ⟨h2, u, h4, h5⟩
  refine hbody cdv A outer s H E c y hr (hle c y) ⟨F0, H, owns (pp c y)⟩ (L2.start N vs) F0 H { nx := fun _ H' => Q .non H', rt := Q } _ (fun _ => rfl) o0 ((m y).mono (fun z hzq => ?_) (fun ex hex cls d σ F' H' _ o' r => ?_) q)
  · rcases hz c y z with h | ⟨h, h2⟩
    · rw [h]
      exact fun v σ F' H' _ o' r => hzq v F' H' o'.go (own o') r
    · rw [h]
      exact fun σ F' H' _ o' => hzq .non F' H' o'.go (own o') (h2 _ _ _)
  · exact hex cls d F' H' o'.go (own o') r
section
variable {X : Cx} {CX : CXT} {k : Nat} {f C : Addr} {sp : Sp} {E : L2.St → XK}
theorem run_fnRS {pins : List (Addr × Obj)} {σ : L2.St} {H : Hp} {s : Shared} {Q : VK} {us : List Value} {vs : List V} (F : FnR X.prog X.w X.K X.mg X.base CX k f sp) (hr : Room k X.A) (hx : PassesAt CX X σ (E σ))
    (I : Inv X pins σ H s) (r : Vals vs us) (h : sp vs H Q (E σ)) : wpAny (model X.prog X.w) X.A (call (.ref f) us) (EP X pins σ Q) X.xe s := by
  refine wpAny_call (codeAny_mono (F X.A X.stack s H us vs Q (E σ) hr I.env0 r h) fun r s' hq => ?_)
  cases r with
  | error e => exact hx pins H s e s' I hq
  | ok fl =>
    cases fl with
    | ret u => exact I.after hq
    | next => exact False.elim hq
    | brk => exact False.elim hq
    | cont => exact False.elim hq
theorem pe_methRX {m : Str} {o e : Expr} {es : List Expr} {ta : TE} {t : TA} {apos pos : Pos} {pl : Sem Bool} (he : PE X o ta) (c : Cls X.K C) (hm : Meth X.K C m f) (F : FnR X.prog X.w X.K X.mg X.base CX k f sp) (hr : Room k X.A) (hx : ∀ σ, PassesAt CX X σ (E σ)) (ha : PA X (e :: es) t)
    (hst : starEach (e :: es) X.env = (false, eval e X.env) :: starEach es X.env := by rfl) (hpl : (backTo pos (starEach (e :: es) X.env)).any (·.1) = false := by rfl)
    (ht : eval (.Call (.Attribute o m apos) (e :: es) [] pos) X.env = (do
      let ov ← eval o X.env
      standAt apos.atName
      let (f, first) ← holding [ov] (getMethod ov m pl)
      callWith pos f first (backTo pos (starEach (e :: es) X.env)) (backToKw pos (keywordEach [] X.env))) := by rfl) :
    PE X (.Call (.Attribute o m apos) (e :: es) [] pos) (tMethX C m sp E ta t) := by
  refine ⟨fun pins s σ H Q I h => ?_⟩
  refine PySem.W.methodCall_KW (pl := pl) (thn (he.run pins s σ H _ I h) fun u s1 ⟨x, H1, I1, rx, a, dx, fs, ex, ea, l, q⟩ => ?_) ht
  subst ex
  obtain rfl : u = Value.ref a := rx
  refine getmeth_ok I1 ea c hm l ?_
  refine PySem.W.callWith_K (first := [.ref a]) (h₀ := X.base) I.ok.mod.kin hm.kp (thn (ha.run pos pins s1 σ H1 _ I1 q) fun us s2 ⟨vs, H2, I2, r, q2⟩ => ⟨I2.kIn, ?_⟩) hst (by
    have : (backTo pos (starEach es X.env)).any (·.1) = false := by
      have h := hpl
      rw [hst] at h
      simpa [backTo] using h
    exact this)
  exact run_fnRS (us := .ref a :: us) (vs := .ref a :: vs) F hr (hx σ) I2 (.cons rfl r) q2
theorem pe_methRX0 {m : Str} {o : Expr} {ta : TE} {apos pos : Pos} {pl : Sem Bool} (he : PE X o ta) (c : Cls X.K C) (hm : Meth X.K C m f) (F : FnR X.prog X.w X.K X.mg X.base CX k f sp) (hr : Room k X.A) (hx : ∀ σ, PassesAt CX X σ (E σ))
    (ht : eval (.Call (.Attribute o m apos) [] [] pos) X.env = (do
      let ov ← eval o X.env
      standAt apos.atName
      let (f, first) ← holding [ov] (getMethod ov m pl)
      callWith pos f first (backTo pos (starEach [] X.env)) (backToKw pos (keywordEach [] X.env))) := by rfl) :
    PE X (.Call (.Attribute o m apos) [] [] pos) (tMethX C m sp E ta tNil) := by
  refine ⟨fun pins s σ H Q I h => ?_⟩
  refine PySem.W.methodCall_KW (pl := pl) (thn (he.run pins s σ H _ I h) fun u s1 ⟨x, H1, I1, rx, a, dx, fs, ex, ea, l, q⟩ => ?_) ht
  subst ex
  obtain rfl : u = Value.ref a := rx
  refine getmeth_ok I1 ea c hm l ?_
  exact PySem.W.callWith_K0 (first := [.ref a]) I1.kIn hm.kp (run_fnRS (us := [.ref a]) (vs := [.ref a]) F hr (hx σ) I1 (.cons rfl .nil) q)
end
section
variable {α β γ δ : Type} {X : Cx} {W : WX} {Γ : Ctx} {o e : Expr} {es : List Expr} {k : Nat} {f C : Addr} {n : Str} {mo : Mo α} {ma : Mo β} {ρo : α → Pr} {ρe : δ → Pr} {kr : RK γ} {apos pos : Pos} {pl : Sem Bool} {m : α × List δ × Unit → Mo γ}
theorem star_args {G : Gf} {σ : L2.St} {F H : Hp} {xs : List δ} {vs : List V} (o : Ok G Γ σ F H) (h : ArgOk Γ F H (xs.map fun x => .fz (ρe x)) vs) : Ps F (xs.map ρe) vs := by
  have hl : vs.length = xs.length := by have := h.1; simpa using this
  clear o
  have key : ∀ (xs : List δ) (vs : List V), vs.length = xs.length → (∀ (i : Nat) (x : δ) (v : V), xs[i]? = some x → vs[i]? = some v → (ρe x).r v F) → Ps F (xs.map ρe) vs := fun xs => by
    induction xs with
    | nil => intro vs hl _; rw [List.eq_nil_of_length_eq_zero hl]; trivial
    | cons x xs ih =>
      intro vs hl hv
      cases vs with
      | nil => simp at hl
      | cons v vs => exact ⟨hv 0 x v rfl rfl, ih vs (by simpa using hl) fun i y u h1 h2 => hv (i + 1) y u (by simpa using h1) (by simpa using h2)⟩
  exact key xs vs hl fun i x v h1 h2 => h.2.1 i (.fz (ρe x)) v (by rw [List.getElem?_map, h1]; rfl) h2
/-- the call of a def with *args, once its arguments are there -/
theorem run_spS {G : Gf} {σ : L2.St} {F H : Hp} {a : V} {vs : List V} {Q : VK} {x : α} {ys : List δ} (o : Ok G Γ σ F H) (hx : (ρo x).r a F) (hv : Ps F (ys.map ρe) vs) (hl : ys.length ≤ sizeLine)
    (q : (m (x, ys, ())).run (NQ G Γ σ F H kr Q) (EQ X W G Γ σ F H)) : spS 1 X.K X.mg (fun (_ : Unit) (z : α × List δ × Unit) => [.fz (ρo z.1), .fz (rTs ρe z.2.1)]) m kr (a :: vs) H Q (WE W σ) := by
  refine ⟨[a], vs, rfl, rfl, by rw [hv.len, List.length_map]; exact hl, fun p hp => ?_⟩
  have hF : F p = none := o.le.free hp
  have g : Go (owns Γ) F H (upd F p (.tup vs)) (upd H p (.tup vs)) := Go.new o.le hp
  have g0 : Go [] F H (upd F p (.tup vs)) (upd H p (.tup vs)) := Go.new o.le hp
  have o1 : Ok G Γ σ (upd F p (.tup vs)) (upd H p (.tup vs)) := o.move g0 fun x hx => by cases hx
  have s1 : Same F (upd F p (.tup vs)) := same_upd hF
  refine run_spR (X := X) (W := W) (Γ := Γ) (i := ()) (y := (x, ys, ())) o1 ⟨rfl, fun i en u h1 h2 => ?_, fun i l b q h => ?_⟩ rfl (run_step g q)
  · match i, h1, h2 with
    | 0, h1, h2 => cases h1; cases h2; exact (ρo x).mono s1 hx
    | 1, h1, h2 => cases h1; cases h2; exact ⟨p, vs, rfl, .inl upd_same, hv.mono s1⟩
  · match i, h with
    | 0, h => cases h
    | 1, h => cases h
theorem re_methSt {pa : β → Ctx} (lst : β → List δ) (fs : α → List (Str × Pr)) (ho : RE X W Γ o mo (.fz ρo)) (c : Cls X.K C) (hm : Meth X.K C n f) (Fn : FnR X.prog X.w X.K X.mg X.base (L2.CX X.prog X.w) k f (spS 1 X.K X.mg (fun (_ : Unit) (z : α × List δ × Unit) => [.fz (ρo z.1), .fz (rTs ρe z.2.1)]) m kr)) (hr : Room k X.A) (tk : Takes X W) (ha : RA X W Γ (e :: es) ma pa)
    (hρ : ∀ x, ρo x = rIn C (fs x) := by intro _; rfl) (hn : ∀ x, (fs x).lookup n = none := by intro _; rfl) (hpp : ∀ y, pa y = (lst y).map (fun x => .fz (ρe x)) := by intro _; rfl) (hln : ∀ y, (lst y).length ≤ sizeLine := by intro _; exact Nat.le_of_ble_eq_true rfl) (hst : starEach (e :: es) X.env = (false, eval e X.env) :: starEach es X.env := by rfl) (hpl : (backTo pos (starEach (e :: es) X.env)).any (·.1) = false := by rfl)
    (ht : eval (.Call (.Attribute o n apos) (e :: es) [] pos) X.env = (do
      let ov ← eval o X.env
      standAt apos.atName
      let (f, first) ← holding [ov] (getMethod ov n pl)
      callWith pos f first (backTo pos (starEach (e :: es) X.env)) (backToKw pos (keywordEach [] X.env))) := by rfl) :
    RE X W Γ (.Call (.Attribute o n apos) (e :: es) [] pos) (mo >>= fun x => ma >>= fun y => m (x, lst y, ())) kr := by
  refine re_of (pe_methRX peE c hm Fn hr (fun σ => passAt tk σ) paA hst hpl ht) fun G σ F H Q o q => ?_
  refine ho G σ F H _ o (mo.mono (fun x hx v F1 H1 o1 g1 z => ?_) (fun _ z => z) q)
  have z' : (ρo x).r v F1 := z
  have z2 := z'
  rw [hρ x] at z2
  obtain ⟨a, dx, gs, rfl, h1, h2⟩ := z2
  refine ⟨a, dx, gs, rfl, o1.le _ _ h1, h2.lookN (hn x), ?_⟩
  refine ha G σ F1 H1 _ o1 (ma.mono (fun y hy vs F' H' o' g' z => ?_) (fun _ => EQ.step g1) hx)
  rw [hpp y] at z
  exact run_spS o' ((ρo x).mono g'.fs z') (star_args o' z) (hln y) (run_step (g1.trans g' owns_tr) hy)
theorem re_methSt0 (fs : α → List (Str × Pr)) (ho : RE X W Γ o mo (.fz ρo)) (c : Cls X.K C) (hm : Meth X.K C n f) (Fn : FnR X.prog X.w X.K X.mg X.base (L2.CX X.prog X.w) k f (spS 1 X.K X.mg (fun (_ : Unit) (z : α × List δ × Unit) => [.fz (ρo z.1), .fz (rTs ρe z.2.1)]) m kr)) (hr : Room k X.A) (tk : Takes X W)
    (hρ : ∀ x, ρo x = rIn C (fs x) := by intro _; rfl) (hn : ∀ x, (fs x).lookup n = none := by intro _; rfl)
    (ht : eval (.Call (.Attribute o n apos) [] [] pos) X.env = (do
      let ov ← eval o X.env
      standAt apos.atName
      let (f, first) ← holding [ov] (getMethod ov n pl)
      callWith pos f first (backTo pos (starEach [] X.env)) (backToKw pos (keywordEach [] X.env))) := by rfl) :
    RE X W Γ (.Call (.Attribute o n apos) [] [] pos) (mo >>= fun x => m (x, [], ())) kr := by
  refine re_of (pe_methRX0 peE c hm Fn hr (fun σ => passAt tk σ) ht) fun G σ F H Q o q => ?_
  refine ho G σ F H _ o (mo.mono (fun x hx v F1 H1 o1 g1 z => ?_) (fun _ z => z) q)
  have z' : (ρo x).r v F1 := z
  have z2 := z'
  rw [hρ x] at z2
  obtain ⟨a, dx, gs, rfl, h1, h2⟩ := z2
  refine ⟨a, dx, gs, rfl, o1.le _ _ h1, h2.lookN (hn x), ?_⟩
  exact run_spS (ys := []) o1 z' trivial (Nat.zero_le _) (run_step g1 hx)
end
end RF
namespace RF
open PySem PySem.Spec PyProof.Rows L2 KO SX
/-! more on programs over data -/
section
variable {α β γ δ : Type}
theorem Mo.catch1_pure {x : α} {cn : Str} {fls : List Str} {h : Ex → Mo α} : Mo.catch1 (pure x) cn fls h = pure x := Mo.ext' fun Q E => rfl
theorem Mo.catch1_throw {e : Ex} {cn : Str} {fls : List Str} {h : Ex → Mo α} (he : e.cls = cn) : Mo.catch1 (Mo.throw e) cn fls h = Mo.calm (h e) := Mo.ext' fun Q E => by
  show (if e.cls = cn then (h e).run Q (fun _ => False) else _) = _
  rw [if_pos he]; rfl
theorem Mo.run_throwI {e : Ex} {Q : α → Prop} {E : Ex → Prop} (h : E e) : (Mo.throw e : Mo α).run Q E := h
theorem memQ_iff [DecidableEq α] {x : α} {ys : List α} : memQ x ys = true ↔ x ∈ ys := by unfold memQ; exact decide_eq_true_iff
theorem if_in {p q : Prop} [Decidable p] [Decidable q] : (if decide p = true then pure (decide q) else pure false : Mo Bool) = pure (decide p && decide q) := by
  cases decide p <;> rfl
theorem if_or {p q : Prop} [Decidable p] [Decidable q] : (if decide p = true then pure true else pure (decide q) : Mo Bool) = pure (decide p || decide q) := by
  cases decide p <;> rfl
theorem rqB {p : Prop} (h : p) : Mo.rq p true = (pure true : Mo Bool) := Mo.rq_of h
/-- it ends by an error, or it does not -/
def Mo.fin (bc : β → Ex) (x : α) : Option β → Mo α
  | some p => Mo.throw (bc p)
  | none => pure x
theorem Mo.fold_fin {bc : γ → Ex} {f : Unit → β → Mo Unit} {g : β → Option γ} : ∀ {xs : List β}, (∀ x ∈ xs, f () x = Mo.fin bc () (g x)) → Mo.fold f xs () = Mo.fin bc () (xs.findSome? g)
  | [], _ => rfl
  | x :: xs, h => by
    show (f () x >>= fun s => Mo.fold f xs s) = _
    rw [h x List.mem_cons_self, List.findSome?_cons]
    cases e : g x with
    | some r => rfl
    | none => exact Mo.fold_fin fun y hy => h y (List.mem_cons_of_mem _ hy)
theorem lc_self {xs : List α} (h : xs.length ≤ 1000000) : Mo.lc (fun _ => pure true) (fun x : α => pure x) xs = pure xs := by
  rw [Mo.lc_map (g := fun x => x) (by rw [sizeLine_eq]; omega) fun _ _ => rfl, List.map_id']
/-- a loop over the numbers of a list's items -/
theorem Mo.loop_range {f : Unit → Int → Mo (Lp Unit δ)} {g : Int × β → Option δ} {A : List β} (h : ∀ (i : Nat) (x : β), A[i]? = some x → f () (i : Int) = pure (Lp.of () (g ((i : Int), x)))) : Mo.loop f (rangeL 0 A.length) () = pure (Lp.of () ((enumL A).findSome? g)) := by
  rw [Mo.loop_find (g := fun w : Int => (A[w.toNat]?).bind fun t => g (w, t)) fun w hw => ?_]
  · rw [range_enum, findSome_mapL]
    congr 2
    refine findSome_congr fun w hw => ?_
    rw [(enumL_mem hw).2.2]
    rfl
  · obtain ⟨k1, k2⟩ := rangeL_mem.mp hw
    have h3 : w.toNat < A.length := by omega
    have := h w.toNat _ (List.getElem?_eq_getElem h3)
    rw [List.getElem?_eq_getElem h3]
    rw [show ((w.toNat : Nat) : Int) = w by omega] at this
    exact this
theorem Mo.loop_enum {S : Type} {f : S → β → Mo (Lp S δ)} {g : Int × β → Option δ} (st : Nat → S) {xs : List β} (h : ∀ (i : Nat) (x : β), xs[i]? = some x → f (st i) x = pure (Lp.of (st (i + 1)) (g ((i : Int), x)))) :
    ∀ n k, n + k = xs.length → Mo.loop f (xs.drop k) (st k) = pure (Lp.of (st xs.length) (((enumL xs).drop k).findSome? g))
  | 0, k, hk => by
    have hk : k = xs.length := by omega
    subst hk
    rw [List.drop_length, List.drop_of_length_le (by rw [enumL_len]; omega)]
    rfl
  | n + 1, k, hk => by
    have h1 : k < xs.length := by omega
    have h2 : k < (enumL xs).length := by rw [enumL_len]; exact h1
    have e : (enumL xs)[k] = ((k : Int), xs[k]) := by
      have := enumL_get (xs := xs) (i := k)
      rw [List.getElem?_eq_getElem h2, List.getElem?_eq_getElem h1] at this
      exact Option.some.inj this
    rw [List.drop_eq_getElem_cons h1, List.drop_eq_getElem_cons h2, List.findSome?_cons, e]
    unfold Mo.loop
    rw [h k _ (List.getElem?_eq_getElem h1)]
    cases g ((k : Int), xs[k]) with
    | some r => rfl
    | none =>
      simp only [Lp.of, pure_bind]
      exact Mo.loop_enum st h n (k + 1) (by omega)
theorem enum_in {xs : List α} {i : Nat} {x : α} (h : xs[i]? = some x) : ((i : Int), x) ∈ enumL xs := List.mem_of_getElem? (i := i) (by rw [enumL_get, h]; rfl)
theorem nodup_take {l : List α} (h : l.Nodup) {i : Nat} {x : α} (hx : l[i]? = some x) : x ∉ l.take i := by
  intro hm
  obtain ⟨j, hj⟩ := List.getElem?_of_mem hm
  rw [List.getElem?_take] at hj
  split at hj
  · next hlt =>
    have := (List.getElem?_inj (List.getElem?_eq_some_iff.mp hj).1 h).mp (hj.trans hx.symm)
    omega
  · cases hj
/-- what m gives, then the rest -/
theorem Mo.cut {m : Mo α} {k : α → Mo β} {Q : β → Prop} {E : Ex → Prop} (R : α → Prop) (h : m.run R (fun _ => False)) (q : ∀ x, R x → (k x).run Q E) : (m >>= k).run Q E := m.mono (fun x hx => q x hx) (fun _ z => z.elim) h
theorem Mo.run_of {m : Mo α} {x : α} {Q : α → Prop} {E : Ex → Prop} (h : m = pure x) (q : Q x) : m.run Q E := by rw [h]; exact q
end
end RF
namespace RF
open PySem PySem.Spec PyProof.Rows L2 KO SX
/-! ### targets within targets -/
def RGs (t : TGs) (ps : List Pr) (f : Ctx → Ctx) (vs : List Nat) : Prop := ∀ G Γ σ F H Q us, Ok G Γ σ F H → Ps F ps us → (∀ σ', Ok G (f Γ) σ' F H → wipe σ' vs = wipe σ vs → Q σ' H) → t us σ H Q
section
variable {K : PySem.W.Frag} {g : TG} {t : TGs} {p : Pr} {ps : List Pr} {f f' : Ctx → Ctx} {vs : List Nat}
theorem rgs_nil : RGs gNil [] (fun Γ => Γ) vs := fun G Γ σ F H Q us o h q => by
  cases us with
  | nil => exact ⟨rfl, q σ o rfl⟩
  | cons _ _ => exact h.elim
theorem rgs_cons (h : RG K g p f vs) (k : RGs t ps f' vs) : RGs (gCons g t) (p :: ps) (fun Γ => f' (f Γ)) vs := fun G Γ σ F H Q us o z q => by
  cases us with
  | nil => exact z.elim
  | cons v us => exact ⟨v, us, rfl, h G Γ σ F H _ v o z.1 fun σ1 o1 e1 => k G _ σ1 F H Q us o1 z.2 fun σ2 o2 e2 => q σ2 o2 (e2.trans e1)⟩
theorem rg_tupN {n : Nat} (h : RGs t ps f vs) (hn : ps.length = n := by rfl) : RG K (gTup K n t) (rTu ps) f vs := fun G Γ σ F H Q v o hv q => by
  obtain ⟨a, us, rfl, h1, h2⟩ := hv
  exact ⟨a, us, rfl, SqT.ofR (Rd.mono h1 o.le), h2.len.trans hn, h G Γ σ F H Q us o h2 q⟩
theorem rgo_id : RGo (fun Γ => Γ) vs := ⟨fun _ _ h => h, fun _ _ _ => rfl⟩
theorem RGo.then (h : RGo f vs) (k : RGo f' vs) : RGo (fun Γ => f' (f Γ)) vs := ⟨fun Γ a q => h.sub _ a (k.sub _ a q), fun Γ i q => (k.keep _ i q).trans (h.keep Γ i q)⟩
end
/-! ### if: branches that run on or return -/
def Lp.fj {δ S : Type} (Γj : S → Ctx) (Zr : δ → Fin) : Lp S δ → Fin
  | .go s => .nx (Γj s)
  | .brk s => .nx (Γj s)
  | .ret a => Zr a
section
variable {γ δ S : Type} {X : Cx} {W : WX} {Γe Γ Γ' : Ctx} {lv : Bool} {rest : List Stmt} {Z : γ → Fin} {pos : Pos}
theorem rb_ifR {c : Expr} {a b : List Stmt} {mc : Mo Bool} {ma mb : Mo (Lp S δ)} {mr : S → Mo γ} {kr : δ → γ} {Zr : δ → Fin} (Γj : S → Ctx) (hc : RT X W Γ c mc) (ha : RB X W Γe false Γ a ma (Lp.fj Γj Zr)) (hb : RB X W Γe false Γ b mb (Lp.fj Γj Zr)) (hl : ∀ j, Le Γe (Γj j)) (hz : ∀ a, Z (kr a) = Zr a) (hret : ∀ a, ∃ R, Zr a = .ret R)
    (hr : ∀ j, RB X W Γe lv (Γj j) rest (mr j) Z) :
    RB X W Γe lv Γ (.If c a b pos :: rest) (mc >>= fun k => (if k = true then ma else mb) >>= Lp.out mr kr) Z := fun le G σ F H D nx' hn o q =>
  tSs_cons (ps_if ptT pssS pssS) (hc G σ F H _ o (mc.mono (fun k hx F' H' o' g' => by
    have key : ∀ l : Lp S δ, (Lp.out mr kr l).run (fun x => FinOk G Γe D F (Z x)) (XQ X W G Γe F) → FinOk G Γe { D with nx := tSs X rest { D with nx := nx' } } F' (Lp.fj Γj Zr l) := fun l hl' => by
      have nxt : ∀ j : S, (mr j).run (fun x => FinOk G Γe D F (Z x)) (XQ X W G Γe F) → FinOk G Γe { D with nx := tSs X rest { D with nx := nx' } } F' (.nx (Γj j)) := fun j hj σ2 F2 H2 s2 o2 => hr j (hl j) G σ2 F2 H2 D nx' hn o2 (run_any hj)
      cases l with
      | go j => exact nxt j hl'
      | brk j => exact nxt j hl'
      | ret a =>
        have hl' : FinOk G Γe D F (Z (kr a)) := hl'
        rw [hz a] at hl'
        obtain ⟨R, hR⟩ := hret a
        show FinOk G Γe _ F' (Zr a)
        rw [hR] at hl' ⊢
        exact fun v5 σ5 F5 H5 s5 o5 => hl' v5 σ5 F5 H5 s5 o5
    cases k with
    | true => exact iteT (ha le G σ F' H' { D with nx := tSs X rest { D with nx := nx' } } _ (fun _ => rfl) o' (ma.mono key (fun _ => XQ.step g'.fs) (by simpa using hx)))
    | false => exact iteF (hb le G σ F' H' { D with nx := tSs X rest { D with nx := nx' } } _ (fun _ => rfl) o' (mb.mono key (fun _ => XQ.step g'.fs) (by simpa using hx)))) (fun _ => XQ.eq le) q))
end
/-! ### list(range(..)) -/
section
variable {X : Cx} {W : WX} {Γ : Ctx} {e a b : Expr} {pos p p2 : Pos} {ma mb : Mo Int}
theorem rgV_map (i j : Int) : rgV i j = (rangeL i (j - i).toNat).map V.int := by
  unfold rgV rangeL
  rw [List.map_map]
  rfl
theorem ps_ints {F : Hp} : ∀ xs : List Int, Ps F (xs.map rI) (xs.map V.int)
  | [] => trivial
  | _ :: xs => ⟨rfl, ps_ints xs⟩
theorem re_lstRg1 (h : RE X W Γ a ma (.fz rI)) (hm : X.mg "list" = none) (hm2 : X.mg "range" = none) (hc : X.calm = true := by rfl) (hg : Gl X "list" := by rfl) (hg2 : Gl X "range" := by rfl)
    (na : starEach [.Call (.Name "range" p2) [a] [] pos] X.env = (false, eval (.Call (.Name "range" p2) [a] [] pos) X.env) :: starEach [] X.env := by rfl) (na2 : starEach [a] X.env = (false, eval a X.env) :: starEach [] X.env := by rfl) {q : Pos} :
    RE X W Γ (.Call (.Name "list" p) [.Call (.Name "range" p2) [a] [] pos] [] q) (ma >>= fun n => Mo.rq (-(2 ^ 62) ≤ n ∧ n ≤ 2 ^ 24) (rangeL 0 n.toNat)) (.ow (oL rI)) := by
  refine re_of (pe_listRg hc hg hm (prg_1 hg2 hm2 peE na2) na) fun G σ F H Q o q => ?_
  refine h G σ F H _ o (ma.mono (fun n hx v F' H' o' g' z => ?_) (fun _ z => z) q)
  obtain rfl : v = .int n := z
  refine ⟨n, rfl, ⟨by omega, by omega, hx.1.1, by have := hx.1.2; omega, by have := hx.1.2; omega⟩, fun d hd => hx.2.own o' g' hd ⟨_, rfl, ?_⟩⟩
  rw [rgV_map, Int.sub_zero]
  exact ps_ints _
theorem re_lstRg2 (h : RE X W Γ a ma (.fz rI)) (h2 : RE X W Γ b mb (.fz rI)) (hm : X.mg "list" = none) (hm2 : X.mg "range" = none) (hc : X.calm = true := by rfl) (hg : Gl X "list" := by rfl) (hg2 : Gl X "range" := by rfl)
    (na : starEach [.Call (.Name "range" p2) [a, b] [] pos] X.env = (false, eval (.Call (.Name "range" p2) [a, b] [] pos) X.env) :: starEach [] X.env := by rfl) (na2 : starEach [a, b] X.env = (false, eval a X.env) :: starEach [b] X.env := by rfl) (nb : starEach [b] X.env = (false, eval b X.env) :: starEach [] X.env := by rfl)
    (hp : (backTo pos (starEach [b] X.env)).any (·.1) = false := by rfl) {q : Pos} :
    RE X W Γ (.Call (.Name "list" p) [.Call (.Name "range" p2) [a, b] [] pos] [] q) (ma >>= fun i => mb >>= fun j => Mo.rq (-(2 ^ 62) ≤ i ∧ i < 2 ^ 62 ∧ -(2 ^ 62) ≤ j ∧ j < 2 ^ 62 ∧ j - i ≤ 2 ^ 24) (rangeL i (j - i).toNat)) (.ow (oL rI)) := by
  refine re_of (pe_listRg hc hg hm (prg_2 hg2 hm2 peE peE na2 nb hp) na) fun G σ F H Q o q => ?_
  refine h G σ F H _ o (ma.mono (fun i hx v F' H' o' g' z => ?_) (fun _ z => z) q)
  obtain rfl : v = .int i := z
  refine h2 G σ F' H' _ o' (mb.mono (fun j hy w F2 H2 o2 g2 z => ?_) (fun _ => EQ.step g') hx)
  obtain rfl : w = .int j := z
  refine ⟨i, j, rfl, rfl, ⟨hy.1.1, hy.1.2.1, hy.1.2.2.1, hy.1.2.2.2.1, by have := hy.1.2.2.2.2; omega⟩, fun d hd => hy.2.own o2 (g'.trans g2 owns_tr) hd ⟨_, rfl, ?_⟩⟩
  rw [rgV_map]
  exact ps_ints _
end
/-! ### great numbers -/
section
variable {X : Cx} {W : WX} {Γ : Ctx} {a b : Expr} {ma mb : Mo Int} {pos : Pos}
theorem re_mulW (ha : RE X W Γ a ma (.fz rI)) (hb : RE X W Γ b mb (.fz rI)) : RE X W Γ (.BinOp a .Mult b pos) (ma >>= fun i => mb >>= fun j => Mo.rq (CMulW i j) (i * j)) (.fz rI) := re_bin op_mulW (rop_i fun _ _ _ => rfl) ha hb
end
/-! ### texts -/
section
variable {X : Cx} {W : WX} {Γ : Ctx} {a b : Expr} {ma mb : Mo Str} {pos : Pos}
theorem re_find {apos : Pos} (ha : RE X W Γ a ma (.fz rS)) (hb : RE X W Γ b mb (.fz rS)) (hs : starEach [b] X.env = [(false, eval b X.env)] := by rfl) (hbase : attributeBase a "find" X.env (eval a X.env) = eval a X.env := by rfl) (hline : (apos.endLine == pos.line) = true := by rfl) :
    RE X W Γ (.Call (.Attribute a "find" apos) [b] [] pos) (ma >>= fun x => mb >>= fun y => pure (Txt.find x y)) (.fz rI) := by
  refine re_of (pe_m1 PySem.F.slot_str_find PySem.F.type_str_find mt_find peE peE hs hbase hline) fun G σ F H Q o q => ?_
  refine ha G σ F H _ o (ma.mono (fun x hx v F1 H1 o1 g1 zz => ?_) (fun _ z => z) q)
  obtain rfl : v = .str x := zz
  refine ⟨⟨x, rfl⟩, hb G σ F1 H1 _ o1 (mb.mono (fun y hy w F2 H2 o2 g2 z => ?_) (fun _ => EQ.step g1) hx)⟩
  obtain rfl : w = .str y := z
  exact ⟨x, y, rfl, rfl, hy _ F2 H2 o2 (g1.trans g2 owns_tr) rfl⟩
end
/-! ### a tuple that was made of a list, object and all -/
/-- nothing but its items -/
def PT (o : Obj) : Prop := o.dict = none ∧ o.slots = #[]
/-- as rTs, with the object itself -/
def rTf {α : Type} (ρ : α → Pr) (xs : List α) : Pr := ⟨fun v F => ∃ a vs o, v = .ref a ∧ F a = some (.frz o (.tup vs)) ∧ PT o ∧ Ps F (xs.map ρ) vs, fun s ⟨a, vs, o, e, h, k, m⟩ => ⟨a, vs, o, e, s _ _ h, k, m.mono s⟩⟩
section
variable {α β : Type} {X : Cx} {W : WX} {Γ : Ctx} {e a b : Expr} {pos p : Pos} {ρ : α → Pr} {ml : Mo (List α)}
theorem co_Tf {α' : Type} {ρ' : α' → Pr} {f : α → α'} (h : Coe ρ ρ' f) : Coe (rTf ρ) (rTs ρ') (fun x => x.map f) := fun x v F ⟨a, vs, o, e, k, _, p⟩ => ⟨a, vs, e, .inr ⟨o, k⟩, co_ps h p⟩
instance nlTf [NL ρ] : NL (rTf ρ) := ⟨fun {xs v F b us} h k => by
  obtain ⟨a, vs, o, rfl, h1, h2, h3⟩ := k
  refine ⟨a, vs, o, rfl, del_ok h1 ?_, h2, h3.nl h (fun p hp => by
    obtain ⟨x, _, rfl⟩ := List.mem_map.mp hp
    exact nlr x)⟩
  rintro rfl
  rw [h] at h1; cases h1⟩
instance fiTf [FI ρ] : FI (rTf ρ) := ⟨fun {x y v F} h k => by
  obtain ⟨a, vs, o, rfl, h1, h2, h3⟩ := h
  obtain ⟨b, us, o', e, k1, k2, k3⟩ := k
  cases e
  rw [h1] at k1
  cases k1
  exact Ps.inj h3 k3⟩
theorem re_Tf (h : RE X W Γ e ml (.fz (rTf ρ))) : RE X W Γ e ml (.fz (rTs ρ)) := re_as h fun x v F ⟨a, vs, o, e, h, _, m⟩ => ⟨a, vs, e, .inr ⟨o, h⟩, m⟩
theorem call_tuple_frz : CallR X (.type "tuple") (fun xs H Q => ∃ p ys, xs = [.ref p] ∧ SqL X.K H p ys ∧ ∀ l o, H l = none → PT o → Q (.ref l) (upd H l (.frz o (.tup ys)))) := by
  intro pins s σ H xs us Q I r h
  obtain ⟨p, ys, rfl, hq, q⟩ := h
  rw [Vals.ref1 r]
  obtain ⟨its, r2, pl, hz⟩ := I.list hq
  have hlen := r2.length
  refine call_tuple_list pl.isList (fun h2 kp => ?_) (by simp only [List.size_toArray]; omega)
  have I1 : Inv X pins σ H { s with heap := h2 } := I.kept (t' := s.toks) kp
  let ob : Obj := { cls := .type "tuple", data := .seq its.toArray }
  have I2 : Inv X pins σ (upd H h2.objs.size (.frz ob (.tup ys))) { s with heap := h2.push ob } :=
    I1.laid (t' := s.toks) (fun b o e => Heap.get?_push_of_some _ e) (Nat.le_refl _) (show ObjOk X.prog X.w _ _ _ (.frz ob (.tup ys)) from ⟨Heap.get?_push_size _ rfl, hz, its, r2, IsTup.new _ _⟩)
  exact ⟨.ref h2.objs.size, _, I2, rfl, q _ ob (I1.hok.fresh (Nat.le_refl _)) ⟨rfl, rfl⟩⟩
theorem re_tupleF (h : RSq X W Γ true e ml ρ) (hm : X.mg "tuple" = none) (hg : Gl X "tuple" := by rfl) (he : starEach [e] X.env = [(false, eval e X.env)] := by rfl) : RE X W Γ (.Call (.Name "tuple" p) [e] [] pos) (ml >>= fun xs => pure xs) (.fz (rTf ρ)) :=
  re_ty1 (k := true) call_tuple_frz (fun xs G σ F H Q a vs o z1 z2 q => ⟨a, vs, rfl, SqL.of z1, fun l ob hl hd => NQ.ownF q o (Go.refl o.le) hl ⟨l, vs, ob, rfl, upd_same, hd, z2.mono (same_upd (o.le.free hl))⟩⟩) h hg hm (by decide +kernel) (he := he)
end
section
variable {X : Cx} {o e : Expr} {es : List Expr} {to : TE} {t : TA} {name : Str} {apos cpos : Pos} {id : String} {r : V → List V → Hp → VK → Prop}
def tTM (r : V → List V → Hp → VK → Prop) (to : TE) (t : TA) : TE := fun σ H Q => to σ H fun x H1 => (∃ p ob us, x = .ref p ∧ H1 p = some (.frz ob (.tup us)) ∧ ob.dict = none) ∧ t σ H1 fun xs H2 => r x xs H2 Q
theorem pe_tm (slot : Slot "tuple" name id) (hty : typeOf (.builtin id) = pure (.type "method_descriptor")) (hm : MtR X id r) (ho : PE X o to) (ha : PA X (e :: es) t)
    (hbase : attributeBase o name X.env (eval o X.env) = eval o X.env := by rfl)
    (hfew : ((backTo cpos (starEach (e :: es) X.env)).all (fun x => !x.1) && (backToKw cpos (keywordEach [] X.env)).all (fun x => x.1.isSome) && decide ((e :: es).length + ([] : List Keyword).length + (if ([] : List Keyword).isEmpty then 0 else 1) < 30)) = true := by rfl)
    (hline : (apos.endLine == cpos.line) = true := by rfl) (hst : starEach (e :: es) X.env = (false, eval e X.env) :: starEach es X.env := by rfl) (hpl : (backTo cpos (starEach es X.env)).any (·.1) = false := by rfl) :
    PE X (.Call (.Attribute o name apos) (e :: es) [] cpos) (tTM r to t) := by
  refine ⟨fun pins s σ H Q I h => ?_⟩
  refine wpAny_Call_method_late hbase hfew hline rfl (thn (ho.run pins s σ H _ I h) fun v s1 ⟨x, H1, I1, r1, ty, q1⟩ => ?_)
  obtain ⟨p, ob, us, rfl, hq, hd⟩ := ty
  cases r1
  obtain ⟨hob, _, its, _, it⟩ := I1.hok _ _ hq
  refine ⟨"tuple", id, PySem.F.plainAttrs_tuple, slot, hty, (let ⟨o2, e, c, _⟩ := it; ⟨o2, e, c⟩), fun a e => ?_, ?_⟩
  · cases e
    exact ⟨ob, hob, hd⟩
  · have hA := ha.run cpos pins s1 σ H1 _ I1 q1
    rw [hst] at hA ⊢
    exact Calls.callWith_builtin (by show (false || (backTo cpos (starEach es X.env)).any (·.1)) = false; rw [hpl]; rfl) (Calls.evalArgs_plain (thn hA fun us s2 ⟨vs, H2, I2, r2, q2⟩ => hm pins s2 σ H2 (.ref p) vs (.ref p) us Q I2 rfl r2 q2))
end
section
variable {X : Cx} {W : WX} {Γ : Ctx} {a b : Expr} {pos p : Pos} {ml : Mo (List Str)} {ma : Mo Str}
theorem re_indexTf {apos : Pos} (hb : RE X W Γ b ml (.fz (rTf rS))) (ha : RE X W Γ a ma (.fz rS))
    (hbase : attributeBase b "index" X.env (eval b X.env) = eval b X.env := by rfl)
    (hfew : ((backTo pos (starEach [a] X.env)).all (fun x => !x.1) && (backToKw pos (keywordEach [] X.env)).all (fun x => x.1.isSome) && decide ([a].length + ([] : List Keyword).length + (if ([] : List Keyword).isEmpty then 0 else 1) < 30)) = true := by rfl)
    (hline : (apos.endLine == pos.line) = true := by rfl) (hs : starEach [a] X.env = [(false, eval a X.env)] := by rfl) :
    RE X W Γ (.Call (.Attribute b "index" apos) [a] [] pos) (ml >>= fun ys => ma >>= fun x => Mo.get (ys.idxOf? x) >>= fun j => pure (j : Int)) (.fz rI) := by
  refine re_of (pe_tm PySem.F.slot_tuple_index PySem.F.type_tuple_index mt_tup_index peE (pa_cons peE pa_nil hs) hbase hfew hline hs rfl) fun G σ F H Q o q => ?_
  refine hb G σ F H _ o (ml.mono (fun ys hy v F1 H1 o1 g1 z => ?_) (fun _ z => z) q)
  obtain ⟨ad, vs, ob, rfl, h1, hd, h3⟩ := z
  refine ⟨⟨ad, ob, vs, rfl, o1.le _ _ h1, hd.1⟩, ha G σ F1 H1 _ o1 (ma.mono (fun x hx w F2 H2 o2 g2 z => ?_) (fun _ => EQ.step g1) hy)⟩
  obtain rfl : w = .str x := z
  obtain ⟨j, hj, hx⟩ := hx
  rw [List.idxOf?_eq_some_iff] at hj
  obtain ⟨k1, k2, k3⟩ := hj
  have e : vs = ys.map V.str := Ps.sc (s := scS) h3
  subst e
  refine ⟨ad, ys, x, j, rfl, rfl, SqT.ofR (.inr ⟨ob, o2.le _ _ (g2.fs _ _ h1)⟩), by rw [List.getElem?_eq_getElem k1, k2], fun i hi e => ?_, hx _ F2 H2 o2 (g1.trans g2 owns_tr) rfl⟩
  rw [List.getElem?_eq_getElem (by omega)] at e
  exact k3 i hi (Option.some.inj e)
end
end RF
namespace RF
open PySem PySem.Spec PyProof.Rows L2 KO SX
section
variable {α γ : Type} {X : Cx} {W : WX} {Γe Γ : Ctx} {lv : Bool} {st : Stmt} {rest : List Stmt} {Z : γ → Fin} {e : Expr} {ρ : α → Pr} {i : Nat} {l : Bool} {ad : Addr} {xs : List α}
/-! ### own lists changed: extend, reverse, clear -/
theorem rb_ext {me : Mo (List α)} {mr : List α → Mo γ} (hs : PS X st (tDrop (tBM X.K "list" rExtend (tVar i) (tCons (tE X e) tNil)))) (hi : Γ[i]? = some (.ow l ad (oL ρ xs))) (he : RE X W Γ e me (.fz (rL ρ))) (hie : Γe[i]? = some .un) (hr : ∀ ys, RB X W Γe lv (Γ.set i (.ow l ad (oL ρ (xs ++ ys)))) rest (mr ys) Z) :
    RB X W Γe lv Γ (st :: rest) (me >>= fun ys => Mo.rq (xs.length + ys.length ≤ sizeLine) ys >>= mr) Z := fun le G σ F H D nx' hn o q =>
  tSs_cons hs (by
    obtain ⟨h1, _, _, u, hu, vs, rfl, hps⟩ := o.en i _ hi
    refine ⟨.ref ad, h1, .inl ⟨rfl, vs, SqL.of hu⟩, ?_⟩
    refine he G σ F H _ o (me.mono (fun ys hx v F' H' o' g' z => ?_) (fun _ => XQ.eq le) q)
    obtain ⟨_, _, _, u2, hu2, vs2, rfl, hps2⟩ := o'.en i _ hi
    obtain ⟨b, us, rfl, k1, k2⟩ := z
    refine ⟨ad, b, vs2, us, rfl, rfl, hu2, o'.le _ _ k1, by rw [hps2.len, k2.len, List.length_map, List.length_map]; exact hx.1, ?_⟩
    refine hr ys (le.set hie) G σ F' _ D nx' hn (o'.put (q := oL ρ (xs ++ ys)) hi ⟨_, rfl, ?_⟩) (run_fin g'.fs hx.2)
    rw [List.map_append]
    exact hps2.app k2)
def rExtT : V → List V → Hp → VK → Prop := fun x vs H Q => ∃ l b xs zs ob, x = .ref l ∧ vs = [.ref b] ∧ H l = some (.lst xs) ∧ H b = some (.frz ob (.tup zs)) ∧ PT ob ∧ xs.length + zs.length ≤ sizeLine ∧ Q .non (upd H l (.lst (xs ++ zs)))
theorem mt_extT : MtM X "list.extend" rExtT := by
  intro pins s σ H x vs v us Q I rx rv h
  obtain ⟨l, b, xs, zs, ob, rfl, rfl, hH, hB, ⟨p1, p2⟩, hz, q⟩ := h
  cases rx
  obtain ⟨u, rfl, ru⟩ := rv.one
  cases ru
  obtain ⟨z, its, n, r, hl, e⟩ := I.lstM hH
  obtain ⟨hob, hzl, its2, r2, ob2, e2, c2, n2, d2⟩ := I.hok _ _ hB
  rw [hob] at e2
  cases e2
  have hl2 := r2.length
  obtain ⟨k1, k2, k3, k4⟩ := ob
  dsimp only at c2 d2 p1 p2
  subst c2 d2 p1 p2
  have hsz : its.toArray.size + its2.toArray.size ≤ sizeLine := by rw [List.size_toArray, List.size_toArray]; omega
  have hlong : ¬ (!its.toArray.isEmpty && Builtin.List.listTooLong (its.toArray.size + its2.toArray.size)) = true := by rw [notLongL hsz, Bool.and_false]; exact Bool.false_ne_true
  refine call_meets PySem.F.slot_list_extend ⟨_, e, rfl⟩ PySem.F.entry_list_extend (PySem.F.args_list_extend_2 _ _) (AutoSeq1.list_extend_list_tuple_0 l its.toArray n b its2.toArray n2 hlong (by rw [List.size_toArray]; omega) (by omega)) ⟨e, hob, ?_⟩
  refine ⟨.non, _, I.lset (its' := its ++ its2) hH e (by simp) (r.append r2) ?_, rfl, q⟩
  rw [List.length_append]; omega
theorem rb_extT {me : Mo (List α)} {mr : List α → Mo γ} (hs : PS X st (tDrop (tBM X.K "list" rExtT (tVar i) (tCons (tE X e) tNil)))) (hi : Γ[i]? = some (.ow l ad (oL ρ xs))) (he : RE X W Γ e me (.fz (rTf ρ))) (hie : Γe[i]? = some .un) (hr : ∀ ys, RB X W Γe lv (Γ.set i (.ow l ad (oL ρ (xs ++ ys)))) rest (mr ys) Z) :
    RB X W Γe lv Γ (st :: rest) (me >>= fun ys => Mo.rq (xs.length + ys.length ≤ sizeLine) ys >>= mr) Z := fun le G σ F H D nx' hn o q =>
  tSs_cons hs (by
    obtain ⟨h1, _, _, u, hu, vs, rfl, hps⟩ := o.en i _ hi
    refine ⟨.ref ad, h1, .inl ⟨rfl, vs, SqL.of hu⟩, ?_⟩
    refine he G σ F H _ o (me.mono (fun ys hx v F' H' o' g' z => ?_) (fun _ => XQ.eq le) q)
    obtain ⟨_, _, _, u2, hu2, vs2, rfl, hps2⟩ := o'.en i _ hi
    obtain ⟨b, us, ob, rfl, k1, k3, k2⟩ := z
    refine ⟨ad, b, vs2, us, ob, rfl, rfl, hu2, o'.le _ _ k1, k3, by rw [hps2.len, k2.len, List.length_map, List.length_map]; exact hx.1, ?_⟩
    refine hr ys (le.set hie) G σ F' _ D nx' hn (o'.put (q := oL ρ (xs ++ ys)) hi ⟨_, rfl, ?_⟩) (run_fin g'.fs hx.2)
    rw [List.map_append]
    exact hps2.app k2)
theorem rb_rev (hs : PS X st (tDrop (tBM0 X.K "list" rReverse (tVar i)))) {m : Mo γ} (hi : Γ[i]? = some (.ow l ad (oL ρ xs))) (hie : Γe[i]? = some .un) (hr : RB X W Γe lv (Γ.set i (.ow l ad (oL ρ xs.reverse))) rest m Z) : RB X W Γe lv Γ (st :: rest) m Z := fun le G σ F H D nx' hn o q =>
  tSs_cons hs (by
    obtain ⟨h1, _, _, u, hu, vs, rfl, hps⟩ := o.en i _ hi
    refine ⟨.ref ad, h1, .inl ⟨rfl, vs, SqL.of hu⟩, ad, vs, rfl, rfl, hu, ?_⟩
    exact hr (le.set hie) G _ F _ D nx' hn (o.put (q := oL ρ xs.reverse) (u := .lst vs.reverse) hi ⟨_, rfl, by rw [List.map_reverse]; exact hps.rev⟩) q)
theorem rb_clear (hs : PS X st (tDrop (tBM0 X.K "list" rClear (tVar i)))) {m : Mo γ} (hi : Γ[i]? = some (.ow l ad (oL ρ xs))) (hie : Γe[i]? = some .un) (hr : RB X W Γe lv (Γ.set i (.ow l ad (oL ρ []))) rest m Z) : RB X W Γe lv Γ (st :: rest) m Z := fun le G σ F H D nx' hn o q =>
  tSs_cons hs (by
    obtain ⟨h1, _, _, u, hu, vs, rfl, hps⟩ := o.en i _ hi
    refine ⟨.ref ad, h1, .inl ⟨rfl, vs, SqL.of hu⟩, ad, vs, rfl, rfl, hu, ?_⟩
    exact hr (le.set hie) G _ F _ D nx' hn (o.put (q := oL ρ []) (u := .lst []) hi ⟨_, rfl, trivial⟩) q)
end
end RF
namespace RF
open PySem PySem.Spec PyProof.Rows L2 KO SX
/-! ### len(set(xs)), xs of texts -/
def setLen {α : Type} [DecidableEq α] (xs : List α) : Nat := xs.eraseDups.length
theorem eraseDups_snoc {α : Type} [DecidableEq α] (ys : List α) (x : α) : (ys ++ [x]).eraseDups.length = if x ∈ ys then ys.eraseDups.length else ys.eraseDups.length + 1 := by
  rw [List.eraseDups_append]
  by_cases h : x ∈ ys
  · rw [if_pos h]
    have : List.removeAll [x] ys = [] := by simp [List.removeAll, h]
    rw [this]; simp
  · rw [if_neg h]
    have : List.removeAll [x] ys = [x] := by simp [List.removeAll, h]
    rw [this]; simp [List.eraseDups_cons]
section
variable {P : Program} {w : World} {A : Around} {E : Value → Shared → Prop} {s : Shared}
abbrev SetS (P : Program) (w : World) (h : Heap) (S : Addr) (ws : List Str) : Prop := h.SetOf (strKind P w) S (fun k => decide (k ∈ ws)) (setLen ws)
theorem SetS.at {h h2 : Heap} {S : Addr} {ws : List Str} (q : SetS P w h S ws) (k : ∀ o, h.get? S = some o → h2.get? S = some o) : SetS P w h2 S ws := by
  obtain ⟨o, es, ep, t, ho, z⟩ := q
  exact ⟨o, es, ep, t, k _ ho, z⟩
theorem setLen_le (ws : List Str) : setLen ws ≤ ws.length := by
  unfold setLen
  induction h : ws.length generalizing ws with
  | zero => rw [List.length_eq_zero_iff.mp h]; simp
  | succ n ih =>
    have : ws = ws.dropLast ++ [ws.getLast (by intro e; rw [e] at h; simp at h)] := (List.dropLast_concat_getLast _).symm
    rw [this, eraseDups_snoc]
    have k := ih ws.dropLast (by rw [List.length_dropLast]; omega)
    split <;> omega
theorem upd_texts {I : Addr} {fp wr : List Addr} {G : Array GenState → Array GenState → Prop} {n : Nat} {Pv : Nat → Value → Prop} {St : Nat → Shared → Prop} {R : Result → Shared → Prop}
    (W : WalksS P w A.in1 I fp wr G n Pv St) (S : Addr) (apart : S ∉ fp) (ws : List Str) (en : n = ws.length) (few : ws.length + 1 < scanBound) (each : ∀ i v, Pv i v → ∃ x t, ws[i]? = some x ∧ v = .str x t) :
    ∀ (m i : Nat) (s : Shared), n - i = m → i ≤ n → St i s → SetS P w s.heap S (ws.take i) →
      (∀ s2, Moved (S :: wr) G s s2 → SetS P w s2.heap S ws → R (.ok (.ret .none)) s2) → codeAny (model P w) A (.builtin "set.update.loop" ⟨[.ref S, .ref I], []⟩) R s := by
  have notw : S ∉ wr := fun z => apart (W.sub _ z)
  have more : ∀ c ∈ wr, c ∈ S :: wr := fun c z => List.mem_cons_of_mem _ z
  intro m
  induction m with
  | zero =>
    intro i s hm hi hst hS fin
    obtain rfl : i = n := by omega
    refine codeAny_builtin F.entry_set_update_loop ?_
    rw [Around.under_plainId F.plain_set_update_loop _]
    show wpAny _ A.in1 (pyNext (.ref I) >>= _) _ _ s
    refine wpAny_bind (W.done s _ _ hst fun s2 mv => ?_)
    rw [List.take_of_length_le (by omega)] at hS
    exact wpAny_pure (fin s2 (mv.mono more) (hS.at fun o e => mv.heap S o notw e))
  | succ m ih =>
    intro i s hm hi hst hS fin
    have lt : i < n := by omega
    refine codeAny_builtin F.entry_set_update_loop ?_
    rw [Around.under_plainId F.plain_set_update_loop _]
    show wpAny _ A.in1 (pyNext (.ref I) >>= _) _ _ s
    refine wpAny_bind (W.item i s _ _ lt hst fun v s2 pv st2 mv => ?_)
    obtain ⟨x, t, hx, rfl⟩ := each i v pv
    have hS2 := hS.at (h2 := s2.heap) fun o e => mv.heap S o notw e
    have lenle := setLen_le (ws.take i)
    have tl : (ws.take i).length ≤ ws.length := by rw [List.length_take]; omega
    show wpAny _ A.in1 (holding [Value.str x t] (setAdd S (.str x t)) >>= _) _ _ s2
    refine wpAny_bind (wpAny_holding ?_)
    unfold setAdd
    refine wpAny_holding ?_
    refine wpAny_bind ((strKind P w).pyHash (k := x) (strKind_is _ _ _ _) ?_)
    refine wpAny_setAddHashed_of (knd := strKind P w) (s := { s2 with toks := s2.toks + 1 }) (strKind_is _ _ _ _) rfl hS2 (by omega) fun h3 sb hS3 => ?_
    have hS4 : SetS P w h3 S (ws.take (i + 1)) := SetOf_congr hS3 (fun k => by rw [List.take_add_one, hx]; simp [Bool.decide_or]) (by
      unfold setLen
      rw [List.take_add_one, hx]
      show _ = (ws.take i ++ [x]).eraseDups.length
      rw [eraseDups_snoc]
      by_cases c : x ∈ ws.take i
      · simp [c]
      · simp [c])
    refine wpAny_pure ⟨plainId_quiet F.plain_set_update_loop _, ih (i + 1) _ (by omega) lt (W.frame _ s2 _ _ st2 (Nat.le_succ _) fun c hc o e => ?_) hS4 fun s5 mv5 hS5 => ?_⟩
    · rw [sb.2 c fun z : c = S => apart (by rw [← z]; exact hc)]; exact e
    · refine fin s5 (Moved.trans W.gtrans ((mv.mono more).then_heap (Nat.le_succ _) fun c o hc e => ?_) mv5) hS5
      rw [sb.2 c fun z : c = S => hc (by rw [z]; exact List.mem_cons_self)]; exact e
theorem strs_at {us : List Value} {ws : List Str} (txt : StrsAre us ws) : ∀ {i : Nat} {v : Value}, us[i]? = some v → ∃ x t, ws[i]? = some x ∧ v = .str x t := by
  induction txt with
  | nil => intro i v h; simp at h
  | cons x t _ ih =>
    intro i v h
    cases i with
    | zero => exact ⟨x, t, rfl, (Option.some.inj h).symm⟩
    | succ i => exact ih (by simpa using h)
/-- the empty set that is laid -/
abbrev oSet (led : Bool) : Obj := { cls := .type "set", dict := none, data := .set #[] 0 (.fresh 0 0 led) }
theorem set_texts {l : Addr} {its : Array Value} (ws : List Str) {Q : Value → Shared → Prop} (calm : A.handled = none) (isl : s.heap.IsList l its) (txt : StrsAre its.toList ws) (few : ws.length + 1 < scanBound)
    (goal : ∀ (h2 : Heap) (tk : Nat), SetS P w h2 s.heap.objs.size ws → (∀ b o, s.heap.get? b = some o → h2.get? b = some o) → Q (.ref s.heap.objs.size) { s with heap := h2, toks := tk }) :
    wpAny (model P w) A (call (.type "set") [.ref l]) Q E s := by
  have len : its.toList.length = ws.length := by
    clear goal isl few
    generalize its.toList = us at txt
    induction txt with
    | nil => rfl
    | cons x t _ ih => rw [List.length_cons, List.length_cons, ih]
  have size_eq : its.size = ws.length := (Array.length_toList (xs := its)).symm.trans len
  obtain ⟨c0, tl0, m0⟩ := F.called_set.mro
  have q1 := F.called_set.made; have q2 := F.called_set.sub
  refine wpAny_call (codeAny_of_tree ?_)
  show wpAny _ _ (callAny (.type "set") ⟨[.ref l], []⟩) _ _ s
  refine wpAny_pure ⟨Code.quiet_builtin _ (by decide +kernel), codeAny_builtin F.entry_type_call ?_⟩
  rw [show A.under (.builtin "type.__call__" ⟨[.type "set", .ref l], []⟩) = _ from Around.under_plain (weight_type_call_type "set" [.ref l] []) rfl]
  have q3 := F.called_set.notType; have q4 := F.called_set.canCreate; have q5 := F.typeCall_set_1 (.ref l)
  repeat (any_goals (first | assumption | wp_step))
  refine codeAny_mono (code_set_new_1 (.ref l) (E := E) (Q₁ := fun x s1 => ∃ led : Bool, x = .ref s.heap.objs.size ∧ s1 = { s with heap := s.heap.push (oSet led) }) fun led => ⟨led, rfl, rfl⟩) fun r1 s1 h1 => ?_
  cases r1 with
  | error e => exact h1
  | ok f1 =>
    cases f1 with
    | ret x =>
      obtain ⟨led, rfl, rfl⟩ := h1
      have got : (s.heap.push (oSet led)).get? s.heap.objs.size = some (oSet led) := Heap.get?_push_size _ rfl
      have ty : Shared.TypeIs { s with heap := s.heap.push (oSet led) } (.ref s.heap.objs.size) "set" := ⟨_, got, rfl⟩
      have q6 := F.called_set.init.lookup; have q7 := F.called_set.init.bind (.ref s.heap.objs.size)
      repeat (any_goals (first | assumption | wp_step))
      refine codeAny_mono (codeAny_call_builtin (R := wants (fun r s2 => r = .none ∧ ∃ h2 tk2, s2 = { s with heap := h2, toks := tk2 } ∧ SetS P w h2 s.heap.objs.size ws ∧ (∀ b o, s.heap.get? b = some o → h2.get? b = some o)) E)
        F.called_set.init.plain F.entry_set_init (check_set_init_1 ty ?_)) fun r2 s2 h2 => ?_
      · obtain ⟨ol, hol, hcl, nl, hdl⟩ := isl
        obtain ⟨kcls, kdict, kdata, kslots⟩ := ol
        simp only at hcl hdl
        subst hcl; subst hdl
        have hol2 : (s.heap.push (oSet led)).get? l = some { cls := .type "list", dict := kdict, data := .seq its nl, slots := kslots } := Heap.get?_push_of_some _ hol
        have g1 := F.sub_list_set; have g2 := F.sub_list_frozenset
        have g3 : (Value.type "list" == Value.type "dict") = false := by decide
        have isl2 : (s.heap.push (oSet led)).IsList l its := ⟨_, hol2, rfl, nl, rfl⟩
        unfold Builtin.«set.__init__» noKeywords Builtin.Frozenset.updateFrom
        generalize hIter : pyIter = IT
        wp_walk
        subst hIter
        refine wpAny_pyIter_list isl2 ?_
        refine wpAny_bind (wpAny_runValue ?_)
        have lt0 : l < s.heap.objs.size := Heap.lt_size hol
        have sz : (s.heap.push (oSet led)).objs.size = s.heap.objs.size + 1 := Heap.size_push ..
        have up : ∀ {b : Nat}, b < s.heap.objs.size → b ≠ (s.heap.push (oSet led)).objs.size := fun h => Nat.ne_of_lt (by rw [sz]; exact Nat.lt_succ_of_lt h)
        have n1 : l ≠ (s.heap.push (oSet led)).objs.size := up lt0
        have n2 : s.heap.objs.size ∉ [(s.heap.push (oSet led)).objs.size, l] := by
          intro z
          rcases List.mem_cons.mp z with z | z
          · exact Nat.ne_of_lt (by rw [sz]; exact Nat.lt_succ_self _) z
          · exact Nat.ne_of_gt lt0 (List.mem_singleton.mp z)
        have each : ∀ (i : Nat) (v : Value), its[i]? = some v → ∃ x t, ws[i]? = some x ∧ v = .str x t := fun i v hv => by
          exact strs_at txt ((Array.getElem?_toList (xs := its) (i := i)).trans hv)
        refine upd_texts ((Walks.list (by simp [calm]) _ l n1 its).toS) s.heap.objs.size n2 ws size_eq few each (its.size - 0) 0 _ (by omega) (Nat.zero_le _) ⟨⟨_, Heap.get?_push_size _ rfl, rfl, rfl⟩, (isl2.push _)⟩ ?st ?en
        case st =>
          have hget := Heap.get?_push_of_some ({ cls := .type "list_iterator", data := .fields #[.ref l, .int 0 0] } : Obj) got
          exact SetOf_congr ((setObjOf_fresh (knd := strKind P w) led).setOf hget (by unfold scanBound; omega)) (fun k => by simp) (by simp [setLen])
        case en =>
          intro s3 mv R3
          obtain ⟨h3, g3, d3, tk3, os3⟩ := s3
          have e1 : g3 = s.gens := mv.gens
          have e2 : d3 = s.drawn := mv.drawn
          have e3 : os3 = s.os := mv.os
          subst e1; subst e2; subst e3
          show wpAny _ _ _ _ _ _
          refine wpAny_pure ?_
          show wpAny _ _ (ret Value.none) _ _ _
          refine wpAny_pure ⟨rfl, h3, tk3, rfl, R3, fun b o e => ?_⟩
          have lb : b < s.heap.objs.size := Heap.lt_size e
          refine mv.heap b o (fun z => ?_) (Heap.get?_push_of_some _ (Heap.get?_push_of_some _ e))
          rcases List.mem_cons.mp z with z | z
          · exact Nat.ne_of_lt lb z
          · exact up lb (List.mem_singleton.mp z)
      · cases r2 with
        | error e => exact h2
        | ok f2 =>
          cases f2 with
          | ret y =>
            obtain ⟨rfl, h4, tk4, rfl, R4, k4⟩ := h2
            repeat (any_goals (first | assumption | wp_step))
            exact goal _ _ R4 k4
          | _ => exact h2.elim
    | _ => exact h1.elim
end
section
variable {α : Type} {X : Cx} {W : WX} {Γ : Ctx} {a : Expr} {ml : Mo (List Str)}
def tLenSetS (K : PySem.W.Frag) (ta : TE) : TE := fun σ H Q => ta σ H fun x H1 => ∃ (l : Addr) (ws : List Str), x = V.ref l ∧ SqL K H1 l (ws.map V.str) ∧ ws.length ≤ 1000 ∧ Q (.int (setLen ws)) H1
theorem pe_lenSetS {ta : TE} {p p2 q pos : Pos} (hc : X.calm = true) (hg : Gl X "len") (hm : X.mg "len" = none) (hg2 : Gl X "set") (hm2 : X.mg "set" = none) (ha : PE X a ta)
    (na : starEach [a] X.env = (false, eval a X.env) :: starEach [] X.env := by rfl) : PE X (.Call (.Name "len" p) [.Call (.Name "set" p2) [a] [] q] [] pos) (tLenSetS X.K ta) := by
  refine ⟨fun pins s σ H Q I h => ?_⟩
  refine Call_ (ld_blt I hg hm PySem.boot_len ?_)
  refine PyProof.Rows.callWith_builtin1 (PyProof.Rows.args_cons ?_ rfl) rfl rfl
  refine Call_ (ld_blt I hg2 hm2 PyProof.Rows.boot_set ?_)
  refine PyProof.Rows.callWith_type1 (PyProof.Rows.args_cons (thn (ha.run pins s σ H _ I h) fun v s1 ⟨x, H1, I1, r1, q1⟩ => PyProof.Rows.args_nil ?_) na) na rfl
  obtain ⟨l, ws, rfl, hq, h1, q1⟩ := q1
  cases r1
  obtain ⟨its, r, pl, hz⟩ := I1.list hq
  have le := setLen_le ws
  refine set_texts ws (I1.ok.hd hc) pl.isList (by simpa using strsAre_of r) (by unfold scanBound; omega) fun h2 tk hS hk => ?_
  refine PyProof.Rows.args_nil ?_
  obtain ⟨o, es, ep, t, ho, hex, hd, _, _, _, hf, hn⟩ := hS
  have I2 : Inv X pins σ H1 { s1 with heap := h2, toks := tk } := I1.kept hk
  exact call_len_set ho hex hd hf (by rw [hn]; omega) ⟨.int (setLen ws), H1, I2.tok _, ⟨_, by rw [hn]⟩, q1⟩
theorem re_lenSet {p p2 q pos : Pos} (h : RSq X W Γ true a ml rS) (hm : X.mg "len" = none) (hm2 : X.mg "set" = none) (hc : X.calm = true := by rfl) (hg : Gl X "len" := by rfl) (hg2 : Gl X "set" := by rfl)
    (na : starEach [a] X.env = (false, eval a X.env) :: starEach [] X.env := by rfl) : RE X W Γ (.Call (.Name "len" p) [.Call (.Name "set" p2) [a] [] q] [] pos) (ml >>= fun ws => Mo.rq (ws.length ≤ 1000) (setLen ws : Int)) (.fz rI) := by
  refine re_of (pe_lenSetS hc hg hm hg2 hm2 peE na) fun G σ F H Q o q => ?_
  refine h G σ F H _ o (ml.mono (fun ws hx ad vs F' H' o' g' z1 z2 => ?_) (fun _ z => z) q)
  have e : vs = ws.map V.str := Ps.sc (s := scS) z2
  subst e
  exact ⟨ad, ws, rfl, SqL.of z1, hx.1, hx.2 _ F' H' o' g' rfl⟩
end
end RF
namespace RF
open PySem PySem.Spec PyProof.Rows L2 KO SX
/-! ### data in order -/
/-- data that < orders -/
class OrE {α : Type} (ρ : α → Pr) [s : EqE ρ] where
  lt : α → α → Bool
  ak : ∀ x y, PySem.W.alike (s.d x) (s.d y) = true
  nn : ∀ x, s.d x ≠ .none
  eq : ∀ x y, PySem.W.dataLt (s.d x) (s.d y) = lt x y
/-- fit to be sorted -/
class SoE {α : Type} (ρ : α → Pr) [s : EqE ρ] : Prop where
  so : (∀ x, ∃ a r, s.d x = .tuple (a :: r)) ∨ ∀ x xs, s.d x ≠ .tuple xs
section
variable {α β γ δ ε ζ : Type} {ρ : α → Pr} {σ : β → Pr} {τ : γ → Pr} {υ : δ → Pr} {φ : ε → Pr} {χ : ζ → Pr}
instance orI : OrE rI := ⟨fun x y => decide (x < y), fun x y => by show PySem.W.alike (.int x) (.int y) = true; simp only [PySem.W.alike], fun x e => (nomatch e), fun x y => PySem.W.dataLt_int x y⟩
instance orS : OrE rS := ⟨fun x y => decide (x.cps.toList < y.cps.toList), fun x y => by show PySem.W.alike (.str x) (.str y) = true; simp only [PySem.W.alike], fun x e => (nomatch e), fun x y => PySem.W.dataLt_str x y⟩
instance soI : SoE rI := ⟨.inr fun _ _ e => nomatch e⟩
instance soS : SoE rS := ⟨.inr fun _ _ e => nomatch e⟩
theorem OrE.irr [s : EqE ρ] [o : OrE ρ] (x : α) : o.lt x x = false := by rw [← o.eq]; exact lex_irrefl _
section
variable [s : EqE ρ] [o : OrE ρ] [DecidableEq α]
/-- the first difference decides, else the shorter one is less -/
def ltL (ρ : α → Pr) [s : EqE ρ] [o : OrE ρ] [DecidableEq α] : List α → List α → Bool
  | [], [] => false
  | [], _ :: _ => true
  | _ :: _, [] => false
  | x :: xs, y :: ys => if x = y then ltL ρ xs ys else o.lt x y
theorem akL : ∀ xs ys : List α, PySem.W.alikeAll (xs.map s.d) (ys.map s.d) = true
  | [], _ => by rw [List.map_nil, PySem.W.alikeAll]
  | _ :: _, [] => by rw [List.map_nil, List.map_cons, PySem.W.alikeAll]
  | x :: xs, y :: ys => by rw [List.map_cons, List.map_cons, PySem.W.alikeAll, o.ak x y, akL xs ys]; rfl
theorem eqv_dec (x y : α) : PyData.eqv (s.d x) (s.d y) = decide (x = y) := by rw [Bool.eq_iff_iff, s.eqv]; simp
theorem lexL : ∀ xs ys : List α, PyProof.Rows.lexLt itemOrd (PySem.W.keyToksAll (xs.map s.d)) (PySem.W.keyToksAll (ys.map s.d)) = ltL ρ xs ys
  | [], [] => lex_irrefl _
  | [], y :: ys => by
    rw [List.map_nil, List.map_cons, PySem.W.toks_all_cons]
    simp only [PySem.W.keyToksAll]
    rfl
  | x :: xs, [] => by
    rw [List.map_nil, List.map_cons, PySem.W.toks_all_cons]
    simp only [PySem.W.keyToksAll]
    rfl
  | x :: xs, y :: ys => by
    rw [List.map_cons, List.map_cons, PySem.W.dataLt_cons (o.ak x y), eqv_dec, lexL xs ys, o.eq]
    simp only [decide_eq_true_eq]
    rfl
instance orL : OrE (rL ρ) := ⟨ltL ρ, fun x y => by show PySem.W.alike (.list (x.map s.d)) (.list (y.map s.d)) = true; rw [PySem.W.alike]; exact akL x y, fun x e => (nomatch e), fun x y => (PySem.W.dataLt_list _ _).trans (lexL x y)⟩
instance soL : SoE (rL ρ) := ⟨.inr fun _ _ e => nomatch e⟩
instance orTs : OrE (rTs ρ) := ⟨ltL ρ, fun x y => by show PySem.W.alike (.tuple (x.map s.d)) (.tuple (y.map s.d)) = true; rw [PySem.W.alike]; exact akL x y, fun x e => (nomatch e), fun x y => (PySem.W.dataLt_tuple _ _).trans (lexL x y)⟩
end
section
variable [r : EqE ρ] [s : EqE σ] [t : EqE τ] [u : EqE υ] [w : EqE φ] [z : EqE χ] [r' : OrE ρ] [s' : OrE σ] [t' : OrE τ] [u' : OrE υ] [w' : OrE φ] [z' : OrE χ] [DecidableEq α] [DecidableEq β] [DecidableEq γ] [DecidableEq δ] [DecidableEq ε] [DecidableEq ζ]
theorem lexC {x y : α} {xs ys : List PyData} : PyProof.Rows.lexLt itemOrd (PySem.W.keyToksAll (r.d x :: xs)) (PySem.W.keyToksAll (r.d y :: ys)) = if x = y then PyProof.Rows.lexLt itemOrd (PySem.W.keyToksAll xs) (PySem.W.keyToksAll ys) else r'.lt x y := by
  rw [PySem.W.dataLt_cons (r'.ak x y), eqv_dec, r'.eq]; simp only [decide_eq_true_eq]
theorem lexE {x y : α} : PyProof.Rows.lexLt itemOrd (PySem.W.keyToksAll [r.d x]) (PySem.W.keyToksAll [r.d y]) = r'.lt x y := by
  rw [lexC]
  split
  · rename_i e; subst e; rw [r'.irr]; exact lex_irrefl _
  · rfl
theorem akC {x y : α} {xs ys : List PyData} (h : PySem.W.alikeAll xs ys = true) : PySem.W.alikeAll (r.d x :: xs) (r.d y :: ys) = true := by rw [PySem.W.alikeAll, r'.ak, h]; rfl
theorem ak0 : PySem.W.alikeAll [] [] = true := by rw [PySem.W.alikeAll]
theorem akT {xs ys : List PyData} (h : PySem.W.alikeAll xs ys = true) : PySem.W.alike (.tuple xs) (.tuple ys) = true := by rw [PySem.W.alike]; exact h
instance orT1 : OrE (rT1 ρ) := ⟨fun x y => r'.lt x y, fun x y => akT (akC ak0), fun x e => (nomatch (show PyData.tuple _ = .none from e)), fun x y => by
  show PySem.W.dataLt (.tuple [r.d x]) (.tuple [r.d y]) = _
  rw [PySem.W.dataLt_tuple, lexE]⟩
instance orT2 : OrE (rT2 ρ σ) := ⟨fun x y => if x.1 = y.1 then s'.lt x.2 y.2 else r'.lt x.1 y.1, fun x y => akT (akC (akC ak0)), fun x e => (nomatch (show PyData.tuple _ = .none from e)), fun x y => by
  show PySem.W.dataLt (.tuple [r.d x.1, s.d x.2]) (.tuple [r.d y.1, s.d y.2]) = _
  rw [PySem.W.dataLt_tuple, lexC, lexE]⟩
instance orT3 : OrE (rT3 ρ σ τ) := ⟨fun x y => if x.1 = y.1 then (if x.2.1 = y.2.1 then t'.lt x.2.2 y.2.2 else s'.lt x.2.1 y.2.1) else r'.lt x.1 y.1, fun x y => akT (akC (akC (akC ak0))), fun x e => (nomatch (show PyData.tuple _ = .none from e)), fun x y => by
  show PySem.W.dataLt (.tuple [r.d x.1, s.d x.2.1, t.d x.2.2]) (.tuple [r.d y.1, s.d y.2.1, t.d y.2.2]) = _
  rw [PySem.W.dataLt_tuple, lexC, lexC, lexE]⟩
instance orT4 : OrE (rT4 ρ σ τ υ) := ⟨fun x y => if x.1 = y.1 then (if x.2.1 = y.2.1 then (if x.2.2.1 = y.2.2.1 then u'.lt x.2.2.2 y.2.2.2 else t'.lt x.2.2.1 y.2.2.1) else s'.lt x.2.1 y.2.1) else r'.lt x.1 y.1, fun x y => akT (akC (akC (akC (akC ak0)))), fun x e => (nomatch (show PyData.tuple _ = .none from e)), fun x y => by
  show PySem.W.dataLt (.tuple [r.d x.1, s.d x.2.1, t.d x.2.2.1, u.d x.2.2.2]) (.tuple [r.d y.1, s.d y.2.1, t.d y.2.2.1, u.d y.2.2.2]) = _
  rw [PySem.W.dataLt_tuple, lexC, lexC, lexC, lexE]⟩
instance soT1 : SoE (rT1 ρ) := ⟨.inl fun x => ⟨_, _, rfl⟩⟩
instance soT2 : SoE (rT2 ρ σ) := ⟨.inl fun x => ⟨_, _, rfl⟩⟩
instance soT3 : SoE (rT3 ρ σ τ) := ⟨.inl fun x => ⟨_, _, rfl⟩⟩
instance soT4 : SoE (rT4 ρ σ τ υ) := ⟨.inl fun x => ⟨_, _, rfl⟩⟩
end
end
/-! < and its kin -/
section
variable {X : Cx}
def rCmpD (K : PySem.W.Frag) (f : PyData → PyData → Bool) : R2 := fun x y H Q => ∃ d e, Dp K H x d ∧ Dp K H y e ∧ PySem.W.alike d e = true ∧ d ≠ .none ∧ d.depth ≤ 60 ∧ Q (.bl (f d e)) H
theorem op_ltE (hu : X.A.units + 64 < cLine) : OpR X (compareOp .Lt) (rCmpD X.K PySem.W.dataLt) := by
  intro pins s σ H x y v u Q I rx ry ⟨d, e, hd, he, a, n, z, q⟩
  obtain ⟨as, r1⟩ := Dp.reads I d x v hd rx
  obtain ⟨bs, r2⟩ := Dp.reads I e y u he ry
  exact PySem.W.lt_data r1 r2 a n (by omega) ⟨.bl _, H, I, rfl, q⟩
theorem op_gtE (hu : X.A.units + 64 < cLine) : OpR X (compareOp .Gt) (rCmpD X.K fun d e => PySem.W.dataLt e d) := by
  intro pins s σ H x y v u Q I rx ry ⟨d, e, hd, he, a, n, z, q⟩
  obtain ⟨as, r1⟩ := Dp.reads I d x v hd rx
  obtain ⟨bs, r2⟩ := Dp.reads I e y u he ry
  exact PySem.W.gt_data r1 r2 a n (by omega) ⟨.bl _, H, I, rfl, q⟩
theorem op_leE (hu : X.A.units + 64 < cLine) : OpR X (compareOp .LtE) (rCmpD X.K fun d e => !PySem.W.dataLt e d) := by
  intro pins s σ H x y v u Q I rx ry ⟨d, e, hd, he, a, n, z, q⟩
  obtain ⟨as, r1⟩ := Dp.reads I d x v hd rx
  obtain ⟨bs, r2⟩ := Dp.reads I e y u he ry
  exact PySem.W.le_data r1 r2 a n (by omega) ⟨.bl _, H, I, rfl, q⟩
theorem op_geE (hu : X.A.units + 64 < cLine) : OpR X (compareOp .GtE) (rCmpD X.K fun d e => !PySem.W.dataLt d e) := by
  intro pins s σ H x y v u Q I rx ry ⟨d, e, hd, he, a, n, z, q⟩
  obtain ⟨as, r1⟩ := Dp.reads I d x v hd rx
  obtain ⟨bs, r2⟩ := Dp.reads I e y u he ry
  exact PySem.W.ge_data r1 r2 a n (by omega) ⟨.bl _, H, I, rfl, q⟩
end
section
variable {α : Type} {X : Cx} {W : WX} {Γ : Ctx} {e a b : Expr} {pos p : Pos} {ρ : α → Pr} [s : EqE ρ] [t : OrE ρ] {ma mb : Mo α} {ml : Mo (List α)}
/-- x is less than y, as data -/
def ltE (ρ : α → Pr) [s : EqE ρ] [t : OrE ρ] (x y : α) : Bool := t.lt x y
theorem rop_cmpE {f : PyData → PyData → Bool} {g : α → α → Bool} (hn : s.n ≤ 60) (hf : ∀ x y, f (s.d x) (s.d y) = g x y) (x y : α) : ROp X W Γ (rCmpD X.K f) (ρ x) (ρ y) (Mo.rq (Eqk ρ x ∧ Eqk ρ y) (g x y)) (.fz rB) := fun G σ F H Q u w o hu hw q => by
  refine ⟨s.d x, s.d y, dp_of hu q.1.1 o.le, dp_of hw q.1.2 o.le, t.ak x y, t.nn x, Nat.le_trans (s.lay q.1.1).2 hn, ?_⟩
  rw [hf]
  exact NQ.here (ρ := rB) q.2 o rfl
theorem rc_ltE (hu : X.A.units + 64 < cLine) (hn : s.n ≤ 60 := by decide) (ha : RE X W Γ a ma (.fz ρ)) (hb : RE X W Γ b mb (.fz ρ)) : RC X W Γ .Lt a b (ma >>= fun x => mb >>= fun y => Mo.rq (Eqk ρ x ∧ Eqk ρ y) (ltE ρ x y)) := ⟨_, op_ltE hu, rte_two ha hb (rop_cmpE hn fun x y => t.eq x y)⟩
theorem rc_gtE (hu : X.A.units + 64 < cLine) (hn : s.n ≤ 60 := by decide) (ha : RE X W Γ a ma (.fz ρ)) (hb : RE X W Γ b mb (.fz ρ)) : RC X W Γ .Gt a b (ma >>= fun x => mb >>= fun y => Mo.rq (Eqk ρ x ∧ Eqk ρ y) (ltE ρ y x)) := ⟨_, op_gtE hu, rte_two ha hb (rop_cmpE (g := fun x y => ltE ρ y x) hn fun x y => t.eq y x)⟩
theorem rc_leE (hu : X.A.units + 64 < cLine) (hn : s.n ≤ 60 := by decide) (ha : RE X W Γ a ma (.fz ρ)) (hb : RE X W Γ b mb (.fz ρ)) : RC X W Γ .LtE a b (ma >>= fun x => mb >>= fun y => Mo.rq (Eqk ρ x ∧ Eqk ρ y) (!ltE ρ y x)) := ⟨_, op_leE hu, rte_two ha hb (rop_cmpE (g := fun x y => !ltE ρ y x) hn fun x y => by rw [t.eq]; rfl)⟩
theorem rc_geE (hu : X.A.units + 64 < cLine) (hn : s.n ≤ 60 := by decide) (ha : RE X W Γ a ma (.fz ρ)) (hb : RE X W Γ b mb (.fz ρ)) : RC X W Γ .GtE a b (ma >>= fun x => mb >>= fun y => Mo.rq (Eqk ρ x ∧ Eqk ρ y) (!ltE ρ x y)) := ⟨_, op_geE hu, rte_two ha hb (rop_cmpE (g := fun x y => !ltE ρ x y) hn fun x y => by rw [t.eq]; rfl)⟩
/-! min, max -/
def minE (ρ : α → Pr) [s : EqE ρ] [t : OrE ρ] : List α → Option α
  | [] => none
  | x :: xs => some (xs.foldl (fun a y => if t.lt y a = true then y else a) x)
def maxE (ρ : α → Pr) [s : EqE ρ] [t : OrE ρ] : List α → Option α
  | [] => none
  | x :: xs => some (xs.foldl (fun a y => if t.lt a y = true then y else a) x)
theorem minD_eq : ∀ (xs : List α) (x : α), PySem.W.minD (s.d x) (xs.map s.d) = s.d (xs.foldl (fun a y => if t.lt y a = true then y else a) x)
  | [], _ => rfl
  | y :: xs, x => by
    show PySem.W.minD (if PySem.W.dataLt (s.d y) (s.d x) = true then s.d y else s.d x) (xs.map s.d) = _
    rw [t.eq, ← apply_ite s.d]
    exact minD_eq xs _
theorem maxD_eq : ∀ (xs : List α) (x : α), PySem.W.maxD (s.d x) (xs.map s.d) = s.d (xs.foldl (fun a y => if t.lt a y = true then y else a) x)
  | [], _ => rfl
  | y :: xs, x => by
    show PySem.W.maxD (if PySem.W.dataLt (s.d x) (s.d y) = true then s.d y else s.d x) (xs.map s.d) = _
    rw [t.eq, ← apply_ite s.d]
    exact maxD_eq xs _
end
section
variable {X : Cx}
def rBestD (K : PySem.W.Frag) (best : PyData → List PyData → PyData) : List V → Hp → VK → Prop := fun vs H Q => ∃ (a : Addr) (xs : List V) (d : PyData) (ds : List PyData), vs = [V.ref a] ∧ SqL K H a xs ∧ DpAll K H xs (d :: ds) ∧ PySem.W.AlikeAll (d :: ds) ∧ PyData.depthAll (d :: ds) ≤ 60 ∧
  (∀ e ∈ d :: ds, PySem.W.alike e (best d ds) = true) ∧ ∀ (i : Nat) (v : V), xs[i]? = some v → (d :: ds)[i]? = some (best d ds) → Q v H
theorem best_at {pins : List (Addr × Obj)} {σ : L2.St} {H : Hp} {sh : Shared} {xs : List V} {its : List Value} {ds : List PyData} {b : PyData} {i : Nat} {v : Value} {h2 : Heap} {bs as : List Addr} (rv : Vals xs its) (r1 : ReadsAll sh.heap its ds as) (hi : its[i]? = some v) (hr : Reads h2 v b bs) (hk : ∀ b o, sh.heap.get? b = some o → h2.get? b = some o)
    (al : ∀ e ∈ ds, PySem.W.alike e b = true) : ∃ x, xs[i]? = some x ∧ RelV x v ∧ ds[i]? = some b := by
  induction ds generalizing xs its i as with
  | nil => cases r1; simp at hi
  | cons d ds ih =>
    cases r1 with
    | cons r rs =>
      cases rv with
      | cons rx rt =>
        cases i with
        | zero =>
          obtain rfl := Option.some.inj hi
          have e := PySem.W.alike_unique _ _ _ _ _ (al _ List.mem_cons_self) (PyProof.Rows.Reads.keeps hk r) hr
          exact ⟨_, rfl, rx, by rw [e]; rfl⟩
        | succ i =>
          obtain ⟨x, h1, h2, h3⟩ := ih rt rs (by simpa using hi) fun e he => al e (List.mem_cons_of_mem _ he)
          exact ⟨x, by simpa using h1, h2, by simpa using h3⟩
theorem cr_minD (hc : X.calm = true) (hu : X.A.units + 65 < cLine) : CallR X (.builtin "min") (rBestD X.K PySem.W.minD) := by
  intro pins σ0 σ H vs us Q I r ⟨a, xs, d, ds, e, hs, dp, al, z, ak, q⟩
  subst e
  obtain ⟨its, rv, hl, _⟩ := I.list hs
  rw [Vals.ref1 r]
  obtain ⟨as, r1⟩ := Dp.readsAll I _ _ _ dp rv
  refine PySem.W.min_list_data (I.ok.hd hc) hl.isList (show ReadsAll _ its.toArray.toList _ _ from r1) al (by omega) fun i v h2 tk bs hi hr hk => ?_
  obtain ⟨x, k1, k2, k3⟩ := best_at (pins := pins) (σ := σ) (H := H) rv r1 (by simpa using hi) hr hk ak
  exact ⟨x, H, I.kept hk, k2, q i x k1 k3⟩
theorem cr_maxD (hc : X.calm = true) (hu : X.A.units + 65 < cLine) : CallR X (.builtin "max") (rBestD X.K PySem.W.maxD) := by
  intro pins σ0 σ H vs us Q I r ⟨a, xs, d, ds, e, hs, dp, al, z, ak, q⟩
  subst e
  obtain ⟨its, rv, hl, _⟩ := I.list hs
  rw [Vals.ref1 r]
  obtain ⟨as, r1⟩ := Dp.readsAll I _ _ _ dp rv
  refine PySem.W.max_list_data (I.ok.hd hc) hl.isList (show ReadsAll _ its.toArray.toList _ _ from r1) al (by omega) fun i v h2 tk bs hi hr hk => ?_
  obtain ⟨x, k1, k2, k3⟩ := best_at (pins := pins) (σ := σ) (H := H) rv r1 (by simpa using hi) hr hk ak
  exact ⟨x, H, I.kept hk, k2, q i x k1 k3⟩
/-! sorted -/
def rSortD (K : PySem.W.Frag) {β : Type} (enc : β → PyData) (val : β → V) : List V → Hp → VK → Prop := fun vs H Q => ∃ (a : Addr) (bs : List β), vs = [V.ref a] ∧ SqL K H a (bs.map val) ∧ DpAll K H (bs.map val) (bs.map enc) ∧ PySem.W.AllAlike (bs.map enc) ∧ PySem.W.Sortable (bs.map enc) ∧ (∀ b ∈ bs, (enc b).depth ≤ 60) ∧
  ∀ p, H p = none → Q (.ref p) (upd H p (.lst ((bs.mergeSort (PySem.W.dataLe false enc)).map val)))
theorem each_vals {β : Type} {val : β → V} : ∀ {bs : List β} {us : List Value}, Vals (bs.map val) us → PySem.W.EachIs (fun u b => RelV (val b) u) us bs
  | [], _, .nil => .nil
  | _ :: _, _, .cons r t => .cons r (each_vals t)
theorem vals_each {β : Type} {val : β → V} {bs : List β} {us : List Value} (h : PySem.W.EachIs (fun u b => RelV (val b) u) us bs) : Vals (bs.map val) us := by
  induction h with
  | nil => exact .nil
  | cons r _ ih => exact .cons r ih
theorem cr_sortD {β : Type} {enc : β → PyData} {val : β → V} (hu : X.A.units + 65 < cLine) : CallR X (.builtin "sorted") (rSortD X.K enc val) := by
  intro pins s0 σ H vs us Q I r ⟨a, bs, e, hs, dp, al, so, z, q⟩
  subst e
  obtain ⟨its, rv, hl, hz⟩ := I.list hs
  rw [Vals.ref1 r]
  obtain ⟨as, r1⟩ := Dp.readsAll I _ _ _ dp rv
  have hlen : bs.length ≤ sizeLine := by rw [List.length_map] at hz; exact hz
  refine PySem.W.sorted_data (R := fun u b => RelV (val b) u) (enc := enc) (bs := bs) hl.isList (each_vals rv) (PySem.W.readsAll_each enc r1) al so hlen (fun b hb => by have := z b hb; omega) fun out ho he => ?_
  obtain ⟨ep, he'⟩ := PyProof.Rows.sortedAll_at s0.heap its out.toArray
  have hv := vals_each he
  exact ⟨.ref _, upd H (s0.heap.objs.size + 1) (.lst ((bs.mergeSort (PySem.W.dataLe false enc)).map val)), I.laid (t' := s0.toks) (fun _ _ => PyProof.Rows.sortedAll_old) (Nat.le_succ _) ⟨by rw [List.length_map, List.length_mergeSort]; exact hlen, out, ep, hv, he'⟩, rfl, q _ (I.hok.fresh (Nat.le_succ _))⟩
end
section
variable {α : Type} [DecidableEq α] {X : Cx} {W : WX} {Γ : Ctx} {e a b : Expr} {pos p : Pos} {ρ : α → Pr} [s : EqE ρ] [t : OrE ρ] {ma mb : Mo α} {ml : Mo (List α)}
theorem fold_mem {f : α → α → Bool} : ∀ (xs : List α) (x : α), xs.foldl (fun a y => if f a y = true then y else a) x ∈ x :: xs
  | [], x => List.mem_cons_self
  | y :: xs, x => by
    show xs.foldl _ (if f x y = true then y else x) ∈ _
    have h := fold_mem (f := f) xs (if f x y = true then y else x)
    rcases List.mem_cons.mp h with h | h
    · rw [h]; split <;> simp
    · exact List.mem_cons_of_mem _ (List.mem_cons_of_mem _ h)
theorem ak_all (xs : List α) : ∀ d ∈ xs.map s.d, ∀ e ∈ xs.map s.d, PySem.W.alike d e = true := fun d hd e he => by
  obtain ⟨x, _, rfl⟩ := List.mem_map.mp hd
  obtain ⟨y, _, rfl⟩ := List.mem_map.mp he
  exact t.ak x y
theorem best_back {x : α} {xs : List α} {vs : List V} {F : Hp} {i : Nat} {v : V} {d : PyData} {y : α} (h : Ps F ((x :: xs).map ρ) vs) (hv : vs[i]? = some v) (hd : ((x :: xs).map s.d)[i]? = some d) (e : d = s.d y) : (ρ y).r v F := by
  rw [List.getElem?_map] at hd
  obtain ⟨z, hz, rfl⟩ := Option.map_eq_some_iff.mp hd
  have : z = y := (s.eqv z y).mp (by rw [e]; exact (s.eqv y y).mpr rfl)
  subst this
  obtain ⟨w, h1, h2⟩ := h.get (i := i) (p := ρ z) (by rw [List.getElem?_map, hz]; rfl)
  rw [hv] at h1
  cases h1
  exact h2
theorem re_minE (hu : X.A.units + 65 < cLine) (h : RSq X W Γ true e ml ρ) (hm : X.mg "min" = none) (hn : s.n ≤ 60 := by decide) (hc : X.calm = true := by rfl) (hg : Gl X "min" := by rfl) (he : starEach [e] X.env = [(false, eval e X.env)] := by rfl) :
    RE X W Γ (.Call (.Name "min" p) [e] [] pos) (ml >>= fun xs => Mo.rq (Eqks ρ xs) () >>= fun _ => Mo.get (minE ρ xs)) (.fz ρ) :=
  re_bi1 (k := true) (cr_minD hc hu) (fun xs G σ F H Q a vs o z1 z2 q => by
    obtain ⟨k, y, hy, q⟩ := q
    cases xs with
    | nil => cases hy
    | cons x xs =>
      obtain rfl := Option.some.inj hy
      obtain ⟨h3, h4⟩ := dt_all z2 k.2
      refine ⟨a, vs, s.d x, xs.map s.d, rfl, SqL.of z1, DpAll.ofI h3 fun i x c e1 e2 => ((h4 i x c e1 e2).mono o.le).dp, ⟨fun d hd e he => ak_all (x :: xs) d hd e he, fun d hd => ?_⟩, Nat.le_trans (lay_all (d := s.d) (xs := x :: xs) fun y hy => s.lay (k.2 y hy)).2 hn, fun d hd => ?_, fun i v e1 e2 => NQ.here (ρ := ρ) q o (best_back z2 e1 e2 (minD_eq xs x))⟩
      · obtain ⟨y, _, rfl⟩ := List.mem_map.mp (show d ∈ (x :: xs).map s.d from hd)
        exact t.nn y
      · obtain ⟨y, _, rfl⟩ := List.mem_map.mp (show d ∈ (x :: xs).map s.d from hd)
        rw [minD_eq]
        exact t.ak _ _) h hg hm (by decide +kernel) (he := he)
theorem re_maxE (hu : X.A.units + 65 < cLine) (h : RSq X W Γ true e ml ρ) (hm : X.mg "max" = none) (hn : s.n ≤ 60 := by decide) (hc : X.calm = true := by rfl) (hg : Gl X "max" := by rfl) (he : starEach [e] X.env = [(false, eval e X.env)] := by rfl) :
    RE X W Γ (.Call (.Name "max" p) [e] [] pos) (ml >>= fun xs => Mo.rq (Eqks ρ xs) () >>= fun _ => Mo.get (maxE ρ xs)) (.fz ρ) :=
  re_bi1 (k := true) (cr_maxD hc hu) (fun xs G σ F H Q a vs o z1 z2 q => by
    obtain ⟨k, y, hy, q⟩ := q
    cases xs with
    | nil => cases hy
    | cons x xs =>
      obtain rfl := Option.some.inj hy
      obtain ⟨h3, h4⟩ := dt_all z2 k.2
      refine ⟨a, vs, s.d x, xs.map s.d, rfl, SqL.of z1, DpAll.ofI h3 fun i x c e1 e2 => ((h4 i x c e1 e2).mono o.le).dp, ⟨fun d hd e he => ak_all (x :: xs) d hd e he, fun d hd => ?_⟩, Nat.le_trans (lay_all (d := s.d) (xs := x :: xs) fun y hy => s.lay (k.2 y hy)).2 hn, fun d hd => ?_, fun i v e1 e2 => NQ.here (ρ := ρ) q o (best_back z2 e1 e2 (maxD_eq xs x))⟩
      · obtain ⟨y, _, rfl⟩ := List.mem_map.mp (show d ∈ (x :: xs).map s.d from hd)
        exact t.nn y
      · obtain ⟨y, _, rfl⟩ := List.mem_map.mp (show d ∈ (x :: xs).map s.d from hd)
        rw [maxD_eq]
        exact t.ak _ _) h hg hm (by decide +kernel) (he := he)
/-- sorted by < -/
def sortE (ρ : α → Pr) [s : EqE ρ] [t : OrE ρ] (xs : List α) : List α := xs.mergeSort fun x y => !t.lt y x
theorem sort_map {β γ : Type} (f : β → γ) (le : γ → γ → Bool) (bs : List β) : (bs.mergeSort fun x y => le (f x) (f y)).map f = (bs.map f).mergeSort le := List.map_mergeSort fun _ _ _ _ => rfl
theorem re_sortE [so : SoE ρ] (hu : X.A.units + 65 < cLine) (h : RSq X W Γ true e ml ρ) (hm : X.mg "sorted" = none) (hn : s.n ≤ 60 := by decide) (hg : Gl X "sorted" := by rfl) (he : starEach [e] X.env = [(false, eval e X.env)] := by rfl) :
    RE X W Γ (.Call (.Name "sorted" p) [e] [] pos) (ml >>= fun xs => Mo.rq (Eqks ρ xs) (sortE ρ xs)) (.ow (oL ρ)) :=
  re_bi1 (k := true) (cr_sortD (enc := fun b : V × α => s.d b.2) (val := fun b => b.1) hu) (fun xs G σ F H Q a vs o z1 z2 q => by
    obtain ⟨k, q⟩ := q
    obtain ⟨h3, h4⟩ := dt_all z2 k.2
    have hl : vs.length = xs.length := by rw [z2.len, List.length_map]
    have e1 : (vs.zip xs).map (fun b => b.1) = vs := List.map_fst_zip (by omega)
    have e2 : (vs.zip xs).map (fun b => s.d b.2) = xs.map s.d := by
      have e4 : (vs.zip xs).map Prod.snd = xs := List.map_snd_zip (by omega)
      have e5 : (vs.zip xs).map (fun b => s.d b.2) = ((vs.zip xs).map Prod.snd).map s.d := by rw [List.map_map]; rfl
      rw [e5, e4]
    refine ⟨a, vs.zip xs, rfl, by rw [e1]; exact SqL.of z1, by rw [e1, e2]; exact DpAll.ofI h3 fun i x c e1 e2 => ((h4 i x c e1 e2).mono o.le).dp, by rw [e2]; exact ak_all xs, ?_, fun b hb => ?_, fun p hp => NQ.own q o (Go.refl o.le) hp ⟨_, rfl, ?_⟩⟩
    · rw [e2]
      rcases so.so with z | z
      · refine .inl fun d hd => ?_
        obtain ⟨x, _, rfl⟩ := List.mem_map.mp hd
        exact z x
      · refine .inr fun d hd => ?_
        obtain ⟨x, _, rfl⟩ := List.mem_map.mp hd
        exact ⟨t.nn x, z x⟩
    · exact Nat.le_trans (s.lay (k.2 b.2 (List.of_mem_zip hb).2)).2 hn
    · have key : ∀ bs : List (V × α), (∀ b ∈ bs, (ρ b.2).r b.1 F) → Ps F ((bs.map (fun b => b.2)).map ρ) (bs.map fun b => b.1) := by
        intro bs hb
        induction bs with
        | nil => trivial
        | cons b bs ih => exact ⟨hb b List.mem_cons_self, ih fun c hc => hb c (List.mem_cons_of_mem _ hc)⟩
      have e3 : sortE ρ xs = ((vs.zip xs).mergeSort (PySem.W.dataLe false fun b => s.d b.2)).map (fun b => b.2) := by
        unfold sortE
        have e4 : (vs.zip xs).map (fun b => b.2) = xs := List.map_snd_zip (by omega)
        have e5 : PySem.W.dataLe false (fun b : V × α => s.d b.2) = fun x y => (fun x y => !t.lt y x) x.2 y.2 := by
          rw [PySem.W.dataLe_eq]
          funext x y
          show (!PySem.W.dataLt (s.d y.2) (s.d x.2)) = _
          rw [t.eq]
        rw [e5, sort_map (fun b : V × α => b.2) (fun x y => !t.lt y x), e4]
      rw [e3]
      refine key _ fun b hb => ?_
      have hb : b ∈ vs.zip xs := List.mem_mergeSort.mp hb
      obtain ⟨i, hi⟩ := List.getElem?_of_mem hb
      obtain ⟨k1, k2⟩ := List.getElem?_zip_eq_some.mp hi
      obtain ⟨w, h5, h6⟩ := z2.get (i := i) (p := ρ b.2) (by rw [List.getElem?_map, k2]; rfl)
      rw [k1] at h5
      cases h5
      exact h6) h hg hm (by decide +kernel) (he := he)
/-! xs.count(x) -/
def rCntD (K : PySem.W.Frag) : V → List V → Hp → VK → Prop := fun x xs H Q => ∃ (a : Addr) (y : V) (us : List V) (d : PyData) (ds : List PyData), x = V.ref a ∧ xs = [y] ∧ SqL K H a us ∧ DpAll K H us ds ∧ Dp K H y d ∧ PyData.canLayAll0 ds = true ∧ d.canLay0 = true ∧ d.depth ≤ 60 ∧ Q (.int ((ds.countP fun z => PyData.eqv z d : Nat) : Int)) H
theorem mt_cntD (hu : X.A.units + 65 < cLine) : MtR X "list.count" (rCntD X.K) := by
  intro pins sh σ H x xs v us Q I rx rxs ⟨a, y, ws, d, ds, e1, e2, hs, hl, hy, lay, ld, z, q⟩
  subst e1 e2
  cases rx
  obtain ⟨uy, rfl, ry⟩ := rxs.one
  obtain ⟨bs, r1⟩ := Dp.reads I d y uy hy ry
  obtain ⟨its, rv, ⟨⟨cls, dd, data, sl⟩, n, ho, hc, hdn, hdt⟩, hlen⟩ := I.list hs
  simp only at hc hdt
  subst hc hdt
  obtain ⟨as, h4⟩ := Dp.readsAll I ds _ its hl rv
  have hmap : its.map (SeqAt.readOf sh.heap) = ds := SeqAt.readsAll_map ds its as lay h4
  refine call_meets PySem.F.slot_list_count ⟨_, ho, rfl⟩ PySem.F.entry_list_count (PySem.F.args_list_count_2 _ _) (SeqAt.list_countAt a its.toArray n dd sl uy (fun u => PyData.eqv (SeqAt.readOf sh.heap u) d)) ⟨ho, SeqAt.items_eqAt (vs := its.toArray) (show ReadsAll sh.heap its.toArray.toList ds as from h4) r1 lay ld (by omega), ?_⟩
  have e : its.toArray.toList.countP (fun u => PyData.eqv (SeqAt.readOf sh.heap u) d) = ds.countP fun z => PyData.eqv z d := by
    rw [← hmap, List.countP_map]
    rfl
  rw [e]
  exact ⟨.int _, H, I.tok _, ⟨_, rfl⟩, q⟩
/-- how often it stands there -/
def cntE {α : Type} [DecidableEq α] (x : α) (xs : List α) : Nat := xs.countP fun y => decide (y = x)
theorem re_count {apos : Pos} (hu : X.A.units + 65 < cLine) (hb : RE X W Γ b ml (.fz (rL ρ))) (ha : RE X W Γ a ma (.fz ρ)) (hn : s.n ≤ 60 := by decide)
    (hbase : attributeBase b "count" X.env (eval b X.env) = eval b X.env := by rfl)
    (hfew : ((backTo pos (starEach [a] X.env)).all (fun x => !x.1) && (backToKw pos (keywordEach [] X.env)).all (fun x => x.1.isSome) && decide ([a].length + ([] : List Keyword).length + (if ([] : List Keyword).isEmpty then 0 else 1) < 30)) = true := by rfl)
    (hline : (apos.endLine == pos.line) = true := by rfl) (hs : starEach [a] X.env = [(false, eval a X.env)] := by rfl) :
    RE X W Γ (.Call (.Attribute b "count" apos) [a] [] pos) (ml >>= fun ys => ma >>= fun x => Mo.rq (Eqk ρ x ∧ Eqks ρ ys) (cntE x ys : Int)) (.fz rI) := by
  refine re_of (pe_bm PySem.F.plainAttrs_list PySem.F.slot_list_count PySem.F.type_list_count (mt_cntD hu) peE (pa_cons peE pa_nil hs) hbase hfew hline hs rfl) fun G σ F H Q o q => ?_
  refine hb G σ F H _ o (ml.mono (fun ys hy w F1 H1 o1 g1 z2 => ?_) (fun _ z => z) q)
  obtain ⟨ad, vs, rfl, z2, z3⟩ := z2
  refine ⟨.inl ⟨rfl, vs, SqL.of (o1.le _ _ z2)⟩, ?_⟩
  refine ha G σ F1 H1 _ o1 (ma.mono (fun x hx v F2 H2 o2 g2 z1 => ?_) (fun _ => EQ.step g1) hy)
  obtain ⟨⟨k1, k2⟩, hx⟩ := hx
  have z3 := z3.mono g2.fs
  obtain ⟨h3, h4⟩ := dt_all z3 k2.2
  refine ⟨ad, v, vs, s.d x, ys.map s.d, rfl, rfl, SqL.of (o2.le _ _ (g2.fs _ _ z2)), DpAll.ofI h3 fun i x c e1 e2 => ((h4 i x c e1 e2).mono o2.le).dp, dp_of z1 k1 o2.le, (lay_all (d := s.d) (xs := ys) fun y hy => s.lay (k2.2 y hy)).1, (s.lay k1).1, Nat.le_trans (s.lay k1).2 hn, ?_⟩
  have e : (ys.map s.d).countP (fun z => PyData.eqv z (s.d x)) = cntE x ys := by
    unfold cntE
    rw [List.countP_map]
    refine List.countP_congr fun y _ => ?_
    show PyData.eqv (s.d y) (s.d x) = true ↔ _
    rw [s.eqv]; simp
  rw [e]
  exact hx _ F2 H2 o2 (g1.trans g2 owns_tr) rfl
end
end RF
namespace RF
open PySem PySem.Spec PyProof.Rows L2 KO SX
/-! ### what is new, what was there before; own again -/
/-- told by what stood when h was the heap: by no later list -/
def agp (h : Hp) (p : Pr) : Pr := ⟨fun v F => ∃ f, Same f F ∧ (∀ a vs, f a = some (.lst vs) → h a ≠ none) ∧ p.r v f, fun s ⟨f, a, b, c⟩ => ⟨f, a.trans s, b, c⟩⟩
def rAg {α : Type} (h : Hp) (ρ : α → Pr) (x : α) : Pr := agp h (ρ x)
def rNw {α : Type} (h : Hp) (ρ : α → Pr) (x : α) : Pr := nwp h (ρ x)
def rAny (_ : Unit) : Pr := ⟨fun _ _ => True, fun _ h => h⟩
instance : NL rAny := ⟨fun _ h => h⟩
theorem agp_out {h : Hp} {p : Pr} {v : V} {F : Hp} (k : (agp h p).r v F) : p.r v F := by
  obtain ⟨f, s, _, q⟩ := k
  exact p.mono s q
inductive AgE (h : Hp) : En → En → Prop
  | id (e : En) : AgE h e e
  | un (e : En) : AgE h e .un
  | ag (p : Pr) : AgE h (.fz p) (.fz (agp h p))
  | lk (p : Pr) : AgE h (.fz p) (.lk true h p)
  | re (f : Bool) (p : Pr) (h0 : Hp) : AgE h (.lk f h0 p) (.lk true h p)
def AgC (h : Hp) : Ctx → Ctx → Prop
  | [], [] => True
  | e :: l, e' :: l' => AgE h e e' ∧ AgC h l l'
  | _, _ => False
theorem AgC.len {h : Hp} : ∀ {Γ Γ' : Ctx}, AgC h Γ Γ' → Γ'.length = Γ.length
  | [], [], _ => rfl
  | _ :: _, _ :: _, k => by simp [AgC.len k.2]
  | [], _ :: _, k => k.elim
  | _ :: _, [], k => k.elim
theorem AgC.get {h : Hp} : ∀ {Γ Γ' : Ctx} {i : Nat} {e' : En}, AgC h Γ Γ' → Γ'[i]? = some e' → ∃ e, Γ[i]? = some e ∧ AgE h e e'
  | [], [], _, _, _, q => by simp at q
  | e :: _, _ :: _, 0, _, k, q => by simp at q; subst q; exact ⟨e, rfl, k.1⟩
  | _ :: _, _ :: _, i + 1, _, k, q => by
    obtain ⟨e, h1, h2⟩ := AgC.get (i := i) k.2 (by simpa using q)
    exact ⟨e, by simpa using h1, h2⟩
  | [], _ :: _, _, _, k, _ => k.elim
  | _ :: _, [], _, _, k, _ => k.elim
section
variable {G : Gf} {Γ Γ' : Ctx} {σ : L2.St} {F H : Hp}
theorem Ok.age (o : Ok G Γ σ F H) (k : AgC H Γ Γ') : Ok G Γ' σ F H where
  go := o.go
  en := fun i e' he => by
    obtain ⟨e, h1, h2⟩ := k.get he
    have z := o.en i e h1
    have lk : ∀ b, H b = none → G.H0 b = none ∧ G.F0 b = none := fun b hb => ⟨none_th o.go.th hb, by
      cases q : G.F0 b with
      | none => rfl
      | some x => rw [o.go.le _ _ (o.go.fs _ _ q)] at hb; cases hb⟩
    cases h2 with
    | id => exact z
    | un => trivial
    | ag p =>
      obtain ⟨v, z1, z2⟩ := z
      exact ⟨v, z1, F, Same.refl _, (fun a vs e n => by rw [o.go.le _ _ e] at n; cases n), z2⟩
    | lk p => exact ⟨z, fun b hb => ⟨(lk b hb).1, fun _ => (lk b hb).2⟩, fun b hb => hb⟩
    | re f p h0 => exact ⟨z.1, fun b hb => ⟨(lk b hb).1, fun _ => (lk b hb).2⟩, fun b hb => hb⟩
  ap := fun i j l m a p q h1 h2 => by
    obtain ⟨e1, a1, b1⟩ := k.get h1
    obtain ⟨e2, a2, b2⟩ := k.get h2
    cases b1
    cases b2
    exact o.ap i j l m a p q a1 a2
  ln := by rw [o.ln, k.len]
end
/-- what of a context is still told when a list that is new behind h goes -/
inductive SvE (h : Hp) : En → En → Prop
  | un (e : En) : SvE h e .un
  | nl {p : Pr} : NLr p → SvE h (.fz p) (.fz p)
  | ag (p : Pr) : SvE h (.fz (agp h p)) (.fz (agp h p))
  | lk {f : Bool} {h0 : Hp} {p : Pr} : NLr p → SvE h (.lk f h0 p) (.lk f h0 p)
  | ow {l : Bool} {a : Addr} {q : Po} : NLP q → SvE h (.ow l a q) (.ow l a q)
def SvC (h : Hp) : Ctx → Ctx → Prop
  | [], [] => True
  | e :: l, e' :: l' => SvE h e e' ∧ SvC h l l'
  | _, _ => False
theorem SvC.len {h : Hp} : ∀ {Γ Γ' : Ctx}, SvC h Γ Γ' → Γ'.length = Γ.length
  | [], [], _ => rfl
  | _ :: _, _ :: _, k => by simp [SvC.len k.2]
  | [], _ :: _, k => k.elim
  | _ :: _, [], k => k.elim
theorem SvC.get {h : Hp} : ∀ {Γ Γ' : Ctx} {i : Nat} {e' : En}, SvC h Γ Γ' → Γ'[i]? = some e' → ∃ e, Γ[i]? = some e ∧ SvE h e e'
  | [], [], _, _, _, q => by simp at q
  | e :: _, _ :: _, 0, _, k, q => by simp at q; subst q; exact ⟨e, rfl, k.1⟩
  | _ :: _, _ :: _, i + 1, _, k, q => by
    obtain ⟨e, h1, h2⟩ := SvC.get (i := i) k.2 (by simpa using q)
    exact ⟨e, by simpa using h1, h2⟩
  | [], _ :: _, _, _, k, _ => k.elim
  | _ :: _, [], _, _, k, _ => k.elim
section
variable {G : Gf} {Γ Γ' : Ctx} {σ : L2.St} {F H h : Hp} {a : Addr} {vs : List V}
/-- a frozen list that is new is one's own again -/
theorem Ok.thaw {i j : Nat} {p0 : Pr} {q : Po} (o : Ok G Γ σ F H) (hk : Γ[j]? = some (.lk true h p0)) (hv : σ[i]? = some (some (.ref a))) (hF : F a = some (.lst vs)) (hn : h a = none) (k : SvC h Γ Γ') (hq : q.r (.lst vs) (del F a)) (hi : i < Γ.length) :
    Ok G (Γ'.set i (.ow true a q)) σ (del F a) H := by
  obtain ⟨_, l1, l2⟩ := o.en j _ hk
  have sv : ∀ (x : Nat) (e : En), Γ'[x]? = some e → EnOk G (del F a) H e σ[x]? := fun x e' he => by
    obtain ⟨e, h1, h2⟩ := k.get he
    have z := o.en x e h1
    cases h2 with
    | un => trivial
    | nl n =>
      obtain ⟨v, z1, z2⟩ := z
      exact ⟨v, z1, n hF z2⟩
    | ag p =>
      obtain ⟨v, z1, f, z2, z3, z4⟩ := z
      refine ⟨v, z1, f, fun b y e => ?_, z3, z4⟩
      refine del_ok (z2 _ _ e) ?_
      rintro rfl
      rw [z2 _ _ e] at hF
      obtain rfl := Option.some.inj hF
      exact z3 _ _ e hn
    | lk n =>
      obtain ⟨⟨v, z1, z2⟩, z3⟩ := z
      exact ⟨⟨v, z1, n hF z2⟩, z3⟩
    | ow n =>
      obtain ⟨z1, z2, z3, u, z4, z5⟩ := z
      refine ⟨z1, ?_, z3, u, z4, n.nl hF z5⟩
      unfold del
      split
      · rfl
      · exact z2
  have no : ∀ (x : Nat) (l : Bool) (r : Po), Γ'[x]? = some (.ow l a r) → False := fun x l r he => by
    obtain ⟨e, h1, h2⟩ := k.get he
    cases h2
    have z := (o.en x _ h1).2.1
    rw [hF] at z; cases z
  have hl : i < Γ'.length := by rw [k.len]; exact hi
  refine ⟨⟨fun b x e => ?_, fun b x e => ?_, o.go.hs, fun b x e f => ?_, o.go.th⟩, fun x e he => ?_, fun x y l m b p r h1 h2 => ?_, ?_⟩
  · refine del_ok (o.go.fs _ _ e) ?_
    rintro rfl
    rw [(l1 _ hn).2 rfl] at e; cases e
  · unfold del at e
    split at e
    · cases e
    · exact o.go.le _ _ e
  · unfold del
    split
    · rfl
    · exact o.go.fr b x e f
  · by_cases hx : i = x
    · subst hx
      rw [List.getElem?_set_self hl] at he
      cases he
      exact ⟨hv, del_same, (l1 _ hn).1, _, o.go.le _ _ hF, hq⟩
    · rw [List.getElem?_set_ne hx] at he
      exact sv x e he
  · by_cases hx : i = x
    · subst hx
      rw [List.getElem?_set_self hl] at h1
      cases h1
      by_cases hy : i = y
      · exact hy
      · rw [List.getElem?_set_ne hy] at h2
        exact (no _ _ _ h2).elim
    · rw [List.getElem?_set_ne hx] at h1
      by_cases hy : i = y
      · subst hy
        rw [List.getElem?_set_self hl] at h2
        cases h2
        exact (no _ _ _ h1).elim
      · rw [List.getElem?_set_ne hy] at h2
        obtain ⟨e1, a1, b1⟩ := k.get h1
        obtain ⟨e2, a2, b2⟩ := k.get h2
        cases b1
        cases b2
        exact o.ap x y l m b p r a1 a2
  · rw [o.ln, List.length_set, k.len]
end
theorem nw_item_l {h : Hp} {ps : List Pr} {v : V} {F : Hp} (k : (nwp h (rLu ps)).r v F) : ∃ a ws, v = .ref a ∧ F a = some (.lst ws) ∧ h a = none ∧ Ps F ps ws ∧ ∀ (i : Nat) (p : Pr) (w : V), ps[i]? = some p → ws[i]? = some w → (nwp h p).r w F := by
  obtain ⟨⟨a, ws, rfl, h1, h2⟩, k⟩ := k
  have hn : h a = none := by
    cases e : h a with
    | none => rfl
    | some y =>
      obtain ⟨b, us, e2, h3, _⟩ := k a ws (by rw [e]; simp) h1
      obtain rfl := V.ref.inj e2
      rw [del_same] at h3; cases h3
  refine ⟨a, ws, rfl, h1, hn, h2, fun i p w e1 e2 => ⟨?_, fun b us nb eb => ?_⟩⟩
  · obtain ⟨w', e3, e4⟩ := h2.get e1
    rw [e2] at e3
    obtain rfl := Option.some.inj e3
    exact e4
  · obtain ⟨c, us2, e3, h3, h4⟩ := k b us nb eb
    obtain rfl := V.ref.inj e3
    have hab : a ≠ b := by rintro rfl; exact nb hn
    rw [del_ne hab, h1] at h3
    obtain rfl := HO.lst.inj (Option.some.inj h3)
    obtain ⟨w', e5, e6⟩ := h4.get e1
    rw [e2] at e5
    obtain rfl := Option.some.inj e5
    exact e6
theorem nw_item_tu {h : Hp} {ps : List Pr} {v : V} {F : Hp} (k : (nwp h (rTu ps)).r v F) : ∃ a ws, v = .ref a ∧ Rd F a (.tup ws) ∧ Ps F ps ws ∧ ∀ (i : Nat) (p : Pr) (w : V), ps[i]? = some p → ws[i]? = some w → (nwp h p).r w F := by
  obtain ⟨⟨a, ws, rfl, h1, h2⟩, k⟩ := k
  refine ⟨a, ws, rfl, h1, h2, fun i p w e1 e2 => ⟨?_, fun b us nb eb => ?_⟩⟩
  · obtain ⟨w', e3, e4⟩ := h2.get e1
    rw [e2] at e3
    obtain rfl := Option.some.inj e3
    exact e4
  · obtain ⟨c, us2, e3, h3, h4⟩ := k b us nb eb
    obtain rfl := V.ref.inj e3
    have hab : a ≠ b := by
      rintro rfl
      rcases h1 with h1 | ⟨o, h1⟩ <;> (rw [eb] at h1; cases h1)
    have hw : us2 = ws := by
      rcases h1 with h1 | ⟨o, h1⟩ <;> rcases h3 with h3 | ⟨o', h3⟩ <;> (rw [del_ne hab, h1] at h3; cases h3 <;> rfl)
    subst hw
    obtain ⟨w', e5, e6⟩ := h4.get e1
    rw [e2] at e5
    obtain rfl := Option.some.inj e5
    exact e6
/-! ### how newness is found -/
def NwR (h : Hp) (p' p : Pr) : Prop := ∀ v F, p'.r v F → (nwp h p).r v F
class NwC {α : Type} (h : Hp) (ρ' ρ : α → Pr) : Prop where
  nw : ∀ x, NwR h (ρ' x) (ρ x)
theorem nwr_nl {h : Hp} {p : Pr} (n : NLr p) : NwR h p p := fun v F k => ⟨k, fun a vs _ e => n e k⟩
theorem nwr_self {h : Hp} {p : Pr} : NwR h (nwp h p) p := fun v F k => k
section
variable {α β γ δ ε : Type} {h : Hp}
instance (priority := 90) nwcNL {ρ : α → Pr} [NL ρ] : NwC h ρ ρ := ⟨fun x => nwr_nl (nlr x)⟩
instance nwcNw {ρ : α → Pr} : NwC h (rNw h ρ) ρ := ⟨fun x => nwr_self⟩
instance nwcO {ρ' ρ : α → Pr} [n : NwC h ρ' ρ] : NwC h (rO ρ') (rO ρ) := ⟨fun x v F k => by
  cases x with
  | none => exact ⟨k, fun _ _ _ _ => k⟩
  | some y => exact n.nw y v F k⟩
def NwL (h : Hp) : List Pr → List Pr → Prop
  | [], [] => True
  | p' :: ps', p :: ps => NwR h p' p ∧ NwL h ps' ps
  | _, _ => False
theorem NwL.ps {F : Hp} : ∀ {ps' ps : List Pr} {vs : List V}, NwL h ps' ps → Ps F ps' vs → Ps F ps vs ∧ ∀ a us, h a ≠ none → F a = some (.lst us) → Ps (del F a) ps vs
  | [], [], [], _, _ => ⟨trivial, fun _ _ _ _ => trivial⟩
  | p' :: ps', p :: ps, v :: vs, n, k => by
    obtain ⟨a1, a2⟩ := n.1 v F k.1
    obtain ⟨b1, b2⟩ := NwL.ps n.2 k.2
    exact ⟨⟨a1, b1⟩, fun a us e1 e2 => ⟨a2 a us e1 e2, b2 a us e1 e2⟩⟩
  | [], _ :: _, _, n, _ => n.elim
  | _ :: _, [], _, n, _ => n.elim
  | [], [], _ :: _, _, k => k.elim
  | _ :: _, _ :: _, [], _, k => k.elim
theorem NwL.map {ρ' ρ : α → Pr} [n : NwC h ρ' ρ] : ∀ xs : List α, NwL h (xs.map ρ') (xs.map ρ)
  | [] => trivial
  | x :: xs => ⟨n.nw x, NwL.map xs⟩
theorem nw_tu {ps' ps : List Pr} (n : NwL h ps' ps) : NwR h (rTu ps') (rTu ps) := fun v F k => by
  obtain ⟨t, ws, rfl, h1, h2⟩ := k
  obtain ⟨a1, a2⟩ := n.ps h2
  refine ⟨⟨t, ws, rfl, h1, a1⟩, fun a us e1 e2 => ⟨t, ws, rfl, ?_, a2 a us e1 e2⟩⟩
  have ht : t ≠ a := by
    rintro rfl
    rcases h1 with h1 | ⟨o, h1⟩ <;> (rw [e2] at h1; cases h1)
  exact h1.imp (fun e => del_ok e ht) (fun ⟨o, e⟩ => ⟨o, del_ok e ht⟩)
theorem nw_l {ps' ps : List Pr} {a : Addr} {ws : List V} {F : Hp} (n : NwL h ps' ps) (h0 : h a = none) (h1 : F a = some (.lst ws)) (h2 : Ps F ps' ws) : (nwp h (rLu ps)).r (.ref a) F := by
  obtain ⟨a1, a2⟩ := n.ps h2
  refine ⟨⟨a, ws, rfl, h1, a1⟩, fun b us e1 e2 => ⟨a, ws, rfl, ?_, a2 b us e1 e2⟩⟩
  have : a ≠ b := by rintro rfl; exact e1 h0
  exact del_ok h1 this
instance nwcTs {ρ' ρ : α → Pr} [NwC h ρ' ρ] : NwC h (rTs ρ') (rTs ρ) := ⟨fun xs => nw_tu (NwL.map xs)⟩
instance nwcT2 {a' a : α → Pr} {b' b : β → Pr} [m : NwC h a' a] [n : NwC h b' b] : NwC h (rT2 a' b') (rT2 a b) := ⟨fun x => nw_tu ⟨m.nw _, n.nw _, trivial⟩⟩
instance nwcT3 {a' a : α → Pr} {b' b : β → Pr} {c' c : γ → Pr} [m : NwC h a' a] [n : NwC h b' b] [k : NwC h c' c] : NwC h (rT3 a' b' c') (rT3 a b c) := ⟨fun x => nw_tu ⟨m.nw _, n.nw _, k.nw _, trivial⟩⟩
instance nwcT4 {a' a : α → Pr} {b' b : β → Pr} {c' c : γ → Pr} {d' d : δ → Pr} [m : NwC h a' a] [n : NwC h b' b] [k : NwC h c' c] [l : NwC h d' d] : NwC h (rT4 a' b' c' d') (rT4 a b c d) := ⟨fun x => nw_tu ⟨m.nw _, n.nw _, k.nw _, l.nw _, trivial⟩⟩
end
section
variable {α β γ δ : Type} {X : Cx} {W : WX} {Γe Γ Γ' : Ctx} {Γa : Hp → Ctx} {lv : Bool} {e b : Expr} {st : Stmt} {rest : List Stmt} {Z : γ → Fin} {pos : Pos} {t : TE} {h : Hp} {p0 : Pr} {j : Nat} {f : Bool}
theorem rb_age {m : Mo γ} (hl : ∀ h, AgC h Γ (Γa h)) (he : ∀ h, Le Γe (Γa h)) (hr : ∀ h, RB X W Γe lv (Γa h) rest m Z) : RB X W Γe lv Γ rest m Z := fun _ G σ F H D nx hn o r => hr H (he H) G σ F H D nx hn (o.age (hl H)) r
theorem re_varL {ρ : α → Pr} {x : α} (i : Nat) {n : Str} {pos : Pos} (hi : Γ[i]? = some (.lk f h (ρ x))) (hp : PE X (.Name n pos) (tVar i)) : RE X W Γ (.Name n pos) (pure x) (.fz ρ) :=
  re_of hp fun G σ F H Q o q => by
    obtain ⟨⟨v, h1, h2⟩, _⟩ := o.en i _ hi
    exact ⟨v, h1, NQ.here (ρ := ρ) q o h2⟩
theorem re_ag {ρ : α → Pr} {m : Mo α} (k : RE X W Γ e m (.fz (rAg h ρ))) : RE X W Γ e m (.fz ρ) := re_as k fun _ _ _ z => agp_out z
theorem re_nwo {ρ : α → Pr} {m : Mo α} (k : RE X W Γ e m (.fz (rNw h ρ))) : RE X W Γ e m (.fz ρ) := re_as k fun _ _ _ z => z.1
theorem re_nwt {ρ' ρ : α → Pr} {m : Mo α} [n : NwC h ρ' ρ] (k : RE X W Γ e m (.fz ρ')) : RE X W Γ e m (.fz (rNw h ρ)) := re_as k fun x v F z => n.nw x v F z
theorem re_Any {ρ : α → Pr} {m : Mo α} (k : RE X W Γ e m (.fz ρ)) : RE X W Γ e ((fun _ => ()) <$> m) (.fz rAny) := re_map _ k fun _ _ _ _ => trivial
/-- a new list -/
theorem rte_nwl {ρ' ρ : α → Pr} {m : Mo (List α)} [n : NwC h ρ' ρ] (hk : Γ[j]? = some (.lk f h p0)) (k : RTE X W Γ t m (.ow (oL ρ'))) : RTE X W Γ t m (.fz (rNw h (rL ρ))) := fun G σ F H Q o q => by
  have l2 := (o.en j _ hk).2.2
  refine k G σ F H Q o (m.mono (fun x hx v F' H' o' g' z => ?_) (fun _ z => z) q)
  obtain ⟨a, u, rfl, h1, h2, h3, h4⟩ := z
  obtain ⟨o2, g2⟩ := o.frzNew o' g' h1 h2 h3
  obtain ⟨ws, rfl, h5⟩ := h4
  exact hx _ _ _ o2 g2 (nw_l (NwL.map x) (l2 _ h1) upd_same (h5.mono (same_upd h2)))
theorem re_nwl {ρ' ρ : α → Pr} {m : Mo (List α)} [n : NwC h ρ' ρ] (hk : Γ[j]? = some (.lk f h p0)) (k : RE X W Γ e m (.ow (oL ρ'))) : RE X W Γ e m (.fz (rNw h (rL ρ))) := rte_nwl hk k
theorem re_nwd {ρ : α → Pr} {m : Mo α} [s : Enc ρ] (k : RE X W Γ e m (.fz (rNw h ρ))) (hn : s.n ≤ 8 := by decide) : RE X W Γ e (m >>= fun x => Mo.rq (s.ok x) (s.d x)) (.fz (rNw h rD)) := fun G σ F H Q o q =>
  k G σ F H Q o (m.mono (fun x hx v F' H' o' g' z => hx.2 v F' H' o' g' (by
    exact ⟨(s.is hx.1 z.1).le hn, fun a vs n e => (s.is hx.1 (z.2 a vs n e)).le hn⟩)) (fun _ z => z) q)
/-- from a call -/
theorem re_nwc {ρ : α → Pr} {m : Mo α} (hk : Γ[j]? = some (.lk f h p0)) (k : RE X W Γ e m (.nw ρ)) : RE X W Γ e m (.fz (rNw h ρ)) := fun G σ F H Q o q => by
  have l2 := (o.en j _ hk).2.2
  exact k G σ F H Q o (m.mono (fun x hx v F' H' o' g' z => hx v F' H' o' g' ⟨z.1, fun a vs n e => z.2 a vs (fun y => n (l2 a y)) e⟩) (fun _ z => z) q)
theorem re_nwf {ρ : α → Pr} {m : Mo α} (k : RE X W Γ e m (.nw ρ)) : RE X W Γ e m (.fz ρ) := fun G σ F H Q o q =>
  k G σ F H Q o (m.mono (fun x hx v F' H' o' g' z => hx v F' H' o' g' z.1) (fun _ z => z) q)
/-! ### isinstance of any data -/
def kdD : PyData → String
  | .none => "NoneType"
  | .bool _ => "bool"
  | .int _ => "int"
  | .str _ => "str"
  | .list _ => "list"
  | .tuple _ => "tuple"
  | .dict _ => "dict"
theorem kd_is {K : PySem.W.Frag} {d : PyData} {v : V} {F H : Hp} (s : Same F H) (z : (rD d).r v F) : TyX K H v (.type (kdD d)) := by
  have z : Dt 8 F v d := z
  cases d with
  | none => obtain rfl : v = .non := z; exact .base .non
  | bool b => obtain rfl : v = .bl b := z; exact .base (.bl _)
  | int i => obtain rfl : v = .int i := z; exact .base (.int _)
  | str x => obtain rfl : v = .str x := z; exact .base (.str _)
  | list ds => obtain ⟨a, xs, rfl, h, _⟩ := z; exact .base (.lst (s _ _ h))
  | tuple ds => obtain ⟨a, xs, rfl, h, _⟩ := z; exact tyx_tup (Rd.mono h s)
  | dict kv => exact z.elim
def insD (T : String) (f : String → Bool) (d : PyData) : Bool := f (kdD d)
theorem re_isiD {m : Mo PyData} {p p2 : Pos} {n : Str} {T : String} (f : String → Bool) (h : RE X W Γ e m (.fz rD)) (hc : ∀ k ∈ ["NoneType", "bool", "int", "str", "list", "tuple"], PySem.W.kitOne X.K (.type k) (.type T) = some (f k)) (hm : X.mg "isinstance" = none) (hn : PE X (.Name n p2) (tC (.ty T))) (hg : Gl X "isinstance" := by rfl)
    (hst : starEach [e, .Name n p2] X.env = (false, eval e X.env) :: starEach [.Name n p2] X.env := by rfl) (hst2 : starEach [.Name n p2] X.env = (false, eval (.Name n p2) X.env) :: starEach [] X.env := by rfl) :
    RE X W Γ (.Call (.Name "isinstance" p) [e, .Name n p2] [] pos) (m >>= fun x => pure (insD T f x)) (.fz rB) :=
  re_of (pe_callB call_isi hg hm (by decide +kernel) (pa_cons (hs := hst) peE (pa_cons (hs := hst2) hn pa_nil)) (by decide) (by decide) hst rfl) fun G σ F H Q o q => by
    refine h G σ F H _ o (m.mono (fun x hx v F' H' o' g' z => ?_) (fun _ z => z) q)
    refine ⟨v, .ty T, _, _, f (kdD x), rfl, .ty _, kd_is o'.le z, hc _ ?_, hx _ F' H' o' g' rfl⟩
    have z : Dt 8 F' v x := z
    cases x with
    | dict kv => exact z.elim
    | _ => simp [kdD]
theorem kits {K : PySem.W.Frag} {T : String} {f : String → Bool} (h1 : PySem.W.kitOne K (.type "NoneType") (.type T) = some (f "NoneType")) (h2 : PySem.W.kitOne K (.type "bool") (.type T) = some (f "bool")) (h3 : PySem.W.kitOne K (.type "int") (.type T) = some (f "int")) (h4 : PySem.W.kitOne K (.type "str") (.type T) = some (f "str")) (h5 : PySem.W.kitOne K (.type "list") (.type T) = some (f "list")) (h6 : PySem.W.kitOne K (.type "tuple") (.type T) = some (f "tuple")) : ∀ k ∈ ["NoneType", "bool", "int", "str", "list", "tuple"], PySem.W.kitOne K (.type k) (.type T) = some (f k) := fun k hk => by
  simp only [List.mem_cons, List.not_mem_nil, or_false] at hk
  rcases hk with rfl | rfl | rfl | rfl | rfl | rfl
  · exact h1
  · exact h2
  · exact h3
  · exact h4
  · exact h5
  · exact h6
theorem re_getN {ρ : α → Pr} {m : Mo (Option α)} (k : RE X W Γ e m (.fz (rNw h (rO ρ)))) : RE X W Γ e (m >>= Mo.get) (.fz (rNw h ρ)) := fun G σ F H Q o q =>
  k G σ F H Q o (m.mono (fun x hx v F' H' o' g' z => by
    obtain ⟨y, rfl, hx⟩ := hx
    exact hx v F' H' o' g' z) (fun _ z => z) q)
theorem rb_retNw {ρ : α → Pr} {me : Mo α} (kx : α → γ) (hk : Γ[j]? = some (.lk f h p0)) (he : RE X W Γ e me (.fz (rNw h ρ))) (hz : ∀ x, Z (kx x) = .ret ((RK.nw ρ).ok x)) : RB X W Γe lv Γ (.Return (some e) pos :: rest) (me >>= fun x => pure (kx x)) Z := fun le G σ F H D nx' hn o q =>
  tSs_cons (ps_ret peE) (by
    have l1 := (o.en j _ hk).2.1
    refine he G σ F H _ o (me.mono (fun x hx v F' H' o' g' z => ?_) (fun _ => XQ.eq le) q)
    have hx : FinOk G Γe D F (Z (kx x)) := hx
    rw [hz x] at hx
    exact hx v σ F' H' o'.go.fs (o'.weak le) ⟨z.1, fun a vs n e => z.2 a vs (fun y => n (l1 a y).1) e⟩)
/-! items -/
theorem re_ixDN {ma : Mo PyData} {mb : Mo Int} (ha : RE X W Γ e ma (.fz (rNw h rD))) (hb : RE X W Γ b mb (.fz rI)) (hs : PlainIx b := by exact fun _ _ => rfl) : RE X W Γ (.Subscript e b pos) (ma >>= fun d => mb >>= fun i => Mo.get (asTup d) >>= fun ds => Mo.get (atI ds i)) (.fz (rNw h rD)) := by
  refine re_of (pe_ix ix_tup peE peE hs) fun G σ F H Q o q => ?_
  refine ha G σ F H _ o (ma.mono (fun x hx v F1 H1 o1 g1 z => ?_) (fun _ z => z) q)
  refine hb G σ F1 H1 _ o1 (mb.mono (fun i hi w F2 H2 o2 g2 z2 => ?_) (fun _ => EQ.step g1) hx)
  obtain rfl : w = .int i := z2
  obtain ⟨ds, h1, d, h2, q⟩ := hi
  have zN : (nwp h (rD x)).r v F2 := (rNw h rD x).mono g2.fs z
  have z : Dt 8 F2 v x := zN.1
  cases x with
  | tuple es =>
    obtain rfl := Option.some.inj h1
    obtain ⟨t, xs, rfl, k1, k2, _, k3⟩ := z
    unfold atI at h2
    cases e : ixN es.length i with
    | none => rw [e] at h2; cases h2
    | some j =>
      rw [e] at h2
      have h2 : es[j]? = some d := h2
      have hj : j < xs.length := by rw [k2]; exact (List.getElem?_eq_some_iff.mp h2).1
      refine ⟨t, xs, i, xs[j], rfl, rfl, SqT.ofR (Rd.mono k1 o2.le), ?_, ?_⟩
      · unfold atI
        rw [k2, e]
        exact List.getElem?_eq_getElem hj
      · refine q _ F2 H2 o2 (g1.trans g2 owns_tr) ⟨(k3 j _ d (List.getElem?_eq_getElem hj) h2).up, fun a vs n ea => ?_⟩
        obtain ⟨t', xs', e3, k4, k5, _, k6⟩ := zN.2 a vs n ea
        obtain rfl := V.ref.inj e3
        have hab : t ≠ a := by
          rintro rfl
          rcases k1 with k1 | ⟨o, k1⟩ <;> (rw [ea] at k1; cases k1)
        have hw : xs' = xs := by
          rcases k1 with k1 | ⟨o, k1⟩ <;> rcases k4 with k4 | ⟨o', k4⟩ <;> (rw [del_ne hab, k1] at k4; cases k4 <;> rfl)
        subst hw
        exact (k6 j _ d (List.getElem?_eq_getElem hj) h2).up
  | _ => cases h1
theorem re_ixLN {ρ : α → Pr} {ma : Mo (List α)} {mb : Mo Int} (ha : RE X W Γ e ma (.fz (rNw h (rL ρ)))) (hb : RE X W Γ b mb (.fz rI)) (hs : PlainIx b := by exact fun _ _ => rfl) : RE X W Γ (.Subscript e b pos) (ma >>= fun xs => mb >>= fun i => Mo.get (atI xs i)) (.fz (rNw h ρ)) := by
  refine re_of (pe_ix ix_list peE peE hs) fun G σ F H Q o q => ?_
  refine ha G σ F H _ o (ma.mono (fun x hx v F1 H1 o1 g1 z => ?_) (fun _ z => z) q)
  refine hb G σ F1 H1 _ o1 (mb.mono (fun i hi w F2 H2 o2 g2 z2 => ?_) (fun _ => EQ.step g1) hx)
  obtain rfl : w = .int i := z2
  obtain ⟨d, h2, q⟩ := hi
  obtain ⟨a, ws, rfl, k1, k2, k3, k4⟩ := nw_item_l ((rNw h (rL ρ) x).mono g2.fs z)
  unfold atI at h2
  cases e : ixN x.length i with
  | none => rw [e] at h2; cases h2
  | some j =>
    rw [e] at h2
    have h2 : x[j]? = some d := h2
    have hl : ws.length = x.length := by rw [k3.len, List.length_map]
    have hj : j < ws.length := by rw [hl]; exact (List.getElem?_eq_some_iff.mp h2).1
    refine ⟨a, ws, i, ws[j], rfl, rfl, SqL.of (o2.le _ _ k1), ?_, ?_⟩
    · unfold atI
      rw [hl, e]
      exact List.getElem?_eq_getElem hj
    · exact q _ F2 H2 o2 (g1.trans g2 owns_tr) (k4 j _ _ (by rw [List.getElem?_map, h2]; rfl) (List.getElem?_eq_getElem hj))
theorem re_atN {ρt : α → Pr} {ρ : β → Pr} {mt : Mo α} {g : α → β} (ps : α → List Pr) (c : Int) (ha : RE X W Γ e mt (.fz (rNw h ρt))) (hρ : ∀ x, ρt x = rTu (ps x) := by intro _; rfl) (hc : RE X W Γ b (pure c) (.fz rI)) (hg : ∀ x, atI (ps x) c = some (ρ (g x)) := by intro _; rfl) (hs : PlainIx b := by exact fun _ _ => rfl) : RE X W Γ (.Subscript e b pos) (mt >>= fun x => pure (g x)) (.fz (rNw h ρ)) := by
  refine re_of (pe_ix ix_tup peE peE hs) fun G σ F H Q o q => ?_
  refine ha G σ F H _ o (mt.mono (fun y hy v F' H' o' g' z => ?_) (fun _ z => z) q)
  have z : (nwp h (ρt y)).r v F' := z
  rw [hρ y] at z
  obtain ⟨t, vs, rfl, h1, h2, h3⟩ := nw_item_tu z
  have hg := hg y
  unfold atI at hg
  cases e : ixN (ps y).length c with
  | none => rw [e] at hg; cases hg
  | some j =>
    rw [e] at hg
    have hg : (ps y)[j]? = some (ρ (g y)) := hg
    have hj : j < vs.length := by rw [h2.len]; exact (List.getElem?_eq_some_iff.mp hg).1
    refine hc G σ F' H' _ o' fun w F2 H2 o2 g2 e2 => ?_
    obtain rfl : w = .int c := e2
    refine ⟨t, vs, c, vs[j], rfl, rfl, SqT.ofR (Rd.mono h1 (g2.fs.trans o2.le)), ?_, hy _ F2 H2 o2 (g'.trans g2 owns_tr) ((rNw h ρ _).mono g2.fs (h3 j _ _ hg (List.getElem?_eq_getElem hj)))⟩
    unfold atI
    rw [h2.len, e]
    exact List.getElem?_eq_getElem hj
/-! thaw -/
theorem rb_thaw {ρ : α → Pr} {xs : List α} {i : Nat} {m : Mo γ} [n : NL ρ] (hi : Γ[i]? = some (.fz (rNw h (rL ρ) xs))) (hk : Γ[j]? = some (.lk true h p0)) (hs : SvC h Γ Γ') (hie : Γe[i]? = some .un) (hle : Le Γe Γ') (hr : ∀ a, RB X W Γe lv (Γ'.set i (.ow true a (oL ρ xs))) rest m Z) : RB X W Γe lv Γ rest m Z := fun _ G σ F H D nx hn o r => by
  obtain ⟨v, h1, z⟩ := o.en i _ hi
  obtain ⟨a, ws, rfl, k1, k2, k3, _⟩ := nw_item_l z
  have hps : Ps (del F a) (xs.map ρ) ws := k3.nl k1 fun p hp => by
    obtain ⟨x, _, rfl⟩ := List.mem_map.mp hp
    exact nlr x
  exact hr a (hle.set hie) G σ (del F a) H D nx hn (o.thaw hk h1 k1 k2 hs ⟨ws, rfl, hps⟩ (List.getElem?_eq_some_iff.mp hi).1) (run_any r)
theorem ps_any {F : Hp} : ∀ (n : Nat) (vs : List V), vs.length = n → Ps F ((List.replicate n ()).map rAny) vs
  | 0, [], _ => trivial
  | n + 1, v :: vs, h => ⟨trivial, ps_any n vs (by simpa using h)⟩
  | 0, _ :: _, h => by simp at h
  | _ + 1, [], h => by simp at h
/-- a list among any data -/
theorem rb_thawD {d : PyData} {i : Nat} {m : List PyData → Mo γ} (hi : Γ[i]? = some (.fz (rNw h rD d))) (hk : Γ[j]? = some (.lk true h p0)) (hs : SvC h Γ Γ') (hie : Γe[i]? = some .un) (hle : Le Γe Γ') (hr : ∀ ds a, RB X W Γe lv (Γ'.set i (.ow true a (oL rAny (List.replicate (ds : List PyData).length ())))) rest (m ds) Z) : RB X W Γe lv Γ rest (Mo.get (asLst d) >>= m) Z := fun _ G σ F H D nx hn o r => by
  obtain ⟨ds, hd, r⟩ := r
  obtain ⟨v, h1, z⟩ := o.en i _ hi
  cases d with
  | list es =>
    obtain rfl := Option.some.inj hd
    obtain ⟨a, ws, rfl, k1, k2, _, k3⟩ := (show Dt 8 F v (.list es) from z.1)
    have hn' : h a = none := by
      cases e : h a with
      | none => rfl
      | some y =>
        obtain ⟨b, us, e2, h3, _⟩ := (show Dt 8 (del F a) (.ref a) (.list es) from z.2 a ws (by rw [e]; simp) k1)
        obtain rfl := V.ref.inj e2
        rw [del_same] at h3; cases h3
    exact hr es a (hle.set hie) G σ (del F a) H D nx hn (o.thaw hk h1 k1 hn' hs ⟨ws, rfl, ps_any _ _ k2⟩ (List.getElem?_eq_some_iff.mp hi).1) (run_any r)
  | _ => cases hd
/-- less is known of ages -/
inductive UaE : En → En → Prop
  | id (e : En) : UaE e e
  | un (e : En) : UaE e .un
  | ag (h : Hp) (p : Pr) : UaE (.fz (agp h p)) (.fz p)
  | nw (h : Hp) (p : Pr) : UaE (.fz (nwp h p)) (.fz p)
  | lk (f : Bool) (h : Hp) (p : Pr) : UaE (.lk f h p) (.fz p)
  | lf (f : Bool) (h : Hp) (p : Pr) : UaE (.lk f h p) (.lk false h p)
  | la (f : Bool) (h h' : Hp) (p : Pr) : UaE (.lk f h (agp h' p)) (.fz p)
def UaC : Ctx → Ctx → Prop
  | [], [] => True
  | e :: l, e' :: l' => UaE e e' ∧ UaC l l'
  | _, _ => False
theorem UaC.len : ∀ {Γ Γ' : Ctx}, UaC Γ Γ' → Γ'.length = Γ.length
  | [], [], _ => rfl
  | _ :: _, _ :: _, k => by simp [UaC.len k.2]
  | [], _ :: _, k => k.elim
  | _ :: _, [], k => k.elim
theorem UaC.get : ∀ {Γ Γ' : Ctx} {i : Nat} {e' : En}, UaC Γ Γ' → Γ'[i]? = some e' → ∃ e, Γ[i]? = some e ∧ UaE e e'
  | [], [], _, _, _, q => by simp at q
  | e :: _, _ :: _, 0, _, k, q => by simp at q; subst q; exact ⟨e, rfl, k.1⟩
  | _ :: _, _ :: _, i + 1, _, k, q => by
    obtain ⟨e, h1, h2⟩ := UaC.get (i := i) k.2 (by simpa using q)
    exact ⟨e, by simpa using h1, h2⟩
  | [], _ :: _, _, _, k, _ => k.elim
  | _ :: _, [], _, _, k, _ => k.elim
theorem Ok.unage {G : Gf} {σ : L2.St} {F H : Hp} (o : Ok G Γ σ F H) (k : UaC Γ Γ') : Ok G Γ' σ F H where
  go := o.go
  en := fun i e' he => by
    obtain ⟨e, h1, h2⟩ := k.get he
    have z := o.en i e h1
    cases h2 with
    | id => exact z
    | un => trivial
    | ag h p => obtain ⟨v, z1, z2⟩ := z; exact ⟨v, z1, agp_out z2⟩
    | nw h p => obtain ⟨v, z1, z2⟩ := z; exact ⟨v, z1, z2.1⟩
    | lk f h p => exact z.1
    | lf f h p => exact ⟨z.1, fun b hb => ⟨(z.2.1 b hb).1, fun x => by cases x⟩, z.2.2⟩
    | la f h h' p => obtain ⟨⟨v, z1, z2⟩, _⟩ := z; exact ⟨v, z1, agp_out z2⟩
  ap := fun i j l m a p q h1 h2 => by
    obtain ⟨e1, a1, b1⟩ := k.get h1
    obtain ⟨e2, a2, b2⟩ := k.get h2
    cases b1
    cases b2
    exact o.ap i j l m a p q a1 a2
  ln := by rw [o.ln, k.len]
theorem rb_unage {m : Mo γ} (hl : UaC Γ Γ') (he : Le Γe Γ') (hr : RB X W Γe lv Γ' rest m Z) : RB X W Γe lv Γ rest m Z := fun _ G σ F H D nx hn o r => hr he G σ F H D nx hn (o.unage hl) r
theorem ps_of {F : Hp} : ∀ {ps : List Pr} {vs : List V}, vs.length = ps.length → (∀ (i : Nat) (p : Pr) (w : V), ps[i]? = some p → vs[i]? = some w → p.r w F) → Ps F ps vs
  | [], [], _, _ => trivial
  | p :: ps, v :: vs, h, k => ⟨k 0 p v rfl rfl, ps_of (by simpa using h) fun i q w e1 e2 => k (i + 1) q w (by simpa using e1) (by simpa using e2)⟩
  | [], _ :: _, h, _ => by simp at h
  | _ :: _, [], h, _ => by simp at h
theorem re_onw {ρ : α → Pr} {m : Mo (List α)} (hk : Γ[j]? = some (.lk f h p0)) (k : RE X W Γ e m (.on fun xs => xs.map ρ)) : RE X W Γ e m (.ow (oL (rNw h ρ))) := fun G σ F H Q o q => by
  have l2 := (o.en j _ hk).2.2
  refine k G σ F H Q o (m.mono (fun x hx v F' H' o' g' z => ?_) (fun _ z => z) q)
  obtain ⟨a, vs, rfl, h1, h2, h3, h4, h5⟩ := z
  refine hx _ F' H' o' g' ⟨a, _, rfl, h1, h2, h3, vs, rfl, ps_of (by simpa using h4) fun i p w e1 e2 => ?_⟩
  rw [List.getElem?_map] at e1
  cases ex : x[i]? with
  | none => rw [ex] at e1; cases e1
  | some y =>
    rw [ex] at e1
    obtain rfl := Option.some.inj e1
    have z := h5 i (ρ y) w (by rw [List.getElem?_map, ex]; rfl) e2
    exact ⟨z.1, fun a vs n e => z.2 a vs (fun y => n (l2 a y)) e⟩
theorem re_onf {ρ : α → Pr} {m : Mo (List α)} (k : RE X W Γ e m (.on fun xs => xs.map ρ)) : RE X W Γ e m (.ow (oL ρ)) := fun G σ F H Q o q => by
  refine k G σ F H Q o (m.mono (fun x hx v F' H' o' g' z => ?_) (fun _ z => z) q)
  obtain ⟨a, vs, rfl, h1, h2, h3, h4, h5⟩ := z
  exact hx _ F' H' o' g' ⟨a, _, rfl, h1, h2, h3, vs, rfl, ps_of h4 fun i p w e1 e2 => (h5 i p w e1 e2).1⟩
theorem rb_retOn {ρ : α → Pr} {i : Nat} {a : Addr} {x : Str} {p : Pos} {y : γ} {xs : List α} (hk : Γ[j]? = some (.lk f h p0)) (hi : Γ[i]? = some (.ow true a (oL (rNw h ρ) xs))) (hp : PE X (.Name x p) (tVar i)) (hz : Z y = .ret ((RK.on fun xs => xs.map ρ).ok xs)) : RB X W Γe lv Γ (.Return (some (.Name x p)) pos :: rest) (pure y) Z := fun le G σ F H D nx' hn o r =>
  tSs_cons (ps_ret hp) (by
    have l1 := (o.en j _ hk).2.1
    have r : FinOk G Γe D F (Z y) := r
    rw [hz] at r
    obtain ⟨h1, h2, h3, u, h4, vs, rfl, h5⟩ := o.en i _ hi
    refine ⟨.ref a, h1, r _ σ F H o.go.fs (o.weak le) ⟨a, vs, rfl, h3, h2, h4, by simpa using h5.len, fun i p w e1 e2 => ?_⟩⟩
    rw [List.getElem?_map] at e1
    cases ex : xs[i]? with
    | none => rw [ex] at e1; cases e1
    | some y =>
      rw [ex] at e1
      obtain rfl := Option.some.inj e1
      obtain ⟨w', e3, z⟩ := h5.get (p := rNw h ρ y) (i := i) (by rw [List.getElem?_map, ex]; rfl)
      rw [e2] at e3
      obtain rfl := Option.some.inj e3
      exact ⟨z.1, fun a vs n e => z.2 a vs (fun y => n (l1 a y).1) e⟩)
/-- a new own list with new items is handed back -/
theorem rb_retOnE {ρ : α → Pr} {me : Mo (List α)} (kx : List α → γ) (hk : Γ[j]? = some (.lk f h p0)) (he : RE X W Γ e me (.ow (oL (rNw h ρ)))) (hz : ∀ x, Z (kx x) = .ret ((RK.on fun xs => xs.map ρ).ok x)) : RB X W Γe lv Γ (.Return (some e) pos :: rest) (me >>= fun x => pure (kx x)) Z := fun le G σ F H D nx' hn o q =>
  tSs_cons (ps_ret peE) (by
    have l1 := (o.en j _ hk).2.1
    refine he G σ F H _ o (me.mono (fun x hx v F' H' o' g' z => ?_) (fun _ => XQ.eq le) q)
    have hx : FinOk G Γe D F (Z (kx x)) := hx
    rw [hz x] at hx
    obtain ⟨a, u, rfl, h1, h2, h3, vs, rfl, h5⟩ := z
    refine hx _ σ F' H' o'.go.fs (o'.weak le) ⟨a, vs, rfl, none_th o.go.th h1, h2, h3, by simpa using h5.len, fun i p w e1 e2 => ?_⟩
    rw [List.getElem?_map] at e1
    cases ex : x[i]? with
    | none => rw [ex] at e1; cases e1
    | some y =>
      rw [ex] at e1
      obtain rfl := Option.some.inj e1
      obtain ⟨w', e3, z⟩ := h5.get (p := rNw h ρ y) (i := i) (by rw [List.getElem?_map, ex]; rfl)
      rw [e2] at e3
      obtain rfl := Option.some.inj e3
      exact ⟨z.1, fun a vs n e => z.2 a vs (fun y => n (l1 a y).1) e⟩)
end
end RF
namespace DD
open PySem L2
/-! the text by its places -/
def topS (i : Nat) : Stmt := PySem.Challenge.pw_depotday_k17_base_of_a_net.main.body.getD i (.Pass ⟨0, 0, 0, 0⟩)
abbrev sBadNetInit : Stmt := inClass (topS 3) 0
abbrev sUnknownEventInit : Stmt := inClass (topS 6) 0
abbrev sstepends : Stmt := topS 8
abbrev streepath : Stmt := topS 10
abbrev sBaseInit : Stmt := inClass (topS 11) 0
abbrev sBaseLen : Stmt := inClass (topS 11) 1
abbrev sBasePath : Stmt := inClass (topS 11) 2
abbrev sBaseRings : Stmt := inClass (topS 11) 3
abbrev sisspan : Stmt := topS 18
abbrev schecknet : Stmt := topS 19
abbrev sNetInit : Stmt := inClass (topS 20) 0
abbrev sNetEq : Stmt := inClass (topS 20) 1
abbrev sLcell : Stmt := topS 22
abbrev sLpool : Stmt := topS 23
abbrev sLtake : Stmt := topS 24
abbrev sLsame : Stmt := topS 25
abbrev sLlength : Stmt := topS 26
abbrev sLmany : Stmt := topS 27
abbrev sLcount : Stmt := topS 28
abbrev sLanyspans : Stmt := topS 29
abbrev sLtreeway : Stmt := topS 30
abbrev sLtree : Stmt := topS 31
abbrev sLbaserings : Stmt := topS 32
abbrev sLwaytold : Stmt := topS 33
abbrev sLwaydue : Stmt := topS 34
abbrev sLwaysgood : Stmt := topS 35
abbrev sLbasegood : Stmt := topS 36
abbrev sLaw : Stmt := topS 37
/-- what the top has written, as the walks ask for it -/
structure Tx (K : PySem.W.Frag) (mg : Str → Option Value) where
  t_LEAST_ROUND : Tok
  c_LEAST_ROUND : mg "LEAST_ROUND" = some (.int 2 t_LEAST_ROUND)
  t_MOST_ROUND : Tok
  c_MOST_ROUND : mg "MOST_ROUND" = some (.int 60 t_MOST_ROUND)
  t_MOST_EVENTS : Tok
  c_MOST_EVENTS : mg "MOST_EVENTS" = some (.int 12 t_MOST_EVENTS)
  t_MOST_SPANS : Tok
  c_MOST_SPANS : mg "MOST_SPANS" = some (.int 24 t_MOST_SPANS)
  t_MOST_ON_SPAN : Tok
  c_MOST_ON_SPAN : mg "MOST_ON_SPAN" = some (.int 999 t_MOST_ON_SPAN)
  z_ValueError : mg "ValueError" = none
  z_abs : mg "abs" = none
  z_bool : mg "bool" = none
  z_enumerate : mg "enumerate" = none
  z_int : mg "int" = none
  z_isinstance : mg "isinstance" = none
  z_len : mg "len" = none
  z_list : mg "list" = none
  z_max : mg "max" = none
  z_min : mg "min" = none
  z_range : mg "range" = none
  z_str : mg "str" = none
  z_tuple : mg "tuple" = none
  C_Base : Addr
  g_Base : mg "Base" = some (.ref C_Base)
  cl_Base : Cls K C_Base
  na_Base__net : NoAttr K C_Base "_net"
  na_Base_tree : NoAttr K C_Base "tree"
  na_Base_closing : NoAttr K C_Base "closing"
  C_Net : Addr
  g_Net : mg "Net" = some (.ref C_Net)
  cl_Net : Cls K C_Net
  na_Net_round_length : NoAttr K C_Net "round_length"
  na_Net_events : NoAttr K C_Net "events"
  na_Net_spans : NoAttr K C_Net "spans"
  fBadNet_init : Addr
  dBadNet_init : FuncData
  FBadNet_init : Fun K "__init__" "BadNet.__init__" sBadNetInit fBadNet_init dBadNet_init
  bBadNet_init : Binds K dBadNet_init ["self", "part", "place"] []
  fUnknownEvent_init : Addr
  dUnknownEvent_init : FuncData
  FUnknownEvent_init : Fun K "__init__" "UnknownEvent.__init__" sUnknownEventInit fUnknownEvent_init dUnknownEvent_init
  bUnknownEvent_init : Binds K dUnknownEvent_init ["self", "number"] []
  fstep_ends : Addr
  dstep_ends : FuncData
  Fstep_ends : Fun K "step_ends" "step_ends" sstepends fstep_ends dstep_ends
  bstep_ends : Binds K dstep_ends ["net", "step"] []
  gstep_ends : mg "step_ends" = some (.ref fstep_ends)
  ftree_path : Addr
  dtree_path : FuncData
  Ftree_path : Fun K "tree_path" "tree_path" streepath ftree_path dtree_path
  btree_path : Binds K dtree_path ["net", "tree", "first", "second"] []
  gtree_path : mg "tree_path" = some (.ref ftree_path)
  fBase_init : Addr
  dBase_init : FuncData
  FBase_init : Fun K "__init__" "Base.__init__" sBaseInit fBase_init dBase_init
  bBase_init : Binds K dBase_init ["self", "net"] []
  M_Base : Mk K C_Base fBase_init
  fBase_len : Addr
  dBase_len : FuncData
  FBase_len : Fun K "__len__" "Base.__len__" sBaseLen fBase_len dBase_len
  bBase_len : Binds K dBase_len ["self"] []
  m_Base_len : Meth K C_Base "__len__" fBase_len
  fBase_path : Addr
  dBase_path : FuncData
  FBase_path : Fun K "path" "Base.path" sBasePath fBase_path dBase_path
  bBase_path : Binds K dBase_path ["self", "first", "second"] []
  m_Base_path : Meth K C_Base "path" fBase_path
  fBase_rings : Addr
  dBase_rings : FuncData
  FBase_rings : Fun K "rings" "Base.rings" sBaseRings fBase_rings dBase_rings
  bBase_rings : Binds K dBase_rings ["self"] []
  m_Base_rings : Meth K C_Base "rings" fBase_rings
  fis_span : Addr
  dis_span : FuncData
  Fis_span : Fun K "is_span" "is_span" sisspan fis_span dis_span
  bis_span : Binds K dis_span ["span", "round_length", "events"] []
  gis_span : mg "is_span" = some (.ref fis_span)
  fcheck_net : Addr
  dcheck_net : FuncData
  Fcheck_net : Fun K "check_net" "check_net" schecknet fcheck_net dcheck_net
  bcheck_net : Binds K dcheck_net ["round_length", "events", "spans"] []
  gcheck_net : mg "check_net" = some (.ref fcheck_net)
  fNet_init : Addr
  dNet_init : FuncData
  FNet_init : Fun K "__init__" "Net.__init__" sNetInit fNet_init dNet_init
  bNet_init : Binds K dNet_init ["self", "round_length", "events", "spans"] []
  M_Net : Mk K C_Net fNet_init
  fNet_eq : Addr
  dNet_eq : FuncData
  FNet_eq : Fun K "__eq__" "Net.__eq__" sNetEq fNet_eq dNet_eq
  bNet_eq : Binds K dNet_eq ["self", "other"] []
  m_Net_eq : Meth K C_Net "__eq__" fNet_eq
  f_law_cell : Addr
  d_law_cell : FuncData
  F_law_cell : Fun K "_law_cell" "_law_cell" sLcell f_law_cell d_law_cell
  b_law_cell : Binds K d_law_cell ["_law_script", "_law_k"] []
  g_law_cell : mg "_law_cell" = some (.ref f_law_cell)
  f_law_pool : Addr
  d_law_pool : FuncData
  F_law_pool : Fun K "_law_pool" "_law_pool" sLpool f_law_pool d_law_pool
  b_law_pool : Binds K d_law_pool ["_law_script", "_law_k"] []
  g_law_pool : mg "_law_pool" = some (.ref f_law_pool)
  f_law_take : Addr
  d_law_take : FuncData
  F_law_take : Fun K "_law_take" "_law_take" sLtake f_law_take d_law_take
  b_law_take : Binds K d_law_take ["_law_pool_here", "_law_many_here"] []
  g_law_take : mg "_law_take" = some (.ref f_law_take)
  f_law_same : Addr
  d_law_same : FuncData
  F_law_same : Fun K "_law_same" "_law_same" sLsame f_law_same d_law_same
  b_law_same : Binds K d_law_same ["_law_got", "_law_due"] []
  g_law_same : mg "_law_same" = some (.ref f_law_same)
  f_law_length : Addr
  d_law_length : FuncData
  F_law_length : Fun K "_law_length" "_law_length" sLlength f_law_length d_law_length
  b_law_length : Binds K d_law_length ["_law_pool_here"] []
  g_law_length : mg "_law_length" = some (.ref f_law_length)
  f_law_many : Addr
  d_law_many : FuncData
  F_law_many : Fun K "_law_many" "_law_many" sLmany f_law_many d_law_many
  b_law_many : Binds K d_law_many ["_law_pool_here"] []
  g_law_many : mg "_law_many" = some (.ref f_law_many)
  f_law_count : Addr
  d_law_count : FuncData
  F_law_count : Fun K "_law_count" "_law_count" sLcount f_law_count d_law_count
  b_law_count : Binds K d_law_count ["_law_pool_here", "_law_many_here"] []
  g_law_count : mg "_law_count" = some (.ref f_law_count)
  f_law_any_spans : Addr
  d_law_any_spans : FuncData
  F_law_any_spans : Fun K "_law_any_spans" "_law_any_spans" sLanyspans f_law_any_spans d_law_any_spans
  b_law_any_spans : Binds K d_law_any_spans ["_law_pool_here", "_law_length_here", "_law_many_here", "_law_count_here"] []
  g_law_any_spans : mg "_law_any_spans" = some (.ref f_law_any_spans)
  f_law_tree_way : Addr
  d_law_tree_way : FuncData
  F_law_tree_way : Fun K "_law_tree_way" "_law_tree_way" sLtreeway f_law_tree_way d_law_tree_way
  b_law_tree_way : Binds K d_law_tree_way ["_law_many_here", "_law_spans", "_law_tree_here", "_law_first", "_law_second"] []
  g_law_tree_way : mg "_law_tree_way" = some (.ref f_law_tree_way)
  f_law_tree : Addr
  d_law_tree : FuncData
  F_law_tree : Fun K "_law_tree" "_law_tree" sLtree f_law_tree d_law_tree
  b_law_tree : Binds K d_law_tree ["_law_many_here", "_law_spans"] []
  g_law_tree : mg "_law_tree" = some (.ref f_law_tree)
  f_law_base_rings : Addr
  d_law_base_rings : FuncData
  F_law_base_rings : Fun K "_law_base_rings" "_law_base_rings" sLbaserings f_law_base_rings d_law_base_rings
  b_law_base_rings : Binds K d_law_base_rings ["_law_many_here", "_law_spans"] []
  g_law_base_rings : mg "_law_base_rings" = some (.ref f_law_base_rings)
  f_law_way_told : Addr
  d_law_way_told : FuncData
  F_law_way_told : Fun K "_law_way_told" "_law_way_told" sLwaytold f_law_way_told d_law_way_told
  b_law_way_told : Binds K d_law_way_told ["_law_base", "_law_first", "_law_second"] []
  g_law_way_told : mg "_law_way_told" = some (.ref f_law_way_told)
  f_law_way_due : Addr
  d_law_way_due : FuncData
  F_law_way_due : Fun K "_law_way_due" "_law_way_due" sLwaydue f_law_way_due d_law_way_due
  b_law_way_due : Binds K d_law_way_due ["_law_many_here", "_law_spans", "_law_tree_here", "_law_first", "_law_second"] []
  g_law_way_due : mg "_law_way_due" = some (.ref f_law_way_due)
  f_law_ways_good : Addr
  d_law_ways_good : FuncData
  F_law_ways_good : Fun K "_law_ways_good" "_law_ways_good" sLwaysgood f_law_ways_good d_law_ways_good
  b_law_ways_good : Binds K d_law_ways_good ["_law_base", "_law_many_here", "_law_spans", "_law_tree_here", "_law_pairs"] []
  g_law_ways_good : mg "_law_ways_good" = some (.ref f_law_ways_good)
  f_law_base_good : Addr
  d_law_base_good : FuncData
  F_law_base_good : Fun K "_law_base_good" "_law_base_good" sLbasegood f_law_base_good d_law_base_good
  b_law_base_good : Binds K d_law_base_good ["_law_base", "_law_many_here", "_law_spans", "_law_tree_here", "_law_rings"] []
  g_law_base_good : mg "_law_base_good" = some (.ref f_law_base_good)
  flaw : Addr
  dlaw : FuncData
  Flaw : Fun K "law" "law" sLaw flaw dlaw
  blaw : Binds K dlaw ["_law_script"] []
  glaw : mg "law" = some (.ref flaw)
  C_DepotError : Addr
  g_DepotError : mg "DepotError" = some (.ref C_DepotError)
  C_BadNet : Addr
  g_BadNet : mg "BadNet" = some (.ref C_BadNet)
  C_BadPath : Addr
  g_BadPath : mg "BadPath" = some (.ref C_BadPath)
  C_UnknownSpan : Addr
  g_UnknownSpan : mg "UnknownSpan" = some (.ref C_UnknownSpan)
  C_UnknownEvent : Addr
  g_UnknownEvent : mg "UnknownEvent" = some (.ref C_UnknownEvent)
  ty_DepotError : PySem.W.typeIn K (.ref C_DepotError) = some (.type "type")
  bs_DepotError : PySem.W.subIn K (.ref C_DepotError) (.type "BaseException") = some true
  hd_DepotError : PySem.W.hasDictIn K C_DepotError = true
  ty_BadNet : PySem.W.typeIn K (.ref C_BadNet) = some (.type "type")
  bs_BadNet : PySem.W.subIn K (.ref C_BadNet) (.type "BaseException") = some true
  hd_BadNet : PySem.W.hasDictIn K C_BadNet = true
  ty_BadPath : PySem.W.typeIn K (.ref C_BadPath) = some (.type "type")
  bs_BadPath : PySem.W.subIn K (.ref C_BadPath) (.type "BaseException") = some true
  hd_BadPath : PySem.W.hasDictIn K C_BadPath = true
  ty_UnknownSpan : PySem.W.typeIn K (.ref C_UnknownSpan) = some (.type "type")
  bs_UnknownSpan : PySem.W.subIn K (.ref C_UnknownSpan) (.type "BaseException") = some true
  hd_UnknownSpan : PySem.W.hasDictIn K C_UnknownSpan = true
  ty_UnknownEvent : PySem.W.typeIn K (.ref C_UnknownEvent) = some (.type "type")
  bs_UnknownEvent : PySem.W.subIn K (.ref C_UnknownEvent) (.type "BaseException") = some true
  hd_UnknownEvent : PySem.W.hasDictIn K C_UnknownEvent = true
  kp_BadNet : PySem.W.keepIn K (.ref C_BadNet) = true
  ga_BadNet : PySem.W.findIn K (.ref C_BadNet) "__getattribute__" = some (some (.builtin "BaseException.__getattribute__"))
  gg_BadNet : PySem.W.findIn K (.ref C_BadNet) "__getattr__" = some none
  cl_BadNet : PySem.W.findIn K (.ref C_BadNet) "__class__" = some (some (.builtin "object.__class__"))
  mr_BadNet : PySem.W.mroIn K C_BadNet (.type "object") = some true
  sb_BadNet_ValueError : PySem.W.subIn K (.ref C_BadNet) (.type "ValueError") = some true
  sb_BadNet_BadPath : PySem.W.subIn K (.ref C_BadNet) (.ref C_BadPath) = some false
  sb_BadNet_DepotError : PySem.W.subIn K (.ref C_BadNet) (.ref C_DepotError) = some true
  sb_BadNet_UnknownEvent : PySem.W.subIn K (.ref C_BadNet) (.ref C_UnknownEvent) = some false
  sb_BadNet_UnknownSpan : PySem.W.subIn K (.ref C_BadNet) (.ref C_UnknownSpan) = some false
  no_BadNet_part : PySem.W.findIn K (.ref C_BadNet) "part" = some none
  no_BadNet_place : PySem.W.findIn K (.ref C_BadNet) "place" = some none
  sa_BadNet : PySem.W.findIn K (.ref C_BadNet) "__setattr__" = some (some (.builtin "object.__setattr__"))
  kp_UnknownEvent : PySem.W.keepIn K (.ref C_UnknownEvent) = true
  ga_UnknownEvent : PySem.W.findIn K (.ref C_UnknownEvent) "__getattribute__" = some (some (.builtin "BaseException.__getattribute__"))
  gg_UnknownEvent : PySem.W.findIn K (.ref C_UnknownEvent) "__getattr__" = some none
  cl_UnknownEvent : PySem.W.findIn K (.ref C_UnknownEvent) "__class__" = some (some (.builtin "object.__class__"))
  mr_UnknownEvent : PySem.W.mroIn K C_UnknownEvent (.type "object") = some true
  sb_UnknownEvent_ValueError : PySem.W.subIn K (.ref C_UnknownEvent) (.type "ValueError") = some true
  sb_UnknownEvent_BadPath : PySem.W.subIn K (.ref C_UnknownEvent) (.ref C_BadPath) = some false
  sb_UnknownEvent_DepotError : PySem.W.subIn K (.ref C_UnknownEvent) (.ref C_DepotError) = some true
  sb_UnknownEvent_UnknownEvent : PySem.W.subIn K (.ref C_UnknownEvent) (.ref C_UnknownEvent) = some true
  sb_UnknownEvent_UnknownSpan : PySem.W.subIn K (.ref C_UnknownEvent) (.ref C_UnknownSpan) = some false
  no_UnknownEvent_number : PySem.W.findIn K (.ref C_UnknownEvent) "number" = some none
  sa_UnknownEvent : PySem.W.findIn K (.ref C_UnknownEvent) "__setattr__" = some (some (.builtin "object.__setattr__"))
  sp_class : PySem.W.specialIn K (.builtin "object.__class__") "__get__" = some (some (.builtin "getset_descriptor.__get__"))
  tk_class : PySem.W.takesIn K (.builtin "object.__class__") = some true
  ic_Net : PySem.W.findIn K (.ref C_Net) "__class__" = some (some (.builtin "object.__class__"))
  mr_Net : PySem.W.mroIn K C_Net (.type "object") = some true
  ity_Net : PySem.W.typeIn K (.ref C_Net) = some (.type "type")
  isb_Net : PySem.W.subIn K (.ref C_Net) (.ref C_Net) = some true
  ihd_Net : PySem.W.hasDictIn K C_Net = true
  ox_BadNet : OexC K C_BadNet
  ni_BadNet : PySem.W.findIn K (.ref C_BadNet) "__init__" = some (some (.ref fBadNet_init))
  ti_BadNet : PySem.W.typeIn K (.ref fBadNet_init) = some (.type "function")
  ox_UnknownEvent : OexC K C_UnknownEvent
  ni_UnknownEvent : PySem.W.findIn K (.ref C_UnknownEvent) "__init__" = some (some (.ref fUnknownEvent_init))
  ti_UnknownEvent : PySem.W.typeIn K (.ref fUnknownEvent_init) = some (.type "function")
end DD
namespace DD
open PySem PySem.Spec PyProof.Rows L2 KO SX RF
section
variable {P : Program} {w : World} {K : PySem.W.Frag} {mg : Str → Option Value} {base : Heap}
/-! ### cell, pool, take -/
def spCell (K : PySem.W.Frag) : Sp := fun vs H Q _ => ∃ (a : Addr) (ns : List Int) (k : Nat), vs = [.ref a, .int k] ∧ SqL K H a (ns.map V.int) ∧ ∀ i : Int, Q (.int i) H
theorem scCell : FnScope ["_law_script", "_law_k"] ["_law_script", "_law_k"] (defScope sLcell) := ⟨rfl, rfl, rfl, by decide +kernel, rfl, by decide +kernel, by decide +kernel⟩
theorem ok_cell (T : Tx K mg) : FnOk P w K mg base CX0 1 T.f_law_cell T.d_law_cell ["_law_script", "_law_k"] (spCell K) := by
  refine T.F_law_cell.ok scCell (fun vs H Q E h => ?_) (fun cdv A outer s H vs Q E hr h => ?_)
  · obtain ⟨a, ns, k, rfl, _⟩ := h
    rfl
  · obtain ⟨a, ns, k, rfl, hS, q⟩ := h
    refine ⟨_, pss_cons (ps_if (pt_cmpR op_lt (pv 1) (pe_callB call_len_seq (by rfl) T.z_len (by decide +kernel) (pa_cons (pv 0) pa_nil)) (nomark _)) (pss_one (ps_ret (pe_callB call_abs (by rfl) T.z_abs (by decide +kernel) (pa_cons (pe_ix ix_list (pv 0) (pv 1) (fun _ _ => rfl)) pa_nil)))) (pss_nil))
      (pss_one (ps_ret pe_int)), ?_⟩
    refine ⟨_, rfl, _, rfl, a, _, rfl, .inl hS, _, _, rfl, rfl, _, rfl, iteDs (fun h => ?_) (fun _ => q _)⟩
    have hk : k < ns.length := by
      rw [List.length_map] at h
      omega
    refine ⟨_, rfl, _, rfl, a, _, _, .int ns[k], rfl, rfl, hS, atI_nat (by rw [List.getElem?_map, List.getElem?_eq_getElem hk]; rfl), _, rfl, q _⟩
theorem scPool : FnScope ["_law_script", "_law_k", "_law_cell_here"] ["_law_script", "_law_k"] (defScope sLpool) := ⟨rfl, rfl, rfl, by decide +kernel, rfl, by decide +kernel, by decide +kernel⟩
theorem ok_pool (T : Tx K mg) : FnOk P w K mg base CX0 2 T.f_law_pool T.d_law_pool ["_law_script", "_law_k"] (spPool K) := by
  have G_law_cell := ok_cell (P := P) (w := w) (base := base) T
  refine T.F_law_pool.ok scPool (fun vs H Q E h => ?_) (fun cdv A outer s H vs Q E hr h => ?_)
  · obtain ⟨a, ns, k, rfl, _⟩ := h
    rfl
  · obtain ⟨a, ns, k, rfl, hS, hk, q⟩ := h
    refine ⟨_, pss_cons (ps_set (i := 2) scPool.nd rfl (.inl rfl) (pe_call G_law_cell hr (by rfl) T.g_law_cell T.F_law_cell.kp T.b_law_cell .nil pass0 (pa_cons (pv 0) (pa_cons (pv 1) pa_nil))))
      (pss_one (ps_ret (pe_lst (pa_cons (pv 2) (pa_cons (pe_callTy call_int1 (by rfl) T.z_int (by decide +kernel) (pa_cons (pe_cmpR op_ge (pv 2) (pe_op op_pow pe_int pe_int) (nomark _)) pa_nil)) (pa_cons (pe_op op_mul pe_int (pv 1)) pa_nil)))))), ?_⟩
    refine ⟨_, rfl, _, rfl, a, ns, k, rfl, hS, fun i => ?_⟩
    refine ⟨_, rfl, _, rfl, _, _, rfl, rfl, ⟨by decide, by decide, by decide⟩, _, _, rfl, rfl, .inr ⟨_, rfl, _, rfl, _, _, rfl, rfl, .inl ⟨by decide, by decide⟩, (by show 3 ≤ sizeLine; decide), fun p hp => ?_⟩⟩
    exact q _ p hp (same_upd hp) ⟨_, _, _, upd_same⟩
theorem scTake : FnScope ["_law_pool_here", "_law_many_here", "_law_drawn", "_law_mixed"] ["_law_pool_here", "_law_many_here"] (defScope sLtake) := ⟨rfl, rfl, rfl, by decide +kernel, rfl, by decide +kernel, by decide +kernel⟩
theorem mulOk {i j : Int} (h : 0 ≤ j) (h2 : j < 1000000) : CMul i j := .inr ⟨by omega, by omega⟩
/-- a remainder as a letter -/
theorem rmod {i j : Int} {R : Int → Prop} (hj : 0 < j) (q : ∀ r : Int, 0 ≤ r → r < j → R r) : ∃ r : Int, i % j = r ∧ 0 ≤ r ∧ r < j ∧ R r :=
  ⟨i % j, rfl, Int.emod_nonneg _ (by omega), Int.emod_lt_of_pos _ hj, q _ (Int.emod_nonneg _ (by omega)) (Int.emod_lt_of_pos _ hj)⟩
theorem emod_b (i : Int) {j : Int} (hj : 0 < j) : 0 ≤ i % j ∧ i % j < j := ⟨Int.emod_nonneg _ (by omega), Int.emod_lt_of_pos _ hj⟩
theorem ok_take (T : Tx K mg) : FnOk P w K mg base CX0 1 T.f_law_take T.d_law_take ["_law_pool_here", "_law_many_here"] spTake := by
  refine T.F_law_take.ok scTake (fun vs H Q E h => ?_) (fun cdv A outer s H vs Q E hr h => ?_)
  · obtain ⟨p, m, rfl, _⟩ := h
    rfl
  · obtain ⟨p, m, rfl, ⟨x, f, c, hp⟩, hm, hm2, q⟩ := h
    refine ⟨_, pss_cons (ps_if (PW.pt (pw_and (pt_cmpR op_eq (pe_ix ix_list (pv 0) pe_int (fun _ _ => rfl)) pe_int (nomark _)) (pw_and1 (pt_cmpR op_gt (pe_ix ix_list (pv 0) pe_int (fun _ _ => rfl)) pe_int (nomark _))))) (pss_cons (ps_set (i := 2) scTake.nd rfl (.inl rfl) (pe_op op_mod (pe_callTy call_int1 (by rfl) T.z_int (by decide +kernel) (pa_cons (pe_ix ix_list (pv 0) pe_int (fun _ _ => rfl)) pa_nil)) (pv 1)))
      (pss_cons (ps_asg (pe_op op_fdivW (pe_ix ix_list (pv 0) pe_int (fun _ _ => rfl)) (pv 1)) (pg_sub (pv 0) pe_int set_list))
      (pss_one (ps_ret (pv 2))))) (pss_nil))
      (pss_cons (ps_asg (pe_op op_add (pe_ix ix_list (pv 0) pe_int (fun _ _ => rfl)) pe_int) (pg_sub (pv 0) pe_int set_list))
      (pss_cons (ps_set (i := 3) scTake.nd rfl (.inl rfl) (pe_op op_mod (pe_callTy call_int1 (by rfl) T.z_int (by decide +kernel) (pa_cons (pe_op op_add (pe_op op_mul (pe_op op_add (pe_ix ix_list (pv 0) pe_int (fun _ _ => rfl)) pe_int) pe_int) (pe_op op_mul (pe_ix ix_list (pv 0) pe_int (fun _ _ => rfl)) pe_int)) pa_nil)) pe_int))
      (pss_cons (ps_set (i := 3) scTake.nd rfl (.inl rfl) (pe_op op_mod (pe_callTy call_int1 (by rfl) T.z_int (by decide +kernel) (pa_cons (pe_op op_add (pe_op op_mul (pv 3) pe_int) (pe_op op_mul (pe_ix ix_list (pv 0) pe_int (fun _ _ => rfl)) pe_int)) pa_nil)) pe_int))
      (pss_cons (ps_if (pt_cmpR op_gt (pe_ix ix_list (pv 0) pe_int (fun _ _ => rfl)) pe_int (nomark _)) (pss_one (ps_set (i := 3) scTake.nd rfl (.inl rfl) (pe_op op_mod (pe_callTy call_int1 (by rfl) T.z_int (by decide +kernel) (pa_cons (pe_op op_mul (pe_op op_fdiv (pv 3) pe_int) (pe_op op_add (pe_op op_add (pe_op op_fdiv (pv 3) pe_int) (pe_ix ix_list (pv 0) pe_int (fun _ _ => rfl))) pe_int)) pa_nil)) pe_int))) (pss_nil))
      (pss_one (ps_ret (pe_op op_mod (pe_callTy call_int1 (by rfl) T.z_int (by decide +kernel) (pa_cons (pe_op op_fdiv (pv 3) pe_int) pa_nil)) (pv 1)))))))), ?_⟩
    have hL := SqL.of (K := K) hp
    -- pool[1] == 1 and pool[0] > 1
    refine ⟨_, rfl, p, _, _, _, rfl, rfl, hL, rfl, rfl, _, rfl, ?_⟩
    refine iteDs (fun h1 => ⟨_, rfl, p, _, _, _, rfl, rfl, hL, rfl, _, _, rfl, rfl, _, rfl, iteDs (fun h2 => ?c) (fun _ => ?t1)⟩) (fun _ => ?t2)
    case c =>
      refine ⟨_, rfl, p, _, _, _, rfl, rfl, hL, rfl, .inl ⟨_, rfl, _, rfl, _, _, rfl, rfl, hm, ?_⟩⟩
      have hb := emod_b x hm
      refine ⟨_, rfl, p, _, _, _, rfl, rfl, hL, rfl, _, rfl, _, _, rfl, rfl, wide_div (b := 60) hm (by omega) (by decide) (by decide), _, rfl, p, _, _, _, rfl, rfl, hp, rfl, ?_⟩
      exact ⟨_, rfl, q _ _ hb.1 hb.2 ⟨But.put, _, _, _, upd_same⟩⟩
    all_goals
      refine ⟨_, rfl, p, _, _, _, rfl, rfl, hL, rfl, _, _, rfl, rfl, _, rfl, p, _, _, _, rfl, rfl, hp, rfl, ?_⟩
      have hp1 : (upd H p (.lst (([.int x, .int f, .int c] : List V).set 2 (.int (c + 1))))) p = some (.lst [.int x, .int f, .int (c + 1)]) := upd_same
      have hL1 := SqL.of (K := K) hp1
      refine ⟨_, rfl, p, _, _, _, rfl, rfl, hL1, rfl, _, _, rfl, rfl, _, _, rfl, rfl, mulOk (by decide) (by decide), _, rfl, p, _, _, _, rfl, rfl, hL1, rfl, _, _, rfl, rfl, mulOk (by decide) (by decide), _, _, rfl, rfl, .inl ⟨_, rfl, _, _, rfl, rfl, (show (0 : Int) < 2147483629 by decide), ?_⟩⟩
      refine ⟨_, rfl, _, _, rfl, rfl, mulOk (by decide) (by decide), _, rfl, p, _, _, _, rfl, rfl, hL1, rfl, _, _, rfl, rfl, mulOk (by decide) (by decide), _, _, rfl, rfl, .inl ⟨_, rfl, _, _, rfl, rfl, (show (0 : Int) < 2147483587 by decide), ?_⟩⟩
      refine ⟨_, rfl, p, _, _, _, rfl, rfl, hL1, rfl, _, _, rfl, rfl, _, rfl, iteDs (fun _ => ?_) (fun _ => ?_)⟩
      · refine ⟨_, rfl, _, _, rfl, rfl, ⟨by decide, by decide⟩, _, rfl, _, _, rfl, rfl, ⟨by decide, by decide⟩, _, rfl, p, _, _, _, rfl, rfl, hL1, rfl, _, _, rfl, rfl, _, _, rfl, rfl, _, _, rfl, rfl, .inl ⟨by omega, by omega⟩, .inl ⟨_, rfl, _, _, rfl, rfl, (show (0 : Int) < 2147483563 by decide), ?_⟩⟩
        refine ⟨_, rfl, _, _, rfl, rfl, ⟨by decide, by decide⟩, .inl ⟨_, rfl, _, rfl, _, _, rfl, rfl, hm, ?_⟩⟩
        exact q _ _ (emod_b _ hm).1 (emod_b _ hm).2 ⟨But.put, _, _, _, hp1⟩
      · refine ⟨_, rfl, _, _, rfl, rfl, ⟨by decide, by decide⟩, .inl ⟨_, rfl, _, rfl, _, _, rfl, rfl, hm, ?_⟩⟩
        exact q _ _ (emod_b _ hm).1 (emod_b _ hm).2 ⟨But.put, _, _, _, hp1⟩
end
end DD
namespace DD
open PySem PySem.Spec PyProof.Rows L2 KO SX RF
section
variable {P : Program} {w : World} {K : PySem.W.Frag} {mg : Str → Option Value} {base : Heap}
def spSame (n : Nat) : Sp := fun vs H Q _ => ∃ (u v : V) (d : PyData), vs = [u, v] ∧ Dt n H u d ∧ Dt n H v d ∧ Q (.bl true) H
theorem scSame : FnScope ["_law_got", "_law_due", "_law_k"] ["_law_got", "_law_due"] (defScope sLsame) := ⟨rfl, rfl, rfl, by decide +kernel, rfl, by decide +kernel, by decide +kernel⟩
theorem ok_same (T : Tx K mg) : ∀ n : Nat, FnOk P w K mg base CX0 n T.f_law_same T.d_law_same ["_law_got", "_law_due"] (spSame n)
  | 0 => ⟨fun vs H Q E ⟨u, v, d, _, h, _⟩ => h.elim, fun A outer s H args us vs Q E _ _ _ _ ⟨u, v, d, _, h, _⟩ => h.elim⟩
  | n + 1 => by
    have G_law_same := ok_same T n
    refine T.F_law_same.ok scSame (fun vs H Q E h => ?_) (fun cdv A outer s H vs Q E hr h => ?_)
    · obtain ⟨u, v, d, rfl, _⟩ := h
      rfl
    · obtain ⟨u, v, d, rfl, hR, hR2, q⟩ := h
      cases d with
      | dict kv => exact hR.elim
      | bool i =>
        obtain rfl : u = _ := hR
        obtain rfl : v = _ := hR2
        refine ⟨_, pss_cons (ps_if (PW.pt (pw_or (pt_val (pe_callB call_isi (by rfl) T.z_isinstance (by decide +kernel) (pa_cons (pv 0) (pa_cons (pe_bltn (v := .ty "bool") (by rfl) T.z_bool (by decide +kernel) rfl) pa_nil)))) (pw_or1 (pt_val (pe_callB call_isi (by rfl) T.z_isinstance (by decide +kernel) (pa_cons (pv 1) (pa_cons (pe_bltn (v := .ty "bool") (by rfl) T.z_bool (by decide +kernel) rfl) pa_nil))))))) (pss_one (ps_ret (pe_and (pe_callB call_isi (by rfl) T.z_isinstance (by decide +kernel) (pa_cons (pv 0) (pa_cons (pe_bltn (v := .ty "bool") (by rfl) T.z_bool (by decide +kernel) rfl) pa_nil))) (pe_and (pe_callB call_isi (by rfl) T.z_isinstance (by decide +kernel) (pa_cons (pv 1) (pa_cons (pe_bltn (v := .ty "bool") (by rfl) T.z_bool (by decide +kernel) rfl) pa_nil))) (pe_one (pe_cmpR op_eq (pv 0) (pv 1) (nomark _))))))) (pss_nil)) (pss_cons ps_never (pss_cons ps_never (pss_cons ps_never (pss_cons ps_never (pss_cons ps_never (pss_cons ps_never (pss_cons ps_never (pss_one ps_never)))))))), ?_⟩
        refine ⟨_, rfl, _, _, _, _, _, rfl, .ty _, (.base (.bl i)), kit_ty (by decide +kernel), ⟨_, rfl, iteT (iteT ?_)⟩⟩
        refine ⟨_, rfl, _, _, _, _, _, rfl, .ty _, (.base (.bl i)), kit_ty (by decide +kernel), ⟨_, rfl, iteT ⟨_, rfl, _, _, _, _, _, rfl, .ty _, (.base (.bl i)), kit_ty (by decide +kernel), ⟨_, rfl, iteT ⟨_, rfl, _, rfl, rfl, ?_⟩⟩⟩⟩⟩
        rw [decide_eq_true rfl]
        exact q
      | none =>
        obtain rfl : u = _ := hR
        obtain rfl : v = _ := hR2
        refine ⟨_, pss_cons (ps_if (PW.pt (pw_or (pt_val (pe_callB call_isi (by rfl) T.z_isinstance (by decide +kernel) (pa_cons (pv 0) (pa_cons (pe_bltn (v := .ty "bool") (by rfl) T.z_bool (by decide +kernel) rfl) pa_nil)))) (pw_or1 (pt_val (pe_callB call_isi (by rfl) T.z_isinstance (by decide +kernel) (pa_cons (pv 1) (pa_cons (pe_bltn (v := .ty "bool") (by rfl) T.z_bool (by decide +kernel) rfl) pa_nil))))))) (pss_one ps_never) (pss_nil))
          (pss_cons (ps_if (PW.pt (pw_or (pt_cmpR op_isN (pv 0) pe_non (nomark _)) (pw_or1 (pt_cmpR op_isN (pv 1) pe_non (nomark _))))) (pss_one (ps_ret (pe_and (pe_cmpR op_isN (pv 0) pe_non (nomark _)) (pe_one (pe_cmpR op_isN (pv 1) pe_non (nomark _)))))) (pss_nil)) (pss_cons ps_never (pss_cons ps_never (pss_cons ps_never (pss_cons ps_never (pss_cons ps_never (pss_cons ps_never (pss_one ps_never)))))))), ?_⟩
        refine ⟨_, rfl, _, _, _, _, _, rfl, .ty _, (.base .non), kit_ty (by decide +kernel), ⟨_, rfl, iteF ⟨_, rfl, _, _, _, _, _, rfl, .ty _, (.base .non), kit_ty (by decide +kernel), ⟨_, rfl, iteF ?_⟩⟩⟩⟩
        refine ⟨_, rfl, rfl, _, rfl, iteDT rfl (iteT ?_)⟩
        refine ⟨_, rfl, rfl, _, rfl, iteDT rfl ?_⟩
        refine ⟨_, rfl, rfl, ?_⟩
        rw [decide_eq_true rfl]
        exact q
      | str i =>
        obtain rfl : u = _ := hR
        obtain rfl : v = _ := hR2
        refine ⟨_, pss_cons (ps_if (PW.pt (pw_or (pt_val (pe_callB call_isi (by rfl) T.z_isinstance (by decide +kernel) (pa_cons (pv 0) (pa_cons (pe_bltn (v := .ty "bool") (by rfl) T.z_bool (by decide +kernel) rfl) pa_nil)))) (pw_or1 (pt_val (pe_callB call_isi (by rfl) T.z_isinstance (by decide +kernel) (pa_cons (pv 1) (pa_cons (pe_bltn (v := .ty "bool") (by rfl) T.z_bool (by decide +kernel) rfl) pa_nil))))))) (pss_one ps_never) (pss_nil))
          (pss_cons (ps_if (PW.pt (pw_or (pt_cmpR op_isN (pv 0) pe_non (nomark _)) (pw_or1 (pt_cmpR op_isN (pv 1) pe_non (nomark _))))) (pss_one ps_never) (pss_nil))
          (pss_cons (ps_if (pt_val (pe_callB call_isi (by rfl) T.z_isinstance (by decide +kernel) (pa_cons (pv 1) (pa_cons (pe_bltn (v := .ty "int") (by rfl) T.z_int (by decide +kernel) rfl) pa_nil)))) (pss_one ps_never) (pss_nil))
          (pss_cons (ps_if (pt_val (pe_callB call_isi (by rfl) T.z_isinstance (by decide +kernel) (pa_cons (pv 1) (pa_cons (pe_bltn (v := .ty "str") (by rfl) T.z_str (by decide +kernel) rfl) pa_nil)))) (pss_one (ps_ret (pe_and (pe_callB call_isi (by rfl) T.z_isinstance (by decide +kernel) (pa_cons (pv 0) (pa_cons (pe_bltn (v := .ty "str") (by rfl) T.z_str (by decide +kernel) rfl) pa_nil))) (pe_one (pe_cmpR op_eq (pv 0) (pv 1) (nomark _)))))) (pss_nil)) (pss_cons ps_never (pss_cons ps_never (pss_cons ps_never (pss_cons ps_never (pss_one ps_never)))))))), ?_⟩
        refine ⟨_, rfl, _, _, _, _, _, rfl, .ty _, (.base (.str i)), kit_ty (by decide +kernel), ⟨_, rfl, iteF ⟨_, rfl, _, _, _, _, _, rfl, .ty _, (.base (.str i)), kit_ty (by decide +kernel), ⟨_, rfl, iteF ?_⟩⟩⟩⟩
        refine ⟨_, rfl, rfl, _, rfl, iteD (by intro z; cases z) ⟨_, rfl, rfl, _, rfl, iteD (by intro z; cases z) ?_⟩⟩
        refine ⟨_, rfl, _, _, _, _, _, rfl, .ty _, (.base (.str i)), kit_ty (by decide +kernel), ⟨_, rfl, iteF ?_⟩⟩
        refine ⟨_, rfl, _, _, _, _, _, rfl, .ty _, (.base (.str i)), kit_ty (by decide +kernel), ⟨_, rfl, iteT ⟨_, rfl, _, _, _, _, _, rfl, .ty _, (.base (.str i)), kit_ty (by decide +kernel), ⟨_, rfl, iteT ⟨_, rfl, _, rfl, rfl, ?_⟩⟩⟩⟩⟩
        rw [decide_eq_true rfl]
        exact q
      | int i =>
        obtain rfl : u = _ := hR
        obtain rfl : v = _ := hR2
        refine ⟨_, pss_cons (ps_if (PW.pt (pw_or (pt_val (pe_callB call_isi (by rfl) T.z_isinstance (by decide +kernel) (pa_cons (pv 0) (pa_cons (pe_bltn (v := .ty "bool") (by rfl) T.z_bool (by decide +kernel) rfl) pa_nil)))) (pw_or1 (pt_val (pe_callB call_isi (by rfl) T.z_isinstance (by decide +kernel) (pa_cons (pv 1) (pa_cons (pe_bltn (v := .ty "bool") (by rfl) T.z_bool (by decide +kernel) rfl) pa_nil))))))) (pss_one ps_never) (pss_nil))
          (pss_cons (ps_if (PW.pt (pw_or (pt_cmpR op_isN (pv 0) pe_non (nomark _)) (pw_or1 (pt_cmpR op_isN (pv 1) pe_non (nomark _))))) (pss_one ps_never) (pss_nil))
          (pss_cons (ps_if (pt_val (pe_callB call_isi (by rfl) T.z_isinstance (by decide +kernel) (pa_cons (pv 1) (pa_cons (pe_bltn (v := .ty "int") (by rfl) T.z_int (by decide +kernel) rfl) pa_nil)))) (pss_one (ps_ret (pe_and (pe_callB call_isi (by rfl) T.z_isinstance (by decide +kernel) (pa_cons (pv 0) (pa_cons (pe_bltn (v := .ty "int") (by rfl) T.z_int (by decide +kernel) rfl) pa_nil))) (pe_one (pe_cmpR op_eq (pv 0) (pv 1) (nomark _)))))) (pss_nil))
          (pss_cons ps_never (pss_cons ps_never (pss_cons ps_never (pss_cons ps_never (pss_cons ps_never (pss_one ps_never)))))))), ?_⟩
        refine ⟨_, rfl, _, _, _, _, _, rfl, .ty _, (.base (.int i)), kit_ty (by decide +kernel), ⟨_, rfl, iteF ⟨_, rfl, _, _, _, _, _, rfl, .ty _, (.base (.int i)), kit_ty (by decide +kernel), ⟨_, rfl, iteF ?_⟩⟩⟩⟩
        refine ⟨_, rfl, rfl, _, rfl, iteD (by intro z; cases z) ⟨_, rfl, rfl, _, rfl, iteD (by intro z; cases z) ?_⟩⟩
        refine ⟨_, rfl, _, _, _, _, _, rfl, .ty _, (.base (.int i)), kit_ty (by decide +kernel), ⟨_, rfl, iteT ⟨_, rfl, _, _, _, _, _, rfl, .ty _, (.base (.int i)), kit_ty (by decide +kernel), ⟨_, rfl, iteT ⟨_, rfl, _, rfl, rfl, ?_⟩⟩⟩⟩⟩
        rw [decide_eq_true rfl]
        exact q
      | list ds =>
        obtain ⟨a, xs, rfl, h1, hl1, hz, r1⟩ := hR
        obtain ⟨b, ys, rfl, h2, hl2, _, r2⟩ := hR2
        refine ⟨_, pss_cons (ps_if (PW.pt (pw_or (pt_val (pe_callB call_isi (by rfl) T.z_isinstance (by decide +kernel) (pa_cons (pv 0) (pa_cons (pe_bltn (v := .ty "bool") (by rfl) T.z_bool (by decide +kernel) rfl) pa_nil)))) (pw_or1 (pt_val (pe_callB call_isi (by rfl) T.z_isinstance (by decide +kernel) (pa_cons (pv 1) (pa_cons (pe_bltn (v := .ty "bool") (by rfl) T.z_bool (by decide +kernel) rfl) pa_nil))))))) (pss_one ps_never) (pss_nil))
          (pss_cons (ps_if (PW.pt (pw_or (pt_cmpR op_isN (pv 0) pe_non (nomark _)) (pw_or1 (pt_cmpR op_isN (pv 1) pe_non (nomark _))))) (pss_one ps_never) (pss_nil))
          (pss_cons (ps_if (pt_val (pe_callB call_isi (by rfl) T.z_isinstance (by decide +kernel) (pa_cons (pv 1) (pa_cons (pe_bltn (v := .ty "int") (by rfl) T.z_int (by decide +kernel) rfl) pa_nil)))) (pss_one ps_never) (pss_nil))
          (pss_cons (ps_if (pt_val (pe_callB call_isi (by rfl) T.z_isinstance (by decide +kernel) (pa_cons (pv 1) (pa_cons (pe_bltn (v := .ty "str") (by rfl) T.z_str (by decide +kernel) rfl) pa_nil)))) (pss_one ps_never) (pss_nil))
          (pss_cons (ps_if (PW.pt (pw_and (pt_val (pe_callB call_isi (by rfl) T.z_isinstance (by decide +kernel) (pa_cons (pv 1) (pa_cons (pe_bltn (v := .ty "list") (by rfl) T.z_list (by decide +kernel) rfl) pa_nil)))) (pw_and1 (pt_not (pt_val (pe_callB call_isi (by rfl) T.z_isinstance (by decide +kernel) (pa_cons (pv 0) (pa_cons (pe_bltn (v := .ty "list") (by rfl) T.z_list (by decide +kernel) rfl) pa_nil)))))))) (pss_one ps_never) (pss_nil))
          (pss_cons (ps_if (PW.pt (pw_and (pt_val (pe_callB call_isi (by rfl) T.z_isinstance (by decide +kernel) (pa_cons (pv 1) (pa_cons (pe_bltn (v := .ty "tuple") (by rfl) T.z_tuple (by decide +kernel) rfl) pa_nil)))) (pw_and1 (pt_not (pt_val (pe_callB call_isi (by rfl) T.z_isinstance (by decide +kernel) (pa_cons (pv 0) (pa_cons (pe_bltn (v := .ty "tuple") (by rfl) T.z_tuple (by decide +kernel) rfl) pa_nil)))))))) (pss_one ps_never) (pss_nil))
          (pss_cons (ps_if (pt_cmpR op_ne (pe_callB call_len_seq (by rfl) T.z_len (by decide +kernel) (pa_cons (pv 0) pa_nil)) (pe_callB call_len_seq (by rfl) T.z_len (by decide +kernel) (pa_cons (pv 1) pa_nil)) (nomark _)) (pss_one ps_never) (pss_nil))
          (pss_cons (ps_for PassesOwn.never rfl (pi_range1 (by rfl) T.z_range (pa_cons (pe_callB call_len_seq (by rfl) T.z_len (by decide +kernel) (pa_cons (pv 1) pa_nil)) pa_nil)) (pg_name (i := 2) scSame.nd rfl (.inl rfl))
            (pss_one (ps_if (pt_not (pt_val (pe_call G_law_same hr (by rfl) T.g_law_same T.F_law_same.kp T.b_law_same .nil pass0 (pa_cons (pe_ix ix_seq (pv 0) (pv 2) (fun _ _ => rfl)) (pa_cons (pe_ix ix_seq (pv 1) (pv 2) (fun _ _ => rfl)) pa_nil))))) (pss_one ps_never) (pss_nil))))
          (pss_one (ps_ret pe_bl))))))))), ?_⟩
        have ta : TyX K H (.ref a) (.type "list") := .base (.lst h1)
        have tb : TyX K H (.ref b) (.type "list") := .base (.lst h2)
        refine ⟨_, rfl, _, _, _, _, _, rfl, .ty _, ta, kit_ty (by decide +kernel), ⟨_, rfl, iteF ⟨_, rfl, _, _, _, _, _, rfl, .ty _, tb, kit_ty (by decide +kernel), ⟨_, rfl, iteF ?_⟩⟩⟩⟩
        refine ⟨_, rfl, rfl, _, rfl, iteD (by intro z; cases z) ⟨_, rfl, rfl, _, rfl, iteD (by intro z; cases z) ?_⟩⟩
        refine ⟨_, rfl, _, _, _, _, _, rfl, .ty _, tb, kit_ty (by decide +kernel), ⟨_, rfl, iteF ⟨_, rfl, _, _, _, _, _, rfl, .ty _, tb, kit_ty (by decide +kernel), ⟨_, rfl, iteF ?_⟩⟩⟩⟩
        refine ⟨_, rfl, _, _, _, _, _, rfl, .ty _, tb, kit_ty (by decide +kernel), _, rfl, iteT ⟨_, rfl, _, _, _, _, _, rfl, .ty _, ta, kit_ty (r := true) (by decide +kernel), _, rfl, iteF ?_⟩⟩
        refine ⟨_, rfl, _, _, _, _, _, rfl, .ty _, tb, kit_ty (by decide +kernel), _, rfl, iteF (iteF ?_)⟩
        refine ⟨_, rfl, a, _, rfl, .inl (SqL.of h1), _, rfl, b, _, rfl, .inl (SqL.of h2), rfl, _, rfl, iteND (by rw [hl1, hl2]) ?_⟩
        refine ⟨_, rfl, b, _, rfl, .inl (SqL.of h2), _, rfl, by omega, by omega, for_range (lo := 0) (n := ys.length) (fun _ σ H' => (∃ v, σ = [some (.ref a), some (.ref b), v]) ∧ H' = H) ⟨⟨none, rfl⟩, rfl⟩ ?_ ?_⟩
        · rintro i σ H' hi ⟨⟨v, rfl⟩, rfl⟩
          have hx := List.getElem?_eq_getElem (l := xs) (i := i) (by omega)
          have hy := List.getElem?_eq_getElem (l := ys) (i := i) (by omega)
          have hd := List.getElem?_eq_getElem (l := ds) (i := i) (by omega)
          have e0 : (0 : Int) + (i : Int) = (i : Int) := by omega
          refine ⟨_, rfl, _, rfl, .inl ⟨a, xs, _, _, rfl, rfl, SqL.of h1, at_of' e0 hx, ?_⟩⟩
          refine ⟨_, rfl, _, rfl, .inl ⟨b, ys, _, _, rfl, rfl, SqL.of h2, at_of' e0 hy, ?_⟩⟩
          exact ⟨_, _, _, rfl, r1 i _ _ hx hd, r2 i _ _ hy hd, _, rfl, iteF ⟨⟨_, rfl⟩, rfl⟩⟩
        · rintro σ H' ⟨⟨v, rfl⟩, rfl⟩
          exact q
      | tuple ds =>
        obtain ⟨a, xs, rfl, h1, hl1, hz, r1⟩ := hR
        obtain ⟨b, ys, rfl, h2, hl2, _, r2⟩ := hR2
        refine ⟨_, pss_cons (ps_if (PW.pt (pw_or (pt_val (pe_callB call_isi (by rfl) T.z_isinstance (by decide +kernel) (pa_cons (pv 0) (pa_cons (pe_bltn (v := .ty "bool") (by rfl) T.z_bool (by decide +kernel) rfl) pa_nil)))) (pw_or1 (pt_val (pe_callB call_isi (by rfl) T.z_isinstance (by decide +kernel) (pa_cons (pv 1) (pa_cons (pe_bltn (v := .ty "bool") (by rfl) T.z_bool (by decide +kernel) rfl) pa_nil))))))) (pss_one ps_never) (pss_nil))
          (pss_cons (ps_if (PW.pt (pw_or (pt_cmpR op_isN (pv 0) pe_non (nomark _)) (pw_or1 (pt_cmpR op_isN (pv 1) pe_non (nomark _))))) (pss_one ps_never) (pss_nil))
          (pss_cons (ps_if (pt_val (pe_callB call_isi (by rfl) T.z_isinstance (by decide +kernel) (pa_cons (pv 1) (pa_cons (pe_bltn (v := .ty "int") (by rfl) T.z_int (by decide +kernel) rfl) pa_nil)))) (pss_one ps_never) (pss_nil))
          (pss_cons (ps_if (pt_val (pe_callB call_isi (by rfl) T.z_isinstance (by decide +kernel) (pa_cons (pv 1) (pa_cons (pe_bltn (v := .ty "str") (by rfl) T.z_str (by decide +kernel) rfl) pa_nil)))) (pss_one ps_never) (pss_nil))
          (pss_cons (ps_if (PW.pt (pw_and (pt_val (pe_callB call_isi (by rfl) T.z_isinstance (by decide +kernel) (pa_cons (pv 1) (pa_cons (pe_bltn (v := .ty "list") (by rfl) T.z_list (by decide +kernel) rfl) pa_nil)))) (pw_and1 (pt_not (pt_val (pe_callB call_isi (by rfl) T.z_isinstance (by decide +kernel) (pa_cons (pv 0) (pa_cons (pe_bltn (v := .ty "list") (by rfl) T.z_list (by decide +kernel) rfl) pa_nil)))))))) (pss_one ps_never) (pss_nil))
          (pss_cons (ps_if (PW.pt (pw_and (pt_val (pe_callB call_isi (by rfl) T.z_isinstance (by decide +kernel) (pa_cons (pv 1) (pa_cons (pe_bltn (v := .ty "tuple") (by rfl) T.z_tuple (by decide +kernel) rfl) pa_nil)))) (pw_and1 (pt_not (pt_val (pe_callB call_isi (by rfl) T.z_isinstance (by decide +kernel) (pa_cons (pv 0) (pa_cons (pe_bltn (v := .ty "tuple") (by rfl) T.z_tuple (by decide +kernel) rfl) pa_nil)))))))) (pss_one ps_never) (pss_nil))
          (pss_cons (ps_if (pt_cmpR op_ne (pe_callB call_len_seq (by rfl) T.z_len (by decide +kernel) (pa_cons (pv 0) pa_nil)) (pe_callB call_len_seq (by rfl) T.z_len (by decide +kernel) (pa_cons (pv 1) pa_nil)) (nomark _)) (pss_one ps_never) (pss_nil))
          (pss_cons (ps_for PassesOwn.never rfl (pi_range1 (by rfl) T.z_range (pa_cons (pe_callB call_len_seq (by rfl) T.z_len (by decide +kernel) (pa_cons (pv 1) pa_nil)) pa_nil)) (pg_name (i := 2) scSame.nd rfl (.inl rfl))
            (pss_one (ps_if (pt_not (pt_val (pe_call G_law_same hr (by rfl) T.g_law_same T.F_law_same.kp T.b_law_same .nil pass0 (pa_cons (pe_ix ix_seq (pv 0) (pv 2) (fun _ _ => rfl)) (pa_cons (pe_ix ix_seq (pv 1) (pv 2) (fun _ _ => rfl)) pa_nil))))) (pss_one ps_never) (pss_nil))))
          (pss_one (ps_ret pe_bl))))))))), ?_⟩
        have ta : TyX K H (.ref a) (.type "tuple") := tyx_tup h1
        have tb : TyX K H (.ref b) (.type "tuple") := tyx_tup h2
        refine ⟨_, rfl, _, _, _, _, _, rfl, .ty _, ta, kit_ty (by decide +kernel), ⟨_, rfl, iteF ⟨_, rfl, _, _, _, _, _, rfl, .ty _, tb, kit_ty (by decide +kernel), ⟨_, rfl, iteF ?_⟩⟩⟩⟩
        refine ⟨_, rfl, rfl, _, rfl, iteD (by intro z; cases z) ⟨_, rfl, rfl, _, rfl, iteD (by intro z; cases z) ?_⟩⟩
        refine ⟨_, rfl, _, _, _, _, _, rfl, .ty _, tb, kit_ty (by decide +kernel), ⟨_, rfl, iteF ⟨_, rfl, _, _, _, _, _, rfl, .ty _, tb, kit_ty (by decide +kernel), ⟨_, rfl, iteF ?_⟩⟩⟩⟩
        refine ⟨_, rfl, _, _, _, _, _, rfl, .ty _, tb, kit_ty (by decide +kernel), _, rfl, iteF (iteF ?_)⟩
        refine ⟨_, rfl, _, _, _, _, _, rfl, .ty _, tb, kit_ty (by decide +kernel), _, rfl, iteT ⟨_, rfl, _, _, _, _, _, rfl, .ty _, ta, kit_ty (r := true) (by decide +kernel), _, rfl, iteF ?_⟩⟩
        refine ⟨_, rfl, a, _, rfl, .inr (SqT.ofR h1), _, rfl, b, _, rfl, .inr (SqT.ofR h2), rfl, _, rfl, iteND (by rw [hl1, hl2]) ?_⟩
        refine ⟨_, rfl, b, _, rfl, .inr (SqT.ofR h2), _, rfl, by omega, by omega, for_range (lo := 0) (n := ys.length) (fun _ σ H' => (∃ v, σ = [some (.ref a), some (.ref b), v]) ∧ H' = H) ⟨⟨none, rfl⟩, rfl⟩ ?_ ?_⟩
        · rintro i σ H' hi ⟨⟨v, rfl⟩, rfl⟩
          have hx := List.getElem?_eq_getElem (l := xs) (i := i) (by omega)
          have hy := List.getElem?_eq_getElem (l := ys) (i := i) (by omega)
          have hd := List.getElem?_eq_getElem (l := ds) (i := i) (by omega)
          have e0 : (0 : Int) + (i : Int) = (i : Int) := by omega
          refine ⟨_, rfl, _, rfl, .inr (.inl ⟨a, xs, _, _, rfl, rfl, SqT.ofR h1, at_of' e0 hx, ?_⟩)⟩
          refine ⟨_, rfl, _, rfl, .inr (.inl ⟨b, ys, _, _, rfl, rfl, SqT.ofR h2, at_of' e0 hy, ?_⟩)⟩
          exact ⟨_, _, _, rfl, r1 i _ _ hx hd, r2 i _ _ hy hd, _, rfl, iteF ⟨⟨_, rfl⟩, rfl⟩⟩
        · rintro σ H' ⟨⟨v, rfl⟩, rfl⟩
          exact q
/-! ### as programs over data -/
theorem fn_same (T : Tx K mg) : FnOk P w K mg base (L2.CX P w) 8 T.f_law_same T.d_law_same ["_law_got", "_law_due"] (spR K mg (fun (_ : Unit) (z : PyData × PyData × Unit) => [.fz (rD z.1), .fz (rD z.2.1)]) (fun z => Mo.rq (z.1 = z.2.1) true) (.fz rB)) :=
  (ok_same T 8).cx.imp fun vs H Q E ⟨_, x, F, o, q⟩ => by
    obtain ⟨x, y, _⟩ := x
    obtain ⟨u, ⟨v, rfl, h2⟩, h1⟩ := args2 o
    have q : x = y ∧ _ := q
    obtain ⟨rfl, q⟩ := q
    exact ⟨u, v, x, rfl, Dt.mono o.le h1, Dt.mono o.le h2, q _ F H (Go.refl o.le) (fun i l a q h => by rcases i with _ | _ | i <;> simp at h) rfl⟩
theorem fn_take (T : Tx K mg) : FnOk P w K mg base (L2.CX P w) 1 T.f_law_take T.d_law_take ["_law_pool_here", "_law_many_here"] (spR K mg (fun (a : Addr) (z : Int × Unit) => [.ow false a oPool, .fz (rI z.1)]) (fun z => Mo.take z.1) (.fz rI)) :=
  (ok_take T).cx.imp fun vs H Q E h => take_sp h
theorem fn_pool (T : Tx K mg) : FnOk P w K mg base (L2.CX P w) 2 T.f_law_pool T.d_law_pool ["_law_script", "_law_k"] (spR K mg (fun (_ : Unit) (z : List Int × Int × Unit) => [.fz (rScr K z.1), .fz (rI z.2.1)]) (fun z => Mo.rq (0 ≤ z.2.1 ∧ z.2.1 ≤ 1000) ()) (.ow fun _ => oPool)) :=
  (ok_pool T).cx.imp fun vs H Q E h => pool_sp h
end
end DD
namespace DD
open PySem PySem.Spec PyProof.Rows L2 KO SX RF
section
variable {P : Program} {w : World} {K : PySem.W.Frag} {mg : Str → Option Value} {base : Heap}

section
variable {K : PySem.W.Frag} {mg : Str → Option Value}
theorem excC_BadNet (T : Tx K mg) : ExcC K T.C_BadNet := ⟨T.ga_BadNet, T.gg_BadNet, T.bs_BadNet, T.hd_BadNet, T.cl_BadNet, T.sp_class, T.tk_class, T.mr_BadNet⟩
theorem xfC_BadNet (T : Tx K mg) : XfC K T.C_BadNet := ⟨T.ga_BadNet, T.gg_BadNet, T.bs_BadNet, T.hd_BadNet⟩
theorem exm_BadNet_BadPath (T : Tx K mg) : PySem.W.exmOne K (.ref T.C_BadNet) (.ref T.C_BadPath) = some false := PySem.W.exm_ref T.bs_BadPath T.hd_BadPath T.ty_BadPath T.sb_BadNet_BadPath
theorem exm_BadNet_DepotError (T : Tx K mg) : PySem.W.exmOne K (.ref T.C_BadNet) (.ref T.C_DepotError) = some true := PySem.W.exm_ref T.bs_DepotError T.hd_DepotError T.ty_DepotError T.sb_BadNet_DepotError
theorem exm_BadNet_UnknownEvent (T : Tx K mg) : PySem.W.exmOne K (.ref T.C_BadNet) (.ref T.C_UnknownEvent) = some false := PySem.W.exm_ref T.bs_UnknownEvent T.hd_UnknownEvent T.ty_UnknownEvent T.sb_BadNet_UnknownEvent
theorem exm_BadNet_UnknownSpan (T : Tx K mg) : PySem.W.exmOne K (.ref T.C_BadNet) (.ref T.C_UnknownSpan) = some false := PySem.W.exm_ref T.bs_UnknownSpan T.hd_UnknownSpan T.ty_UnknownSpan T.sb_BadNet_UnknownSpan
theorem excC_UnknownEvent (T : Tx K mg) : ExcC K T.C_UnknownEvent := ⟨T.ga_UnknownEvent, T.gg_UnknownEvent, T.bs_UnknownEvent, T.hd_UnknownEvent, T.cl_UnknownEvent, T.sp_class, T.tk_class, T.mr_UnknownEvent⟩
theorem xfC_UnknownEvent (T : Tx K mg) : XfC K T.C_UnknownEvent := ⟨T.ga_UnknownEvent, T.gg_UnknownEvent, T.bs_UnknownEvent, T.hd_UnknownEvent⟩
theorem kit_UnknownEvent_VE (T : Tx K mg) : PySem.W.kitOne K (.ref T.C_UnknownEvent) (.type "ValueError") = some true := kit_oty (by decide +kernel) T.sb_UnknownEvent_ValueError
theorem exm_UnknownEvent_BadPath (T : Tx K mg) : PySem.W.exmOne K (.ref T.C_UnknownEvent) (.ref T.C_BadPath) = some false := PySem.W.exm_ref T.bs_BadPath T.hd_BadPath T.ty_BadPath T.sb_UnknownEvent_BadPath
theorem kit_UnknownEvent_BadPath (T : Tx K mg) : PySem.W.kitOne K (.ref T.C_UnknownEvent) (.ref T.C_BadPath) = some false := kit_ref T.sb_UnknownEvent_UnknownEvent T.sb_UnknownEvent_BadPath T.hd_BadPath T.ty_BadPath
theorem exm_UnknownEvent_DepotError (T : Tx K mg) : PySem.W.exmOne K (.ref T.C_UnknownEvent) (.ref T.C_DepotError) = some true := PySem.W.exm_ref T.bs_DepotError T.hd_DepotError T.ty_DepotError T.sb_UnknownEvent_DepotError
theorem kit_UnknownEvent_DepotError (T : Tx K mg) : PySem.W.kitOne K (.ref T.C_UnknownEvent) (.ref T.C_DepotError) = some true := kit_ref T.sb_UnknownEvent_UnknownEvent T.sb_UnknownEvent_DepotError T.hd_DepotError T.ty_DepotError
theorem exm_UnknownEvent_UnknownEvent (T : Tx K mg) : PySem.W.exmOne K (.ref T.C_UnknownEvent) (.ref T.C_UnknownEvent) = some true := PySem.W.exm_ref T.bs_UnknownEvent T.hd_UnknownEvent T.ty_UnknownEvent T.sb_UnknownEvent_UnknownEvent
theorem kit_UnknownEvent_UnknownEvent (T : Tx K mg) : PySem.W.kitOne K (.ref T.C_UnknownEvent) (.ref T.C_UnknownEvent) = some true := kit_ref T.sb_UnknownEvent_UnknownEvent T.sb_UnknownEvent_UnknownEvent T.hd_UnknownEvent T.ty_UnknownEvent
theorem exm_UnknownEvent_UnknownSpan (T : Tx K mg) : PySem.W.exmOne K (.ref T.C_UnknownEvent) (.ref T.C_UnknownSpan) = some false := PySem.W.exm_ref T.bs_UnknownSpan T.hd_UnknownSpan T.ty_UnknownSpan T.sb_UnknownEvent_UnknownSpan
theorem kit_UnknownEvent_UnknownSpan (T : Tx K mg) : PySem.W.kitOne K (.ref T.C_UnknownEvent) (.ref T.C_UnknownSpan) = some false := kit_ref T.sb_UnknownEvent_UnknownEvent T.sb_UnknownEvent_UnknownSpan T.hd_UnknownSpan T.ty_UnknownSpan
theorem insC_Net (T : Tx K mg) : C8.InsC K T.C_Net := ⟨T.cl_Net, T.ic_Net, T.sp_class, T.tk_class, T.mr_Net, kit_ref T.isb_Net T.isb_Net T.ihd_Net T.ity_Net⟩
end

abbrev ONet := Int × Int × (List (Int × Int × Int × Int))
def fsNet (x : ONet) : List (Str × Pr) := [("round_length", rI x.1), ("events", rI x.2.1), ("spans", (rTs (rT4 rI rI rI rI)) x.2.2)]
def rNet (C_Net : Addr) (x : ONet) : Pr := RF.rIn C_Net (fsNet  x)
instance {C_Net : Addr} : FI (rNet C_Net) := ⟨fun {x y v F} h k => by
  obtain ⟨gs, h, k⟩ := fi_in (fs := fsNet ) h k
  obtain ⟨_, _, a0, b0, h, k⟩ := fs_two h k
  obtain ⟨_, _, a1, b1, h, k⟩ := fs_two h k
  obtain ⟨_, _, a2, b2, h, k⟩ := fs_two h k
  exact Prod.ext (FI.inj a0 b0) (Prod.ext (FI.inj a1 b1) (FI.inj a2 b2))⟩
instance {C_Net : Addr} : NL (rNet C_Net) := ⟨fun {x} {v F a vs} h k => nl_in (fs := fsNet  x) (nlfc (nlr _) (nlfc (nlr _) (nlf1 (nlr _)))) h k⟩
instance {C_Net : Addr} {x : ONet} : NLP (oIn C_Net (fsNet  x)) := nlp_in (nlfc (nlr _) (nlfc (nlr _) (nlf1 (nlr _))))
instance {C_Net : Addr} : NN (rNet C_Net) := ⟨fun x v F h => nn_in h⟩
abbrev OBase := ONet × (List Int) × (List Int)
def fsBase (C_Net : Addr) (x : OBase) : List (Str × Pr) := [("_net", (rNet C_Net) x.1), ("tree", (rTs rI) x.2.1), ("closing", (rTs rI) x.2.2)]
def rBase (C_Net C_Base : Addr) (x : OBase) : Pr := RF.rIn C_Base (fsBase C_Net x)
instance {C_Net C_Base : Addr} : FI (rBase C_Net C_Base) := ⟨fun {x y v F} h k => by
  obtain ⟨gs, h, k⟩ := fi_in (fs := fsBase C_Net) h k
  obtain ⟨_, _, a0, b0, h, k⟩ := fs_two h k
  obtain ⟨_, _, a1, b1, h, k⟩ := fs_two h k
  obtain ⟨_, _, a2, b2, h, k⟩ := fs_two h k
  exact Prod.ext (FI.inj a0 b0) (Prod.ext (FI.inj a1 b1) (FI.inj a2 b2))⟩
instance {C_Net C_Base : Addr} : NL (rBase C_Net C_Base) := ⟨fun {x} {v F a vs} h k => nl_in (fs := fsBase C_Net x) (nlfc (nlr _) (nlfc (nlr _) (nlf1 (nlr _)))) h k⟩
instance {C_Net C_Base : Addr} {x : OBase} : NLP (oIn C_Base (fsBase C_Net x)) := nlp_in (nlfc (nlr _) (nlfc (nlr _) (nlf1 (nlr _))))
instance {C_Net C_Base : Addr} : NN (rBase C_Net C_Base) := ⟨fun x v F h => nn_in h⟩
theorem scBadNetInit : FnScope ["self", "part", "place"] ["self", "part", "place"] (defScope sBadNetInit) := ⟨rfl, rfl, rfl, by decide +kernel, rfl, by decide +kernel, by decide +kernel⟩
theorem ok_BadNetInit (T : Tx K mg) : FnOk P w K mg base CX0 1 T.fBadNet_init T.dBadNet_init ["self", "part", "place"] (spX2 T.C_BadNet "part" "place") := by
  refine T.FBadNet_init.ok scBadNetInit (fun vs H Q E h => ?_) (fun cdv A outer s H vs Q E hr h => ?_)
  · obtain ⟨a, v, u, rfl, _⟩ := h
    rfl
  · obtain ⟨a, v, u, rfl, ha, q⟩ := h
    refine ⟨_, pss_cons (ps_ost (pv 0) (pv 1)) (pss_one (ps_ost (pv 0) (pv 2))), ?_⟩
    refine ⟨_, rfl, _, rfl, a, _, rfl, T.ox_BadNet, T.no_BadNet_part, .inl ⟨ha, fun dx hdx ne => ?_⟩⟩
    refine ⟨_, rfl, _, rfl, a, _, rfl, T.ox_BadNet, T.no_BadNet_place, .inr ⟨dx, [("part", v)], upd_same, ?_, by simp, q dx hdx ne⟩⟩
    rw [upd_ne ne]; exact upd_same

theorem scUnknownEventInit : FnScope ["self", "number"] ["self", "number"] (defScope sUnknownEventInit) := ⟨rfl, rfl, rfl, by decide +kernel, rfl, by decide +kernel, by decide +kernel⟩
theorem ok_UnknownEventInit (T : Tx K mg) : FnOk P w K mg base CX0 1 T.fUnknownEvent_init T.dUnknownEvent_init ["self", "number"] (spX1 T.C_UnknownEvent "number") := by
  refine T.FUnknownEvent_init.ok scUnknownEventInit (fun vs H Q E h => ?_) (fun cdv A outer s H vs Q E hr h => ?_)
  · obtain ⟨a, v, rfl, _⟩ := h
    rfl
  · obtain ⟨a, v, rfl, ha, q⟩ := h
    exact ⟨_, pss_one (ps_ost (pv 0) (pv 1)), _, rfl, _, rfl, a, _, rfl, T.ox_UnknownEvent, T.no_UnknownEvent_number, .inl ⟨ha, q⟩⟩

end
end DD
namespace DD
open PySem PySem.Spec PyProof.Rows L2 KO SX RF
section
variable {P : Program} {w : World} {K : PySem.W.Frag} {mg : Str → Option Value} {base : Heap}
theorem scBaseLen : FnScope ["self"] ["self"] (defScope sBaseLen) := ⟨rfl, rfl, rfl, by decide +kernel, rfl, by decide +kernel, by decide +kernel⟩
def P_BaseLen (self_ : OBase) : Mo Int :=
  ((((pure self_) >>= fun x2 => pure (x2.2.2)) >>= fun x3 => pure (x3.length : Int)) >>= fun r1 => pure r1)
theorem fn_BaseLen (T : Tx K mg) : FnOk P w K mg base (L2.CX P w) 2 T.fBase_len T.dBase_len ["self"] (spR K mg (fun (c : Unit) (z : OBase × Unit) => [.fz ((rBase T.C_Net T.C_Base) z.1)]) (fun z => P_BaseLen z.1) (RK.fz rI)) := by
  refine fn_mk (Γe := fun c z => [.un]) (Γ0 := fun c z => [.fz ((rBase T.C_Net T.C_Base) z.1)]) (Z := (fun _ _ x => .ret ((RK.fz rI).ok x))) T.FBase_len scBaseLen (fun _ _ => rfl) (fun _ _ => rfl) (fun _ _ => ⟨.inl rfl, trivial⟩) (fun _ _ _ _ _ _ h => (own_none rfl h).elim) (fun _ _ _ => .inl rfl) (fun cdv A outer s H E a0 y hr => ?_)
  obtain ⟨self_, _⟩ := y
  show RB _ _ ([.un] : RF.Ctx) false [.fz ((rBase T.C_Net T.C_Base) self_)] _ (P_BaseLen self_) _
  exact (rb_ret (fun (r1 : Int) => r1) (re_len (rsq_T (re_fld (ρ' := (rTs rI)) (g := fun (x : OBase) => x.2.2) (fsBase T.C_Net) (re_var (ρ := (rBase T.C_Net T.C_Base)) (x := self_) 0 rfl (pv 0)) T.cl_Base T.na_Base_closing)) T.z_len) (fun _ => rfl))

theorem scstepends : FnScope ["net", "step", "number", "direction", "start", "end", "_"] ["net", "step"] (defScope sstepends) := ⟨rfl, rfl, rfl, by decide +kernel, rfl, by decide +kernel, by decide +kernel⟩
def P_stepends (net_ : ONet) (step_ : (Int × Int)) : Mo (Option (Int × Int)) :=
  ((pure step_) >>= fun t1 => (((((pure (0 : Int)) >>= fun i4 => (pure t1.1) >>= fun i5 => if (decide (i4 ≤ i5)) = true then ((((pure net_) >>= fun x2 => pure (x2.2.2)) >>= fun x3 => pure (x3.length : Int)) >>= fun i6 => pure (decide (i5 < i6))) else pure false) >>= fun b7 => pure (!b7)) >>= fun b17 => if b17 then pure true else ((pure t1.2) >>= fun x15 => ((((pure (1 : Int)) >>= fun x11 => (((pure (1 : Int)) >>= fun i8 => pure (-i8)) >>= fun x9 => (pure ()) >>= fun y10 => pure (x9, y10)) >>= fun y12 => pure (x11, y12)) >>= fun y13 => pure (y13.1, y13.2.1)) >>= fun x => pure ((fun (x : (Int × Int)) => [x.1, x.2]) x)) >>= fun y16 => pure (!decide (x15 ∈ y16)))) >>= fun c18 => if c18 = true then (((fun _ => none) <$> (pure ())) >>= fun r19 => pure r19) else ((((pure net_) >>= fun x20 => pure (x20.2.2)) >>= fun x21 => (pure t1.1) >>= fun i22 => Mo.get (atI x21 i22)) >>= fun t23 => ((((pure t1.2) >>= fun i25 => (pure (1 : Int)) >>= fun j26 => pure (decide (i25 = j26))) >>= fun b37 => if b37 = true then ((fun x => some ((fun x => x) x)) <$> (((pure t23.1) >>= fun x29 => ((pure t23.2.1) >>= fun x27 => (pure ()) >>= fun y28 => pure (x27, y28)) >>= fun y30 => pure (x29, y30)) >>= fun y31 => pure (y31.1, y31.2.1))) else ((fun x => some ((fun x => x) x)) <$> (((pure t23.2.1) >>= fun x34 => ((pure t23.1) >>= fun x32 => (pure ()) >>= fun y33 => pure (x32, y33)) >>= fun y35 => pure (x34, y35)) >>= fun y36 => pure (y36.1, y36.2.1)))) >>= fun r24 => pure r24))))
theorem fn_stepends (T : Tx K mg) : FnOk P w K mg base (L2.CX P w) 2 T.fstep_ends T.dstep_ends ["net", "step"] (spR K mg (fun (c : Unit) (z : ONet × (Int × Int) × Unit) => [.fz ((rNet T.C_Net) z.1), .fz ((rT2 rI rI) z.2.1)]) (fun z => P_stepends z.1 z.2.1) (RK.fz (rO (rT2 rI rI)))) := by
  refine fn_mk (Γe := fun c z => [.un, .un, .un, .un, .un, .un, .un]) (Γ0 := fun c z => [.fz ((rNet T.C_Net) z.1), .fz ((rT2 rI rI) z.2.1), .un, .un, .un, .un, .un]) (Z := (fun _ _ x => .ret ((RK.fz (rO (rT2 rI rI))).ok x))) T.Fstep_ends scstepends (fun _ _ => rfl) (fun _ _ => rfl) (fun _ _ => ⟨.inl rfl, .inl rfl, .inl rfl, .inl rfl, .inl rfl, .inl rfl, .inl rfl, trivial⟩) (fun _ _ _ _ _ _ h => (own_none rfl h).elim) (fun _ _ _ => .inl rfl) (fun cdv A outer s H E a0 y hr => ?_)
  obtain ⟨net_, step_, _⟩ := y
  show RB _ _ ([.un, .un, .un, .un, .un, .un, .un] : RF.Ctx) false [.fz ((rNet T.C_Net) net_), .fz ((rT2 rI rI) step_), .un, .un, .un, .un, .un] _ (P_stepends net_ step_) _
  exact (rb_asg (tg := (fun (x : (Int × Int)) => setAll [2, 3] [rI x.1, rI x.2])) (vs := [2, 3]) (ps_asg peE (pg_tupK (K := K) rfl rfl (pgs_cons (pg_name (i := 2) scstepends.nd rfl (.inl rfl)) (pgs_cons (pg_name (i := 3) scstepends.nd rfl (.inl rfl)) pgs_nil)))) (re_var (ρ := (rT2 rI rI)) (x := step_) 1 rfl (pv 1)) (fun (x : (Int × Int)) => rg_tup (ps := [rI x.1, rI x.2]) [2, 3] rfl) (fun _ => ⟨.inl rfl, .inl rfl, .inl rfl, .inl rfl, .inl rfl, .inl rfl, .inl rfl, trivial⟩) fun t1 => (rb_if1 (rt_w (rw_or (rt_not (rt_chain i_le i_lt re_int (re_var (ρ := rI) (x := t1.1) 2 rfl (pv 2)) (re_len (rsq_T (re_fld (ρ' := (rTs (rT4 rI rI rI rI))) (g := fun (x : ONet) => x.2.2) (fsNet) (re_var (ρ := (rNet T.C_Net)) (x := net_) 0 rfl (pv 0)) T.cl_Net T.na_Net_spans)) T.z_len))) (rw_or1 (rt_rc (rc_ninI (re_var (ρ := rI) (x := t1.2) 3 rfl (pv 3)) (rsq_at (ρ := rI) (fun (x : (Int × Int)) => [x.1, x.2]) (re_tup (fun (y13 : Int × Int × Unit) => (y13.1, y13.2.1)) (rT2 rI rI) (fun (y13 : Int × Int × Unit) => [rI y13.1, rI y13.2.1]) (ra_cons re_int (ra_cons (re_neg re_int) ra_nil))))))))) (rb_ret (fun (r19 : (Option (Int × Int))) => r19) (re_coe (ρ' := (rO (rT2 rI rI))) (f := (fun _ => none)) co_none re_non) (fun _ => rfl)) (rb_asg (tg := (fun (x : (Int × Int × Int × Int)) => setAll [4, 5, 6, 6] [rI x.1, rI x.2.1, rI x.2.2.1, rI x.2.2.2])) (vs := [4, 5, 6, 6]) (ps_asg peE (pg_tupK (K := K) rfl rfl (pgs_cons (pg_name (i := 4) scstepends.nd rfl (.inl rfl)) (pgs_cons (pg_name (i := 5) scstepends.nd rfl (.inl rfl)) (pgs_cons (pg_name (i := 6) scstepends.nd rfl (.inl rfl)) (pgs_cons (pg_name (i := 6) scstepends.nd rfl (.inl rfl)) pgs_nil)))))) (re_ixTs (re_fld (ρ' := (rTs (rT4 rI rI rI rI))) (g := fun (x : ONet) => x.2.2) (fsNet) (re_var (ρ := (rNet T.C_Net)) (x := net_) 0 rfl (pv 0)) T.cl_Net T.na_Net_spans) (re_var (ρ := rI) (x := t1.1) 2 rfl (pv 2))) (fun (x : (Int × Int × Int × Int)) => rg_tup (ps := [rI x.1, rI x.2.1, rI x.2.2.1, rI x.2.2.2]) [4, 5, 6, 6] rfl) (fun _ => ⟨.inl rfl, .inl rfl, .inl rfl, .inl rfl, .inl rfl, .inl rfl, .inl rfl, trivial⟩) fun t23 => (rb_ret (fun (r24 : (Option (Int × Int))) => r24) (re_if (rt_rc (rc_i i_eq (re_var (ρ := rI) (x := t1.2) 3 rfl (pv 3)) re_int)) (re_coe (ρ' := (rO (rT2 rI rI))) (f := (fun x => some ((fun x => x) x))) (co_some co_id) (re_tup (fun (y31 : Int × Int × Unit) => (y31.1, y31.2.1)) (rT2 rI rI) (fun (y31 : Int × Int × Unit) => [rI y31.1, rI y31.2.1]) (ra_cons (re_var (ρ := rI) (x := t23.1) 4 rfl (pv 4)) (ra_cons (re_var (ρ := rI) (x := t23.2.1) 5 rfl (pv 5)) ra_nil)))) (re_coe (ρ' := (rO (rT2 rI rI))) (f := (fun x => some ((fun x => x) x))) (co_some co_id) (re_tup (fun (y36 : Int × Int × Unit) => (y36.1, y36.2.1)) (rT2 rI rI) (fun (y36 : Int × Int × Unit) => [rI y36.1, rI y36.2.1]) (ra_cons (re_var (ρ := rI) (x := t23.2.1) 5 rfl (pv 5)) (ra_cons (re_var (ρ := rI) (x := t23.1) 4 rfl (pv 4)) ra_nil))))) (fun _ => rfl)))))

theorem sctreepath : FnScope ["net", "tree", "first", "second", "steps", "ways", "waiting", "event", "step", "begin", "end", "number", "direction"] ["net", "tree", "first", "second"] (defScope streepath) := ⟨rfl, rfl, rfl, by decide +kernel, rfl, by decide +kernel, by decide +kernel⟩
def P_treepath (net_ : ONet) (tree_ : (List Int)) (first_ : Int) (second_ : Int) : Mo (Option (List (Int × Int))) :=
  (((pure tree_) >>= Mo.lc2 (fun w1 => (pure true)) (fun w1 => ((fun (x : (Int × Int)) => [(fun x => x) x.1, (fun x => x) x.2]) <$> (((pure (1 : Int)) >>= fun x6 => (((pure (1 : Int)) >>= fun i3 => pure (-i3)) >>= fun x4 => (pure ()) >>= fun y5 => pure (x4, y5)) >>= fun y7 => pure (x6, y7)) >>= fun y8 => pure (y8.1, y8.2.1)))) (fun w1 w2 => (pure true)) (fun w1 w2 => (((pure w1) >>= fun x11 => ((pure w2) >>= fun x9 => (pure ()) >>= fun y10 => pure (x9, y10)) >>= fun y12 => pure (x11, y12)) >>= fun y13 => pure (y13.1, y13.2.1)))) >>= fun steps_14 => (((pure first_) >>= fun k15 => (pure []) >>= fun v16 => pure [(k15, v16)]) >>= fun ways_17 => ((((pure first_) >>= fun x19 => (pure ()) >>= fun y20 => pure (x19, y20)) >>= fun y21 => pure [y21.1]) >>= fun waiting_22 => (Mo.while (δ := Empty) (fun s24 => ((pure s24.1) >>= fun x25 => pure (!x25.isEmpty))) (fun s24 => (Mo.get s24.1[s24.1.length - 1]? >>= fun event_26 => ((pure steps_14) >>= fun xs => Mo.fold (fun s27 w28 => (((((pure net_) >>= fun x32 => ((pure w28) >>= fun x30 => (pure ()) >>= fun y31 => pure (x30, y31)) >>= fun y33 => pure (x32, y33)) >>= fun y29 => P_stepends y29.1 y29.2.1) >>= Mo.get) >>= fun t34 => ((((pure t34.1) >>= fun i35 => (pure event_26) >>= fun j36 => pure (decide (i35 = j36))) >>= fun b38 => if b38 then ((pure t34.2) >>= fun k37 => pure (!(dget s27.1 k37).isSome)) else pure false) >>= fun c39 => if c39 = true then ((((pure event_26) >>= fun i40 => Mo.get (dget s27.1 i40)) >>= fun x44 => (((pure w28) >>= fun x41 => (pure ()) >>= fun y42 => pure (x41, y42)) >>= fun y43 => pure [y43.1]) >>= fun y45 => Mo.rq (x44.length + y45.length ≤ sizeLine) (x44 ++ y45)) >>= fun x46 => (pure t34.2) >>= fun k47 => Mo.rq (s27.1.length < sizeLine) k47 >>= fun k48 => ((pure t34.2) >>= fun x49 => Mo.rq (s27.2.length < sizeLine) x49 >>= fun x49 => (pure ((dput s27.1 k48 x46), (s27.2 ++ [x49]))))) else (pure (s27.1, s27.2))))) xs (s24.2, s24.1.dropLast) >>= fun s50 => (pure (Lp.go (s50.2, s50.1)))))) (waiting_22, ways_17) >>= Lp.out (fun s51 => (((pure second_) >>= fun k53 => pure (dget s51.2 k53)) >>= fun r52 => pure r52)) (fun (x : Empty) => x.elim)))))
theorem fn_treepath (T : Tx K mg) : FnOk P w K mg base (L2.CX P w) 3 T.ftree_path T.dtree_path ["net", "tree", "first", "second"] (spR K mg (fun (c : Unit) (z : ONet × (List Int) × Int × Int × Unit) => [.fz ((rNet T.C_Net) z.1), .fz ((rQ rI) z.2.1), .fz (rI z.2.2.1), .fz (rI z.2.2.2.1)]) (fun z => P_treepath z.1 z.2.1 z.2.2.1 z.2.2.2.1) (RK.nw (rO (rL (rT2 rI rI))))) := by
  have Gstep_ends := fn_stepends (P := P) (w := w) (base := base) T
  refine fn_mk (Γe := fun c z => [.un, .un, .un, .un, .un, .un, .un, .un, .un, .un, .un, .un, .un]) (Γ0 := fun c z => [.fz ((rNet T.C_Net) z.1), .fz ((rQ rI) z.2.1), .fz (rI z.2.2.1), .fz (rI z.2.2.2.1), .un, .un, .un, .un, .un, .un, .un, .un, .un]) (Z := (fun _ _ x => .ret ((RK.nw (rO (rL (rT2 rI rI)))).ok x))) T.Ftree_path sctreepath (fun _ _ => rfl) (fun _ _ => rfl) (fun _ _ => ⟨.inl rfl, .inl rfl, .inl rfl, .inl rfl, .inl rfl, .inl rfl, .inl rfl, .inl rfl, .inl rfl, .inl rfl, .inl rfl, .inl rfl, .inl rfl, trivial⟩) (fun _ _ _ _ _ _ h => (own_none rfl h).elim) (fun _ _ _ => .inl rfl) (fun cdv A outer s H E a0 y hr => ?_)
  obtain ⟨net_, tree_, first_, second_, _⟩ := y
  show RB _ _ ([.un, .un, .un, .un, .un, .un, .un, .un, .un, .un, .un, .un, .un] : RF.Ctx) false [.fz ((rNet T.C_Net) net_), .fz ((rQ rI) tree_), .fz (rI first_), .fz (rI second_), .un, .un, .un, .un, .un, .un, .un, .un, .un] _ (P_treepath net_ tree_ first_ second_) _
  exact (rb_age (Γa := fun hN => [.lk true hN ((rNet T.C_Net) net_), .fz ((rAg hN (rQ rI)) tree_), .fz (rI first_), .fz (rI second_), .un, .un, .un, .un, .un, .un, .un, .un, .un]) (fun hN => ⟨.lk _, .ag _, .id _, .id _, .id _, .id _, .id _, .id _, .id _, .id _, .id _, .id _, .id _, trivial⟩) (fun hN => ⟨.inl rfl, .inl rfl, .inl rfl, .inl rfl, .inl rfl, .inl rfl, .inl rfl, .inl rfl, .inl rfl, .inl rfl, .inl rfl, .inl rfl, .inl rfl, trivial⟩) fun hN => (rb_set (ps_setLc2 (i := 4) (own := [("number", 11), ("direction", 12)]) (vs1 := [12]) (g := gName 11) (g1 := gName 12) rfl sctreepath.nd rfl rfl (sw_true rfl rfl rfl (by decide +kernel)) (pi_seqQ peE) (blkOk_by (own := [("number", 11), ("direction", 12)]) (N := ["net", "tree", "first", "second", "steps", "ways", "waiting", "event", "step", "begin", "end", "number", "direction"]) (sc := defScope streepath) (by decide +kernel)) (by decide) (fun _ _ _ _ _ => pg_name (i := 11) sctreepath.nd rfl (.inl rfl)) ptPi (fun _ _ _ _ _ => (pi_tup (peEi _ _ _ _ _))) (fun _ _ _ _ _ => pg_name (i := 12) sctreepath.nd rfl (.inl rfl)) ptPi peEi) (rte_frz (rte_lc2 (vs := [11, 12]) (vs1 := [12]) (fun (x : Int) Γ => Γ.set 11 (.fz (rI x))) (fun (x : Int) Γ => Γ.set 12 (.fz (rI x))) (ri_Q (re_ag (re_var (ρ := (rAg hN (rQ rI))) (x := tree_) 1 rfl (pv 1)))) (fun x => ((fun _ => rg_name) x).more (by decide)) (fun x => ((fun _ => rgo_name) x).more (by decide)) (un2 rfl rfl) (fun (w1 : Int) => rti_nil) (fun (w1 : Int) => (rit_tup (rte_i (fun _ _ _ _ _ => (re_coe (ρ' := (rTs rI)) (f := (fun (x : (Int × Int)) => [(fun x => x) x.1, (fun x => x) x.2])) (co_T (fun (x : (Int × Int)) => [rI x.1, rI x.2]) (fun (x : (Int × Int)) => [rI ((fun x => x) x.1), rI ((fun x => x) x.2)]) (fun x F => (.cons (fun v h => co_id _ v F h) (.cons (fun v h => co_id _ v F h) .nil)))) (re_tup (fun (y8 : Int × Int × Unit) => (y8.1, y8.2.1)) (rT2 rI rI) (fun (y8 : Int × Int × Unit) => [rI y8.1, rI y8.2.1]) (ra_cons re_int (ra_cons (re_neg re_int) ra_nil)))))))) (fun _ => rg_name) (fun _ => rgo_name) (fun _ => (un1 rfl)) (fun (w1 : Int) (w2 : Int) => rti_nil) (fun (w1 : Int) (w2 : Int) _ _ _ _ _ => (re_tup (fun (y13 : Int × Int × Unit) => (y13.1, y13.2.1)) (rT2 rI rI) (fun (y13 : Int × Int × Unit) => [rI y13.1, rI y13.2.1]) (ra_cons (re_var (ρ := rI) (x := w1) 11 rfl (pv 11)) (ra_cons (re_var (ρ := rI) (x := w2) 12 rfl (pv 12)) ra_nil))))) frz_L) rfl fun (steps_14 : (List (Int × Int))) => (rb_setO (ps_set (i := 5) sctreepath.nd rfl (.inl rfl) peE) (re_disp1 (re_var (ρ := rI) (x := first_) 2 rfl (pv 2)) (re_nwl (ρ' := (rT2 rI rI)) (ρ := (rT2 rI rI)) (h := hN) (j := 0) rfl (re_lst0 (ρ := (rT2 rI rI))))) rfl fun (ways_17 : (List (Int × (List (Int × Int))))) a18 => (rb_setO (ps_set (i := 6) sctreepath.nd rfl (.inl rfl) peE) (re_lst (fun (y21 : Int × Unit) => [y21.1]) rI (ra_cons (re_var (ρ := rI) (x := first_) 2 rfl (pv 2)) ra_nil)) rfl fun (waiting_22 : (List Int)) a23 => (rb_unage (Γ' := [.lk false hN ((rNet T.C_Net) net_), .fz ((rAg hN (rQ rI)) tree_), .fz (rI first_), .fz (rI second_), .fz ((rL (rT2 rI rI)) steps_14), .ow true a18 (oDk (rNw hN (rL (rT2 rI rI))) ways_17), .ow true a23 (oL rI waiting_22), .un, .un, .un, .un, .un, .un]) ⟨.lf _ _ _, .id _, .id _, .id _, .id _, .id _, .id _, .id _, .id _, .id _, .id _, .id _, .id _, trivial⟩ ⟨.inl rfl, .inl rfl, .inl rfl, .inl rfl, .inl rfl, .inl rfl, .inl rfl, .inl rfl, .inl rfl, .inl rfl, .inl rfl, .inl rfl, .inl rfl, trivial⟩ (rb_while (δ := Empty) (s0 := (waiting_22, ways_17)) (Zr := (fun (x : Empty) => x.elim)) (kr := (fun (x : Empty) => x.elim)) (fun (s24 : (List Int) × (List (Int × (List (Int × Int))))) => [.lk false hN ((rNet T.C_Net) net_), .fz ((rAg hN (rQ rI)) tree_), .fz (rI first_), .fz (rI second_), .fz ((rL (rT2 rI rI)) steps_14), .ow true a18 (oDk (rNw hN (rL (rT2 rI rI))) s24.2), .ow true a23 (oL rI s24.1), .un, .un, .un, .un, .un, .un]) (ps_while (passes_of rfl) ptT pssS) (fun (s24 : (List Int) × (List (Int × (List (Int × Int))))) => (rt_seq (rsq_O rfl (pv 6)))) ⟨.inr rfl, .inr rfl, .inr rfl, .inr rfl, .inr rfl, .inr rfl, .inr rfl, .inl rfl, .inl rfl, .inl rfl, .inl rfl, .inl rfl, .inl rfl, trivial⟩ (fun _ => ⟨.inl rfl, .inl rfl, .inl rfl, .inl rfl, .inl rfl, .inl rfl, .inl rfl, .inl rfl, .inl rfl, .inl rfl, .inl rfl, .inl rfl, .inl rfl, trivial⟩) (fun (s24 : (List Int) × (List (Int × (List (Int × Int))))) => (rb_setPop (ps_set (i := 7) sctreepath.nd rfl (.inl rfl) (pe_bm0 PySem.F.plainAttrs_list PySem.F.slot_list_pop PySem.F.type_list_pop mt_pop (pv 6))) rfl rfl rfl fun (event_26 : Int) => (rb_forF (s0 := (s24.2, s24.1.dropLast)) (vs := [8]) (fun (s27 : (List (Int × (List (Int × Int)))) × (List Int)) => [.lk false hN ((rNet T.C_Net) net_), .fz ((rAg hN (rQ rI)) tree_), .fz (rI first_), .fz (rI second_), .fz ((rL (rT2 rI rI)) steps_14), .ow true a18 (oDk (rNw hN (rL (rT2 rI rI))) s27.1), .ow true a23 (oL rI s27.2), .fz (rI event_26), .un, .un, .un, .un, .un]) (fun (x : (Int × Int)) Γ => Γ.set 8 (.fz ((rT2 rI rI) x))) (ps_for (passes_of rfl) rfl (pi_list peE) (pg_name (i := 8) sctreepath.nd rfl (.inl rfl)) pssS) (ri_list (re_var (ρ := (rL (rT2 rI rI))) (x := steps_14) 4 rfl (pv 4))) (fun _ => rg_name) ⟨.inr rfl, .inr rfl, .inr rfl, .inr rfl, .inr rfl, .inr rfl, .inr rfl, .inr rfl, .inl rfl, .inl rfl, .inl rfl, .inl rfl, .inl rfl, trivial⟩ (fun _ => ⟨.inl rfl, .inl rfl, .inl rfl, .inl rfl, .inl rfl, .inl rfl, .inl rfl, .inl rfl, .inl rfl, .inl rfl, .inl rfl, .inl rfl, .inl rfl, trivial⟩) (fun _ _ => ⟨.inl rfl, .inl rfl, .inl rfl, .inl rfl, .inl rfl, .inl rfl, .inl rfl, .inl rfl, .inl rfl, .inl rfl, .inl rfl, .inl rfl, .inl rfl, trivial⟩) (fun (s27 : (List (Int × (List (Int × Int)))) × (List Int)) (w28 : (Int × Int)) => (rb_asg (tg := (fun (x : (Int × Int)) => setAll [9, 10] [rI x.1, rI x.2])) (vs := [9, 10]) (ps_asg peE (pg_tupK (K := K) rfl rfl (pgs_cons (pg_name (i := 9) sctreepath.nd rfl (.inl rfl)) (pgs_cons (pg_name (i := 10) sctreepath.nd rfl (.inl rfl)) pgs_nil)))) (re_get (re_call () Gstep_ends (hr.mono (by decide)) (takes_of rfl rfl rfl rfl) (ra_cons (re_varL (ρ := (rNet T.C_Net)) (x := net_) 0 rfl (pv 0)) (ra_cons (re_var (ρ := (rT2 rI rI)) (x := w28) 8 rfl (pv 8)) ra_nil)) T.gstep_ends T.Fstep_ends.kp T.bstep_ends)) (fun (x : (Int × Int)) => rg_tup (ps := [rI x.1, rI x.2]) [9, 10] rfl) (fun _ => ⟨.inl rfl, .inl rfl, .inl rfl, .inl rfl, .inl rfl, .inl rfl, .inl rfl, .inl rfl, .inl rfl, .inl rfl, .inl rfl, .inl rfl, .inl rfl, trivial⟩) fun t34 => (rb_if0 (rt_w (rw_and (rt_rc (rc_i i_eq (re_var (ρ := rI) (x := t34.1) 9 rfl (pv 9)) (re_var (ρ := rI) (x := event_26) 7 rfl (pv 7)))) (rw_and1 (rt_dnotin rfl (pv 5) (re_var (ρ := rI) (x := t34.2) 10 rfl (pv 10)) (u1 hr.units))))) (rb_dput (ps_dput (u1 hr.units) (pv 5) peE peE (by rfl)) rfl (re_nwl (ρ' := (rT2 rI rI)) (ρ := (rT2 rI rI)) (h := hN) (j := 0) rfl (re_cat (re_nwo (re_dget rfl (pv 5) (re_var (ρ := rI) (x := event_26) 7 rfl (pv 7)) (u1 hr.units))) (re_frz (re_lst (fun (y43 : (Int × Int) × Unit) => [y43.1]) (rT2 rI rI) (ra_cons (re_var (ρ := (rT2 rI rI)) (x := w28) 8 rfl (pv 8)) ra_nil)) frz_L))) (re_var (ρ := rI) (x := t34.2) 10 rfl (pv 10)) rfl fun (x46 : (List (Int × Int))) (k48 : Int) => (rb_app (ps_expr (pe_bm PySem.F.plainAttrs_list PySem.F.slot_list_append PySem.F.type_list_append mt_append (pv 6) (pa_cons peE pa_nil))) rfl (re_var (ρ := rI) (x := t34.2) 10 rfl (pv 10)) rfl fun x49 => (rb_nil (x := ((dput s27.1 k48 x46), (s27.2 ++ [x49]))) (.inr rfl) ⟨.inr rfl, .inr rfl, .inr rfl, .inr rfl, .inr rfl, .inr rfl, .inr rfl, .inr rfl, .inl rfl, .inl rfl, .inl rfl, .inl rfl, .inl rfl, trivial⟩))) (rb_nil (x := (s27.1, s27.2)) (.inr rfl) ⟨.inr rfl, .inr rfl, .inr rfl, .inr rfl, .inr rfl, .inr rfl, .inr rfl, .inr rfl, .inl rfl, .inl rfl, .inl rfl, .inl rfl, .inl rfl, trivial⟩)))) fun (s50 : (List (Int × (List (Int × Int)))) × (List Int)) => (rb_nil (x := (Lp.go (s50.2, s50.1))) (.inr rfl) ⟨.inr rfl, .inr rfl, .inr rfl, .inr rfl, .inr rfl, .inr rfl, .inr rfl, .inl rfl, .inl rfl, .inl rfl, .inl rfl, .inl rfl, .inl rfl, trivial⟩)))) (fun a => a.elim) (fun a => a.elim) fun (s51 : (List Int) × (List (Int × (List (Int × Int))))) => (rb_weak (Γ' := [.lk false hN ((rNet T.C_Net) net_), .fz ((rAg hN (rQ rI)) tree_), .fz (rI first_), .fz (rI second_), .fz ((rL (rT2 rI rI)) steps_14), .ow true a18 (oDk (rNw hN (rL (rT2 rI rI))) s51.2), .un, .un, .un, .un, .un, .un, .un]) ⟨.inr rfl, .inr rfl, .inr rfl, .inr rfl, .inr rfl, .inr rfl, .inl rfl, .inl rfl, .inl rfl, .inl rfl, .inl rfl, .inl rfl, .inl rfl, trivial⟩ ⟨.inl rfl, .inl rfl, .inl rfl, .inl rfl, .inl rfl, .inl rfl, .inl rfl, .inl rfl, .inl rfl, .inl rfl, .inl rfl, .inl rfl, .inl rfl, trivial⟩ (rb_retNw (j := 0) (fun (r52 : (Option (List (Int × Int)))) => r52) rfl (re_nwt (ρ' := (rO (rNw hN (rL (rT2 rI rI))))) (ρ := (rO (rL (rT2 rI rI)))) (h := hN) (re_dgetm rfl (pv 5) (re_var (ρ := rI) (x := second_) 3 rfl (pv 3)) (u1 hr.units) ⟨rfl, rfl, rfl, rfl⟩)) (fun _ => rfl)))))))))

theorem scBaseInit : FnScope ["self", "net", "tree", "closing", "number", "span", "joined"] ["self", "net"] (defScope sBaseInit) := ⟨rfl, rfl, rfl, by decide +kernel, rfl, by decide +kernel, by decide +kernel⟩
def P_BaseInit (net_ : ONet) : Mo (OBase) :=
  ((pure []) >>= fun tree_1 => (pure []) >>= fun closing_2 => ((((pure net_) >>= fun x5 => pure (x5.2.2)) >>= fun x6 => pure (enumL x6)) >>= fun xs => Mo.fold (fun s7 w8 => ((Mo.calm ((((pure net_) >>= fun x30 => (((fun (x : (List Int)) => x.map (fun x => x)) <$> (pure s7.2)) >>= fun x28 => (((pure w8.2) >>= fun x22 => pure x22.1) >>= fun x26 => (((pure w8.2) >>= fun x23 => pure x23.2.1) >>= fun x24 => (pure ()) >>= fun y25 => pure (x24, y25)) >>= fun y27 => pure (x26, y27)) >>= fun y29 => pure (x28, y29)) >>= fun y31 => pure (x30, y31)) >>= fun y21 => P_treepath y21.1 y21.2.1 y21.2.2.1 y21.2.2.2.1) >>= fun x32 => pure x32.isSome)) >>= fun joined_33 => ((pure joined_33) >>= fun c34 => if c34 = true then ((pure w8.1) >>= fun x35 => Mo.rq (s7.1.length < sizeLine) x35 >>= fun x35 => (pure ((s7.1 ++ [x35]), s7.2))) else ((pure w8.1) >>= fun x36 => Mo.rq (s7.2.length < sizeLine) x36 >>= fun x36 => (pure (s7.1, (s7.2 ++ [x36]))))))) xs (closing_2, tree_1) >>= fun s37 => ((pure net_) >>= fun net_38 => (((pure s37.2) >>= fun x39 => pure x39) >>= fun tree_40 => (((pure s37.1) >>= fun x41 => pure x41) >>= fun closing_42 => (pure (net_38, tree_40, closing_42)))))))
theorem fn_BaseInit (T : Tx K mg) : FnOk P w K mg base (L2.CX P w) 4 T.fBase_init T.dBase_init ["self", "net"] (spI K mg T.C_Base (fun (z : ONet × Unit) => [.fz ((rNet T.C_Net) z.1)]) (fun z => P_BaseInit z.1) (fsBase T.C_Net)) := by
  have Gtree_path := fn_treepath (P := P) (w := w) (base := base) T
  refine init_mk (Γe := [.un, .un, .un, .un, .un, .un, .un]) (Γ0 := fun a z => [.ow false a (oIn T.C_Base []), .fz ((rNet T.C_Net) z.1), .un, .un, .un, .un, .un]) (Γo := fun a z => [.ow false a (oIn T.C_Base (fsBase T.C_Net z)), .un, .un, .un, .un, .un, .un]) T.FBase_init scBaseInit (fun _ => rfl) (fun _ _ => rfl) (fun _ _ => ⟨.inl rfl, .inl rfl, .inl rfl, .inl rfl, .inl rfl, .inl rfl, .inl rfl, trivial⟩) (fun _ => rfl) (fun _ _ => rfl) (fun cdv A outer s H E a0 y hr => ?_)
  obtain ⟨net_, _⟩ := y
  show RB _ _ ([.un, .un, .un, .un, .un, .un, .un] : RF.Ctx) false [.ow false a0 (oIn T.C_Base []), .fz ((rNet T.C_Net) net_), .un, .un, .un, .un, .un] _ (P_BaseInit net_) _
  exact (rb_parO (ps_par (i := 2) (j := 3) rfl scBaseInit.nd rfl rfl (by decide) rfl rfl (pa_cons peE (pa_cons peE pa_nil)) (by rfl)) (re_lst0 (ρ := rI)) (re_lst0 (ρ := rI)) rfl rfl fun (tree_1 : (List Int)) (closing_2 : (List Int)) a3 a4 => (rb_forF (s0 := (closing_2, tree_1)) (vs := [4, 5]) (fun (s7 : (List Int) × (List Int)) => [.ow false a0 (oIn T.C_Base []), .fz ((rNet T.C_Net) net_), .ow true a3 (oL rI s7.2), .ow true a4 (oL rI s7.1), .un, .un, .un]) (fun (x : (Int × (Int × Int × Int × Int))) => setAll [4, 5] [rI x.1, (rT4 rI rI rI rI) x.2]) (ps_for (passes_of rfl) rfl (pi_enumT (by rfl) T.z_enumerate (pa_cons peE pa_nil)) (pg_tupK (K := K) rfl rfl (pgs_cons (pg_name (i := 4) scBaseInit.nd rfl (.inl rfl)) (pgs_cons (pg_name (i := 5) scBaseInit.nd rfl (.inl rfl)) pgs_nil))) pssS) (ri_enumT (re_fld (ρ' := (rTs (rT4 rI rI rI rI))) (g := fun (x : ONet) => x.2.2) (fsNet) (re_var (ρ := (rNet T.C_Net)) (x := net_) 1 rfl (pv 1)) T.cl_Net T.na_Net_spans)) (fun (x : (Int × (Int × Int × Int × Int))) => rg_tup (ps := [rI x.1, (rT4 rI rI rI rI) x.2]) [4, 5] rfl) ⟨.inr rfl, .inr rfl, .inr rfl, .inr rfl, .inl rfl, .inl rfl, .inl rfl, trivial⟩ (fun _ => ⟨.inl rfl, .inl rfl, .inl rfl, .inl rfl, .inl rfl, .inl rfl, .inl rfl, trivial⟩) (fun _ _ => ⟨.inl rfl, .inl rfl, .inl rfl, .inl rfl, .inl rfl, .inl rfl, .inl rfl, trivial⟩) (fun (s7 : (List Int) × (List Int)) (w8 : (Int × (Int × Int × Int × Int))) => (rb_set (ps_set (i := 6) scBaseInit.nd rfl (.inl rfl) peE) (re_bor (j := 2) rfl ⟨inferInstance, inferInstance, trivial⟩ (re_rc (rc_notN (re_nwf (re_call () Gtree_path (hr.mono (by decide)) (takes_of rfl rfl rfl rfl) (ra_cons (re_var (ρ := (rNet T.C_Net)) (x := net_) 1 rfl (pv 1)) (ra_cons (re_coe (ρ' := (rQ rI)) (f := (fun (x : (List Int)) => x.map (fun x => x))) (co_LQ co_id) (re_var (ρ := (rL rI)) (x := s7.2) 2 rfl (pv 2))) (ra_cons (re_at (ρ := rI) (g := fun (x : (Int × Int × Int × Int)) => x.1) (fun (x : (Int × Int × Int × Int)) => [rI x.1, rI x.2.1, rI x.2.2.1, rI x.2.2.2]) (0) (re_var (ρ := (rT4 rI rI rI rI)) (x := w8.2) 5 rfl (pv 5)) (hc := re_int)) (ra_cons (re_at (ρ := rI) (g := fun (x : (Int × Int × Int × Int)) => x.2.1) (fun (x : (Int × Int × Int × Int)) => [rI x.1, rI x.2.1, rI x.2.2.1, rI x.2.2.2]) (1) (re_var (ρ := (rT4 rI rI rI rI)) (x := w8.2) 5 rfl (pv 5)) (hc := re_int)) ra_nil)))) T.gtree_path T.Ftree_path.kp T.btree_path))))) rfl fun (joined_33 : Bool) => (rb_if0 (rt_val (re_var (ρ := rB) (x := joined_33) 6 rfl (pv 6))) (rb_app (ps_expr (pe_bm PySem.F.plainAttrs_list PySem.F.slot_list_append PySem.F.type_list_append mt_append (pv 3) (pa_cons peE pa_nil))) rfl (re_var (ρ := rI) (x := w8.1) 4 rfl (pv 4)) rfl fun x35 => (rb_nil (x := ((s7.1 ++ [x35]), s7.2)) (.inr rfl) ⟨.inr rfl, .inr rfl, .inr rfl, .inr rfl, .inl rfl, .inl rfl, .inl rfl, trivial⟩)) (rb_app (ps_expr (pe_bm PySem.F.plainAttrs_list PySem.F.slot_list_append PySem.F.type_list_append mt_append (pv 2) (pa_cons peE pa_nil))) rfl (re_var (ρ := rI) (x := w8.1) 4 rfl (pv 4)) rfl fun x36 => (rb_nil (x := (s7.1, (s7.2 ++ [x36]))) (.inr rfl) ⟨.inr rfl, .inr rfl, .inr rfl, .inr rfl, .inl rfl, .inl rfl, .inl rfl, trivial⟩))))) fun (s37 : (List Int) × (List Int)) => (rb_frz (i := 3) (p := rL rI s37.1) rfl (frz_L _ _) rfl (rb_frz (i := 2) (p := rL rI s37.2) rfl (frz_L _ _) rfl (rb_setfld (ps_fld (pv 0) peE rfl) rfl (re_var (ρ := (rNet T.C_Net)) (x := net_) 1 rfl (pv 1)) T.cl_Base T.na_Base__net (plt pl0) rfl fun net_38 => (rb_setfld (ps_fld (pv 0) peE rfl) rfl (re_tuple (rsq_L (re_var (ρ := (rL rI)) (x := s37.2) 2 rfl (pv 2))) T.z_tuple) T.cl_Base T.na_Base_tree (plt (pl1 pl0)) rfl fun tree_40 => (rb_setfld (ps_fld (pv 0) peE rfl) rfl (re_tuple (rsq_L (re_var (ρ := (rL rI)) (x := s37.1) 3 rfl (pv 3))) T.z_tuple) T.cl_Base T.na_Base_closing (plt (pl1 (pl1 pl0))) rfl fun closing_42 => (rb_nil (x := (net_38, tree_40, closing_42)) (.inl rfl) ⟨.inr rfl, .inl rfl, .inl rfl, .inl rfl, .inl rfl, .inl rfl, .inl rfl, trivial⟩))))))))

theorem scBasePath : FnScope ["self", "first", "second", "event"] ["self", "first", "second"] (defScope sBasePath) := ⟨rfl, rfl, rfl, by decide +kernel, rfl, by decide +kernel, by decide +kernel⟩
def P_BasePath (self_ : OBase) (first_ : Int) (second_ : Int) : Mo (Option (List (Int × Int))) :=
  (((fun (x : (Int × Int)) => [(fun x => x) x.1, (fun x => x) x.2]) <$> (((pure first_) >>= fun x3 => ((pure second_) >>= fun x1 => (pure ()) >>= fun y2 => pure (x1, y2)) >>= fun y4 => pure (x3, y4)) >>= fun y5 => pure (y5.1, y5.2.1))) >>= fun xs => Mo.fold (fun s6 w7 => ((((pure (0 : Int)) >>= fun i10 => (pure w7) >>= fun i11 => if (decide (i10 ≤ i11)) = true then ((((pure self_) >>= fun x8 => pure (x8.1)) >>= fun x9 => pure (x9.2.1)) >>= fun i12 => pure (decide (i11 < i12))) else pure false) >>= fun b13 => pure (!b13)) >>= fun c14 => if c14 = true then (((pure w7) >>= fun x15 => Mo.rq (Enc.ok rI x15) ⟨"UnknownEvent", [("number", Enc.d rI x15)]⟩) >>= fun e16 => Mo.throw e16) else (pure ()))) xs () >>= fun s17 => (((((pure self_) >>= fun x20 => pure (x20.1)) >>= fun x28 => (((fun (x : (List Int)) => x.map (fun x => x)) <$> ((pure self_) >>= fun x21 => pure (x21.2.1))) >>= fun x26 => ((pure first_) >>= fun x24 => ((pure second_) >>= fun x22 => (pure ()) >>= fun y23 => pure (x22, y23)) >>= fun y25 => pure (x24, y25)) >>= fun y27 => pure (x26, y27)) >>= fun y29 => pure (x28, y29)) >>= fun y19 => P_treepath y19.1 y19.2.1 y19.2.2.1 y19.2.2.2.1) >>= fun r18 => pure r18))
theorem fn_BasePath (T : Tx K mg) : FnOk P w K mg base (L2.CX P w) 4 T.fBase_path T.dBase_path ["self", "first", "second"] (spR K mg (fun (c : Unit) (z : OBase × Int × Int × Unit) => [.fz ((rBase T.C_Net T.C_Base) z.1), .fz (rI z.2.1), .fz (rI z.2.2.1)]) (fun z => P_BasePath z.1 z.2.1 z.2.2.1) (RK.nw (rO (rL (rT2 rI rI))))) := by
  have GUnknownEvent_init := ok_UnknownEventInit (P := P) (w := w) (base := base) T
  have Gtree_path := fn_treepath (P := P) (w := w) (base := base) T
  refine fn_mk (Γe := fun c z => [.un, .un, .un, .un]) (Γ0 := fun c z => [.fz ((rBase T.C_Net T.C_Base) z.1), .fz (rI z.2.1), .fz (rI z.2.2.1), .un]) (Z := (fun _ _ x => .ret ((RK.nw (rO (rL (rT2 rI rI)))).ok x))) T.FBase_path scBasePath (fun _ _ => rfl) (fun _ _ => rfl) (fun _ _ => ⟨.inl rfl, .inl rfl, .inl rfl, .inl rfl, trivial⟩) (fun _ _ _ _ _ _ h => (own_none rfl h).elim) (fun _ _ _ => .inl rfl) (fun cdv A outer s H E a0 y hr => ?_)
  obtain ⟨self_, first_, second_, _⟩ := y
  show RB _ _ ([.un, .un, .un, .un] : RF.Ctx) false [.fz ((rBase T.C_Net T.C_Base) self_), .fz (rI first_), .fz (rI second_), .un] _ (P_BasePath self_ first_ second_) _
  exact (rb_age (Γa := fun hN => [.lk true hN ((rBase T.C_Net T.C_Base) self_), .fz (rI first_), .fz (rI second_), .un]) (fun hN => ⟨.lk _, .id _, .id _, .id _, trivial⟩) (fun hN => ⟨.inl rfl, .inl rfl, .inl rfl, .inl rfl, trivial⟩) fun hN => (rb_unage (Γ' := [.lk false hN ((rBase T.C_Net T.C_Base) self_), .fz (rI first_), .fz (rI second_), .un]) ⟨.lf _ _ _, .id _, .id _, .id _, trivial⟩ ⟨.inl rfl, .inl rfl, .inl rfl, .inl rfl, trivial⟩ (rb_forF (s0 := ()) (vs := [3]) (fun (s6 : Unit) => [.lk false hN ((rBase T.C_Net T.C_Base) self_), .fz (rI first_), .fz (rI second_), .un]) (fun (x : Int) Γ => Γ.set 3 (.fz (rI x))) (ps_for (passes_of rfl) rfl (pi_tup peE) (pg_name (i := 3) scBasePath.nd rfl (.inl rfl)) pssS) (ri_tup (re_coe (ρ' := (rTs rI)) (f := (fun (x : (Int × Int)) => [(fun x => x) x.1, (fun x => x) x.2])) (co_T (fun (x : (Int × Int)) => [rI x.1, rI x.2]) (fun (x : (Int × Int)) => [rI ((fun x => x) x.1), rI ((fun x => x) x.2)]) (fun x F => (.cons (fun v h => co_id _ v F h) (.cons (fun v h => co_id _ v F h) .nil)))) (re_tup (fun (y5 : Int × Int × Unit) => (y5.1, y5.2.1)) (rT2 rI rI) (fun (y5 : Int × Int × Unit) => [rI y5.1, rI y5.2.1]) (ra_cons (re_var (ρ := rI) (x := first_) 1 rfl (pv 1)) (ra_cons (re_var (ρ := rI) (x := second_) 2 rfl (pv 2)) ra_nil))))) (fun _ => rg_name) ⟨.inr rfl, .inr rfl, .inr rfl, .inl rfl, trivial⟩ (fun _ => ⟨.inl rfl, .inl rfl, .inl rfl, .inl rfl, trivial⟩) (fun _ _ => ⟨.inl rfl, .inl rfl, .inl rfl, .inl rfl, trivial⟩) (fun (s6 : Unit) (w7 : Int) => (rb_if0 (rt_not (rt_chain i_le i_lt re_int (re_var (ρ := rI) (x := w7) 3 rfl (pv 3)) (re_fld (ρ' := rI) (g := fun (x : ONet) => x.2.1) (fsNet) (re_fld (ρ' := (rNet T.C_Net)) (g := fun (x : OBase) => x.1) (fsBase T.C_Net) (re_varL (ρ := (rBase T.C_Net T.C_Base)) (x := self_) 0 rfl (pv 0)) T.cl_Base T.na_Base__net) T.cl_Net T.na_Net_events))) (rb_raise (pmk_1 T.ox_UnknownEvent T.ni_UnknownEvent T.ti_UnknownEvent GUnknownEvent_init (hr.mono (by decide)) T.bUnknownEvent_init (by rfl) T.g_UnknownEvent tE_mono (pa_cons peE pa_nil)) (takes_of rfl rfl rfl rfl) (rx_1 (re_var (ρ := rI) (x := w7) 3 rfl (pv 3)) T.g_UnknownEvent)) (rb_nil (x := ()) (.inr rfl) ⟨.inr rfl, .inr rfl, .inr rfl, .inl rfl, trivial⟩))) fun (s17 : Unit) => (rb_retNw (j := 0) (fun (r18 : (Option (List (Int × Int)))) => r18) rfl (re_nwc (h := hN) (j := 0) rfl (re_call () Gtree_path (hr.mono (by decide)) (takes_of rfl rfl rfl rfl) (ra_cons (re_fld (ρ' := (rNet T.C_Net)) (g := fun (x : OBase) => x.1) (fsBase T.C_Net) (re_varL (ρ := (rBase T.C_Net T.C_Base)) (x := self_) 0 rfl (pv 0)) T.cl_Base T.na_Base__net) (ra_cons (re_coe (ρ' := (rQ rI)) (f := (fun (x : (List Int)) => x.map (fun x => x))) (co_TQ co_id) (re_fld (ρ' := (rTs rI)) (g := fun (x : OBase) => x.2.1) (fsBase T.C_Net) (re_varL (ρ := (rBase T.C_Net T.C_Base)) (x := self_) 0 rfl (pv 0)) T.cl_Base T.na_Base_tree)) (ra_cons (re_var (ρ := rI) (x := first_) 1 rfl (pv 1)) (ra_cons (re_var (ρ := rI) (x := second_) 2 rfl (pv 2)) ra_nil)))) T.gtree_path T.Ftree_path.kp T.btree_path)) (fun _ => rfl)))))
end
end DD
namespace DD
open PySem PySem.Spec PyProof.Rows L2 KO SX RF
section
variable {P : Program} {w : World} {K : PySem.W.Frag} {mg : Str → Option Value} {base : Heap}
theorem scBaseRings : FnScope ["self", "rings", "number", "start", "end", "_"] ["self"] (defScope sBaseRings) := ⟨rfl, rfl, rfl, by decide +kernel, rfl, by decide +kernel, by decide +kernel⟩
def P_BaseRings (self_ : OBase) : Mo (List (List (Int × Int))) :=
  ((pure []) >>= fun rings_1 => (((pure self_) >>= fun x3 => pure (x3.2.2)) >>= fun xs => Mo.fold (fun s4 w5 => (((((pure self_) >>= fun x6 => pure (x6.1)) >>= fun x7 => pure (x7.2.2)) >>= fun x8 => (pure w5) >>= fun i9 => Mo.get (atI x8 i9)) >>= fun t10 => (((((((pure w5) >>= fun x13 => ((pure (1 : Int)) >>= fun x11 => (pure ()) >>= fun y12 => pure (x11, y12)) >>= fun y14 => pure (x13, y14)) >>= fun y15 => pure (y15.1, y15.2.1)) >>= fun x16 => (pure ()) >>= fun y17 => pure (x16, y17)) >>= fun y18 => pure [y18.1]) >>= fun x25 => (((pure self_) >>= fun x19 => ((pure t10.2.1) >>= fun x23 => ((pure t10.1) >>= fun x21 => (pure ()) >>= fun y22 => pure (x21, y22)) >>= fun y24 => pure (x23, y24)) >>= fun y20 => P_BasePath x19 y20.1 y20.2.1) >>= Mo.get) >>= fun y26 => Mo.rq (x25.length + y26.length ≤ sizeLine) (x25 ++ y26)) >>= fun x27 => Mo.rq (s4.length < sizeLine) x27 >>= fun x27 => (pure ((s4 ++ [x27])))))) xs (rings_1) >>= fun s28 => (pure s28)))
theorem fn_BaseRings (T : Tx K mg) : FnOk P w K mg base (L2.CX P w) 5 T.fBase_rings T.dBase_rings ["self"] (spR K mg (fun (c : Unit) (z : OBase × Unit) => [.fz ((rBase T.C_Net T.C_Base) z.1)]) (fun z => P_BaseRings z.1) (RK.on fun (xs : (List (List (Int × Int)))) => xs.map (rL (rT2 rI rI)))) := by
  have GBase_path := fn_BasePath (P := P) (w := w) (base := base) T
  refine fn_mk (Γe := fun c z => [.un, .un, .un, .un, .un, .un]) (Γ0 := fun c z => [.fz ((rBase T.C_Net T.C_Base) z.1), .un, .un, .un, .un, .un]) (Z := (fun _ _ x => .ret ((RK.on fun (xs : (List (List (Int × Int)))) => xs.map (rL (rT2 rI rI))).ok x))) T.FBase_rings scBaseRings (fun _ _ => rfl) (fun _ _ => rfl) (fun _ _ => ⟨.inl rfl, .inl rfl, .inl rfl, .inl rfl, .inl rfl, .inl rfl, trivial⟩) (fun _ _ _ _ _ _ h => (own_none rfl h).elim) (fun _ _ _ => .inl rfl) (fun cdv A outer s H E a0 y hr => ?_)
  obtain ⟨self_, _⟩ := y
  show RB _ _ ([.un, .un, .un, .un, .un, .un] : RF.Ctx) false [.fz ((rBase T.C_Net T.C_Base) self_), .un, .un, .un, .un, .un] _ (P_BaseRings self_) _
  exact (rb_age (Γa := fun hN => [.lk true hN ((rBase T.C_Net T.C_Base) self_), .un, .un, .un, .un, .un]) (fun hN => ⟨.lk _, .id _, .id _, .id _, .id _, .id _, trivial⟩) (fun hN => ⟨.inl rfl, .inl rfl, .inl rfl, .inl rfl, .inl rfl, .inl rfl, trivial⟩) fun hN => (rb_setO (ps_set (i := 1) scBaseRings.nd rfl (.inl rfl) peE) (re_lst0 (ρ := (rNw hN (rL (rT2 rI rI))))) rfl fun (rings_1 : (List (List (Int × Int)))) a2 => (rb_unage (Γ' := [.lk false hN ((rBase T.C_Net T.C_Base) self_), .ow true a2 (oL (rNw hN (rL (rT2 rI rI))) rings_1), .un, .un, .un, .un]) ⟨.lf _ _ _, .id _, .id _, .id _, .id _, .id _, trivial⟩ ⟨.inl rfl, .inl rfl, .inl rfl, .inl rfl, .inl rfl, .inl rfl, trivial⟩ (rb_forF (s0 := (rings_1)) (vs := [2]) (fun (s4 : (List (List (Int × Int)))) => [.lk false hN ((rBase T.C_Net T.C_Base) self_), .ow true a2 (oL (rNw hN (rL (rT2 rI rI))) s4), .un, .un, .un, .un]) (fun (x : Int) Γ => Γ.set 2 (.fz (rI x))) (ps_for (passes_of rfl) rfl (pi_tup peE) (pg_name (i := 2) scBaseRings.nd rfl (.inl rfl)) pssS) (ri_tup (re_fld (ρ' := (rTs rI)) (g := fun (x : OBase) => x.2.2) (fsBase T.C_Net) (re_varL (ρ := (rBase T.C_Net T.C_Base)) (x := self_) 0 rfl (pv 0)) T.cl_Base T.na_Base_closing)) (fun _ => rg_name) ⟨.inr rfl, .inr rfl, .inl rfl, .inl rfl, .inl rfl, .inl rfl, trivial⟩ (fun _ => ⟨.inl rfl, .inl rfl, .inl rfl, .inl rfl, .inl rfl, .inl rfl, trivial⟩) (fun _ _ => ⟨.inl rfl, .inl rfl, .inl rfl, .inl rfl, .inl rfl, .inl rfl, trivial⟩) (fun (s4 : (List (List (Int × Int)))) (w5 : Int) => (rb_asg (tg := (fun (x : (Int × Int × Int × Int)) => setAll [3, 4, 5, 5] [rI x.1, rI x.2.1, rI x.2.2.1, rI x.2.2.2])) (vs := [3, 4, 5, 5]) (ps_asg peE (pg_tupK (K := K) rfl rfl (pgs_cons (pg_name (i := 3) scBaseRings.nd rfl (.inl rfl)) (pgs_cons (pg_name (i := 4) scBaseRings.nd rfl (.inl rfl)) (pgs_cons (pg_name (i := 5) scBaseRings.nd rfl (.inl rfl)) (pgs_cons (pg_name (i := 5) scBaseRings.nd rfl (.inl rfl)) pgs_nil)))))) (re_ixTs (re_fld (ρ' := (rTs (rT4 rI rI rI rI))) (g := fun (x : ONet) => x.2.2) (fsNet) (re_fld (ρ' := (rNet T.C_Net)) (g := fun (x : OBase) => x.1) (fsBase T.C_Net) (re_varL (ρ := (rBase T.C_Net T.C_Base)) (x := self_) 0 rfl (pv 0)) T.cl_Base T.na_Base__net) T.cl_Net T.na_Net_spans) (re_var (ρ := rI) (x := w5) 2 rfl (pv 2))) (fun (x : (Int × Int × Int × Int)) => rg_tup (ps := [rI x.1, rI x.2.1, rI x.2.2.1, rI x.2.2.2]) [3, 4, 5, 5] rfl) (fun _ => ⟨.inl rfl, .inl rfl, .inl rfl, .inl rfl, .inl rfl, .inl rfl, trivial⟩) fun t10 => (rb_app (ps_expr (pe_bm PySem.F.plainAttrs_list PySem.F.slot_list_append PySem.F.type_list_append mt_append (pv 1) (pa_cons peE pa_nil))) rfl (re_nwl (ρ' := (rT2 rI rI)) (ρ := (rT2 rI rI)) (h := hN) (j := 0) rfl (re_cat (re_frz (re_lst (fun (y18 : (Int × Int) × Unit) => [y18.1]) (rT2 rI rI) (ra_cons (re_tup (fun (y15 : Int × Int × Unit) => (y15.1, y15.2.1)) (rT2 rI rI) (fun (y15 : Int × Int × Unit) => [rI y15.1, rI y15.2.1]) (ra_cons (re_var (ρ := rI) (x := w5) 2 rfl (pv 2)) (ra_cons re_int ra_nil))) ra_nil)) frz_L) (re_get (re_nwf (re_meth (pp := fun (y : Int × Int × Unit) => [.fz (rI y.1), .fz (rI y.2.1)]) (m := fun z => P_BasePath z.1 z.2.1 z.2.2.1) (ρo := (rBase T.C_Net T.C_Base)) (fsBase T.C_Net) (re_varL (ρ := (rBase T.C_Net T.C_Base)) (x := self_) 0 rfl (pv 0)) T.cl_Base T.m_Base_path GBase_path (hr.mono (by decide)) (takes_of rfl rfl rfl rfl) (ra_cons (re_var (ρ := rI) (x := t10.2.1) 4 rfl (pv 4)) (ra_cons (re_var (ρ := rI) (x := t10.1) 3 rfl (pv 3)) ra_nil)) T.bBase_path))))) rfl fun x27 => (rb_nil (x := ((s4 ++ [x27]))) (.inr rfl) ⟨.inr rfl, .inr rfl, .inl rfl, .inl rfl, .inl rfl, .inl rfl, trivial⟩)))) fun (s28 : (List (List (Int × Int)))) => (rb_retOn (ρ := (rL (rT2 rI rI))) (j := 0) (y := s28) rfl rfl (pv 1) rfl)))))

theorem scisspan : FnScope ["span", "round_length", "events", "start", "end", "least", "most", "joins"] ["span", "round_length", "events"] (defScope sisspan) := ⟨rfl, rfl, rfl, by decide +kernel, rfl, by decide +kernel, by decide +kernel⟩
def P_isspan (span_ : (Int × Int × Int × Int)) (round_length_ : Int) (events_ : Int) : Mo Bool :=
  (((((pure span_) >>= fun x => pure ((fun (x : (Int × Int × Int × Int)) => [x.1, x.2.1, x.2.2.1, x.2.2.2]) x)) >>= fun x2 => pure (x2.length : Int)) >>= fun i3 => (pure (4 : Int)) >>= fun j4 => pure (decide (i3 ≠ j4))) >>= fun c5 => if c5 = true then ((pure false) >>= fun r6 => pure r6) else ((pure span_) >>= fun t7 => ((((pure (0 : Int)) >>= fun i8 => (pure t7.1) >>= fun i9 => if (decide (i8 ≤ i9)) = true then ((pure events_) >>= fun i10 => pure (decide (i9 < i10))) else pure false) >>= fun b17 => if b17 then (((pure (0 : Int)) >>= fun i11 => (pure t7.2.1) >>= fun i12 => if (decide (i11 ≤ i12)) = true then ((pure events_) >>= fun i13 => pure (decide (i12 < i13))) else pure false) >>= fun b16 => if b16 then ((pure t7.1) >>= fun i14 => (pure t7.2.1) >>= fun j15 => pure (decide (i14 ≠ j15))) else pure false) else pure false) >>= fun joins_18 => (((pure joins_18) >>= fun b30 => if b30 then ((pure (0 : Int)) >>= fun i26 => (pure t7.2.2.1) >>= fun i27 => if (decide (i26 ≤ i27)) = true then ((pure t7.2.2.2) >>= fun i28 => if (decide (i27 ≤ i28)) = true then (((((pure t7.2.2.1) >>= fun i20 => (pure round_length_) >>= fun j21 => pure (i20 + j21)) >>= fun i22 => (pure (1 : Int)) >>= fun j23 => pure (i22 - j23)) >>= fun i24 => (pure 999) >>= fun j25 => pure (min i24 j25)) >>= fun i29 => pure (decide (i28 ≤ i29))) else pure false) else pure false) else pure false) >>= fun r19 => pure r19))))
theorem fn_isspan (T : Tx K mg) : FnOk P w K mg base (L2.CX P w) 2 T.fis_span T.dis_span ["span", "round_length", "events"] (spR K mg (fun (c : Unit) (z : (Int × Int × Int × Int) × Int × Int × Unit) => [.fz ((rT4 rI rI rI rI) z.1), .fz (rI z.2.1), .fz (rI z.2.2.1)]) (fun z => P_isspan z.1 z.2.1 z.2.2.1) (RK.fz rB)) := by
  refine fn_mk (Γe := fun c z => [.un, .un, .un, .un, .un, .un, .un, .un]) (Γ0 := fun c z => [.fz ((rT4 rI rI rI rI) z.1), .fz (rI z.2.1), .fz (rI z.2.2.1), .un, .un, .un, .un, .un]) (Z := (fun _ _ x => .ret ((RK.fz rB).ok x))) T.Fis_span scisspan (fun _ _ => rfl) (fun _ _ => rfl) (fun _ _ => ⟨.inl rfl, .inl rfl, .inl rfl, .inl rfl, .inl rfl, .inl rfl, .inl rfl, .inl rfl, trivial⟩) (fun _ _ _ _ _ _ h => (own_none rfl h).elim) (fun _ _ _ => .inl rfl) (fun cdv A outer s H E a0 y hr => ?_)
  obtain ⟨span_, round_length_, events_, _⟩ := y
  show RB _ _ ([.un, .un, .un, .un, .un, .un, .un, .un] : RF.Ctx) false [.fz ((rT4 rI rI rI rI) span_), .fz (rI round_length_), .fz (rI events_), .un, .un, .un, .un, .un] _ (P_isspan span_ round_length_ events_) _
  exact (rb_if1 (rt_rc (rc_i i_ne (re_len (rsq_at (ρ := rI) (fun (x : (Int × Int × Int × Int)) => [x.1, x.2.1, x.2.2.1, x.2.2.2]) (re_var (ρ := (rT4 rI rI rI rI)) (x := span_) 0 rfl (pv 0))) T.z_len) re_int)) (rb_ret (fun (r6 : Bool) => r6) re_bl (fun _ => rfl)) (rb_asg (tg := (fun (x : (Int × Int × Int × Int)) => setAll [3, 4, 5, 6] [rI x.1, rI x.2.1, rI x.2.2.1, rI x.2.2.2])) (vs := [3, 4, 5, 6]) (ps_asg peE (pg_tupK (K := K) rfl rfl (pgs_cons (pg_name (i := 3) scisspan.nd rfl (.inl rfl)) (pgs_cons (pg_name (i := 4) scisspan.nd rfl (.inl rfl)) (pgs_cons (pg_name (i := 5) scisspan.nd rfl (.inl rfl)) (pgs_cons (pg_name (i := 6) scisspan.nd rfl (.inl rfl)) pgs_nil)))))) (re_var (ρ := (rT4 rI rI rI rI)) (x := span_) 0 rfl (pv 0)) (fun (x : (Int × Int × Int × Int)) => rg_tup (ps := [rI x.1, rI x.2.1, rI x.2.2.1, rI x.2.2.2]) [3, 4, 5, 6] rfl) (fun _ => ⟨.inl rfl, .inl rfl, .inl rfl, .inl rfl, .inl rfl, .inl rfl, .inl rfl, .inl rfl, trivial⟩) fun t7 => (rb_set (ps_set (i := 7) scisspan.nd rfl (.inl rfl) peE) (re_and (re_chain i_le i_lt re_int (re_var (ρ := rI) (x := t7.1) 3 rfl (pv 3)) (re_var (ρ := rI) (x := events_) 2 rfl (pv 2))) (re_and (re_chain i_le i_lt re_int (re_var (ρ := rI) (x := t7.2.1) 4 rfl (pv 4)) (re_var (ρ := rI) (x := events_) 2 rfl (pv 2))) (re_one (re_rc (rc_i i_ne (re_var (ρ := rI) (x := t7.1) 3 rfl (pv 3)) (re_var (ρ := rI) (x := t7.2.1) 4 rfl (pv 4))))))) rfl fun (joins_18 : Bool) => (rb_ret (fun (r19 : Bool) => r19) (re_and (re_var (ρ := rB) (x := joins_18) 7 rfl (pv 7)) (re_one (re_chain3 i_le i_le i_le re_int (re_var (ρ := rI) (x := t7.2.2.1) 5 rfl (pv 5)) (re_var (ρ := rI) (x := t7.2.2.2) 6 rfl (pv 6)) (re_min2 (re_sub (re_add (re_var (ρ := rI) (x := t7.2.2.1) 5 rfl (pv 5)) (re_var (ρ := rI) (x := round_length_) 1 rfl (pv 1))) re_int) (re_con (ρ := rI) (999 : Int) (pe_glob (v := .int 999) rfl T.c_MOST_ON_SPAN ⟨_, rfl⟩) (fun _ => rfl)) T.z_min)))) (fun _ => rfl)))))

theorem scchecknet : FnScope ["round_length", "events", "spans", "number", "span"] ["round_length", "events", "spans"] (defScope schecknet) := ⟨rfl, rfl, rfl, by decide +kernel, rfl, by decide +kernel, by decide +kernel⟩
def P_checknet (round_length_ : Int) (events_ : Int) (spans_ : (List (Int × Int × Int × Int))) : Mo Unit :=
  ((((pure 2) >>= fun i1 => (pure round_length_) >>= fun i2 => if (decide (i1 ≤ i2)) = true then ((pure 60) >>= fun i3 => pure (decide (i2 ≤ i3))) else pure false) >>= fun b4 => pure (!b4)) >>= fun c5 => if c5 = true then (((pure ("round" : Str)) >>= fun x6 => (pure (0 : Int)) >>= fun x7 => Mo.rq (Enc.ok rS x6 ∧ Enc.ok rI x7) ⟨"BadNet", [("place", Enc.d rI x7), ("part", Enc.d rS x6)]⟩) >>= fun e8 => Mo.throw e8) else ((((pure (0 : Int)) >>= fun i9 => (pure events_) >>= fun i10 => if (decide (i9 ≤ i10)) = true then ((pure 12) >>= fun i11 => pure (decide (i10 ≤ i11))) else pure false) >>= fun b12 => pure (!b12)) >>= fun c13 => if c13 = true then (((pure ("events" : Str)) >>= fun x14 => (pure (0 : Int)) >>= fun x15 => Mo.rq (Enc.ok rS x14 ∧ Enc.ok rI x15) ⟨"BadNet", [("place", Enc.d rI x15), ("part", Enc.d rS x14)]⟩) >>= fun e16 => Mo.throw e16) else ((((pure spans_) >>= fun x17 => pure (x17.length : Int)) >>= fun i18 => (pure 24) >>= fun j19 => pure (decide (j19 < i18))) >>= fun c20 => if c20 = true then (((pure ("spans" : Str)) >>= fun x21 => (pure (0 : Int)) >>= fun x22 => Mo.rq (Enc.ok rS x21 ∧ Enc.ok rI x22) ⟨"BadNet", [("place", Enc.d rI x22), ("part", Enc.d rS x21)]⟩) >>= fun e23 => Mo.throw e23) else (((pure spans_) >>= fun x24 => pure (enumL x24)) >>= fun xs => Mo.fold (fun s25 w26 => (((((pure w26.2) >>= fun x32 => ((pure round_length_) >>= fun x30 => ((pure events_) >>= fun x28 => (pure ()) >>= fun y29 => pure (x28, y29)) >>= fun y31 => pure (x30, y31)) >>= fun y33 => pure (x32, y33)) >>= fun y27 => P_isspan y27.1 y27.2.1 y27.2.2.1) >>= fun b34 => pure (!b34)) >>= fun c35 => if c35 = true then (((pure ("span" : Str)) >>= fun x36 => (pure w26.1) >>= fun x37 => Mo.rq (Enc.ok rS x36 ∧ Enc.ok rI x37) ⟨"BadNet", [("place", Enc.d rI x37), ("part", Enc.d rS x36)]⟩) >>= fun e38 => Mo.throw e38) else (pure ()))) xs () >>= fun s39 => (pure ())))))
theorem fn_checknet (T : Tx K mg) : FnOk P w K mg base (L2.CX P w) 3 T.fcheck_net T.dcheck_net ["round_length", "events", "spans"] (spR K mg (fun (c : Unit) (z : Int × Int × (List (Int × Int × Int × Int)) × Unit) => [.fz (rI z.1), .fz (rI z.2.1), .fz ((rL (rT4 rI rI rI rI)) z.2.2.1)]) (fun z => P_checknet z.1 z.2.1 z.2.2.1) (RK.fz rN)) := by
  have GBadNet_init := ok_BadNetInit (P := P) (w := w) (base := base) T
  have Gis_span := fn_isspan (P := P) (w := w) (base := base) T
  refine fn_mk (Γe := fun c z => [.un, .un, .un, .un, .un]) (Γ0 := fun c z => [.fz (rI z.1), .fz (rI z.2.1), .fz ((rL (rT4 rI rI rI rI)) z.2.2.1), .un, .un]) (Z := (fun c z _ => .nx [.un, .un, .un, .un, .un])) T.Fcheck_net scchecknet (fun _ _ => rfl) (fun _ _ => rfl) (fun _ _ => ⟨.inl rfl, .inl rfl, .inl rfl, .inl rfl, .inl rfl, trivial⟩) (fun _ _ _ _ _ _ h => (own_none rfl h).elim) (fun _ _ _ => .inr ⟨rfl, fun _ _ _ => rfl⟩) (fun cdv A outer s H E a0 y hr => ?_)
  obtain ⟨round_length_, events_, spans_, _⟩ := y
  show RB _ _ ([.un, .un, .un, .un, .un] : RF.Ctx) false [.fz (rI round_length_), .fz (rI events_), .fz ((rL (rT4 rI rI rI rI)) spans_), .un, .un] _ (P_checknet round_length_ events_ spans_) _
  exact (rb_if1 (rt_not (rt_chain i_le i_le (re_con (ρ := rI) (2 : Int) (pe_glob (v := .int 2) rfl T.c_LEAST_ROUND ⟨_, rfl⟩) (fun _ => rfl)) (re_var (ρ := rI) (x := round_length_) 0 rfl (pv 0)) (re_con (ρ := rI) (60 : Int) (pe_glob (v := .int 60) rfl T.c_MOST_ROUND ⟨_, rfl⟩) (fun _ => rfl)))) (rb_raise (pmk_2 T.ox_BadNet T.ni_BadNet T.ti_BadNet GBadNet_init (hr.mono (by decide)) T.bBadNet_init (by rfl) T.g_BadNet tE_mono tE_mono (pa_cons peE (pa_cons peE pa_nil))) (takes_of rfl rfl rfl rfl) (rx_2 re_str re_int T.g_BadNet)) (rb_if1 (rt_not (rt_chain i_le i_le re_int (re_var (ρ := rI) (x := events_) 1 rfl (pv 1)) (re_con (ρ := rI) (12 : Int) (pe_glob (v := .int 12) rfl T.c_MOST_EVENTS ⟨_, rfl⟩) (fun _ => rfl)))) (rb_raise (pmk_2 T.ox_BadNet T.ni_BadNet T.ti_BadNet GBadNet_init (hr.mono (by decide)) T.bBadNet_init (by rfl) T.g_BadNet tE_mono tE_mono (pa_cons peE (pa_cons peE pa_nil))) (takes_of rfl rfl rfl rfl) (rx_2 re_str re_int T.g_BadNet)) (rb_if1 (rt_rc (rc_i i_gt (re_len (rsq_L (re_var (ρ := (rL (rT4 rI rI rI rI))) (x := spans_) 2 rfl (pv 2))) T.z_len) (re_con (ρ := rI) (24 : Int) (pe_glob (v := .int 24) rfl T.c_MOST_SPANS ⟨_, rfl⟩) (fun _ => rfl)))) (rb_raise (pmk_2 T.ox_BadNet T.ni_BadNet T.ti_BadNet GBadNet_init (hr.mono (by decide)) T.bBadNet_init (by rfl) T.g_BadNet tE_mono tE_mono (pa_cons peE (pa_cons peE pa_nil))) (takes_of rfl rfl rfl rfl) (rx_2 re_str re_int T.g_BadNet)) (rb_forF (s0 := ()) (vs := [3, 4]) (fun (s25 : Unit) => [.fz (rI round_length_), .fz (rI events_), .fz ((rL (rT4 rI rI rI rI)) spans_), .un, .un]) (fun (x : (Int × (Int × Int × Int × Int))) => setAll [3, 4] [rI x.1, (rT4 rI rI rI rI) x.2]) (ps_for (passes_of rfl) rfl (pi_enum (by rfl) T.z_enumerate (pa_cons peE pa_nil)) (pg_tupK (K := K) rfl rfl (pgs_cons (pg_name (i := 3) scchecknet.nd rfl (.inl rfl)) (pgs_cons (pg_name (i := 4) scchecknet.nd rfl (.inl rfl)) pgs_nil))) pssS) (ri_enum (re_var (ρ := (rL (rT4 rI rI rI rI))) (x := spans_) 2 rfl (pv 2))) (fun (x : (Int × (Int × Int × Int × Int))) => rg_tup (ps := [rI x.1, (rT4 rI rI rI rI) x.2]) [3, 4] rfl) ⟨.inr rfl, .inr rfl, .inr rfl, .inl rfl, .inl rfl, trivial⟩ (fun _ => ⟨.inl rfl, .inl rfl, .inl rfl, .inl rfl, .inl rfl, trivial⟩) (fun _ _ => ⟨.inl rfl, .inl rfl, .inl rfl, .inl rfl, .inl rfl, trivial⟩) (fun (s25 : Unit) (w26 : (Int × (Int × Int × Int × Int))) => (rb_if0 (rt_not (rt_val (re_call () Gis_span (hr.mono (by decide)) (takes_of rfl rfl rfl rfl) (ra_cons (re_var (ρ := (rT4 rI rI rI rI)) (x := w26.2) 4 rfl (pv 4)) (ra_cons (re_var (ρ := rI) (x := round_length_) 0 rfl (pv 0)) (ra_cons (re_var (ρ := rI) (x := events_) 1 rfl (pv 1)) ra_nil))) T.gis_span T.Fis_span.kp T.bis_span))) (rb_raise (pmk_2 T.ox_BadNet T.ni_BadNet T.ti_BadNet GBadNet_init (hr.mono (by decide)) T.bBadNet_init (by rfl) T.g_BadNet tE_mono tE_mono (pa_cons peE (pa_cons peE pa_nil))) (takes_of rfl rfl rfl rfl) (rx_2 re_str (re_var (ρ := rI) (x := w26.1) 3 rfl (pv 3)) T.g_BadNet)) (rb_nil (x := ()) (.inr rfl) ⟨.inr rfl, .inr rfl, .inr rfl, .inl rfl, .inl rfl, trivial⟩))) fun (s39 : Unit) => (rb_nil (x := ()) (.inl rfl) ⟨.inl rfl, .inl rfl, .inl rfl, .inl rfl, .inl rfl, trivial⟩)))))

theorem scNetInit : FnScope ["self", "round_length", "events", "spans", "span"] ["self", "round_length", "events", "spans"] (defScope sNetInit) := ⟨rfl, rfl, rfl, by decide +kernel, rfl, by decide +kernel, by decide +kernel⟩
def P_NetInit (round_length_ : Int) (events_ : Int) (spans_ : (List (Int × Int × Int × Int))) : Mo (ONet) :=
  ((((pure round_length_) >>= fun x6 => ((pure events_) >>= fun x4 => ((pure spans_) >>= fun x2 => (pure ()) >>= fun y3 => pure (x2, y3)) >>= fun y5 => pure (x4, y5)) >>= fun y7 => pure (x6, y7)) >>= fun y1 => P_checknet y1.1 y1.2.1 y1.2.2.1) >>= fun u8 => ((pure round_length_) >>= fun round_length_9 => ((pure events_) >>= fun events_10 => ((((pure spans_) >>= Mo.lc (fun w11 => (pure true)) (fun w11 => (pure w11))) >>= fun x12 => pure x12) >>= fun spans_13 => (pure (round_length_9, events_10, spans_13))))))
theorem fn_NetInit (T : Tx K mg) : FnOk P w K mg base (L2.CX P w) 4 T.fNet_init T.dNet_init ["self", "round_length", "events", "spans"] (spI K mg T.C_Net (fun (z : Int × Int × (List (Int × Int × Int × Int)) × Unit) => [.fz (rI z.1), .fz (rI z.2.1), .fz ((rL (rT4 rI rI rI rI)) z.2.2.1)]) (fun z => P_NetInit z.1 z.2.1 z.2.2.1) (fsNet)) := by
  have Gcheck_net := fn_checknet (P := P) (w := w) (base := base) T
  refine init_mk (Γe := [.un, .un, .un, .un, .un]) (Γ0 := fun a z => [.ow false a (oIn T.C_Net []), .fz (rI z.1), .fz (rI z.2.1), .fz ((rL (rT4 rI rI rI rI)) z.2.2.1), .un]) (Γo := fun a z => [.ow false a (oIn T.C_Net (fsNet z)), .un, .un, .un, .un]) T.FNet_init scNetInit (fun _ => rfl) (fun _ _ => rfl) (fun _ _ => ⟨.inl rfl, .inl rfl, .inl rfl, .inl rfl, .inl rfl, trivial⟩) (fun _ => rfl) (fun _ _ => rfl) (fun cdv A outer s H E a0 y hr => ?_)
  obtain ⟨round_length_, events_, spans_, _⟩ := y
  show RB _ _ ([.un, .un, .un, .un, .un] : RF.Ctx) false [.ow false a0 (oIn T.C_Net []), .fz (rI round_length_), .fz (rI events_), .fz ((rL (rT4 rI rI rI rI)) spans_), .un] _ (P_NetInit round_length_ events_ spans_) _
  exact (rb_expr (ps_expr peE) (re_call () Gcheck_net (hr.mono (by decide)) (takes_of rfl rfl rfl rfl) (ra_cons (re_var (ρ := rI) (x := round_length_) 1 rfl (pv 1)) (ra_cons (re_var (ρ := rI) (x := events_) 2 rfl (pv 2)) (ra_cons (re_var (ρ := (rL (rT4 rI rI rI rI))) (x := spans_) 3 rfl (pv 3)) ra_nil))) T.gcheck_net T.Fcheck_net.kp T.bcheck_net) fun u8 => (rb_setfld (ps_fld (pv 0) peE rfl) rfl (re_var (ρ := rI) (x := round_length_) 1 rfl (pv 1)) T.cl_Net T.na_Net_round_length (plt pl0) rfl fun round_length_9 => (rb_setfld (ps_fld (pv 0) peE rfl) rfl (re_var (ρ := rI) (x := events_) 2 rfl (pv 2)) T.cl_Net T.na_Net_events (plt (pl1 pl0)) rfl fun events_10 => (rb_setfld (ps_fld (pv 0) peE rfl) rfl (re_tuple (rsq_F (re_of (pe_lc (own := [("span", 4)]) (g := gName 4) rfl scNetInit.nd (pi_list peE) (blkOk_by (own := [("span", 4)]) (N := ["self", "round_length", "events", "spans", "span"]) (sc := defScope sNetInit) (by decide +kernel)) (fun _ _ _ _ _ => pg_name (i := 4) scNetInit.nd rfl (.inl rfl)) ptPi peEi) (rte_lc (vs := [4]) (fun (x : (Int × Int × Int × Int)) Γ => Γ.set 4 (.fz ((rT4 rI rI rI rI) x))) (ri_list (re_var (ρ := (rL (rT4 rI rI rI rI))) (x := spans_) 3 rfl (pv 3))) (fun _ => rg_name) (fun _ => rgo_name) (un1 rfl) (fun (w11 : (Int × Int × Int × Int)) => rti_nil) (fun (w11 : (Int × Int × Int × Int)) _ _ _ _ _ => (re_tupT (fun (x : (Int × Int × Int × Int)) => [rI x.1, rI x.2.1, rI x.2.2.1, rI x.2.2.2]) (re_var (ρ := (rT4 rI rI rI rI)) (x := w11) 4 rfl (pv 4)) T.z_tuple))))) T.z_tuple) T.cl_Net T.na_Net_spans (plt (pl1 (pl1 pl0))) rfl fun spans_13 => (rb_nil (x := (round_length_9, events_10, spans_13)) (.inl rfl) ⟨.inr rfl, .inl rfl, .inl rfl, .inl rfl, .inl rfl, trivial⟩)))))

theorem scLlength : FnScope ["_law_pool_here"] ["_law_pool_here"] (defScope sLlength) := ⟨rfl, rfl, rfl, by decide +kernel, rfl, by decide +kernel, by decide +kernel⟩
def P_Llength  : Mo Int :=
  (((((pure (3 : Int)) >>= fun x2 => (pure ()) >>= fun y3 => pure (x2, y3)) >>= fun y1 => Mo.take y1.1) >>= fun i4 => (pure (0 : Int)) >>= fun j5 => pure (decide (i4 = j5))) >>= fun c6 => if c6 = true then (((pure (2 : Int)) >>= fun i11 => (((pure (59 : Int)) >>= fun x9 => (pure ()) >>= fun y10 => pure (x9, y10)) >>= fun y8 => Mo.take y8.1) >>= fun j12 => pure (i11 + j12)) >>= fun r7 => pure r7) else (((((pure (2 : Int)) >>= fun x24 => ((pure (3 : Int)) >>= fun x22 => ((pure (5 : Int)) >>= fun x20 => ((pure (10 : Int)) >>= fun x18 => ((pure (24 : Int)) >>= fun x16 => ((pure (60 : Int)) >>= fun x14 => (pure ()) >>= fun y15 => pure (x14, y15)) >>= fun y17 => pure (x16, y17)) >>= fun y19 => pure (x18, y19)) >>= fun y21 => pure (x20, y21)) >>= fun y23 => pure (x22, y23)) >>= fun y25 => pure (x24, y25)) >>= fun y26 => pure [y26.1, y26.2.1, y26.2.2.1, y26.2.2.2.1, y26.2.2.2.2.1, y26.2.2.2.2.2.1]) >>= fun x30 => (((pure (6 : Int)) >>= fun x28 => (pure ()) >>= fun y29 => pure (x28, y29)) >>= fun y27 => Mo.take y27.1) >>= fun i31 => Mo.get (atI x30 i31)) >>= fun r13 => pure r13))
theorem fn_Llength (T : Tx K mg) : FnOk P w K mg base (L2.CX P w) 2 T.f_law_length T.d_law_length ["_law_pool_here"] (spR K mg (fun (c : Addr) (z : Unit) => [.ow false c oPool]) (fun z => P_Llength ) (RK.fz rI)) := by
  have G_law_take := fn_take (P := P) (w := w) (base := base) T
  refine fn_mk (Γe := fun c z => [.ow false c oPool]) (Γ0 := fun c z => [.ow false c oPool]) (Z := (fun _ _ x => .ret ((RK.fz rI).ok x))) T.F_law_length scLlength (fun _ _ => rfl) (fun _ _ => rfl) (fun _ _ => ⟨.inr rfl, trivial⟩) (fun _ _ => own_first rfl) (fun _ _ _ => .inl rfl) (fun cdv A outer s H E a0 y hr => ?_)
  skip
  show RB _ _ ([.ow false a0 oPool] : RF.Ctx) false [.ow false a0 oPool] _ (P_Llength ) _
  exact (rb_if1 (rt_rc (rc_i i_eq (re_call a0 G_law_take (hr.mono (by decide)) (takes_of rfl rfl rfl rfl) (ra_own (qo := oPool) rfl (pv 0) (ra_cons re_int ra_nil)) T.g_law_take T.F_law_take.kp T.b_law_take) re_int)) (rb_ret (fun (r7 : Int) => r7) (re_add re_int (re_call a0 G_law_take (hr.mono (by decide)) (takes_of rfl rfl rfl rfl) (ra_own (qo := oPool) rfl (pv 0) (ra_cons re_int ra_nil)) T.g_law_take T.F_law_take.kp T.b_law_take)) (fun _ => rfl)) (rb_ret (fun (r13 : Int) => r13) (re_ixL (re_frz (re_lst (fun (y26 : Int × Int × Int × Int × Int × Int × Unit) => [y26.1, y26.2.1, y26.2.2.1, y26.2.2.2.1, y26.2.2.2.2.1, y26.2.2.2.2.2.1]) rI (ra_cons re_int (ra_cons re_int (ra_cons re_int (ra_cons re_int (ra_cons re_int (ra_cons re_int ra_nil))))))) frz_L) (re_call a0 G_law_take (hr.mono (by decide)) (takes_of rfl rfl rfl rfl) (ra_own (qo := oPool) rfl (pv 0) (ra_cons re_int ra_nil)) T.g_law_take T.F_law_take.kp T.b_law_take)) (fun _ => rfl)))
end
end DD
namespace DD
open PySem PySem.Spec PyProof.Rows L2 KO SX RF
section
variable {P : Program} {w : World} {K : PySem.W.Frag} {mg : Str → Option Value} {base : Heap}
theorem scLmany : FnScope ["_law_pool_here", "_law_way"] ["_law_pool_here"] (defScope sLmany) := ⟨rfl, rfl, rfl, by decide +kernel, rfl, by decide +kernel, by decide +kernel⟩
def P_Lmany  : Mo Int :=
  ((((pure (10 : Int)) >>= fun x2 => (pure ()) >>= fun y3 => pure (x2, y3)) >>= fun y1 => Mo.take y1.1) >>= fun way_4 => (((pure way_4) >>= fun i5 => (pure (0 : Int)) >>= fun j6 => pure (decide (i5 = j6))) >>= fun c7 => if c7 = true then ((((pure (2 : Int)) >>= fun x10 => (pure ()) >>= fun y11 => pure (x10, y11)) >>= fun y9 => Mo.take y9.1) >>= fun r8 => pure r8) else (((pure way_4) >>= fun i12 => (pure (1 : Int)) >>= fun j13 => pure (decide (i12 = j13))) >>= fun c14 => if c14 = true then (((pure (7 : Int)) >>= fun i19 => (((pure (6 : Int)) >>= fun x17 => (pure ()) >>= fun y18 => pure (x17, y18)) >>= fun y16 => Mo.take y16.1) >>= fun j20 => pure (i19 + j20)) >>= fun r15 => pure r15) else (((pure (2 : Int)) >>= fun i25 => (((pure (5 : Int)) >>= fun x23 => (pure ()) >>= fun y24 => pure (x23, y24)) >>= fun y22 => Mo.take y22.1) >>= fun j26 => pure (i25 + j26)) >>= fun r21 => pure r21))))
theorem fn_Lmany (T : Tx K mg) : FnOk P w K mg base (L2.CX P w) 2 T.f_law_many T.d_law_many ["_law_pool_here"] (spR K mg (fun (c : Addr) (z : Unit) => [.ow false c oPool]) (fun z => P_Lmany ) (RK.fz rI)) := by
  have G_law_take := fn_take (P := P) (w := w) (base := base) T
  refine fn_mk (Γe := fun c z => [.ow false c oPool, .un]) (Γ0 := fun c z => [.ow false c oPool, .un]) (Z := (fun _ _ x => .ret ((RK.fz rI).ok x))) T.F_law_many scLmany (fun _ _ => rfl) (fun _ _ => rfl) (fun _ _ => ⟨.inr rfl, .inl rfl, trivial⟩) (fun _ _ => own_first rfl) (fun _ _ _ => .inl rfl) (fun cdv A outer s H E a0 y hr => ?_)
  skip
  show RB _ _ ([.ow false a0 oPool, .un] : RF.Ctx) false [.ow false a0 oPool, .un] _ (P_Lmany ) _
  exact (rb_set (ps_set (i := 1) scLmany.nd rfl (.inl rfl) peE) (re_call a0 G_law_take (hr.mono (by decide)) (takes_of rfl rfl rfl rfl) (ra_own (qo := oPool) rfl (pv 0) (ra_cons re_int ra_nil)) T.g_law_take T.F_law_take.kp T.b_law_take) rfl fun (way_4 : Int) => (rb_if1 (rt_rc (rc_i i_eq (re_var (ρ := rI) (x := way_4) 1 rfl (pv 1)) re_int)) (rb_ret (fun (r8 : Int) => r8) (re_call a0 G_law_take (hr.mono (by decide)) (takes_of rfl rfl rfl rfl) (ra_own (qo := oPool) rfl (pv 0) (ra_cons re_int ra_nil)) T.g_law_take T.F_law_take.kp T.b_law_take) (fun _ => rfl)) (rb_if1 (rt_rc (rc_i i_eq (re_var (ρ := rI) (x := way_4) 1 rfl (pv 1)) re_int)) (rb_ret (fun (r15 : Int) => r15) (re_add re_int (re_call a0 G_law_take (hr.mono (by decide)) (takes_of rfl rfl rfl rfl) (ra_own (qo := oPool) rfl (pv 0) (ra_cons re_int ra_nil)) T.g_law_take T.F_law_take.kp T.b_law_take)) (fun _ => rfl)) (rb_ret (fun (r21 : Int) => r21) (re_add re_int (re_call a0 G_law_take (hr.mono (by decide)) (takes_of rfl rfl rfl rfl) (ra_own (qo := oPool) rfl (pv 0) (ra_cons re_int ra_nil)) T.g_law_take T.F_law_take.kp T.b_law_take)) (fun _ => rfl)))))

theorem scLcount : FnScope ["_law_pool_here", "_law_many_here"] ["_law_pool_here", "_law_many_here"] (defScope sLcount) := ⟨rfl, rfl, rfl, by decide +kernel, rfl, by decide +kernel, by decide +kernel⟩
def P_Lcount (many_here_ : Int) : Mo Int :=
  (((pure many_here_) >>= fun i1 => (pure (2 : Int)) >>= fun j2 => pure (decide (i1 < j2))) >>= fun c3 => if c3 = true then ((pure (0 : Int)) >>= fun r4 => pure r4) else (((((pure (10 : Int)) >>= fun x6 => (pure ()) >>= fun y7 => pure (x6, y7)) >>= fun y5 => Mo.take y5.1) >>= fun i8 => (pure (0 : Int)) >>= fun j9 => pure (decide (i8 = j9))) >>= fun c10 => if c10 = true then (((pure (8 : Int)) >>= fun i15 => (((pure (17 : Int)) >>= fun x13 => (pure ()) >>= fun y14 => pure (x13, y14)) >>= fun y12 => Mo.take y12.1) >>= fun j16 => pure (i15 + j16)) >>= fun r11 => pure r11) else ((((pure (8 : Int)) >>= fun x19 => (pure ()) >>= fun y20 => pure (x19, y20)) >>= fun y18 => Mo.take y18.1) >>= fun r17 => pure r17)))
theorem fn_Lcount (T : Tx K mg) : FnOk P w K mg base (L2.CX P w) 2 T.f_law_count T.d_law_count ["_law_pool_here", "_law_many_here"] (spR K mg (fun (c : Addr) (z : Int × Unit) => [.ow false c oPool, .fz (rI z.1)]) (fun z => P_Lcount z.1) (RK.fz rI)) := by
  have G_law_take := fn_take (P := P) (w := w) (base := base) T
  refine fn_mk (Γe := fun c z => [.ow false c oPool, .un]) (Γ0 := fun c z => [.ow false c oPool, .fz (rI z.1)]) (Z := (fun _ _ x => .ret ((RK.fz rI).ok x))) T.F_law_count scLcount (fun _ _ => rfl) (fun _ _ => rfl) (fun _ _ => ⟨.inr rfl, .inl rfl, trivial⟩) (fun _ _ => own_first rfl) (fun _ _ _ => .inl rfl) (fun cdv A outer s H E a0 y hr => ?_)
  obtain ⟨many_here_, _⟩ := y
  show RB _ _ ([.ow false a0 oPool, .un] : RF.Ctx) false [.ow false a0 oPool, .fz (rI many_here_)] _ (P_Lcount many_here_) _
  exact (rb_if1 (rt_rc (rc_i i_lt (re_var (ρ := rI) (x := many_here_) 1 rfl (pv 1)) re_int)) (rb_ret (fun (r4 : Int) => r4) re_int (fun _ => rfl)) (rb_if1 (rt_rc (rc_i i_eq (re_call a0 G_law_take (hr.mono (by decide)) (takes_of rfl rfl rfl rfl) (ra_own (qo := oPool) rfl (pv 0) (ra_cons re_int ra_nil)) T.g_law_take T.F_law_take.kp T.b_law_take) re_int)) (rb_ret (fun (r11 : Int) => r11) (re_add re_int (re_call a0 G_law_take (hr.mono (by decide)) (takes_of rfl rfl rfl rfl) (ra_own (qo := oPool) rfl (pv 0) (ra_cons re_int ra_nil)) T.g_law_take T.F_law_take.kp T.b_law_take)) (fun _ => rfl)) (rb_ret (fun (r17 : Int) => r17) (re_call a0 G_law_take (hr.mono (by decide)) (takes_of rfl rfl rfl rfl) (ra_own (qo := oPool) rfl (pv 0) (ra_cons re_int ra_nil)) T.g_law_take T.F_law_take.kp T.b_law_take) (fun _ => rfl))))

theorem scLanyspans : FnScope ["_law_pool_here", "_law_length_here", "_law_many_here", "_law_count_here", "_law_spans", "_law_k", "_law_start", "_law_end", "_law_room", "_law_low"] ["_law_pool_here", "_law_length_here", "_law_many_here", "_law_count_here"] (defScope sLanyspans) := ⟨rfl, rfl, rfl, by decide +kernel, rfl, by decide +kernel, by decide +kernel⟩
def P_Lanyspans (length_here_ : Int) (many_here_ : Int) (count_here_ : Int) : Mo (List (Int × Int × Int × Int)) :=
  ((pure []) >>= fun spans_1 => (((pure count_here_) >>= fun i3 => Mo.rq (-(2 ^ 62) ≤ i3 ∧ i3 < 2 ^ 62) (rangeL 0 i3.toNat)) >>= fun xs => Mo.fold (fun s5 w6 => ((((pure many_here_) >>= fun x8 => (pure ()) >>= fun y9 => pure (x8, y9)) >>= fun y7 => Mo.take y7.1) >>= fun start_10 => (((((pure start_10) >>= fun i11 => (pure (1 : Int)) >>= fun j12 => pure (i11 + j12)) >>= fun i18 => ((((pure many_here_) >>= fun i13 => (pure (1 : Int)) >>= fun j14 => pure (i13 - j14)) >>= fun x16 => (pure ()) >>= fun y17 => pure (x16, y17)) >>= fun y15 => Mo.take y15.1) >>= fun j19 => pure (i18 + j19)) >>= fun i20 => (pure many_here_) >>= fun j21 => Mo.rq (0 < j21) (i20 % j21)) >>= fun end_22 => (((pure (3 : Int)) >>= fun i23 => (pure length_here_) >>= fun j24 => Mo.rq (CMul i23 j24) (i23 * j24)) >>= fun room_25 => (((((pure (6 : Int)) >>= fun x27 => (pure ()) >>= fun y28 => pure (x27, y28)) >>= fun y26 => Mo.take y26.1) >>= fun i29 => (pure (0 : Int)) >>= fun j30 => pure (decide (i29 = j30))) >>= fun c31 => (if c31 = true then ((pure (1000 : Int)) >>= fun room_32 => (pure (room_32))) else (pure (room_25))) >>= fun j33 => ((((pure j33) >>= fun x35 => (pure ()) >>= fun y36 => pure (x35, y36)) >>= fun y34 => Mo.take y34.1) >>= fun low_37 => ((((pure start_10) >>= fun x53 => ((pure end_22) >>= fun x51 => ((pure low_37) >>= fun x49 => (((pure low_37) >>= fun i45 => ((((pure length_here_) >>= fun i40 => ((pure (1000 : Int)) >>= fun i38 => (pure low_37) >>= fun j39 => pure (i38 - j39)) >>= fun j41 => pure (min i40 j41)) >>= fun x43 => (pure ()) >>= fun y44 => pure (x43, y44)) >>= fun y42 => Mo.take y42.1) >>= fun j46 => pure (i45 + j46)) >>= fun x47 => (pure ()) >>= fun y48 => pure (x47, y48)) >>= fun y50 => pure (x49, y50)) >>= fun y52 => pure (x51, y52)) >>= fun y54 => pure (x53, y54)) >>= fun y55 => pure (y55.1, y55.2.1, y55.2.2.1, y55.2.2.2.1)) >>= fun x56 => Mo.rq (s5.length < sizeLine) x56 >>= fun x56 => (((((pure (8 : Int)) >>= fun x58 => (pure ()) >>= fun y59 => pure (x58, y59)) >>= fun y57 => Mo.take y57.1) >>= fun i60 => (pure (0 : Int)) >>= fun j61 => pure (decide (i60 = j61))) >>= fun c62 => if c62 = true then ((((((pure w6) >>= fun i63 => (pure (1 : Int)) >>= fun j64 => pure (i63 + j64)) >>= fun x66 => (pure ()) >>= fun y67 => pure (x66, y67)) >>= fun y65 => Mo.take y65.1) >>= fun i68 => Mo.get (atI (s5 ++ [x56]) i68)) >>= fun x69 => (pure w6) >>= fun j70 => Mo.get (ixN (s5 ++ [x56]).length j70) >>= fun n71 => (pure (((s5 ++ [x56]).set n71 x69)))) else (pure ((s5 ++ [x56]))))))))))) xs (spans_1) >>= fun s72 => (pure s72)))
theorem fn_Lanyspans (T : Tx K mg) : FnOk P w K mg base (L2.CX P w) 2 T.f_law_any_spans T.d_law_any_spans ["_law_pool_here", "_law_length_here", "_law_many_here", "_law_count_here"] (spR K mg (fun (c : Addr) (z : Int × Int × Int × Unit) => [.ow false c oPool, .fz (rI z.1), .fz (rI z.2.1), .fz (rI z.2.2.1)]) (fun z => P_Lanyspans z.1 z.2.1 z.2.2.1) (RK.ow (oL (rT4 rI rI rI rI)))) := by
  have G_law_take := fn_take (P := P) (w := w) (base := base) T
  refine fn_mk (Γe := fun c z => [.ow false c oPool, .un, .un, .un, .un, .un, .un, .un, .un, .un]) (Γ0 := fun c z => [.ow false c oPool, .fz (rI z.1), .fz (rI z.2.1), .fz (rI z.2.2.1), .un, .un, .un, .un, .un, .un]) (Z := (fun _ _ x => .ret ((RK.ow (oL (rT4 rI rI rI rI))).ok x))) T.F_law_any_spans scLanyspans (fun _ _ => rfl) (fun _ _ => rfl) (fun _ _ => ⟨.inr rfl, .inl rfl, .inl rfl, .inl rfl, .inl rfl, .inl rfl, .inl rfl, .inl rfl, .inl rfl, .inl rfl, trivial⟩) (fun _ _ => own_first rfl) (fun _ _ _ => .inl rfl) (fun cdv A outer s H E a0 y hr => ?_)
  obtain ⟨length_here_, many_here_, count_here_, _⟩ := y
  show RB _ _ ([.ow false a0 oPool, .un, .un, .un, .un, .un, .un, .un, .un, .un] : RF.Ctx) false [.ow false a0 oPool, .fz (rI length_here_), .fz (rI many_here_), .fz (rI count_here_), .un, .un, .un, .un, .un, .un] _ (P_Lanyspans length_here_ many_here_ count_here_) _
  exact (rb_setO (ps_set (i := 4) scLanyspans.nd rfl (.inl rfl) peE) (re_lst0 (ρ := (rT4 rI rI rI rI))) rfl fun (spans_1 : (List (Int × Int × Int × Int))) a2 => (rb_forF (s0 := (spans_1)) (vs := [5]) (fun (s5 : (List (Int × Int × Int × Int))) => [.ow false a0 oPool, .fz (rI length_here_), .fz (rI many_here_), .fz (rI count_here_), .ow true a2 (oL (rT4 rI rI rI rI) s5), .un, .un, .un, .un, .un]) (fun (x : Int) Γ => Γ.set 5 (.fz (rI x))) (ps_for (passes_of rfl) rfl (pi_range1 (by rfl) T.z_range (pa_cons peE pa_nil)) (pg_name (i := 5) scLanyspans.nd rfl (.inl rfl)) pssS) (ri_range1 (re_var (ρ := rI) (x := count_here_) 3 rfl (pv 3))) (fun _ => rg_name) ⟨.inr rfl, .inr rfl, .inr rfl, .inr rfl, .inr rfl, .inl rfl, .inl rfl, .inl rfl, .inl rfl, .inl rfl, trivial⟩ (fun _ => ⟨.inr rfl, .inl rfl, .inl rfl, .inl rfl, .inl rfl, .inl rfl, .inl rfl, .inl rfl, .inl rfl, .inl rfl, trivial⟩) (fun _ _ => ⟨.inr rfl, .inl rfl, .inl rfl, .inl rfl, .inl rfl, .inl rfl, .inl rfl, .inl rfl, .inl rfl, .inl rfl, trivial⟩) (fun (s5 : (List (Int × Int × Int × Int))) (w6 : Int) => (rb_set (ps_set (i := 6) scLanyspans.nd rfl (.inl rfl) peE) (re_call a0 G_law_take (hr.mono (by decide)) (takes_of rfl rfl rfl rfl) (ra_own (qo := oPool) rfl (pv 0) (ra_cons (re_var (ρ := rI) (x := many_here_) 2 rfl (pv 2)) ra_nil)) T.g_law_take T.F_law_take.kp T.b_law_take) rfl fun (start_10 : Int) => (rb_set (ps_set (i := 7) scLanyspans.nd rfl (.inl rfl) peE) (re_mod (re_intI (re_add (re_add (re_var (ρ := rI) (x := start_10) 6 rfl (pv 6)) re_int) (re_call a0 G_law_take (hr.mono (by decide)) (takes_of rfl rfl rfl rfl) (ra_own (qo := oPool) rfl (pv 0) (ra_cons (re_sub (re_var (ρ := rI) (x := many_here_) 2 rfl (pv 2)) re_int) ra_nil)) T.g_law_take T.F_law_take.kp T.b_law_take)) T.z_int) (re_var (ρ := rI) (x := many_here_) 2 rfl (pv 2))) rfl fun (end_22 : Int) => (rb_set (ps_set (i := 8) scLanyspans.nd rfl (.inl rfl) peE) (re_mul re_int (re_var (ρ := rI) (x := length_here_) 1 rfl (pv 1))) rfl fun (room_25 : Int) => (rb_ifJ (fun (j33 : Int) => [.ow false a0 oPool, .fz (rI length_here_), .fz (rI many_here_), .fz (rI count_here_), .ow true a2 (oL (rT4 rI rI rI rI) s5), .fz (rI w6), .fz (rI start_10), .fz (rI end_22), .fz (rI j33), .un]) (rt_rc (rc_i i_eq (re_call a0 G_law_take (hr.mono (by decide)) (takes_of rfl rfl rfl rfl) (ra_own (qo := oPool) rfl (pv 0) (ra_cons re_int ra_nil)) T.g_law_take T.F_law_take.kp T.b_law_take) re_int)) (rb_set (ps_set (i := 8) scLanyspans.nd rfl (.inl rfl) peE) re_int rfl fun (room_32 : Int) => (rb_nil (x := (room_32)) (.inl rfl) ⟨.inr rfl, .inr rfl, .inr rfl, .inr rfl, .inr rfl, .inr rfl, .inr rfl, .inr rfl, .inr rfl, .inl rfl, trivial⟩)) (rb_nil (x := (room_25)) (.inl rfl) ⟨.inr rfl, .inr rfl, .inr rfl, .inr rfl, .inr rfl, .inr rfl, .inr rfl, .inr rfl, .inr rfl, .inl rfl, trivial⟩) (fun _ => ⟨.inr rfl, .inl rfl, .inl rfl, .inl rfl, .inl rfl, .inl rfl, .inl rfl, .inl rfl, .inl rfl, .inl rfl, trivial⟩) fun (j33 : Int) => (rb_set (ps_set (i := 9) scLanyspans.nd rfl (.inl rfl) peE) (re_call a0 G_law_take (hr.mono (by decide)) (takes_of rfl rfl rfl rfl) (ra_own (qo := oPool) rfl (pv 0) (ra_cons (re_var (ρ := rI) (x := j33) 8 rfl (pv 8)) ra_nil)) T.g_law_take T.F_law_take.kp T.b_law_take) rfl fun (low_37 : Int) => (rb_app (ps_expr (pe_bm PySem.F.plainAttrs_list PySem.F.slot_list_append PySem.F.type_list_append mt_append (pv 4) (pa_cons peE pa_nil))) rfl (re_tup (fun (y55 : Int × Int × Int × Int × Unit) => (y55.1, y55.2.1, y55.2.2.1, y55.2.2.2.1)) (rT4 rI rI rI rI) (fun (y55 : Int × Int × Int × Int × Unit) => [rI y55.1, rI y55.2.1, rI y55.2.2.1, rI y55.2.2.2.1]) (ra_cons (re_var (ρ := rI) (x := start_10) 6 rfl (pv 6)) (ra_cons (re_var (ρ := rI) (x := end_22) 7 rfl (pv 7)) (ra_cons (re_var (ρ := rI) (x := low_37) 9 rfl (pv 9)) (ra_cons (re_add (re_var (ρ := rI) (x := low_37) 9 rfl (pv 9)) (re_call a0 G_law_take (hr.mono (by decide)) (takes_of rfl rfl rfl rfl) (ra_own (qo := oPool) rfl (pv 0) (ra_cons (re_min2 (re_var (ρ := rI) (x := length_here_) 1 rfl (pv 1)) (re_sub re_int (re_var (ρ := rI) (x := low_37) 9 rfl (pv 9))) T.z_min) ra_nil)) T.g_law_take T.F_law_take.kp T.b_law_take)) ra_nil))))) rfl fun x56 => (rb_if0 (rt_rc (rc_i i_eq (re_call a0 G_law_take (hr.mono (by decide)) (takes_of rfl rfl rfl rfl) (ra_own (qo := oPool) rfl (pv 0) (ra_cons re_int ra_nil)) T.g_law_take T.F_law_take.kp T.b_law_take) re_int)) (rb_setix (ps_asg peE (pg_sub (pv 4) peE set_list)) rfl (re_ixO rfl (pv 4) (re_call a0 G_law_take (hr.mono (by decide)) (takes_of rfl rfl rfl rfl) (ra_own (qo := oPool) rfl (pv 0) (ra_cons (re_add (re_var (ρ := rI) (x := w6) 5 rfl (pv 5)) re_int) ra_nil)) T.g_law_take T.F_law_take.kp T.b_law_take)) (re_var (ρ := rI) (x := w6) 5 rfl (pv 5)) rfl fun x69 j70 n71 => (rb_nil (x := (((s5 ++ [x56]).set n71 x69))) (.inr rfl) ⟨.inr rfl, .inr rfl, .inr rfl, .inr rfl, .inr rfl, .inl rfl, .inl rfl, .inl rfl, .inl rfl, .inl rfl, trivial⟩)) (rb_nil (x := ((s5 ++ [x56]))) (.inr rfl) ⟨.inr rfl, .inr rfl, .inr rfl, .inr rfl, .inr rfl, .inl rfl, .inl rfl, .inl rfl, .inl rfl, .inl rfl, trivial⟩))))))))) fun (s72 : (List (Int × Int × Int × Int))) => (rb_retO (y := s72) (z := s72) (k := oL (rT4 rI rI rI rI)) rfl (pv 4) rfl rfl)))

theorem scLtreeway : FnScope ["_law_many_here", "_law_spans", "_law_tree_here", "_law_first", "_law_second", "_law_ways", "_law_k", "_law_one", "_law_span"] ["_law_many_here", "_law_spans", "_law_tree_here", "_law_first", "_law_second"] (defScope sLtreeway) := ⟨rfl, rfl, rfl, by decide +kernel, rfl, by decide +kernel, by decide +kernel⟩
def P_Ltreeway (many_here_ : Int) (spans_ : (List (Int × Int × Int × Int))) (tree_here_ : (List Int)) (first_ : Int) (second_ : Int) : Mo (Option (List (Int × Int))) :=
  (((pure first_) >>= fun k1 => (pure []) >>= fun v2 => pure [(k1, v2)]) >>= fun ways_3 => (((pure many_here_) >>= fun i5 => Mo.rq (-(2 ^ 62) ≤ i5 ∧ i5 < 2 ^ 62) (rangeL 0 i5.toNat)) >>= fun xs => Mo.fold (fun s7 w8 => ((pure tree_here_) >>= fun xs => Mo.fold (fun s9 w10 => (((pure spans_) >>= fun x11 => (pure w10) >>= fun i12 => Mo.get (atI x11 i12)) >>= fun span_13 => (((((pure span_13) >>= fun x14 => pure x14.1) >>= fun k15 => pure ((dget s9 k15).isSome)) >>= fun b18 => if b18 then (((pure span_13) >>= fun x16 => pure x16.2.1) >>= fun k17 => pure (!(dget s9 k17).isSome)) else pure false) >>= fun c19 => if c19 = true then (((((pure span_13) >>= fun x20 => pure x20.1) >>= fun i21 => Mo.get (dget s9 i21)) >>= fun x30 => (((((pure w10) >>= fun x24 => ((pure (1 : Int)) >>= fun x22 => (pure ()) >>= fun y23 => pure (x22, y23)) >>= fun y25 => pure (x24, y25)) >>= fun y26 => pure (y26.1, y26.2.1)) >>= fun x27 => (pure ()) >>= fun y28 => pure (x27, y28)) >>= fun y29 => pure [y29.1]) >>= fun y31 => Mo.rq (x30.length + y31.length ≤ sizeLine) (x30 ++ y31)) >>= fun x33 => ((pure span_13) >>= fun x32 => pure x32.2.1) >>= fun k34 => Mo.rq (s9.length < sizeLine) k34 >>= fun k35 => (pure ((dput s9 k35 x33)))) else (((((pure span_13) >>= fun x36 => pure x36.2.1) >>= fun k37 => pure ((dget s9 k37).isSome)) >>= fun b40 => if b40 then (((pure span_13) >>= fun x38 => pure x38.1) >>= fun k39 => pure (!(dget s9 k39).isSome)) else pure false) >>= fun c41 => if c41 = true then (((((pure span_13) >>= fun x42 => pure x42.2.1) >>= fun i43 => Mo.get (dget s9 i43)) >>= fun x53 => (((((pure w10) >>= fun x47 => (((pure (1 : Int)) >>= fun i44 => pure (-i44)) >>= fun x45 => (pure ()) >>= fun y46 => pure (x45, y46)) >>= fun y48 => pure (x47, y48)) >>= fun y49 => pure (y49.1, y49.2.1)) >>= fun x50 => (pure ()) >>= fun y51 => pure (x50, y51)) >>= fun y52 => pure [y52.1]) >>= fun y54 => Mo.rq (x53.length + y54.length ≤ sizeLine) (x53 ++ y54)) >>= fun x56 => ((pure span_13) >>= fun x55 => pure x55.1) >>= fun k57 => Mo.rq (s9.length < sizeLine) k57 >>= fun k58 => (pure ((dput s9 k58 x56)))) else (pure (s9)))))) xs (s7) >>= fun s59 => (pure (s59)))) xs (ways_3) >>= fun s60 => (((pure second_) >>= fun k62 => pure (dget s60 k62)) >>= fun r61 => pure r61)))
theorem fn_Ltreeway (T : Tx K mg) : FnOk P w K mg base (L2.CX P w) 2 T.f_law_tree_way T.d_law_tree_way ["_law_many_here", "_law_spans", "_law_tree_here", "_law_first", "_law_second"] (spR K mg (fun (c : Unit) (z : Int × (List (Int × Int × Int × Int)) × (List Int) × Int × Int × Unit) => [.fz (rI z.1), .fz ((rL (rT4 rI rI rI rI)) z.2.1), .fz ((rL rI) z.2.2.1), .fz (rI z.2.2.2.1), .fz (rI z.2.2.2.2.1)]) (fun z => P_Ltreeway z.1 z.2.1 z.2.2.1 z.2.2.2.1 z.2.2.2.2.1) (RK.fz (rO (rL (rT2 rI rI))))) := by
  refine fn_mk (Γe := fun c z => [.un, .un, .un, .un, .un, .un, .un, .un, .un]) (Γ0 := fun c z => [.fz (rI z.1), .fz ((rL (rT4 rI rI rI rI)) z.2.1), .fz ((rL rI) z.2.2.1), .fz (rI z.2.2.2.1), .fz (rI z.2.2.2.2.1), .un, .un, .un, .un]) (Z := (fun _ _ x => .ret ((RK.fz (rO (rL (rT2 rI rI)))).ok x))) T.F_law_tree_way scLtreeway (fun _ _ => rfl) (fun _ _ => rfl) (fun _ _ => ⟨.inl rfl, .inl rfl, .inl rfl, .inl rfl, .inl rfl, .inl rfl, .inl rfl, .inl rfl, .inl rfl, trivial⟩) (fun _ _ _ _ _ _ h => (own_none rfl h).elim) (fun _ _ _ => .inl rfl) (fun cdv A outer s H E a0 y hr => ?_)
  obtain ⟨many_here_, spans_, tree_here_, first_, second_, _⟩ := y
  show RB _ _ ([.un, .un, .un, .un, .un, .un, .un, .un, .un] : RF.Ctx) false [.fz (rI many_here_), .fz ((rL (rT4 rI rI rI rI)) spans_), .fz ((rL rI) tree_here_), .fz (rI first_), .fz (rI second_), .un, .un, .un, .un] _ (P_Ltreeway many_here_ spans_ tree_here_ first_ second_) _
  exact (rb_setO (ps_set (i := 5) scLtreeway.nd rfl (.inl rfl) peE) (re_disp1 (re_var (ρ := rI) (x := first_) 3 rfl (pv 3)) (re_frz (re_lst0 (ρ := (rT2 rI rI))) frz_L)) rfl fun (ways_3 : (List (Int × (List (Int × Int))))) a4 => (rb_forF (s0 := (ways_3)) (vs := [6]) (fun (s7 : (List (Int × (List (Int × Int))))) => [.fz (rI many_here_), .fz ((rL (rT4 rI rI rI rI)) spans_), .fz ((rL rI) tree_here_), .fz (rI first_), .fz (rI second_), .ow true a4 (oDk (rL (rT2 rI rI)) s7), .un, .un, .un]) (fun (x : Int) Γ => Γ.set 6 (.fz (rI x))) (ps_for (passes_of rfl) rfl (pi_range1 (by rfl) T.z_range (pa_cons peE pa_nil)) (pg_name (i := 6) scLtreeway.nd rfl (.inl rfl)) pssS) (ri_range1 (re_var (ρ := rI) (x := many_here_) 0 rfl (pv 0))) (fun _ => rg_name) ⟨.inr rfl, .inr rfl, .inr rfl, .inr rfl, .inr rfl, .inr rfl, .inl rfl, .inl rfl, .inl rfl, trivial⟩ (fun _ => ⟨.inl rfl, .inl rfl, .inl rfl, .inl rfl, .inl rfl, .inl rfl, .inl rfl, .inl rfl, .inl rfl, trivial⟩) (fun _ _ => ⟨.inl rfl, .inl rfl, .inl rfl, .inl rfl, .inl rfl, .inl rfl, .inl rfl, .inl rfl, .inl rfl, trivial⟩) (fun (s7 : (List (Int × (List (Int × Int))))) (w8 : Int) => (rb_forF (s0 := (s7)) (vs := [7]) (fun (s9 : (List (Int × (List (Int × Int))))) => [.fz (rI many_here_), .fz ((rL (rT4 rI rI rI rI)) spans_), .fz ((rL rI) tree_here_), .fz (rI first_), .fz (rI second_), .ow true a4 (oDk (rL (rT2 rI rI)) s9), .fz (rI w8), .un, .un]) (fun (x : Int) Γ => Γ.set 7 (.fz (rI x))) (ps_for (passes_of rfl) rfl (pi_list peE) (pg_name (i := 7) scLtreeway.nd rfl (.inl rfl)) pssS) (ri_list (re_var (ρ := (rL rI)) (x := tree_here_) 2 rfl (pv 2))) (fun _ => rg_name) ⟨.inr rfl, .inr rfl, .inr rfl, .inr rfl, .inr rfl, .inr rfl, .inr rfl, .inl rfl, .inl rfl, trivial⟩ (fun _ => ⟨.inl rfl, .inl rfl, .inl rfl, .inl rfl, .inl rfl, .inl rfl, .inl rfl, .inl rfl, .inl rfl, trivial⟩) (fun _ _ => ⟨.inl rfl, .inl rfl, .inl rfl, .inl rfl, .inl rfl, .inl rfl, .inl rfl, .inl rfl, .inl rfl, trivial⟩) (fun (s9 : (List (Int × (List (Int × Int))))) (w10 : Int) => (rb_set (ps_set (i := 8) scLtreeway.nd rfl (.inl rfl) peE) (re_ixL (re_var (ρ := (rL (rT4 rI rI rI rI))) (x := spans_) 1 rfl (pv 1)) (re_var (ρ := rI) (x := w10) 7 rfl (pv 7))) rfl fun (span_13 : (Int × Int × Int × Int)) => (rb_if0 (rt_w (rw_and (rt_din rfl (pv 5) (re_at (ρ := rI) (g := fun (x : (Int × Int × Int × Int)) => x.1) (fun (x : (Int × Int × Int × Int)) => [rI x.1, rI x.2.1, rI x.2.2.1, rI x.2.2.2]) (0) (re_var (ρ := (rT4 rI rI rI rI)) (x := span_13) 8 rfl (pv 8)) (hc := re_int)) (u1 hr.units)) (rw_and1 (rt_dnotin rfl (pv 5) (re_at (ρ := rI) (g := fun (x : (Int × Int × Int × Int)) => x.2.1) (fun (x : (Int × Int × Int × Int)) => [rI x.1, rI x.2.1, rI x.2.2.1, rI x.2.2.2]) (1) (re_var (ρ := (rT4 rI rI rI rI)) (x := span_13) 8 rfl (pv 8)) (hc := re_int)) (u1 hr.units))))) (rb_dput (ps_dput (u1 hr.units) (pv 5) peE peE (by rfl)) rfl (re_frz (re_cat (re_dget rfl (pv 5) (re_at (ρ := rI) (g := fun (x : (Int × Int × Int × Int)) => x.1) (fun (x : (Int × Int × Int × Int)) => [rI x.1, rI x.2.1, rI x.2.2.1, rI x.2.2.2]) (0) (re_var (ρ := (rT4 rI rI rI rI)) (x := span_13) 8 rfl (pv 8)) (hc := re_int)) (u1 hr.units)) (re_frz (re_lst (fun (y29 : (Int × Int) × Unit) => [y29.1]) (rT2 rI rI) (ra_cons (re_tup (fun (y26 : Int × Int × Unit) => (y26.1, y26.2.1)) (rT2 rI rI) (fun (y26 : Int × Int × Unit) => [rI y26.1, rI y26.2.1]) (ra_cons (re_var (ρ := rI) (x := w10) 7 rfl (pv 7)) (ra_cons re_int ra_nil))) ra_nil)) frz_L)) frz_L) (re_at (ρ := rI) (g := fun (x : (Int × Int × Int × Int)) => x.2.1) (fun (x : (Int × Int × Int × Int)) => [rI x.1, rI x.2.1, rI x.2.2.1, rI x.2.2.2]) (1) (re_var (ρ := (rT4 rI rI rI rI)) (x := span_13) 8 rfl (pv 8)) (hc := re_int)) rfl fun (x33 : (List (Int × Int))) (k35 : Int) => (rb_nil (x := ((dput s9 k35 x33))) (.inr rfl) ⟨.inr rfl, .inr rfl, .inr rfl, .inr rfl, .inr rfl, .inr rfl, .inr rfl, .inl rfl, .inl rfl, trivial⟩)) (rb_if0 (rt_w (rw_and (rt_din rfl (pv 5) (re_at (ρ := rI) (g := fun (x : (Int × Int × Int × Int)) => x.2.1) (fun (x : (Int × Int × Int × Int)) => [rI x.1, rI x.2.1, rI x.2.2.1, rI x.2.2.2]) (1) (re_var (ρ := (rT4 rI rI rI rI)) (x := span_13) 8 rfl (pv 8)) (hc := re_int)) (u1 hr.units)) (rw_and1 (rt_dnotin rfl (pv 5) (re_at (ρ := rI) (g := fun (x : (Int × Int × Int × Int)) => x.1) (fun (x : (Int × Int × Int × Int)) => [rI x.1, rI x.2.1, rI x.2.2.1, rI x.2.2.2]) (0) (re_var (ρ := (rT4 rI rI rI rI)) (x := span_13) 8 rfl (pv 8)) (hc := re_int)) (u1 hr.units))))) (rb_dput (ps_dput (u1 hr.units) (pv 5) peE peE (by rfl)) rfl (re_frz (re_cat (re_dget rfl (pv 5) (re_at (ρ := rI) (g := fun (x : (Int × Int × Int × Int)) => x.2.1) (fun (x : (Int × Int × Int × Int)) => [rI x.1, rI x.2.1, rI x.2.2.1, rI x.2.2.2]) (1) (re_var (ρ := (rT4 rI rI rI rI)) (x := span_13) 8 rfl (pv 8)) (hc := re_int)) (u1 hr.units)) (re_frz (re_lst (fun (y52 : (Int × Int) × Unit) => [y52.1]) (rT2 rI rI) (ra_cons (re_tup (fun (y49 : Int × Int × Unit) => (y49.1, y49.2.1)) (rT2 rI rI) (fun (y49 : Int × Int × Unit) => [rI y49.1, rI y49.2.1]) (ra_cons (re_var (ρ := rI) (x := w10) 7 rfl (pv 7)) (ra_cons (re_neg re_int) ra_nil))) ra_nil)) frz_L)) frz_L) (re_at (ρ := rI) (g := fun (x : (Int × Int × Int × Int)) => x.1) (fun (x : (Int × Int × Int × Int)) => [rI x.1, rI x.2.1, rI x.2.2.1, rI x.2.2.2]) (0) (re_var (ρ := (rT4 rI rI rI rI)) (x := span_13) 8 rfl (pv 8)) (hc := re_int)) rfl fun (x56 : (List (Int × Int))) (k58 : Int) => (rb_nil (x := ((dput s9 k58 x56))) (.inr rfl) ⟨.inr rfl, .inr rfl, .inr rfl, .inr rfl, .inr rfl, .inr rfl, .inr rfl, .inl rfl, .inl rfl, trivial⟩)) (rb_nil (x := (s9)) (.inr rfl) ⟨.inr rfl, .inr rfl, .inr rfl, .inr rfl, .inr rfl, .inr rfl, .inr rfl, .inl rfl, .inl rfl, trivial⟩))))) fun (s59 : (List (Int × (List (Int × Int))))) => (rb_nil (x := (s59)) (.inr rfl) ⟨.inr rfl, .inr rfl, .inr rfl, .inr rfl, .inr rfl, .inr rfl, .inl rfl, .inl rfl, .inl rfl, trivial⟩))) fun (s60 : (List (Int × (List (Int × Int))))) => (rb_ret (fun (r61 : (Option (List (Int × Int)))) => r61) (re_dgetm rfl (pv 5) (re_var (ρ := rI) (x := second_) 4 rfl (pv 4)) (u1 hr.units) ⟨rfl, rfl, rfl, rfl⟩) (fun _ => rfl))))

theorem scLtree : FnScope ["_law_many_here", "_law_spans", "_law_tree_here", "_law_k"] ["_law_many_here", "_law_spans"] (defScope sLtree) := ⟨rfl, rfl, rfl, by decide +kernel, rfl, by decide +kernel, by decide +kernel⟩
def P_Ltree (many_here_ : Int) (spans_ : (List (Int × Int × Int × Int))) : Mo (List Int) :=
  ((pure []) >>= fun tree_1 => ((((pure spans_) >>= fun x3 => pure (x3.length : Int)) >>= fun i4 => Mo.rq (-(2 ^ 62) ≤ i4 ∧ i4 < 2 ^ 62) (rangeL 0 i4.toNat)) >>= fun xs => Mo.fold (fun s6 w7 => ((Mo.calm ((((pure many_here_) >>= fun x41 => ((pure spans_) >>= fun x39 => ((pure s6) >>= fun x37 => ((((pure spans_) >>= fun x27 => (pure w7) >>= fun i28 => Mo.get (atI x27 i28)) >>= fun x29 => pure x29.1) >>= fun x35 => ((((pure spans_) >>= fun x30 => (pure w7) >>= fun i31 => Mo.get (atI x30 i31)) >>= fun x32 => pure x32.2.1) >>= fun x33 => (pure ()) >>= fun y34 => pure (x33, y34)) >>= fun y36 => pure (x35, y36)) >>= fun y38 => pure (x37, y38)) >>= fun y40 => pure (x39, y40)) >>= fun y42 => pure (x41, y42)) >>= fun y26 => P_Ltreeway y26.1 y26.2.1 y26.2.2.1 y26.2.2.2.1 y26.2.2.2.2.1) >>= fun x43 => pure x43.isNone)) >>= fun c44 => if c44 = true then ((pure w7) >>= fun x45 => Mo.rq (s6.length < sizeLine) x45 >>= fun x45 => (pure ((s6 ++ [x45])))) else (pure (s6)))) xs (tree_1) >>= fun s46 => (pure s46)))
theorem fn_Ltree (T : Tx K mg) : FnOk P w K mg base (L2.CX P w) 3 T.f_law_tree T.d_law_tree ["_law_many_here", "_law_spans"] (spR K mg (fun (c : Unit) (z : Int × (List (Int × Int × Int × Int)) × Unit) => [.fz (rI z.1), .fz ((rL (rT4 rI rI rI rI)) z.2.1)]) (fun z => P_Ltree z.1 z.2.1) (RK.ow (oL rI))) := by
  have G_law_tree_way := fn_Ltreeway (P := P) (w := w) (base := base) T
  refine fn_mk (Γe := fun c z => [.un, .un, .un, .un]) (Γ0 := fun c z => [.fz (rI z.1), .fz ((rL (rT4 rI rI rI rI)) z.2.1), .un, .un]) (Z := (fun _ _ x => .ret ((RK.ow (oL rI)).ok x))) T.F_law_tree scLtree (fun _ _ => rfl) (fun _ _ => rfl) (fun _ _ => ⟨.inl rfl, .inl rfl, .inl rfl, .inl rfl, trivial⟩) (fun _ _ _ _ _ _ h => (own_none rfl h).elim) (fun _ _ _ => .inl rfl) (fun cdv A outer s H E a0 y hr => ?_)
  obtain ⟨many_here_, spans_, _⟩ := y
  show RB _ _ ([.un, .un, .un, .un] : RF.Ctx) false [.fz (rI many_here_), .fz ((rL (rT4 rI rI rI rI)) spans_), .un, .un] _ (P_Ltree many_here_ spans_) _
  exact (rb_setO (ps_set (i := 2) scLtree.nd rfl (.inl rfl) peE) (re_lst0 (ρ := rI)) rfl fun (tree_1 : (List Int)) a2 => (rb_forF (s0 := (tree_1)) (vs := [3]) (fun (s6 : (List Int)) => [.fz (rI many_here_), .fz ((rL (rT4 rI rI rI rI)) spans_), .ow true a2 (oL rI s6), .un]) (fun (x : Int) Γ => Γ.set 3 (.fz (rI x))) (ps_for (passes_of rfl) rfl (pi_range1 (by rfl) T.z_range (pa_cons peE pa_nil)) (pg_name (i := 3) scLtree.nd rfl (.inl rfl)) pssS) (ri_range1 (re_len (rsq_L (re_var (ρ := (rL (rT4 rI rI rI rI))) (x := spans_) 1 rfl (pv 1))) T.z_len)) (fun _ => rg_name) ⟨.inr rfl, .inr rfl, .inr rfl, .inl rfl, trivial⟩ (fun _ => ⟨.inl rfl, .inl rfl, .inl rfl, .inl rfl, trivial⟩) (fun _ _ => ⟨.inl rfl, .inl rfl, .inl rfl, .inl rfl, trivial⟩) (fun (s6 : (List Int)) (w7 : Int) => (rb_if0 (rt_bor (j := 2) rfl trivial (rt_rc (rc_isN (re_call () G_law_tree_way (hr.mono (by decide)) (takes_of rfl rfl rfl rfl) (ra_cons (re_var (ρ := rI) (x := many_here_) 0 rfl (pv 0)) (ra_cons (re_var (ρ := (rL (rT4 rI rI rI rI))) (x := spans_) 1 rfl (pv 1)) (ra_cons (re_var (ρ := (rL rI)) (x := s6) 2 rfl (pv 2)) (ra_cons (re_at (ρ := rI) (g := fun (x : (Int × Int × Int × Int)) => x.1) (fun (x : (Int × Int × Int × Int)) => [rI x.1, rI x.2.1, rI x.2.2.1, rI x.2.2.2]) (0) (re_ixL (re_var (ρ := (rL (rT4 rI rI rI rI))) (x := spans_) 1 rfl (pv 1)) (re_var (ρ := rI) (x := w7) 3 rfl (pv 3))) (hc := re_int)) (ra_cons (re_at (ρ := rI) (g := fun (x : (Int × Int × Int × Int)) => x.2.1) (fun (x : (Int × Int × Int × Int)) => [rI x.1, rI x.2.1, rI x.2.2.1, rI x.2.2.2]) (1) (re_ixL (re_var (ρ := (rL (rT4 rI rI rI rI))) (x := spans_) 1 rfl (pv 1)) (re_var (ρ := rI) (x := w7) 3 rfl (pv 3))) (hc := re_int)) ra_nil))))) T.g_law_tree_way T.F_law_tree_way.kp T.b_law_tree_way)))) (rb_app (ps_expr (pe_bm PySem.F.plainAttrs_list PySem.F.slot_list_append PySem.F.type_list_append mt_append (pv 2) (pa_cons peE pa_nil))) rfl (re_var (ρ := rI) (x := w7) 3 rfl (pv 3)) rfl fun x45 => (rb_nil (x := ((s6 ++ [x45]))) (.inr rfl) ⟨.inr rfl, .inr rfl, .inr rfl, .inl rfl, trivial⟩)) (rb_nil (x := (s6)) (.inr rfl) ⟨.inr rfl, .inr rfl, .inr rfl, .inl rfl, trivial⟩))) fun (s46 : (List Int)) => (rb_retO (y := s46) (z := s46) (k := oL rI) rfl (pv 2) rfl rfl)))
end
end DD
namespace DD
open PySem PySem.Spec PyProof.Rows L2 KO SX RF
section
variable {P : Program} {w : World} {K : PySem.W.Frag} {mg : Str → Option Value} {base : Heap}
theorem scLbaserings : FnScope ["_law_many_here", "_law_spans", "_law_tree_here", "_law_closing", "_law_k"] ["_law_many_here", "_law_spans"] (defScope sLbaserings) := ⟨rfl, rfl, rfl, by decide +kernel, rfl, by decide +kernel, by decide +kernel⟩
def P_Lbaserings (many_here_ : Int) (spans_ : (List (Int × Int × Int × Int))) : Mo (List (List (Int × Int))) :=
  ((((pure many_here_) >>= fun x4 => ((pure spans_) >>= fun x2 => (pure ()) >>= fun y3 => pure (x2, y3)) >>= fun y5 => pure (x4, y5)) >>= fun y1 => P_Ltree y1.1 y1.2.1) >>= fun tree_6 => (((((pure spans_) >>= fun x7 => pure (x7.length : Int)) >>= fun i8 => Mo.rq (-(2 ^ 62) ≤ i8 ∧ i8 < 2 ^ 62) (rangeL 0 i8.toNat)) >>= Mo.lc (fun w10 => ((pure w10) >>= fun x11 => (pure tree_6) >>= fun y12 => pure (!decide (x11 ∈ y12)))) (fun w10 => (pure w10))) >>= fun closing_13 => (((pure closing_13) >>= Mo.lc (fun w15 => (pure true)) (fun w15 => ((((((pure w15) >>= fun x18 => ((pure (1 : Int)) >>= fun x16 => (pure ()) >>= fun y17 => pure (x16, y17)) >>= fun y19 => pure (x18, y19)) >>= fun y20 => pure (y20.1, y20.2.1)) >>= fun x21 => (pure ()) >>= fun y22 => pure (x21, y22)) >>= fun y23 => pure [y23.1]) >>= fun x41 => ((((pure many_here_) >>= fun x39 => ((pure spans_) >>= fun x37 => ((pure tree_6) >>= fun x35 => ((((pure spans_) >>= fun x25 => (pure w15) >>= fun i26 => Mo.get (atI x25 i26)) >>= fun x27 => pure x27.2.1) >>= fun x33 => ((((pure spans_) >>= fun x28 => (pure w15) >>= fun i29 => Mo.get (atI x28 i29)) >>= fun x30 => pure x30.1) >>= fun x31 => (pure ()) >>= fun y32 => pure (x31, y32)) >>= fun y34 => pure (x33, y34)) >>= fun y36 => pure (x35, y36)) >>= fun y38 => pure (x37, y38)) >>= fun y40 => pure (x39, y40)) >>= fun y24 => P_Ltreeway y24.1 y24.2.1 y24.2.2.1 y24.2.2.2.1 y24.2.2.2.2.1) >>= Mo.get) >>= fun y42 => Mo.rq (x41.length + y42.length ≤ sizeLine) (x41 ++ y42)))) >>= fun r14 => pure r14)))
theorem fn_Lbaserings (T : Tx K mg) : FnOk P w K mg base (L2.CX P w) 4 T.f_law_base_rings T.d_law_base_rings ["_law_many_here", "_law_spans"] (spR K mg (fun (c : Unit) (z : Int × (List (Int × Int × Int × Int)) × Unit) => [.fz (rI z.1), .fz ((rL (rT4 rI rI rI rI)) z.2.1)]) (fun z => P_Lbaserings z.1 z.2.1) (RK.ow (oL (rL (rT2 rI rI))))) := by
  have G_law_tree := fn_Ltree (P := P) (w := w) (base := base) T
  have G_law_tree_way := fn_Ltreeway (P := P) (w := w) (base := base) T
  refine fn_mk (Γe := fun c z => [.un, .un, .un, .un, .un]) (Γ0 := fun c z => [.fz (rI z.1), .fz ((rL (rT4 rI rI rI rI)) z.2.1), .un, .un, .un]) (Z := (fun _ _ x => .ret ((RK.ow (oL (rL (rT2 rI rI)))).ok x))) T.F_law_base_rings scLbaserings (fun _ _ => rfl) (fun _ _ => rfl) (fun _ _ => ⟨.inl rfl, .inl rfl, .inl rfl, .inl rfl, .inl rfl, trivial⟩) (fun _ _ _ _ _ _ h => (own_none rfl h).elim) (fun _ _ _ => .inl rfl) (fun cdv A outer s H E a0 y hr => ?_)
  obtain ⟨many_here_, spans_, _⟩ := y
  show RB _ _ ([.un, .un, .un, .un, .un] : RF.Ctx) false [.fz (rI many_here_), .fz ((rL (rT4 rI rI rI rI)) spans_), .un, .un, .un] _ (P_Lbaserings many_here_ spans_) _
  exact (rb_set (ps_set (i := 2) scLbaserings.nd rfl (.inr rfl) peE) (re_frz (re_call () G_law_tree (hr.mono (by decide)) (takes_of rfl rfl rfl rfl) (ra_cons (re_var (ρ := rI) (x := many_here_) 0 rfl (pv 0)) (ra_cons (re_var (ρ := (rL (rT4 rI rI rI rI))) (x := spans_) 1 rfl (pv 1)) ra_nil)) T.g_law_tree T.F_law_tree.kp T.b_law_tree) frz_L) rfl fun (tree_6 : (List Int)) => (rb_set (ps_setLc (i := 3) (own := [("_law_k", 4)]) (g := gName 4) rfl scLbaserings.nd rfl rfl (sw_true rfl rfl rfl (by decide +kernel)) (pi_range1 (by rfl) T.z_range (pa_cons peE pa_nil)) (blkOk_by (own := [("_law_k", 4)]) (N := ["_law_many_here", "_law_spans", "_law_tree_here", "_law_closing", "_law_k"]) (sc := defScope sLbaserings) (by decide +kernel)) (fun _ _ _ _ _ => pg_name (i := 4) scLbaserings.nd rfl (.inl rfl)) ptPi peEi) (rte_frz (rte_lc (vs := [4]) (fun (x : Int) Γ => Γ.set 4 (.fz (rI x))) (ri_range1 (re_len (rsq_L (re_var (ρ := (rL (rT4 rI rI rI rI))) (x := spans_) 1 rfl (pv 1))) T.z_len)) (fun _ => rg_name) (fun _ => rgo_name) (un1 rfl) (fun (w10 : Int) => (rti_one (fun _ _ _ _ _ => (rt_rc (rc_ninI (re_var (ρ := rI) (x := w10) 4 rfl (pv 4)) (rsq_L (re_var (ρ := (rL rI)) (x := tree_6) 2 rfl (pv 2)))))))) (fun (w10 : Int) _ _ _ _ _ => (re_var (ρ := rI) (x := w10) 4 rfl (pv 4)))) frz_L) rfl fun (closing_13 : (List Int)) => (rb_ret (fun (r14 : (List (List (Int × Int)))) => r14) (re_of (pe_lc (own := [("_law_k", 4)]) (g := gName 4) rfl scLbaserings.nd (pi_list peE) (blkOk_by (own := [("_law_k", 4)]) (N := ["_law_many_here", "_law_spans", "_law_tree_here", "_law_closing", "_law_k"]) (sc := defScope sLbaserings) (by decide +kernel)) (fun _ _ _ _ _ => pg_name (i := 4) scLbaserings.nd rfl (.inl rfl)) ptPi peEi) (rte_lc (vs := [4]) (fun (x : Int) Γ => Γ.set 4 (.fz (rI x))) (ri_list (re_var (ρ := (rL rI)) (x := closing_13) 3 rfl (pv 3))) (fun _ => rg_name) (fun _ => rgo_name) (un1 rfl) (fun (w15 : Int) => rti_nil) (fun (w15 : Int) _ _ _ _ _ => (re_frz (re_cat (re_frz (re_lst (fun (y23 : (Int × Int) × Unit) => [y23.1]) (rT2 rI rI) (ra_cons (re_tup (fun (y20 : Int × Int × Unit) => (y20.1, y20.2.1)) (rT2 rI rI) (fun (y20 : Int × Int × Unit) => [rI y20.1, rI y20.2.1]) (ra_cons (re_var (ρ := rI) (x := w15) 4 rfl (pv 4)) (ra_cons re_int ra_nil))) ra_nil)) frz_L) (re_get (re_call () G_law_tree_way (hr.mono (by decide)) takes0 (ra_cons (re_var (ρ := rI) (x := many_here_) 0 rfl (pv 0)) (ra_cons (re_var (ρ := (rL (rT4 rI rI rI rI))) (x := spans_) 1 rfl (pv 1)) (ra_cons (re_var (ρ := (rL rI)) (x := tree_6) 2 rfl (pv 2)) (ra_cons (re_at (ρ := rI) (g := fun (x : (Int × Int × Int × Int)) => x.2.1) (fun (x : (Int × Int × Int × Int)) => [rI x.1, rI x.2.1, rI x.2.2.1, rI x.2.2.2]) (1) (re_ixL (re_var (ρ := (rL (rT4 rI rI rI rI))) (x := spans_) 1 rfl (pv 1)) (re_var (ρ := rI) (x := w15) 4 rfl (pv 4))) (hc := re_int)) (ra_cons (re_at (ρ := rI) (g := fun (x : (Int × Int × Int × Int)) => x.1) (fun (x : (Int × Int × Int × Int)) => [rI x.1, rI x.2.1, rI x.2.2.1, rI x.2.2.2]) (0) (re_ixL (re_var (ρ := (rL (rT4 rI rI rI rI))) (x := spans_) 1 rfl (pv 1)) (re_var (ρ := rI) (x := w15) 4 rfl (pv 4))) (hc := re_int)) ra_nil))))) T.g_law_tree_way T.F_law_tree_way.kp T.b_law_tree_way))) frz_L)))) (fun _ => rfl))))

theorem scLwaytold : FnScope ["_law_base", "_law_first", "_law_second", "_law_told", "_law_got", "e", "_law_strange"] ["_law_base", "_law_first", "_law_second"] (defScope sLwaytold) := ⟨rfl, rfl, rfl, by decide +kernel, rfl, by decide +kernel, by decide +kernel⟩
def P_Lwaytold (base_ : OBase) (first_ : Int) (second_ : Int) : Mo PyData :=
  (((pure ()) >>= fun v1 => Mo.rq (Enc.ok rN v1) (Enc.d rN v1)) >>= fun told_2 => (((fun _ => none) <$> (pure ())) >>= fun got_3 => (Mo.catch1 (((pure base_) >>= fun x4 => ((pure first_) >>= fun x8 => ((pure second_) >>= fun x6 => (pure ()) >>= fun y7 => pure (x6, y7)) >>= fun y9 => pure (x8, y9)) >>= fun y5 => P_BasePath x4 y5.1 y5.2.1) >>= fun got_10 => pure (got_10, told_2)) "UnknownEvent" [] (fun ex11 => ((Mo.rq (ex11.fs ≠ []) false) >>= fun strange_12 => (((((pure ("unknown" : Str)) >>= fun x21 => ((Mo.get (ex11.fs.lookup ("number" : Str)) >>= fun d => Mo.get (asI d)) >>= fun x19 => ((pure true) >>= fun x17 => ((pure true) >>= fun x15 => ((pure strange_12) >>= fun x13 => (pure ()) >>= fun y14 => pure (x13, y14)) >>= fun y16 => pure (x15, y16)) >>= fun y18 => pure (x17, y18)) >>= fun y20 => pure (x19, y20)) >>= fun y22 => pure (x21, y22)) >>= fun y23 => pure (y23.1, y23.2.1, y23.2.2.1, y23.2.2.2.1, y23.2.2.2.2.1)) >>= fun v24 => Mo.rq (Enc.ok (rT5 rS rI rB rB rB) v24) (Enc.d (rT5 rS rI rB rB rB) v24)) >>= fun told_25 => (pure (got_3, told_25))))) >>= fun j26 => (((pure j26.2) >>= fun x27 => pure (isNoneD x27)) >>= fun c28 => (if c28 = true then (((((pure ("returned" : Str)) >>= fun x31 => ((pure j26.1) >>= fun x29 => (pure ()) >>= fun y30 => pure (x29, y30)) >>= fun y32 => pure (x31, y32)) >>= fun y33 => pure (y33.1, y33.2.1)) >>= fun v34 => Mo.rq (Enc.ok (rT2 rS (rO (rL (rT2 rI rI)))) v34) (Enc.d (rT2 rS (rO (rL (rT2 rI rI)))) v34)) >>= fun told_35 => (pure (told_35))) else (pure (j26.2))) >>= fun j36 => ((pure j36) >>= fun r37 => pure r37)))))
theorem fn_Lwaytold (T : Tx K mg) : FnOk P w K mg base (L2.CX P w) 5 T.f_law_way_told T.d_law_way_told ["_law_base", "_law_first", "_law_second"] (spR K mg (fun (c : Unit) (z : OBase × Int × Int × Unit) => [.fz ((rBase T.C_Net T.C_Base) z.1), .fz (rI z.2.1), .fz (rI z.2.2.1)]) (fun z => P_Lwaytold z.1 z.2.1 z.2.2.1) (RK.nw rD)) := by
  have GBase_path := fn_BasePath (P := P) (w := w) (base := base) T
  refine fn_mk (Γe := fun c z => [.un, .un, .un, .un, .un, .un, .un]) (Γ0 := fun c z => [.fz ((rBase T.C_Net T.C_Base) z.1), .fz (rI z.2.1), .fz (rI z.2.2.1), .un, .un, .un, .un]) (Z := (fun _ _ x => .ret ((RK.nw rD).ok x))) T.F_law_way_told scLwaytold (fun _ _ => rfl) (fun _ _ => rfl) (fun _ _ => ⟨.inl rfl, .inl rfl, .inl rfl, .inl rfl, .inl rfl, .inl rfl, .inl rfl, trivial⟩) (fun _ _ _ _ _ _ h => (own_none rfl h).elim) (fun _ _ _ => .inl rfl) (fun cdv A outer s H E a0 y hr => ?_)
  obtain ⟨base_, first_, second_, _⟩ := y
  show RB _ _ ([.un, .un, .un, .un, .un, .un, .un] : RF.Ctx) false [.fz ((rBase T.C_Net T.C_Base) base_), .fz (rI first_), .fz (rI second_), .un, .un, .un, .un] _ (P_Lwaytold base_ first_ second_) _
  exact (rb_age (Γa := fun hN => [.lk true hN ((rBase T.C_Net T.C_Base) base_), .fz (rI first_), .fz (rI second_), .un, .un, .un, .un]) (fun hN => ⟨.lk _, .id _, .id _, .id _, .id _, .id _, .id _, trivial⟩) (fun hN => ⟨.inl rfl, .inl rfl, .inl rfl, .inl rfl, .inl rfl, .inl rfl, .inl rfl, trivial⟩) fun hN => (rb_set (ps_set (i := 3) scLwaytold.nd rfl (.inl rfl) peE) (re_nwd (ρ := rN) (re_nwt (ρ' := rN) (ρ := rN) (h := hN) re_non)) rfl fun (told_2 : PyData) => (rb_set (ps_set (i := 4) scLwaytold.nd rfl (.inl rfl) peE) (re_nwt (ρ' := (rO (rNw hN (rL (rT2 rI rI))))) (ρ := (rO (rL (rT2 rI rI)))) (h := hN) (re_coe (ρ' := (rO (rNw hN (rL (rT2 rI rI))))) (f := (fun _ => none)) co_none re_non)) rfl fun (got_3 : (Option (List (Int × Int)))) => (rb_try1S (i := 5) (fls := []) (tgt := (fun (x : (Option (List (Int × Int)))) Γ => Γ.set 4 (.fz ((rNw hN (rO (rL (rT2 rI rI)))) x)))) (jb := fun (got_10 : (Option (List (Int × Int)))) => (got_10, told_2)) (fun (j26 : (Option (List (Int × Int))) × PyData) => [.lk true hN ((rBase T.C_Net T.C_Base) base_), .fz (rI first_), .fz (rI second_), .fz ((rNw hN rD) j26.2), .fz ((rNw hN (rO (rL (rT2 rI rI)))) j26.1), .un, .un]) (fun (j26 : (Option (List (Int × Int))) × PyData) => [.lk true hN ((rBase T.C_Net T.C_Base) base_), .fz (rI first_), .fz (rI second_), .fz ((rNw hN rD) j26.2), .fz ((rNw hN (rO (rL (rT2 rI rI)))) j26.1), .un, .un]) (ps_try_as (i := 5) rfl rfl scLwaytold.nd rfl rfl ⟨rfl, by decide, .inl T.g_UnknownEvent⟩ (takes_of rfl rfl rfl rfl) (fun W pn xe => tb_ok W pn xe) (fun a oe cls d pn => ts_ok a oe cls d pn)) T.g_UnknownEvent (exm_UnknownEvent_UnknownEvent T) (by intro n hn; cases hn) (fun pn xe W tk po => body_set (ps_set (i := 4) scLwaytold.nd rfl (.inl rfl) peE) (re_nwc (h := hN) (j := 0) rfl (re_meth (pp := fun (y : Int × Int × Unit) => [.fz (rI y.1), .fz (rI y.2.1)]) (m := fun z => P_BasePath z.1 z.2.1 z.2.2.1) (ρo := (rBase T.C_Net T.C_Base)) (fsBase T.C_Net) (re_varL (ρ := (rBase T.C_Net T.C_Base)) (x := base_) 0 rfl (pv 0)) T.cl_Base T.m_Base_path GBase_path (hr.mono (by decide)) tk (ra_cons (re_var (ρ := rI) (x := first_) 1 rfl (pv 1)) (ra_cons (re_var (ρ := rI) (x := second_) 2 rfl (pv 2)) ra_nil)) T.bBase_path))) (fun (got_10 : (Option (List (Int × Int)))) => ⟨.inr rfl, .inr rfl, .inr rfl, .inr rfl, .inr rfl, .inl rfl, .inl rfl, trivial⟩) (fun a oe d pn ex11 hcl hz hf => (rb_set (ps_set (i := 6) scLwaytold.nd rfl (.inl rfl) peE) (re_exisT (cs := [T.C_UnknownSpan, T.C_BadPath]) (excC_UnknownEvent T) hz hf rfl (pv 5) (.cons (pe_glob (v := .ref T.C_UnknownSpan) rfl T.g_UnknownSpan rfl) rfl (.cons (pe_glob (v := .ref T.C_BadPath) rfl T.g_BadPath rfl) rfl .nil)) (kitAny_f (kit_UnknownEvent_UnknownSpan T) (kitAny_f (kit_UnknownEvent_BadPath T) kitAny_n)) (by simp) T.z_isinstance) rfl fun (strange_12 : Bool) => (rb_set (ps_set (i := 3) scLwaytold.nd rfl (.inl rfl) peE) (re_nwd (ρ := (rT5 rS rI rB rB rB)) (re_nwt (ρ' := (rT5 rS rI rB rB rB)) (ρ := (rT5 rS rI rB rB rB)) (h := hN) (re_tup (fun (y23 : Str × Int × Bool × Bool × Bool × Unit) => (y23.1, y23.2.1, y23.2.2.1, y23.2.2.2.1, y23.2.2.2.2.1)) (rT5 rS rI rB rB rB) (fun (y23 : Str × Int × Bool × Bool × Bool × Unit) => [rS y23.1, rI y23.2.1, rB y23.2.2.1, rB y23.2.2.2.1, rB y23.2.2.2.2.1]) (ra_cons re_str (ra_cons (re_asI (re_exf (xfC_UnknownEvent T) T.no_UnknownEvent_number hz hf rfl (pv 5))) (ra_cons (re_exis (excC_UnknownEvent T) hz hf rfl (pv 5) (pe_glob (v := .ref T.C_DepotError) rfl T.g_DepotError rfl) (fun u r => r) (kit_UnknownEvent_DepotError T) T.z_isinstance) (ra_cons (re_exis (excC_UnknownEvent T) hz hf rfl (pv 5) (pe_bltn (v := .ty "ValueError") (by rfl) T.z_ValueError (by decide +kernel) rfl) (fun u r => r) (kit_UnknownEvent_VE T) T.z_isinstance) (ra_cons (re_var (ρ := rB) (x := strange_12) 6 rfl (pv 6)) ra_nil)))))))) rfl fun (told_25 : PyData) => (rb_nil (x := (got_3, told_25)) (.inl rfl) ⟨.inr rfl, .inr rfl, .inr rfl, .inr rfl, .inr rfl, .inl rfl, .inl rfl, trivial⟩)))) ⟨.inl rfl, .inl rfl, .inl rfl, .inl rfl, .inl rfl, .inl rfl, .inl rfl, trivial⟩ (fun _ => ⟨.inr rfl, .inr rfl, .inr rfl, .inr rfl, .inr rfl, .inl rfl, .inl rfl, trivial⟩) (fun _ => ⟨.inl rfl, .inl rfl, .inl rfl, .inl rfl, .inl rfl, .inl rfl, .inl rfl, trivial⟩) ⟨.inl rfl, .inl rfl, .inl rfl, .inl rfl, .inl rfl, .inl rfl, .inl rfl, trivial⟩ fun (j26 : (Option (List (Int × Int))) × PyData) => (rb_ifJ (fun (j36 : PyData) => [.lk true hN ((rBase T.C_Net T.C_Base) base_), .fz (rI first_), .fz (rI second_), .fz ((rNw hN rD) j36), .fz ((rNw hN (rO (rL (rT2 rI rI)))) j26.1), .un, .un]) (rt_rc (rc_isND (re_nwo (re_var (ρ := (rNw hN rD)) (x := j26.2) 3 rfl (pv 3))))) (rb_set (ps_set (i := 3) scLwaytold.nd rfl (.inl rfl) peE) (re_nwd (ρ := (rT2 rS (rO (rL (rT2 rI rI))))) (re_nwt (ρ' := (rT2 rS (rNw hN (rO (rL (rT2 rI rI)))))) (ρ := (rT2 rS (rO (rL (rT2 rI rI))))) (h := hN) (re_tup (fun (y33 : Str × (Option (List (Int × Int))) × Unit) => (y33.1, y33.2.1)) (rT2 rS (rNw hN (rO (rL (rT2 rI rI))))) (fun (y33 : Str × (Option (List (Int × Int))) × Unit) => [rS y33.1, (rNw hN (rO (rL (rT2 rI rI)))) y33.2.1]) (ra_cons re_str (ra_cons (re_var (ρ := (rNw hN (rO (rL (rT2 rI rI))))) (x := j26.1) 4 rfl (pv 4)) ra_nil))))) rfl fun (told_35 : PyData) => (rb_nil (x := (told_35)) (.inl rfl) ⟨.inr rfl, .inr rfl, .inr rfl, .inr rfl, .inr rfl, .inl rfl, .inl rfl, trivial⟩)) (rb_nil (x := (j26.2)) (.inl rfl) ⟨.inr rfl, .inr rfl, .inr rfl, .inr rfl, .inr rfl, .inl rfl, .inl rfl, trivial⟩) (fun _ => ⟨.inl rfl, .inl rfl, .inl rfl, .inl rfl, .inl rfl, .inl rfl, .inl rfl, trivial⟩) fun (j36 : PyData) => (rb_retNw (j := 0) (fun (r37 : PyData) => r37) rfl (re_var (ρ := (rNw hN rD)) (x := j36) 3 rfl (pv 3)) (fun _ => rfl)))))))

theorem scLwaydue : FnScope ["_law_many_here", "_law_spans", "_law_tree_here", "_law_first", "_law_second", "_law_event"] ["_law_many_here", "_law_spans", "_law_tree_here", "_law_first", "_law_second"] (defScope sLwaydue) := ⟨rfl, rfl, rfl, by decide +kernel, rfl, by decide +kernel, by decide +kernel⟩
def P_Lwaydue (many_here_ : Int) (spans_ : (List (Int × Int × Int × Int))) (tree_here_ : (List Int)) (first_ : Int) (second_ : Int) : Mo PyData :=
  ((((pure first_) >>= fun x3 => ((pure second_) >>= fun x1 => (pure ()) >>= fun y2 => pure (x1, y2)) >>= fun y4 => pure (x3, y4)) >>= fun y5 => pure [y5.1, y5.2.1]) >>= fun xs => Mo.loop (fun s6 w7 => ((((pure w7) >>= fun i8 => (pure (0 : Int)) >>= fun j9 => pure (decide (i8 < j9))) >>= fun b14 => if b14 then pure true else ((pure w7) >>= fun i12 => ((pure many_here_) >>= fun i10 => (pure (1 : Int)) >>= fun j11 => pure (i10 - j11)) >>= fun j13 => pure (decide (j13 < i12)))) >>= fun c15 => if c15 = true then (((((pure ("unknown" : Str)) >>= fun x25 => ((pure w7) >>= fun x23 => ((pure true) >>= fun x21 => ((pure true) >>= fun x19 => ((pure false) >>= fun x17 => (pure ()) >>= fun y18 => pure (x17, y18)) >>= fun y20 => pure (x19, y20)) >>= fun y22 => pure (x21, y22)) >>= fun y24 => pure (x23, y24)) >>= fun y26 => pure (x25, y26)) >>= fun y27 => pure (y27.1, y27.2.1, y27.2.2.1, y27.2.2.2.1, y27.2.2.2.2.1)) >>= fun v28 => Mo.rq (Enc.ok (rT5 rS rI rB rB rB) v28) (Enc.d (rT5 rS rI rB rB rB) v28)) >>= fun r16 => pure (Lp.ret r16)) else (pure (Lp.go ())))) xs () >>= Lp.out (fun s29 => (((((pure ("returned" : Str)) >>= fun x44 => ((((pure many_here_) >>= fun x40 => ((pure spans_) >>= fun x38 => ((pure tree_here_) >>= fun x36 => ((pure first_) >>= fun x34 => ((pure second_) >>= fun x32 => (pure ()) >>= fun y33 => pure (x32, y33)) >>= fun y35 => pure (x34, y35)) >>= fun y37 => pure (x36, y37)) >>= fun y39 => pure (x38, y39)) >>= fun y41 => pure (x40, y41)) >>= fun y31 => P_Ltreeway y31.1 y31.2.1 y31.2.2.1 y31.2.2.2.1 y31.2.2.2.2.1) >>= fun x42 => (pure ()) >>= fun y43 => pure (x42, y43)) >>= fun y45 => pure (x44, y45)) >>= fun y46 => pure (y46.1, y46.2.1)) >>= fun v47 => Mo.rq (Enc.ok (rT2 rS (rO (rL (rT2 rI rI)))) v47) (Enc.d (rT2 rS (rO (rL (rT2 rI rI)))) v47)) >>= fun r30 => pure r30)) (fun x => x))
theorem fn_Lwaydue (T : Tx K mg) : FnOk P w K mg base (L2.CX P w) 3 T.f_law_way_due T.d_law_way_due ["_law_many_here", "_law_spans", "_law_tree_here", "_law_first", "_law_second"] (spR K mg (fun (c : Unit) (z : Int × (List (Int × Int × Int × Int)) × (List Int) × Int × Int × Unit) => [.fz (rI z.1), .fz ((rL (rT4 rI rI rI rI)) z.2.1), .fz ((rL rI) z.2.2.1), .fz (rI z.2.2.2.1), .fz (rI z.2.2.2.2.1)]) (fun z => P_Lwaydue z.1 z.2.1 z.2.2.1 z.2.2.2.1 z.2.2.2.2.1) (RK.fz rD)) := by
  have G_law_tree_way := fn_Ltreeway (P := P) (w := w) (base := base) T
  refine fn_mk (Γe := fun c z => [.un, .un, .un, .un, .un, .un]) (Γ0 := fun c z => [.fz (rI z.1), .fz ((rL (rT4 rI rI rI rI)) z.2.1), .fz ((rL rI) z.2.2.1), .fz (rI z.2.2.2.1), .fz (rI z.2.2.2.2.1), .un]) (Z := (fun _ _ x => .ret ((RK.fz rD).ok x))) T.F_law_way_due scLwaydue (fun _ _ => rfl) (fun _ _ => rfl) (fun _ _ => ⟨.inl rfl, .inl rfl, .inl rfl, .inl rfl, .inl rfl, .inl rfl, trivial⟩) (fun _ _ _ _ _ _ h => (own_none rfl h).elim) (fun _ _ _ => .inl rfl) (fun cdv A outer s H E a0 y hr => ?_)
  obtain ⟨many_here_, spans_, tree_here_, first_, second_, _⟩ := y
  show RB _ _ ([.un, .un, .un, .un, .un, .un] : RF.Ctx) false [.fz (rI many_here_), .fz ((rL (rT4 rI rI rI rI)) spans_), .fz ((rL rI) tree_here_), .fz (rI first_), .fz (rI second_), .un] _ (P_Lwaydue many_here_ spans_ tree_here_ first_ second_) _
  exact (rb_for (s0 := ()) (vs := [5]) (Zr := (fun x => .ret ((RK.fz rD).ok x))) (kr := (fun x => x)) (fun (s6 : Unit) => [.fz (rI many_here_), .fz ((rL (rT4 rI rI rI rI)) spans_), .fz ((rL rI) tree_here_), .fz (rI first_), .fz (rI second_), .un]) (fun (x : Int) Γ => Γ.set 5 (.fz (rI x))) (ps_for (passes_of rfl) rfl (pi_list peE) (pg_name (i := 5) scLwaydue.nd rfl (.inl rfl)) pssS) (ri_list (re_frz (re_lst (fun (y5 : Int × Int × Unit) => [y5.1, y5.2.1]) rI (ra_cons (re_var (ρ := rI) (x := first_) 3 rfl (pv 3)) (ra_cons (re_var (ρ := rI) (x := second_) 4 rfl (pv 4)) ra_nil))) frz_L)) (fun _ => rg_name) ⟨.inr rfl, .inr rfl, .inr rfl, .inr rfl, .inr rfl, .inl rfl, trivial⟩ (fun _ => ⟨.inl rfl, .inl rfl, .inl rfl, .inl rfl, .inl rfl, .inl rfl, trivial⟩) (fun _ _ => ⟨.inl rfl, .inl rfl, .inl rfl, .inl rfl, .inl rfl, .inl rfl, trivial⟩) (fun (s6 : Unit) (w7 : Int) => (rb_if0 (rt_w (rw_or (rt_rc (rc_i i_lt (re_var (ρ := rI) (x := w7) 5 rfl (pv 5)) re_int)) (rw_or1 (rt_rc (rc_i i_gt (re_var (ρ := rI) (x := w7) 5 rfl (pv 5)) (re_sub (re_var (ρ := rI) (x := many_here_) 0 rfl (pv 0)) re_int)))))) (rb_ret (fun (r16 : PyData) => (Lp.ret r16)) (re_enc (ρ := (rT5 rS rI rB rB rB)) (re_tup (fun (y27 : Str × Int × Bool × Bool × Bool × Unit) => (y27.1, y27.2.1, y27.2.2.1, y27.2.2.2.1, y27.2.2.2.2.1)) (rT5 rS rI rB rB rB) (fun (y27 : Str × Int × Bool × Bool × Bool × Unit) => [rS y27.1, rI y27.2.1, rB y27.2.2.1, rB y27.2.2.2.1, rB y27.2.2.2.2.1]) (ra_cons re_str (ra_cons (re_var (ρ := rI) (x := w7) 5 rfl (pv 5)) (ra_cons re_bl (ra_cons re_bl (ra_cons re_bl ra_nil))))))) (fun _ => rfl)) (rb_nil (x := (Lp.go ())) (.inr rfl) ⟨.inr rfl, .inr rfl, .inr rfl, .inr rfl, .inr rfl, .inl rfl, trivial⟩))) (fun _ => rfl) (fun _ => ⟨_, rfl⟩) fun (s29 : Unit) => (rb_ret (fun (r30 : PyData) => r30) (re_enc (ρ := (rT2 rS (rO (rL (rT2 rI rI))))) (re_tup (fun (y46 : Str × (Option (List (Int × Int))) × Unit) => (y46.1, y46.2.1)) (rT2 rS (rO (rL (rT2 rI rI)))) (fun (y46 : Str × (Option (List (Int × Int))) × Unit) => [rS y46.1, (rO (rL (rT2 rI rI))) y46.2.1]) (ra_cons re_str (ra_cons (re_call () G_law_tree_way (hr.mono (by decide)) (takes_of rfl rfl rfl rfl) (ra_cons (re_var (ρ := rI) (x := many_here_) 0 rfl (pv 0)) (ra_cons (re_var (ρ := (rL (rT4 rI rI rI rI))) (x := spans_) 1 rfl (pv 1)) (ra_cons (re_var (ρ := (rL rI)) (x := tree_here_) 2 rfl (pv 2)) (ra_cons (re_var (ρ := rI) (x := first_) 3 rfl (pv 3)) (ra_cons (re_var (ρ := rI) (x := second_) 4 rfl (pv 4)) ra_nil))))) T.g_law_tree_way T.F_law_tree_way.kp T.b_law_tree_way) ra_nil)))) (fun _ => rfl)))

theorem scLwaysgood : FnScope ["_law_base", "_law_many_here", "_law_spans", "_law_tree_here", "_law_pairs", "_law_pair", "_law_due", "_law_told", "_law_got"] ["_law_base", "_law_many_here", "_law_spans", "_law_tree_here", "_law_pairs"] (defScope sLwaysgood) := ⟨rfl, rfl, rfl, by decide +kernel, rfl, by decide +kernel, by decide +kernel⟩
def P_Lwaysgood (base_ : OBase) (many_here_ : Int) (spans_ : (List (Int × Int × Int × Int))) (tree_here_ : (List Int)) (pairs_ : (List (Int × Int))) : Mo Bool :=
  ((pure pairs_) >>= fun xs => Mo.loop (fun s1 w2 => ((((pure many_here_) >>= fun x14 => ((pure spans_) >>= fun x12 => ((pure tree_here_) >>= fun x10 => (((pure w2) >>= fun x4 => pure x4.1) >>= fun x8 => (((pure w2) >>= fun x5 => pure x5.2) >>= fun x6 => (pure ()) >>= fun y7 => pure (x6, y7)) >>= fun y9 => pure (x8, y9)) >>= fun y11 => pure (x10, y11)) >>= fun y13 => pure (x12, y13)) >>= fun y15 => pure (x14, y15)) >>= fun y3 => P_Lwaydue y3.1 y3.2.1 y3.2.2.1 y3.2.2.2.1 y3.2.2.2.2.1) >>= fun due_16 => ((((pure base_) >>= fun x24 => (((pure w2) >>= fun x18 => pure x18.1) >>= fun x22 => (((pure w2) >>= fun x19 => pure x19.2) >>= fun x20 => (pure ()) >>= fun y21 => pure (x20, y21)) >>= fun y23 => pure (x22, y23)) >>= fun y25 => pure (x24, y25)) >>= fun y17 => P_Lwaytold y17.1 y17.2.1 y17.2.2.1) >>= fun told_26 => (((((pure told_26) >>= fun x30 => ((pure due_16) >>= fun x28 => (pure ()) >>= fun y29 => pure (x28, y29)) >>= fun y31 => pure (x30, y31)) >>= fun y27 => Mo.rq (y27.1 = y27.2.1) true) >>= fun b32 => pure (!b32)) >>= fun c33 => if c33 = true then ((pure false) >>= fun r34 => pure (Lp.ret r34)) else ((((pure told_26) >>= fun x35 => (pure (1 : Int)) >>= fun i36 => Mo.get (asTup x35) >>= fun ds37 => Mo.get (atI ds37 i36)) >>= fun x38 => pure (insD "list" (fun k => k == "list") x38)) >>= fun c39 => if c39 = true then (((pure told_26) >>= fun x40 => (pure (1 : Int)) >>= fun i41 => Mo.get (asTup x40) >>= fun ds42 => Mo.get (atI ds42 i41)) >>= fun got_43 => (Mo.get (asLst got_43) >>= fun ds45 => (((fun _ => ()) <$> (((pure (0 : Int)) >>= fun x48 => ((pure (1 : Int)) >>= fun x46 => (pure ()) >>= fun y47 => pure (x46, y47)) >>= fun y49 => pure (x48, y49)) >>= fun y50 => pure (y50.1, y50.2.1))) >>= fun x51 => Mo.rq ((List.replicate ds45.length ()).length < sizeLine) x51 >>= fun x51 => (pure (Lp.go ()))))) else (pure (Lp.go ()))))))) xs () >>= Lp.out (fun s52 => ((pure true) >>= fun r53 => pure r53)) (fun x => x))
theorem fn_Lwaysgood (T : Tx K mg) : FnOk P w K mg base (L2.CX P w) 9 T.f_law_ways_good T.d_law_ways_good ["_law_base", "_law_many_here", "_law_spans", "_law_tree_here", "_law_pairs"] (spR K mg (fun (c : Unit) (z : OBase × Int × (List (Int × Int × Int × Int)) × (List Int) × (List (Int × Int)) × Unit) => [.fz ((rBase T.C_Net T.C_Base) z.1), .fz (rI z.2.1), .fz ((rL (rT4 rI rI rI rI)) z.2.2.1), .fz ((rL rI) z.2.2.2.1), .fz ((rL (rT2 rI rI)) z.2.2.2.2.1)]) (fun z => P_Lwaysgood z.1 z.2.1 z.2.2.1 z.2.2.2.1 z.2.2.2.2.1) (RK.fz rB)) := by
  have G_law_same := fn_same (P := P) (w := w) (base := base) T
  have G_law_way_due := fn_Lwaydue (P := P) (w := w) (base := base) T
  have G_law_way_told := fn_Lwaytold (P := P) (w := w) (base := base) T
  refine fn_mk (Γe := fun c z => [.un, .un, .un, .un, .un, .un, .un, .un, .un]) (Γ0 := fun c z => [.fz ((rBase T.C_Net T.C_Base) z.1), .fz (rI z.2.1), .fz ((rL (rT4 rI rI rI rI)) z.2.2.1), .fz ((rL rI) z.2.2.2.1), .fz ((rL (rT2 rI rI)) z.2.2.2.2.1), .un, .un, .un, .un]) (Z := (fun _ _ x => .ret ((RK.fz rB).ok x))) T.F_law_ways_good scLwaysgood (fun _ _ => rfl) (fun _ _ => rfl) (fun _ _ => ⟨.inl rfl, .inl rfl, .inl rfl, .inl rfl, .inl rfl, .inl rfl, .inl rfl, .inl rfl, .inl rfl, trivial⟩) (fun _ _ _ _ _ _ h => (own_none rfl h).elim) (fun _ _ _ => .inl rfl) (fun cdv A outer s H E a0 y hr => ?_)
  obtain ⟨base_, many_here_, spans_, tree_here_, pairs_, _⟩ := y
  show RB _ _ ([.un, .un, .un, .un, .un, .un, .un, .un, .un] : RF.Ctx) false [.fz ((rBase T.C_Net T.C_Base) base_), .fz (rI many_here_), .fz ((rL (rT4 rI rI rI rI)) spans_), .fz ((rL rI) tree_here_), .fz ((rL (rT2 rI rI)) pairs_), .un, .un, .un, .un] _ (P_Lwaysgood base_ many_here_ spans_ tree_here_ pairs_) _
  exact (rb_for (s0 := ()) (vs := [5]) (Zr := (fun x => .ret ((RK.fz rB).ok x))) (kr := (fun x => x)) (fun (s1 : Unit) => [.fz ((rBase T.C_Net T.C_Base) base_), .fz (rI many_here_), .fz ((rL (rT4 rI rI rI rI)) spans_), .fz ((rL rI) tree_here_), .fz ((rL (rT2 rI rI)) pairs_), .un, .un, .un, .un]) (fun (x : (Int × Int)) Γ => Γ.set 5 (.fz ((rT2 rI rI) x))) (ps_for (passes_of rfl) rfl (pi_list peE) (pg_name (i := 5) scLwaysgood.nd rfl (.inl rfl)) pssS) (ri_list (re_var (ρ := (rL (rT2 rI rI))) (x := pairs_) 4 rfl (pv 4))) (fun _ => rg_name) ⟨.inr rfl, .inr rfl, .inr rfl, .inr rfl, .inr rfl, .inl rfl, .inl rfl, .inl rfl, .inl rfl, trivial⟩ (fun _ => ⟨.inl rfl, .inl rfl, .inl rfl, .inl rfl, .inl rfl, .inl rfl, .inl rfl, .inl rfl, .inl rfl, trivial⟩) (fun _ _ => ⟨.inl rfl, .inl rfl, .inl rfl, .inl rfl, .inl rfl, .inl rfl, .inl rfl, .inl rfl, .inl rfl, trivial⟩) (fun (s1 : Unit) (w2 : (Int × Int)) => (rb_set (ps_set (i := 6) scLwaysgood.nd rfl (.inl rfl) peE) (re_call () G_law_way_due (hr.mono (by decide)) (takes_of rfl rfl rfl rfl) (ra_cons (re_var (ρ := rI) (x := many_here_) 1 rfl (pv 1)) (ra_cons (re_var (ρ := (rL (rT4 rI rI rI rI))) (x := spans_) 2 rfl (pv 2)) (ra_cons (re_var (ρ := (rL rI)) (x := tree_here_) 3 rfl (pv 3)) (ra_cons (re_at (ρ := rI) (g := fun (x : (Int × Int)) => x.1) (fun (x : (Int × Int)) => [rI x.1, rI x.2]) (0) (re_var (ρ := (rT2 rI rI)) (x := w2) 5 rfl (pv 5)) (hc := re_int)) (ra_cons (re_at (ρ := rI) (g := fun (x : (Int × Int)) => x.2) (fun (x : (Int × Int)) => [rI x.1, rI x.2]) (1) (re_var (ρ := (rT2 rI rI)) (x := w2) 5 rfl (pv 5)) (hc := re_int)) ra_nil))))) T.g_law_way_due T.F_law_way_due.kp T.b_law_way_due) rfl fun (due_16 : PyData) => (rb_age (Γa := fun hN => [.lk true hN ((rBase T.C_Net T.C_Base) base_), .fz (rI many_here_), .fz ((rAg hN (rL (rT4 rI rI rI rI))) spans_), .fz ((rAg hN (rL rI)) tree_here_), .fz ((rAg hN (rL (rT2 rI rI))) pairs_), .fz ((rT2 rI rI) w2), .fz ((rAg hN rD) due_16), .un, .un]) (fun hN => ⟨.lk _, .id _, .ag _, .ag _, .ag _, .id _, .ag _, .id _, .id _, trivial⟩) (fun hN => ⟨.inl rfl, .inl rfl, .inl rfl, .inl rfl, .inl rfl, .inl rfl, .inl rfl, .inl rfl, .inl rfl, trivial⟩) fun hN => (rb_set (ps_set (i := 7) scLwaysgood.nd rfl (.inl rfl) peE) (re_nwc (h := hN) (j := 0) rfl (re_call () G_law_way_told (hr.mono (by decide)) (takes_of rfl rfl rfl rfl) (ra_cons (re_varL (ρ := (rBase T.C_Net T.C_Base)) (x := base_) 0 rfl (pv 0)) (ra_cons (re_at (ρ := rI) (g := fun (x : (Int × Int)) => x.1) (fun (x : (Int × Int)) => [rI x.1, rI x.2]) (0) (re_var (ρ := (rT2 rI rI)) (x := w2) 5 rfl (pv 5)) (hc := re_int)) (ra_cons (re_at (ρ := rI) (g := fun (x : (Int × Int)) => x.2) (fun (x : (Int × Int)) => [rI x.1, rI x.2]) (1) (re_var (ρ := (rT2 rI rI)) (x := w2) 5 rfl (pv 5)) (hc := re_int)) ra_nil))) T.g_law_way_told T.F_law_way_told.kp T.b_law_way_told)) rfl fun (told_26 : PyData) => (rb_if1 (rt_not (rt_val (re_call () G_law_same (hr.mono (by decide)) (takes_of rfl rfl rfl rfl) (ra_cons (re_nwo (re_var (ρ := (rNw hN rD)) (x := told_26) 7 rfl (pv 7))) (ra_cons (re_ag (re_var (ρ := (rAg hN rD)) (x := due_16) 6 rfl (pv 6))) ra_nil)) T.g_law_same T.F_law_same.kp T.b_law_same))) (rb_ret (fun (r34 : Bool) => (Lp.ret r34)) re_bl (fun _ => rfl)) (rb_if0 (rt_val (re_isiD (T := "list") (fun k => k == "list") (re_ixD (re_nwo (re_var (ρ := (rNw hN rD)) (x := told_26) 7 rfl (pv 7))) re_int) (kits (kit_ty (by first | rfl | decide +kernel)) (kit_ty (by first | rfl | decide +kernel)) (kit_ty (by first | rfl | decide +kernel)) (kit_ty (by first | rfl | decide +kernel)) (kit_ty (by first | rfl | decide +kernel)) (kit_ty (by first | rfl | decide +kernel))) T.z_isinstance (pe_bltn (v := .ty "list") (by rfl) T.z_list (by decide +kernel) rfl))) (rb_set (ps_set (i := 8) scLwaysgood.nd rfl (.inl rfl) peE) (re_ixDN (re_var (ρ := (rNw hN rD)) (x := told_26) 7 rfl (pv 7)) re_int) rfl fun (got_43 : PyData) => (rb_thawD (i := 8) (j := 0) (Γ' := [.lk true hN ((rBase T.C_Net T.C_Base) base_), .fz (rI many_here_), .fz ((rAg hN (rL (rT4 rI rI rI rI))) spans_), .fz ((rAg hN (rL rI)) tree_here_), .fz ((rAg hN (rL (rT2 rI rI))) pairs_), .fz ((rT2 rI rI) w2), .fz ((rAg hN rD) due_16), .un, .un]) rfl rfl ⟨.lk (nlr _), .nl (nlr _), .ag _, .ag _, .ag _, .nl (nlr _), .ag _, .un _, .un _, trivial⟩ rfl ⟨.inl rfl, .inl rfl, .inl rfl, .inl rfl, .inl rfl, .inl rfl, .inl rfl, .inl rfl, .inl rfl, trivial⟩ fun (ds45 : List PyData) a44 => (rb_app (ps_expr (pe_bm PySem.F.plainAttrs_list PySem.F.slot_list_append PySem.F.type_list_append mt_append (pv 8) (pa_cons peE pa_nil))) rfl (re_Any (ρ := (rT2 rI rI)) (re_tup (fun (y50 : Int × Int × Unit) => (y50.1, y50.2.1)) (rT2 rI rI) (fun (y50 : Int × Int × Unit) => [rI y50.1, rI y50.2.1]) (ra_cons re_int (ra_cons re_int ra_nil)))) rfl fun x51 => (rb_frz (i := 8) (p := rL rAny ((List.replicate ds45.length ()) ++ [x51])) rfl (frz_L _ _) rfl (rb_unage (Γ' := [.fz ((rBase T.C_Net T.C_Base) base_), .fz (rI many_here_), .fz ((rL (rT4 rI rI rI rI)) spans_), .fz ((rL rI) tree_here_), .fz ((rL (rT2 rI rI)) pairs_), .fz ((rT2 rI rI) w2), .fz ((rAg hN rD) due_16), .un, .fz ((rL rAny) ((List.replicate ds45.length ()) ++ [x51]))]) ⟨.lk _ _ _, .id _, .ag _ _, .ag _ _, .ag _ _, .id _, .id _, .id _, .id _, trivial⟩ ⟨.inl rfl, .inl rfl, .inl rfl, .inl rfl, .inl rfl, .inl rfl, .inl rfl, .inl rfl, .inl rfl, trivial⟩ (rb_nil (x := (Lp.go ())) (.inr rfl) ⟨.inr rfl, .inr rfl, .inr rfl, .inr rfl, .inr rfl, .inl rfl, .inl rfl, .inl rfl, .inl rfl, trivial⟩)))))) (rb_unage (Γ' := [.fz ((rBase T.C_Net T.C_Base) base_), .fz (rI many_here_), .fz ((rL (rT4 rI rI rI rI)) spans_), .fz ((rL rI) tree_here_), .fz ((rL (rT2 rI rI)) pairs_), .fz ((rT2 rI rI) w2), .fz ((rAg hN rD) due_16), .fz ((rNw hN rD) told_26), .un]) ⟨.lk _ _ _, .id _, .ag _ _, .ag _ _, .ag _ _, .id _, .id _, .id _, .id _, trivial⟩ ⟨.inl rfl, .inl rfl, .inl rfl, .inl rfl, .inl rfl, .inl rfl, .inl rfl, .inl rfl, .inl rfl, trivial⟩ (rb_nil (x := (Lp.go ())) (.inr rfl) ⟨.inr rfl, .inr rfl, .inr rfl, .inr rfl, .inr rfl, .inl rfl, .inl rfl, .inl rfl, .inl rfl, trivial⟩)))))))) (fun _ => rfl) (fun _ => ⟨_, rfl⟩) fun (s52 : Unit) => (rb_ret (fun (r53 : Bool) => r53) re_bl (fun _ => rfl)))

theorem scLbasegood : FnScope ["_law_base", "_law_many_here", "_law_spans", "_law_tree_here", "_law_rings", "_law_closing", "_law_got", "_law_inner", "_law_k"] ["_law_base", "_law_many_here", "_law_spans", "_law_tree_here", "_law_rings"] (defScope sLbasegood) := ⟨rfl, rfl, rfl, by decide +kernel, rfl, by decide +kernel, by decide +kernel⟩
def P_Lbasegood (base_ : OBase) (many_here_ : Int) (spans_ : (List (Int × Int × Int × Int))) (tree_here_ : (List Int)) (rings_ : (List (List (Int × Int)))) : Mo Bool :=
  (((((pure spans_) >>= fun x1 => pure (x1.length : Int)) >>= fun i2 => Mo.rq (-(2 ^ 62) ≤ i2 ∧ i2 < 2 ^ 62) (rangeL 0 i2.toNat)) >>= Mo.lc (fun w4 => ((pure w4) >>= fun x5 => (pure tree_here_) >>= fun y6 => pure (!decide (x5 ∈ y6)))) (fun w4 => (pure w4))) >>= fun closing_7 => ((((((((pure base_) >>= fun x8 => pure (x8.2.1)) >>= fun v9 => Mo.rq (Enc.ok (rTs rI) v9) (Enc.d (rTs rI) v9)) >>= fun x15 => ((((pure tree_here_) >>= fun x10 => pure x10) >>= fun v11 => Mo.rq (Enc.ok (rTs rI) v11) (Enc.d (rTs rI) v11)) >>= fun x13 => (pure ()) >>= fun y14 => pure (x13, y14)) >>= fun y16 => pure (x15, y16)) >>= fun y12 => Mo.rq (y12.1 = y12.2.1) true) >>= fun b17 => pure (!b17)) >>= fun b28 => if b28 then pure true else ((((((pure base_) >>= fun x18 => pure (x18.2.2)) >>= fun v19 => Mo.rq (Enc.ok (rTs rI) v19) (Enc.d (rTs rI) v19)) >>= fun x25 => ((((pure closing_7) >>= fun x20 => pure x20) >>= fun v21 => Mo.rq (Enc.ok (rTs rI) v21) (Enc.d (rTs rI) v21)) >>= fun x23 => (pure ()) >>= fun y24 => pure (x23, y24)) >>= fun y26 => pure (x25, y26)) >>= fun y22 => Mo.rq (y22.1 = y22.2.1) true) >>= fun b27 => pure (!b27))) >>= fun c29 => if c29 = true then ((pure false) >>= fun r30 => pure r30) else ((((((((pure base_) >>= fun x31 => Mo.calm (P_BaseLen x31) >>= fun n32 => Mo.rq (0 ≤ n32 ∧ n32 < 2 ^ 63) n32) >>= fun v33 => Mo.rq (Enc.ok rI v33) (Enc.d rI v33)) >>= fun x39 => ((((pure closing_7) >>= fun x34 => pure (x34.length : Int)) >>= fun v35 => Mo.rq (Enc.ok rI v35) (Enc.d rI v35)) >>= fun x37 => (pure ()) >>= fun y38 => pure (x37, y38)) >>= fun y40 => pure (x39, y40)) >>= fun y36 => Mo.rq (y36.1 = y36.2.1) true) >>= fun b41 => pure (!b41)) >>= fun b52 => if b52 then pure true else ((((((pure base_) >>= fun x42 => P_BaseRings x42) >>= fun v44 => Mo.rq (Enc.ok (rL (rL (rT2 rI rI))) v44) (Enc.d (rL (rL (rT2 rI rI))) v44)) >>= fun x49 => (((pure rings_) >>= fun v45 => Mo.rq (Enc.ok (rL (rL (rT2 rI rI))) v45) (Enc.d (rL (rL (rT2 rI rI))) v45)) >>= fun x47 => (pure ()) >>= fun y48 => pure (x47, y48)) >>= fun y50 => pure (x49, y50)) >>= fun y46 => Mo.rq (y46.1 = y46.2.1) true) >>= fun b51 => pure (!b51))) >>= fun c53 => if c53 = true then ((pure false) >>= fun r54 => pure r54) else (((pure base_) >>= fun x55 => P_BaseRings x55) >>= fun got_57 => ((pure []) >>= fun x59 => Mo.rq (got_57.length < sizeLine) x59 >>= fun x59 => (((pure (got_57 ++ [x59])) >>= fun x60 => (pure (0 : Int)) >>= fun i61 => Mo.get (atI x60 i61)) >>= fun inner_62 => ((((pure (0 : Int)) >>= fun x67 => (((pure (1 : Int)) >>= fun i64 => pure (-i64)) >>= fun x65 => (pure ()) >>= fun y66 => pure (x65, y66)) >>= fun y68 => pure (x67, y68)) >>= fun y69 => pure (y69.1, y69.2.1)) >>= fun x70 => Mo.rq (inner_62.length < sizeLine) x70 >>= fun x70 => ((((((pure base_) >>= fun x72 => P_BaseRings x72) >>= fun v74 => Mo.rq (Enc.ok (rL (rL (rT2 rI rI))) v74) (Enc.d (rL (rL (rT2 rI rI))) v74)) >>= fun x79 => (((pure rings_) >>= fun v75 => Mo.rq (Enc.ok (rL (rL (rT2 rI rI))) v75) (Enc.d (rL (rL (rT2 rI rI))) v75)) >>= fun x77 => (pure ()) >>= fun y78 => pure (x77, y78)) >>= fun y80 => pure (x79, y80)) >>= fun y76 => Mo.rq (y76.1 = y76.2.1) true) >>= fun r71 => pure r71))))))))
theorem fn_Lbasegood (T : Tx K mg) : FnOk P w K mg base (L2.CX P w) 9 T.f_law_base_good T.d_law_base_good ["_law_base", "_law_many_here", "_law_spans", "_law_tree_here", "_law_rings"] (spR K mg (fun (c : Unit) (z : OBase × Int × (List (Int × Int × Int × Int)) × (List Int) × (List (List (Int × Int))) × Unit) => [.fz ((rBase T.C_Net T.C_Base) z.1), .fz (rI z.2.1), .fz ((rL (rT4 rI rI rI rI)) z.2.2.1), .fz ((rL rI) z.2.2.2.1), .fz ((rL (rL (rT2 rI rI))) z.2.2.2.2.1)]) (fun z => P_Lbasegood z.1 z.2.1 z.2.2.1 z.2.2.2.1 z.2.2.2.2.1) (RK.fz rB)) := by
  have GBase_len := fn_BaseLen (P := P) (w := w) (base := base) T
  have GBase_rings := fn_BaseRings (P := P) (w := w) (base := base) T
  have G_law_same := fn_same (P := P) (w := w) (base := base) T
  refine fn_mk (Γe := fun c z => [.un, .un, .un, .un, .un, .un, .un, .un, .un]) (Γ0 := fun c z => [.fz ((rBase T.C_Net T.C_Base) z.1), .fz (rI z.2.1), .fz ((rL (rT4 rI rI rI rI)) z.2.2.1), .fz ((rL rI) z.2.2.2.1), .fz ((rL (rL (rT2 rI rI))) z.2.2.2.2.1), .un, .un, .un, .un]) (Z := (fun _ _ x => .ret ((RK.fz rB).ok x))) T.F_law_base_good scLbasegood (fun _ _ => rfl) (fun _ _ => rfl) (fun _ _ => ⟨.inl rfl, .inl rfl, .inl rfl, .inl rfl, .inl rfl, .inl rfl, .inl rfl, .inl rfl, .inl rfl, trivial⟩) (fun _ _ _ _ _ _ h => (own_none rfl h).elim) (fun _ _ _ => .inl rfl) (fun cdv A outer s H E a0 y hr => ?_)
  obtain ⟨base_, many_here_, spans_, tree_here_, rings_, _⟩ := y
  show RB _ _ ([.un, .un, .un, .un, .un, .un, .un, .un, .un] : RF.Ctx) false [.fz ((rBase T.C_Net T.C_Base) base_), .fz (rI many_here_), .fz ((rL (rT4 rI rI rI rI)) spans_), .fz ((rL rI) tree_here_), .fz ((rL (rL (rT2 rI rI))) rings_), .un, .un, .un, .un] _ (P_Lbasegood base_ many_here_ spans_ tree_here_ rings_) _
  exact (rb_set (ps_setLc (i := 5) (own := [("_law_k", 8)]) (g := gName 8) rfl scLbasegood.nd rfl rfl (sw_true rfl rfl rfl (by decide +kernel)) (pi_range1 (by rfl) T.z_range (pa_cons peE pa_nil)) (blkOk_by (own := [("_law_k", 8)]) (N := ["_law_base", "_law_many_here", "_law_spans", "_law_tree_here", "_law_rings", "_law_closing", "_law_got", "_law_inner", "_law_k"]) (sc := defScope sLbasegood) (by decide +kernel)) (fun _ _ _ _ _ => pg_name (i := 8) scLbasegood.nd rfl (.inl rfl)) ptPi peEi) (rte_frz (rte_lc (vs := [8]) (fun (x : Int) Γ => Γ.set 8 (.fz (rI x))) (ri_range1 (re_len (rsq_L (re_var (ρ := (rL (rT4 rI rI rI rI))) (x := spans_) 2 rfl (pv 2))) T.z_len)) (fun _ => rg_name) (fun _ => rgo_name) (un1 rfl) (fun (w4 : Int) => (rti_one (fun _ _ _ _ _ => (rt_rc (rc_ninI (re_var (ρ := rI) (x := w4) 8 rfl (pv 8)) (rsq_L (re_var (ρ := (rL rI)) (x := tree_here_) 3 rfl (pv 3)))))))) (fun (w4 : Int) _ _ _ _ _ => (re_var (ρ := rI) (x := w4) 8 rfl (pv 8)))) frz_L) rfl fun (closing_7 : (List Int)) => (rb_if1 (rt_w (rw_or (rt_not (rt_val (re_call () G_law_same (hr.mono (by decide)) (takes_of rfl rfl rfl rfl) (ra_cons (re_enc (ρ := (rTs rI)) (re_fld (ρ' := (rTs rI)) (g := fun (x : OBase) => x.2.1) (fsBase T.C_Net) (re_var (ρ := (rBase T.C_Net T.C_Base)) (x := base_) 0 rfl (pv 0)) T.cl_Base T.na_Base_tree)) (ra_cons (re_enc (ρ := (rTs rI)) (re_tuple (rsq_L (re_var (ρ := (rL rI)) (x := tree_here_) 3 rfl (pv 3))) T.z_tuple)) ra_nil)) T.g_law_same T.F_law_same.kp T.b_law_same))) (rw_or1 (rt_not (rt_val (re_call () G_law_same (hr.mono (by decide)) (takes_of rfl rfl rfl rfl) (ra_cons (re_enc (ρ := (rTs rI)) (re_fld (ρ' := (rTs rI)) (g := fun (x : OBase) => x.2.2) (fsBase T.C_Net) (re_var (ρ := (rBase T.C_Net T.C_Base)) (x := base_) 0 rfl (pv 0)) T.cl_Base T.na_Base_closing)) (ra_cons (re_enc (ρ := (rTs rI)) (re_tuple (rsq_L (re_var (ρ := (rL rI)) (x := closing_7) 5 rfl (pv 5))) T.z_tuple)) ra_nil)) T.g_law_same T.F_law_same.kp T.b_law_same)))))) (rb_ret (fun (r30 : Bool) => r30) re_bl (fun _ => rfl)) (rb_if1 (rt_w (rw_or (rt_not (rt_val (re_call () G_law_same (hr.mono (by decide)) (takes_of rfl rfl rfl rfl) (ra_cons (re_enc (ρ := rI) (re_lenO (m := fun z => P_BaseLen z.1) (fsBase T.C_Net) T.m_Base_len GBase_len (hr.mono (by decide)) (takes_of rfl rfl rfl rfl) T.bBase_len (re_var (ρ := (rBase T.C_Net T.C_Base)) (x := base_) 0 rfl (pv 0)) T.z_len)) (ra_cons (re_enc (ρ := rI) (re_len (rsq_L (re_var (ρ := (rL rI)) (x := closing_7) 5 rfl (pv 5))) T.z_len)) ra_nil)) T.g_law_same T.F_law_same.kp T.b_law_same))) (rw_or1 (rt_not (rt_val (re_call () G_law_same (hr.mono (by decide)) (takes_of rfl rfl rfl rfl) (ra_cons (re_enc (ρ := (rL (rL (rT2 rI rI)))) (re_frz (re_onf (re_meth0 (m := fun x => P_BaseRings x) (fsBase T.C_Net) (re_var (ρ := (rBase T.C_Net T.C_Base)) (x := base_) 0 rfl (pv 0)) T.cl_Base T.m_Base_rings GBase_rings (hr.mono (by decide)) (takes_of rfl rfl rfl rfl) T.bBase_rings)) frz_L)) (ra_cons (re_enc (ρ := (rL (rL (rT2 rI rI)))) (re_var (ρ := (rL (rL (rT2 rI rI)))) (x := rings_) 4 rfl (pv 4))) ra_nil)) T.g_law_same T.F_law_same.kp T.b_law_same)))))) (rb_ret (fun (r54 : Bool) => r54) re_bl (fun _ => rfl)) (rb_age (Γa := fun hN => [.lk true hN ((rBase T.C_Net T.C_Base) base_), .fz (rI many_here_), .fz ((rAg hN (rL (rT4 rI rI rI rI))) spans_), .fz ((rAg hN (rL rI)) tree_here_), .fz ((rAg hN (rL (rL (rT2 rI rI)))) rings_), .fz ((rAg hN (rL rI)) closing_7), .un, .un, .un]) (fun hN => ⟨.lk _, .id _, .ag _, .ag _, .ag _, .ag _, .id _, .id _, .id _, trivial⟩) (fun hN => ⟨.inl rfl, .inl rfl, .inl rfl, .inl rfl, .inl rfl, .inl rfl, .inl rfl, .inl rfl, .inl rfl, trivial⟩) fun hN => (rb_setO (ps_set (i := 6) scLbasegood.nd rfl (.inl rfl) peE) (re_onw (h := hN) (j := 0) rfl (re_meth0 (m := fun x => P_BaseRings x) (fsBase T.C_Net) (re_varL (ρ := (rBase T.C_Net T.C_Base)) (x := base_) 0 rfl (pv 0)) T.cl_Base T.m_Base_rings GBase_rings (hr.mono (by decide)) (takes_of rfl rfl rfl rfl) T.bBase_rings)) rfl fun (got_57 : (List (List (Int × Int)))) a58 => (rb_app (ps_expr (pe_bm PySem.F.plainAttrs_list PySem.F.slot_list_append PySem.F.type_list_append mt_append (pv 6) (pa_cons peE pa_nil))) rfl (re_nwl (ρ' := (rT2 rI rI)) (ρ := (rT2 rI rI)) (h := hN) (j := 0) rfl (re_lst0 (ρ := (rT2 rI rI)))) rfl fun x59 => (rb_frz (i := 6) (p := rL (rNw hN (rL (rT2 rI rI))) (got_57 ++ [x59])) rfl (frz_L _ _) rfl (rb_set (ps_set (i := 7) scLbasegood.nd rfl (.inl rfl) peE) (re_ixL (re_var (ρ := (rL (rNw hN (rL (rT2 rI rI))))) (x := (got_57 ++ [x59])) 6 rfl (pv 6)) re_int) rfl fun (inner_62 : (List (Int × Int))) => (rb_thaw (i := 7) (j := 0) (Γ' := [.lk true hN ((rBase T.C_Net T.C_Base) base_), .fz (rI many_here_), .fz ((rAg hN (rL (rT4 rI rI rI rI))) spans_), .fz ((rAg hN (rL rI)) tree_here_), .fz ((rAg hN (rL (rL (rT2 rI rI)))) rings_), .fz ((rAg hN (rL rI)) closing_7), .un, .un, .un]) rfl rfl ⟨.lk (nlr _), .nl (nlr _), .ag _, .ag _, .ag _, .ag _, .un _, .un _, .un _, trivial⟩ rfl ⟨.inl rfl, .inl rfl, .inl rfl, .inl rfl, .inl rfl, .inl rfl, .inl rfl, .inl rfl, .inl rfl, trivial⟩ fun a63 => (rb_app (ps_expr (pe_bm PySem.F.plainAttrs_list PySem.F.slot_list_append PySem.F.type_list_append mt_append (pv 7) (pa_cons peE pa_nil))) rfl (re_tup (fun (y69 : Int × Int × Unit) => (y69.1, y69.2.1)) (rT2 rI rI) (fun (y69 : Int × Int × Unit) => [rI y69.1, rI y69.2.1]) (ra_cons re_int (ra_cons (re_neg re_int) ra_nil))) rfl fun x70 => (rb_weak (Γ' := [.lk true hN ((rBase T.C_Net T.C_Base) base_), .fz (rI many_here_), .fz ((rAg hN (rL (rT4 rI rI rI rI))) spans_), .fz ((rAg hN (rL rI)) tree_here_), .fz ((rAg hN (rL (rL (rT2 rI rI)))) rings_), .fz ((rAg hN (rL rI)) closing_7), .un, .un, .un]) ⟨.inr rfl, .inr rfl, .inr rfl, .inr rfl, .inr rfl, .inr rfl, .inl rfl, .inl rfl, .inl rfl, trivial⟩ ⟨.inl rfl, .inl rfl, .inl rfl, .inl rfl, .inl rfl, .inl rfl, .inl rfl, .inl rfl, .inl rfl, trivial⟩ (rb_ret (fun (r71 : Bool) => r71) (re_call () G_law_same (hr.mono (by decide)) (takes_of rfl rfl rfl rfl) (ra_cons (re_enc (ρ := (rL (rL (rT2 rI rI)))) (re_frz (re_onf (re_meth0 (m := fun x => P_BaseRings x) (fsBase T.C_Net) (re_varL (ρ := (rBase T.C_Net T.C_Base)) (x := base_) 0 rfl (pv 0)) T.cl_Base T.m_Base_rings GBase_rings (hr.mono (by decide)) (takes_of rfl rfl rfl rfl) T.bBase_rings)) frz_L)) (ra_cons (re_enc (ρ := (rL (rL (rT2 rI rI)))) (re_ag (re_var (ρ := (rAg hN (rL (rL (rT2 rI rI))))) (x := rings_) 4 rfl (pv 4)))) ra_nil)) T.g_law_same T.F_law_same.kp T.b_law_same) (fun _ => rfl)))))))))))))
end
end DD
namespace DD
open PySem PySem.Spec PyProof.Rows L2 KO SX RF
section
variable {P : Program} {w : World} {K : PySem.W.Frag} {mg : Str → Option Value} {base : Heap}
theorem scLaw : FnScope ["_law_script", "_law_pool_here", "_law_length_here", "_law_many_here", "_law_spans", "_law_net", "_law_base", "_law_tree_here", "_law_rings", "_law_first", "_law_far", "_law_pairs", "_law_other", "_law_event"] ["_law_script"] (defScope sLaw) := ⟨rfl, rfl, rfl, by decide +kernel, rfl, by decide +kernel, by decide +kernel⟩
def P_Law (script_ : List Int) : Mo Bool :=
  ((((pure script_) >>= fun x4 => ((pure (0 : Int)) >>= fun x2 => (pure ()) >>= fun y3 => pure (x2, y3)) >>= fun y5 => pure (x4, y5)) >>= fun y1 => Mo.rq (0 ≤ y1.2.1 ∧ y1.2.1 ≤ 1000) ()) >>= fun pool_6 => (((pure ()) >>= fun y8 => P_Llength) >>= fun length_9 => (((pure ()) >>= fun y10 => P_Lmany) >>= fun many_11 => ((((pure length_9) >>= fun x20 => ((pure many_11) >>= fun x18 => ((((pure many_11) >>= fun x14 => (pure ()) >>= fun y15 => pure (x14, y15)) >>= fun y13 => P_Lcount y13.1) >>= fun x16 => (pure ()) >>= fun y17 => pure (x16, y17)) >>= fun y19 => pure (x18, y19)) >>= fun y21 => pure (x20, y21)) >>= fun y12 => P_Lanyspans y12.1 y12.2.1 y12.2.2.1) >>= fun spans_22 => ((((pure length_9) >>= fun x29 => ((pure many_11) >>= fun x27 => (((pure spans_22) >>= fun x24 => pure x24) >>= fun x25 => (pure ()) >>= fun y26 => pure (x25, y26)) >>= fun y28 => pure (x27, y28)) >>= fun y30 => pure (x29, y30)) >>= fun y23 => P_NetInit y23.1 y23.2.1 y23.2.2.1) >>= fun net_31 => ((((pure net_31) >>= fun x33 => (pure ()) >>= fun y34 => pure (x33, y34)) >>= fun y32 => P_BaseInit y32.1) >>= fun base_35 => ((((pure many_11) >>= fun x39 => ((pure spans_22) >>= fun x37 => (pure ()) >>= fun y38 => pure (x37, y38)) >>= fun y40 => pure (x39, y40)) >>= fun y36 => P_Ltree y36.1 y36.2.1) >>= fun tree_41 => ((((pure many_11) >>= fun x45 => ((pure spans_22) >>= fun x43 => (pure ()) >>= fun y44 => pure (x43, y44)) >>= fun y46 => pure (x45, y46)) >>= fun y42 => P_Lbaserings y42.1 y42.2.1) >>= fun rings_47 => ((((pure script_) >>= fun x51 => ((pure (1 : Int)) >>= fun x49 => (pure ()) >>= fun y50 => pure (x49, y50)) >>= fun y52 => pure (x51, y52)) >>= fun y48 => Mo.rq (0 ≤ y48.2.1 ∧ y48.2.1 ≤ 1000) ()) >>= fun pool_53 => (((((pure many_11) >>= fun i55 => (pure (1 : Int)) >>= fun j56 => pure (max i55 j56)) >>= fun x58 => (pure ()) >>= fun y59 => pure (x58, y59)) >>= fun y57 => Mo.take y57.1) >>= fun first_60 => (((((pure (0 : Int)) >>= fun x71 => ((pure (0 : Int)) >>= fun x69 => ((pure (1 : Int)) >>= fun x67 => ((pure (10 : Int)) >>= fun x65 => (((pure (10 : Int)) >>= fun i61 => (pure (8 : Int)) >>= fun j62 => Mo.rq (CPow i61 j62) (i61 ^ j62.toNat)) >>= fun x63 => (pure ()) >>= fun y64 => pure (x63, y64)) >>= fun y66 => pure (x65, y66)) >>= fun y68 => pure (x67, y68)) >>= fun y70 => pure (x69, y70)) >>= fun y72 => pure (x71, y72)) >>= fun y73 => pure [y73.1, y73.2.1, y73.2.2.1, y73.2.2.2.1, y73.2.2.2.2.1]) >>= fun x77 => (((pure (5 : Int)) >>= fun x75 => (pure ()) >>= fun y76 => pure (x75, y76)) >>= fun y74 => Mo.take y74.1) >>= fun i78 => Mo.get (atI x77 i78)) >>= fun far_79 => (((((pure many_11) >>= fun i80 => Mo.rq (-(2 ^ 62) ≤ i80 ∧ i80 < 2 ^ 62) (rangeL 0 i80.toNat)) >>= Mo.lc (fun w82 => (pure true)) (fun w82 => (((pure first_60) >>= fun x85 => ((pure w82) >>= fun x83 => (pure ()) >>= fun y84 => pure (x83, y84)) >>= fun y86 => pure (x85, y86)) >>= fun y87 => pure (y87.1, y87.2.1)))) >>= fun x96 => (((pure many_11) >>= fun i88 => Mo.rq (-(2 ^ 62) ≤ i88 ∧ i88 < 2 ^ 62) (rangeL 0 i88.toNat)) >>= Mo.lc (fun w90 => (pure true)) (fun w90 => (((pure w90) >>= fun x93 => ((pure first_60) >>= fun x91 => (pure ()) >>= fun y92 => pure (x91, y92)) >>= fun y94 => pure (x93, y94)) >>= fun y95 => pure (y95.1, y95.2.1)))) >>= fun y97 => Mo.rq (x96.length + y97.length ≤ sizeLine) (x96 ++ y97)) >>= fun pairs_98 => (((pure pairs_98) >>= fun x143 => (((((((pure (1 : Int)) >>= fun i99 => pure (-i99)) >>= fun i100 => (pure far_79) >>= fun j101 => pure (i100 - j101)) >>= fun x104 => ((pure first_60) >>= fun x102 => (pure ()) >>= fun y103 => pure (x102, y103)) >>= fun y105 => pure (x104, y105)) >>= fun y106 => pure (y106.1, y106.2.1)) >>= fun x140 => ((((pure first_60) >>= fun x111 => (((pure many_11) >>= fun i107 => (pure far_79) >>= fun j108 => pure (i107 + j108)) >>= fun x109 => (pure ()) >>= fun y110 => pure (x109, y110)) >>= fun y112 => pure (x111, y112)) >>= fun y113 => pure (y113.1, y113.2.1)) >>= fun x138 => (((((pure many_11) >>= fun i114 => (pure far_79) >>= fun j115 => pure (i114 + j115)) >>= fun x121 => ((((pure (1 : Int)) >>= fun i116 => pure (-i116)) >>= fun i117 => (pure far_79) >>= fun j118 => pure (i117 - j118)) >>= fun x119 => (pure ()) >>= fun y120 => pure (x119, y120)) >>= fun y122 => pure (x121, y122)) >>= fun y123 => pure (y123.1, y123.2.1)) >>= fun x136 => ((((((pure (1 : Int)) >>= fun i124 => pure (-i124)) >>= fun i125 => (pure far_79) >>= fun j126 => pure (i125 - j126)) >>= fun x131 => (((pure many_11) >>= fun i127 => (pure far_79) >>= fun j128 => pure (i127 + j128)) >>= fun x129 => (pure ()) >>= fun y130 => pure (x129, y130)) >>= fun y132 => pure (x131, y132)) >>= fun y133 => pure (y133.1, y133.2.1)) >>= fun x134 => (pure ()) >>= fun y135 => pure (x134, y135)) >>= fun y137 => pure (x136, y137)) >>= fun y139 => pure (x138, y139)) >>= fun y141 => pure (x140, y141)) >>= fun y142 => pure [y142.1, y142.2.1, y142.2.2.1, y142.2.2.2.1]) >>= fun y144 => Mo.rq (x143.length + y144.length ≤ sizeLine) (x143 ++ y144)) >>= fun pairs_145 => ((((((pure base_35) >>= fun x155 => ((pure many_11) >>= fun x153 => ((pure spans_22) >>= fun x151 => ((pure tree_41) >>= fun x149 => ((pure rings_47) >>= fun x147 => (pure ()) >>= fun y148 => pure (x147, y148)) >>= fun y150 => pure (x149, y150)) >>= fun y152 => pure (x151, y152)) >>= fun y154 => pure (x153, y154)) >>= fun y156 => pure (x155, y156)) >>= fun y146 => P_Lbasegood y146.1 y146.2.1 y146.2.2.1 y146.2.2.2.1 y146.2.2.2.2.1) >>= fun b157 => pure (!b157)) >>= fun b170 => if b170 then pure true else ((((pure base_35) >>= fun x167 => ((pure many_11) >>= fun x165 => ((pure spans_22) >>= fun x163 => ((pure tree_41) >>= fun x161 => ((pure pairs_145) >>= fun x159 => (pure ()) >>= fun y160 => pure (x159, y160)) >>= fun y162 => pure (x161, y162)) >>= fun y164 => pure (x163, y164)) >>= fun y166 => pure (x165, y166)) >>= fun y168 => pure (x167, y168)) >>= fun y158 => P_Lwaysgood y158.1 y158.2.1 y158.2.2.1 y158.2.2.2.1 y158.2.2.2.2.1) >>= fun b169 => pure (!b169))) >>= fun c171 => if c171 = true then ((pure false) >>= fun r172 => pure r172) else ((((((pure length_9) >>= fun x183 => ((pure many_11) >>= fun x181 => (((pure spans_22) >>= fun x176 => ((pure (1 : Int)) >>= fun i175 => pure (some i175)) >>= fun l177 => (pure none) >>= fun h178 => pure (cutL x176 l177 h178)) >>= fun x179 => (pure ()) >>= fun y180 => pure (x179, y180)) >>= fun y182 => pure (x181, y182)) >>= fun y184 => pure (x183, y184)) >>= fun y174 => P_NetInit y174.1 y174.2.1 y174.2.2.1) >>= fun x185 => (pure ()) >>= fun y186 => pure (x185, y186)) >>= fun y173 => P_BaseInit y173.1) >>= fun other_187 => (((((((pure other_187) >>= fun x188 => P_BaseRings x188) >>= fun v190 => Mo.rq (Enc.ok (rL (rL (rT2 rI rI))) v190) (Enc.d (rL (rL (rT2 rI rI))) v190)) >>= fun x204 => (((((pure many_11) >>= fun x198 => (((pure spans_22) >>= fun x193 => ((pure (1 : Int)) >>= fun i192 => pure (some i192)) >>= fun l194 => (pure none) >>= fun h195 => pure (cutL x193 l194 h195)) >>= fun x196 => (pure ()) >>= fun y197 => pure (x196, y197)) >>= fun y199 => pure (x198, y199)) >>= fun y191 => P_Lbaserings y191.1 y191.2.1) >>= fun v200 => Mo.rq (Enc.ok (rL (rL (rT2 rI rI))) v200) (Enc.d (rL (rL (rT2 rI rI))) v200)) >>= fun x202 => (pure ()) >>= fun y203 => pure (x202, y203)) >>= fun y205 => pure (x204, y205)) >>= fun y201 => Mo.rq (y201.1 = y201.2.1) true) >>= fun b206 => pure (!b206)) >>= fun c207 => if c207 = true then ((pure false) >>= fun r208 => pure r208) else ((((((pure base_35) >>= fun x218 => ((pure many_11) >>= fun x216 => ((pure spans_22) >>= fun x214 => ((pure tree_41) >>= fun x212 => ((pure rings_47) >>= fun x210 => (pure ()) >>= fun y211 => pure (x210, y211)) >>= fun y213 => pure (x212, y213)) >>= fun y215 => pure (x214, y215)) >>= fun y217 => pure (x216, y217)) >>= fun y219 => pure (x218, y219)) >>= fun y209 => P_Lbasegood y209.1 y209.2.1 y209.2.2.1 y209.2.2.2.1 y209.2.2.2.2.1) >>= fun b220 => pure (!b220)) >>= fun b233 => if b233 then pure true else ((((pure base_35) >>= fun x230 => ((pure many_11) >>= fun x228 => ((pure spans_22) >>= fun x226 => ((pure tree_41) >>= fun x224 => ((pure pairs_145) >>= fun x222 => (pure ()) >>= fun y223 => pure (x222, y223)) >>= fun y225 => pure (x224, y225)) >>= fun y227 => pure (x226, y227)) >>= fun y229 => pure (x228, y229)) >>= fun y231 => pure (x230, y231)) >>= fun y221 => P_Lwaysgood y221.1 y221.2.1 y221.2.2.1 y221.2.2.2.1 y221.2.2.2.2.1) >>= fun b232 => pure (!b232))) >>= fun c234 => if c234 = true then ((pure false) >>= fun r235 => pure r235) else ((((((pure net_31) >>= fun x237 => pure (x237.2.2)) >>= fun v238 => Mo.rq (Enc.ok (rTs (rT4 rI rI rI rI)) v238) (Enc.d (rTs (rT4 rI rI rI rI)) v238)) >>= fun x244 => ((((pure spans_22) >>= fun x239 => pure x239) >>= fun v240 => Mo.rq (Enc.ok (rTs (rT4 rI rI rI rI)) v240) (Enc.d (rTs (rT4 rI rI rI rI)) v240)) >>= fun x242 => (pure ()) >>= fun y243 => pure (x242, y243)) >>= fun y245 => pure (x244, y245)) >>= fun y241 => Mo.rq (y241.1 = y241.2.1) true) >>= fun r236 => pure r236))))))))))))))))))
theorem fn_Law (T : Tx K mg) : FnOk P w K mg base (L2.CX P w) 10 T.flaw T.dlaw ["_law_script"] (spR K mg (fun (c : Unit) (z : List Int × Unit) => [.fz ((rScr K) z.1)]) (fun z => P_Law z.1) (RK.fz rB)) := by
  have GBase_init := fn_BaseInit (P := P) (w := w) (base := base) T
  have GBase_rings := fn_BaseRings (P := P) (w := w) (base := base) T
  have GNet_init := fn_NetInit (P := P) (w := w) (base := base) T
  have G_law_any_spans := fn_Lanyspans (P := P) (w := w) (base := base) T
  have G_law_base_good := fn_Lbasegood (P := P) (w := w) (base := base) T
  have G_law_base_rings := fn_Lbaserings (P := P) (w := w) (base := base) T
  have G_law_count := fn_Lcount (P := P) (w := w) (base := base) T
  have G_law_length := fn_Llength (P := P) (w := w) (base := base) T
  have G_law_many := fn_Lmany (P := P) (w := w) (base := base) T
  have G_law_pool := fn_pool (P := P) (w := w) (base := base) T
  have G_law_same := fn_same (P := P) (w := w) (base := base) T
  have G_law_take := fn_take (P := P) (w := w) (base := base) T
  have G_law_tree := fn_Ltree (P := P) (w := w) (base := base) T
  have G_law_ways_good := fn_Lwaysgood (P := P) (w := w) (base := base) T
  refine fn_mk (Γe := fun c z => [.un, .un, .un, .un, .un, .un, .un, .un, .un, .un, .un, .un, .un, .un]) (Γ0 := fun c z => [.fz ((rScr K) z.1), .un, .un, .un, .un, .un, .un, .un, .un, .un, .un, .un, .un, .un]) (Z := (fun _ _ x => .ret ((RK.fz rB).ok x))) T.Flaw scLaw (fun _ _ => rfl) (fun _ _ => rfl) (fun _ _ => ⟨.inl rfl, .inl rfl, .inl rfl, .inl rfl, .inl rfl, .inl rfl, .inl rfl, .inl rfl, .inl rfl, .inl rfl, .inl rfl, .inl rfl, .inl rfl, .inl rfl, trivial⟩) (fun _ _ _ _ _ _ h => (own_none rfl h).elim) (fun _ _ _ => .inl rfl) (fun cdv A outer s H E a0 y hr => ?_)
  obtain ⟨script_, _⟩ := y
  show RB _ _ ([.un, .un, .un, .un, .un, .un, .un, .un, .un, .un, .un, .un, .un, .un] : RF.Ctx) false [.fz ((rScr K) script_), .un, .un, .un, .un, .un, .un, .un, .un, .un, .un, .un, .un, .un] _ (P_Law script_) _
  exact (rb_setO (ρ := fun _ => oPool) (ps_set (i := 1) scLaw.nd rfl (.inl rfl) peE) (re_call () G_law_pool (hr.mono (by decide)) (takes_of rfl rfl rfl rfl) (ra_cons (re_var (ρ := (rScr K)) (x := script_) 0 rfl (pv 0)) (ra_cons re_int ra_nil)) T.g_law_pool T.F_law_pool.kp T.b_law_pool) rfl fun (pool_6 : Unit) a7 => (rb_set (ps_set (i := 2) scLaw.nd rfl (.inl rfl) peE) (re_call a7 G_law_length (hr.mono (by decide)) (takes_of rfl rfl rfl rfl) (ra_own (qo := oPool) rfl (pv 1) ra_nil) T.g_law_length T.F_law_length.kp T.b_law_length) rfl fun (length_9 : Int) => (rb_set (ps_set (i := 3) scLaw.nd rfl (.inl rfl) peE) (re_call a7 G_law_many (hr.mono (by decide)) (takes_of rfl rfl rfl rfl) (ra_own (qo := oPool) rfl (pv 1) ra_nil) T.g_law_many T.F_law_many.kp T.b_law_many) rfl fun (many_11 : Int) => (rb_set (ps_set (i := 4) scLaw.nd rfl (.inl rfl) peE) (re_frz (re_call a7 G_law_any_spans (hr.mono (by decide)) (takes_of rfl rfl rfl rfl) (ra_own (qo := oPool) rfl (pv 1) (ra_cons (re_var (ρ := rI) (x := length_9) 2 rfl (pv 2)) (ra_cons (re_var (ρ := rI) (x := many_11) 3 rfl (pv 3)) (ra_cons (re_call a7 G_law_count (hr.mono (by decide)) (takes_of rfl rfl rfl rfl) (ra_own (qo := oPool) rfl (pv 1) (ra_cons (re_var (ρ := rI) (x := many_11) 3 rfl (pv 3)) ra_nil)) T.g_law_count T.F_law_count.kp T.b_law_count) ra_nil)))) T.g_law_any_spans T.F_law_any_spans.kp T.b_law_any_spans) frz_L) rfl fun (spans_22 : (List (Int × Int × Int × Int))) => (rb_set (ps_set (i := 5) scLaw.nd rfl (.inl rfl) peE) (re_frz (ρ' := (rNet T.C_Net)) (re_make T.M_Net GNet_init (hr.mono (by decide)) (takes_of rfl rfl rfl rfl) (ra_cons (re_var (ρ := rI) (x := length_9) 2 rfl (pv 2)) (ra_cons (re_var (ρ := rI) (x := many_11) 3 rfl (pv 3)) (ra_cons (re_frz (re_list (rsq_L (re_var (ρ := (rL (rT4 rI rI rI rI))) (x := spans_22) 4 rfl (pv 4))) T.z_list) frz_L) ra_nil))) T.g_Net T.bNet_init) (fun _ => frz_In)) rfl fun (net_31 : ONet) => (rb_set (ps_set (i := 6) scLaw.nd rfl (.inl rfl) peE) (re_frz (ρ' := (rBase T.C_Net T.C_Base)) (re_make T.M_Base GBase_init (hr.mono (by decide)) (takes_of rfl rfl rfl rfl) (ra_cons (re_var (ρ := (rNet T.C_Net)) (x := net_31) 5 rfl (pv 5)) ra_nil) T.g_Base T.bBase_init) (fun _ => frz_In)) rfl fun (base_35 : OBase) => (rb_set (ps_set (i := 7) scLaw.nd rfl (.inl rfl) peE) (re_frz (re_call () G_law_tree (hr.mono (by decide)) (takes_of rfl rfl rfl rfl) (ra_cons (re_var (ρ := rI) (x := many_11) 3 rfl (pv 3)) (ra_cons (re_var (ρ := (rL (rT4 rI rI rI rI))) (x := spans_22) 4 rfl (pv 4)) ra_nil)) T.g_law_tree T.F_law_tree.kp T.b_law_tree) frz_L) rfl fun (tree_41 : (List Int)) => (rb_set (ps_set (i := 8) scLaw.nd rfl (.inl rfl) peE) (re_frz (re_call () G_law_base_rings (hr.mono (by decide)) (takes_of rfl rfl rfl rfl) (ra_cons (re_var (ρ := rI) (x := many_11) 3 rfl (pv 3)) (ra_cons (re_var (ρ := (rL (rT4 rI rI rI rI))) (x := spans_22) 4 rfl (pv 4)) ra_nil)) T.g_law_base_rings T.F_law_base_rings.kp T.b_law_base_rings) frz_L) rfl fun (rings_47 : (List (List (Int × Int)))) => (rb_setO (ρ := fun _ => oPool) (ps_set (i := 1) scLaw.nd rfl (.inl rfl) peE) (re_call () G_law_pool (hr.mono (by decide)) (takes_of rfl rfl rfl rfl) (ra_cons (re_var (ρ := (rScr K)) (x := script_) 0 rfl (pv 0)) (ra_cons re_int ra_nil)) T.g_law_pool T.F_law_pool.kp T.b_law_pool) rfl fun (pool_53 : Unit) a54 => (rb_set (ps_set (i := 9) scLaw.nd rfl (.inr rfl) peE) (re_call a54 G_law_take (hr.mono (by decide)) (takes_of rfl rfl rfl rfl) (ra_own (qo := oPool) rfl (pv 1) (ra_cons (re_max2 (re_var (ρ := rI) (x := many_11) 3 rfl (pv 3)) re_int T.z_max) ra_nil)) T.g_law_take T.F_law_take.kp T.b_law_take) rfl fun (first_60 : Int) => (rb_set (ps_set (i := 10) scLaw.nd rfl (.inl rfl) peE) (re_ixL (re_frz (re_lst (fun (y73 : Int × Int × Int × Int × Int × Unit) => [y73.1, y73.2.1, y73.2.2.1, y73.2.2.2.1, y73.2.2.2.2.1]) rI (ra_cons re_int (ra_cons re_int (ra_cons re_int (ra_cons re_int (ra_cons (re_pow re_int re_int) ra_nil)))))) frz_L) (re_call a54 G_law_take (hr.mono (by decide)) (takes_of rfl rfl rfl rfl) (ra_own (qo := oPool) rfl (pv 1) (ra_cons re_int ra_nil)) T.g_law_take T.F_law_take.kp T.b_law_take)) rfl fun (far_79 : Int) => (rb_set (ps_set (i := 11) scLaw.nd rfl (.inl rfl) peE) (re_frz (re_cat (re_frz (re_of (pe_lc (own := [("_law_event", 13)]) (g := gName 13) rfl scLaw.nd (pi_range1 (by rfl) T.z_range (pa_cons peE pa_nil)) (blkOk_by (own := [("_law_event", 13)]) (N := ["_law_script", "_law_pool_here", "_law_length_here", "_law_many_here", "_law_spans", "_law_net", "_law_base", "_law_tree_here", "_law_rings", "_law_first", "_law_far", "_law_pairs", "_law_other", "_law_event"]) (sc := defScope sLaw) (by decide +kernel)) (fun _ _ _ _ _ => pg_name (i := 13) scLaw.nd rfl (.inl rfl)) ptPi peEi) (rte_lc (vs := [13]) (fun (x : Int) Γ => Γ.set 13 (.fz (rI x))) (ri_range1 (re_var (ρ := rI) (x := many_11) 3 rfl (pv 3))) (fun _ => rg_name) (fun _ => rgo_name) (un1 rfl) (fun (w82 : Int) => rti_nil) (fun (w82 : Int) _ _ _ _ _ => (re_tup (fun (y87 : Int × Int × Unit) => (y87.1, y87.2.1)) (rT2 rI rI) (fun (y87 : Int × Int × Unit) => [rI y87.1, rI y87.2.1]) (ra_cons (re_var (ρ := rI) (x := first_60) 9 rfl (pv 9)) (ra_cons (re_var (ρ := rI) (x := w82) 13 rfl (pv 13)) ra_nil)))))) frz_L) (re_frz (re_of (pe_lc (own := [("_law_event", 13)]) (g := gName 13) rfl scLaw.nd (pi_range1 (by rfl) T.z_range (pa_cons peE pa_nil)) (blkOk_by (own := [("_law_event", 13)]) (N := ["_law_script", "_law_pool_here", "_law_length_here", "_law_many_here", "_law_spans", "_law_net", "_law_base", "_law_tree_here", "_law_rings", "_law_first", "_law_far", "_law_pairs", "_law_other", "_law_event"]) (sc := defScope sLaw) (by decide +kernel)) (fun _ _ _ _ _ => pg_name (i := 13) scLaw.nd rfl (.inl rfl)) ptPi peEi) (rte_lc (vs := [13]) (fun (x : Int) Γ => Γ.set 13 (.fz (rI x))) (ri_range1 (re_var (ρ := rI) (x := many_11) 3 rfl (pv 3))) (fun _ => rg_name) (fun _ => rgo_name) (un1 rfl) (fun (w90 : Int) => rti_nil) (fun (w90 : Int) _ _ _ _ _ => (re_tup (fun (y95 : Int × Int × Unit) => (y95.1, y95.2.1)) (rT2 rI rI) (fun (y95 : Int × Int × Unit) => [rI y95.1, rI y95.2.1]) (ra_cons (re_var (ρ := rI) (x := w90) 13 rfl (pv 13)) (ra_cons (re_var (ρ := rI) (x := first_60) 9 rfl (pv 9)) ra_nil)))))) frz_L)) frz_L) rfl fun (pairs_98 : (List (Int × Int))) => (rb_set (ps_set (i := 11) scLaw.nd rfl (.inl rfl) peE) (re_frz (re_cat (re_var (ρ := (rL (rT2 rI rI))) (x := pairs_98) 11 rfl (pv 11)) (re_frz (re_lst (fun (y142 : (Int × Int) × (Int × Int) × (Int × Int) × (Int × Int) × Unit) => [y142.1, y142.2.1, y142.2.2.1, y142.2.2.2.1]) (rT2 rI rI) (ra_cons (re_tup (fun (y106 : Int × Int × Unit) => (y106.1, y106.2.1)) (rT2 rI rI) (fun (y106 : Int × Int × Unit) => [rI y106.1, rI y106.2.1]) (ra_cons (re_sub (re_neg re_int) (re_var (ρ := rI) (x := far_79) 10 rfl (pv 10))) (ra_cons (re_var (ρ := rI) (x := first_60) 9 rfl (pv 9)) ra_nil))) (ra_cons (re_tup (fun (y113 : Int × Int × Unit) => (y113.1, y113.2.1)) (rT2 rI rI) (fun (y113 : Int × Int × Unit) => [rI y113.1, rI y113.2.1]) (ra_cons (re_var (ρ := rI) (x := first_60) 9 rfl (pv 9)) (ra_cons (re_add (re_var (ρ := rI) (x := many_11) 3 rfl (pv 3)) (re_var (ρ := rI) (x := far_79) 10 rfl (pv 10))) ra_nil))) (ra_cons (re_tup (fun (y123 : Int × Int × Unit) => (y123.1, y123.2.1)) (rT2 rI rI) (fun (y123 : Int × Int × Unit) => [rI y123.1, rI y123.2.1]) (ra_cons (re_add (re_var (ρ := rI) (x := many_11) 3 rfl (pv 3)) (re_var (ρ := rI) (x := far_79) 10 rfl (pv 10))) (ra_cons (re_sub (re_neg re_int) (re_var (ρ := rI) (x := far_79) 10 rfl (pv 10))) ra_nil))) (ra_cons (re_tup (fun (y133 : Int × Int × Unit) => (y133.1, y133.2.1)) (rT2 rI rI) (fun (y133 : Int × Int × Unit) => [rI y133.1, rI y133.2.1]) (ra_cons (re_sub (re_neg re_int) (re_var (ρ := rI) (x := far_79) 10 rfl (pv 10))) (ra_cons (re_add (re_var (ρ := rI) (x := many_11) 3 rfl (pv 3)) (re_var (ρ := rI) (x := far_79) 10 rfl (pv 10))) ra_nil))) ra_nil))))) frz_L)) frz_L) rfl fun (pairs_145 : (List (Int × Int))) => (rb_if1 (rt_w (rw_or (rt_not (rt_val (re_call () G_law_base_good (hr.mono (by decide)) (takes_of rfl rfl rfl rfl) (ra_cons (re_var (ρ := (rBase T.C_Net T.C_Base)) (x := base_35) 6 rfl (pv 6)) (ra_cons (re_var (ρ := rI) (x := many_11) 3 rfl (pv 3)) (ra_cons (re_var (ρ := (rL (rT4 rI rI rI rI))) (x := spans_22) 4 rfl (pv 4)) (ra_cons (re_var (ρ := (rL rI)) (x := tree_41) 7 rfl (pv 7)) (ra_cons (re_var (ρ := (rL (rL (rT2 rI rI)))) (x := rings_47) 8 rfl (pv 8)) ra_nil))))) T.g_law_base_good T.F_law_base_good.kp T.b_law_base_good))) (rw_or1 (rt_not (rt_val (re_call () G_law_ways_good (hr.mono (by decide)) (takes_of rfl rfl rfl rfl) (ra_cons (re_var (ρ := (rBase T.C_Net T.C_Base)) (x := base_35) 6 rfl (pv 6)) (ra_cons (re_var (ρ := rI) (x := many_11) 3 rfl (pv 3)) (ra_cons (re_var (ρ := (rL (rT4 rI rI rI rI))) (x := spans_22) 4 rfl (pv 4)) (ra_cons (re_var (ρ := (rL rI)) (x := tree_41) 7 rfl (pv 7)) (ra_cons (re_var (ρ := (rL (rT2 rI rI))) (x := pairs_145) 11 rfl (pv 11)) ra_nil))))) T.g_law_ways_good T.F_law_ways_good.kp T.b_law_ways_good)))))) (rb_ret (fun (r172 : Bool) => r172) re_bl (fun _ => rfl)) (rb_set (ps_set (i := 12) scLaw.nd rfl (.inl rfl) peE) (re_frz (ρ' := (rBase T.C_Net T.C_Base)) (re_make T.M_Base GBase_init (hr.mono (by decide)) (takes_of rfl rfl rfl rfl) (ra_cons (re_frz (ρ' := (rNet T.C_Net)) (re_make T.M_Net GNet_init (hr.mono (by decide)) (takes_of rfl rfl rfl rfl) (ra_cons (re_var (ρ := rI) (x := length_9) 2 rfl (pv 2)) (ra_cons (re_var (ρ := rI) (x := many_11) 3 rfl (pv 3)) (ra_cons (re_frz (re_slL (re_var (ρ := (rL (rT4 rI rI rI rI))) (x := spans_22) 4 rfl (pv 4)) (rp_some re_int) rp_none) frz_L) ra_nil))) T.g_Net T.bNet_init) (fun _ => frz_In)) ra_nil) T.g_Base T.bBase_init) (fun _ => frz_In)) rfl fun (other_187 : OBase) => (rb_if1 (rt_not (rt_val (re_call () G_law_same (hr.mono (by decide)) (takes_of rfl rfl rfl rfl) (ra_cons (re_enc (ρ := (rL (rL (rT2 rI rI)))) (re_frz (re_onf (re_meth0 (m := fun x => P_BaseRings x) (fsBase T.C_Net) (re_var (ρ := (rBase T.C_Net T.C_Base)) (x := other_187) 12 rfl (pv 12)) T.cl_Base T.m_Base_rings GBase_rings (hr.mono (by decide)) (takes_of rfl rfl rfl rfl) T.bBase_rings)) frz_L)) (ra_cons (re_enc (ρ := (rL (rL (rT2 rI rI)))) (re_frz (re_call () G_law_base_rings (hr.mono (by decide)) (takes_of rfl rfl rfl rfl) (ra_cons (re_var (ρ := rI) (x := many_11) 3 rfl (pv 3)) (ra_cons (re_frz (re_slL (re_var (ρ := (rL (rT4 rI rI rI rI))) (x := spans_22) 4 rfl (pv 4)) (rp_some re_int) rp_none) frz_L) ra_nil)) T.g_law_base_rings T.F_law_base_rings.kp T.b_law_base_rings) frz_L)) ra_nil)) T.g_law_same T.F_law_same.kp T.b_law_same))) (rb_ret (fun (r208 : Bool) => r208) re_bl (fun _ => rfl)) (rb_if1 (rt_w (rw_or (rt_not (rt_val (re_call () G_law_base_good (hr.mono (by decide)) (takes_of rfl rfl rfl rfl) (ra_cons (re_var (ρ := (rBase T.C_Net T.C_Base)) (x := base_35) 6 rfl (pv 6)) (ra_cons (re_var (ρ := rI) (x := many_11) 3 rfl (pv 3)) (ra_cons (re_var (ρ := (rL (rT4 rI rI rI rI))) (x := spans_22) 4 rfl (pv 4)) (ra_cons (re_var (ρ := (rL rI)) (x := tree_41) 7 rfl (pv 7)) (ra_cons (re_var (ρ := (rL (rL (rT2 rI rI)))) (x := rings_47) 8 rfl (pv 8)) ra_nil))))) T.g_law_base_good T.F_law_base_good.kp T.b_law_base_good))) (rw_or1 (rt_not (rt_val (re_call () G_law_ways_good (hr.mono (by decide)) (takes_of rfl rfl rfl rfl) (ra_cons (re_var (ρ := (rBase T.C_Net T.C_Base)) (x := base_35) 6 rfl (pv 6)) (ra_cons (re_var (ρ := rI) (x := many_11) 3 rfl (pv 3)) (ra_cons (re_var (ρ := (rL (rT4 rI rI rI rI))) (x := spans_22) 4 rfl (pv 4)) (ra_cons (re_var (ρ := (rL rI)) (x := tree_41) 7 rfl (pv 7)) (ra_cons (re_var (ρ := (rL (rT2 rI rI))) (x := pairs_145) 11 rfl (pv 11)) ra_nil))))) T.g_law_ways_good T.F_law_ways_good.kp T.b_law_ways_good)))))) (rb_ret (fun (r235 : Bool) => r235) re_bl (fun _ => rfl)) (rb_ret (fun (r236 : Bool) => r236) (re_call () G_law_same (hr.mono (by decide)) (takes_of rfl rfl rfl rfl) (ra_cons (re_enc (ρ := (rTs (rT4 rI rI rI rI))) (re_fld (ρ' := (rTs (rT4 rI rI rI rI))) (g := fun (x : ONet) => x.2.2) (fsNet) (re_var (ρ := (rNet T.C_Net)) (x := net_31) 5 rfl (pv 5)) T.cl_Net T.na_Net_spans)) (ra_cons (re_enc (ρ := (rTs (rT4 rI rI rI rI))) (re_tuple (rsq_L (re_var (ρ := (rL (rT4 rI rI rI rI))) (x := spans_22) 4 rfl (pv 4))) T.z_tuple)) ra_nil)) T.g_law_same T.F_law_same.kp T.b_law_same) (fun _ => rfl)))))))))))))))))))
end
end DD
namespace DD
open PySem PySem.Spec PyProof.Rows L2 KO SX RF
def sE (sp : List Sp4') (st : Int × Int) : Option (Int × Int) := if 0 ≤ st.1 ∧ st.1 < sp.length ∧ (st.2 = 1 ∨ st.2 = -1) then (sp[st.1.toNat]?).map (fun t => if st.2 = 1 then (t.1, t.2.1) else (t.2.1, t.1)) else none
theorem atI_of {α : Type} {xs : List α} {i : Int} (h : 0 ≤ i) (h2 : i < xs.length) : atI xs i = xs[i.toNat]? := by
  unfold atI ixN
  rw [if_pos h, if_pos h2]
  rfl
theorem atI_get {α : Type} {xs : List α} {i : Int} (h : 0 ≤ i) (h2 : i < xs.length) : ∃ x, atI xs i = some x ∧ xs[i.toNat]? = some x := by
  have h3 : i.toNat < xs.length := by omega
  exact ⟨xs[i.toNat], by rw [atI_of h h2, List.getElem?_eq_getElem h3], List.getElem?_eq_getElem h3⟩
theorem stepends_eq (net : ONet) (st : Int × Int) : P_stepends net st = pure (sE net.2.2 st) := by
  unfold P_stepends sE
  simp only [pure_bind, bind_assoc, map_pure]
  by_cases h1 : 0 ≤ st.1
  · by_cases h2 : st.1 < net.2.2.length
    · obtain ⟨x, e1, e2⟩ := atI_get h1 h2
      obtain ⟨_, e3⟩ := List.getElem?_eq_some_iff.mp e2
      by_cases h3 : st.2 = 1
      · simp [h1, h2, h3, e1, e3]
      · by_cases h4 : st.2 = -1
        · simp [h1, h2, h4, e1, e3]
        · simp [h1, h2, h3, h4]
    · simp [h1, h2]
  · simp [h1]
theorem Llength_ok {Q : Int → Prop} {E : Ex → Prop} (q : ∀ r, 2 ≤ r → r ≤ 60 → Q r) : P_Llength.run Q E := by
  unfold P_Llength
  simp [Mo.run_take]
  intro r h1 h2
  split
  · intro r h1 h2; exact q _ (by omega) (by omega)
  · intro r h1 h2
    rcases (show r = 0 ∨ r = 1 ∨ r = 2 ∨ r = 3 ∨ r = 4 ∨ r = 5 by omega) with h | h | h | h | h | h <;> subst h <;> exact ⟨_, rfl, q _ (by decide) (by decide)⟩
theorem Lmany_ok {Q : Int → Prop} {E : Ex → Prop} (q : ∀ r, 0 ≤ r → r ≤ 12 → Q r) : P_Lmany.run Q E := by
  unfold P_Lmany
  simp [Mo.run_take]
  intro r h1 h2
  split
  · intro r h1 h2; exact q _ (by omega) (by omega)
  · split
    · intro r h1 h2; exact q _ (by omega) (by omega)
    · intro r h1 h2; exact q _ (by omega) (by omega)
theorem Lcount_ok {m : Int} {Q : Int → Prop} {E : Ex → Prop} (q : ∀ r, 0 ≤ r → r ≤ 24 → (m < 2 → r = 0) → Q r) : (P_Lcount m).run Q E := by
  unfold P_Lcount
  simp [Mo.run_take]
  split
  · exact q _ (by omega) (by omega) (fun _ => rfl)
  · intro r h1 h2
    split
    · intro r h1 h2; exact q _ (by omega) (by omega) (by omega)
    · intro r h1 h2; exact q _ (by omega) (by omega) (by omega)
def SpOk (len many : Int) (t : Sp4') : Prop := 0 ≤ t.1 ∧ t.1 < many ∧ 0 ≤ t.2.1 ∧ t.2.1 < many ∧ t.1 ≠ t.2.1 ∧ 0 ≤ t.2.2.1 ∧ t.2.2.1 ≤ t.2.2.2 ∧ t.2.2.2 ≤ t.2.2.1 + len - 1 ∧ t.2.2.2 ≤ 999
theorem rangeL_get {lo : Int} {n i : Nat} {x : Int} (h : (rangeL lo n)[i]? = some x) : x = lo + i ∧ i < n := by
  unfold rangeL at h
  by_cases hi : i < n
  · rw [List.getElem?_map, List.getElem?_range hi] at h
    exact ⟨(Option.some.inj h).symm, hi⟩
  · rw [List.getElem?_eq_none (by simpa using hi)] at h; cases h
theorem Lanyspans_ok {len many count : Int} (h1 : 2 ≤ len) (h2 : len ≤ 60) (h3 : 0 ≤ many) (h4 : many ≤ 12) (h5 : 0 ≤ count) (h6 : count ≤ 24) (h7 : many < 2 → count = 0) {Q : List Sp4' → Prop} {E : Ex → Prop} (q : ∀ sp : List Sp4', sp.length = count.toNat → (∀ t ∈ sp, SpOk len many t) → Q sp) : (P_Lanyspans len many count).run Q E := by
  unfold P_Lanyspans
  simp only [pure_bind, bind_assoc, map_pure]
  simp [Mo.run_take]
  refine ⟨by omega, Mo.fold_inv (fun k (s : List Sp4') => s.length = k ∧ ∀ t ∈ s, SpOk len many t) (k := 0) ⟨rfl, by simp⟩ (fun i x s hx hs => ?_) (fun s hs => q s ?_ hs.2)⟩
  · obtain ⟨hl, hs⟩ := hs
    obtain ⟨rfl, hi⟩ := rangeL_get hx
    have hm : 2 ≤ many := by
      by_cases h : many < 2
      · have := h7 h; omega
      · omega
    simp [Mo.run_take]
    refine ⟨by omega, fun a ha1 ha2 => ⟨by omega, fun b hb1 hb2 => ⟨by omega, by unfold CMul; omega, fun c hc1 hc2 => ?_⟩⟩⟩
    have hend : (a + 1 + b) % many = if a + 1 + b < many then a + 1 + b else a + 1 + b - many := modN (by omega) (by omega)
    have hl : s.length = i := by omega
    have hnew : ∀ r d : Int, 0 ≤ r → r < 1000 → 0 ≤ d → d < min len (1000 - r) → SpOk len many (a, (a + 1 + b) % many, r, r + d) := fun r d x1 x2 x3 x4 => by
      unfold SpOk
      rw [hend]
      dsimp only
      split <;> (refine ⟨?_, ?_, ?_, ?_, ?_, ?_, ?_, ?_, ?_⟩ <;> omega)
    have hcase : ∀ r d : Int, 0 ≤ r → r < 1000 → 0 ≤ d → d < min len (1000 - r) → ∀ t ∈ s ++ [(a, (a + 1 + b) % many, r, r + d)], SpOk len many t := fun r d x1 x2 x3 x4 t ht => by
      rcases List.mem_append.mp ht with h | h
      · exact hs t h
      · rw [List.mem_singleton.mp h]; exact hnew r d x1 x2 x3 x4
    split
    all_goals (try refine ⟨by omega, ?_⟩)
    all_goals intro r hr1 hr2
    all_goals refine ⟨by omega, fun d hd1 hd2 => ⟨by rw [sizeLine_eq]; omega, fun e he1 he2 => ?_⟩⟩
    all_goals split
    all_goals first
      | exact ⟨hl, fun t1 t2 t3 t4 ht => hcase r d (by omega) (by omega) hd1 hd2 _ (by simpa using ht)⟩
      | skip
    all_goals
      refine ⟨by omega, fun f hf1 hf2 => ?_⟩
      obtain ⟨x, e1, e2⟩ := atI_get (xs := s ++ [(a, (a + 1 + b) % many, r, r + d)]) hf1 (by simp; omega)
      refine ⟨x.1, x.2.1, x.2.2.1, x.2.2.2, e1, i, ?_, hl, fun t1 t2 t3 t4 ht => ?_⟩
      · unfold ixN
        rw [if_pos (by omega), if_pos (by omega)]
        simp
      · rcases List.mem_or_eq_of_mem_set ht with h | h
        · exact hcase r d (by omega) (by omega) hd1 hd2 _ h
        · rw [h]; exact hcase r d (by omega) (by omega) hd1 hd2 _ (List.mem_of_getElem? e2)
  · rw [hs.1]; simp [rangeL]
end DD
namespace DD
open PySem PySem.Spec PyProof.Rows L2 KO SX RF
theorem isspan_eq {len many : Int} {t : Sp4'} (h : SpOk len many t) : P_isspan t len many = pure true := by
  obtain ⟨h1, h2, h3, h4, h5, h6, h7, h8, h9⟩ := h
  unfold P_isspan
  have e1 : t.2.2.2 ≤ min (t.2.2.1 + len - 1) 999 := by omega
  simp [h1, h2, h3, h4, h5, h6, h7, e1]
theorem checknet_ok {len many : Int} {sp : List Sp4'} (h1 : 2 ≤ len) (h2 : len ≤ 60) (h3 : 0 ≤ many) (h4 : many ≤ 12) (h5 : sp.length ≤ 24) (h : ∀ t ∈ sp, SpOk len many t) {Q : Unit → Prop} {E : Ex → Prop} (q : Q ()) : (P_checknet len many sp).run Q E := by
  unfold P_checknet
  have h6 : ¬ (24 : Int) < sp.length := by omega
  simp [h1, h2, h3, h4, h6]
  refine Mo.fold_inv (fun _ _ => True) (k := 0) trivial (fun i x s hx _ => ?_) (fun _ _ => q)
  rw [enumL_get] at hx
  cases e : sp[i]? with
  | none => rw [e] at hx; cases hx
  | some t =>
    rw [e] at hx
    obtain rfl := Option.some.inj hx
    simp [isspan_eq (h t (List.mem_of_getElem? e))]
theorem NetInit_ok {len many : Int} {sp : List Sp4'} (h1 : 2 ≤ len) (h2 : len ≤ 60) (h3 : 0 ≤ many) (h4 : many ≤ 12) (h5 : sp.length ≤ 24) (h : ∀ t ∈ sp, SpOk len many t) {Q : ONet → Prop} {E : Ex → Prop} (q : Q (len, many, sp)) : (P_NetInit len many sp).run Q E := by
  unfold P_NetInit
  simp
  refine checknet_ok h1 h2 h3 h4 h5 h ?_
  rw [Mo.lc_pure (p := fun _ => true) (g := fun x => x) (by rw [sizeLine_eq]; omega) (fun _ _ => rfl) (fun _ _ _ => rfl)]
  show Q (len, many, List.map (fun x => x) (sp.filter fun _ => true))
  rw [List.filter_eq_self.mpr (by simp)]
  simpa using q
theorem drop_at {α : Type} {xs : List α} {i : Nat} {x : α} (h : xs[i]? = some x) : xs.drop i = x :: xs.drop (i + 1) := by
  obtain ⟨h1, h2⟩ := List.getElem?_eq_some_iff.mp h
  rw [List.drop_eq_getElem_cons h1, h2]
/-! ### walks and forests -/
abbrev St' := Int × Int
/-- a walk over the steps of T's spans, from a to b -/
def Wk (E : St' → Option (Int × Int)) (T : List Int) : Int → List St' → Int → Prop
  | a, [], b => a = b
  | a, st :: r, b => st.1 ∈ T ∧ ∃ w, E st = some w ∧ w.1 = a ∧ Wk E T w.2 r b
def vs (E : St' → Option (Int × Int)) : Int → List St' → List Int
  | a, [] => [a]
  | a, st :: r => a :: vs E (((E st).map (·.2)).getD 0) r
def Cn (E : St' → Option (Int × Int)) (T : List Int) (a b : Int) : Prop := ∃ p, Wk E T a p b
/-- the two steps of a span go opposite ways -/
structure Two (E : St' → Option (Int × Int)) : Prop where
  d : ∀ {st w}, E st = some w → st.2 = 1 ∨ st.2 = -1
  n : ∀ {st w}, E st = some w → E (st.1, -st.2) = some (w.2, w.1)
section
variable {E : St' → Option (Int × Int)} {T : List Int}
theorem vs_start : ∀ {a : Int} {p : List St'}, a ∈ vs E a p
  | a, [] => List.mem_singleton.mpr rfl
  | a, _ :: _ => List.mem_cons_self
theorem Wk.end_mem : ∀ {p : List St'} {a b : Int}, Wk E T a p b → b ∈ vs E a p
  | [], a, b, h => by show b ∈ [a]; rw [show a = b from h]; exact List.mem_singleton.mpr rfl
  | st :: r, a, b, h => by
    obtain ⟨_, w, hw, _, hr⟩ := h
    show b ∈ a :: vs E (((E st).map (·.2)).getD 0) r
    rw [hw]
    exact List.mem_cons_of_mem _ hr.end_mem
theorem Wk.app : ∀ {p q : List St'} {a b c : Int}, Wk E T a p b → Wk E T b q c → Wk E T a (p ++ q) c
  | [], q, a, b, c, h, h2 => by rw [show a = b from h]; exact h2
  | st :: r, q, a, b, c, h, h2 => by
    obtain ⟨ht, w, hw, ha, hr⟩ := h
    exact ⟨ht, w, hw, ha, hr.app h2⟩
theorem Wk.more {T' : List Int} (hs : ∀ x ∈ T, x ∈ T') : ∀ {p : List St'} {a b : Int}, Wk E T a p b → Wk E T' a p b
  | [], a, b, h => h
  | st :: r, a, b, h => by
    obtain ⟨ht, w, hw, ha, hr⟩ := h
    exact ⟨hs _ ht, w, hw, ha, hr.more hs⟩
theorem Wk.rev (h2 : Two E) : ∀ {p : List St'} {a b : Int}, Wk E T a p b → Cn E T b a
  | [], a, b, h => ⟨[], (show a = b from h).symm⟩
  | st :: r, a, b, h => by
    obtain ⟨ht, w, hw, ha, hr⟩ := h
    obtain ⟨q, hq⟩ := hr.rev h2
    exact ⟨q ++ [(st.1, -st.2)], hq.app ⟨ht, (w.2, w.1), h2.n hw, rfl, ha⟩⟩
theorem Cn.sym (h2 : Two E) {a b : Int} (h : Cn E T a b) : Cn E T b a := by obtain ⟨p, hp⟩ := h; exact hp.rev h2
theorem Cn.trans {a b c : Int} (h : Cn E T a b) (h' : Cn E T b c) : Cn E T a c := by
  obtain ⟨p, hp⟩ := h; obtain ⟨q, hq⟩ := h'; exact ⟨p ++ q, hp.app hq⟩
theorem Cn.more {T' : List Int} (hs : ∀ x ∈ T, x ∈ T') {a b : Int} (h : Cn E T a b) : Cn E T' a b := by obtain ⟨p, hp⟩ := h; exact ⟨p, hp.more hs⟩
theorem two_same (h2 : Two E) {e d d' : Int} {w w' : Int × Int} (h : E (e, d) = some w) (h' : E (e, d') = some w') : (d = d' ∧ w = w') ∨ w' = (w.2, w.1) := by
  have k1 := h2.d h
  have k2 := h2.d h'
  dsimp only at k1 k2
  by_cases c : d = d'
  · subst c
    exact .inl ⟨rfl, Option.some.inj (h.symm.trans h')⟩
  · right
    have := h2.n h
    dsimp only at this
    rw [show -d = d' by omega, h'] at this
    exact Option.some.inj this
theorem split (h2 : Two E) {e : Int} : ∀ {p : List St'} {a b : Int}, Wk E (T ++ [e]) a p b → (vs E a p).Nodup → Wk E T a p b ∨ ∃ p1 d p2 w, p = p1 ++ (e, d) :: p2 ∧ Wk E T a p1 w.1 ∧ E (e, d) = some w ∧ Wk E T w.2 p2 b ∧ (vs E a p1).Nodup ∧ (vs E w.2 p2).Nodup ∧ (∀ x ∈ vs E a p1, x ∈ vs E a p) ∧ w.1 ∈ vs E a p ∧ w.2 ∈ vs E a p
  | [], a, b, h, _ => .inl h
  | st :: r, a, b, h, hn => by
    obtain ⟨ht, w, hw, ha, hr⟩ := h
    have ev : vs E a (st :: r) = a :: vs E w.2 r := by show a :: vs E (((E st).map (·.2)).getD 0) r = _; rw [hw]; rfl
    rw [ev] at hn ⊢
    obtain ⟨n1, n2⟩ := List.nodup_cons.mp hn
    have te : st.1 ∈ T ∨ st.1 = e := by
      rcases List.mem_append.mp ht with h | h
      · exact .inl h
      · exact .inr (List.mem_singleton.mp h)
    rcases split h2 hr n2 with hr' | ⟨p1, d, p2, w2, rfl, a1, a2, a3, a4, a5, a6, a7, a8⟩
    · rcases te with te | te
      · exact .inl ⟨te, w, hw, ha, hr'⟩
      · refine .inr ⟨[], st.2, r, w, by rw [← te]; rfl, ha.symm, by rw [← te]; exact hw, hr', by simp [vs], n2, fun x hx => ?_, ?_, ?_⟩
        · have : x = a := by simpa [vs] using hx
          rw [this]; exact List.mem_cons_self
        · rw [ha]; exact List.mem_cons_self
        · exact List.mem_cons_of_mem _ vs_start
    · rcases te with te | te
      · have ev1 : vs E a (st :: p1) = a :: vs E w.2 p1 := by show a :: vs E (((E st).map (·.2)).getD 0) p1 = _; rw [hw]; rfl
        refine .inr ⟨st :: p1, d, p2, w2, rfl, ⟨te, w, hw, ha, a1⟩, a2, a3, ?_, a5, fun x hx => ?_, List.mem_cons_of_mem _ a7, List.mem_cons_of_mem _ a8⟩
        · rw [ev1]
          exact List.nodup_cons.mpr ⟨fun k => n1 (a6 a k), a4⟩
        · rw [ev1] at hx
          rcases List.mem_cons.mp hx with h | h
          · rw [h]; exact List.mem_cons_self
          · exact List.mem_cons_of_mem _ (a6 x h)
      · have hw' : E (e, st.2) = some w := by rw [← te]; exact hw
        rcases two_same h2 hw' a2 with ⟨_, k⟩ | k
        · have ea : a = w2.1 := by rw [← ha, k]
          exact absurd (by rw [ea]; exact a7) n1
        · exact absurd (by rw [← ha]; have : w2.2 = w.1 := by rw [k]
                           rw [← this]; exact a8) n1
/-- a forest: each span that is added joins what was apart -/
inductive Fo (E : St' → Option (Int × Int)) : List Int → Prop where
  | nil : Fo E []
  | snoc {T : List Int} {e : Int} : Fo E T → (∀ d w, E (e, d) = some w → ¬ Cn E T w.1 w.2) → Fo E (T ++ [e])
theorem uniq (h2 : Two E) (F : Fo E T) : ∀ {a b : Int} {p q : List St'}, Wk E T a p b → Wk E T a q b → (vs E a p).Nodup → (vs E a q).Nodup → p = q := by
  induction F with
  | nil =>
    intro a b p q hp hq _ _
    cases p with
    | cons st r => exact absurd hp.1 (by simp)
    | nil =>
      cases q with
      | cons st r => exact absurd hq.1 (by simp)
      | nil => rfl
  | @snoc T e F hn ih =>
    intro a b p q hp hq np nq
    rcases split h2 hp np with hp' | ⟨p1, d, p2, w, rfl, a1, a2, a3, a4, a5, _⟩
    · rcases split h2 hq nq with hq' | ⟨q1, d', q2, w', rfl, b1, b2, b3, b4, b5, _⟩
      · exact ih hp' hq' np nq
      · exact absurd (((Cn.sym h2 ⟨q1, b1⟩).trans ⟨p, hp'⟩).trans (Cn.sym h2 ⟨q2, b3⟩)) (hn _ _ b2)
    · rcases split h2 hq nq with hq' | ⟨q1, d', q2, w', rfl, b1, b2, b3, b4, b5, _⟩
      · exact absurd (((Cn.sym h2 ⟨p1, a1⟩).trans ⟨q, hq'⟩).trans (Cn.sym h2 ⟨p2, a3⟩)) (hn _ _ a2)
      · rcases two_same h2 a2 b2 with ⟨k1, k2⟩ | k
        · subst k1 k2
          rw [ih a1 b1 a4 b4, ih a3 b3 a5 b5]
        · have : w'.1 = w.2 := by rw [k]
          rw [this] at b1
          exact absurd ((Cn.sym h2 ⟨p1, a1⟩).trans ⟨q1, b1⟩) (hn _ _ a2)
theorem vs_snoc : ∀ {p : List St'} {a b : Int} {st : St'} {w : Int × Int}, Wk E T a p b → E st = some w → w.1 = b → vs E a (p ++ [st]) = vs E a p ++ [w.2]
  | [], a, b, st, w, h, hs, hb => by show a :: vs E (((E st).map (·.2)).getD 0) [] = _; rw [hs]; rfl
  | s2 :: r, a, b, st, w, h, hs, hb => by
    obtain ⟨_, w2, hw, _, hr⟩ := h
    show a :: vs E (((E s2).map (·.2)).getD 0) (r ++ [st]) = (a :: vs E (((E s2).map (·.2)).getD 0) r) ++ [w.2]
    rw [hw]
    show a :: vs E w2.2 (r ++ [st]) = a :: vs E w2.2 r ++ [w.2]
    rw [vs_snoc hr hs hb]
    rfl
/-- what a way through a tree is -/
def TW (E : St' → Option (Int × Int)) (T : List Int) (a b : Int) : Option (List St') → Prop
  | none => ¬ Cn E T a b
  | some p => Wk E T a p b ∧ (vs E a p).Nodup
end
end DD
namespace DD
open PySem PySem.Spec PyProof.Rows L2 KO SX RF
/-! ### ways through a tree -/
abbrev Ways := List (Int × List (Int × Int))
theorem dget_some {kvs : Ways} {k : Int} (h : ∃ p ∈ kvs, p.1 = k) : ∃ p ∈ kvs, dget kvs k = some p.2 := by
  unfold dget
  cases e : kvs.find? (fun p => decide (p.1 = k)) with
  | none =>
    obtain ⟨p, h1, h2⟩ := h
    have := List.find?_eq_none.mp e p h1
    simp [h2] at this
  | some p => exact ⟨p, List.mem_of_find?_eq_some e, rfl⟩
theorem dget_none {kvs : Ways} {k : Int} (h : (dget kvs k).isSome = false) : ∀ p ∈ kvs, p.1 ≠ k := fun p hp hk => by
  obtain ⟨p', _, e⟩ := dget_some ⟨p, hp, hk⟩
  rw [e] at h; cases h
theorem dput_new {kvs : Ways} {k : Int} {x : List (Int × Int)} (h : ∀ p ∈ kvs, p.1 ≠ k) : dput kvs k x = kvs ++ [(k, x)] := by
  unfold dput
  rw [if_neg]
  simp
  intro a hab
  exact h _ hab rfl
theorem nodup_len : ∀ {m : Nat} {ks : List Int}, ks.Nodup → (∀ k ∈ ks, 0 ≤ k ∧ k < m) → ks.length ≤ m := fun {m} => by
  induction m with
  | zero =>
    intro ks _ h
    cases ks with
    | nil => exact Nat.le_refl _
    | cons k ks => have := h k List.mem_cons_self; omega
  | succ m ih =>
    intro ks hn h
    by_cases hm : (m : Int) ∈ ks
    · have h1 := ih (hn.erase (m : Int)) (fun k hk => by
        obtain ⟨h1, h2⟩ := hn.mem_erase_iff.mp hk
        have := h k h2
        omega)
      rw [List.length_erase_of_mem hm] at h1
      omega
    · have h1 := ih hn (fun k hk => by
        have := h k hk
        have : k ≠ m := fun e => hm (e ▸ hk)
        omega)
      omega
structure WOk (m : Nat) (ways : Ways) : Prop where
  nd : (ways.map (·.1)).Nodup
  rg : ∀ p ∈ ways, 0 ≤ p.1 ∧ p.1 < m
  ln : ∀ p ∈ ways, p.2.length ≤ ways.length
theorem WOk.le {m : Nat} {ways : Ways} (w : WOk m ways) : ways.length ≤ m := by
  have := nodup_len w.nd (fun k hk => by
    obtain ⟨p, hp, rfl⟩ := List.mem_map.mp hk
    exact w.rg p hp)
  simpa using this
theorem WOk.add {m : Nat} {ways : Ways} (w : WOk m ways) {k : Int} {x : List (Int × Int)} (h : ∀ p ∈ ways, p.1 ≠ k) (hk : 0 ≤ k ∧ k < m) (hx : x.length ≤ ways.length + 1) : WOk m (ways ++ [(k, x)]) where
  nd := by
    rw [List.map_append]
    refine List.nodup_append.mpr ⟨w.nd, by simp, ?_⟩
    intro a ha b hb
    obtain ⟨p, hp, rfl⟩ := List.mem_map.mp ha
    simp at hb
    rw [hb]
    exact h p hp
  rg := fun p hp => by
    rcases List.mem_append.mp hp with h | h
    · exact w.rg p h
    · rw [List.mem_singleton.mp h]; exact hk
  ln := fun p hp => by
    rw [List.length_append]
    rcases List.mem_append.mp hp with h | h
    · have := w.ln p h; simp; omega
    · rw [List.mem_singleton.mp h]; simpa using hx
theorem run_pure' {α : Type} {a : α} {Q : α → Prop} {E : Ex → Prop} : (pure a : Mo α).run Q E = Q a := rfl
theorem sE_two (sp : List Sp4') : Two (sE sp) where
  d := fun {st w} h => by
    unfold sE at h
    split at h
    · rename_i c; exact c.2.2
    · cases h
  n := fun {st w} h => by
    unfold sE at h ⊢
    split at h
    · rename_i c
      obtain ⟨c1, c2, c3⟩ := c
      rw [if_pos ⟨c1, c2, by rcases c3 with c3 | c3 <;> rw [c3] <;> simp⟩]
      cases e : sp[st.1.toNat]? with
      | none => rw [e] at h; cases h
      | some t =>
        rw [e] at h
        have h := Option.some.inj h
        dsimp only at h
        rcases c3 with c3 | c3
        · rw [if_pos c3] at h; subst h; simp [c3]
        · rw [if_neg (by rw [c3]; decide)] at h; subst h; simp [c3]
    · cases h
/-- the steps of a tree's spans -/
def tst (T : List Int) : List St' := T.flatMap fun n => [(n, (1 : Int)), (n, (-1 : Int))]
theorem tst_mem {T : List Int} {E : St' → Option (Int × Int)} (h2 : Two E) {st : St'} {w : Int × Int} (hw : E st = some w) : st ∈ tst T ↔ st.1 ∈ T := by
  unfold tst
  rw [List.mem_flatMap]
  constructor
  · rintro ⟨n, hn, hs⟩
    simp at hs
    rcases hs with rfl | rfl <;> exact hn
  · intro h
    refine ⟨st.1, h, ?_⟩
    obtain ⟨a, d⟩ := st
    rcases h2.d hw with c | c <;> (dsimp only at c; subst c; simp)
/-- reached by walks that are kept -/
structure WW (E : St' → Option (Int × Int)) (T : List Int) (first : Int) (ways : Ways) : Prop where
  w : ∀ p ∈ ways, Wk E T first p.2 p.1
  n : ∀ p ∈ ways, (vs E first p.2).Nodup
  k : ∀ p ∈ ways, ∀ x ∈ vs E first p.2, ∃ p' ∈ ways, p'.1 = x
theorem WW.init {E : St' → Option (Int × Int)} {T : List Int} {first : Int} : WW E T first [(first, [])] where
  w := fun p hp => by rw [List.mem_singleton.mp hp]; exact rfl
  n := fun p hp => by rw [List.mem_singleton.mp hp]; simp [vs]
  k := fun p hp x hx => by
    rw [List.mem_singleton.mp hp] at hx
    have : x = first := by simpa [vs] using hx
    exact ⟨_, List.mem_singleton.mpr rfl, this.symm⟩
theorem WW.add {E : St' → Option (Int × Int)} {T : List Int} {first : Int} {ways : Ways} (h : WW E T first ways) {p : Int × List St'} (hp : p ∈ ways) {st : St'} {w : Int × Int} (hs : E st = some w) (hT : st.1 ∈ T) (hb : w.1 = p.1) (hn : ∀ p ∈ ways, p.1 ≠ w.2) : WW E T first (ways ++ [(w.2, p.2 ++ [st])]) where
  w := fun q hq => by
    rcases List.mem_append.mp hq with k | k
    · exact h.w q k
    · rw [List.mem_singleton.mp k]
      exact (h.w p hp).app ⟨hT, w, hs, hb, rfl⟩
  n := fun q hq => by
    rcases List.mem_append.mp hq with k | k
    · exact h.n q k
    · rw [List.mem_singleton.mp k]
      show (vs E first (p.2 ++ [st])).Nodup
      rw [vs_snoc (h.w p hp) hs hb]
      refine List.nodup_append.mpr ⟨h.n p hp, by simp, fun a ha b hb2 hab => ?_⟩
      rw [List.mem_singleton.mp hb2] at hab
      obtain ⟨p', h1, h2⟩ := h.k p hp a ha
      exact hn p' h1 (by rw [h2, hab])
  k := fun q hq x hx => by
    rcases List.mem_append.mp hq with k | k
    · obtain ⟨p', h1, h2⟩ := h.k q k x hx
      exact ⟨p', List.mem_append_left _ h1, h2⟩
    · rw [List.mem_singleton.mp k] at hx
      have hx : x ∈ vs E first (p.2 ++ [st]) := hx
      rw [vs_snoc (h.w p hp) hs hb] at hx
      rcases List.mem_append.mp hx with hx | hx
      · obtain ⟨p', h1, h2⟩ := h.k p hp x hx
        exact ⟨p', List.mem_append_left _ h1, h2⟩
      · exact ⟨_, List.mem_append_right _ (List.mem_singleton.mpr rfl), (List.mem_singleton.mp hx).symm⟩
/-- nothing more is reached from x -/
def shutAt (E : St' → Option (Int × Int)) (T : List Int) (ways : Ways) (x : Int) : Prop := ∀ st w, st.1 ∈ T → E st = some w → w.1 = x → ∃ p ∈ ways, p.1 = w.2
theorem shut_all {E : St' → Option (Int × Int)} {T : List Int} {ways : Ways} (hs : ∀ p ∈ ways, shutAt E T ways p.1) : ∀ {p : List St'} {a b : Int}, Wk E T a p b → (∃ p ∈ ways, p.1 = a) → ∃ p ∈ ways, p.1 = b
  | [], a, b, h, k => by rw [← show a = b from h]; exact k
  | st :: r, a, b, h, k => by
    obtain ⟨ht, w, hw, ha, hr⟩ := h
    obtain ⟨p, p1, p2⟩ := k
    exact shut_all hs hr (hs p p1 st w ht hw (by rw [ha, p2]))
theorem TW_of {E : St' → Option (Int × Int)} {T : List Int} {ways : Ways} {first second : Int} (h : WW E T first ways) (hf : ∃ p ∈ ways, p.1 = first) (hs : ∀ p ∈ ways, shutAt E T ways p.1) : TW E T first second (dget ways second) := by
  cases e : dget ways second with
  | none =>
    rintro ⟨p, hp⟩
    obtain ⟨q, q1, q2⟩ := shut_all hs hp hf
    exact dget_none (by rw [e]; rfl) q q1 q2
  | some x =>
    unfold dget at e
    cases e2 : ways.find? (fun p => decide (p.1 = second)) with
    | none => rw [e2] at e; cases e
    | some p =>
      rw [e2] at e
      obtain rfl := Option.some.inj e
      have hm := List.mem_of_find?_eq_some e2
      have hk : p.1 = second := by simpa using List.find?_some e2
      rw [← hk]
      exact ⟨h.w p hm, h.n p hm⟩
theorem dget_key {w : Ways} {k : Int} (h : (dget w k).isSome = true) : ∃ p ∈ w, p.1 = k := by
  unfold dget at h
  cases e2 : w.find? (fun p => decide (p.1 = k)) with
  | none => rw [e2] at h; cases h
  | some p => exact ⟨p, List.mem_of_find?_eq_some e2, by simpa using List.find?_some e2⟩
theorem dget_somek {kvs : Ways} {k : Int} (h : ∃ p ∈ kvs, p.1 = k) : ∃ p ∈ kvs, dget kvs k = some p.2 ∧ p.1 = k := by
  unfold dget
  cases e : kvs.find? (fun p => decide (p.1 = k)) with
  | none =>
    obtain ⟨p, h1, h2⟩ := h
    have := List.find?_eq_none.mp e p h1
    simp [h2] at this
  | some p => exact ⟨p, List.mem_of_find?_eq_some e, rfl, by simpa using List.find?_some e⟩
theorem treepath_ok {net : ONet} {m : Nat} {tree : List Int} {first second : Int} (hm : m ≤ 1000) (hsp : ∀ t ∈ net.2.2, 0 ≤ t.1 ∧ t.1 < m ∧ 0 ≤ t.2.1 ∧ t.2.1 < m) (ht : ∀ n ∈ tree, 0 ≤ n ∧ n < net.2.2.length) (hl : tree.length ≤ 24) (hf : 0 ≤ first ∧ first < m) {Q : Option (List (Int × Int)) → Prop} {E : Ex → Prop} (q : ∀ r, TW (sE net.2.2) tree first second r → Q r) : (P_treepath net tree first second).run Q E := by
  unfold P_treepath
  simp only [pure_bind, bind_assoc, map_pure, stepends_eq]
  unfold Mo.lc2
  rw [comp2_pure (g := fun n => [(n, (1 : Int)), (n, (-1 : Int))]) (fun _ _ => rfl) (fun x _ => by simp [Mo.rq_of, Mo.comp]), Mo.rq_of (by omega)]
  simp only [pure_bind, Mo.calm_pure]
  have hst : ∀ st ∈ tree.flatMap (fun n => [(n, (1 : Int)), (n, (-1 : Int))]), ∃ e, sE net.2.2 st = some e ∧ (0 ≤ e.1 ∧ e.1 < m) ∧ (0 ≤ e.2 ∧ e.2 < m) := fun st hs => by
    obtain ⟨n, hn, hs⟩ := List.mem_flatMap.mp hs
    obtain ⟨k1, k2⟩ := ht n hn
    have k3 : n.toNat < net.2.2.length := by omega
    have k4 := hsp _ (List.getElem_mem k3)
    simp at hs
    rcases hs with rfl | rfl
    · exact ⟨(net.2.2[n.toNat].1, net.2.2[n.toNat].2.1), by unfold sE; simp [k1, k2, List.getElem?_eq_getElem k3], ⟨k4.1, k4.2.1⟩, k4.2.2⟩
    · exact ⟨(net.2.2[n.toNat].2.1, net.2.2[n.toNat].1), by unfold sE; simp [k1, k2, List.getElem?_eq_getElem k3], k4.2.2, ⟨k4.1, k4.2.1⟩⟩
  have hin : ∀ {st : St'} {w : Int × Int}, sE net.2.2 st = some w → (st ∈ tree.flatMap (fun n => [(n, (1 : Int)), (n, (-1 : Int))]) ↔ st.1 ∈ tree) := fun {st w} hw => tst_mem (sE_two net.2.2) hw
  generalize tree.flatMap (fun n => [(n, (1 : Int)), (n, (-1 : Int))]) = steps at hst hin ⊢
  rw [Mo.run_bind]
  refine Mo.while_inv (fun s => (WOk m s.2 ∧ (∀ k ∈ s.1, ∃ p ∈ s.2, p.1 = k) ∧ s.1.length + 2 * (m - s.2.length) ≤ 2 * m + 1) ∧ WW (sE net.2.2) tree first s.2 ∧ (∃ p ∈ s.2, p.1 = first) ∧ ∀ p ∈ s.2, p.1 ∈ s.1 ∨ shutAt (sE net.2.2) tree s.2 p.1) (fun s => s.1.length + 2 * (m - s.2.length)) (fun s hs => ?_) ⟨⟨⟨by simp, by simpa using hf, by simp⟩, by simp, by simp; omega⟩, WW.init, ⟨_, List.mem_singleton.mpr rfl, rfl⟩, fun p hp => .inl (by rw [List.mem_singleton.mp hp]; simp)⟩
  obtain ⟨⟨hw, hk, hM⟩, hW, hF, hS⟩ := hs
  obtain ⟨wt, ways⟩ := s
  dsimp only at hw hk hM hW hF hS ⊢
  rw [run_pure']
  cases hwt : wt.isEmpty with
  | true =>
    have hnil : wt = [] := List.isEmpty_iff.mp hwt
    subst hnil
    simp [Lp.out]
    exact q _ (TW_of hW hF fun p hp => (hS p hp).resolve_left (by simp))
  | false =>
    have hne : wt ≠ [] := by intro h; rw [h] at hwt; cases hwt
    have hpos : 0 < wt.length := List.length_pos_iff.mpr hne
    have hget : wt[wt.length - 1]? = some (wt[wt.length - 1]'(by omega)) := List.getElem?_eq_getElem _
    generalize hev : wt[wt.length - 1]'(by omega) = ev at hget
    have hevw : ev ∈ wt := List.mem_of_getElem? hget
    rw [if_pos (by simp), hget]
    simp only [Mo.get_some, pure_bind]
    rw [Mo.run_bind]
    refine Mo.fold_inv (fun kk s => (WOk m s.1 ∧ (∀ k ∈ s.2, ∃ p ∈ s.1, p.1 = k) ∧ (∃ p ∈ s.1, p.1 = ev) ∧ s.2.length + 2 * (m - s.1.length) ≤ wt.length - 1 + 2 * (m - ways.length)) ∧ WW (sE net.2.2) tree first s.1 ∧ (∃ p ∈ s.1, p.1 = first) ∧ (∀ p ∈ s.1, p.1 = ev ∨ p.1 ∈ s.2 ∨ shutAt (sE net.2.2) tree s.1 p.1) ∧ ∀ (j : Nat) (st : St') (w : Int × Int), j < kk → steps[j]? = some st → sE net.2.2 st = some w → w.1 = ev → ∃ p ∈ s.1, p.1 = w.2) (k := 0) ⟨⟨hw, fun k h => hk k (List.dropLast_subset _ h), hk ev hevw, by simp⟩, hW, hF, fun p hp => ?_, fun j st w hj => by omega⟩ (fun i st s hx hs => ?_) (fun s hs => ?_)
    · rcases hS p hp with h | h
      · have hd := List.dropLast_concat_getLast hne
        have hl : wt.getLast hne = ev := by rw [List.getLast_eq_getElem]; exact hev
        rw [← hd, hl] at h
        rcases List.mem_append.mp h with h | h
        · exact .inr (.inl h)
        · exact .inl (List.mem_singleton.mp h)
      · exact .inr (.inr h)
    · obtain ⟨e, he, he1, he2⟩ := hst st (List.mem_of_getElem? hx)
      obtain ⟨ws, wt'⟩ := s
      obtain ⟨⟨w1, w2, w3, w4⟩, g1, g2, g3, g4⟩ := hs
      dsimp only at w1 w2 w3 w4 g1 g2 g3 g4 ⊢
      rw [Nat.zero_add] at g4
      have stT : st.1 ∈ tree := (hin he).mp (List.mem_of_getElem? hx)
      rw [he]
      simp only [Mo.get_some, pure_bind]
      have stay : (e.1 = ev → ∃ p ∈ ws, p.1 = e.2) → (pure (ws, wt') : Mo (Ways × List Int)).run (fun s => (WOk m s.1 ∧ (∀ k ∈ s.2, ∃ p ∈ s.1, p.1 = k) ∧ (∃ p ∈ s.1, p.1 = ev) ∧ s.2.length + 2 * (m - s.1.length) ≤ wt.length - 1 + 2 * (m - ways.length)) ∧ WW (sE net.2.2) tree first s.1 ∧ (∃ p ∈ s.1, p.1 = first) ∧ (∀ p ∈ s.1, p.1 = ev ∨ p.1 ∈ s.2 ∨ shutAt (sE net.2.2) tree s.1 p.1) ∧ ∀ (j : Nat) (st : St') (w : Int × Int), j < 0 + i + 1 → steps[j]? = some st → sE net.2.2 st = some w → w.1 = ev → ∃ p ∈ s.1, p.1 = w.2) E := fun hok => ⟨⟨w1, w2, w3, w4⟩, g1, g2, g3, fun j st2 w hj hst2 hw2 hb => by
        by_cases cj : j < i
        · exact g4 j st2 w cj hst2 hw2 hb
        · obtain rfl : j = i := by omega
          obtain rfl : st = st2 := Option.some.inj (hx.symm.trans hst2)
          obtain rfl : e = w := Option.some.inj (he.symm.trans hw2)
          exact hok hb⟩
      by_cases c1 : e.1 = ev
      · cases c2 : (dget ws e.2).isSome with
        | true =>
          have := stay fun _ => by
            obtain ⟨p, p1, p2⟩ := dget_key c2
            exact ⟨p, p1, p2⟩
          simp only [c1, c2, decide_true, if_true, pure_bind, Bool.not_true, Bool.false_eq_true, if_false]
          exact this
        | false =>
          have hn := dget_none c2
          obtain ⟨p, hp, hd, hpe⟩ := dget_somek w3
          have hpl := w1.ln p hp
          have hwl := w1.le
          have hw2 := w1.add (k := e.2) (x := p.2 ++ [st]) hn he2 (by simp; omega)
          have hw2l := hw2.le
          rw [List.length_append, List.length_singleton] at hw2l
          have hwtl : wt'.length < sizeLine := by
            rw [sizeLine_eq]
            omega
          have fin : (pure (ws ++ [(e.2, p.2 ++ [st])], wt' ++ [e.2]) : Mo (Ways × List Int)).run (fun s => (WOk m s.1 ∧ (∀ k ∈ s.2, ∃ p ∈ s.1, p.1 = k) ∧ (∃ p ∈ s.1, p.1 = ev) ∧ s.2.length + 2 * (m - s.1.length) ≤ wt.length - 1 + 2 * (m - ways.length)) ∧ WW (sE net.2.2) tree first s.1 ∧ (∃ p ∈ s.1, p.1 = first) ∧ (∀ p ∈ s.1, p.1 = ev ∨ p.1 ∈ s.2 ∨ shutAt (sE net.2.2) tree s.1 p.1) ∧ ∀ (j : Nat) (st : St') (w : Int × Int), j < 0 + i + 1 → steps[j]? = some st → sE net.2.2 st = some w → w.1 = ev → ∃ p ∈ s.1, p.1 = w.2) E := by
            refine ⟨⟨hw2, fun k hk' => ?_, ?_, ?_⟩, g1.add hp he stT (by rw [c1, hpe]) hn, ?_, fun p' hp' => ?_, fun j st2 w hj hst2 hw2' hb => ?_⟩
            · rcases List.mem_append.mp hk' with h | h
              · obtain ⟨p', hp', hpk⟩ := w2 k h
                exact ⟨p', List.mem_append_left _ hp', hpk⟩
              · exact ⟨(e.2, p.2 ++ [st]), List.mem_append_right _ (by simp), (List.mem_singleton.mp h).symm⟩
            · obtain ⟨p', hp', hpk⟩ := w3
              exact ⟨p', List.mem_append_left _ hp', hpk⟩
            · simp only [List.length_append, List.length_singleton]
              omega
            · obtain ⟨p', h1, h2⟩ := g2
              exact ⟨p', List.mem_append_left _ h1, h2⟩
            · rcases List.mem_append.mp hp' with h | h
              · rcases g3 p' h with k | k | k
                · exact .inl k
                · exact .inr (.inl (List.mem_append_left _ k))
                · refine .inr (.inr fun st2 w h1 h2 h3 => ?_)
                  obtain ⟨p2, k1, k2⟩ := k st2 w h1 h2 h3
                  exact ⟨p2, List.mem_append_left _ k1, k2⟩
              · rw [List.mem_singleton.mp h]
                exact .inr (.inl (List.mem_append_right _ (List.mem_singleton.mpr rfl)))
            · by_cases cj : j < i
              · obtain ⟨p2, k1, k2⟩ := g4 j st2 w cj hst2 hw2' hb
                exact ⟨p2, List.mem_append_left _ k1, k2⟩
              · obtain rfl : j = i := by omega
                obtain rfl : st = st2 := Option.some.inj (hx.symm.trans hst2)
                obtain rfl : e = w := Option.some.inj (he.symm.trans hw2')
                exact ⟨_, List.mem_append_right _ (List.mem_singleton.mpr rfl), rfl⟩
          simp only [c1, c2, hd, decide_true, if_true, pure_bind, Mo.get_some, Bool.not_false, dput_new hn]
          rw [← dput_new hn] at fin
          exact ⟨by rw [sizeLine_eq]; simp; omega, by rw [sizeLine_eq]; omega, hwtl, fin⟩
      · have := stay fun k => absurd k c1
        simp only [c1, decide_false, Bool.false_eq_true, if_false, pure_bind]
        exact this
    · obtain ⟨⟨w1, w2, w3, w4⟩, g1, g2, g3, g4⟩ := hs
      refine ⟨⟨⟨w1, w2, by show s.2.length + 2 * (m - s.1.length) ≤ _; omega⟩, g1, g2, fun p hp => ?_⟩, by show s.2.length + 2 * (m - s.1.length) < _; omega⟩
      rcases g3 p hp with k | k | k
      · right
        intro st w h1 h2 h3
        obtain ⟨j, hj⟩ := List.getElem?_of_mem ((hin h2).mpr h1)
        have hj2 := (List.getElem?_eq_some_iff.mp hj).1
        exact g4 j st w (by omega) hj h2 (by rw [h3, k])
      · exact .inl k
      · exact .inr k
end DD
namespace DD
open PySem PySem.Spec PyProof.Rows L2 KO SX RF
theorem dget_is {w : Ways} {k : Int} : (dget w k).isSome = true ↔ ∃ p ∈ w, p.1 = k := by
  constructor
  · exact dget_key
  · intro h
    obtain ⟨p, _, e⟩ := dget_some h
    rw [e]; rfl
theorem sE_one {sp : List Sp4'} {n : Int} {t : Sp4'} (h : 0 ≤ n) (h2 : n < sp.length) (ht : sp[n.toNat]? = some t) : sE sp (n, 1) = some (t.1, t.2.1) := by
  unfold sE
  rw [if_pos ⟨h, h2, .inl rfl⟩, ht]
  rfl
theorem sE_neg {sp : List Sp4'} {n : Int} {t : Sp4'} (h : 0 ≤ n) (h2 : n < sp.length) (ht : sp[n.toNat]? = some t) : sE sp (n, -1) = some (t.2.1, t.1) := by
  unfold sE
  rw [if_pos ⟨h, h2, .inr rfl⟩, ht]
  rfl
theorem sE_inv {sp : List Sp4'} {st : St'} {w : Int × Int} (h : sE sp st = some w) : 0 ≤ st.1 ∧ st.1 < sp.length ∧ ∃ t, sp[st.1.toNat]? = some t ∧ ((st.2 = 1 ∧ w = (t.1, t.2.1)) ∨ (st.2 = -1 ∧ w = (t.2.1, t.1))) := by
  unfold sE at h
  split at h
  · rename_i c
    obtain ⟨c1, c2, c3⟩ := c
    cases e : sp[st.1.toNat]? with
    | none => rw [e] at h; cases h
    | some t =>
      rw [e] at h
      have h := Option.some.inj h
      dsimp only at h
      refine ⟨c1, c2, t, rfl, ?_⟩
      rcases c3 with c3 | c3
      · rw [if_pos c3] at h; exact .inl ⟨c3, h.symm⟩
      · rw [if_neg (by rw [c3]; decide)] at h; exact .inr ⟨c3, h.symm⟩
  · cases h
def shutT (sp : List Sp4') (T : List Int) (w : Ways) : Prop := ∀ n ∈ T, ∀ t, sp[n.toNat]? = some t → ((∃ p ∈ w, p.1 = t.1) ↔ ∃ p ∈ w, p.1 = t.2.1)
theorem shutT_at {sp : List Sp4'} {T : List Int} {w : Ways} (h : shutT sp T w) : ∀ p ∈ w, shutAt (sE sp) T w p.1 := fun p hp st v hT hv hb => by
  obtain ⟨_, _, t, ht, k⟩ := sE_inv hv
  have := h st.1 hT t ht
  rcases k with ⟨_, rfl⟩ | ⟨_, rfl⟩
  · exact this.mp ⟨p, hp, hb.symm⟩
  · exact this.mpr ⟨p, hp, hb.symm⟩
theorem Ltreeway_ok {many : Int} {sp : List Sp4'} {T : List Int} {a b : Int} (h3 : 1 ≤ many) (h4 : many ≤ 12) (hsp : ∀ t ∈ sp, 0 ≤ t.1 ∧ t.1 < many ∧ 0 ≤ t.2.1 ∧ t.2.1 < many) (hT : ∀ n ∈ T, 0 ≤ n ∧ n < sp.length) (ha : 0 ≤ a ∧ a < many) {Q : Option (List (Int × Int)) → Prop} {E : Ex → Prop} (q : ∀ r, TW (sE sp) T a b r → Q r) : (P_Ltreeway many sp T a b).run Q E := by
  have hz := sizeLine_eq
  have hmn : (many.toNat : Int) = many := Int.toNat_of_nonneg (by omega)
  unfold P_Ltreeway
  simp only [pure_bind, bind_assoc, map_pure, bind_pure]
  rw [Mo.rq_of (by omega)]
  simp only [pure_bind]
  rw [Mo.run_bind]
  refine Mo.fold_inv (fun k (w : Ways) => WOk many.toNat w ∧ (∃ p ∈ w, p.1 = a) ∧ WW (sE sp) T a w ∧ (k + 1 ≤ w.length ∨ shutT sp T w)) (k := 0) ⟨⟨by simp, fun p hp => ?_, fun p hp => ?_⟩, ⟨_, List.mem_singleton.mpr rfl, rfl⟩, WW.init, .inl (by simp)⟩ (fun i x w hx hw => ?_) (fun w hw => ?_)
  · rw [List.mem_singleton.mp hp]; exact ⟨ha.1, by rw [hmn]; exact ha.2⟩
  · rw [List.mem_singleton.mp hp]; simp
  · obtain ⟨w1, w2, w0, w3⟩ := hw
    refine Mo.fold_inv (fun j (v : Ways) => WOk many.toNat v ∧ (∃ p ∈ v, p.1 = a) ∧ WW (sE sp) T a v ∧ ((v = w ∧ ∀ (m : Nat) (n : Int) (t : Sp4'), m < j → T[m]? = some n → sp[n.toNat]? = some t → ((∃ p ∈ w, p.1 = t.1) ↔ ∃ p ∈ w, p.1 = t.2.1)) ∨ (w.length < v.length ∧ ¬ shutT sp T w))) (k := 0) ⟨w1, w2, w0, .inl ⟨rfl, fun m n t hn => by omega⟩⟩ (fun j y v hy hv => ?_) (fun v hv => ?_)
    · obtain ⟨v1, v2, v0, v3⟩ := hv
      rw [Nat.zero_add] at v3
      have hyT := List.mem_of_getElem? hy
      obtain ⟨y1, y2⟩ := hT y hyT
      obtain ⟨t, e1, e2⟩ := atI_get (xs := sp) (i := y) y1 y2
      have htm := List.mem_of_getElem? e2
      have hst := hsp t htm
      have vle := v1.le
      have stay : ((∃ p ∈ v, p.1 = t.1) ↔ ∃ p ∈ v, p.1 = t.2.1) → (WOk many.toNat v ∧ (∃ p ∈ v, p.1 = a) ∧ WW (sE sp) T a v ∧ ((v = w ∧ ∀ (m : Nat) (n : Int) (t : Sp4'), m < 0 + j + 1 → T[m]? = some n → sp[n.toNat]? = some t → ((∃ p ∈ w, p.1 = t.1) ↔ ∃ p ∈ w, p.1 = t.2.1)) ∨ (w.length < v.length ∧ ¬ shutT sp T w))) := fun hiff => by
        refine ⟨v1, v2, v0, ?_⟩
        rcases v3 with ⟨rfl, v3⟩ | v3
        · refine .inl ⟨rfl, fun m n u hm hn hu => ?_⟩
          by_cases c : m < j
          · exact v3 m n u c hn hu
          · obtain rfl : m = j := by omega
            obtain rfl : y = n := Option.some.inj (hy.symm.trans hn)
            obtain rfl : t = u := Option.some.inj (e2.symm.trans hu)
            exact hiff
        · exact .inr v3
      have grow : ∀ (p : Int × List (Int × Int)) (st : St') (z : Int × Int), p ∈ v → sE sp st = some z → st.1 ∈ T → z.1 = p.1 → (∀ p ∈ v, p.1 ≠ z.2) → (0 ≤ z.2 ∧ z.2 < many) → (p.2 ++ [st]).length ≤ v.length + 1 → ¬ ((∃ p ∈ v, p.1 = t.1) ↔ ∃ p ∈ v, p.1 = t.2.1) → (WOk many.toNat (dput v z.2 (p.2 ++ [st])) ∧ (∃ q ∈ dput v z.2 (p.2 ++ [st]), q.1 = a) ∧ WW (sE sp) T a (dput v z.2 (p.2 ++ [st])) ∧ ((dput v z.2 (p.2 ++ [st]) = w ∧ ∀ (m : Nat) (n : Int) (t : Sp4'), m < 0 + j + 1 → T[m]? = some n → sp[n.toNat]? = some t → ((∃ p ∈ w, p.1 = t.1) ↔ ∃ p ∈ w, p.1 = t.2.1)) ∨ (w.length < (dput v z.2 (p.2 ++ [st])).length ∧ ¬ shutT sp T w))) := fun p st z hp hs hsT hb g1 g2 g3 g4 => by
        rw [dput_new g1]
        refine ⟨v1.add g1 ⟨g2.1, by rw [hmn]; exact g2.2⟩ g3, ?_, v0.add hp hs hsT hb g1, .inr ⟨?_, ?_⟩⟩
        · obtain ⟨p, p1, p2⟩ := v2
          exact ⟨p, List.mem_append_left _ p1, p2⟩
        · rw [List.length_append]
          rcases v3 with ⟨rfl, _⟩ | v3
          · simp
          · simp; omega
        · rcases v3 with ⟨rfl, _⟩ | v3
          · exact fun k => g4 (k y hyT t e2)
          · exact v3.2
      simp only [e1, Mo.get_some, pure_bind]
      by_cases c1 : (dget v t.1).isSome = true
      · by_cases c2 : (dget v t.2.1).isSome = true
        · simp only [c1, c2, if_true, Bool.not_true, Bool.false_eq_true, if_false, pure_bind]
          exact stay ⟨fun _ => dget_is.mp c2, fun _ => dget_is.mp c1⟩
        · obtain ⟨p, p1, p2, p3⟩ := dget_somek (dget_is.mp c1)
          have c2' : (dget v t.2.1).isSome = false := by simpa using c2
          simp only [c1, c2', if_true, Bool.not_false, pure_bind, p2, Mo.get_some, Option.isSome_some]
          have := v1.ln p p1
          refine ⟨by simp; omega, ⟨by omega, ?_⟩⟩
          exact grow p (y, 1) (t.1, t.2.1) p1 (sE_one y1 y2 e2) hyT p3.symm (dget_none c2') ⟨hst.2.2.1, hst.2.2.2⟩ (by simp; omega) fun k => c2 (dget_is.mpr (k.mp (dget_is.mp c1)))
      · have c1' : (dget v t.1).isSome = false := by simpa using c1
        by_cases c2 : (dget v t.2.1).isSome = true
        · obtain ⟨p, p1, p2, p3⟩ := dget_somek (dget_is.mp c2)
          simp only [c1', c2, if_true, Bool.not_false, Bool.false_eq_true, if_false, pure_bind, p2, Mo.get_some, Option.isSome_some]
          have := v1.ln p p1
          refine ⟨by simp; omega, ⟨by omega, ?_⟩⟩
          exact grow p (y, -1) (t.2.1, t.1) p1 (sE_neg y1 y2 e2) hyT p3.symm (dget_none c1') ⟨hst.1, hst.2.1⟩ (by simp; omega) fun k => c1 (dget_is.mpr (k.mpr (dget_is.mp c2)))
        · have c2' : (dget v t.2.1).isSome = false := by simpa using c2
          simp only [c1', c2', if_true, Bool.not_false, Bool.false_eq_true, if_false, pure_bind]
          exact stay ⟨fun k => absurd (dget_is.mpr k) c1, fun k => absurd (dget_is.mpr k) c2⟩
    · obtain ⟨v1, v2, v0, v3⟩ := hv
      refine ⟨v1, v2, v0, ?_⟩
      rcases v3 with ⟨rfl, v3⟩ | ⟨v3, v4⟩
      · right
        intro n hn t ht
        obtain ⟨m, hm⟩ := List.getElem?_of_mem hn
        have hm2 := (List.getElem?_eq_some_iff.mp hm).1
        exact v3 m n t (by omega) hm ht
      · rcases w3 with w3 | w3
        · left; omega
        · exact absurd w3 v4
  · obtain ⟨w1, w2, w0, w3⟩ := hw
    have wle := w1.le
    rw [rangeL_len] at w3
    have hs : shutT sp T w := by
      rcases w3 with w3 | w3
      · omega
      · exact w3
    exact q _ (TW_of w0 w2 (shutT_at hs))
/-! ### the tree -/
open Classical in
/-- the tree of the first k spans -/
noncomputable def trF (E : St' → Option (Int × Int)) : Nat → List Int
  | 0 => []
  | k + 1 => if (∃ w, E ((k : Int), 1) = some w ∧ Cn E (trF E k) w.1 w.2) then trF E k else trF E k ++ [(k : Int)]
open Classical in
noncomputable def clF (E : St' → Option (Int × Int)) : Nat → List Int
  | 0 => []
  | k + 1 => if (∃ w, E ((k : Int), 1) = some w ∧ Cn E (trF E k) w.1 w.2) then clF E k ++ [(k : Int)] else clF E k
theorem trF_mem {E : St' → Option (Int × Int)} : ∀ {k : Nat} {n : Int}, n ∈ trF E k → 0 ≤ n ∧ n < k
  | 0, n, h => by simp [trF] at h
  | k + 1, n, h => by
    unfold trF at h
    split at h
    · have := trF_mem h; omega
    · rcases List.mem_append.mp h with h | h
      · have := trF_mem h; omega
      · have := List.mem_singleton.mp h; omega
theorem trF_len {E : St' → Option (Int × Int)} : ∀ {k : Nat}, (trF E k).length ≤ k
  | 0 => by simp [trF]
  | k + 1 => by
    have := trF_len (E := E) (k := k)
    unfold trF
    split
    · omega
    · simp; omega
theorem clF_len {E : St' → Option (Int × Int)} : ∀ {k : Nat}, (clF E k).length ≤ k
  | 0 => by simp [clF]
  | k + 1 => by
    have := clF_len (E := E) (k := k)
    unfold clF
    split
    · simp; omega
    · omega
theorem clF_mem {E : St' → Option (Int × Int)} : ∀ {k : Nat} {n : Int}, n ∈ clF E k → 0 ≤ n ∧ n < k ∧ ∃ w, E (n, 1) = some w ∧ Cn E (trF E k) w.1 w.2
  | 0, n, h => by simp [clF] at h
  | k + 1, n, h => by
    have more : ∀ x ∈ trF E k, x ∈ trF E (k + 1) := fun x hx => by
      unfold trF
      split
      · exact hx
      · exact List.mem_append_left _ hx
    unfold clF at h
    split at h
    · rename_i c
      rcases List.mem_append.mp h with h | h
      · obtain ⟨a, b, w, hw, hc⟩ := clF_mem h
        exact ⟨a, by omega, w, hw, hc.more more⟩
      · have := List.mem_singleton.mp h
        subst this
        obtain ⟨w, hw, hc⟩ := c
        exact ⟨by omega, by omega, w, hw, hc.more more⟩
    · obtain ⟨a, b, w, hw, hc⟩ := clF_mem h
      exact ⟨a, by omega, w, hw, hc.more more⟩
theorem clF_filter {E : St' → Option (Int × Int)} : ∀ {k : Nat}, (rangeL 0 k).filter (fun n => !decide (n ∈ trF E k)) = clF E k
  | 0 => rfl
  | k + 1 => by
    have hr : rangeL 0 (k + 1) = rangeL 0 k ++ [(k : Int)] := by
      unfold rangeL
      rw [List.range_succ, List.map_append]
      simp
    have nk : (k : Int) ∉ trF E k := fun h => by have := trF_mem h; omega
    have ih := clF_filter (E := E) (k := k)
    rw [hr, List.filter_append]
    unfold trF clF
    split
    · rw [ih]
      congr 1
      simp [nk]
    · have e1 : (rangeL 0 k).filter (fun n => !decide (n ∈ trF E k ++ [(k : Int)])) = (rangeL 0 k).filter (fun n => !decide (n ∈ trF E k)) := by
        refine List.filter_congr fun n hn => ?_
        have := rangeL_mem.mp hn
        have : n ≠ k := by omega
        simp [this]
      rw [e1, ih]
      simp
theorem trF_forest {E : St' → Option (Int × Int)} (h2 : Two E) : ∀ {k : Nat}, Fo E (trF E k)
  | 0 => .nil
  | k + 1 => by
    unfold trF
    split
    · exact trF_forest h2
    · rename_i c
      refine .snoc (trF_forest h2) fun d w hw hc => ?_
      have k1 := h2.d hw
      dsimp only at k1
      rcases k1 with rfl | rfl
      · exact c ⟨w, hw, hc⟩
      · have := h2.n hw
        exact c ⟨(w.2, w.1), this, hc.sym h2⟩
open Classical in
/-- the way through a tree -/
noncomputable def pthF (E : St' → Option (Int × Int)) (T : List Int) (a b : Int) : List St' := if h : ∃ p, Wk E T a p b ∧ (vs E a p).Nodup then h.choose else []
theorem pthF_eq {E : St' → Option (Int × Int)} {T : List Int} (h2 : Two E) (F : Fo E T) {a b : Int} (hc : Cn E T a b) {r : Option (List St')} (hr : TW E T a b r) : r = some (pthF E T a b) := by
  cases r with
  | none => exact absurd hc hr
  | some p =>
    have hx : ∃ p, Wk E T a p b ∧ (vs E a p).Nodup := ⟨p, hr⟩
    have : pthF E T a b = hx.choose := by unfold pthF; rw [dif_pos hx]
    rw [this]
    exact congrArg some (uniq h2 F hr.1 hx.choose_spec.1 hr.2 hx.choose_spec.2)
theorem pthF_wk {E : St' → Option (Int × Int)} {T : List Int} {a b : Int} {r : List St'} (hr : TW E T a b (some r)) : Wk E T a (pthF E T a b) b := by
  have hx : ∃ p, Wk E T a p b ∧ (vs E a p).Nodup := ⟨r, hr⟩
  have : pthF E T a b = hx.choose := by unfold pthF; rw [dif_pos hx]
  rw [this]
  exact hx.choose_spec.1
end DD
namespace DD
open PySem PySem.Spec PyProof.Rows L2 KO SX RF
/-- a net that is kept -/
structure Nt (len many : Int) (sp : List Sp4') : Prop where
  t1 : 2 ≤ len
  t2 : len ≤ 60
  m1 : 0 ≤ many
  m2 : many ≤ 12
  l : sp.length ≤ 24
  s : ∀ t ∈ sp, SpOk len many t
theorem Nt.ends {len many : Int} {sp : List Sp4'} (h : Nt len many sp) : ∀ t ∈ sp, 0 ≤ t.1 ∧ t.1 < many ∧ 0 ≤ t.2.1 ∧ t.2.1 < many := fun t ht => by
  obtain ⟨a, b, c, d, _⟩ := h.s t ht
  exact ⟨a, b, c, d⟩
/-- the ring that a closing span makes -/
noncomputable def ringOf (E : St' → Option (Int × Int)) (n : Nat) (k : Int) : List St' := (k, 1) :: pthF E (trF E n) (((E (k, 1)).map (·.2)).getD 0) (((E (k, 1)).map (·.1)).getD 0)
section
variable {len many : Int} {sp : List Sp4'} {ts : List Int}
theorem span_nth {i : Nat} {t : Sp4'} (ht : sp[i]? = some t) : sE sp ((i : Int), 1) = some (t.1, t.2.1) := by
  have hi := (List.getElem?_eq_some_iff.mp ht).1
  exact sE_one (by omega) (by omega) (by simpa using ht)
open Classical in
theorem trF_succ {E : St' → Option (Int × Int)} {k : Nat} : trF E (k + 1) = if (∃ w, E ((k : Int), 1) = some w ∧ Cn E (trF E k) w.1 w.2) then trF E k else trF E k ++ [(k : Int)] := rfl
open Classical in
theorem clF_succ {E : St' → Option (Int × Int)} {k : Nat} : clF E (k + 1) = if (∃ w, E ((k : Int), 1) = some w ∧ Cn E (trF E k) w.1 w.2) then clF E k ++ [(k : Int)] else clF E k := rfl
theorem BaseInit_ok (h : Nt len many sp) {Q : OBase → Prop} {E : Ex → Prop} (q : Q ((len, many, sp), trF (sE sp) sp.length, clF (sE sp) sp.length)) : (P_BaseInit (len, many, sp)).run Q E := by
  have hz := sizeLine_eq
  have l := h.l
  have m1 := h.m1
  have m2 := h.m2
  have hmn : (many.toNat : Int) = many := Int.toNat_of_nonneg m1
  unfold P_BaseInit
  simp only [pure_bind, bind_assoc, map_pure, List.map_id']
  rw [Mo.run_bind]
  refine Mo.fold_inv (fun k (s : List Int × List Int) => s = (clF (sE sp) k, trF (sE sp) k)) (k := 0) rfl (fun i x s hx hs => ?_) (fun s hs => ?_)
  · rw [Nat.zero_add] at hs
    subst hs
    rw [enumL_get] at hx
    cases e0 : sp[i]? with
    | none =>
      rw [show (len, many, sp).2.2[i]? = sp[i]? from rfl, e0] at hx; cases hx
    | some t =>
      rw [show (len, many, sp).2.2[i]? = sp[i]? from rfl, e0] at hx
      obtain rfl := Option.some.inj hx
      have hi := (List.getElem?_eq_some_iff.mp e0).1
      have ht := h.ends t (List.mem_of_getElem? e0)
      have tl := trF_len (E := sE sp) (k := i)
      have cl := clF_len (E := sE sp) (k := i)
      refine treepath_ok (net := (len, many, sp)) (m := many.toNat) (by omega) (fun t ht => by have := h.ends t ht; rw [hmn]; exact this) (fun n hn => by have := trF_mem hn; show 0 ≤ n ∧ n < (sp.length : Int); omega) (show (trF (sE sp) i).length ≤ 24 by omega) ⟨ht.1, by rw [hmn]; exact ht.2.1⟩ fun r hr => ?_
      have hr : TW (sE sp) (trF (sE sp) i) t.1 t.2.1 r := hr
      show (if r.isSome = true then (Mo.rq ((clF (sE sp) i).length < sizeLine) (i : Int) >>= fun x => pure (clF (sE sp) i ++ [x], trF (sE sp) i)) else (Mo.rq ((trF (sE sp) i).length < sizeLine) (i : Int) >>= fun x => pure (clF (sE sp) i, trF (sE sp) i ++ [x])) : Mo (List Int × List Int)).run _ _
      rw [Nat.zero_add]
      rw [trF_succ, clF_succ]
      cases r with
      | some p =>
        have c : ∃ w, sE sp ((i : Int), 1) = some w ∧ Cn (sE sp) (trF (sE sp) i) w.1 w.2 := ⟨_, span_nth e0, p, hr.1⟩
        rw [if_pos c, if_pos c, if_pos (show (some p).isSome = true from rfl)]
        exact ⟨by omega, rfl⟩
      | none =>
        have c : ¬ ∃ w, sE sp ((i : Int), 1) = some w ∧ Cn (sE sp) (trF (sE sp) i) w.1 w.2 := fun ⟨w, hw, hc⟩ => by
          rw [span_nth e0] at hw
          obtain rfl := Option.some.inj hw
          exact hr hc
        rw [if_neg c, if_neg c, if_neg (by simp)]
        exact ⟨by omega, rfl⟩
  · rw [Nat.zero_add, enumL_len] at hs
    subst hs
    exact q
theorem BasePath_ok (h : Nt len many sp) {a b : Int} (ha : 0 ≤ a ∧ a < many) (hb : 0 ≤ b ∧ b < many) (hc : Cn (sE sp) (trF (sE sp) sp.length) a b) {cl : List Int} {Q : Option (List (Int × Int)) → Prop} {E : Ex → Prop} (q : Q (some (pthF (sE sp) (trF (sE sp) sp.length) a b))) : (P_BasePath ((len, many, sp), trF (sE sp) sp.length, cl) a b).run Q E := by
  have l := h.l
  have m1 := h.m1
  have m2 := h.m2
  have hmn : (many.toNat : Int) = many := Int.toNat_of_nonneg m1
  unfold P_BasePath
  simp only [pure_bind, bind_assoc, map_pure, List.map_id']
  have ok : Mo.fold (fun (s6 : Unit) w7 => (if decide (0 ≤ w7) = true then pure (decide (w7 < many)) else pure false) >>= fun x => if (!x) = true then (Mo.rq (Enc.ok RF.rI w7) ({ cls := Str.ofString "UnknownEvent", fs := [(Str.ofString "number", Enc.d RF.rI w7)] } : Ex) >>= fun e16 => Mo.throw e16) else pure ()) [a, b] () = (pure () : Mo Unit) := by
    simp only [Mo.fold, ha.1, ha.2, hb.1, hb.2, decide_true, if_true, pure_bind, Bool.not_true, Bool.false_eq_true, if_false]
  simp only [ok, pure_bind]
  rw [Mo.run_bind]
  refine treepath_ok (net := (len, many, sp)) (m := many.toNat) (by omega) (fun t ht => by have := h.ends t ht; rw [hmn]; exact this) (fun n hn => by have := trF_mem hn; show 0 ≤ n ∧ n < (sp.length : Int); omega) (by have := trF_len (E := sE sp) (k := sp.length); omega) ⟨ha.1, by rw [hmn]; exact ha.2⟩ fun r hr => ?_
  rw [pthF_eq (sE_two sp) (trF_forest (sE_two sp)) hc hr]
  exact q
theorem closing_span {k : Int} (hk : k ∈ clF (sE sp) sp.length) : ∃ t, atI sp k = some t ∧ sp[k.toNat]? = some t ∧ 0 ≤ k ∧ k < sp.length ∧ sE sp (k, 1) = some (t.1, t.2.1) ∧ Cn (sE sp) (trF (sE sp) sp.length) t.2.1 t.1 := by
  obtain ⟨k1, k2, w, hw, hc⟩ := clF_mem hk
  obtain ⟨t, e1, e2⟩ := atI_get (xs := sp) k1 k2
  have he := sE_one k1 k2 e2
  rw [he] at hw
  obtain rfl := Option.some.inj hw
  exact ⟨t, e1, e2, k1, k2, he, hc.sym (sE_two sp)⟩
theorem ringOf_eq {n : Nat} {k : Int} {t : Sp4'} (he : sE sp (k, 1) = some (t.1, t.2.1)) : ringOf (sE sp) n k = (k, 1) :: pthF (sE sp) (trF (sE sp) n) t.2.1 t.1 := by
  unfold ringOf; rw [he]; rfl
theorem Wk.valid {E : St' → Option (Int × Int)} {T : List Int} : ∀ {p : List St'} {a b : Int}, Wk E T a p b → ∀ st ∈ p, (E st).isSome = true ∧ st.1 ∈ T
  | [], a, b, h, st, hs => by simp at hs
  | s2 :: r, a, b, h, st, hs => by
    obtain ⟨ht, w, hw, _, hr⟩ := h
    rcases List.mem_cons.mp hs with h | h
    · rw [h, hw]; exact ⟨rfl, ht⟩
    · exact hr.valid st h
theorem vs_len {E : St' → Option (Int × Int)} : ∀ {p : List St'} {a : Int}, (vs E a p).length = p.length + 1
  | [], a => rfl
  | st :: r, a => by show (a :: vs E _ r).length = _; simp [vs_len]
theorem Wk.in_rg {m : Nat} (hsp : ∀ t ∈ sp, 0 ≤ t.1 ∧ t.1 < m ∧ 0 ≤ t.2.1 ∧ t.2.1 < m) {T : List Int} : ∀ {p : List St'} {a b : Int}, 0 ≤ a ∧ a < m → Wk (sE sp) T a p b → ∀ x ∈ vs (sE sp) a p, 0 ≤ x ∧ x < m
  | [], a, b, ha, h, x, hx => by rw [show x = a by simpa [vs] using hx]; exact ha
  | st :: r, a, b, ha, h, x, hx => by
    obtain ⟨ht, w, hw, _, hr⟩ := h
    have ev : vs (sE sp) a (st :: r) = a :: vs (sE sp) w.2 r := by show a :: vs (sE sp) (((sE sp st).map (·.2)).getD 0) r = _; rw [hw]; rfl
    rw [ev] at hx
    rcases List.mem_cons.mp hx with h | h
    · rw [h]; exact ha
    · obtain ⟨_, _, t, ht2, k⟩ := sE_inv hw
      have := hsp t (List.mem_of_getElem? ht2)
      refine hr.in_rg hsp ?_ x h
      rcases k with ⟨_, rfl⟩ | ⟨_, rfl⟩
      · exact this.2.2
      · exact ⟨this.1, this.2.1⟩
theorem pth_ok (h : Nt len many sp) {T : List Int} {a b : Int} (ha : 0 ≤ a ∧ a < many) {r : List St'} (hr : TW (sE sp) T a b (some r)) : (pthF (sE sp) T a b).length ≤ 12 ∧ Wk (sE sp) T a (pthF (sE sp) T a b) b := by
  have m1 := h.m1
  have m2 := h.m2
  have hmn : (many.toNat : Int) = many := Int.toNat_of_nonneg m1
  have hx : ∃ p, Wk (sE sp) T a p b ∧ (vs (sE sp) a p).Nodup := ⟨r, hr⟩
  have e : pthF (sE sp) T a b = hx.choose := by unfold pthF; rw [dif_pos hx]
  have sp1 := hx.choose_spec
  rw [← e] at sp1
  refine ⟨?_, sp1.1⟩
  have := nodup_len (m := many.toNat) sp1.2 (sp1.1.in_rg (fun t ht => by rw [hmn]; exact h.ends t ht) (by rw [hmn]; exact ha))
  rw [vs_len] at this
  omega
theorem cn_TW {E : St' → Option (Int × Int)} {T : List Int} {a b : Int} {r : Option (List St')} (hc : Cn E T a b) (hr : TW E T a b r) : ∃ p, r = some p := by
  cases r with
  | none => exact absurd hc hr
  | some p => exact ⟨p, rfl⟩
end
end DD
namespace DD
open PySem PySem.Spec PyProof.Rows L2 KO SX RF
theorem Mo.fold_pure {σ β : Type} {f : σ → β → Mo σ} {g : σ → β → σ} : ∀ {xs : List β} {s : σ}, (∀ x ∈ xs, ∀ s, f s x = pure (g s x)) → Mo.fold f xs s = pure (xs.foldl g s)
  | [], s, _ => rfl
  | x :: xs, s, h => by
    show (f s x >>= fun s => Mo.fold f xs s) = _
    rw [h x List.mem_cons_self s]
    exact Mo.fold_pure fun y hy => h y (List.mem_cons_of_mem _ hy)
theorem Wk.sfx {E : St' → Option (Int × Int)} {T : List Int} {x : Int} : ∀ {q : List St'} {c b : Int}, Wk E T c q b → (vs E c q).Nodup → x ∈ vs E c q → ∃ q', Wk E T x q' b ∧ (vs E x q').Nodup
  | [], c, b, h, hn, hx => by
    have : x = c := by simpa [vs] using hx
    exact ⟨[], by rw [this]; exact h, by simp [vs]⟩
  | st :: r, c, b, h, hn, hx => by
    have h' := h
    obtain ⟨ht, w, hw, _, hr⟩ := h
    have ev : vs E c (st :: r) = c :: vs E w.2 r := by show c :: vs E (((E st).map (·.2)).getD 0) r = _; rw [hw]; rfl
    by_cases e : x = c
    · rw [e]; exact ⟨st :: r, h', hn⟩
    · rw [ev] at hn hx
      rcases List.mem_cons.mp hx with k | k
      · exact absurd k e
      · exact hr.sfx (List.nodup_cons.mp hn).2 k
theorem Wk.simple {E : St' → Option (Int × Int)} {T : List Int} : ∀ {p : List St'} {a b : Int}, Wk E T a p b → ∃ q, Wk E T a q b ∧ (vs E a q).Nodup
  | [], a, b, h => ⟨[], h, by simp [vs]⟩
  | st :: r, a, b, h => by
    obtain ⟨ht, w, hw, ha, hr⟩ := h
    obtain ⟨q, q1, q2⟩ := hr.simple
    by_cases c : a ∈ vs E w.2 q
    · exact q1.sfx q2 c
    · refine ⟨st :: q, ⟨ht, w, hw, ha, q1⟩, ?_⟩
      have ev : vs E a (st :: q) = a :: vs E w.2 q := by show a :: vs E (((E st).map (·.2)).getD 0) q = _; rw [hw]; rfl
      rw [ev]
      exact List.nodup_cons.mpr ⟨c, q2⟩
theorem Cn.simple {E : St' → Option (Int × Int)} {T : List Int} {a b : Int} (h : Cn E T a b) : ∃ q, Wk E T a q b ∧ (vs E a q).Nodup := by obtain ⟨p, hp⟩ := h; exact hp.simple
section
variable {len many : Int} {sp : List Sp4'} {ts : List Int}
/-- the rings of the base -/
noncomputable def rgF (sp : List Sp4') : List (List St') := (clF (sE sp) sp.length).map (ringOf (sE sp) sp.length)
/-- what a ring that is closed keeps -/
structure RgOk (sp : List Sp4') (ring : List St') : Prop where
  l : ring.length ≤ 13
  v : ∀ st ∈ ring, ∃ t, sp[st.1.toNat]? = some t ∧ 0 ≤ st.1 ∧ st.1 < sp.length ∧ (st.2 = 1 ∨ st.2 = -1)
  c : ∃ T a, Wk (sE sp) T a ring a
theorem ring_ok (h : Nt len many sp) {k : Int} (hk : k ∈ clF (sE sp) sp.length) : ∃ t, sp[k.toNat]? = some t ∧ ringOf (sE sp) sp.length k = (k, 1) :: pthF (sE sp) (trF (sE sp) sp.length) t.2.1 t.1 ∧ (pthF (sE sp) (trF (sE sp) sp.length) t.2.1 t.1).length ≤ 12 ∧ RgOk sp (ringOf (sE sp) sp.length k) := by
  obtain ⟨t, e1, e2, k1, k2, he, hc⟩ := closing_span hk
  have ht := h.ends t (List.mem_of_getElem? e2)
  have hp : ∃ p, TW (sE sp) (trF (sE sp) sp.length) t.2.1 t.1 (some p) := by
    obtain ⟨p, hp⟩ := hc.simple
    exact ⟨p, hp⟩
  obtain ⟨p, hp⟩ := hp
  obtain ⟨q1, q2⟩ := pth_ok h ⟨ht.2.2.1, ht.2.2.2⟩ hp
  have er := ringOf_eq (n := sp.length) he
  refine ⟨t, e2, er, q1, ?_⟩
  rw [er]
  refine ⟨by simp; omega, fun st hst => ?_, ⟨k :: trF (sE sp) sp.length, t.1, ⟨List.mem_cons_self, _, he, rfl, q2.more fun x hx => List.mem_cons_of_mem _ hx⟩⟩⟩
  rcases List.mem_cons.mp hst with z | z
  · rw [z]; exact ⟨t, e2, k1, k2, .inl rfl⟩
  · obtain ⟨w, hw⟩ := Option.isSome_iff_exists.mp (q2.valid st z).1
    obtain ⟨a, b, t2, ht2, c⟩ := sE_inv hw
    exact ⟨t2, ht2, a, b, by rcases c with ⟨c, _⟩ | ⟨c, _⟩ <;> simp [c]⟩
theorem BaseRings_ok (h : Nt len many sp) {Q : List (List (Int × Int)) → Prop} {E : Ex → Prop} (q : Q (rgF sp)) : (P_BaseRings ((len, many, sp), trF (sE sp) sp.length, clF (sE sp) sp.length)).run Q E := by
  have hz := sizeLine_eq
  have l := h.l
  have cl := clF_len (E := sE sp) (k := sp.length)
  unfold P_BaseRings
  simp only [pure_bind, bind_assoc, map_pure, bind_pure]
  refine Mo.fold_inv (fun k (s : List (List (Int × Int))) => s = ((clF (sE sp) sp.length).take k).map (ringOf (sE sp) sp.length)) (k := 0) (by simp) (fun i x s hx hs => ?_) (fun s hs => ?_)
  · rw [Nat.zero_add] at hs
    subst hs
    have hi := (List.getElem?_eq_some_iff.mp hx).1
    have hk := List.mem_of_getElem? hx
    obtain ⟨t, e1, e2, k1, k2, he, hc⟩ := closing_span hk
    have ht := h.ends t (List.mem_of_getElem? e2)
    obtain ⟨t', e2', er, rl, _⟩ := ring_ok h hk
    obtain rfl : t = t' := Option.some.inj (e2.symm.trans e2')
    simp only [e1, Mo.get_some, pure_bind]
    rw [Mo.run_bind]
    refine BasePath_ok h ht.2.2 ⟨ht.1, ht.2.1⟩ hc ?_
    refine ⟨_, rfl, by simp; omega, ⟨by rw [List.length_map, List.length_take]; omega, ?_⟩⟩
    show _ = List.map _ (List.take (0 + i + 1) _)
    rw [Nat.zero_add, List.take_add_one, hx, List.map_append]
    show _ = _ ++ [ringOf (sE sp) sp.length x]
    rw [er]
    rfl
  · subst hs
    rw [Nat.zero_add, List.take_length]
    exact q
theorem Ltree_ok (h : Nt len many sp) (hm : sp ≠ [] → 1 ≤ many) {Q : List Int → Prop} {E : Ex → Prop} (q : Q (trF (sE sp) sp.length)) : (P_Ltree many sp).run Q E := by
  have hz := sizeLine_eq
  have l := h.l
  have m2 := h.m2
  unfold P_Ltree
  simp only [pure_bind, bind_assoc, map_pure]
  rw [Mo.rq_of (by omega)]
  simp only [pure_bind, bind_pure]
  refine Mo.fold_inv (fun k (s : List Int) => s = trF (sE sp) k) (k := 0) rfl (fun i x s hx hs => ?_) (fun s hs => ?_)
  · rw [Nat.zero_add] at hs
    subst hs
    obtain ⟨rfl, hi⟩ := rangeL_get hx
    obtain ⟨t, e1, e2⟩ := atI_get (xs := sp) (i := 0 + (i : Int)) (by omega) (by omega)
    have e0 : sp[i]? = some t := by rw [show (0 + (i : Int)).toNat = i by omega] at e2; exact e2
    have ht := h.ends t (List.mem_of_getElem? e0)
    have tl := trF_len (E := sE sp) (k := i)
    have hne : sp ≠ [] := by intro k; rw [k] at e0; simp at e0
    simp only [e1, Mo.get_some, pure_bind]
    refine Ltreeway_ok (hm hne) m2 h.ends (fun n hn => by have := trF_mem hn; omega) ⟨ht.1, ht.2.1⟩ fun r hr => ?_
    show (if r.isNone = true then (Mo.rq ((trF (sE sp) i).length < sizeLine) (0 + (i : Int)) >>= fun x => pure (trF (sE sp) i ++ [x])) else pure (trF (sE sp) i) : Mo (List Int)).run _ _
    rw [Nat.zero_add, trF_succ]
    cases r with
    | some p =>
      have c : ∃ w, sE sp ((i : Int), 1) = some w ∧ Cn (sE sp) (trF (sE sp) i) w.1 w.2 := ⟨_, span_nth e0, p, hr.1⟩
      rw [if_pos c]
      exact rfl
    | none =>
      have c : ¬ ∃ w, sE sp ((i : Int), 1) = some w ∧ Cn (sE sp) (trF (sE sp) i) w.1 w.2 := fun ⟨w, hw, hc⟩ => by
        rw [span_nth e0] at hw
        obtain rfl := Option.some.inj hw
        exact hr hc
      rw [if_neg c, Int.zero_add]
      exact ⟨by omega, rfl⟩
  · subst hs
    rw [rangeL_len, Nat.zero_add]
    exact q
theorem Lbaserings_ok (h : Nt len many sp) (hm : sp ≠ [] → 1 ≤ many) {Q : List (List (Int × Int)) → Prop} {E : Ex → Prop} (q : Q (rgF sp)) : (P_Lbaserings many sp).run Q E := by
  have hz := sizeLine_eq
  have l := h.l
  have m2 := h.m2
  have cl := clF_len (E := sE sp) (k := sp.length)
  unfold P_Lbaserings
  simp only [pure_bind, bind_assoc, map_pure, bind_pure]
  rw [Mo.run_bind]
  refine Ltree_ok h hm ?_
  rw [Mo.rq_of (by omega)]
  simp only [pure_bind]
  rw [show (sp.length : Int).toNat = sp.length by omega]
  rw [Mo.lc_pure (p := fun n : Int => !decide (n ∈ trF (sE sp) sp.length)) (g := fun n : Int => n) (by rw [rangeL_len]; omega) (fun _ _ => rfl) (fun _ _ _ => rfl)]
  simp only [pure_bind, List.map_id', clF_filter]
  refine Mo.lc_each (R := fun k r => r = ringOf (sE sp) sp.length k) (by omega) (fun k hk => ?_) fun ys y1 y2 => ?_
  · obtain ⟨t, e1, e2, k1, k2, he, hc⟩ := closing_span hk
    have ht := h.ends t (List.mem_of_getElem? e2)
    have hne : sp ≠ [] := by intro k; rw [k] at e2; simp at e2
    obtain ⟨t', e2', er, rl, _⟩ := ring_ok h hk
    obtain rfl : t = t' := Option.some.inj (e2.symm.trans e2')
    simp only [e1, Mo.get_some, pure_bind]
    rw [Mo.run_bind]
    refine Ltreeway_ok (hm hne) m2 h.ends (fun n hn => by have := trF_mem hn; omega) ⟨ht.2.2.1, ht.2.2.2⟩ fun r hr => ?_
    rw [pthF_eq (sE_two sp) (trF_forest (sE_two sp)) hc hr]
    simp only [Mo.get_some, pure_bind]
    exact ⟨by simp; omega, by rw [er]; rfl⟩
  · have : ys = rgF sp := by
      unfold rgF
      refine List.ext_getElem? fun i => ?_
      rw [List.getElem?_map]
      by_cases c : i < ys.length
      · have hy : ys[i]? = some (ys[i]) := List.getElem?_eq_getElem c
        have hx : (clF (sE sp) sp.length)[i]? = some ((clF (sE sp) sp.length)[i]'(by omega)) := List.getElem?_eq_getElem (by omega)
        rw [hy, hx, y2 i _ _ hx hy]
        rfl
      · rw [List.getElem?_eq_none (by omega), List.getElem?_eq_none (by omega)]; rfl
    rw [this]
    exact q
/-! ### the limits of a ring -/
theorem rgF_mem (h : Nt len many sp) {r : List St'} (hr : r ∈ rgF sp) : RgOk sp r := by
  unfold rgF at hr
  obtain ⟨k, hk, rfl⟩ := List.mem_map.mp hr
  exact (ring_ok h hk).choose_spec.2.2.2
theorem rgF_len (h : Nt len many sp) : (rgF sp).length ≤ 24 := by
  have := clF_len (E := sE sp) (k := sp.length)
  have := h.l
  unfold rgF
  rw [List.length_map]
  omega
end
end DD
namespace DD
open PySem PySem.Spec PyProof.Rows L2 KO SX RF
section
variable {len many : Int} {sp : List Sp4'}
noncomputable abbrev TT (sp : List Sp4') : List Int := trF (sE sp) sp.length
noncomputable abbrev CC (sp : List Sp4') : List Int := clF (sE sp) sp.length
theorem TW_uniq {E : St' → Option (Int × Int)} {T : List Int} (h2 : Two E) (F : Fo E T) {a b : Int} {r r' : Option (List St')} (h : TW E T a b r) (h' : TW E T a b r') : r = r' := by
  cases r with
  | none => cases r' with
    | none => rfl
    | some p => exact absurd ⟨p, h'.1⟩ h
  | some p => cases r' with
    | none => exact absurd ⟨p, h.1⟩ h'
    | some p' => rw [uniq h2 F h.1 h'.1 h.2 h'.2]
theorem TW_len (h : Nt len many sp) {T : List Int} {a b : Int} {r : List St'} (ha : 0 ≤ a ∧ a < many) (hr : TW (sE sp) T a b (some r)) : r.length ≤ 12 := by
  have hmn : (many.toNat : Int) = many := Int.toNat_of_nonneg h.m1
  have k := Wk.in_rg (sp := sp) (m := many.toNat) (fun t ht => by rw [hmn]; exact h.ends t ht) (by rw [hmn]; exact ha) hr.1
  have := nodup_len hr.2 k
  rw [vs_len] at this
  have := h.m2
  omega
noncomputable def wun (x : Int) : PyData := Enc.d (rT5 rS RF.rI rB rB rB) (Str.ofString "unknown", x, true, true, false)
noncomputable def wret (r : Option (List (Int × Int))) : PyData := Enc.d (rT2 rS (rO (rL (rT2 RF.rI RF.rI)))) (Str.ofString "returned", r)
def Wd (many : Int) (sp : List Sp4') (a b : Int) (d : PyData) : Prop := if ¬ (0 ≤ a ∧ a < many) then d = wun a else if ¬ (0 ≤ b ∧ b < many) then d = wun b else ∃ r, TW (sE sp) (TT sp) a b r ∧ d = wret r
theorem Wd.uniq {a b : Int} {d d' : PyData} (h : Wd many sp a b d) (h' : Wd many sp a b d') : d = d' := by
  unfold Wd at h h'
  split at h
  · rename_i c; rw [if_pos c] at h'; rw [h, h']
  · rename_i c; rw [if_neg c] at h'
    split at h
    · rename_i c2; rw [if_pos c2] at h'; rw [h, h']
    · rename_i c2; rw [if_neg c2] at h'
      obtain ⟨r, h1, rfl⟩ := h
      obtain ⟨r', h2, rfl⟩ := h'
      rw [TW_uniq (sE_two sp) (trF_forest (sE_two sp)) h1 h2]
theorem wret_ok (h : Nt len many sp) {T : List Int} {a b : Int} {r : Option (List St')} (ha : 0 ≤ a ∧ a < many) (hr : TW (sE sp) T a b r) : Enc.ok (rT2 rS (rO (rL (rT2 RF.rI RF.rI)))) (Str.ofString "returned", r) := by
  refine ⟨trivial, ?_⟩
  cases r with
  | none => trivial
  | some p => exact ⟨by have := TW_len h ha hr; omega, fun _ _ => ⟨trivial, trivial⟩⟩
theorem inr_dec {a : Int} : (a < 0 ∨ many - 1 < a) ↔ ¬ (0 ≤ a ∧ a < many) := by omega
theorem Lwaydue_ok (h : Nt len many sp) {a b : Int} {Q : PyData → Prop} {E : Ex → Prop} (q : ∀ d, Wd many sp a b d → Q d) : (P_Lwaydue many sp (TT sp) a b).run Q E := by
  unfold P_Lwaydue
  simp only [pure_bind, bind_assoc, map_pure]
  have tst : ∀ x : Int, ((if decide (x < 0) = true then pure true else pure (decide (many - 1 < x))) : Mo Bool) = pure (decide (¬ (0 ≤ x ∧ x < many))) := fun x => by
    by_cases c : x < 0
    · rw [if_pos (by simpa using c)]; congr 1; symm; simp; omega
    · rw [if_neg (by simpa using c)]; congr 1; rw [decide_eq_decide]; omega
  have e5 : ∀ x : Int, (Mo.rq (Enc.ok (rT5 rS RF.rI rB rB rB) (Str.ofString "unknown", x, true, true, false)) (Enc.d (rT5 rS RF.rI rB rB rB) (Str.ofString "unknown", x, true, true, false)) : Mo PyData) = pure (wun x) := fun x => Mo.rq_of ⟨trivial, trivial, trivial, trivial, trivial⟩
  simp only [tst, e5, pure_bind, Mo.loop]
  by_cases ca : 0 ≤ a ∧ a < many
  · by_cases cb : 0 ≤ b ∧ b < many
    · simp only [ca, cb, and_self, not_true, decide_false, Bool.false_eq_true, if_false, pure_bind]
      show (P_Ltreeway many sp (TT sp) a b >>= _ : Mo PyData).run _ _
      rw [Mo.run_bind]
      refine Ltreeway_ok (by omega) h.m2 h.ends (fun n hn => by have := trF_mem hn; omega) ca fun r hr => ?_
      refine ⟨wret_ok h ca hr, q _ ?_⟩
      unfold Wd
      rw [if_neg (by simpa using ca), if_neg (by simpa using cb)]
      exact ⟨r, hr, rfl⟩
    · have d1 : decide (¬ (0 ≤ a ∧ a < many)) = false := by simpa using ca
      have d2 : decide (¬ (0 ≤ b ∧ b < many)) = true := decide_eq_true cb
      simp only [d1, d2, Bool.false_eq_true, if_false, if_true, pure_bind]
      refine q _ ?_
      unfold Wd
      rw [if_neg (by simpa using ca), if_pos (by simpa using cb)]
  · have d1 : decide (¬ (0 ≤ a ∧ a < many)) = true := decide_eq_true ca
    simp only [d1, if_true, pure_bind]
    refine q _ ?_
    unfold Wd
    rw [if_pos (by simpa using ca)]
theorem BasePath_any (h : Nt len many sp) {a b : Int} {cl : List Int} {Q : Option (List (Int × Int)) → Prop} {E : Ex → Prop} (q : (0 ≤ a ∧ a < many) → (0 ≤ b ∧ b < many) → ∀ r, TW (sE sp) (TT sp) a b r → Q r)
    (e : ∀ x, (¬ (0 ≤ a ∧ a < many) ∧ x = a) ∨ ((0 ≤ a ∧ a < many) ∧ ¬ (0 ≤ b ∧ b < many) ∧ x = b) → E ⟨Str.ofString "UnknownEvent", [(Str.ofString "number", .int x)]⟩) : (P_BasePath ((len, many, sp), TT sp, cl) a b).run Q E := by
  unfold P_BasePath
  simp only [pure_bind, bind_assoc, map_pure, List.map_id']
  have tst : ∀ x : Int, ((if decide (0 ≤ x) = true then pure (decide (x < many)) else pure false) : Mo Bool) = pure (decide (0 ≤ x ∧ x < many)) := fun x => by
    by_cases c : 0 ≤ x
    · rw [if_pos (by simpa using c)]; congr 1; rw [decide_eq_decide]; omega
    · rw [if_neg (by simpa using c)]; congr 1; symm; simp; omega
  simp only [tst, pure_bind, Mo.fold]
  by_cases ca : 0 ≤ a ∧ a < many
  · by_cases cb : 0 ≤ b ∧ b < many
    · simp only [ca, cb, and_self, decide_true, Bool.not_true, Bool.false_eq_true, if_false, pure_bind]
      have l := h.l
      have hmn : (many.toNat : Int) = many := Int.toNat_of_nonneg h.m1
      have m2 := h.m2
      show (P_treepath (len, many, sp) (TT sp) a b >>= _ : Mo _).run _ _
      rw [Mo.run_bind]
      exact treepath_ok (net := (len, many, sp)) (m := many.toNat) (by omega) (fun t ht => by have := h.ends t ht; rw [hmn]; exact this) (fun n hn => by have := trF_mem hn; show 0 ≤ n ∧ n < (sp.length : Int); omega) (Nat.le_trans (trF_len (E := sE sp) (k := sp.length)) l) ⟨ca.1, by rw [hmn]; exact ca.2⟩ fun r hr => q ca cb r hr
    · have d2 : decide (0 ≤ b ∧ b < many) = false := by simpa using cb
      simp only [ca, and_self, decide_true, d2, Bool.not_true, Bool.not_false, Bool.false_eq_true, if_false, if_true, pure_bind]
      exact ⟨trivial, e b (.inr ⟨ca, cb, rfl⟩)⟩
  · have d1 : decide (0 ≤ a ∧ a < many) = false := by simpa using ca
    simp only [d1, Bool.not_false, if_true]
    exact ⟨trivial, e a (.inl ⟨ca, rfl⟩)⟩
theorem Lwaytold_ok (h : Nt len many sp) {a b : Int} {cl : List Int} {Q : PyData → Prop} {E : Ex → Prop} (q : ∀ d, Wd many sp a b d → Q d) : (P_Lwaytold ((len, many, sp), TT sp, cl) a b).run Q E := by
  unfold P_Lwaytold
  simp only [pure_bind, bind_assoc, map_pure]
  refine ⟨trivial, ?_⟩
  show (Mo.catch1 _ _ _ _ >>= _ : Mo PyData).run _ _
  rw [Mo.run_bind, Mo.run_catch1, Mo.run_bind]
  refine BasePath_any h (fun ca cb r hr => ?_) fun x hx => ?_
  · rw [Mo.run_pure]
    show ((if isNoneD (Enc.d rN ()) = true then _ else _) >>= _ : Mo PyData).run _ _
    have : isNoneD (Enc.d rN ()) = true := rfl
    simp only [this, if_true]
    refine ⟨wret_ok h ca hr, q _ ?_⟩
    unfold Wd
    rw [if_neg (by simpa using ca), if_neg (by simpa using cb)]
    exact ⟨r, hr, rfl⟩
  · rw [if_pos rfl]
    refine ⟨by simp, ?_⟩
    refine ⟨.int x, rfl, x, rfl, ⟨trivial, trivial, trivial, trivial, trivial⟩, ?_⟩
    show (pure _ >>= _ : Mo PyData).run _ _
    refine q _ ?_
    unfold Wd
    rcases hx with ⟨c, rfl⟩ | ⟨c, c2, rfl⟩
    · rw [if_pos c]; rfl
    · rw [if_neg (by simpa using c), if_pos c2]; rfl
end
end DD
namespace DD
open PySem PySem.Spec PyProof.Rows L2 KO SX RF
section
variable {len many : Int} {sp : List Sp4'}
theorem Lwaysgood_ok (h : Nt len many sp) {pairs : List (Int × Int)} {cl : List Int} {Q : Bool → Prop} {E : Ex → Prop} (q : Q true) : (P_Lwaysgood ((len, many, sp), TT sp, cl) many sp (TT sp) pairs).run Q E := by
  have hz := sizeLine_eq
  unfold P_Lwaysgood
  simp only [pure_bind, bind_assoc, map_pure]
  rw [Mo.run_bind]
  refine Mo.loop_inv (fun _ _ => True) (k := 0) trivial (fun i w s hw _ => ?_) (fun s _ => q)
  show (P_Lwaydue many sp (TT sp) w.1 w.2 >>= _ : Mo _).run _ _
  rw [Mo.run_bind]
  refine Lwaydue_ok h fun d hd => ?_
  rw [Mo.run_bind]
  refine Lwaytold_ok h fun d' hd' => ?_
  obtain rfl := hd.uniq hd'
  refine ⟨rfl, ?_⟩
  simp only [Bool.not_true, Bool.false_eq_true, if_false]
  have un : ∀ (x : PyData) (k : Mo (Lp Unit Bool)) (R : Lp Unit Bool → Prop), insD "list" (fun k => k == "list") x = false → R (.go ()) → (if insD "list" (fun k => k == "list") x = true then k else pure (Lp.go ()) : Mo (Lp Unit Bool)).run R E := fun x k R hx hR => by
    rw [hx, if_neg (by simp)]
    exact hR
  unfold Wd at hd
  split at hd
  · subst hd
    exact ⟨_, rfl, _, rfl, un _ _ _ (by simp [insD, kdD, Enc.d]) trivial⟩
  · split at hd
    · subst hd
      exact ⟨_, rfl, _, rfl, un _ _ _ (by simp [insD, kdD, Enc.d]) trivial⟩
    · rename_i c1 c2
      obtain ⟨r, hr, rfl⟩ := hd
      cases r with
      | none => exact ⟨_, rfl, _, rfl, un _ _ _ (by simp [insD, kdD, Enc.d]) trivial⟩
      | some p =>
        refine ⟨_, rfl, _, rfl, ?_⟩
        show (if insD "list" (fun k => k == "list") (Enc.d (rO (rL (rT2 RF.rI RF.rI))) (some p)) = true then _ else _ : Mo (Lp Unit Bool)).run _ _
        rw [if_pos (show insD "list" (fun k => k == "list") (Enc.d (rO (rL (rT2 RF.rI RF.rI))) (some p)) = true by simp [insD, kdD, Enc.d])]
        refine ⟨_, rfl, _, rfl, _, rfl, ?_⟩
        have := TW_len h (by omega) hr
        refine ⟨?_, trivial⟩
        rw [List.length_replicate]
        show (p.map (Enc.d (rT2 RF.rI RF.rI))).length < sizeLine
        rw [List.length_map]
        omega
theorem rgs_ok (h : Nt len many sp) : Enc.ok (rL (rL (rT2 RF.rI RF.rI))) (rgF sp) := by
  refine ⟨by have := rgF_len h; omega, fun r hr => ⟨by have := (rgF_mem h hr).l; omega, fun _ _ => ⟨trivial, trivial⟩⟩⟩
theorem Lbasegood_ok (h : Nt len many sp) {Q : Bool → Prop} {E : Ex → Prop} (q : Q true) : (P_Lbasegood ((len, many, sp), TT sp, CC sp) many sp (TT sp) (rgF sp)).run Q E := by
  have hz := sizeLine_eq
  have l := h.l
  have t1 := trF_len (E := sE sp) (k := sp.length)
  have c1 := clF_len (E := sE sp) (k := sp.length)
  unfold P_Lbasegood P_BaseLen
  simp only [pure_bind, bind_assoc, map_pure, Mo.calm_pure]
  refine ⟨by omega, ?_⟩
  rw [show ((sp.length : Int)).toNat = sp.length by omega]
  show (Mo.lc _ _ _ >>= _ : Mo Bool).run _ _
  rw [Mo.lc_pure (p := fun n => !decide (n ∈ TT sp)) (g := fun n => n) (by rw [rangeL_len]; omega) (fun _ _ => rfl) (fun _ _ _ => rfl), clF_filter, List.map_id']
  simp only [pure_bind]
  have okI : ∀ us : List Int, us.length ≤ 24 → Enc.ok (rTs RF.rI) us := fun us hu => ⟨by omega, fun _ _ => trivial⟩
  refine ⟨okI _ (Nat.le_trans t1 l), okI _ (Nat.le_trans t1 l), rfl, ?_⟩
  simp only [Bool.not_true, Bool.false_eq_true, if_false, bind_assoc, pure_bind]
  refine ⟨okI _ (Nat.le_trans c1 l), okI _ (Nat.le_trans c1 l), rfl, ?_⟩
  simp only [Bool.not_true, Bool.false_eq_true, if_false, bind_assoc, pure_bind]
  refine ⟨⟨by omega, by show ((CC sp).length : Int) < 2 ^ 63; have : (CC sp).length ≤ 24 := Nat.le_trans c1 l; omega⟩, trivial, trivial, rfl, ?_⟩
  simp only [Bool.not_true, Bool.false_eq_true, if_false, bind_assoc, pure_bind]
  rw [Mo.run_bind]
  refine BaseRings_ok h ?_
  refine ⟨rgs_ok h, rgs_ok h, rfl, ?_⟩
  simp only [Bool.not_true, Bool.false_eq_true, if_false, bind_assoc, pure_bind]
  rw [Mo.run_bind]
  refine BaseRings_ok h ?_
  have rl := rgF_len h
  refine ⟨by omega, ?_⟩
  obtain ⟨inner, e1, e2⟩ : ∃ inner, atI (rgF sp ++ [([] : List (Int × Int))]) 0 = some inner ∧ inner.length ≤ 13 := by
    obtain ⟨x, e1, e2⟩ := atI_in (xs := rgF sp ++ [([] : List (Int × Int))]) (i := 0) (by omega) (by simp)
    refine ⟨x, e1, ?_⟩
    rcases List.mem_append.mp (List.mem_of_getElem? e2) with m | m
    · exact (rgF_mem h m).l
    · rw [List.mem_singleton.mp m]; simp
  refine ⟨inner, e1, by omega, ?_⟩
  show (P_BaseRings _ >>= _ : Mo Bool).run _ _
  rw [Mo.run_bind]
  refine BaseRings_ok h ?_
  exact ⟨rgs_ok h, rgs_ok h, rfl, q⟩
theorem nt_drop (h : Nt len many sp) : Nt len many (sp.drop 1) := ⟨h.t1, h.t2, h.m1, h.m2, by have := h.l; rw [List.length_drop]; omega, fun t ht => h.s t (List.mem_of_mem_drop ht)⟩
end
theorem Law_ok (ns : List Int) : (P_Law ns).run (fun b => b = true) (fun _ => False) := by
  have hz := sizeLine_eq
  unfold P_Law
  simp only [pure_bind, bind_assoc, map_pure, Mo.rq_of cpow8, pow8]
  refine ⟨by decide, ?_⟩
  show (P_Llength >>= _ : Mo _).run _ _
  rw [Mo.run_bind]
  refine Llength_ok fun len l1 l2 => ?_
  rw [Mo.run_bind]
  refine Lmany_ok fun many m1 m2 => ?_
  rw [Mo.run_bind]
  refine Lcount_ok fun c c1 c2 c3 => ?_
  rw [Mo.run_bind]
  refine Lanyspans_ok l1 l2 m1 m2 c1 c2 c3 fun sp s1 s2 => ?_
  have hn : Nt len many sp := ⟨l1, l2, m1, m2, by omega, s2⟩
  have hm : sp ≠ [] → 1 ≤ many := fun k => by
    rcases Int.lt_or_le many 2 with z | z
    · have := c3 z
      have : sp.length = 0 := by omega
      exact absurd (List.length_eq_zero_iff.mp this) k
    · omega
  rw [Mo.run_bind]
  refine NetInit_ok l1 l2 m1 m2 (by omega) s2 ?_
  rw [Mo.run_bind]
  refine BaseInit_ok hn ?_
  rw [Mo.run_bind]
  refine Ltree_ok hn hm ?_
  rw [Mo.run_bind]
  refine Lbaserings_ok hn hm ?_
  refine ⟨by decide, ?_⟩
  show (Mo.take _ >>= _ : Mo _).run _ _
  rw [Mo.run_bind, Mo.run_take]
  refine ⟨by omega, fun first f1 => ?_⟩
  rw [Mo.run_bind, Mo.run_take]
  refine ⟨by decide, fun x hx => ?_⟩
  obtain ⟨far, e1, _⟩ := atI_in (xs := [(0 : Int), 0, 1, 10, 100000000]) hx.1 (by show x < 5; exact hx.2)
  refine ⟨far, e1, ?_⟩
  refine ⟨by omega, ?_⟩
  have rl : (rangeL 0 many.toNat).length ≤ 12 := by rw [rangeL_len]; omega
  show (Mo.lc _ _ _ >>= _ : Mo Bool).run _ _
  rw [Mo.lc_map (g := fun w : Int => (first, w)) (by omega) (fun _ _ => rfl)]
  simp only [pure_bind]
  refine ⟨by omega, ?_⟩
  show (Mo.lc _ _ _ >>= _ : Mo Bool).run _ _
  rw [Mo.lc_map (g := fun w : Int => (w, first)) (by omega) (fun _ _ => rfl)]
  simp only [pure_bind]
  refine ⟨by simp only [List.length_map]; omega, ?_⟩
  refine ⟨by simp only [List.length_append, List.length_map, List.length_cons, List.length_nil]; omega, ?_⟩
  have both : ∀ pairs : List (Int × Int), ∀ k : Mo Bool, k.run (fun b => b = true) (fun _ => False) → (P_Lbasegood ((len, many, sp), TT sp, CC sp) many sp (TT sp) (rgF sp) >>= fun x => (if (!x) = true then pure true else P_Lwaysgood ((len, many, sp), TT sp, CC sp) many sp (TT sp) pairs >>= fun b => pure (!b)) >>= fun c => if c = true then pure false else k : Mo Bool).run (fun b => b = true) (fun _ => False) := fun pairs k hk => by
    rw [Mo.run_bind]
    refine Lbasegood_ok hn ?_
    simp only [Bool.not_true, Bool.false_eq_true, if_false, bind_assoc, pure_bind]
    rw [Mo.run_bind]
    refine Lwaysgood_ok hn ?_
    simp only [Bool.not_true, Bool.false_eq_true, if_false]
    exact hk
  refine both _ _ ?_
  have ec : RF.cutL sp (some 1) none = sp.drop 1 := cut_from sp (k := 1) (by decide)
  rw [ec]
  have hd := nt_drop hn
  have hmd : sp.drop 1 ≠ [] → 1 ≤ many := fun k => hm (fun e => k (by rw [e]; rfl))
  rw [Mo.run_bind]
  refine NetInit_ok l1 l2 m1 m2 hd.l hd.s ?_
  rw [Mo.run_bind]
  refine BaseInit_ok hd ?_
  rw [Mo.run_bind]
  refine BaseRings_ok hd ?_
  refine ⟨rgs_ok hd, ?_⟩
  show (P_Lbaserings many (sp.drop 1) >>= _ : Mo _).run _ _
  rw [Mo.run_bind]
  refine Lbaserings_ok hd hmd ?_
  refine ⟨rgs_ok hd, rfl, ?_⟩
  simp only [Bool.not_true, Bool.false_eq_true, if_false]
  refine both _ _ ?_
  have ok4 : Enc.ok (rTs (rT4 RF.rI RF.rI RF.rI RF.rI)) sp := ⟨by omega, fun _ _ => ⟨trivial, trivial, trivial, trivial⟩⟩
  exact ⟨ok4, ok4, rfl, rfl⟩
end DD
namespace DD
open PySem PySem.Spec PyProof.Rows L2 KO SX RF
def spLaw (K : PySem.W.Frag) : Sp := fun vs H Q _ => ∃ (a : Addr) (ns : List Int), vs = [.ref a] ∧ SqL K H a (ns.map V.int) ∧ ns.length ≤ 63 ∧ ∀ H', Q (.bl true) H'
theorem ok_law {P : Program} {w : World} {K : PySem.W.Frag} {mg : Str → Option Value} {base : Heap} (T : Tx K mg) : FnOk P w K mg base CX0 10 T.flaw T.dlaw ["_law_script"] (spLaw K) := by
  refine (fn_Law (P := P) (w := w) (base := base) T).c0 fun vs H Q E h => ?_
  obtain ⟨a, ns, rfl, hs, hl, q⟩ := h
  refine ⟨(), (ns, ()), H, ⟨Go.refl (Same.refl H), fun i e he => ?_, fun i j l m b p r h1 h2 => ?_, rfl⟩, (P_Law ns).mono (fun b hb v F' H' _ _ hv => ?_) (fun _ z => z.elim) (Law_ok ns)⟩
  · match i, he with
    | 0, he =>
      cases he
      exact ⟨.ref a, rfl, a, rfl, hs⟩
    | i + 1, he => cases he
  · match i, h1 with
    | 0, h1 => cases h1
    | i + 1, h1 => cases h1
  · obtain rfl : v = .bl b := hv
    rw [hb]
    exact q H'
end DD
namespace DD
open PySem L2 SX
theorem all_mk {l : PySem.W.OpenLaw} {w : World} {K : PySem.W.Frag} {h : Heap} {mg : Str → Option Value} {fa : Addr} (X : K.In h) (G : h.Ns mainGlobals mg) (hfa : mg "law" = some (.ref fa)) {nm_BadNet q_BadNet : Str} {N_BadNet : Addr} {bs_BadNet : List Value} {sn_BadNet : List Str} {sub_BadNet : List Value} {ab_BadNet : Bool} {col_BadNet : Option Bool} {dd_BadNet : Option Addr} {m0_BadNet m1_BadNet m2_BadNet m3_BadNet m5_BadNet : Option Value} {nm_UnknownEvent q_UnknownEvent : Str} {N_UnknownEvent : Addr} {bs_UnknownEvent : List Value} {sn_UnknownEvent : List Str} {sub_UnknownEvent : List Value} {ab_UnknownEvent : Bool} {col_UnknownEvent : Option Bool} {dd_UnknownEvent : Option Addr} {m0_UnknownEvent m1_UnknownEvent m2_UnknownEvent m3_UnknownEvent m5_UnknownEvent : Option Value} {f0 f1 f2 f3 f4 f5 f6 f7 f8 f9 f10 f11 f12 f13 f14 f15 f16 f17 f18 f19 f20 f21 f22 f23 f24 f25 f26 f27 CBase CNet CDepotError CBadNet CBadPath CUnknownSpan CUnknownEvent : Addr} {od0 an0 od1 an1 od2 an2 od3 an3 od4 an4 od5 an5 od6 an6 od7 an7 od8 an8 od9 an9 od10 an10 od11 an11 od12 an12 od13 an13 od14 an14 od15 an15 od16 an16 od17 an17 od18 an18 od19 an19 od20 an20 od21 an21 od22 an22 od23 an23 od24 an24 od25 an25 od26 an26 od27 an27 : Option Addr} {sl0 sl1 sl2 sl3 sl4 sl5 sl6 sl7 sl8 sl9 sl10 sl11 sl12 sl13 sl14 sl15 sl16 sl17 sl18 sl19 sl20 sl21 sl22 sl23 sl24 sl25 sl26 sl27 : Array (Option Value)} {oc0 kV0 dc0 pm0 cd0 ct0 oc1 kV1 dc1 pm1 cd1 ct1 oc2 kV2 dc2 pm2 cd2 ct2 oc3 kV3 dc3 pm3 cd3 ct3 oc4 kV4 dc4 pm4 cd4 ct4 oc5 kV5 dc5 pm5 cd5 ct5 oc6 kV6 dc6 pm6 cd6 ct6 oc7 kV7 dc7 pm7 cd7 ct7 oc8 kV8 dc8 pm8 cd8 ct8 oc9 kV9 dc9 pm9 cd9 ct9 oc10 kV10 dc10 pm10 cd10 ct10 oc11 kV11 dc11 pm11 cd11 ct11 oc12 kV12 dc12 pm12 cd12 ct12 oc13 kV13 dc13 pm13 cd13 ct13 oc14 kV14 dc14 pm14 cd14 ct14 oc15 kV15 dc15 pm15 cd15 ct15 oc16 kV16 dc16 pm16 cd16 ct16 oc17 kV17 dc17 pm17 cd17 ct17 oc18 kV18 dc18 pm18 cd18 ct18 oc19 kV19 dc19 pm19 cd19 ct19 oc20 kV20 dc20 pm20 cd20 ct20 oc21 kV21 dc21 pm21 cd21 ct21 oc22 kV22 dc22 pm22 cd22 ct22 oc23 kV23 dc23 pm23 cd23 ct23 oc24 kV24 dc24 pm24 cd24 ct24 oc25 kV25 dc25 pm25 cd25 ct25 oc26 kV26 dc26 pm26 cd26 ct26 oc27 kV27 dc27 pm27 cd27 ct27 : Value} {u_LEAST_ROUND u_MOST_ROUND u_MOST_EVENTS u_MOST_SPANS u_MOST_ON_SPAN : Tok}
    (k_LEAST_ROUND : PySem.W.nsIn K mainGlobals "LEAST_ROUND" = some (some (.int 2 u_LEAST_ROUND)))
    (k_MOST_ROUND : PySem.W.nsIn K mainGlobals "MOST_ROUND" = some (some (.int 60 u_MOST_ROUND)))
    (k_MOST_EVENTS : PySem.W.nsIn K mainGlobals "MOST_EVENTS" = some (some (.int 12 u_MOST_EVENTS)))
    (k_MOST_SPANS : PySem.W.nsIn K mainGlobals "MOST_SPANS" = some (some (.int 24 u_MOST_SPANS)))
    (k_MOST_ON_SPAN : PySem.W.nsIn K mainGlobals "MOST_ON_SPAN" = some (some (.int 999 u_MOST_ON_SPAN)))
    (z_ValueError : PySem.W.nsIn K mainGlobals "ValueError" = some none)
    (z_abs : PySem.W.nsIn K mainGlobals "abs" = some none)
    (z_bool : PySem.W.nsIn K mainGlobals "bool" = some none)
    (z_enumerate : PySem.W.nsIn K mainGlobals "enumerate" = some none)
    (z_int : PySem.W.nsIn K mainGlobals "int" = some none)
    (z_isinstance : PySem.W.nsIn K mainGlobals "isinstance" = some none)
    (z_len : PySem.W.nsIn K mainGlobals "len" = some none)
    (z_list : PySem.W.nsIn K mainGlobals "list" = some none)
    (z_max : PySem.W.nsIn K mainGlobals "max" = some none)
    (z_min : PySem.W.nsIn K mainGlobals "min" = some none)
    (z_range : PySem.W.nsIn K mainGlobals "range" = some none)
    (z_str : PySem.W.nsIn K mainGlobals "str" = some none)
    (z_tuple : PySem.W.nsIn K mainGlobals "tuple" = some none)
    (a_Base : PySem.W.nsIn K mainGlobals "Base" = some (some (.ref CBase)))
    (pg_Base : PySem.W.plainGet K CBase Str.empty = true)
    (hd_Base : PySem.W.hasDictIn K CBase = true)
    (po_Base : PySem.W.plainOver K CBase = true)
    (sa_Base : PySem.W.findIn K (.ref CBase) "__setattr__" = some (some (.builtin "object.__setattr__")))
    (mk_Base : PySem.W.makesIn K CBase = true)
    (kc_Base : PySem.W.keepIn K (.ref CBase) = true)
    (na_Base__net : PySem.W.findIn K (.ref CBase) "_net" = some none)
    (na_Base_tree : PySem.W.findIn K (.ref CBase) "tree" = some none)
    (na_Base_closing : PySem.W.findIn K (.ref CBase) "closing" = some none)
    (a_Net : PySem.W.nsIn K mainGlobals "Net" = some (some (.ref CNet)))
    (pg_Net : PySem.W.plainGet K CNet Str.empty = true)
    (hd_Net : PySem.W.hasDictIn K CNet = true)
    (po_Net : PySem.W.plainOver K CNet = true)
    (sa_Net : PySem.W.findIn K (.ref CNet) "__setattr__" = some (some (.builtin "object.__setattr__")))
    (mk_Net : PySem.W.makesIn K CNet = true)
    (kc_Net : PySem.W.keepIn K (.ref CNet) = true)
    (na_Net_round_length : PySem.W.findIn K (.ref CNet) "round_length" = some none)
    (na_Net_events : PySem.W.findIn K (.ref CNet) "events" = some none)
    (na_Net_spans : PySem.W.findIn K (.ref CNet) "spans" = some none)
    (a_DepotError : PySem.W.nsIn K mainGlobals "DepotError" = some (some (.ref CDepotError)))
    (a_BadNet : PySem.W.nsIn K mainGlobals "BadNet" = some (some (.ref CBadNet)))
    (a_BadPath : PySem.W.nsIn K mainGlobals "BadPath" = some (some (.ref CBadPath)))
    (a_UnknownSpan : PySem.W.nsIn K mainGlobals "UnknownSpan" = some (some (.ref CUnknownSpan)))
    (a_UnknownEvent : PySem.W.nsIn K mainGlobals "UnknownEvent" = some (some (.ref CUnknownEvent)))
    (a0 : PySem.W.findIn K (.ref CBadNet) "__init__" = some (some (.ref f0)))
    (i0 : PySem.W.typeIn K (.ref f0) = some (.type "function"))
    (l0 : K.lookup f0 = some ⟨oc0, od0, .func (PySem.W.fnOf "__init__" "BadNet.__init__" (defArgs sBadNetInit) (defBody sBadNetInit) (defScope sBadNetInit) .none kV0 dc0 pm0 an0 cd0 ct0), sl0⟩)
    (c0 : PySem.W.codeIn K cd0 "BadNet.__init__" = true)
    (k0 : PySem.W.keepIn K (.ref f0) = true)
    (a1 : PySem.W.findIn K (.ref CUnknownEvent) "__init__" = some (some (.ref f1)))
    (i1 : PySem.W.typeIn K (.ref f1) = some (.type "function"))
    (l1 : K.lookup f1 = some ⟨oc1, od1, .func (PySem.W.fnOf "__init__" "UnknownEvent.__init__" (defArgs sUnknownEventInit) (defBody sUnknownEventInit) (defScope sUnknownEventInit) .none kV1 dc1 pm1 an1 cd1 ct1), sl1⟩)
    (c1 : PySem.W.codeIn K cd1 "UnknownEvent.__init__" = true)
    (k1 : PySem.W.keepIn K (.ref f1) = true)
    (a2 : PySem.W.nsIn K mainGlobals "step_ends" = some (some (.ref f2)))
    (l2 : K.lookup f2 = some ⟨oc2, od2, .func (PySem.W.fnOf "step_ends" "step_ends" (defArgs sstepends) (defBody sstepends) (defScope sstepends) .none kV2 dc2 pm2 an2 cd2 ct2), sl2⟩)
    (c2 : PySem.W.codeIn K cd2 "step_ends" = true)
    (k2 : PySem.W.keepIn K (.ref f2) = true)
    (a3 : PySem.W.nsIn K mainGlobals "tree_path" = some (some (.ref f3)))
    (l3 : K.lookup f3 = some ⟨oc3, od3, .func (PySem.W.fnOf "tree_path" "tree_path" (defArgs streepath) (defBody streepath) (defScope streepath) .none kV3 dc3 pm3 an3 cd3 ct3), sl3⟩)
    (c3 : PySem.W.codeIn K cd3 "tree_path" = true)
    (k3 : PySem.W.keepIn K (.ref f3) = true)
    (a4 : PySem.W.findIn K (.ref CBase) "__init__" = some (some (.ref f4)))
    (i4 : PySem.W.isFn K (.ref f4) = true)
    (l4 : K.lookup f4 = some ⟨oc4, od4, .func (PySem.W.fnOf "__init__" "Base.__init__" (defArgs sBaseInit) (defBody sBaseInit) (defScope sBaseInit) .none kV4 dc4 pm4 an4 cd4 ct4), sl4⟩)
    (c4 : PySem.W.codeIn K cd4 "Base.__init__" = true)
    (k4 : PySem.W.keepIn K (.ref f4) = true)
    (a5 : PySem.W.findIn K (.ref CBase) "__len__" = some (some (.ref f5)))
    (i5 : PySem.W.isFn K (.ref f5) = true)
    (l5 : K.lookup f5 = some ⟨oc5, od5, .func (PySem.W.fnOf "__len__" "Base.__len__" (defArgs sBaseLen) (defBody sBaseLen) (defScope sBaseLen) .none kV5 dc5 pm5 an5 cd5 ct5), sl5⟩)
    (c5 : PySem.W.codeIn K cd5 "Base.__len__" = true)
    (k5 : PySem.W.keepIn K (.ref f5) = true)
    (a6 : PySem.W.findIn K (.ref CBase) "path" = some (some (.ref f6)))
    (i6 : PySem.W.isFn K (.ref f6) = true)
    (l6 : K.lookup f6 = some ⟨oc6, od6, .func (PySem.W.fnOf "path" "Base.path" (defArgs sBasePath) (defBody sBasePath) (defScope sBasePath) .none kV6 dc6 pm6 an6 cd6 ct6), sl6⟩)
    (c6 : PySem.W.codeIn K cd6 "Base.path" = true)
    (k6 : PySem.W.keepIn K (.ref f6) = true)
    (a7 : PySem.W.findIn K (.ref CBase) "rings" = some (some (.ref f7)))
    (i7 : PySem.W.isFn K (.ref f7) = true)
    (l7 : K.lookup f7 = some ⟨oc7, od7, .func (PySem.W.fnOf "rings" "Base.rings" (defArgs sBaseRings) (defBody sBaseRings) (defScope sBaseRings) .none kV7 dc7 pm7 an7 cd7 ct7), sl7⟩)
    (c7 : PySem.W.codeIn K cd7 "Base.rings" = true)
    (k7 : PySem.W.keepIn K (.ref f7) = true)
    (a8 : PySem.W.nsIn K mainGlobals "is_span" = some (some (.ref f8)))
    (l8 : K.lookup f8 = some ⟨oc8, od8, .func (PySem.W.fnOf "is_span" "is_span" (defArgs sisspan) (defBody sisspan) (defScope sisspan) .none kV8 dc8 pm8 an8 cd8 ct8), sl8⟩)
    (c8 : PySem.W.codeIn K cd8 "is_span" = true)
    (k8 : PySem.W.keepIn K (.ref f8) = true)
    (a9 : PySem.W.nsIn K mainGlobals "check_net" = some (some (.ref f9)))
    (l9 : K.lookup f9 = some ⟨oc9, od9, .func (PySem.W.fnOf "check_net" "check_net" (defArgs schecknet) (defBody schecknet) (defScope schecknet) .none kV9 dc9 pm9 an9 cd9 ct9), sl9⟩)
    (c9 : PySem.W.codeIn K cd9 "check_net" = true)
    (k9 : PySem.W.keepIn K (.ref f9) = true)
    (a10 : PySem.W.findIn K (.ref CNet) "__init__" = some (some (.ref f10)))
    (i10 : PySem.W.isFn K (.ref f10) = true)
    (l10 : K.lookup f10 = some ⟨oc10, od10, .func (PySem.W.fnOf "__init__" "Net.__init__" (defArgs sNetInit) (defBody sNetInit) (defScope sNetInit) .none kV10 dc10 pm10 an10 cd10 ct10), sl10⟩)
    (c10 : PySem.W.codeIn K cd10 "Net.__init__" = true)
    (k10 : PySem.W.keepIn K (.ref f10) = true)
    (a11 : PySem.W.findIn K (.ref CNet) "__eq__" = some (some (.ref f11)))
    (i11 : PySem.W.isFn K (.ref f11) = true)
    (l11 : K.lookup f11 = some ⟨oc11, od11, .func (PySem.W.fnOf "__eq__" "Net.__eq__" (defArgs sNetEq) (defBody sNetEq) (defScope sNetEq) .none kV11 dc11 pm11 an11 cd11 ct11), sl11⟩)
    (c11 : PySem.W.codeIn K cd11 "Net.__eq__" = true)
    (k11 : PySem.W.keepIn K (.ref f11) = true)
    (a12 : PySem.W.nsIn K mainGlobals "_law_cell" = some (some (.ref f12)))
    (l12 : K.lookup f12 = some ⟨oc12, od12, .func (PySem.W.fnOf "_law_cell" "_law_cell" (defArgs sLcell) (defBody sLcell) (defScope sLcell) .none kV12 dc12 pm12 an12 cd12 ct12), sl12⟩)
    (c12 : PySem.W.codeIn K cd12 "_law_cell" = true)
    (k12 : PySem.W.keepIn K (.ref f12) = true)
    (a13 : PySem.W.nsIn K mainGlobals "_law_pool" = some (some (.ref f13)))
    (l13 : K.lookup f13 = some ⟨oc13, od13, .func (PySem.W.fnOf "_law_pool" "_law_pool" (defArgs sLpool) (defBody sLpool) (defScope sLpool) .none kV13 dc13 pm13 an13 cd13 ct13), sl13⟩)
    (c13 : PySem.W.codeIn K cd13 "_law_pool" = true)
    (k13 : PySem.W.keepIn K (.ref f13) = true)
    (a14 : PySem.W.nsIn K mainGlobals "_law_take" = some (some (.ref f14)))
    (l14 : K.lookup f14 = some ⟨oc14, od14, .func (PySem.W.fnOf "_law_take" "_law_take" (defArgs sLtake) (defBody sLtake) (defScope sLtake) .none kV14 dc14 pm14 an14 cd14 ct14), sl14⟩)
    (c14 : PySem.W.codeIn K cd14 "_law_take" = true)
    (k14 : PySem.W.keepIn K (.ref f14) = true)
    (a15 : PySem.W.nsIn K mainGlobals "_law_same" = some (some (.ref f15)))
    (l15 : K.lookup f15 = some ⟨oc15, od15, .func (PySem.W.fnOf "_law_same" "_law_same" (defArgs sLsame) (defBody sLsame) (defScope sLsame) .none kV15 dc15 pm15 an15 cd15 ct15), sl15⟩)
    (c15 : PySem.W.codeIn K cd15 "_law_same" = true)
    (k15 : PySem.W.keepIn K (.ref f15) = true)
    (a16 : PySem.W.nsIn K mainGlobals "_law_length" = some (some (.ref f16)))
    (l16 : K.lookup f16 = some ⟨oc16, od16, .func (PySem.W.fnOf "_law_length" "_law_length" (defArgs sLlength) (defBody sLlength) (defScope sLlength) .none kV16 dc16 pm16 an16 cd16 ct16), sl16⟩)
    (c16 : PySem.W.codeIn K cd16 "_law_length" = true)
    (k16 : PySem.W.keepIn K (.ref f16) = true)
    (a17 : PySem.W.nsIn K mainGlobals "_law_many" = some (some (.ref f17)))
    (l17 : K.lookup f17 = some ⟨oc17, od17, .func (PySem.W.fnOf "_law_many" "_law_many" (defArgs sLmany) (defBody sLmany) (defScope sLmany) .none kV17 dc17 pm17 an17 cd17 ct17), sl17⟩)
    (c17 : PySem.W.codeIn K cd17 "_law_many" = true)
    (k17 : PySem.W.keepIn K (.ref f17) = true)
    (a18 : PySem.W.nsIn K mainGlobals "_law_count" = some (some (.ref f18)))
    (l18 : K.lookup f18 = some ⟨oc18, od18, .func (PySem.W.fnOf "_law_count" "_law_count" (defArgs sLcount) (defBody sLcount) (defScope sLcount) .none kV18 dc18 pm18 an18 cd18 ct18), sl18⟩)
    (c18 : PySem.W.codeIn K cd18 "_law_count" = true)
    (k18 : PySem.W.keepIn K (.ref f18) = true)
    (a19 : PySem.W.nsIn K mainGlobals "_law_any_spans" = some (some (.ref f19)))
    (l19 : K.lookup f19 = some ⟨oc19, od19, .func (PySem.W.fnOf "_law_any_spans" "_law_any_spans" (defArgs sLanyspans) (defBody sLanyspans) (defScope sLanyspans) .none kV19 dc19 pm19 an19 cd19 ct19), sl19⟩)
    (c19 : PySem.W.codeIn K cd19 "_law_any_spans" = true)
    (k19 : PySem.W.keepIn K (.ref f19) = true)
    (a20 : PySem.W.nsIn K mainGlobals "_law_tree_way" = some (some (.ref f20)))
    (l20 : K.lookup f20 = some ⟨oc20, od20, .func (PySem.W.fnOf "_law_tree_way" "_law_tree_way" (defArgs sLtreeway) (defBody sLtreeway) (defScope sLtreeway) .none kV20 dc20 pm20 an20 cd20 ct20), sl20⟩)
    (c20 : PySem.W.codeIn K cd20 "_law_tree_way" = true)
    (k20 : PySem.W.keepIn K (.ref f20) = true)
    (a21 : PySem.W.nsIn K mainGlobals "_law_tree" = some (some (.ref f21)))
    (l21 : K.lookup f21 = some ⟨oc21, od21, .func (PySem.W.fnOf "_law_tree" "_law_tree" (defArgs sLtree) (defBody sLtree) (defScope sLtree) .none kV21 dc21 pm21 an21 cd21 ct21), sl21⟩)
    (c21 : PySem.W.codeIn K cd21 "_law_tree" = true)
    (k21 : PySem.W.keepIn K (.ref f21) = true)
    (a22 : PySem.W.nsIn K mainGlobals "_law_base_rings" = some (some (.ref f22)))
    (l22 : K.lookup f22 = some ⟨oc22, od22, .func (PySem.W.fnOf "_law_base_rings" "_law_base_rings" (defArgs sLbaserings) (defBody sLbaserings) (defScope sLbaserings) .none kV22 dc22 pm22 an22 cd22 ct22), sl22⟩)
    (c22 : PySem.W.codeIn K cd22 "_law_base_rings" = true)
    (k22 : PySem.W.keepIn K (.ref f22) = true)
    (a23 : PySem.W.nsIn K mainGlobals "_law_way_told" = some (some (.ref f23)))
    (l23 : K.lookup f23 = some ⟨oc23, od23, .func (PySem.W.fnOf "_law_way_told" "_law_way_told" (defArgs sLwaytold) (defBody sLwaytold) (defScope sLwaytold) .none kV23 dc23 pm23 an23 cd23 ct23), sl23⟩)
    (c23 : PySem.W.codeIn K cd23 "_law_way_told" = true)
    (k23 : PySem.W.keepIn K (.ref f23) = true)
    (a24 : PySem.W.nsIn K mainGlobals "_law_way_due" = some (some (.ref f24)))
    (l24 : K.lookup f24 = some ⟨oc24, od24, .func (PySem.W.fnOf "_law_way_due" "_law_way_due" (defArgs sLwaydue) (defBody sLwaydue) (defScope sLwaydue) .none kV24 dc24 pm24 an24 cd24 ct24), sl24⟩)
    (c24 : PySem.W.codeIn K cd24 "_law_way_due" = true)
    (k24 : PySem.W.keepIn K (.ref f24) = true)
    (a25 : PySem.W.nsIn K mainGlobals "_law_ways_good" = some (some (.ref f25)))
    (l25 : K.lookup f25 = some ⟨oc25, od25, .func (PySem.W.fnOf "_law_ways_good" "_law_ways_good" (defArgs sLwaysgood) (defBody sLwaysgood) (defScope sLwaysgood) .none kV25 dc25 pm25 an25 cd25 ct25), sl25⟩)
    (c25 : PySem.W.codeIn K cd25 "_law_ways_good" = true)
    (k25 : PySem.W.keepIn K (.ref f25) = true)
    (a26 : PySem.W.nsIn K mainGlobals "_law_base_good" = some (some (.ref f26)))
    (l26 : K.lookup f26 = some ⟨oc26, od26, .func (PySem.W.fnOf "_law_base_good" "_law_base_good" (defArgs sLbasegood) (defBody sLbasegood) (defScope sLbasegood) .none kV26 dc26 pm26 an26 cd26 ct26), sl26⟩)
    (c26 : PySem.W.codeIn K cd26 "_law_base_good" = true)
    (k26 : PySem.W.keepIn K (.ref f26) = true)
    (a27 : PySem.W.nsIn K mainGlobals "law" = some (some (.ref f27)))
    (l27 : K.lookup f27 = some ⟨oc27, od27, .func (PySem.W.fnOf "law" "law" (defArgs sLaw) (defBody sLaw) (defScope sLaw) .none kV27 dc27 pm27 an27 cd27 ct27), sl27⟩)
    (c27 : PySem.W.codeIn K cd27 "law" = true)
    (k27 : PySem.W.keepIn K (.ref f27) = true)
    (h_ty_DepotError : PySem.W.typeIn K (.ref CDepotError) = some (.type "type"))
    (h_bs_DepotError : PySem.W.subIn K (.ref CDepotError) (.type "BaseException") = some true)
    (h_hd_DepotError : PySem.W.hasDictIn K CDepotError = true)
    (h_ty_BadNet : PySem.W.typeIn K (.ref CBadNet) = some (.type "type"))
    (h_bs_BadNet : PySem.W.subIn K (.ref CBadNet) (.type "BaseException") = some true)
    (h_hd_BadNet : PySem.W.hasDictIn K CBadNet = true)
    (h_ty_BadPath : PySem.W.typeIn K (.ref CBadPath) = some (.type "type"))
    (h_bs_BadPath : PySem.W.subIn K (.ref CBadPath) (.type "BaseException") = some true)
    (h_hd_BadPath : PySem.W.hasDictIn K CBadPath = true)
    (h_ty_UnknownSpan : PySem.W.typeIn K (.ref CUnknownSpan) = some (.type "type"))
    (h_bs_UnknownSpan : PySem.W.subIn K (.ref CUnknownSpan) (.type "BaseException") = some true)
    (h_hd_UnknownSpan : PySem.W.hasDictIn K CUnknownSpan = true)
    (h_ty_UnknownEvent : PySem.W.typeIn K (.ref CUnknownEvent) = some (.type "type"))
    (h_bs_UnknownEvent : PySem.W.subIn K (.ref CUnknownEvent) (.type "BaseException") = some true)
    (h_hd_UnknownEvent : PySem.W.hasDictIn K CUnknownEvent = true)
    (h_kp_BadNet : PySem.W.keepIn K (.ref CBadNet) = true)
    (h_ga_BadNet : PySem.W.findIn K (.ref CBadNet) "__getattribute__" = some (some (.builtin "BaseException.__getattribute__")))
    (h_gg_BadNet : PySem.W.findIn K (.ref CBadNet) "__getattr__" = some none)
    (h_cl_BadNet : PySem.W.findIn K (.ref CBadNet) "__class__" = some (some (.builtin "object.__class__")))
    (h_mr_BadNet : PySem.W.mroIn K CBadNet (.type "object") = some true)
    (h_sb_BadNet_ValueError : PySem.W.subIn K (.ref CBadNet) (.type "ValueError") = some true)
    (h_sb_BadNet_BadPath : PySem.W.subIn K (.ref CBadNet) (.ref CBadPath) = some false)
    (h_sb_BadNet_DepotError : PySem.W.subIn K (.ref CBadNet) (.ref CDepotError) = some true)
    (h_sb_BadNet_UnknownEvent : PySem.W.subIn K (.ref CBadNet) (.ref CUnknownEvent) = some false)
    (h_sb_BadNet_UnknownSpan : PySem.W.subIn K (.ref CBadNet) (.ref CUnknownSpan) = some false)
    (h_no_BadNet_part : PySem.W.findIn K (.ref CBadNet) "part" = some none)
    (h_no_BadNet_place : PySem.W.findIn K (.ref CBadNet) "place" = some none)
    (h_sa_BadNet : PySem.W.findIn K (.ref CBadNet) "__setattr__" = some (some (.builtin "object.__setattr__")))
    (h_kp_UnknownEvent : PySem.W.keepIn K (.ref CUnknownEvent) = true)
    (h_ga_UnknownEvent : PySem.W.findIn K (.ref CUnknownEvent) "__getattribute__" = some (some (.builtin "BaseException.__getattribute__")))
    (h_gg_UnknownEvent : PySem.W.findIn K (.ref CUnknownEvent) "__getattr__" = some none)
    (h_cl_UnknownEvent : PySem.W.findIn K (.ref CUnknownEvent) "__class__" = some (some (.builtin "object.__class__")))
    (h_mr_UnknownEvent : PySem.W.mroIn K CUnknownEvent (.type "object") = some true)
    (h_sb_UnknownEvent_ValueError : PySem.W.subIn K (.ref CUnknownEvent) (.type "ValueError") = some true)
    (h_sb_UnknownEvent_BadPath : PySem.W.subIn K (.ref CUnknownEvent) (.ref CBadPath) = some false)
    (h_sb_UnknownEvent_DepotError : PySem.W.subIn K (.ref CUnknownEvent) (.ref CDepotError) = some true)
    (h_sb_UnknownEvent_UnknownEvent : PySem.W.subIn K (.ref CUnknownEvent) (.ref CUnknownEvent) = some true)
    (h_sb_UnknownEvent_UnknownSpan : PySem.W.subIn K (.ref CUnknownEvent) (.ref CUnknownSpan) = some false)
    (h_no_UnknownEvent_number : PySem.W.findIn K (.ref CUnknownEvent) "number" = some none)
    (h_sa_UnknownEvent : PySem.W.findIn K (.ref CUnknownEvent) "__setattr__" = some (some (.builtin "object.__setattr__")))
    (h_sp_class : PySem.W.specialIn K (.builtin "object.__class__") "__get__" = some (some (.builtin "getset_descriptor.__get__")))
    (h_tk_class : PySem.W.takesIn K (.builtin "object.__class__") = some true)
    (h_ic_Net : PySem.W.findIn K (.ref CNet) "__class__" = some (some (.builtin "object.__class__")))
    (h_mr_Net : PySem.W.mroIn K CNet (.type "object") = some true)
    (h_ity_Net : PySem.W.typeIn K (.ref CNet) = some (.type "type"))
    (h_isb_Net : PySem.W.subIn K (.ref CNet) (.ref CNet) = some true)
    (h_ihd_Net : PySem.W.hasDictIn K CNet = true)
    (xl_BadNet : K.lookup CBadNet = some (excClassObj nm_BadNet q_BadNet CBadNet N_BadNet bs_BadNet [.ref CDepotError, .type "ValueError", .type "Exception", .type "BaseException", .type "object"] true sn_BadNet sub_BadNet ab_BadNet col_BadNet dd_BadNet m0_BadNet m1_BadNet m2_BadNet m3_BadNet m5_BadNet "ValueError.__new__"))
    (xl_UnknownEvent : K.lookup CUnknownEvent = some (excClassObj nm_UnknownEvent q_UnknownEvent CUnknownEvent N_UnknownEvent bs_UnknownEvent [.ref CDepotError, .type "ValueError", .type "Exception", .type "BaseException", .type "object"] true sn_UnknownEvent sub_UnknownEvent ab_UnknownEvent col_UnknownEvent dd_UnknownEvent m0_UnknownEvent m1_UnknownEvent m2_UnknownEvent m3_UnknownEvent m5_UnknownEvent "ValueError.__new__")) :
    ∃ fd : FuncData, (∀ (s : Shared) (v : Value), BindsTo s fd ⟨[v], []⟩ [("_law_script", v)]) ∧ ∀ base : Heap, K.In base → base.Ns mainGlobals mg → FnOk l.prog w K mg base CX0 10 fa fd ["_law_script"] (spLaw K) := by
  have e := hfa.symm.trans (PySem.W.mg_of X G a27)
  cases e
  have F0 := fun_mk (st := sBadNetInit) l0 c0 k0
  have b0 := F0.binds (ps := ["self", "part", "place"]) fun _ _ _ _ _ _ us hl => match us, hl with | [_, _, _], _ => rfl
  have F1 := fun_mk (st := sUnknownEventInit) l1 c1 k1
  have b1 := F1.binds (ps := ["self", "number"]) fun _ _ _ _ _ _ us hl => match us, hl with | [_, _], _ => rfl
  have F2 := fun_mk (st := sstepends) l2 c2 k2
  have b2 := F2.binds (ps := ["net", "step"]) fun _ _ _ _ _ _ us hl => match us, hl with | [_, _], _ => rfl
  have F3 := fun_mk (st := streepath) l3 c3 k3
  have b3 := F3.binds (ps := ["net", "tree", "first", "second"]) fun _ _ _ _ _ _ us hl => match us, hl with | [_, _, _, _], _ => rfl
  have F4 := fun_mk (st := sBaseInit) l4 c4 k4
  have b4 := F4.binds (ps := ["self", "net"]) fun _ _ _ _ _ _ us hl => match us, hl with | [_, _], _ => rfl
  have F5 := fun_mk (st := sBaseLen) l5 c5 k5
  have b5 := F5.binds (ps := ["self"]) fun _ _ _ _ _ _ us hl => match us, hl with | [_], _ => rfl
  have F6 := fun_mk (st := sBasePath) l6 c6 k6
  have b6 := F6.binds (ps := ["self", "first", "second"]) fun _ _ _ _ _ _ us hl => match us, hl with | [_, _, _], _ => rfl
  have F7 := fun_mk (st := sBaseRings) l7 c7 k7
  have b7 := F7.binds (ps := ["self"]) fun _ _ _ _ _ _ us hl => match us, hl with | [_], _ => rfl
  have F8 := fun_mk (st := sisspan) l8 c8 k8
  have b8 := F8.binds (ps := ["span", "round_length", "events"]) fun _ _ _ _ _ _ us hl => match us, hl with | [_, _, _], _ => rfl
  have F9 := fun_mk (st := schecknet) l9 c9 k9
  have b9 := F9.binds (ps := ["round_length", "events", "spans"]) fun _ _ _ _ _ _ us hl => match us, hl with | [_, _, _], _ => rfl
  have F10 := fun_mk (st := sNetInit) l10 c10 k10
  have b10 := F10.binds (ps := ["self", "round_length", "events", "spans"]) fun _ _ _ _ _ _ us hl => match us, hl with | [_, _, _, _], _ => rfl
  have F11 := fun_mk (st := sNetEq) l11 c11 k11
  have b11 := F11.binds (ps := ["self", "other"]) fun _ _ _ _ _ _ us hl => match us, hl with | [_, _], _ => rfl
  have F12 := fun_mk (st := sLcell) l12 c12 k12
  have b12 := F12.binds (ps := ["_law_script", "_law_k"]) fun _ _ _ _ _ _ us hl => match us, hl with | [_, _], _ => rfl
  have F13 := fun_mk (st := sLpool) l13 c13 k13
  have b13 := F13.binds (ps := ["_law_script", "_law_k"]) fun _ _ _ _ _ _ us hl => match us, hl with | [_, _], _ => rfl
  have F14 := fun_mk (st := sLtake) l14 c14 k14
  have b14 := F14.binds (ps := ["_law_pool_here", "_law_many_here"]) fun _ _ _ _ _ _ us hl => match us, hl with | [_, _], _ => rfl
  have F15 := fun_mk (st := sLsame) l15 c15 k15
  have b15 := F15.binds (ps := ["_law_got", "_law_due"]) fun _ _ _ _ _ _ us hl => match us, hl with | [_, _], _ => rfl
  have F16 := fun_mk (st := sLlength) l16 c16 k16
  have b16 := F16.binds (ps := ["_law_pool_here"]) fun _ _ _ _ _ _ us hl => match us, hl with | [_], _ => rfl
  have F17 := fun_mk (st := sLmany) l17 c17 k17
  have b17 := F17.binds (ps := ["_law_pool_here"]) fun _ _ _ _ _ _ us hl => match us, hl with | [_], _ => rfl
  have F18 := fun_mk (st := sLcount) l18 c18 k18
  have b18 := F18.binds (ps := ["_law_pool_here", "_law_many_here"]) fun _ _ _ _ _ _ us hl => match us, hl with | [_, _], _ => rfl
  have F19 := fun_mk (st := sLanyspans) l19 c19 k19
  have b19 := F19.binds (ps := ["_law_pool_here", "_law_length_here", "_law_many_here", "_law_count_here"]) fun _ _ _ _ _ _ us hl => match us, hl with | [_, _, _, _], _ => rfl
  have F20 := fun_mk (st := sLtreeway) l20 c20 k20
  have b20 := F20.binds (ps := ["_law_many_here", "_law_spans", "_law_tree_here", "_law_first", "_law_second"]) fun _ _ _ _ _ _ us hl => match us, hl with | [_, _, _, _, _], _ => rfl
  have F21 := fun_mk (st := sLtree) l21 c21 k21
  have b21 := F21.binds (ps := ["_law_many_here", "_law_spans"]) fun _ _ _ _ _ _ us hl => match us, hl with | [_, _], _ => rfl
  have F22 := fun_mk (st := sLbaserings) l22 c22 k22
  have b22 := F22.binds (ps := ["_law_many_here", "_law_spans"]) fun _ _ _ _ _ _ us hl => match us, hl with | [_, _], _ => rfl
  have F23 := fun_mk (st := sLwaytold) l23 c23 k23
  have b23 := F23.binds (ps := ["_law_base", "_law_first", "_law_second"]) fun _ _ _ _ _ _ us hl => match us, hl with | [_, _, _], _ => rfl
  have F24 := fun_mk (st := sLwaydue) l24 c24 k24
  have b24 := F24.binds (ps := ["_law_many_here", "_law_spans", "_law_tree_here", "_law_first", "_law_second"]) fun _ _ _ _ _ _ us hl => match us, hl with | [_, _, _, _, _], _ => rfl
  have F25 := fun_mk (st := sLwaysgood) l25 c25 k25
  have b25 := F25.binds (ps := ["_law_base", "_law_many_here", "_law_spans", "_law_tree_here", "_law_pairs"]) fun _ _ _ _ _ _ us hl => match us, hl with | [_, _, _, _, _], _ => rfl
  have F26 := fun_mk (st := sLbasegood) l26 c26 k26
  have b26 := F26.binds (ps := ["_law_base", "_law_many_here", "_law_spans", "_law_tree_here", "_law_rings"]) fun _ _ _ _ _ _ us hl => match us, hl with | [_, _, _, _, _], _ => rfl
  have F27 := fun_mk (st := sLaw) l27 c27 k27
  have b27 := F27.binds (ps := ["_law_script"]) fun _ _ _ _ _ _ us hl => match us, hl with | [_], _ => rfl
  let T : Tx K mg := { t_LEAST_ROUND := _, c_LEAST_ROUND := PySem.W.mg_of X G k_LEAST_ROUND, t_MOST_ROUND := _, c_MOST_ROUND := PySem.W.mg_of X G k_MOST_ROUND, t_MOST_EVENTS := _, c_MOST_EVENTS := PySem.W.mg_of X G k_MOST_EVENTS, t_MOST_SPANS := _, c_MOST_SPANS := PySem.W.mg_of X G k_MOST_SPANS, t_MOST_ON_SPAN := _, c_MOST_ON_SPAN := PySem.W.mg_of X G k_MOST_ON_SPAN, z_ValueError := PySem.W.mg_none_of X G z_ValueError, z_abs := PySem.W.mg_none_of X G z_abs, z_bool := PySem.W.mg_none_of X G z_bool, z_enumerate := PySem.W.mg_none_of X G z_enumerate, z_int := PySem.W.mg_none_of X G z_int, z_isinstance := PySem.W.mg_none_of X G z_isinstance, z_len := PySem.W.mg_none_of X G z_len, z_list := PySem.W.mg_none_of X G z_list, z_max := PySem.W.mg_none_of X G z_max, z_min := PySem.W.mg_none_of X G z_min, z_range := PySem.W.mg_none_of X G z_range, z_str := PySem.W.mg_none_of X G z_str, z_tuple := PySem.W.mg_none_of X G z_tuple, C_Base := CBase, g_Base := PySem.W.mg_of X G a_Base, cl_Base := ⟨pg_Base, hd_Base, po_Base, sa_Base⟩, na_Base__net := na_Base__net, na_Base_tree := na_Base_tree, na_Base_closing := na_Base_closing, C_Net := CNet, g_Net := PySem.W.mg_of X G a_Net, cl_Net := ⟨pg_Net, hd_Net, po_Net, sa_Net⟩, na_Net_round_length := na_Net_round_length, na_Net_events := na_Net_events, na_Net_spans := na_Net_spans, fBadNet_init := f0, dBadNet_init := _, FBadNet_init := F0, bBadNet_init := b0, fUnknownEvent_init := f1, dUnknownEvent_init := _, FUnknownEvent_init := F1, bUnknownEvent_init := b1, fstep_ends := f2, dstep_ends := _, Fstep_ends := F2, bstep_ends := b2, gstep_ends := PySem.W.mg_of X G a2, ftree_path := f3, dtree_path := _, Ftree_path := F3, btree_path := b3, gtree_path := PySem.W.mg_of X G a3, fBase_init := f4, dBase_init := _, FBase_init := F4, bBase_init := b4, M_Base := ⟨mk_Base, a4, i4, kc_Base⟩, fBase_len := f5, dBase_len := _, FBase_len := F5, bBase_len := b5, m_Base_len := ⟨a5, i5, k5⟩, fBase_path := f6, dBase_path := _, FBase_path := F6, bBase_path := b6, m_Base_path := ⟨a6, i6, k6⟩, fBase_rings := f7, dBase_rings := _, FBase_rings := F7, bBase_rings := b7, m_Base_rings := ⟨a7, i7, k7⟩, fis_span := f8, dis_span := _, Fis_span := F8, bis_span := b8, gis_span := PySem.W.mg_of X G a8, fcheck_net := f9, dcheck_net := _, Fcheck_net := F9, bcheck_net := b9, gcheck_net := PySem.W.mg_of X G a9, fNet_init := f10, dNet_init := _, FNet_init := F10, bNet_init := b10, M_Net := ⟨mk_Net, a10, i10, kc_Net⟩, fNet_eq := f11, dNet_eq := _, FNet_eq := F11, bNet_eq := b11, m_Net_eq := ⟨a11, i11, k11⟩, f_law_cell := f12, d_law_cell := _, F_law_cell := F12, b_law_cell := b12, g_law_cell := PySem.W.mg_of X G a12, f_law_pool := f13, d_law_pool := _, F_law_pool := F13, b_law_pool := b13, g_law_pool := PySem.W.mg_of X G a13, f_law_take := f14, d_law_take := _, F_law_take := F14, b_law_take := b14, g_law_take := PySem.W.mg_of X G a14, f_law_same := f15, d_law_same := _, F_law_same := F15, b_law_same := b15, g_law_same := PySem.W.mg_of X G a15, f_law_length := f16, d_law_length := _, F_law_length := F16, b_law_length := b16, g_law_length := PySem.W.mg_of X G a16, f_law_many := f17, d_law_many := _, F_law_many := F17, b_law_many := b17, g_law_many := PySem.W.mg_of X G a17, f_law_count := f18, d_law_count := _, F_law_count := F18, b_law_count := b18, g_law_count := PySem.W.mg_of X G a18, f_law_any_spans := f19, d_law_any_spans := _, F_law_any_spans := F19, b_law_any_spans := b19, g_law_any_spans := PySem.W.mg_of X G a19, f_law_tree_way := f20, d_law_tree_way := _, F_law_tree_way := F20, b_law_tree_way := b20, g_law_tree_way := PySem.W.mg_of X G a20, f_law_tree := f21, d_law_tree := _, F_law_tree := F21, b_law_tree := b21, g_law_tree := PySem.W.mg_of X G a21, f_law_base_rings := f22, d_law_base_rings := _, F_law_base_rings := F22, b_law_base_rings := b22, g_law_base_rings := PySem.W.mg_of X G a22, f_law_way_told := f23, d_law_way_told := _, F_law_way_told := F23, b_law_way_told := b23, g_law_way_told := PySem.W.mg_of X G a23, f_law_way_due := f24, d_law_way_due := _, F_law_way_due := F24, b_law_way_due := b24, g_law_way_due := PySem.W.mg_of X G a24, f_law_ways_good := f25, d_law_ways_good := _, F_law_ways_good := F25, b_law_ways_good := b25, g_law_ways_good := PySem.W.mg_of X G a25, f_law_base_good := f26, d_law_base_good := _, F_law_base_good := F26, b_law_base_good := b26, g_law_base_good := PySem.W.mg_of X G a26, flaw := fa, dlaw := _, Flaw := F27, blaw := b27, glaw := PySem.W.mg_of X G a27, C_DepotError := CDepotError, g_DepotError := PySem.W.mg_of X G a_DepotError, C_BadNet := CBadNet, g_BadNet := PySem.W.mg_of X G a_BadNet, C_BadPath := CBadPath, g_BadPath := PySem.W.mg_of X G a_BadPath, C_UnknownSpan := CUnknownSpan, g_UnknownSpan := PySem.W.mg_of X G a_UnknownSpan, C_UnknownEvent := CUnknownEvent, g_UnknownEvent := PySem.W.mg_of X G a_UnknownEvent, ty_DepotError := h_ty_DepotError, bs_DepotError := h_bs_DepotError, hd_DepotError := h_hd_DepotError, ty_BadNet := h_ty_BadNet, bs_BadNet := h_bs_BadNet, hd_BadNet := h_hd_BadNet, ty_BadPath := h_ty_BadPath, bs_BadPath := h_bs_BadPath, hd_BadPath := h_hd_BadPath, ty_UnknownSpan := h_ty_UnknownSpan, bs_UnknownSpan := h_bs_UnknownSpan, hd_UnknownSpan := h_hd_UnknownSpan, ty_UnknownEvent := h_ty_UnknownEvent, bs_UnknownEvent := h_bs_UnknownEvent, hd_UnknownEvent := h_hd_UnknownEvent, kp_BadNet := h_kp_BadNet, ga_BadNet := h_ga_BadNet, gg_BadNet := h_gg_BadNet, cl_BadNet := h_cl_BadNet, mr_BadNet := h_mr_BadNet, sb_BadNet_ValueError := h_sb_BadNet_ValueError, sb_BadNet_BadPath := h_sb_BadNet_BadPath, sb_BadNet_DepotError := h_sb_BadNet_DepotError, sb_BadNet_UnknownEvent := h_sb_BadNet_UnknownEvent, sb_BadNet_UnknownSpan := h_sb_BadNet_UnknownSpan, no_BadNet_part := h_no_BadNet_part, no_BadNet_place := h_no_BadNet_place, sa_BadNet := h_sa_BadNet, kp_UnknownEvent := h_kp_UnknownEvent, ga_UnknownEvent := h_ga_UnknownEvent, gg_UnknownEvent := h_gg_UnknownEvent, cl_UnknownEvent := h_cl_UnknownEvent, mr_UnknownEvent := h_mr_UnknownEvent, sb_UnknownEvent_ValueError := h_sb_UnknownEvent_ValueError, sb_UnknownEvent_BadPath := h_sb_UnknownEvent_BadPath, sb_UnknownEvent_DepotError := h_sb_UnknownEvent_DepotError, sb_UnknownEvent_UnknownEvent := h_sb_UnknownEvent_UnknownEvent, sb_UnknownEvent_UnknownSpan := h_sb_UnknownEvent_UnknownSpan, no_UnknownEvent_number := h_no_UnknownEvent_number, sa_UnknownEvent := h_sa_UnknownEvent, sp_class := h_sp_class, tk_class := h_tk_class, ic_Net := h_ic_Net, mr_Net := h_mr_Net, ity_Net := h_ity_Net, isb_Net := h_isb_Net, ihd_Net := h_ihd_Net, ox_BadNet := ⟨⟨nm_BadNet, q_BadNet, N_BadNet, bs_BadNet, _, sn_BadNet, sub_BadNet, ab_BadNet, col_BadNet, dd_BadNet, m0_BadNet, m1_BadNet, m2_BadNet, m3_BadNet, m5_BadNet, xl_BadNet, by rfl⟩, h_sa_BadNet, h_bs_BadNet, h_ty_BadNet, h_kp_BadNet⟩, ni_BadNet := a0, ti_BadNet := i0, ox_UnknownEvent := ⟨⟨nm_UnknownEvent, q_UnknownEvent, N_UnknownEvent, bs_UnknownEvent, _, sn_UnknownEvent, sub_UnknownEvent, ab_UnknownEvent, col_UnknownEvent, dd_UnknownEvent, m0_UnknownEvent, m1_UnknownEvent, m2_UnknownEvent, m3_UnknownEvent, m5_UnknownEvent, xl_UnknownEvent, by rfl⟩, h_sa_UnknownEvent, h_bs_UnknownEvent, h_ty_UnknownEvent, h_kp_UnknownEvent⟩, ni_UnknownEvent := a1, ti_UnknownEvent := i1 }
  exact ⟨_, fun s v => .of_eq rfl, fun base _ _ => ok_law T⟩
end DD
open PySem PySem.W PyProof.Rows
set_option maxRecDepth 100000 in
set_option maxHeartbeats 0 in
theorem PySem.Challenge.cw_depotday_k17_base_of_a_net_holds : PySem.Challenge.rw_depotday_k17_base_of_a_net.Holds := by
  w_on; o_law; k_head; (case hw => w_witness2)
  k_fill
  refine L2.walk_of (l := PySem.Challenge.rw_depotday_k17_base_of_a_net) (n := 63) (k := 10) (x := "_law_script") (CX := fun _ => L2.CX0) (sp := fun w => DD.spLaw _) rfl (by decide) rfl ⟨rfl, by decide, by decide⟩ (fun w h Y => PySem.W.kIn_of Y) ?F (fun _ _ a ns hl _ hS => ⟨a, ns, rfl, hS, hl, fun _ => rfl⟩) (fun _ _ _ _ _ h => h)
  case F =>
    intro w mg fa h KX G hmg
    refine' DD.all_mk KX G hmg ?k_LEAST_ROUND ?k_MOST_ROUND ?k_MOST_EVENTS ?k_MOST_SPANS ?k_MOST_ON_SPAN ?z_ValueError ?z_abs ?z_bool ?z_enumerate ?z_int ?z_isinstance ?z_len ?z_list ?z_max ?z_min ?z_range ?z_str ?z_tuple ?a_Base ?pg_Base ?hd_Base ?po_Base ?sa_Base ?mk_Base ?kc_Base ?na_Base__net ?na_Base_tree ?na_Base_closing ?a_Net ?pg_Net ?hd_Net ?po_Net ?sa_Net ?mk_Net ?kc_Net ?na_Net_round_length ?na_Net_events ?na_Net_spans ?a_DepotError ?a_BadNet ?a_BadPath ?a_UnknownSpan ?a_UnknownEvent ?a0 ?i0 ?l0 ?c0 ?k0 ?a1 ?i1 ?l1 ?c1 ?k1 ?a2 ?l2 ?c2 ?k2 ?a3 ?l3 ?c3 ?k3 ?a4 ?i4 ?l4 ?c4 ?k4 ?a5 ?i5 ?l5 ?c5 ?k5 ?a6 ?i6 ?l6 ?c6 ?k6 ?a7 ?i7 ?l7 ?c7 ?k7 ?a8 ?l8 ?c8 ?k8 ?a9 ?l9 ?c9 ?k9 ?a10 ?i10 ?l10 ?c10 ?k10 ?a11 ?i11 ?l11 ?c11 ?k11 ?a12 ?l12 ?c12 ?k12 ?a13 ?l13 ?c13 ?k13 ?a14 ?l14 ?c14 ?k14 ?a15 ?l15 ?c15 ?k15 ?a16 ?l16 ?c16 ?k16 ?a17 ?l17 ?c17 ?k17 ?a18 ?l18 ?c18 ?k18 ?a19 ?l19 ?c19 ?k19 ?a20 ?l20 ?c20 ?k20 ?a21 ?l21 ?c21 ?k21 ?a22 ?l22 ?c22 ?k22 ?a23 ?l23 ?c23 ?k23 ?a24 ?l24 ?c24 ?k24 ?a25 ?l25 ?c25 ?k25 ?a26 ?l26 ?c26 ?k26 ?a27 ?l27 ?c27 ?k27 ?h_ty_DepotError ?h_bs_DepotError ?h_hd_DepotError ?h_ty_BadNet ?h_bs_BadNet ?h_hd_BadNet ?h_ty_BadPath ?h_bs_BadPath ?h_hd_BadPath ?h_ty_UnknownSpan ?h_bs_UnknownSpan ?h_hd_UnknownSpan ?h_ty_UnknownEvent ?h_bs_UnknownEvent ?h_hd_UnknownEvent ?h_kp_BadNet ?h_ga_BadNet ?h_gg_BadNet ?h_cl_BadNet ?h_mr_BadNet ?h_sb_BadNet_ValueError ?h_sb_BadNet_BadPath ?h_sb_BadNet_DepotError ?h_sb_BadNet_UnknownEvent ?h_sb_BadNet_UnknownSpan ?h_no_BadNet_part ?h_no_BadNet_place ?h_sa_BadNet ?h_kp_UnknownEvent ?h_ga_UnknownEvent ?h_gg_UnknownEvent ?h_cl_UnknownEvent ?h_mr_UnknownEvent ?h_sb_UnknownEvent_ValueError ?h_sb_UnknownEvent_BadPath ?h_sb_UnknownEvent_DepotError ?h_sb_UnknownEvent_UnknownEvent ?h_sb_UnknownEvent_UnknownSpan ?h_no_UnknownEvent_number ?h_sa_UnknownEvent ?h_sp_class ?h_tk_class ?h_ic_Net ?h_mr_Net ?h_ity_Net ?h_isb_Net ?h_ihd_Net ?xl_BadNet ?xl_UnknownEvent
    (case k_LEAST_ROUND => k_is)
    (case k_MOST_ROUND => k_is)
    (case k_MOST_EVENTS => k_is)
    (case k_MOST_SPANS => k_is)
    (case k_MOST_ON_SPAN => k_is)
    (case z_ValueError => k_is)
    (case z_abs => k_is)
    (case z_bool => k_is)
    (case z_enumerate => k_is)
    (case z_int => k_is)
    (case z_isinstance => k_is)
    (case z_len => k_is)
    (case z_list => k_is)
    (case z_max => k_is)
    (case z_min => k_is)
    (case z_range => k_is)
    (case z_str => k_is)
    (case z_tuple => k_is)
    (case a_Base => k_is)
    (case pg_Base => k_is)
    (case hd_Base => k_is)
    (case po_Base => k_is)
    (case sa_Base => k_is)
    (case mk_Base => k_is)
    (case kc_Base => k_is)
    (case na_Base__net => k_is)
    (case na_Base_tree => k_is)
    (case na_Base_closing => k_is)
    (case a_Net => k_is)
    (case pg_Net => k_is)
    (case hd_Net => k_is)
    (case po_Net => k_is)
    (case sa_Net => k_is)
    (case mk_Net => k_is)
    (case kc_Net => k_is)
    (case na_Net_round_length => k_is)
    (case na_Net_events => k_is)
    (case na_Net_spans => k_is)
    (case a_DepotError => k_is)
    (case a_BadNet => k_is)
    (case a_BadPath => k_is)
    (case a_UnknownSpan => k_is)
    (case a_UnknownEvent => k_is)
    (case a0 => k_is)
    (case i0 => k_is)
    (case l0 => k_is)
    (case c0 => k_is)
    (case k0 => k_is)
    (case a1 => k_is)
    (case i1 => k_is)
    (case l1 => k_is)
    (case c1 => k_is)
    (case k1 => k_is)
    (case a2 => k_is)
    (case l2 => k_is)
    (case c2 => k_is)
    (case k2 => k_is)
    (case a3 => k_is)
    (case l3 => k_is)
    (case c3 => k_is)
    (case k3 => k_is)
    (case a4 => k_is)
    (case i4 => k_is)
    (case l4 => k_is)
    (case c4 => k_is)
    (case k4 => k_is)
    (case a5 => k_is)
    (case i5 => k_is)
    (case l5 => k_is)
    (case c5 => k_is)
    (case k5 => k_is)
    (case a6 => k_is)
    (case i6 => k_is)
    (case l6 => k_is)
    (case c6 => k_is)
    (case k6 => k_is)
    (case a7 => k_is)
    (case i7 => k_is)
    (case l7 => k_is)
    (case c7 => k_is)
    (case k7 => k_is)
    (case a8 => k_is)
    (case l8 => k_is)
    (case c8 => k_is)
    (case k8 => k_is)
    (case a9 => k_is)
    (case l9 => k_is)
    (case c9 => k_is)
    (case k9 => k_is)
    (case a10 => k_is)
    (case i10 => k_is)
    (case l10 => k_is)
    (case c10 => k_is)
    (case k10 => k_is)
    (case a11 => k_is)
    (case i11 => k_is)
    (case l11 => k_is)
    (case c11 => k_is)
    (case k11 => k_is)
    (case a12 => k_is)
    (case l12 => k_is)
    (case c12 => k_is)
    (case k12 => k_is)
    (case a13 => k_is)
    (case l13 => k_is)
    (case c13 => k_is)
    (case k13 => k_is)
    (case a14 => k_is)
    (case l14 => k_is)
    (case c14 => k_is)
    (case k14 => k_is)
    (case a15 => k_is)
    (case l15 => k_is)
    (case c15 => k_is)
    (case k15 => k_is)
    (case a16 => k_is)
    (case l16 => k_is)
    (case c16 => k_is)
    (case k16 => k_is)
    (case a17 => k_is)
    (case l17 => k_is)
    (case c17 => k_is)
    (case k17 => k_is)
    (case a18 => k_is)
    (case l18 => k_is)
    (case c18 => k_is)
    (case k18 => k_is)
    (case a19 => k_is)
    (case l19 => k_is)
    (case c19 => k_is)
    (case k19 => k_is)
    (case a20 => k_is)
    (case l20 => k_is)
    (case c20 => k_is)
    (case k20 => k_is)
    (case a21 => k_is)
    (case l21 => k_is)
    (case c21 => k_is)
    (case k21 => k_is)
    (case a22 => k_is)
    (case l22 => k_is)
    (case c22 => k_is)
    (case k22 => k_is)
    (case a23 => k_is)
    (case l23 => k_is)
    (case c23 => k_is)
    (case k23 => k_is)
    (case a24 => k_is)
    (case l24 => k_is)
    (case c24 => k_is)
    (case k24 => k_is)
    (case a25 => k_is)
    (case l25 => k_is)
    (case c25 => k_is)
    (case k25 => k_is)
    (case a26 => k_is)
    (case l26 => k_is)
    (case c26 => k_is)
    (case k26 => k_is)
    (case a27 => k_is)
    (case l27 => k_is)
    (case c27 => k_is)
    (case k27 => k_is)
    (case h_ty_DepotError => k_is)
    (case h_bs_DepotError => k_is)
    (case h_hd_DepotError => k_is)
    (case h_ty_BadNet => k_is)
    (case h_bs_BadNet => k_is)
    (case h_hd_BadNet => k_is)
    (case h_ty_BadPath => k_is)
    (case h_bs_BadPath => k_is)
    (case h_hd_BadPath => k_is)
    (case h_ty_UnknownSpan => k_is)
    (case h_bs_UnknownSpan => k_is)
    (case h_hd_UnknownSpan => k_is)
    (case h_ty_UnknownEvent => k_is)
    (case h_bs_UnknownEvent => k_is)
    (case h_hd_UnknownEvent => k_is)
    (case h_kp_BadNet => k_is)
    (case h_ga_BadNet => k_is)
    (case h_gg_BadNet => k_is)
    (case h_cl_BadNet => k_is)
    (case h_mr_BadNet => k_is)
    (case h_sb_BadNet_ValueError => k_is)
    (case h_sb_BadNet_BadPath => k_is)
    (case h_sb_BadNet_DepotError => k_is)
    (case h_sb_BadNet_UnknownEvent => k_is)
    (case h_sb_BadNet_UnknownSpan => k_is)
    (case h_no_BadNet_part => k_is)
    (case h_no_BadNet_place => k_is)
    (case h_sa_BadNet => k_is)
    (case h_kp_UnknownEvent => k_is)
    (case h_ga_UnknownEvent => k_is)
    (case h_gg_UnknownEvent => k_is)
    (case h_cl_UnknownEvent => k_is)
    (case h_mr_UnknownEvent => k_is)
    (case h_sb_UnknownEvent_ValueError => k_is)
    (case h_sb_UnknownEvent_BadPath => k_is)
    (case h_sb_UnknownEvent_DepotError => k_is)
    (case h_sb_UnknownEvent_UnknownEvent => k_is)
    (case h_sb_UnknownEvent_UnknownSpan => k_is)
    (case h_no_UnknownEvent_number => k_is)
    (case h_sa_UnknownEvent => k_is)
    (case h_sp_class => k_is)
    (case h_tk_class => k_is)
    (case h_ic_Net => k_is)
    (case h_mr_Net => k_is)
    (case h_ity_Net => k_is)
    (case h_isb_Net => k_is)
    (case h_ihd_Net => k_is)
    (case xl_BadNet => k_is)
    (case xl_UnknownEvent => k_is)
#print axioms PySem.Challenge.cw_depotday_k17_base_of_a_net_holds
