import PyProof.Rows.All
import Wide.All
import OpenK.AllK
import Wide.FinOn
import HandS.ForMost
import HandS.ForExc
import HandS.IsInst
import HandS.Conv
import HandS.NoneIn
import HandS.OwnEq
import HandS.OwnIter
import HandS.ExcIs
import HandS.More
import KE.KOpsOwn
import HandS.IterNext
import HandS.ExcOwn
import PyProof.WalksMore
import KE.KDictZip
import HandS.Rev
import HandS.ExcInit
import HandS.ExcField
import HandS.FStr
import HandS.Codes
import HandS.Wide
import KE.KExcIs
import KE.GoesMore
import PyProof.EnumMake
import HandS.TryMany
import HandS.Exc
import PySem.Challenge.RW_depotday_k14_minutes_that_pass
set_option Elab.async false
set_option linter.all false
set_option maxRecDepth 100000
set_option maxHeartbeats 8000000
namespace KO
open PySem PySem.Spec PyProof.Rows L2
/-! ### operators that the text's own classes define -/
section
variable {X : Cx} {CX : CXT} {k : Nat} {f C : Addr} {fd : FuncData} {ps : List Str} {sp : Sp} {E : L2.St → XK}
/-- a method runs, called with values, somewhere with room -/
theorem own_run {A : Around} {pins : List (Addr × Obj)} {σ : L2.St} {H : Hp} {s : Shared} {Q : VK} {us : List Value} {vs : List V} (F : FnOk X.prog X.w X.K X.mg X.base CX k f fd ps sp) (hr : Room k A) (fr : A.frames = X.A.frames) (hb : Binds X.K fd ps [])
    (hx : PassesAt CX X σ (E σ)) (I : Inv X pins σ H s) (r : Vals vs us) (h : sp vs H Q (E σ)) : wpAny (model X.prog X.w) A (call (.ref f) us) (EP X pins σ Q) X.xe s := by
  have hl : us.length = ps.length := r.length.symm.trans (F.len _ _ _ _ h)
  have b := hb s us I.kIn (by rw [List.append_nil]; exact hl)
  rw [List.append_nil] at b
  have e := I.env0
  have e2 : Env0 X.prog X.w X.K X.mg X.base A X.stack s H := ⟨by rw [fr]; exact e.frames, e.mod, e.bs, e.bsz, e.funs, e.frf, e.hok, e.bare⟩
  refine wpAny_call (codeAny_mono (F.run A X.stack s H ⟨us, []⟩ us vs Q (E σ) hr e2 b r h) fun r s' hq => ?_)
  cases r with
  | error e => exact hx pins H s e s' I hq
  | ok fl =>
    cases fl with
    | ret u => exact I.after hq
    | next => exact hq.elim
    | brk => exact hq.elim
    | cont => exact hq.elim
theorem inst_at {pins : List (Addr × Obj)} {σ : L2.St} {H : Hp} {s : Shared} {a dx : Addr} {fs : List (Str × V)} (I : Inv X pins σ H s) (ha : H a = some (.ins C dx fs)) : ∃ ox od, PySem.W.InstAt s.heap a ox C od := by
  obtain ⟨mA, J, _⟩ := ins_get I.hok ha
  obtain ⟨od, J, _⟩ := J.look
  exact ⟨_, _, J⟩
theorem vref {a : Addr} : RelV (.ref a) (Value.ref a) := rfl
/-- len(o) -/
def rLen (C : Addr) (sp : Sp) (E : XK) : List V → Hp → VK → Prop := fun xs H Q => ∃ a dx fs, xs = [.ref a] ∧ H a = some (.ins C dx fs) ∧ sp [.ref a] H (fun v H' => ∃ n : Int, v = .int n ∧ 0 ≤ n ∧ n < 2 ^ 63 ∧ Q (.int n) H') E
theorem len_own {E : XK} (m : Meth X.K C "__len__" f) (F : FnOk X.prog X.w X.K X.mg X.base CX k f fd ps sp) (hr : Room (k + 1) X.A) (hb : Binds X.K fd ps []) (hx : ∀ σ, PassesAt CX X σ E) : CallR X (.builtin "len") (rLen C sp E) := by
  intro pins s σ H xs us Q I r h
  obtain ⟨a, dx, fs, rfl, ha, q⟩ := h
  rw [Vals.ref1 r]
  obtain ⟨ox, od, J⟩ := inst_at I ha
  obtain ⟨m', hF⟩ := I.fr
  refine PySem.W.len_K hF I.ok.mod.kin J m.at_ m.fn (wpAny_mono (own_run (E := fun _ => E) (A := X.A.in1) F hr.in1 rfl hb (hx σ) I (.cons vref .nil) q) (fun u s' hu => ?_) fun _ _ x => x)
  obtain ⟨v, H', I', rv, n, rfl, n0, n1, q'⟩ := hu
  obtain ⟨t, rfl⟩ := rv
  exact ⟨⟨n0, n1⟩, .int n, H', I'.tok _, ⟨_, rfl⟩, q'⟩
/-- x in o -/
def rInO (C : Addr) (sp : Sp) (E : XK) : R2 := fun x y H Q => ∃ a dx fs, y = .ref a ∧ H a = some (.ins C dx fs) ∧ sp [.ref a, x] H (fun v H' => ∃ b, v = .bl b ∧ Q (.bl b) H') E
theorem in_own {E : XK} (m : Meth X.K C "__contains__" f) (F : FnOk X.prog X.w X.K X.mg X.base CX k f fd ps sp) (hr : Room k X.A) (hb : Binds X.K fd ps []) (hx : ∀ σ, PassesAt CX X σ E) : OpR X (compareOp .In) (rInO C sp E) := by
  intro pins s σ H x y v u Q I rx ry h
  obtain ⟨a, dx, fs, rfl, ha, q⟩ := h
  cases ry
  obtain ⟨ox, od, J⟩ := inst_at I ha
  obtain ⟨m', hF⟩ := I.fr
  refine PySem.W.in_K hF I.ok.mod.kin J m.at_ m.fn (wpAny_mono (own_run (E := fun _ => E) F hr rfl hb (hx σ) I (.cons vref (.cons rx .nil)) q) (fun u s' hu => ?_) fun _ _ x => x)
  obtain ⟨v, H', I', rv, b, rfl, q'⟩ := hu
  cases rv
  exact wpAny_truthy_bool ⟨.bl b, H', I', rfl, q'⟩
/-- o == p, both of the class -/
def rEqO (C : Addr) (sp : Sp) (E : XK) : R2 := fun x y H Q => ∃ a dx fs b dy gs, x = .ref a ∧ y = .ref b ∧ H a = some (.ins C dx fs) ∧ H b = some (.ins C dy gs) ∧ sp [.ref a, .ref b] H (fun v H' => ∃ c, v = .bl c ∧ Q (.bl c) H') E
theorem eq_own {E : XK} (m : Meth X.K C "__eq__" f) (F : FnOk X.prog X.w X.K X.mg X.base CX k f fd ps sp) (hr : Room k X.A) (hb : Binds X.K fd ps []) (hx : ∀ σ, PassesAt CX X σ E) : OpR X (compareOp .Eq) (rEqO C sp E) := by
  intro pins s σ H x y v u Q I rx ry h
  obtain ⟨a, dx, fs, b, dy, gs, rfl, rfl, ha, hb', q⟩ := h
  cases rx
  cases ry
  obtain ⟨ox, od, J⟩ := inst_at I ha
  obtain ⟨oy, od', J'⟩ := inst_at I hb'
  obtain ⟨m', hF⟩ := I.fr
  refine PySem.W.cmp_K (op := .Eq) (tb := .ref C) hr.units0 hF I.ok.mod.kin J J'.type (by simp [PySem.W.notFirst]) m.at_ m.fn (wpAny_mono (own_run (E := fun _ => E) F hr rfl hb (hx σ) I (.cons vref (.cons vref .nil)) q) (fun u s' hu => ?_) fun _ _ x => x)
  obtain ⟨v, H', I', rv, c, rfl, q'⟩ := hu
  cases rv
  exact ⟨.bl c, H', I', rfl, q'⟩
/-- o[i], in the place of an expression: the subscript is written plainly -/
def tSubO (C : Addr) (sp : Sp) (E : L2.St → XK) (ta tb : TE) : TE := fun σ H Q => ta σ H fun x H1 => tb σ H1 fun y H2 => ∃ a dx fs, x = .ref a ∧ H2 a = some (.ins C dx fs) ∧ sp [.ref a, y] H2 Q (E σ)
theorem pe_subOwn {a b : Expr} {ta tb : TE} {pos : Pos} (m : Meth X.K C "__getitem__" f) (hfn : PySem.W.fnIn X.K f = true) (F : FnOk X.prog X.w X.K X.mg X.base CX k f fd ps sp) (hr : Room (k + 1) X.A) (hb : Binds X.K fd ps []) (hx : ∀ σ, PassesAt CX X σ (E σ))
    (ha : PE X a ta) (hb' : PE X b tb) (hs : ∀ o i, subscripted b true o i = runValue (.builtin "lifetime.subscript" ⟨[o, i], []⟩) := by intro _ _; with_unfolding_all rfl) : PE X (.Subscript a b pos) (tSubO C sp E ta tb) := by
  refine ⟨fun pins s σ H Q I h => ?_⟩
  refine Subscript_ (binT ha hb' (R := fun x y H2 => ∃ a dx fs, x = .ref a ∧ H2 a = some (.ins C dx fs) ∧ sp [.ref a, y] H2 Q (E σ)) I h fun v u s2 x y H2 I2 rx ry q => ?_)
  obtain ⟨o, dx, fs, rfl, ho, q⟩ := q
  cases rx
  obtain ⟨ox, od, J⟩ := inst_at I2 ho
  obtain ⟨m', hF⟩ := I2.fr
  exact PySem.W.sub_K hF I2.ok.mod.kin J m.at_ hfn m.fn (own_run (A := X.A.in1) F hr.in1 rfl hb (hx σ) I2 (.cons vref (.cons ry .nil)) q) (hs _ _)
/-- o[i] = v -/
def rPutO (C : Addr) (sp : Sp) (E : XK) : V → V → V → Hp → (Hp → Prop) → Prop := fun o i v H Q => ∃ a dx fs, o = .ref a ∧ H a = some (.ins C dx fs) ∧ sp [.ref a, i, v] H (fun _ H' => Q H') E
theorem put_own {E : XK} (m : Meth X.K C "__setitem__" f) (hq : PySem.W.noSeq X.K C = true) (F : FnOk X.prog X.w X.K X.mg X.base CX k f fd ps sp) (hr : Room k X.A) (hb : Binds X.K fd ps []) (hx : ∀ σ, PassesAt CX X σ E) : PSet X (rPutO C sp E) := by
  intro pins s σ H o i v ov iv u Q I ro ri rv h
  obtain ⟨a, dx, fs, rfl, ha, q⟩ := h
  cases ro
  obtain ⟨ox, od, J⟩ := inst_at I ha
  obtain ⟨m', hF⟩ := I.fr
  refine PySem.W.ksp_setItem hF I.ok.mod.kin J hq m.at_ m.fn (wpAny_mono (own_run (E := fun _ => E) F hr rfl hb (hx σ) I (.cons vref (.cons ri (.cons rv .nil))) q) (fun w s' hw => ?_) fun _ _ x => x)
  obtain ⟨v', H', I', _, q'⟩ := hw
  exact ⟨H', I', q'⟩
/-- o[i] = v in a try: what is raised is wished for at the slots -/
def tPutO (C : Addr) (sp : Sp) (E : L2.St → XK) (to ti tv : TE) : TS := fun D σ H => tv σ H fun v H1 => to σ H1 fun o H2 => ti σ H2 fun i H3 => ∃ a dx fs, o = .ref a ∧ H3 a = some (.ins C dx fs) ∧ sp [.ref a, i, v] H3 (fun _ H' => D.nx σ H') (E σ)
/-- abs(o) -/
def rAbs (C : Addr) (sp : Sp) (E : XK) : List V → Hp → VK → Prop := fun xs H Q => ∃ a dx fs, xs = [.ref a] ∧ H a = some (.ins C dx fs) ∧ sp [.ref a] H Q E
theorem abs_own {E : XK} (m : Meth X.K C "__abs__" f) (F : FnOk X.prog X.w X.K X.mg X.base CX k f fd ps sp) (hr : Room (k + 1) X.A) (hb : Binds X.K fd ps []) (hx : ∀ σ, PassesAt CX X σ E) : CallR X (.builtin "abs") (rAbs C sp E) := by
  intro pins s σ H xs us Q I r h
  obtain ⟨a, dx, fs, rfl, ha, q⟩ := h
  rw [Vals.ref1 r]
  obtain ⟨ox, od, J⟩ := inst_at I ha
  refine Calls.call_function_entry kind_abs plain_abs entry_abs (args_abs _) ?_
  unfold Builtin.«abs»
  refine wpAny_bind (m := oneArg "abs" _) (wpAny_pure ?_)
  refine wpAny_bind (m := callSpecial? (.ref a) (Str.ofString "__abs__")) (PySem.W.special_fn I.kIn J m.at_ (beq_iff_eq.mp m.fn) (wpAny_mono (own_run (E := fun _ => E) (A := X.A.in1) F hr.in1 rfl hb (hx σ) I (.cons vref .nil) q) (fun u s' hu => ?_) fun _ _ x => x))
  exact wpAny_pure ⟨_, rfl, hu⟩
/-- bool(o) -/
def rBool (C : Addr) (sp : Sp) (E : XK) : List V → Hp → VK → Prop := fun xs H Q => ∃ a dx fs, xs = [.ref a] ∧ H a = some (.ins C dx fs) ∧ sp [.ref a] H (fun v H' => ∃ b, v = .bl b ∧ Q (.bl b) H') E
theorem bool_own {E : XK} (m : Meth X.K C "__bool__" f) (F : FnOk X.prog X.w X.K X.mg X.base CX k f fd ps sp) (hr : Room (k + 2) X.A) (hb : Binds X.K fd ps []) (hx : ∀ σ, PassesAt CX X σ E) : CallR X (.type "bool") (rBool C sp E) := by
  intro pins s σ H xs us Q I r h
  obtain ⟨a, dx, fs, rfl, ha, q⟩ := h
  rw [Vals.ref1 r]
  obtain ⟨ox, od, J⟩ := inst_at I ha
  obtain ⟨m', hF⟩ := I.fr
  refine callType_newIn (S := fun A' R s' => wpAny (model X.prog X.w) A'.in1 (truthy (.ref a)) (fun b s2 => R (.ok (.ret (.bool b))) s2) (fun e s2 => R (.error e) s2) s') PySem.F.called_bool PySem.F.newNe_bool (PySem.F.typeCall_bool_1 _) (PySem.F.newCall_bool_1 _) (fun obj => PySem.F.args_object_init_2 obj _) PySem.F.entry_bool_new (.of_wp fun A' R s' hs => ?_) ?_
  · obtain ⟨hp, g, d, tk, os⟩ := s'
    have f1 := PySem.F.conv_sub_bool
    unfold Builtin.«bool.__new__»
    repeat ((fail_if_success (with_reducible show wpAny _ _ (truthy _) _ _ _)); (fail_if_success (with_reducible show wpAny _ _ (truthy _ >>= _) _ _ _)); (first | assumption | wp_step))
    show wpAny _ _ (truthy (.ref a) >>= fun b => ret (.bool b)) _ _ _
    refine wpAny_bind (wpAny_mono hs (fun b s2 h2 => ?_) fun _ _ x => x)
    exact wpAny_pure ⟨_, rfl, h2⟩
  · refine PySem.W.truthy_K hF I.ok.mod.kin J m.at_ m.fn (wpAny_mono (own_run (E := fun _ => E) (A := X.A.in1.in1) F hr.in1.in1 rfl hb (hx σ) I (.cons vref .nil) q) (fun u s' hu => ?_) fun _ _ x => x)
    obtain ⟨v, H', I', rv, b, rfl, q'⟩ := hu
    cases rv
    exact ⟨PySem.typeIs_bool _ _, .bl b, H', I', rfl, q'⟩
/-- any of a list of ints -/
def rAnyI (K : PySem.W.Frag) : List V → Hp → VK → Prop := fun vs H Q => ∃ (a : Addr) (ns : List Int), vs = [V.ref a] ∧ SqL K H a (ns.map V.int) ∧ Q (.bl (ns.any fun n => n != 0)) H
theorem truth_ints {prog : Program} {w : World} {A : Around} {ns : List Int} {its : List Value} (e : IntsAre its ns) : TruthOf prog w A (fun i v => its.toArray[i]? = some v) (fun i => (ns.map fun n => n != 0).getD i false) := fun i v s Q E hv hq => by
  have hv' : its[i]? = some v := by simpa using hv
  have hi : i < ns.length := by
    have := (List.getElem?_eq_some_iff.mp hv').1
    have := IntsAre.length e
    omega
  obtain ⟨t, ht⟩ := e.get i _ (List.getElem?_eq_getElem hi)
  have ev : v = .int ns[i] t := Option.some.inj (hv'.symm.trans ht)
  subst ev
  have hg : (ns.map fun n => n != 0).getD i false = (ns[i] != 0) := by
    rw [List.getD_eq_getElem?_getD, List.getElem?_map, List.getElem?_eq_getElem hi]
    rfl
  have hq' : Q ((ns.map fun n => n != 0).getD i false) s := hq
  rw [hg] at hq'
  exact P.truthy_int hq'
theorem cr_anyI (hc : X.calm = true) : CallR X (.builtin "any") (rAnyI X.K) := by
  intro pins s σ H vs us Q I r h
  obtain ⟨a, ns, rfl, hs, q⟩ := h
  obtain ⟨its, rv, pl, _⟩ := I.list hs
  rw [Vals.ref1 r]
  have hi := ints_of_vals rv
  refine call_any_walk (iter_any pl.isList fun s2 e2 st ne => ?_)
  subst e2
  refine ⟨_, _, _, _, _, _, _, rfl, Walks.list (A := X.A.in1) (I.ok.hd hc) _ a ne its.toArray, st, truth_ints hi, fun h' tk hk => ?_⟩
  refine ⟨.bl _, H, I.kept fun b o eo => hk b o (fun z => ?_) (Heap.get?_push_of_some _ eo), ?_, q⟩
  · exact absurd (List.mem_singleton.mp z ▸ Heap.lt_size eo) (Nat.lt_irrefl _)
  · show Value.bool _ = Value.bool _
    have e1 := any_range (ns.map fun n => n != 0)
    rw [List.length_map, List.any_map] at e1
    rw [List.size_toArray, IntsAre.length hi]
    exact congrArg Value.bool e1
end
end KO
namespace KO
open PySem PySem.Spec PyProof.Rows L2
section
variable {prog : Program} {w : World} {A : Around} {E : Value → Shared → Prop} {s : Shared} {it l : Addr} {i : Nat} {items : Array Value}
theorem pyNext_item {x : Value} {Q : Option Value → Shared → Prop} (ho : s.heap.get? it = some (GNX.itObj l i)) (hl : s.heap.IsList l items) (hx : items[i]? = some x)
    (hQ : ∀ h', h'.get? it = some (GNX.itObj l (i + 1)) → Heap.SameBut it s.heap h' → Q (some x) { s with heap := h' }) : wpAny (model prog w) A (pyNext (.ref it)) Q E s := by
  have hT : s.TypeIs (.ref it) "list_iterator" := ⟨_, ho, rfl⟩
  unfold pyNext
  refine wpAny_bind (wpAny_attempt (wpAny_callSpecial?_slot (name := Str.ofString "__next__") hT slot_listiter_next
    (wpAny_call_entry slot_listiter_next hT entry_listiter_next ?_ (args_listiter_next _))))
  exact GNX.next_item ho hl hx fun h' e sb => wpAny_pure (hQ h' e sb)
theorem pyNext_end {Q : Option Value → Shared → Prop} (hh : A.handled = none) (ho : s.heap.get? it = some (GNX.itObj l i)) (hl : s.heap.IsList l items) (hx : items[i]? = none)
    (hQ : ∀ h1 h', h1.get? it = some (GNX.itEnd i) → Heap.SameBut it s.heap h1 → (∀ b o, h1.get? b = some o → h'.get? b = some o) → Q none { s with heap := h' }) : wpAny (model prog w) A (pyNext (.ref it)) Q E s := by
  have hT : s.TypeIs (.ref it) "list_iterator" := ⟨_, ho, rfl⟩
  unfold pyNext
  refine wpAny_bind (wpAny_attempt (wpAny_callSpecial?_slot (name := Str.ofString "__next__") hT slot_listiter_next
    (wpAny_call_entry slot_listiter_next hT entry_listiter_next ?_ (args_listiter_next _))))
  refine GNX.next_end hh ho hl hx fun h1 h' e vs e1 sb k ne he hv => ?_
  refine wpAny_bind (wpAny_isInstance (T := "StopIteration") (b := true) ⟨_, he, rfl⟩ isSubtype_stop ?_)
  exact wpAny_pure (hQ h1 h' e1 sb k)
end
section
variable {X : Cx} {k kl ki : Nat} {f fi fl C : Addr} {fd fdI fdL : FuncData} {ps psI psL : List Str} {sp spI spL : Sp}
/-- a method that raises nothing runs under any wish -/
theorem own_run0 {A : Around} {pins : List (Addr × Obj)} {σ : L2.St} {H : Hp} {s : Shared} {Q : VK} {us : List Value} {vs : List V} {E' : Value → Shared → Prop} (F : FnOk X.prog X.w X.K X.mg X.base CX0 k f fd ps sp) (hr : Room k A) (fr : A.frames = X.A.frames) (hb : Binds X.K fd ps [])
    (I : Inv X pins σ H s) (r : Vals vs us) (h : sp vs H Q E0) : wpAny (model X.prog X.w) A (call (.ref f) us) (EP X pins σ Q) E' s := by
  have hl : us.length = ps.length := r.length.symm.trans (F.len _ _ _ _ h)
  have b := hb s us I.kIn (by rw [List.append_nil]; exact hl)
  rw [List.append_nil] at b
  have e := I.env0
  have e2 : Env0 X.prog X.w X.K X.mg X.base A X.stack s H := ⟨by rw [fr]; exact e.frames, e.mod, e.bs, e.bsz, e.funs, e.frf, e.hok, e.bare⟩
  refine wpAny_call (codeAny_mono (F.run A X.stack s H ⟨us, []⟩ us vs Q E0 hr e2 b r h) fun r s' hq => ?_)
  cases r with
  | error e => exact hq.elim
  | ok fl =>
    cases fl with
    | ret u => exact I.after hq
    | next => exact hq.elim
    | brk => exact hq.elim
    | cont => exact hq.elim
theorem upd3 {H : Hp} {a b : Addr} {x y z : HO} (ne : a ≠ b) : upd (upd (upd H a x) b y) a z = upd (upd H a z) b y := by
  funext c
  by_cases h1 : c = a
  · rw [h1, upd_same, upd_ne ne, upd_same]
  · rw [upd_ne h1]
    by_cases h2 : c = b
    · rw [h2, upd_same, upd_same]
    · rw [upd_ne h2, upd_ne h2, upd_ne h1, upd_ne h1]
/-- the loop of extend over a list's iterator at it, whose list at l is neither the iterator nor the one that is filled -/
theorem it_loop {A1 : Around} {pins : List (Addr × Obj)} {σ : L2.St} {R : Result → Shared → Prop} {H0 : Hp} {l it S : Addr} {zs : List V} (hh : A1.in1.handled = none) (lit : l ≠ it) (itS : it ≠ S) (lS : l ≠ S)
    (hl : H0 l = some (.lst zs)) (hn : zs.length ≤ 1000)
    (hR : ∀ s, Inv X pins σ (upd (upd H0 it (ItE it zs.length)) S (.lst zs)) s → R (.ok (.ret .none)) s) :
    ∀ k i s, zs.length - i = k → i ≤ zs.length → Inv X pins σ (upd (upd H0 it (ItO l it i)) S (.lst (zs.take i))) s → codeAny (model X.prog X.w) A1 (.builtin "list.extend.loop" ⟨[.ref S, .ref it, .none], []⟩) R s := by
  intro k
  induction k with
  | zero =>
    intro i s hk hi I
    have e : i = zs.length := by omega
    subst e
    have hit : (upd (upd H0 it (ItO l it zs.length)) S (.lst (zs.take zs.length))) it = some (ItO l it zs.length) := by rw [upd_ne itS, upd_same]
    have hl1 : (upd (upd H0 it (ItO l it zs.length)) S (.lst (zs.take zs.length))) l = some (.lst zs) := by rw [upd_ne lS, upd_ne lit]; exact hl
    obtain ⟨z, its, c, rv, hlen, el⟩ := I.lstM hl1
    refine codeAny_builtin PySem.F.entry_extend_loop ?_
    rw [Around.under_plainId PySem.F.plain_extend_loop _]
    show wpAny _ A1.in1 (pyNext (.ref it) >>= _) _ _ s
    refine wpAny_bind (pyNext_end (l := l) (i := zs.length) (items := its.toArray) hh (itO_get I hit) ⟨_, el, rfl, _, rfl⟩ (by rw [List.getElem?_toArray]; exact rv.none_of (by simp)) fun h1 h' e1 sb kk => ?_)
    refine wpAny_pure (hR _ ?_)
    have mu : Mut ((upd (upd H0 it (ItO l it zs.length)) S (.lst (zs.take zs.length))) it) := by rw [hit]; exact True.intro
    have I2 := I.write (x := it) (e := it) (h' := h') (t' := s.toks) (o := ItE it zs.length) mu (.inl rfl) (fun b o nb z => kk _ _ ((sb.2 b nb).trans z)) ⟨_, kk _ _ e1⟩ (itE_ok (kk _ _ e1))
    have eH : upd (upd (upd H0 it (ItO l it zs.length)) S (.lst (zs.take zs.length))) it (ItE it zs.length) = upd (upd H0 it (ItE it zs.length)) S (.lst zs) := by
      rw [upd3 itS, List.take_length]
    rw [eH] at I2
    exact I2
  | succ k ih =>
    intro i s hk hi I
    have hlt : i < zs.length := by omega
    have hit : (upd (upd H0 it (ItO l it i)) S (.lst (zs.take i))) it = some (ItO l it i) := by rw [upd_ne itS, upd_same]
    have hl1 : (upd (upd H0 it (ItO l it i)) S (.lst (zs.take i))) l = some (.lst zs) := by rw [upd_ne lS, upd_ne lit]; exact hl
    obtain ⟨z, its, c, rv, hlen, el⟩ := I.lstM hl1
    obtain ⟨u, hu, ru⟩ := rv.get (List.getElem?_eq_getElem hlt)
    refine codeAny_builtin PySem.F.entry_extend_loop ?_
    rw [Around.under_plainId PySem.F.plain_extend_loop _]
    show wpAny _ A1.in1 (pyNext (.ref it) >>= _) _ _ s
    refine wpAny_bind (pyNext_item (l := l) (i := i) (items := its.toArray) (itO_get I hit) ⟨_, el, rfl, _, rfl⟩ (by rw [List.getElem?_toArray]; exact hu) fun h' e1 sb => ?_)
    have mu : Mut ((upd (upd H0 it (ItO l it i)) S (.lst (zs.take i))) it) := by rw [hit]; exact True.intro
    have I2 := I.write (x := it) (e := it) (h' := h') (t' := s.toks) (o := ItO l it (i + 1)) mu (.inl rfl) (fun b o nb z => (sb.2 b nb).trans z) ⟨_, e1⟩ (itO_ok e1)
    have eH : upd (upd (upd H0 it (ItO l it i)) S (.lst (zs.take i))) it (ItO l it (i + 1)) = upd (upd H0 it (ItO l it (i + 1))) S (.lst (zs.take i)) := by
      rw [upd3 itS]
    rw [eH] at I2
    have hS : (upd (upd H0 it (ItO l it (i + 1))) S (.lst (zs.take i))) S = some (.lst (zs.take i)) := upd_same
    obtain ⟨z2, its2, c2, rv2, hlen2, e2⟩ := I2.lstM hS
    show wpAny _ A1.in1 (updateSeq S (·.push u) >>= _) _ _ _
    have hl2 := rv2.length
    rw [List.length_take] at hl2
    refine wpAny_bind (wpAny_updateSeq e2 rfl (wpAny_pure ⟨plainId_quiet PySem.F.plain_extend_loop _, ?_⟩) (by rw [List.size_toArray, sizeLine_eq]; omega) (by show (its2.toArray.push u).size ≤ sizeLine + 1; rw [Array.size_push, List.size_toArray, sizeLine_eq]; omega))
    have I3 := I2.lset (f := (·.push u)) (its' := its2 ++ [u]) (ys := zs.take i ++ [zs[i]]) (t' := s.toks) hS e2 (by simp) (rv2.append (.cons ru .nil)) (by rw [List.length_append, List.length_singleton, sizeLine_eq]; omega)
    rw [upd_upd] at I3
    refine ih (i + 1) _ (by omega) hlt ?_
    rw [List.take_add_one, List.getElem?_eq_getElem hlt]
    exact I3
/-- list(o): o has its own __iter__, which hands back a list's iterator, and its own __len__; neither raises -/
def rListO (K : PySem.W.Frag) (C : Addr) (spI spL : Sp) : List V → Hp → VK → Prop := fun xs H Q => ∃ a dx fs, xs = [.ref a] ∧ H a = some (.ins C dx fs) ∧ ∀ S, H S = none →
  spI [.ref a] (upd H S (.lst [])) (fun v H1 => ∃ (it l : Addr) (zs : List V), v = .ref it ∧ H1 it = some (ItO l it 0) ∧ H1 l = some (.lst zs) ∧ H1 S = some (.lst []) ∧ H1 a = some (.ins C dx fs) ∧ zs.length ≤ 1000 ∧ it ≠ S ∧ l ≠ it ∧ l ≠ S ∧
    spL [.ref a] H1 (fun v H2 => ∃ n : Int, v = .int n ∧ 0 ≤ n ∧ n ≤ 1000 ∧ H2 = H1 ∧ Q (.ref S) (upd (upd H1 it (ItE it zs.length)) S (.lst zs))) E0) E0
theorem listOwn (mi : Meth X.K C "__iter__" fi) (ml : Meth X.K C "__len__" fl) (FI : FnOk X.prog X.w X.K X.mg X.base CX0 k fi fdI psI spI) (bI : Binds X.K fdI psI []) (FL : FnOk X.prog X.w X.K X.mg X.base CX0 k fl fdL psL spL) (bL : Binds X.K fdL psL [])
    (hc : X.calm = true) (hr : Room (k + 3) X.A) : CallR X (.type "list") (rListO X.K C spI spL) := by
  intro pins s σ H xs us Q I r h
  obtain ⟨a, dx, fs, rfl, ha, hq⟩ := h
  rw [Vals.ref1 r]
  refine callType_codes (Q₁ := fun x s1 => x = .ref s.heap.objs.size ∧ s1 = { s with heap := s.heap.push { cls := .type "list", data := .seq #[] } }) PySem.F.called_list (PySem.F.typeCall_list_1 _) PySem.F.entry_list_init (code_list_new _ ⟨rfl, rfl⟩) fun x s1 h1 => ?_
  obtain ⟨rfl, rfl⟩ := h1
  have got : (s.heap.push { cls := .type "list", data := .seq #[] }).get? s.heap.objs.size = some { cls := .type "list", data := .seq #[] } := Heap.get?_push_size _ rfl
  refine ⟨⟨_, got, rfl⟩, PySem.F.args_list_init_2 _ _, ?_⟩
  have fr : H s.heap.objs.size = none := I.hok.fresh (Nat.le_refl _)
  have hsp := hq _ fr
  have I1 : Inv X pins σ (upd H s.heap.objs.size (.lst [])) { s with heap := s.heap.push { cls := .type "list", data := .seq #[] } } := I.lnew (its := []) (t' := s.toks) .nil (Nat.zero_le _)
  generalize s.heap.objs.size = S at got fr hsp I1 ⊢
  show wpAny _ _ (do let old ← Builtin.List.listItems (.ref S); Builtin.List.listUpdate (.ref S) (fun _ => #[]); letGo old.toList.reverse; Builtin.List.listExtendWith (.ref S) (.ref a) .none) _ _ _
  refine wpAny_bind ?_
  unfold Builtin.List.listItems
  refine wpAny_bind (wpAny_seqItems got rfl (wpAny_pure ?_))
  show wpAny _ _ (updateSeq S (fun _ => #[]) >>= fun _ => letGo (#[] : Array Value).toList.reverse >>= fun _ => Builtin.List.listExtendWith (.ref S) (.ref a) .none) _ _ _
  refine wpAny_bind (wpAny_updateSeq got rfl ?_)
  have I2 := I1.lset (f := fun _ => #[]) (its := []) (its' := []) (ys := []) (t' := s.toks) upd_same got rfl .nil (Nat.zero_le _)
  rw [upd_upd] at I2
  refine wpAny_bind (wpAny_letGo ?_)
  generalize ({ s with heap := (s.heap.push { cls := .type "list", data := .seq #[] }).update S (Obj.mapSeq fun _ => #[]) } : Shared) = s2 at I2 ⊢
  have ha2 : upd H S (.lst []) a = some (.ins C dx fs) := by rw [upd_ne (ne_of_none ha fr)]; exact ha
  have ne1 : S ≠ a := fun z => by rw [← z, fr] at ha; cases ha
  obtain ⟨ox, od, J⟩ := inst_at I2 ha2
  obtain ⟨m0, hF⟩ := I2.fr
  unfold Builtin.List.listExtendWith
  refine wpAny_bind (J.type.here ?_)
  have b1 : Builtin.List.listSameRef (.ref S) (.ref a) = false := by simp [Builtin.List.listSameRef, ne1]
  have b2 : (Value.ref C == Value.type "list") = false := rfl
  have b3 : (Value.ref C == Value.type "tuple") = false := rfl
  simp only [b1, b2, b3, Bool.or_false, Bool.false_eq_true, if_false]
  refine wpAny_bind (PySem.W.owit_iter hF I2.ok.mod.kin J mi.at_ mi.fn (wpAny_mono (own_run0 (A := X.A.in1.in1) FI (hr.mono (by omega) : Room (k + 2) X.A).in1.in1 rfl bI I2 (.cons vref .nil) hsp) (fun u s3 hu => ?_) fun _ _ x => x))
  obtain ⟨v, H3, I3, rv, it, l, zs, rfl, hit, hl, hS, ha3, hz, itS, lit, lS, hlen⟩ := hu
  cases rv
  have oit := itO_get I3 hit
  unfold PySem.W.OwitIt
  refine wpAny_specialOf (show s3.TypeIs (.ref it) "list_iterator" from ⟨_, oit, rfl⟩) slot_listiter_next.lookup ?_
  show wpAny _ _ _ _ _ s3
  obtain ⟨ox3, od3, J3⟩ := inst_at I3 ha3
  obtain ⟨m3, hF3⟩ := I3.fr
  refine wpAny_bind (wpAny_holding ?_)
  unfold Builtin.List.listLengthHint
  refine wpAny_bind (wpAny_bind (J3.type.here ((PySem.W.looks_findIn I3.kIn ml.at_).here ?_)))
  refine PySem.W.KFB.if_not rfl ?_
  refine PySem.W.KFB.if_so rfl ?_
  refine wpAny_bind (wpAny_rule ?_)
  refine wpAny_bind (wpAny_attempt (PySem.W.len_K hF3 I3.ok.mod.kin J3 ml.at_ ml.fn (wpAny_mono (own_run0 (A := X.A.in1.in1.in1) FL (hr.mono (by omega) : Room (k + 3) X.A).in1.in1.in1 rfl bL I3 (.cons vref .nil) hlen) (fun u s4 hu => ?_) fun _ _ x => x)))
  obtain ⟨v, H4, I4, rv, n, rfl, n0, n1, eH, q⟩ := hu
  subst eH
  obtain ⟨t4, rfl⟩ := rv
  refine ⟨⟨n0, by omega⟩, ?_⟩
  have I5 : Inv X pins σ H4 { s4 with toks := s4.toks + 1 } := I4.tok _
  generalize ({ s4 with toks := s4.toks + 1 } : Shared) = s5 at I5 ⊢
  refine wpAny_bind (wpAny_pure ?_)
  refine PySem.W.KFB.if_not (by unfold Builtin.List.listTooLong; rw [decide_eq_false]; rw [sizeLine_eq]; omega) ?_
  refine wpAny_pure ?_
  have eH : upd (upd H4 it (ItO l it 0)) S (.lst (zs.take 0)) = H4 := by
    funext b
    by_cases hb : b = S
    · rw [hb, upd_same, hS, List.take_zero]
    · rw [upd_ne hb]
      by_cases hb2 : b = it
      · rw [hb2, upd_same, hit]
      · rw [upd_ne hb2]
  have loop : ∀ s6 : Shared, Inv X pins σ H4 s6 → codeAny (model X.prog X.w) X.A.in1 (.builtin "list.extend.loop" ⟨[.ref S, .ref it, .none], []⟩) (wants (fun r s₂ => r = Value.none ∧ EP X pins σ Q (Value.ref S) s₂) X.xe) s6 := by
    intro s6 I6
    refine it_loop (pins := pins) (σ := σ) (H0 := H4) (by simp [I.ok.hd hc]) lit itS lS hl hz (fun s7 I7 => ⟨rfl, .ref S, _, I7, vref, q⟩) zs.length 0 s6 rfl (Nat.zero_le _) ?_
    rw [eH]
    exact I6
  cases hroom : (n != 0) with
  | false => exact wpAny_pure ⟨plainId_quiet PySem.F.plain_extend_loop _, loop s5 I5⟩
  | true =>
    refine wpAny_bind (wpAny_rule ?_)
    refine wpAny_bind ?_
    show wpAny _ _ (updateSeq S (·.push .none) >>= fun _ => updateSeq S (·.pop)) _ _ _
    obtain ⟨z, its, k3, r3, hl3, e3⟩ := I5.lstM hS
    cases r3
    refine wpAny_bind (wpAny_updateSeq e3 rfl ?_)
    have I6 := I5.lset (f := (·.push Value.none)) (its' := [Value.none]) (ys := [.non]) (t' := s5.toks) hS e3 (by simp) (.cons rfl .nil) (by rw [List.length_singleton, sizeLine_eq]; decide)
    obtain ⟨z4, its4, k4, r4, hl4, e4⟩ := I6.lstM upd_same
    obtain ⟨u4, rfl, ru4⟩ := r4.one
    refine wpAny_updateSeq e4 rfl ?_ (by show 1 ≤ sizeLine; rw [sizeLine_eq]; decide) (by show 0 ≤ sizeLine + 1; exact Nat.zero_le _)
    refine wpAny_pure ⟨plainId_quiet PySem.F.plain_extend_loop _, loop _ ?_⟩
    have I7 := I6.lset (f := (·.pop)) (its := [u4]) (its' := []) (ys := []) (t' := s5.toks) upd_same e4 (by rfl) .nil (Nat.zero_le _)
    rw [upd_upd] at I7
    have hH : upd H4 S (.lst []) = H4 := by
      funext b
      by_cases hb : b = S
      · rw [hb, upd_same, hS]
      · rw [upd_ne hb]
    rw [hH] at I7
    exact I7
end
end KO
namespace KO
open PySem PySem.Spec PyProof.Rows L2
section
variable {X : Cx} {CX : CXT} {k : Nat} {f C : Addr} {fd : FuncData} {ps : List Str} {sp : Sp} {E : L2.St → XK}
/-- X(): an own class over a built-in error, without own __init__, made with nothing -/
theorem pmk_own0 {bmB : List Value} {B newId initId : String} {x : Str} {p pos : Pos} (F : ExcBaseFacts B newId initId bmB) (q : PySem.W.excIn X.K C bmB newId = true) (gC : X.mg x = some (.ref C)) (kC : PySem.W.keepIn X.K (.ref C) = true) (r : Raises X (.ref C)) (hg : Gl X x)
    (hdb : (x == ("__debug__" : Str)) = false := by decide) : PMk X (.Call (.Name x p) [] [] pos) (fun _ H Q => Q (.ref C) none H) := by
  intro pins s σ H Q I h
  refine wpAny_Call_Name_kw (ld_glob I hg gC ?_ hdb)
  refine PySem.W.callWith_K0 I.kIn kC ?_
  obtain ⟨bm, N, nm, qn, bs, hdct, sn, sub, ab, col, dd, k0, k1, k2, k3, k5, mN, hC, hN, hni, T⟩ := exc_obj I.kIn q
  refine wpAny_call_exc_subT F T hC hN hni (fun h' e hm => ?_) (by show 0 ≤ sizeLine; exact Nat.zero_le _)
  exact mk_of I hm r h (I.hok.gone hm.new)
/-- one of two ways -/
theorem cr_or {b : Value} {r1 r2 : List V → Hp → VK → Prop} (h1 : CallR X b r1) (h2 : CallR X b r2) : CallR X b (fun xs H Q => r1 xs H Q ∨ r2 xs H Q) := by
  intro pins s σ H xs us Q I r h
  rcases h with h | h
  · exact h1 pins s σ H xs us Q I r h
  · exact h2 pins s σ H xs us Q I r h
section
variable {prog : Program} {w : World} {A : Around} {E : Value → Shared → Prop} {s : Shared} {l : Addr} {xs : Array (Int × Tok)}
theorem min_tupI {Q : Value → Shared → Prop} (hh : A.handled = none) (hl : s.heap.IsTuple l (intItems xs)) (hne : 0 < xs.size)
    (h : ∀ v h' tk, (intItems xs)[argBest (fun i j => decide (numAt xs i < numAt xs j)) (xs.size - 1)]? = some v → (∀ b o, s.heap.get? b = some o → h'.get? b = some o) → Q v { s with heap := h', toks := tk }) :
    wpAny (model prog w) A (call (.builtin "min") [.ref l]) Q E s := by
  have hlt : l < s.heap.objs.size := by obtain ⟨_, e, _⟩ := hl; exact Heap.lt_size e
  refine call_min_walk (wpAny_pyIter_tuple hl ?_)
  refine ⟨_, _, _, _, _, _, _, rfl, Walks.tuple (A := A.in1) hh _ l (Nat.ne_of_lt hlt) (intItems xs), ⟨⟨_, Heap.get?_push_size _ rfl, rfl, rfl⟩, hl.push _⟩, (fun b hb => ?_), by simpa [intItems] using hne, CmpOf.ints_lt (numAt xs) (fun _ _ => intItems_at), fun v h' tk hP hk => ?_⟩
  · show b < (s.heap.push _).objs.size
    rw [Heap.size_push]
    rcases List.mem_cons.mp hb with rfl | hb
    · exact Nat.lt_succ_self _
    · rcases List.mem_cons.mp hb with rfl | hb
      · exact Nat.lt_succ_of_lt hlt
      · cases hb
  · refine h v h' tk (by simpa [intItems] using hP) fun b o e => hk b o (fun hm => ?_) (Heap.get?_push_of_some _ e)
    rcases List.mem_cons.mp hm with e1 | hm
    · exact absurd (e1 ▸ Heap.lt_size e) (Nat.lt_irrefl _)
    · cases hm
theorem min_rawT {its : List Value} {ns : List Int} {Q : Value → Shared → Prop} (hh : A.handled = none) (hl : s.heap.IsTuple l its.toArray) (hi : IntsAre its ns) (hne : 0 < ns.length)
    (h : ∀ h' tk M t', (∀ b o, s.heap.get? b = some o → h'.get? b = some o) → M ∈ ns → (∀ a, a ∈ ns → M ≤ a) → Q (.int M t') { s with heap := h', toks := tk }) : wpAny (model prog w) A (call (.builtin "min") [.ref l]) Q E s := by
  obtain ⟨xs, e⟩ := hi.allInts.items
  have hn : numsOf (intItems xs).toList = ns := by rw [← e]; exact hi.numsOf
  rw [nums_intItems] at hn
  subst hn
  rw [e] at hl
  have hsz : 0 < xs.size := by simpa using hne
  refine min_tupI hh hl hsz fun v h' tk hv hk => ?_
  obtain ⟨t, rfl⟩ := intItems_at hv
  obtain ⟨h1, h2⟩ := argBest_lt (numAt xs) (xs.size - 1)
  refine h h' tk _ t hk ?_ fun a ha => ?_
  · rw [numAt_eq]; exact PySem.getD_mem (by rw [List.length_map, Array.length_toList]; omega)
  · obtain ⟨j, hj, rfl⟩ := mem_getD ha
    rw [List.length_map, Array.length_toList] at hj
    rw [← numAt_eq]; exact h2 j (by omega)
end
/-- min(t), t a tuple of ints -/
def rMinT (K : PySem.W.Frag) : List V → Hp → VK → Prop := fun vs H Q => ∃ (a : Addr) (ns : List Int), vs = [V.ref a] ∧ SqT K H a (ns.map V.int) ∧ 0 < ns.length ∧ ∀ m, m ∈ ns → (∀ y, y ∈ ns → m ≤ y) → Q (.int m) H
theorem cr_minT (hc : X.calm = true) : CallR X (.builtin "min") (rMinT X.K) := by
  intro pins s σ H vs us Q I r h
  obtain ⟨a, ns, rfl, hs, hne, q⟩ := h
  obtain ⟨its, rv, hl, _⟩ := I.tuple hs
  rw [Vals.ref1 r]
  exact min_rawT (I.ok.hd hc) hl rv.ints hne fun h' tk m t' hk h1 h2 => ⟨.int _, H, I.kept hk, ⟨_, rfl⟩, q m h1 h2⟩
/-- min(xs), xs a list or a tuple of ints -/
def rMinS (K : PySem.W.Frag) : List V → Hp → VK → Prop := fun vs H Q => ∃ (a : Addr) (ns : List Int), vs = [V.ref a] ∧ (SqL K H a (ns.map V.int) ∨ SqT K H a (ns.map V.int)) ∧ 0 < ns.length ∧ ∀ m, m ∈ ns → (∀ y, y ∈ ns → m ≤ y) → Q (.int m) H
theorem cr_minS (hc : X.calm = true) : CallR X (.builtin "min") (rMinS X.K) := by
  intro pins s σ H vs us Q I r h
  obtain ⟨a, ns, rfl, hs, hne, q⟩ := h
  rcases hs with hs | hs
  · exact cr_min hc pins s σ H _ us Q I r ⟨a, ns, rfl, hs, hne, q⟩
  · exact cr_minT hc pins s σ H _ us Q I r ⟨a, ns, rfl, hs, hne, q⟩
/-- isinstance(e, c), e the error that the suite holds: its class is D, it has no dict -/
def rIsX (K : PySem.W.Frag) (D a : Addr) (cls : Value) (d : Option Addr) : List V → Hp → VK → Prop := fun xs H Q => cls = .ref D ∧ d = none ∧ rIsE K D a xs H Q
theorem call_isX {a D : Addr} {oe : Obj} {cls : Value} {d : Option Addr} {pn : List (Addr × Obj)} (Ce : ExcC X.K D) (hz : Zc cls d oe) (hf : ∃ vs, oe.data = .fields vs) : CallR (X.suite a ((a, oe) :: pn)) (.builtin "isinstance") (rIsX X.K D a cls d) := by
  intro pins s σ H xs us Q I r h
  obtain ⟨rfl, rfl, h⟩ := h
  exact call_isE Ce hz hf pins s σ H xs us Q I r h
/-- o.m(e, ..): what is raised is wished for at the slots -/
def tMethX (C : Addr) (m : Str) (sp : Sp) (E : L2.St → XK) (ta : TE) (t : TA) : TE := fun σ H Q => ta σ H fun x H1 => ∃ a dx fs, x = .ref a ∧ H1 a = some (.ins C dx fs) ∧ fs.lookup m = none ∧ t σ H1 fun vs H2 => sp (x :: vs) H2 Q (E σ)
theorem pe_methX {m : Str} {o e : Expr} {es : List Expr} {ta : TE} {t : TA} {apos pos : Pos} {pl : Sem Bool} (he : PE X o ta) (c : Cls X.K C) (hm : Meth X.K C m f) (F : FnOk X.prog X.w X.K X.mg X.base CX k f fd ps sp) (hr : Room k X.A) (hb : Binds X.K fd ps []) (hx : ∀ σ, PassesAt CX X σ (E σ)) (ha : PA X (e :: es) t)
    (hst : starEach (e :: es) X.env = (false, eval e X.env) :: starEach es X.env := by rfl) (hpl : (backTo pos (starEach es X.env)).any (·.1) = false := by rfl)
    (ht : eval (.Call (.Attribute o m apos) (e :: es) [] pos) X.env = (do
      let ov ← eval o X.env
      standAt apos.atName
      let (f, first) ← holding [ov] (getMethod ov m pl)
      callWith pos f first (backTo pos (starEach (e :: es) X.env)) (backToKw pos (keywordEach [] X.env))) := by rfl) :
    PE X (.Call (.Attribute o m apos) (e :: es) [] pos) (tMethX C m sp E ta t) := by
  refine ⟨fun pins s σ H Q I h => ?_⟩
  refine PySem.W.methodCall_KW (pl := pl) (thn (he.run pins s σ H _ I h) fun u s1 ⟨x, H1, I1, rx, a, dx, fs, ex, ea, l, q⟩ => ?_) ht
  subst ex
  obtain rfl : u = Value.ref a := rx
  refine getmeth_ok I1 ea c hm l ?_
  refine PySem.W.callWith_K (first := [.ref a]) (h₀ := X.base) I.ok.mod.kin hm.kp (thn (ha.run pos pins s1 σ H1 _ I1 q) fun us s2 ⟨vs, H2, I2, r, q2⟩ => ⟨I2.kIn, ?_⟩) hst hpl
  exact run_fnS (us := .ref a :: us) (vs := .ref a :: vs) F hr hb (hx σ) I2 (.cons rfl r) q2
/-- C(e, ..): what is raised is wished for at the slots -/
def tMakeX (C : Addr) (sp : Sp) (E : L2.St → XK) (t : TA) : TE := fun σ H Q => t σ H fun vs H1 => ∀ x dx, H1 x = none → H1 dx = none → dx ≠ x →
  sp (.ref x :: vs) (upd (upd H1 dx (.own x)) x (.ins C dx [])) (fun v H2 => v = .non ∧ Q (.ref x) H2) (E σ)
theorem run_makeX {pins : List (Addr × Obj)} {σ : L2.St} {H : Hp} {s : Shared} {Q : VK} {us : List Value} {vs : List V} (M : Mk X.K C f) (F : FnOk X.prog X.w X.K X.mg X.base CX k f fd ps sp) (hr : Room (k + 1) X.A) (hb : Binds X.K fd ps [])
    (hx : PassesAt CX X σ (E σ)) (I : Inv X pins σ H s) (r : Vals vs us)
    (h : ∀ x dx, H x = none → H dx = none → dx ≠ x → sp (.ref x :: vs) (upd (upd H dx (.own x)) x (.ins C dx [])) (fun v H2 => v = .non ∧ Q (.ref x) H2) (E σ)) :
    wpAny (model X.prog X.w) X.A (call (.ref C) us) (EP X pins σ Q) X.xe s := by
  have hq := h (s.heap.objs.size + 1) s.heap.objs.size (I.hok.fresh (Nat.le_succ _)) (I.hok.fresh (Nat.le_refl _)) (Nat.ne_of_lt (Nat.lt_succ_self _))
  have I2 := Inv.made (C := C) I
  have r2 : Vals (V.ref (s.heap.objs.size + 1) :: vs) (Value.ref (s.heap.objs.size + 1) :: us) := .cons rfl r
  have hl : (Value.ref (s.heap.objs.size + 1) :: us ++ []).length = ps.length := by
    have e := r2.length
    rw [F.len _ _ _ _ hq] at e
    rw [List.append_nil]
    exact e.symm
  rw [List.append_nil] at hl
  refine wpAny_call (make_map (f := f) I.kIn M.makes M.init (beq_iff_eq.mp M.fn) (codeAny_mono (F.run _ X.stack _ _ ⟨Value.ref (s.heap.objs.size + 1) :: us, []⟩ (Value.ref (s.heap.objs.size + 1) :: us) _ _ (E σ) (hr.make C us [])
    (I2.env0.make C us []) (by have b := hb _ (Value.ref (s.heap.objs.size + 1) :: us) I2.kIn (by rw [List.append_nil]; exact hl); rw [List.append_nil] at b; exact b) r2 hq) fun r s' hq' => ?_))
  cases r with
  | error e => exact hx pins _ _ e s' I2 hq'
  | ok fl =>
    cases fl with
    | ret u =>
      obtain ⟨v, H', I3, rv, ev, q3⟩ := I2.after hq'
      subst ev
      exact ⟨rv, ⟨V.ref (s.heap.objs.size + 1), H', I3, rfl, q3⟩⟩
    | next => exact False.elim hq'
    | brk => exact False.elim hq'
    | cont => exact False.elim hq'
theorem pe_makeX {x : Str} {p pos : Pos} {e : Expr} {es : List Expr} {t : TA} (M : Mk X.K C f) (F : FnOk X.prog X.w X.K X.mg X.base CX k f fd ps sp) (hr : Room (k + 1) X.A) (hg : Gl X x) (hm : X.mg x = some (.ref C)) (hb : Binds X.K fd ps []) (hx : ∀ σ, PassesAt CX X σ (E σ))
    (ha : PA X (e :: es) t) (hdb : (x == ("__debug__" : Str)) = false := by decide) (he : starEach (e :: es) X.env = (false, eval e X.env) :: starEach es X.env := by rfl) (hpl : (backTo pos (starEach es X.env)).any (·.1) = false := by rfl) :
    PE X (.Call (.Name x p) (e :: es) [] pos) (tMakeX C sp E t) := by
  refine ⟨fun pins s σ H Q I h => ?_⟩
  refine wpAny_Call_Name_kw (ld_glob I hg hm ?_ hdb)
  refine PySem.W.callWith_K (h₀ := X.base) I.ok.mod.kin M.kp (thn (ha.run pos pins s σ H _ I h) fun us s1 ⟨vs, H1, I1, r, q⟩ => ⟨I1.kIn, ?_⟩) he hpl
  exact run_makeX M F hr hb (hx σ) I1 r q
/-- o[i] = v: what is raised is wished for at the slots -/
theorem pg_putX {o i : Expr} {to ti : TE} {pos : Pos} (m : Meth X.K C "__setitem__" f) (hq : PySem.W.noSeq X.K C = true) (F : FnOk X.prog X.w X.K X.mg X.base CX k f fd ps sp) (hr : Room k X.A) (hb : Binds X.K fd ps []) (hx : ∀ σ, PassesAt CX X σ (E σ)) (ho : PE X o to) (hi : PE X i ti)
    (ha : ∀ v, assign (.Subscript o i pos) X.env v = (do
      let ov ← holding [v] (eval o X.env)
      let iv ← holding [v, ov] (eval i X.env)
      standAt pos
      holding [v, ov, iv] (setItem ov iv v)
      release [v, ov, iv] []) := by intro _; rfl) : PG X (.Subscript o i pos) (fun v σ H Q => to σ H fun o H1 => ti σ H1 fun i H2 => ∃ a dx fs, o = .ref a ∧ H2 a = some (.ins C dx fs) ∧ sp [.ref a, i, v] H2 (fun _ H3 => Q σ H3) (E σ)) := by
  refine ⟨fun pins s σ H v u Q I r h => ?_⟩
  rw [ha]
  refine wpAny_bind (wpAny_holding (thn (ho.run pins s σ H _ I h) fun ov s1 ⟨x, H1, I1, r1, q1⟩ => ?_))
  refine wpAny_bind (wpAny_holding (thn (hi.run pins s1 σ H1 _ I1 q1) fun iv s2 ⟨y, H2, I2, r2, q2⟩ => ?_))
  obtain ⟨a, dx, fs, rfl, ea, q⟩ := q2
  cases r1
  obtain ⟨ox, od, J⟩ := inst_at I2 ea
  obtain ⟨m', hF⟩ := I2.fr
  refine wpAny_bind (wpAny_standAt (wpAny_bind (wpAny_holding (PySem.W.ksp_setItem hF I2.ok.mod.kin J hq m.at_ m.fn (wpAny_mono (own_run F hr rfl hb (hx σ) I2 (.cons vref (.cons r2 (.cons r .nil))) q) (fun w s' hw => ?_) fun _ _ x => x)))))
  obtain ⟨v', H', I', _, q'⟩ := hw
  exact wpAny_release ⟨σ, H', I', q'⟩
end
end KO
namespace KO
open PySem PySem.Spec PyProof.Rows L2
/-- the state of a zip that a list is filled from, behind i pairs -/
def ZSt (z TI TO i1 i2 a b S : Addr) (h : Heap) (i : Nat) : Prop := IsPair h TI (.ref i1) (.ref i2) ∧ h.IsListIter i1 a i ∧ h.IsListIter i2 b i ∧ (∃ o, h.get? TO = some o) ∧
  ((IsZip h z TI TO .none ∧ ∃ u v, IsPair h TO u v) ∨ ∃ T f oT, IsZipHeld h z TI TO T f ∧ h.get? T = some oT ∧ T ≠ z ∧ T ≠ i1 ∧ T ≠ i2 ∧ T ≠ S)
section
variable {X : Cx} {pins : List (Addr × Obj)} {σ : L2.St}
theorem ZSt.other {z TI TO i1 i2 a b S : Addr} {h h' : Heap} {i : Nat} (st : ZSt z TI TO i1 i2 a b S h i) (n : ∀ c ∈ [z, TI, TO, i1, i2], c ≠ S) (k : ∀ c o, c ≠ S → h.get? c = some o → h'.get? c = some o) : ZSt z TI TO i1 i2 a b S h' i := by
  obtain ⟨p1, p2, p3, ⟨o, p4⟩, p5⟩ := st
  refine ⟨k _ _ (n TI (by simp)) p1, p2.at fun o e => k _ o (n i1 (by simp)) e, p3.at fun o e => k _ o (n i2 (by simp)) e, ⟨o, k _ _ (n TO (by simp)) p4⟩, ?_⟩
  rcases p5 with ⟨q1, u, v, q2⟩ | ⟨T, f, oT, q1, q2, q3, q4, q5, q6⟩
  · exact .inl ⟨k _ _ (n z (by simp)) q1, u, v, k _ _ (n TO (by simp)) q2⟩
  · exact .inr ⟨T, f, oT, k _ _ (n z (by simp)) q1, k _ _ q6 q2, q3, q4, q5, q6⟩
/-- pair by pair at the addresses ts -/
def ZPr (H : Hp) (xs ys : List V) (ts : List Addr) : Prop := ∀ (j : Nat) (t : Addr), ts[j]? = some t → ∃ x y, xs[j]? = some x ∧ ys[j]? = some y ∧ H t = some (.tup [x, y])
theorem ZPr.but {H H' : Hp} {xs ys : List V} {ts : List Addr} {S : Addr} {zs : List V} (p : ZPr H xs ys ts) (hS : H S = some (.lst zs)) (k : ∀ c o, c ≠ S → H c = some o → H' c = some o) : ZPr H' xs ys ts := fun j t hj => by
  obtain ⟨x, y, h1, h2, h3⟩ := p j t hj
  exact ⟨x, y, h1, h2, k _ _ (ne_of h3 hS (by intro z; cases z)) h3⟩
theorem zip_loop {A1 : Around} {R : Result → Shared → Prop} {H0 : Hp} {z TI TO i1 i2 a b S : Addr} {xs ys : List V} (hh : A1.in1.handled = none) (D : ZipApart z TI TO i1 i2 a b) (hS0 : ∀ c ∈ [z, TI, TO, i1, i2], c ≠ S) (aS : a ≠ S) (bS : b ≠ S) (hl : xs.length = ys.length) (hn : xs.length ≤ 1000)
    (hR : ∀ s H ts, Inv X pins σ H s → ts.length = xs.length → ZPr H xs ys ts → H S = some (.lst (ts.map V.ref)) → (∀ c o, c ≠ S → H0 c = some o → H c = some o) → R (.ok (.ret .none)) s) :
    ∀ k i s H ts, xs.length - i = k → i ≤ xs.length → Inv X pins σ H s → (∀ c ∈ [z, TI, TO, i1, i2], FpOk X pins H c) → SqL X.K H a xs → SqL X.K H b ys → H S = some (.lst (ts.map V.ref)) → ts.length = i → ZPr H xs ys ts → (∀ c o, c ≠ S → H0 c = some o → H c = some o) →
      ZSt z TI TO i1 i2 a b S s.heap i → codeAny (model X.prog X.w) A1 (.builtin "list.extend.loop" ⟨[.ref S, .ref z, .none], []⟩) R s := by
  intro k
  induction k with
  | zero =>
    intro i s H ts hk hi I hf qa qb hS ht pr fr st
    have e : i = xs.length := by omega
    subst e
    obtain ⟨its, rv, p1, _⟩ := I.list qa
    obtain ⟨its2, rv2, p2, _⟩ := I.list qb
    obtain ⟨hTI, h1, h2, ⟨oO, hO⟩, hz⟩ := st
    refine codeAny_builtin PySem.F.entry_extend_loop ?_
    rw [Around.under_plainId PySem.F.plain_extend_loop _]
    show wpAny _ A1.in1 (pyNext (.ref z) >>= _) _ _ s
    have hend : its.toArray[xs.length]? = none := by
      rw [List.getElem?_toArray]
      exact rv.none_of (by simp)
    rcases hz with ⟨hz, u, v, hTO⟩ | ⟨T, f, oT, hz, hT, r1, r2, r3, r4⟩
    · refine wpAny_bind (wpAny_pyNext_zip_end hh D hz hTI hTO h1 h2 p1.isList p2.isList (.inl hend) fun h' hk => wpAny_pure (hR _ H ts ?_ ht pr hS fr))
      exact I.turnedL (t' := s.toks) (ch := [z, TI, TO, i1, i2]) (fun c o hb q => hk c o (fun q' => hb (by simp [q'])) (fun q' => hb (by simp [q'])) (fun q' => hb (by simp [q'])) (fun q' => hb (by simp [q'])) q) hf
    · refine wpAny_bind (wpAny_pyNext_zip_end_held hh D hz hT hTI h1 h2 p1.isList p2.isList (.inl hend) fun h' hk => wpAny_pure (hR _ H ts ?_ ht pr hS fr))
      exact I.turnedL (t' := s.toks) (ch := [z, TI, TO, i1, i2]) (fun c o hb q => hk c o (fun q' => hb (by simp [q'])) (fun q' => hb (by simp [q'])) (fun q' => hb (by simp [q'])) q) hf
  | succ k ih =>
    intro i s H ts hk hi I hf qa qb hS ht pr fr st
    have hlt : i < xs.length := by omega
    obtain ⟨its, rv, p1, _⟩ := I.list qa
    obtain ⟨its2, rv2, p2, _⟩ := I.list qb
    obtain ⟨hTI, h1, h2, ⟨oO, hO⟩, hz⟩ := st
    have hx : xs[i]? = some xs[i] := List.getElem?_eq_getElem hlt
    have hy : ys[i]? = some ys[i] := List.getElem?_eq_getElem (by omega)
    obtain ⟨u, hu, ru⟩ := rv.get hx
    obtain ⟨u2, hu2, ru2⟩ := rv2.get hy
    have nT : H s.heap.objs.size = none := I.hok.fresh (Nat.le_refl _)
    obtain ⟨_, itsS, cS, rS, hlS, eS⟩ := I.lstM hS
    have lS : S < s.heap.objs.size := Heap.lt_size eS
    have lz : z < s.heap.objs.size := by rcases hz with ⟨hz, _⟩ | ⟨T, f, oT, hz, _⟩ <;> exact Heap.lt_size hz
    have lTI : TI < s.heap.objs.size := Heap.lt_size hTI
    have lTO : TO < s.heap.objs.size := Heap.lt_size hO
    have l1 : i1 < s.heap.objs.size := by obtain ⟨_, e, _⟩ := h1; exact Heap.lt_size e
    have l2 : i2 < s.heap.objs.size := by obtain ⟨_, e, _⟩ := h2; exact Heap.lt_size e
    -- behind the pair
    have step : ∀ h', (∀ c o, c ∉ [z, TI, TO, i1, i2] → s.heap.get? c = some o → h'.get? c = some o) → IsPair h' s.heap.objs.size u u2 → ZSt z TI TO i1 i2 a b S h' (i + 1) →
        wpAny (model X.prog X.w) A1.in1 (updateSeq S (·.push (.ref s.heap.objs.size)) >>= fun _ => again (.builtin "list.extend.loop" ⟨[.ref S, .ref z, .none], []⟩)) (fun fin s' => match fin with | .done f => R (.ok f) s' | .again c' => c'.quiet = true ∧ codeAny (model X.prog X.w) A1 c' R s') (fun e s' => R (.error e) s') { s with heap := h' } := by
      intro h' kk hT st'
      have new : ObjOk X.prog X.w (upd H s.heap.objs.size (.tup [xs[i], ys[i]])) h' s.heap.objs.size (.tup [xs[i], ys[i]]) := ⟨by show 2 ≤ sizeLine; decide, [u, u2], .cons ru (.cons ru2 .nil), ⟨_, hT, rfl, _, rfl⟩⟩
      have I1 : Inv X pins σ (upd H s.heap.objs.size (.tup [xs[i], ys[i]])) { s with heap := h' } := I.turnedNew (t' := s.toks) (ch := [z, TI, TO, i1, i2]) kk hf (Nat.le_refl _) new
      have nST : s.heap.objs.size ≠ S := Nat.ne_of_gt lS
      have hS1 : (upd H s.heap.objs.size (.tup [xs[i], ys[i]])) S = some (.lst (ts.map V.ref)) := by rw [upd_ne (Ne.symm nST)]; exact hS
      obtain ⟨_, its3, c3, r3, hl3, e3⟩ := I1.lstM hS1
      have hlen3 := r3.length
      rw [List.length_map, ht] at hlen3
      refine wpAny_bind (wpAny_updateSeq e3 rfl (wpAny_pure ⟨plainId_quiet PySem.F.plain_extend_loop _, ?_⟩) (by rw [List.size_toArray, sizeLine_eq]; omega) (by show (its3.toArray.push (.ref s.heap.objs.size)).size ≤ sizeLine + 1; rw [Array.size_push, List.size_toArray, sizeLine_eq]; omega))
      have I3 := I1.lset (f := (·.push (.ref s.heap.objs.size))) (its' := its3 ++ [.ref s.heap.objs.size]) (ys := (ts ++ [s.heap.objs.size]).map V.ref) (t' := s.toks) hS1 e3 (by simp) (by rw [List.map_append]; exact r3.append (.cons rfl .nil)) (by rw [List.length_map, List.length_append, ht, sizeLine_eq]; show i + 1 ≤ _; omega)
      have kO : ∀ c o, c ≠ S → H c = some o → (upd (upd H s.heap.objs.size (.tup [xs[i], ys[i]])) S (.lst ((ts ++ [s.heap.objs.size]).map V.ref))) c = some o := fun c o nc hc => by
        rw [upd_ne nc, upd_ne (ne_of_none hc nT)]
        exact hc
      have ext2 : Ext H (upd H s.heap.objs.size (.tup [xs[i], ys[i]])) := Ext.upd nT
      have qk : ∀ {c : Addr} {zs : List V}, c ≠ S → SqL X.K H c zs → SqL X.K (upd (upd H s.heap.objs.size (.tup [xs[i], ys[i]])) S (.lst ((ts ++ [s.heap.objs.size]).map V.ref))) c zs := fun {c zs} nc q => by
        rcases q with (q | ⟨o, q⟩) | q
        · exact .inl (.inl (kO _ _ nc q))
        · exact .inl (.inr ⟨o, kO _ _ nc q⟩)
        · exact .inr q
      have sz : ∀ c ∈ [z, TI, TO, i1, i2], c < s.heap.objs.size := fun c hc => by
        have e' : c = z ∨ c = TI ∨ c = TO ∨ c = i1 ∨ c = i2 := by simpa using hc
        rcases e' with q | q | q | q | q
        · rw [q]; exact lz
        · rw [q]; exact lTI
        · rw [q]; exact lTO
        · rw [q]; exact l1
        · rw [q]; exact l2
      refine ih (i + 1) _ _ (ts ++ [s.heap.objs.size]) (by omega) hlt I3 (fun c hc => ?_) (qk aS qa) (qk bS qb) upd_same (by rw [List.length_append, ht]; rfl) ?_ (fun c o nc h0 => kO _ _ nc (fr c o nc h0)) (st'.other hS0 fun c o nc e => (Heap.get?_update_other _ _ (Ne.symm nc)).trans e)
      · obtain ⟨f0, f1⟩ := hf c hc
        refine ⟨?_, f1⟩
        rw [upd_ne (hS0 c hc), upd_ne (Nat.ne_of_lt (sz c hc))]
        exact f0
      · intro j t hj
        by_cases hji : j < ts.length
        · rw [List.getElem?_append_left hji] at hj
          obtain ⟨x, y, g1, g2, g3⟩ := pr j t hj
          exact ⟨x, y, g1, g2, kO _ _ (ne_of g3 hS (by intro z; cases z)) g3⟩
        · rw [List.getElem?_append_right (by omega)] at hj
          obtain ⟨hj1, hj2⟩ := List.getElem?_eq_some_iff.mp hj
          have ej : j = i := by
            have : j - ts.length < 1 := hj1
            omega
          subst ej
          have et : s.heap.objs.size = t := by
            rw [← hj2]
            simp
          rw [← et]
          exact ⟨_, _, hx, hy, by rw [upd_ne nST, upd_same]⟩
    refine codeAny_builtin PySem.F.entry_extend_loop ?_
    rw [Around.under_plainId PySem.F.plain_extend_loop _]
    show wpAny _ A1.in1 (pyNext (.ref z) >>= _) _ _ s
    have hu' : its.toArray[i]? = some u := by rw [List.getElem?_toArray]; exact hu
    have hu2' : its2.toArray[i]? = some u2 := by rw [List.getElem?_toArray]; exact hu2
    have nT1 : s.heap.objs.size ≠ i1 := Nat.ne_of_gt l1
    have nT2 : s.heap.objs.size ≠ i2 := Nat.ne_of_gt l2
    have nTz : s.heap.objs.size ≠ z := Nat.ne_of_gt lz
    have nTS : s.heap.objs.size ≠ S := Nat.ne_of_gt lS
    rcases hz with ⟨hz, v, v2, hTO⟩ | ⟨T, f, oT, hz, hT, r1, r2, r3, r4⟩
    · refine wpAny_bind (wpAny_pyNext_zip_item D hz hTI hTO h1 h2 p1.isList p2.isList hu' hu2' fun h' z' TO' h1' h2' hTT hsz hk => ?_)
      exact step h' (fun c o hb q => hk c o (fun q' => hb (by simp [q'])) (fun q' => hb (by simp [q'])) (fun q' => hb (by simp [q'])) (fun q' => hb (by simp [q'])) q) hTT
        ⟨hk _ _ D.TIz D.TITO D.TIi1 D.TIi2 hTI, h1', h2', ⟨_, TO'⟩, .inr ⟨_, false, _, z', hTT, nTz, nT1, nT2, nTS⟩⟩
    · refine wpAny_bind (wpAny_pyNext_zip_item_held D hz hT hTI h1 h2 p1.isList p2.isList hu' hu2' fun h' z' h1' h2' hTT hsz hk => ?_)
      exact step h' (fun c o hb q => hk c o (fun q' => hb (by simp [q'])) (fun q' => hb (by simp [q'])) (fun q' => hb (by simp [q'])) q) hTT
        ⟨hk _ _ D.TIz D.TIi1 D.TIi2 hTI, h1', h2', ⟨_, hk _ _ D.TOz D.TOi1 D.TOi2 hO⟩, .inr ⟨T, true, oT, z', hk _ _ r1 r2 r3 hT, r1, r2, r3, r4⟩⟩
/-- list(zip(a, b)), two lists of one length: a new list of new pairs -/
def tListZip (K : PySem.W.Frag) (ta : TA) : TE := fun σ H Q => ta σ H fun vs H1 => ∃ a b xs ys, vs = [.ref a, .ref b] ∧ SqL K H1 a xs ∧ SqL K H1 b ys ∧ xs.length = ys.length ∧ xs.length ≤ 1000 ∧
  ∀ l H2 ts, H1 l = none → Same H1 H2 → H2 l = some (.lst (ts.map V.ref)) → ts.length = xs.length → ZPr H2 xs ys ts → Q (.ref l) H2
theorem zip_nolen : typeLookup (.type "zip") "__len__" = pure none := am_miss_of_fast (by decide +kernel)
theorem zip_nohint : typeLookup (.type "zip") "__length_hint__" = pure none := am_miss_of_fast (by decide +kernel)
theorem pe_listZip {e e2 : Expr} {ta : TA} {p p2 pos pos2 : Pos} (hc : X.calm = true) (hg : Gl X "list") (hm : X.mg "list" = none) (hg2 : Gl X "zip") (hm2 : X.mg "zip" = none) (ha : PA X [e, e2] ta)
    (hs : starEach [e, e2] X.env = (false, eval e X.env) :: starEach [e2] X.env := by rfl) (hpl : (backTo pos2 (starEach [e2] X.env)).any (·.1) = false := by rfl)
    (hs2 : starEach [.Call (.Name "zip" p2) [e, e2] [] pos2] X.env = (false, eval (.Call (.Name "zip" p2) [e, e2] [] pos2) X.env) :: starEach [] X.env := by rfl) :
    PE X (.Call (.Name "list" p) [.Call (.Name "zip" p2) [e, e2] [] pos2] [] pos) (tListZip X.K ta) := by
  refine ⟨fun pins s σ H Q I h => ?_⟩
  refine Call_ (ld_blt I hg hm PyProof.Rows.boot_list (PyProof.Rows.callWith_type1 (args_cons (Call_ (ld_blt I hg2 hm2 PyProof.Rows.boot_zip (PyProof.Rows.callWith_type1 (thn (ha.run pos2 pins s σ H _ I h) fun us s1 ⟨vs, H1, I1, r1, q1⟩ => ?_) hs hpl))) hs2) hs2 rfl))
  obtain ⟨a, b, xs, ys, rfl, qa, qb, hl, hn, q⟩ := q1
  obtain ⟨u1, u2, rfl, ra, rb⟩ := vals2 r1
  cases ra
  cases rb
  obtain ⟨its, rv, p1, _⟩ := I1.list qa
  obtain ⟨its2, rv2, p2', _⟩ := I1.list qb
  have la : a < s1.heap.objs.size := p1.lt
  have lb : b < s1.heap.objs.size := p2'.lt
  refine call_zip_2 p1.isList p2'.isList fun h' hz hTI hTO h1 h2 hsz hk => args_nil ?_
  have I2 : Inv X pins σ H1 { s1 with heap := h' } := I1.kept (t' := s1.toks) hk
  have D := PySem.W.ktu_apart s1.heap.objs.size a b la lb
  have hf : ∀ c ∈ [s1.heap.objs.size + 4, s1.heap.objs.size + 2, s1.heap.objs.size + 3, s1.heap.objs.size, s1.heap.objs.size + 1], FpOk X pins H1 c := fun c hcm => by
    have e' : c = s1.heap.objs.size + 4 ∨ c = s1.heap.objs.size + 2 ∨ c = s1.heap.objs.size + 3 ∨ c = s1.heap.objs.size ∨ c = s1.heap.objs.size + 1 := by simpa using hcm
    have hle : s1.heap.objs.size ≤ c := by omega
    exact I1.fpOk hle (I1.hok.fresh hle)
  have hlt : ∀ c ∈ [s1.heap.objs.size + 4, s1.heap.objs.size + 2, s1.heap.objs.size + 3, s1.heap.objs.size, s1.heap.objs.size + 1], c < h'.objs.size := fun c hcm => by
    have e' : c = s1.heap.objs.size + 4 ∨ c = s1.heap.objs.size + 2 ∨ c = s1.heap.objs.size + 3 ∨ c = s1.heap.objs.size ∨ c = s1.heap.objs.size + 1 := by simpa using hcm
    rw [hsz]
    omega
  have la' : a < h'.objs.size := Nat.lt_of_lt_of_le la (by rw [hsz]; exact Nat.le_add_right _ _)
  have lb' : b < h'.objs.size := Nat.lt_of_lt_of_le lb (by rw [hsz]; exact Nat.le_add_right _ _)
  generalize s1.heap.objs.size + 4 = z at hz D hf hlt ⊢
  generalize s1.heap.objs.size + 2 = TI at hz hTI D hf hlt
  generalize s1.heap.objs.size + 3 = TO at hz hTO D hf hlt
  generalize s1.heap.objs.size + 1 = i2 at hTI h2 D hf hlt
  generalize s1.heap.objs.size = i1 at hTI h1 D hf hlt
  refine callType_codes (Q₁ := fun x s3 => x = .ref h'.objs.size ∧ s3 = { s1 with heap := h'.push { cls := .type "list", data := .seq #[] } }) PySem.F.called_list (PySem.F.typeCall_list_1 _) PySem.F.entry_list_init (code_list_new _ ⟨rfl, rfl⟩) fun x s3 hx => ?_
  obtain ⟨rfl, rfl⟩ := hx
  have got : (h'.push { cls := .type "list", data := .seq #[] }).get? h'.objs.size = some { cls := .type "list", data := .seq #[] } := Heap.get?_push_size _ rfl
  refine ⟨⟨_, got, rfl⟩, PySem.F.args_list_init_2 _ _, ?_⟩
  have fr : H1 h'.objs.size = none := I2.hok.fresh (Nat.le_refl _)
  have I3 : Inv X pins σ (upd H1 h'.objs.size (.lst [])) { s1 with heap := h'.push { cls := .type "list", data := .seq #[] } } := I2.lnew (its := []) (t' := s1.toks) .nil (Nat.zero_le _)
  have nS : ∀ c ∈ [z, TI, TO, i1, i2], c ≠ h'.objs.size := fun c hc => Nat.ne_of_lt (hlt c hc)
  have aS : a ≠ h'.objs.size := Nat.ne_of_lt la'
  have bS : b ≠ h'.objs.size := Nat.ne_of_lt lb'
  have st0 : ZSt z TI TO i1 i2 a b h'.objs.size h' 0 := ⟨hTI, h1, h2, ⟨_, hTO⟩, .inl ⟨hz, _, _, hTO⟩⟩
  have st1 : ZSt z TI TO i1 i2 a b h'.objs.size (h'.push { cls := .type "list", data := .seq #[] }) 0 := st0.other nS fun c o _ e => Heap.get?_push_of_some _ e
  generalize h'.objs.size = S at got fr I3 nS aS bS st1 ⊢
  show wpAny _ _ (do let old ← Builtin.List.listItems (.ref S); Builtin.List.listUpdate (.ref S) (fun _ => #[]); letGo old.toList.reverse; Builtin.List.listExtendWith (.ref S) (.ref z) .none) _ _ _
  refine wpAny_bind ?_
  unfold Builtin.List.listItems
  refine wpAny_bind (wpAny_seqItems got rfl (wpAny_pure ?_))
  show wpAny _ _ (updateSeq S (fun _ => #[]) >>= fun _ => letGo (#[] : Array Value).toList.reverse >>= fun _ => Builtin.List.listExtendWith (.ref S) (.ref z) .none) _ _ _
  refine wpAny_bind (wpAny_updateSeq got rfl ?_)
  have I4 := I3.lset (f := fun _ => #[]) (its := []) (its' := []) (ys := []) (t' := s1.toks) upd_same got rfl .nil (Nat.zero_le _)
  rw [upd_upd] at I4
  refine wpAny_bind (wpAny_letGo ?_)
  have st2 : ZSt z TI TO i1 i2 a b S ((h'.push { cls := .type "list", data := .seq #[] }).update S (Obj.mapSeq fun _ => #[])) 0 := st1.other nS fun c o nc e => (Heap.get?_update_other _ _ (Ne.symm nc)).trans e
  generalize hs4 : ({ s1 with heap := (h'.push { cls := .type "list", data := .seq #[] }).update S (Obj.mapSeq fun _ => #[]) } : Shared) = s4 at I4 ⊢
  have st4 : ZSt z TI TO i1 i2 a b S s4.heap 0 := by
    rw [← hs4]
    exact st2
  have hz4 : IsZip s4.heap z TI TO .none := by
    rw [← hs4]
    exact (Heap.get?_update_other _ _ (Ne.symm (nS z (by simp)))).trans (Heap.get?_push_of_some _ hz)
  have hT : s4.TypeIs (.ref z) "zip" := ⟨_, hz4, rfl⟩
  clear hs4 st2 st1 got I3
  unfold Builtin.List.listExtendWith
  refine wpAny_bind (wpAny_typeOf hT ?_)
  have b1 : Builtin.List.listSameRef (.ref S) (.ref z) = false := by simp [Builtin.List.listSameRef, (nS z (by simp)).symm]
  have b2 : (Value.type "zip" == Value.type "list") = false := rfl
  have b3 : (Value.type "zip" == Value.type "tuple") = false := rfl
  simp only [b1, b2, b3, Bool.or_false, Bool.false_eq_true, if_false]
  refine wpAny_bind (wpAny_pyIter_zip hz4 ?_)
  refine wpAny_bind (wpAny_holding ?_)
  unfold Builtin.List.listLengthHint
  refine wpAny_bind (wpAny_specialOf hT zip_nolen ?_)
  show wpAny _ _ (specialOf (Value.ref z) (Str.ofString "__length_hint__") >>= _) _ _ _
  refine wpAny_bind (wpAny_specialOf hT zip_nohint ?_)
  refine wpAny_pure ?_
  show wpAny _ _ (rule "list.extend.makes-room" >>= fun _ => Builtin.List.listTouch (.ref S) >>= fun _ => again (.builtin "list.extend.loop" ⟨[.ref S, .ref z, .none], []⟩)) _ _ _
  refine wpAny_bind (wpAny_rule ?_)
  refine wpAny_bind ?_
  show wpAny _ _ (updateSeq S (·.push .none) >>= fun _ => updateSeq S (·.pop)) _ _ _
  have hSl : (upd H1 S (.lst [])) S = some (.lst []) := upd_same
  obtain ⟨_, it3, k3, r3, hl3, e3⟩ := I4.lstM hSl
  cases r3
  refine wpAny_bind (wpAny_updateSeq e3 rfl ?_)
  have I6 := I4.lset (f := (·.push Value.none)) (its' := [Value.none]) (ys := [.non]) (t' := s4.toks) hSl e3 (by simp) (.cons rfl .nil) (by rw [List.length_singleton, sizeLine_eq]; decide)
  have st6 := st4.other nS (h' := (s4.heap.update S (Obj.mapSeq (·.push Value.none)))) fun c o nc e => (Heap.get?_update_other _ _ (Ne.symm nc)).trans e
  obtain ⟨_, it4, k4, r4, hl4, e4⟩ := I6.lstM upd_same
  obtain ⟨u4, rfl, ru4⟩ := r4.one
  refine wpAny_updateSeq e4 rfl ?_ (by show 1 ≤ sizeLine; rw [sizeLine_eq]; decide) (by show 0 ≤ sizeLine + 1; exact Nat.zero_le _)
  have I7 := I6.lset (f := (·.pop)) (its := [u4]) (its' := []) (ys := []) (t' := s4.toks) upd_same e4 (by rfl) .nil (Nat.zero_le _)
  rw [upd_upd, upd_upd] at I7
  have st7 := st6.other nS (h' := ((s4.heap.update S (Obj.mapSeq (·.push Value.none))).update S (Obj.mapSeq (·.pop)))) fun c o nc e => (Heap.get?_update_other _ _ (Ne.symm nc)).trans e
  have qk : ∀ {c : Addr} {zs : List V}, SqL X.K H1 c zs → SqL X.K (upd H1 S (.lst [])) c zs := fun {c zs} q => SqL.ext q (Ext.upd fr)
  refine wpAny_pure ⟨plainId_quiet PySem.F.plain_extend_loop _, zip_loop (pins := pins) (σ := σ) (H0 := H1) (by simp [I1.ok.hd hc]) D nS aS bS hl hn (fun s7 H7 ts I7 e7 p7 h7 f7 => ⟨rfl, .ref S, H7, I7, vref, q S H7 ts fr (fun c o hc0 => f7 c o (ne_of_none hc0 fr) hc0) h7 e7 p7⟩) xs.length 0 _ _ [] rfl (Nat.zero_le _) I7 (fun c hc => ?_) (qk qa) (qk qb) upd_same rfl (fun j t hj => by cases j <;> cases hj) (fun c o nc h0 => by rw [upd_ne nc]; exact h0) st7⟩
  obtain ⟨f0, f1⟩ := hf c hc
  exact ⟨by rw [upd_ne (nS c hc)]; exact f0, f1⟩
/-- o op p, both of the class: an object comes back -/
def rBinO (C : Addr) (sp : Sp) (E : XK) : R2 := fun x y H Q => ∃ a dx fs b dy gs, x = .ref a ∧ y = .ref b ∧ H a = some (.ins C dx fs) ∧ H b = some (.ins C dy gs) ∧ sp [.ref a, .ref b] H (fun v H' => ∃ r, v = .ref r ∧ Q (.ref r) H') E
theorem bin_own {CX : CXT} {k : Nat} {f C : Addr} {fd : FuncData} {ps : List Str} {sp : Sp} {E : XK} {op : Operator} {name : Str} (hn : PySem.dunder op.info.2 = name) (m : Meth X.K C name f) (sf : PySem.W.selfFirst X.K C = true) (F : FnOk X.prog X.w X.K X.mg X.base CX k f fd ps sp) (hr : Room k X.A) (hb : Binds X.K fd ps []) (hx : ∀ σ, PassesAt CX X σ E) : OpR X (binaryOp op) (rBinO C sp E) := by
  subst hn
  intro pins s σ H x y v u Q I rx ry h
  obtain ⟨a, dx, fs, b, dy, gs, rfl, rfl, ha, hb', q⟩ := h
  cases rx
  cases ry
  obtain ⟨ox, od, J⟩ := inst_at I ha
  obtain ⟨oy, od', J'⟩ := inst_at I hb'
  obtain ⟨m', hF⟩ := I.fr
  refine PySem.W.binop_K hF I.ok.mod.kin J J'.type sf m.at_ m.fn (wpAny_mono (own_run (E := fun _ => E) F hr rfl hb (hx σ) I (.cons vref (.cons vref .nil)) q) (fun u s' hu => ?_) fun _ _ x => x)
  obtain ⟨v, H', I', rv, r, rfl, q'⟩ := hu
  cases rv
  exact ⟨.ref r, H', I', vref, q'⟩
end
end KO
namespace KO
open PySem PySem.Spec PyProof.Rows L2 PySem.W
section
variable {prog : Program} {w : World} {A : Around} {E : Value → Shared → Prop} {s : Shared} {K : PySem.W.Frag} {x C L f g : Addr} {h₀ : Heap} {m : Str → Option Value} {ox : Obj} {od : Option Obj}
theorem int_mul_ref {i : Int} {t : Tok} {P : PySem.Fin → Shared → Prop} (hx : s.heap.get? x = some ox) (hd : ox.data = .plain) (h : P (.done (.ret .notImplemented)) s) : wpAny (model prog w) A (Builtin.«int.__mul__» ⟨[.int i t, .ref x], []⟩) P E s := by
  obtain ⟨hp, g, d, tk, os⟩ := s
  obtain ⟨oc, odd, dt, sl⟩ := ox
  dsimp only at hd
  subst hd
  repeat (any_goals (first | assumption | with_reducible refine wpAny_load hx ?_ | wp_step))
theorem rmul_K {i : Int} {t : Tok} {Q : Value → Shared → Prop} (F : Fr h₀ L s.heap m) (X₀ : K.In h₀) (I : PySem.W.InstAt s.heap x ox C od) (hd : ox.data = .plain) (hc : selfFirst K C = true)
    (hs : findIn K (.ref C) (PySem.dunder "mul") = some (some (.ref g))) (hr : findIn K (.ref C) (dunderR "mul") = some (some (.ref f))) (hf : isFn K (.ref f) = true) (hsub : subIn K (.ref C) (.type "int") = some false)
    (h : wpAny (model prog w) A (call (.ref f) [.ref x, .int i t]) (PySem.W.CmpBack Q) E s) : wpAny (model prog w) A (binaryOp .Mult (.int i t) (.ref x)) Q E s := by
  have X := X₀.keeps F.keep
  obtain ⟨cd, rest, hcd, hm⟩ := ksp_first hc
  have one := ksp_try X I hr hf h
  have hx := I.1
  obtain ⟨hh, gg, d, tt, os⟩ := s
  have hT : (⟨hh, gg, d, tt, os⟩ : Shared).TypeIs (.int i t) "int" := typeIs_int _ i t
  have L1 : Looks (model prog w) hh (typeOf (.int i t)) (.type "int") := Looks.of_pure rfl
  have L2 : Looks (model prog w) hh (typeOf (.ref x)) (.ref C) := I.type
  have L3 : Looks (model prog w) hh (fillsNumberSlot (.type "int") "mul") true := Looks.of_pure PySem.F.fills_int_mul
  have L4 : Looks (model prog w) hh (fillsNumberSlot (.ref C) "mul") true := fills_K X hcd hm hs
  have L5 : Looks (model prog w) hh (isSubtype (.ref C) (.type "int")) false := looks_subIn X hsub
  have L7 : Looks (model prog w) hh (numberSlotInPython (.type "int") "mul") false := Looks.of_pure rfl
  have hne : (Value.type "int" == Value.ref C) = false := Bool.eq_false_iff.mpr fun q => by cases beq_iff_eq.mp q
  simp only [binaryOp, show Operator.Mult.info = ("*", "mul") from rfl]
  refine wpAny_holding (wpAny_bind ?_)
  unfold binaryOp1
  refine wpAny_bind (L1.at (wpAny_bind (L2.at (wpAny_bind (L3.at ?_)))))
  simp only [hne, Bool.false_eq_true, if_false]
  ksp_lk
  unfold tryMethod
  refine wpAny_bind (wpAny_callSpecial?_slot hT PySem.F.slot_int_mul (wpAny_call_entry PySem.F.slot_int_mul hT PySem.F.entry_int_mul (int_mul_ref hx hd ⟨_, rfl, wpAny_pure ?_⟩) (PySem.F.args_int_mul_2 _ _)))
  show wpAny _ _ (tryMethod (.ref x) (dunderR "mul") (.int i t) >>= _) _ _ _
  refine wpAny_bind (wpAny_mono one (fun r s' hr' => ?_) fun _ _ e => e)
  obtain ⟨v, rfl, hq⟩ := hr'
  ksp_lk
  exact hq
end
section
variable {X : Cx} {CX : CXT} {k : Nat} {f g C : Addr} {fd : FuncData} {ps : List Str} {sp : Sp} {E : XK}
theorem vint (i : Int) (t : Tok) : RelV (.int i) (Value.int i t) := ⟨t, rfl⟩
/-- o op n, n an int: an object comes back -/
def rBinOI (C : Addr) (sp : Sp) (E : XK) : R2 := fun x y H Q => ∃ a dx fs, ∃ i : Int, x = .ref a ∧ y = .int i ∧ H a = some (.ins C dx fs) ∧ sp [.ref a, .int i] H (fun v H' => ∃ r, v = .ref r ∧ Q (.ref r) H') E
theorem bin_ownI {op : Operator} {name nameR : Str} {rc fo ro : Option Value} (hn : PySem.dunder op.info.2 = name) (hnR : dunderR op.info.2 = nameR) (m : Meth X.K C name f) (sf : PySem.W.selfFirst X.K C = true) (hr' : PySem.W.findIn X.K (.ref C) nameR = some rc) (hp : rc = none ∨ ∃ g : Addr, rc = some (.ref g))
    (h1 : PySem.W.findIn X.K (.type "int") name = some fo) (h2 : PySem.W.findIn X.K (.type "int") nameR = some ro) (hsub : PySem.W.subIn X.K (.type "int") (.ref C) = some false)
    (F : FnOk X.prog X.w X.K X.mg X.base CX k f fd ps sp) (hr : Room k X.A) (hb : Binds X.K fd ps []) (hx : ∀ σ, PassesAt CX X σ E) : OpR X (binaryOp op) (rBinOI C sp E) := by
  subst hn
  subst hnR
  intro pins s σ H x y v u Q I rx ry h
  obtain ⟨a, dx, fs, i, rfl, rfl, ha, q⟩ := h
  cases rx
  obtain ⟨t, rfl⟩ := ry
  obtain ⟨ox, od, J⟩ := inst_at I ha
  obtain ⟨m', hF⟩ := I.fr
  refine PySem.W.ksp_binT hF I.ok.mod.kin J (by rfl) sf m.at_ m.fn hr' hp h1 h2 hsub (wpAny_mono (own_run (E := fun _ => E) F hr rfl hb (hx σ) I (.cons vref (.cons (vint _ t) .nil)) q) (fun u s' hu => ?_) fun _ _ x => x)
  obtain ⟨v, H', I', rv, r, rfl, q'⟩ := hu
  cases rv
  exact ⟨.ref r, H', I', vref, q'⟩
/-- n * o, n an int: the object's own __rmul__ -/
def rMulOI (C : Addr) (sp : Sp) (E : XK) : R2 := fun x y H Q => ∃ a dx fs, ∃ i : Int, x = .int i ∧ y = .ref a ∧ H a = some (.ins C dx fs) ∧ sp [.ref a, .int i] H (fun v H' => ∃ r, v = .ref r ∧ Q (.ref r) H') E
theorem rmul_own {gm : Addr} (m0 : Meth X.K C "__mul__" gm) (m : Meth X.K C "__rmul__" f) (sf : PySem.W.selfFirst X.K C = true) (hsub : PySem.W.subIn X.K (.ref C) (.type "int") = some false)
    (F : FnOk X.prog X.w X.K X.mg X.base CX k f fd ps sp) (hr : Room k X.A) (hb : Binds X.K fd ps []) (hx : ∀ σ, PassesAt CX X σ E) : OpR X (binaryOp .Mult) (rMulOI C sp E) := by
  intro pins s σ H x y v u Q I rx ry h
  obtain ⟨a, dx, fs, i, rfl, rfl, ha, q⟩ := h
  cases ry
  obtain ⟨t, rfl⟩ := rx
  obtain ⟨mA, J0, _⟩ := ins_get I.hok ha
  obtain ⟨od, J, _⟩ := J0.look
  obtain ⟨m', hF⟩ := I.fr
  have h0 : PySem.W.findIn X.K (.ref C) (PySem.dunder "mul") = some (some (.ref gm)) := m0.at_
  have h1 : PySem.W.findIn X.K (.ref C) (dunderR "mul") = some (some (.ref f)) := m.at_
  refine rmul_K hF I.ok.mod.kin J (by rfl) sf h0 h1 m.fn hsub (wpAny_mono (own_run (E := fun _ => E) F hr rfl hb (hx σ) I (.cons vref (.cons (vint _ t) .nil)) q) (fun u s' hu => ?_) fun _ _ x => x)
  obtain ⟨v, H', I', rv, r, rfl, q'⟩ := hu
  cases rv
  exact ⟨.ref r, H', I', vref, q'⟩
end
end KO
namespace SX
open PySem PySem.Spec PyProof.Rows L2 KO
/-! ### small words -/
theorem iteD {c A B : Prop} [Decidable c] (hc : ¬ c) (h : B) : if decide c = true then A else B := by
  rw [decide_eq_false hc]
  exact iteF h
theorem iteDT {c A B : Prop} [Decidable c] (hc : c) (h : A) : if decide c = true then A else B := by
  rw [decide_eq_true hc]
  exact iteT h
theorem iteND {c A B : Prop} [Decidable c] (hc : c) (h : B) : if (!decide c) = true then A else B := iteNS hc h
theorem iteDs {c A B : Prop} [Decidable c] (h1 : c → A) (h2 : ¬ c → B) : if decide c = true then A else B := by
  by_cases h : c
  · exact iteDT h (h1 h)
  · exact iteD h (h2 h)
/-- a op b op c op d, three comparisons -/
def tChain3 (r r' r'' : R2) (ta tb tc td : TE) : TE := fun σ H Q => ta σ H fun x H1 => tb σ H1 fun y H2 => r x y H2 fun z H3 => ∃ k, z = .bl k ∧
  (if k = true then tc σ H3 fun y' H4 => r' y y' H4 fun z' H5 => ∃ k', z' = .bl k' ∧ (if k' = true then td σ H5 fun y'' H6 => r'' y' y'' H6 Q else Q (.bl false) H5) else Q (.bl false) H3)
theorem pe_chain3 {X : Cx} {a b c d : Expr} {pos : Pos} {ta tb tc td : TE} {op op' op2 : CmpOp} {r r' r'' : R2} (ho : OpR X (compareOp op) r) (ho' : OpR X (compareOp op') r') (ho2 : OpR X (compareOp op2) r'')
    (ha : PE X a ta) (hb : PE X b tb) (hc : PE X c tc) (hd : PE X d td) (hm : lastMarks [op, op', op2] [b, c, d] = false := by with_unfolding_all rfl) : PE X (.Compare a [op, op', op2] [b, c, d] pos) (tChain3 r r' r'' ta tb tc td) := by
  refine ⟨fun pins s σ H Q I h => ?_⟩
  refine Compare_chain (thn (ha.run pins s σ H _ I h) fun v s1 ⟨x, H1, I1, r1, q1⟩ => chain_link (thn (hb.run pins s1 σ H1 _ I1 q1) fun u s2 ⟨y, H2, I2, r2, q2⟩ =>
    thn (ho pins s2 σ H2 x y v u _ I2 r1 r2 q2) fun d s3 ⟨z, H3, I3, r3, k, e, q3⟩ => ?_)) hm
  subst e
  cases r3
  refine wpAny_truthy_bool ?_
  cases k with
  | false => exact ite_ff ⟨.bl false, H3, I3, rfl, q3⟩
  | true =>
    refine ite_tt (chain_link (thn (hc.run pins s3 σ H3 _ I3 q3) fun u' s4 ⟨y', H4, I4, r4, q4⟩ => thn (ho' pins s4 σ H4 y y' u u' _ I4 r2 r4 q4) fun d' s5 ⟨z', H5, I5, r5, k', e', q5⟩ => ?_))
    subst e'
    cases r5
    refine wpAny_truthy_bool ?_
    cases k' with
    | false => exact ite_ff ⟨.bl false, H5, I5, rfl, q5⟩
    | true => exact ite_tt (chain_last (thn (hd.run pins s5 σ H5 _ I5 q5) fun w' s6 ⟨y2, H6, I6, r6, q6⟩ => ho2 pins s6 σ H6 y' y2 u' w' Q I6 r4 r6 q6))
/-- isinstance of a built-in class -/
theorem isi {K : PySem.W.Frag} {H : Hp} {x : V} {a b : String} {r : Bool} {Q : VK} (h : TyX K H x (.type a)) (k : kitB a b = some r) (q : Q (.bl r) H) : rIsi K [x, .ty b] H Q :=
  ⟨x, .ty b, _, _, r, rfl, .ty b, h, kit_ty k, q⟩
/-! ### heaps -/
def But (p : Addr) (H H' : Hp) : Prop := ∀ b o, b ≠ p → H b = some o → H' b = some o
theorem But.refl (p : Addr) (H : Hp) : But p H H := fun _ _ _ h => h
theorem But.trans {p : Addr} {H H1 H2 : Hp} (a : But p H H1) (b : But p H1 H2) : But p H H2 := fun c o n h => b c o n (a c o n h)
theorem But.of {p : Addr} {H H' : Hp} (s : Same H H') : But p H H' := fun b o _ h => s b o h
theorem But.put {p : Addr} {H : Hp} {o : HO} : But p H (upd H p o) := fun b u n h => by
  rw [upd_ne n]
  exact h
theorem same_upd {H : Hp} {p : Addr} {o : HO} (h : H p = none) : Same H (upd H p o) := fun b x e => by
  rw [upd_ne (ne_of_none e h)]
  exact e
/-- a fresh object was changed -/
theorem Same.put {H H' : Hp} {p : Addr} {o : HO} (s : Same H H') (h : H p = none) : Same H (upd H' p o) := fun b x e => by
  rw [upd_ne (ne_of_none e h)]
  exact s b x e
theorem But.put' {q : Addr} {H H' : Hp} {p : Addr} {o : HO} (s : But q H H') (h : H p = none) : But q H (upd H' p o) := fun b x n e => by
  rw [upd_ne (ne_of_none e h)]
  exact s b x n e
/-- what is free behind was free before, but for the pool -/
theorem But.free {p : Addr} {H H' : Hp} (e : But p H H') {l : Addr} (hl : l ≠ p) (h : H' l = none) : H l = none := by
  cases q : H l with
  | none => rfl
  | some o =>
    rw [e l o hl q] at h
    cases h
def Pool (H : Hp) (p : Addr) : Prop := ∃ x f c : Int, H p = some (.lst [.int x, .int f, .int c])
theorem Pool.ne {H : Hp} {p l : Addr} (h : Pool H p) (hl : H l = none) : l ≠ p := fun e => by
  obtain ⟨x, f, c, h⟩ := h
  rw [e, h] at hl
  cases hl
theorem Pool.same {H H' : Hp} {p : Addr} (h : Pool H p) (s : Same H H') : Pool H' p := by
  obtain ⟨x, f, c, h⟩ := h
  exact ⟨x, f, c, s _ _ h⟩
theorem Pool.upd {H : Hp} {p l : Addr} {o : HO} (h : Pool H p) (hl : l ≠ p) : Pool (upd H l o) p := by
  obtain ⟨x, f, c, h⟩ := h
  exact ⟨x, f, c, by rw [upd_ne hl.symm]; exact h⟩

def Eqp (p : Addr) (H H' : Hp) : Prop := ∀ b, b ≠ p → H' b = H b
theorem Eqp.refl (p : Addr) (H : Hp) : Eqp p H H := fun _ _ => rfl
theorem Eqp.trans {p : Addr} {H H1 H2 : Hp} (a : Eqp p H H1) (b : Eqp p H1 H2) : Eqp p H H2 := fun c h => (b c h).trans (a c h)
theorem Same.eqp {H H1 H2 : Hp} {p : Addr} (s : Same H H1) (e : Eqp p H1 H2) (h : H p = none) : Same H H2 := fun b x q => by
  rw [e b (ne_of_none q h)]
  exact s b x q
/-- what stands stays, but for the pool at p; and a pool stands there -/
def Run (p : Addr) (H H' : Hp) : Prop := But p H H' ∧ Pool H' p
theorem Run.but {p : Addr} {H H' : Hp} (r : Run p H H') : But p H H' := r.1
theorem Run.trans {p : Addr} {H H1 H2 : Hp} (a : Run p H H1) (b : Run p H1 H2) : Run p H H2 := ⟨a.1.trans b.1, b.2⟩
theorem Run.get {p a : Addr} {H H' : Hp} {o : HO} (r : Run p H H') (h : H a = some o) (n : a ≠ p) : H' a = some o := r.1 _ _ n h
theorem upd_get {H : Hp} {p a : Addr} {u o : HO} (h : H a = some o) (hp : H p = none) : upd H p u a = some o := by
  rw [upd_ne (ne_of_none h hp)]; exact h
/-- an object that is no pool list is not at p -/
theorem Pool.tne {H : Hp} {p a : Addr} {xs : List V} (h : Pool H p) (ha : H a = some (.tup xs)) : a ≠ p := by
  obtain ⟨x, f, c, h⟩ := h
  exact ne_of ha h (by intro z; cases z)
theorem Pool.ine {H : Hp} {p a C dx : Addr} {fs : List (Str × V)} (h : Pool H p) (ha : H a = some (.ins C dx fs)) : a ≠ p := by
  obtain ⟨x, f, c, h⟩ := h
  exact ne_of ha h (by intro z; cases z)
/-! ### isinstance of a caught error that has a dict -/
section
variable {X : Cx} {CX : CXT} {k : Nat}
def rIsD (K : PySem.W.Frag) (D a : Addr) (cls : Value) (d : Option Addr) : List V → Hp → VK → Prop := fun xs H Q => cls = .ref D ∧ ∃ (dd : Addr) (fs : List (Str × V)), d = some dd ∧ H dd = some (.xd fs) ∧ rIsE K D a xs H Q
theorem call_isD {a D : Addr} {oe : Obj} {cls : Value} {d : Option Addr} {pn : List (Addr × Obj)} (C : ExcC X.K D) (hz : Zc cls d oe) (hf : ∃ vs, oe.data = .fields vs) : CallR (X.suite a ((a, oe) :: pn)) (.builtin "isinstance") (rIsD X.K D a cls d) := by
  intro pins s σ H xs us Q I r h
  obtain ⟨rfl, dd, fs, rfl, hdd, c, cv, b, rfl, hcv, e, q⟩ := h
  cases r with
  | cons rx rr =>
    cases rr with
    | cons rt rr =>
      cases rr
      cases rx
      have ec := hcv _ rt
      subst ec
      obtain ⟨hget, _⟩ := I.pin (a, oe) (List.mem_append.mpr (.inl List.mem_cons_self))
      obtain ⟨vs, hv⟩ := hf
      have hx : ObjOk X.prog X.w H s.heap dd (.xd fs) := I.hok dd _ hdd
      obtain ⟨mA, hns, hr⟩ := hx
      obtain ⟨od, ho, hl⟩ := lookIn_ns hns
      have J : PySem.W.InstAt s.heap a oe D (some od) := ⟨hget, hz.1, by unfold PySem.W.notCls; rw [hv] <;> rfl, by rw [hz.2]; exact ho⟩
      obtain ⟨cd, hc, _⟩ := PySem.W.any_some C.hd
      exact PySem.W.kia_one (PySem.W.kitx_exc (by rw [hc]; rfl) C.hg C.hk C.hs C.ha C.hn C.ht C.hm) I.kIn J e (fun z => nomatch z) fun tk => ⟨.bl b, H, I.kept (t' := tk) fun _ _ z => z, rfl, q⟩
/-! ### errors with one or two fields -/
theorem del_upd1 {H : Hp} {a dx : Addr} {o1 o2 o3 u : HO} (ha : H a = none) (ne : dx ≠ a) : upd (del (upd (upd (upd H a o1) dx o2) a o3) a) dx u = upd H dx u := by
  funext b
  unfold upd del
  by_cases h1 : b = dx
  · rw [if_pos h1, if_pos h1]
  · rw [if_neg h1, if_neg h1]
    by_cases h2 : b = a
    · rw [if_pos h2, h2, ha]
    · simp [h1, h2]
theorem del_upd2 {H : Hp} {a dx : Addr} {o1 o2 o3 o4 u : HO} (ha : H a = none) (ne : dx ≠ a) : upd (del (upd (upd (upd (upd H a o1) dx o2) a o3) dx o4) a) dx u = upd H dx u := by
  funext b
  unfold upd del
  by_cases h1 : b = dx
  · rw [if_pos h1, if_pos h1]
  · rw [if_neg h1, if_neg h1]
    by_cases h2 : b = a
    · rw [if_pos h2, h2, ha]
    · simp [h1, h2]
/-- __init__ with one field -/
def spX1 (C : Addr) (f : Str) : Sp := fun vs H Q _ => ∃ (a : Addr) (v : V), vs = [.ref a, v] ∧ H a = some (exo a C none) ∧ ∀ dx, H dx = none → dx ≠ a → Q .non (upd (upd H dx (exd dx [(f, v)])) a (exo a C (some dx)))
def spX2 (C : Addr) (f g : Str) : Sp := fun vs H Q _ => ∃ (a : Addr) (v u : V), vs = [.ref a, v, u] ∧ H a = some (exo a C none) ∧ ∀ dx, H dx = none → dx ≠ a → Q .non (upd (upd (upd H dx (exd dx [(f, v)])) a (exo a C (some dx))) dx (exd dx [(g, u), (f, v)]))
def tR1 (C : Addr) (f : Str) (te : TE) : L2.St → Hp → XK → Prop := fun σ H Q => te σ H fun v H1 => ∀ d, H1 d = none → Q (.ref C) (some d) (upd H1 d (.xd [(f, v)]))
def tR2 (C : Addr) (f g : Str) (te tf : TE) : L2.St → Hp → XK → Prop := fun σ H Q => te σ H fun v H1 => tf σ H1 fun u H2 => ∀ d, H2 d = none → Q (.ref C) (some d) (upd H2 d (.xd [(g, u), (f, v)]))
variable {x : Str} {C fI : Addr} {fd : FuncData} {f g : Str} {e e2 : Expr} {te tf : TE} {p pos : Pos} {ps : List Str}
theorem PMk.imp {e : Expr} {t u : L2.St → Hp → XK → Prop} (h : PMk X e t) (i : ∀ σ H Q, u σ H Q → t σ H Q) : PMk X e u := fun pins s σ H Q I q => h pins s σ H Q I (i σ H Q q)
theorem pmk_1 (T : OexC X.K C) (iC : PySem.W.findIn X.K (.ref C) "__init__" = some (some (.ref fI))) (tI : PySem.W.typeIn X.K (.ref fI) = some (.type "function"))
    (F1 : FnOk X.prog X.w X.K X.mg X.base CX0 k fI fd ps (spX1 C f)) (hr : Room (k + 1) X.A) (hb : Binds X.K fd ps []) (hg : Gl X x) (hm : X.mg x = some (.ref C)) (mono : ∀ σ H (Q Q' : VK), (∀ v H, Q v H → Q' v H) → te σ H Q → te σ H Q') (ha : PA X [e] (tCons te tNil))
    (hdb : (x == ("__debug__" : Str)) = false := by decide) (he : starEach [e] X.env = (false, eval e X.env) :: starEach [] X.env := by rfl) (hpl : (backTo pos (starEach [] X.env)).any (·.1) = false := by rfl) :
    PMk X (.Call (.Name x p) [e] [] pos) (tR1 C f te) := by
  refine PMk.imp (pmk_oex (dvs := []) T iC tI F1 hr hb .nil (fun _ _ _ _ _ _ _ h => h.elim) hg hm ha hdb he hpl) fun σ H Q q => ?_
  refine mono _ _ _ _ (fun v H1 q1 => ⟨by simp, fun a ha => ?_⟩) q
  refine ⟨a, v, rfl, upd_same, fun dx hdx ne => ⟨rfl, dx, [(f, v)], upd_same, ?_, ?_, ?_⟩⟩
  · rw [upd_ne ne, upd_same]
  · rw [upd_ne ne] at hdx; exact hdx
  · rw [del_upd1 ha ne]
    rw [upd_ne ne] at hdx
    exact q1 dx hdx
theorem pmk_2 (T : OexC X.K C) (iC : PySem.W.findIn X.K (.ref C) "__init__" = some (some (.ref fI))) (tI : PySem.W.typeIn X.K (.ref fI) = some (.type "function"))
    (F1 : FnOk X.prog X.w X.K X.mg X.base CX0 k fI fd ps (spX2 C f g)) (hr : Room (k + 1) X.A) (hb : Binds X.K fd ps []) (hg : Gl X x) (hm : X.mg x = some (.ref C)) (mono : ∀ σ H (Q Q' : VK), (∀ v H, Q v H → Q' v H) → te σ H Q → te σ H Q') (mono2 : ∀ σ H (Q Q' : VK), (∀ v H, Q v H → Q' v H) → tf σ H Q → tf σ H Q')
    (ha : PA X [e, e2] (tCons te (tCons tf tNil)))
    (hdb : (x == ("__debug__" : Str)) = false := by decide) (he : starEach [e, e2] X.env = (false, eval e X.env) :: starEach [e2] X.env := by rfl) (hpl : (backTo pos (starEach [e2] X.env)).any (·.1) = false := by rfl) :
    PMk X (.Call (.Name x p) [e, e2] [] pos) (tR2 C f g te tf) := by
  refine PMk.imp (pmk_oex (dvs := []) T iC tI F1 hr hb .nil (fun _ _ _ _ _ _ _ h => h.elim) hg hm ha hdb he hpl) fun σ H Q q => ?_
  refine mono _ _ _ _ (fun v H1 q1 => mono2 _ _ _ _ (fun u H2 q2 => ⟨by simp, fun a ha => ?_⟩) q1) q
  refine ⟨a, v, u, rfl, upd_same, fun dx hdx ne => ⟨rfl, dx, [(g, u), (f, v)], ?_, upd_same, ?_, ?_⟩⟩
  · rw [upd_ne (Ne.symm ne), upd_same]
  · rw [upd_ne ne] at hdx; exact hdx
  · rw [del_upd2 ha ne]
    rw [upd_ne ne] at hdx
    exact q2 dx hdx
theorem mono_C {v : V} : ∀ σ H (Q Q' : VK), (∀ v H, Q v H → Q' v H) → tC v σ H Q → tC v σ H Q' := fun _ _ _ _ h q => h _ _ q
theorem mono_V {i : Nat} : ∀ σ H (Q Q' : VK), (∀ v H, Q v H → Q' v H) → tVar i σ H Q → tVar i σ H Q' := fun _ _ _ _ h ⟨v, e, q⟩ => ⟨v, e, h _ _ q⟩
end
end SX
namespace SX
open PySem PySem.Spec PyProof.Rows L2 KO
theorem Run.flip {p : Addr} {H H1 H2 : Hp} (b : Run p H1 H2) (a : Run p H H1) : Run p H H2 := a.trans b
theorem Run.upd {p a : Addr} {H H1 : Hp} {o : HO} (r : Run p H H1) (n : H1 a = none) : Run p H (upd H1 a o) :=
  ⟨fun b x h e => upd_get (r.1 b x h e) n, r.2.upd (r.2.ne n)⟩
theorem Run.add {p : Addr} {H H1 H2 : Hp} (r : Run p H H1) (s : Same H1 H2) : Run p H H2 := ⟨fun b x h e => s _ _ (r.1 b x h e), r.2.same s⟩
theorem Run.nil {p : Addr} {H : Hp} (h : Pool H p) : Run p H H := ⟨But.refl p H, h⟩
/-- a tracked object that is not p's was changed -/
theorem Run.put {p a : Addr} {H H1 : Hp} {o : HO} (r : Run p H H1) (n : H a = none) (ne : a ≠ p) : Run p H (L2.upd H1 a o) :=
  ⟨fun b x h e => by rw [upd_ne (ne_of_none e n)]; exact r.1 b x h e, r.2.upd ne⟩
theorem Run.free {p a : Addr} {H H1 : Hp} (r : Run p H H1) (n : H1 a = none) : H a = none := r.1.free (r.2.ne n) n
end SX
namespace SX
open PySem PySem.Spec PyProof.Rows L2 KO
theorem Run.add' {p : Addr} {H H1 H2 : Hp} (s : Same H1 H2) (r : Run p H H1) : Run p H H2 := r.add s
theorem Pool.same' {H H' : Hp} {p : Addr} (s : Same H H') (h : Pool H p) : Pool H' p := h.same s
theorem Same.get {H H' : Hp} {a : Addr} {o : HO} (s : Same H H') (h : H a = some o) : H' a = some o := s _ _ h
end SX
namespace SX
open PySem PySem.Spec PyProof.Rows L2 KO
theorem Pool.rne {p : Addr} {H H' : Hp} {l : Addr} (r : Run p H H') (hl : H' l = none) : l ≠ p := r.2.ne hl
theorem Pool.run {p : Addr} {H H' : Hp} (r : Run p H H') : Pool H' p := r.2
end SX
namespace SX
open PySem PySem.Spec PyProof.Rows L2 KO
theorem Pool.ne' {p : Addr} {H : Hp} {l : Addr} (hl : H l = none) (h : Pool H p) : l ≠ p := h.ne hl
theorem Pool.te' {p : Addr} {H : Hp} {l : Addr} {xs : List V} (hl : H l = some (.tup xs)) (h : Pool H p) : l ≠ p := h.tne hl
theorem Pool.ie' {p : Addr} {H : Hp} {l C dx : Addr} {fs : List (Str × V)} (hl : H l = some (.ins C dx fs)) (h : Pool H p) : l ≠ p := h.ine hl
end SX
namespace SX
open PySem PySem.Spec PyProof.Rows L2 KO
/-- v shows the datum d, of depth below n, by objects apart from p -/
def Dq (p : Addr) : Nat → Hp → V → PyData → Prop
  | 0, _, _, _ => False
  | n + 1, H, v, d => match d with
    | .none => v = .non
    | .bool b => v = .bl b
    | .int i => v = .int i
    | .str s => v = .str s
    | .list ds => ∃ (a : Addr) (xs : List V), v = .ref a ∧ a ≠ p ∧ H a = some (.lst xs) ∧ xs.length = ds.length ∧ ds.length ≤ 1000 ∧ ∀ (i : Nat) (x : V) (e : PyData), xs[i]? = some x → ds[i]? = some e → Dq p n H x e
    | .tuple ds => ∃ (a : Addr) (xs : List V), v = .ref a ∧ a ≠ p ∧ H a = some (.tup xs) ∧ xs.length = ds.length ∧ ds.length ≤ 1000 ∧ ∀ (i : Nat) (x : V) (e : PyData), xs[i]? = some x → ds[i]? = some e → Dq p n H x e
    | .dict _ => False
variable {p : Addr} {H H' : Hp}
theorem Dq.keep (k : ∀ b o, b ≠ p → H b = some o → H' b = some o) : ∀ {n : Nat} {v : V} {d : PyData}, Dq p n H v d → Dq p n H' v d
  | 0, _, _, h => h.elim
  | n + 1, v, d, h => by
    cases d with
    | none => exact h
    | bool b => exact h
    | int i => exact h
    | str s => exact h
    | dict kv => exact h
    | list ds =>
      obtain ⟨a, xs, e, ne, ha, hl, hz, r⟩ := h
      exact ⟨a, xs, e, ne, k _ _ ne ha, hl, hz, fun i x e h1 h2 => Dq.keep k (r i x e h1 h2)⟩
    | tuple ds =>
      obtain ⟨a, xs, e, ne, ha, hl, hz, r⟩ := h
      exact ⟨a, xs, e, ne, k _ _ ne ha, hl, hz, fun i x e h1 h2 => Dq.keep k (r i x e h1 h2)⟩
theorem Dq.same {n : Nat} {v : V} {d : PyData} (h : Dq p n H v d) (s : Same H H') : Dq p n H' v d := h.keep fun b o _ e => s b o e
theorem Dq.run {n : Nat} {v : V} {d : PyData} (h : Dq p n H v d) (s : Run p H H') : Dq p n H' v d := h.keep s.1
theorem Dq.up : ∀ {n : Nat} {v : V} {d : PyData}, Dq p n H v d → Dq p (n + 1) H v d
  | 0, _, _, h => h.elim
  | n + 1, v, d, h => by
    cases d with
    | none => exact h
    | bool b => exact h
    | int i => exact h
    | str s => exact h
    | dict kv => exact h
    | list ds =>
      obtain ⟨a, xs, e, ne, ha, hl, hz, r⟩ := h
      exact ⟨a, xs, e, ne, ha, hl, hz, fun i x e h1 h2 => Dq.up (r i x e h1 h2)⟩
    | tuple ds =>
      obtain ⟨a, xs, e, ne, ha, hl, hz, r⟩ := h
      exact ⟨a, xs, e, ne, ha, hl, hz, fun i x e h1 h2 => Dq.up (r i x e h1 h2)⟩
theorem Dq.le {n m : Nat} (hm : n ≤ m) {v : V} {d : PyData} (h : Dq p n H v d) : Dq p m H v d := by
  obtain ⟨k, rfl⟩ := Nat.exists_eq_add_of_le hm
  clear hm
  induction k with
  | zero => exact h
  | succ k ih => exact ih.up
theorem DpAll.of {K : PySem.W.Frag} : ∀ {xs : List V} {ds : List PyData}, xs.length = ds.length → (∀ (i : Nat) (x : V) (e : PyData), xs[i]? = some x → ds[i]? = some e → Dp K H x e) → DpAll K H xs ds
  | [], [], _, _ => .nil
  | [], _ :: _, h, _ => by simp at h
  | _ :: _, [], h, _ => by simp at h
  | x :: xs, d :: ds, h, r => .cons (r 0 x d rfl rfl) (DpAll.of (by simpa using h) fun i y e h1 h2 => r (i + 1) y e (by simpa using h1) (by simpa using h2))
theorem Dq.dp {K : PySem.W.Frag} : ∀ {n : Nat} {v : V} {d : PyData}, Dq p n H v d → Dp K H v d
  | 0, _, _, h => h.elim
  | n + 1, v, d, h => by
    cases d with
    | none => obtain rfl : v = _ := h; exact .non
    | bool b => obtain rfl : v = _ := h; exact .bl b
    | int i => obtain rfl : v = _ := h; exact .int i
    | str s => obtain rfl : v = _ := h; exact .str s
    | dict kv => exact h.elim
    | list ds =>
      obtain ⟨a, xs, rfl, ne, ha, hl, hz, r⟩ := h
      exact .lst (SqL.of ha) (DpAll.of hl fun i x e h1 h2 => (r i x e h1 h2).dp)
    | tuple ds =>
      obtain ⟨a, xs, rfl, ne, ha, hl, hz, r⟩ := h
      exact .tup (SqT.of ha) (DpAll.of hl fun i x e h1 h2 => (r i x e h1 h2).dp)
/-- a list or a tuple, by its items -/
theorem dq_int {n : Nat} {i : Int} : Dq p (n + 1) H (.int i) (.int i) := rfl
theorem dq_str {n : Nat} {i : Str} : Dq p (n + 1) H (.str i) (.str i) := rfl
theorem dq_bl {n : Nat} {i : Bool} : Dq p (n + 1) H (.bl i) (.bool i) := rfl
theorem dq_non {n : Nat} : Dq p (n + 1) H .non .none := rfl
/-- all of a list -/
def DqA (p : Addr) (n : Nat) (H : Hp) (xs : List V) (ds : List PyData) : Prop := xs.length = ds.length ∧ ∀ (i : Nat) (x : V) (e : PyData), xs[i]? = some x → ds[i]? = some e → Dq p n H x e
theorem DqA.nil {n : Nat} : DqA p n H [] [] := ⟨rfl, fun i x e h => by simp at h⟩
theorem DqA.cons {n : Nat} {x : V} {xs : List V} {d : PyData} {ds : List PyData} (h : Dq p n H x d) (r : DqA p n H xs ds) : DqA p n H (x :: xs) (d :: ds) := ⟨by simp [r.1], fun i y e h1 h2 => by
  cases i with
  | zero =>
    simp at h1 h2
    subst h1 h2
    exact h
  | succ i => exact r.2 i y e (by simpa using h1) (by simpa using h2)⟩
theorem DqA.keep {n : Nat} (k : ∀ b o, b ≠ p → H b = some o → H' b = some o) {xs : List V} {ds : List PyData} (h : DqA p n H xs ds) : DqA p n H' xs ds := ⟨h.1, fun i x e h1 h2 => (h.2 i x e h1 h2).keep k⟩
theorem DqA.same {n : Nat} {xs : List V} {ds : List PyData} (h : DqA p n H xs ds) (s : Same H H') : DqA p n H' xs ds := h.keep fun b o _ e => s b o e
theorem DqA.run {n : Nat} {xs : List V} {ds : List PyData} (h : DqA p n H xs ds) (s : Run p H H') : DqA p n H' xs ds := h.keep s.1
theorem DqA.append {n : Nat} {xs ys : List V} {ds es : List PyData} (h : DqA p n H xs ds) (r : DqA p n H ys es) : DqA p n H (xs ++ ys) (ds ++ es) := by
  refine ⟨by simp [h.1, r.1], fun i x e h1 h2 => ?_⟩
  by_cases hi : i < xs.length
  · rw [List.getElem?_append_left hi] at h1
    rw [List.getElem?_append_left (by rw [← h.1]; exact hi)] at h2
    exact h.2 i x e h1 h2
  · rw [List.getElem?_append_right (by omega)] at h1
    rw [List.getElem?_append_right (by rw [← h.1]; omega), ← h.1] at h2
    exact r.2 _ x e h1 h2
theorem DqA.lst {n : Nat} {a : Addr} {xs : List V} {ds : List PyData} (r : DqA p n H xs ds) (ne : a ≠ p) (ha : H a = some (.lst xs)) (hz : ds.length ≤ 1000) : Dq p (n + 1) H (.ref a) (.list ds) := ⟨a, xs, rfl, ne, ha, r.1, hz, r.2⟩
theorem DqA.tup {n : Nat} {a : Addr} {xs : List V} {ds : List PyData} (r : DqA p n H xs ds) (ne : a ≠ p) (ha : H a = some (.tup xs)) (hz : ds.length ≤ 1000) : Dq p (n + 1) H (.ref a) (.tuple ds) := ⟨a, xs, rfl, ne, ha, r.1, hz, r.2⟩
theorem Dq.ofL {n : Nat} {v : V} {ds : List PyData} (h : Dq p (n + 1) H v (.list ds)) : ∃ (a : Addr) (xs : List V), v = .ref a ∧ a ≠ p ∧ H a = some (.lst xs) ∧ DqA p n H xs ds ∧ ds.length ≤ 1000 := by
  obtain ⟨a, xs, e, ne, ha, hl, hz, r⟩ := h
  exact ⟨a, xs, e, ne, ha, ⟨hl, r⟩, hz⟩
theorem Dq.ofT {n : Nat} {v : V} {ds : List PyData} (h : Dq p (n + 1) H v (.tuple ds)) : ∃ (a : Addr) (xs : List V), v = .ref a ∧ a ≠ p ∧ H a = some (.tup xs) ∧ DqA p n H xs ds ∧ ds.length ≤ 1000 := by
  obtain ⟨a, xs, e, ne, ha, hl, hz, r⟩ := h
  exact ⟨a, xs, e, ne, ha, ⟨hl, r⟩, hz⟩
theorem DqA.ints {n : Nat} : ∀ {ns : List Int}, DqA p (n + 1) H (ns.map V.int) (ns.map PyData.int)
  | [] => .nil
  | _ :: ns => .cons dq_int DqA.ints
theorem DqA.of_ints {n : Nat} : ∀ {ns : List Int} {xs : List V}, DqA p (n + 1) H xs (ns.map PyData.int) → xs = ns.map V.int
  | [], [], _ => rfl
  | [], _ :: _, h => by simp [DqA] at h
  | _ :: _, [], h => by simp [DqA] at h
  | m :: ns, x :: xs, h => by
    have e1 : x = .int m := h.2 0 x (.int m) rfl rfl
    have e2 := DqA.of_ints (n := n) (ns := ns) (xs := xs) ⟨by simpa using h.1, fun i y e h1 h2 => h.2 (i + 1) y e (by simpa using h1) (by simpa using h2)⟩
    rw [e1, e2]
    rfl
/-! ### what isinstance asks -/
variable {K : PySem.W.Frag}
theorem at_of' {α : Type} {xs : List α} {i : Int} {j : Nat} {x : α} (e : i = (j : Int)) (h : xs[j]? = some x) : atI xs i = some x := by
  subst e
  exact atI_nat h
end SX
namespace SX
open PySem PySem.Spec PyProof.Rows L2 KO
theorem lit_at {ns : List Int} {r : Int} (h0 : 0 ≤ r) (h1 : r < ns.length) : ∃ v : Int, atI (ns.map V.int) r = some (.int v) ∧ v ∈ ns := by
  obtain ⟨j, rfl⟩ := Int.eq_ofNat_of_zero_le h0
  have hj : j < ns.length := by omega
  exact ⟨ns[j], atI_nat (by rw [List.getElem?_map, List.getElem?_eq_getElem hj]; rfl), List.getElem_mem hj⟩
end SX
namespace SX
open PySem PySem.Spec PyProof.Rows L2 KO
/-! ### data of tuples alone: nothing that is written changes them -/
def Tq : Nat → Hp → V → PyData → Prop
  | 0, _, _, _ => False
  | n + 1, H, v, d => match d with
    | .none => v = .non
    | .bool b => v = .bl b
    | .int i => v = .int i
    | .str s => v = .str s
    | .list _ => False
    | .tuple ds => ∃ (a : Addr) (xs : List V), v = .ref a ∧ H a = some (.tup xs) ∧ xs.length = ds.length ∧ ds.length ≤ 1000 ∧ ∀ (i : Nat) (x : V) (e : PyData), xs[i]? = some x → ds[i]? = some e → Tq n H x e
    | .dict _ => False
/-- tuples stay -/
def TK (H H' : Hp) : Prop := ∀ b xs, H b = some (.tup xs) → H' b = some (.tup xs)
theorem TK.refl (H : Hp) : TK H H := fun _ _ h => h
theorem TK.trans {H H1 H2 : Hp} (a : TK H H1) (b : TK H1 H2) : TK H H2 := fun c xs h => b c xs (a c xs h)
theorem TK.run {p : Addr} {H H' : Hp} (hp : Pool H p) (r : Run p H H') : TK H H' := fun b xs h => r.1 b _ (hp.tne h) h
theorem TK.same {H H' : Hp} (s : Same H H') : TK H H' := fun b xs h => s b _ h
theorem TK.new {H : Hp} {a : Addr} {o : HO} (n : H a = none) : TK H (upd H a o) := fun b xs h => upd_get h n
theorem TK.put {H : Hp} {a : Addr} {ys : List V} {o : HO} (n : H a = some (.lst ys)) : TK H (upd H a o) := fun b xs h => by
  rw [upd_ne (ne_of h n (by intro z; cases z))]
  exact h
variable {p : Addr} {H H' : Hp}
theorem Tq.keep (k : TK H H') : ∀ {n : Nat} {v : V} {d : PyData}, Tq n H v d → Tq n H' v d
  | 0, _, _, h => h.elim
  | n + 1, v, d, h => by
    cases d with
    | none => exact h
    | bool b => exact h
    | int i => exact h
    | str s => exact h
    | dict kv => exact h
    | list ds => exact h
    | tuple ds =>
      obtain ⟨a, xs, e, ha, hl, hz, r⟩ := h
      exact ⟨a, xs, e, k _ _ ha, hl, hz, fun i x e h1 h2 => Tq.keep k (r i x e h1 h2)⟩
theorem Tq.up : ∀ {n : Nat} {v : V} {d : PyData}, Tq n H v d → Tq (n + 1) H v d
  | 0, _, _, h => h.elim
  | n + 1, v, d, h => by
    cases d with
    | none => exact h
    | bool b => exact h
    | int i => exact h
    | str s => exact h
    | dict kv => exact h
    | list ds => exact h
    | tuple ds =>
      obtain ⟨a, xs, e, ha, hl, hz, r⟩ := h
      exact ⟨a, xs, e, ha, hl, hz, fun i x e h1 h2 => Tq.up (r i x e h1 h2)⟩
theorem Tq.dq {ys : List V} (hp : H p = some (.lst ys)) : ∀ {n : Nat} {v : V} {d : PyData}, Tq n H v d → Dq p n H v d
  | 0, _, _, h => h.elim
  | n + 1, v, d, h => by
    cases d with
    | none => exact h
    | bool b => exact h
    | int i => exact h
    | str s => exact h
    | dict kv => exact h
    | list ds => exact h.elim
    | tuple ds =>
      obtain ⟨a, xs, e, ha, hl, hz, r⟩ := h
      exact ⟨a, xs, e, ne_of ha hp (by intro z; cases z), ha, hl, hz, fun i x e h1 h2 => Tq.dq hp (r i x e h1 h2)⟩
/-- the items of a list or a tuple -/
def TqA (n : Nat) (H : Hp) (xs : List V) (ds : List PyData) : Prop := xs.length = ds.length ∧ ∀ (i : Nat) (x : V) (e : PyData), xs[i]? = some x → ds[i]? = some e → Tq n H x e
theorem TqA.keep {n : Nat} {xs : List V} {ds : List PyData} (k : TK H H') (h : TqA n H xs ds) : TqA n H' xs ds := ⟨h.1, fun i x e h1 h2 => (h.2 i x e h1 h2).keep k⟩
theorem TqA.nil {n : Nat} : TqA n H [] [] := ⟨rfl, fun i x e h => by simp at h⟩
theorem TqA.cons {n : Nat} {x : V} {xs : List V} {d : PyData} {ds : List PyData} (h : Tq n H x d) (r : TqA n H xs ds) : TqA n H (x :: xs) (d :: ds) := ⟨by simp [r.1], fun i y e h1 h2 => by
  cases i with
  | zero =>
    simp at h1 h2
    subst h1 h2
    exact h
  | succ i => exact r.2 i y e (by simpa using h1) (by simpa using h2)⟩
theorem TqA.append {n : Nat} {xs ys : List V} {ds es : List PyData} (h : TqA n H xs ds) (r : TqA n H ys es) : TqA n H (xs ++ ys) (ds ++ es) := by
  refine ⟨by simp [h.1, r.1], fun i x e h1 h2 => ?_⟩
  by_cases hi : i < xs.length
  · rw [List.getElem?_append_left hi] at h1
    rw [List.getElem?_append_left (by rw [← h.1]; exact hi)] at h2
    exact h.2 i x e h1 h2
  · rw [List.getElem?_append_right (by omega)] at h1
    rw [List.getElem?_append_right (by rw [← h.1]; omega), ← h.1] at h2
    exact r.2 _ x e h1 h2
theorem TqA.dqa {n : Nat} {xs ys : List V} {ds : List PyData} (hp : H p = some (.lst ys)) (h : TqA n H xs ds) : DqA p n H xs ds := ⟨h.1, fun i x e h1 h2 => (h.2 i x e h1 h2).dq hp⟩
theorem TqA.tup {n : Nat} {a : Addr} {xs : List V} {ds : List PyData} (r : TqA n H xs ds) (ha : H a = some (.tup xs)) (hz : ds.length ≤ 1000) : Tq (n + 1) H (.ref a) (.tuple ds) := ⟨a, xs, rfl, ha, r.1, hz, r.2⟩
theorem TqA.lst {n : Nat} {a : Addr} {xs ys : List V} {ds : List PyData} (r : TqA n H xs ds) (hp : H p = some (.lst ys)) (ne : a ≠ p) (ha : H a = some (.lst xs)) (hz : ds.length ≤ 1000) : Dq p (n + 1) H (.ref a) (.list ds) := (r.dqa hp).lst ne ha hz
theorem TqA.ints {n : Nat} : ∀ {ns : List Int}, TqA (n + 1) H (ns.map V.int) (ns.map PyData.int)
  | [] => .nil
  | _ :: ns => .cons rfl TqA.ints
theorem TqA.of_ints {n : Nat} : ∀ {ns : List Int} {xs : List V}, TqA (n + 1) H xs (ns.map PyData.int) → xs = ns.map V.int
  | [], [], _ => rfl
  | [], _ :: _, h => by simp [TqA] at h
  | _ :: _, [], h => by simp [TqA] at h
  | m :: ns, x :: xs, h => by
    have e1 : x = .int m := h.2 0 x (.int m) rfl rfl
    have e2 := TqA.of_ints (n := n) (ns := ns) (xs := xs) ⟨by simpa using h.1, fun i y e h1 h2 => h.2 (i + 1) y e (by simpa using h1) (by simpa using h2)⟩
    rw [e1, e2]
    rfl
theorem Tq.ofT {n : Nat} {v : V} {ds : List PyData} (h : Tq (n + 1) H v (.tuple ds)) : ∃ (a : Addr) (xs : List V), v = .ref a ∧ H a = some (.tup xs) ∧ TqA n H xs ds ∧ ds.length ≤ 1000 := by
  obtain ⟨a, xs, e, ha, hl, hz, r⟩ := h
  exact ⟨a, xs, e, ha, ⟨hl, r⟩, hz⟩
theorem TqA.get {n i : Nat} {xs : List V} {ds : List PyData} {d : PyData} (h : TqA n H xs ds) (hd : ds[i]? = some d) : ∃ x, xs[i]? = some x ∧ Tq n H x d := by
  have hi : i < ds.length := (List.getElem?_eq_some_iff.mp hd).1
  have hx := List.getElem?_eq_getElem (l := xs) (i := i) (by rw [h.1]; exact hi)
  exact ⟨_, hx, h.2 i _ d hx hd⟩
theorem TqA.get' {n i : Nat} {xs : List V} {ds : List PyData} {x : V} (h : TqA n H xs ds) (hx : xs[i]? = some x) : ∃ d, ds[i]? = some d ∧ Tq n H x d := by
  have hi : i < xs.length := (List.getElem?_eq_some_iff.mp hx).1
  have hd := List.getElem?_eq_getElem (l := ds) (i := i) (by rw [← h.1]; exact hi)
  exact ⟨_, hd, h.2 i _ _ hx hd⟩
/-! ### comprehensions -/
theorem keepT {σ : L2.St} {H : Hp} {te : TE} {R : V → Hp → Prop} {N : Hp → Prop} (h : te σ H R) : tYes σ H fun b H3 => if b = true then te σ H3 R else N H3 := by
  show if true = true then te σ H R else N H
  exact iteT h
section
variable {K : PySem.W.Frag} {p D : Addr} {H1 : Hp} {g : TG} {tt : TT} {te : TE} {vs : List Nat} {σ : L2.St} {Qd : Hp → Prop} {m : Nat}
/-- what stands while the new list at D is filled -/
def Fill (p D : Addr) (H1 H' : Hp) (m : Nat) (ds : List PyData) : Prop := ∃ xs, H' D = some (.lst xs) ∧ TqA m H' xs ds ∧ Run p H1 H'
theorem Fill.start (hD : H1 D = none) (hp : Pool H1 p) : Fill p D H1 (upd H1 D (.lst [])) m [] := ⟨[], upd_same, .nil, (Run.nil hp).upd hD⟩
theorem Fill.more {H' H4 : Hp} {ds : List PyData} {d : PyData} {y : V} (hD : H1 D = none) (hp : Pool H1 p) (f : Fill p D H1 H' m ds) (hz : ds.length ≤ 1000) (r : Run p H' H4) (hy : Tq m H4 y d) :
    ∃ acc, H4 D = some (.lst acc) ∧ acc.length < sizeLine ∧ Fill p D H1 (upd H4 D (.lst (acc ++ [y]))) m (ds ++ [d]) := by
  obtain ⟨xs, h1, h2, h3⟩ := f
  have Dp : D ≠ p := hp.ne hD
  have h1' : H4 D = some (.lst xs) := r.1 _ _ Dp h1
  have k : TK H4 (upd H4 D (.lst (xs ++ [y]))) := TK.put h1'
  exact ⟨xs, h1', by rw [h2.1, sizeLine_eq]; omega, xs ++ [y], upd_same, ((h2.keep (TK.run h3.2 r)).append (.cons hy .nil)).keep k, (h3.trans r).put hD Dp⟩
theorem Fill.none {H' H4 : Hp} {ds : List PyData} (hD : H1 D = none) (hp : Pool H1 p) (f : Fill p D H1 H' m ds) (r : Run p H' H4) : Fill p D H1 H4 m ds := by
  obtain ⟨xs, h1, h2, h3⟩ := f
  exact ⟨xs, r.1 _ _ (hp.ne hD) h1, h2.keep (TK.run h3.2 r), h3.trans r⟩
end
end SX
namespace SX
open PySem PySem.Spec PyProof.Rows L2 KO
theorem ixN_of {n : Nat} {i : Int} (h0 : 0 ≤ i) (h1 : i < n) : ixN n i = some i.toNat := by
  unfold ixN
  rw [if_pos h0, if_pos h1]
end SX
namespace SX
open PySem PySem.Spec PyProof.Rows L2 KO
theorem imin (i j : Int) : (if j < i then j else i) = min i j := by
  by_cases h : j < i
  · rw [if_pos h]; omega
  · rw [if_neg h]; omega
theorem imax (i j : Int) : (if j > i then j else i) = max i j := by
  by_cases h : j > i
  · rw [if_pos h]; omega
  · rw [if_neg h]; omega
/-! ### spans of a net -/
abbrev Sp4 := Int × Int × Int × Int
def dSp (s : Sp4) : PyData := .tuple [.int s.1, .int s.2.1, .int s.2.2.1, .int s.2.2.2]
def gSp (T n : Int) (s : Sp4) : Prop := 0 ≤ s.1 ∧ s.1 < n ∧ 0 ≤ s.2.1 ∧ s.2.1 < n ∧ s.1 ≠ s.2.1 ∧ 0 ≤ s.2.2.1 ∧ s.2.2.1 ≤ s.2.2.2 ∧ s.2.2.2 ≤ s.2.2.1 + T - 1 ∧ s.2.2.2 ≤ 999
theorem turn_ne {s t n : Int} (h0 : 0 ≤ s) (h1 : s < n) (h2 : 0 ≤ t) (h3 : t < n - 1) : 0 ≤ (s + 1 + t) % n ∧ (s + 1 + t) % n < n ∧ s ≠ (s + 1 + t) % n := by
  have a := Int.emod_nonneg (s + 1 + t) (show n ≠ 0 by omega)
  have b := Int.emod_lt_of_pos (s + 1 + t) (show 0 < n by omega)
  refine ⟨a, b, fun e => ?_⟩
  by_cases c : s + 1 + t < n
  · rw [Int.emod_eq_of_lt (by omega) c] at e
    omega
  · have d : (s + 1 + t) % n = s + 1 + t - n := by
      rw [← Int.sub_emod_right (s + 1 + t) n]
      exact Int.emod_eq_of_lt (by omega) (by omega)
    omega
theorem tq_sp {H : Hp} {a : Addr} {s e l m : Int} (h : H a = some (.tup [.int s, .int e, .int l, .int m])) : Tq 2 H (.ref a) (dSp (s, e, l, m)) :=
  TqA.tup (.cons rfl (.cons rfl (.cons rfl (.cons rfl .nil)))) h (by simp)
theorem sp_of {H : Hp} {v : V} {s : Sp4} (h : Tq 2 H v (dSp s)) : ∃ a, v = .ref a ∧ H a = some (.tup [.int s.1, .int s.2.1, .int s.2.2.1, .int s.2.2.2]) := by
  obtain ⟨a, xs, rfl, ha, hx, _⟩ := Tq.ofT h
  have := TqA.of_ints (n := 0) (ns := [s.1, s.2.1, s.2.2.1, s.2.2.2]) hx
  subst this
  exact ⟨a, rfl, ha⟩
/-- list of data: an item by a number -/
theorem at_lst {n : Nat} {H : Hp} {xs : List V} {ds : List PyData} (h : TqA n H xs ds) {i : Int} (h0 : 0 ≤ i) (h1 : i < ds.length) : ∃ x d, atI xs i = some x ∧ ds[i.toNat]? = some d ∧ Tq n H x d := by
  obtain ⟨j, rfl⟩ := Int.eq_ofNat_of_zero_le h0
  have hj : j < ds.length := by omega
  obtain ⟨x, hx, hq⟩ := h.get (List.getElem?_eq_getElem hj)
  exact ⟨x, _, atI_nat hx, List.getElem?_eq_getElem hj, hq⟩
theorem TqA.set {n : Nat} {H : Hp} {xs : List V} {ds : List PyData} (h : TqA n H xs ds) {x : V} {d : PyData} (hx : Tq n H x d) (j : Nat) : TqA n H (xs.set j x) (ds.set j d) := by
  refine ⟨by simp [h.1], fun i y e h1 h2 => ?_⟩
  rw [List.getElem?_set] at h1 h2
  by_cases hij : j = i
  · subst hij
    rw [if_pos rfl] at h1 h2
    split at h1
    · rename_i hl
      rw [if_pos (by rw [← h.1]; exact hl)] at h2
      cases h1
      cases h2
      exact hx
    · cases h1
  · rw [if_neg hij] at h1 h2
    exact h.2 i y e h1 h2
end SX
namespace SX
open PySem PySem.Spec PyProof.Rows L2 KO
def spSpans (H H' : Hp) (p a : Addr) (T n c : Int) : Prop := ∃ (xs : List V) (sps : List Sp4), H' a = some (.lst xs) ∧ TqA 2 H' xs (sps.map dSp) ∧ (sps.length : Int) = c ∧ (∀ s ∈ sps, gSp T n s) ∧ Run p H H'
theorem spSpans.run {H H1 H2 : Hp} {p a : Addr} {T n c : Int} (ne : a ≠ p) (h : spSpans H H1 p a T n c) (r : Run p H1 H2) : spSpans H H2 p a T n c := by
  obtain ⟨xs, sps, h1, h2, h3, h4, h5⟩ := h
  exact ⟨xs, sps, r.1 _ _ ne h1, h2.keep (TK.run h5.2 r), h3, h4, h5.trans r⟩
theorem spSpans.more {H H1 H2 : Hp} {p a b : Addr} {T n c c' s e l m : Int} (hn : H a = none) (ne : a ≠ p) {xs : List V} {sps : List Sp4} (h1 : H1 a = some (.lst xs)) (h2 : TqA 2 H1 xs (sps.map dSp)) (h3 : (sps.length : Int) = c) (h4 : ∀ s ∈ sps, gSp T n s) (h5 : Run p H H1)
    (r : Run p H1 H2) (hb : H2 b = none) (g : gSp T n (s, e, l, m)) (hc : c' = c + 1) : spSpans H (upd (upd H2 b (.tup [.int s, .int e, .int l, .int m])) a (.lst (xs ++ [.ref b]))) p a T n c' := by
  have h1' : H2 a = some (.lst xs) := r.1 _ _ ne h1
  have nb : a ≠ b := ne_of_none h1' hb
  have k1 : TK H2 (upd H2 b (.tup [.int s, .int e, .int l, .int m])) := TK.new hb
  have h1'' : (upd H2 b (.tup [.int s, .int e, .int l, .int m])) a = some (.lst xs) := upd_get h1' hb
  have k2 : TK _ (upd (upd H2 b (.tup [.int s, .int e, .int l, .int m])) a (.lst (xs ++ [.ref b]))) := TK.put h1''
  refine ⟨_, sps ++ [(s, e, l, m)], upd_same, ?_, by simp; omega, fun x hx => ?_, (((h5.trans r).upd hb).put hn ne)⟩
  · rw [List.map_append]
    refine TqA.keep k2 (TqA.append (TqA.keep k1 (h2.keep (TK.run h5.2 r))) (.cons (tq_sp upd_same) .nil))
  · rcases List.mem_append.mp hx with h | h
    · exact h4 x h
    · rw [List.mem_singleton.mp h]
      exact g
/-- one of them put at another's place -/
theorem spSpans.swap {H H1 : Hp} {p a : Addr} {T n c : Int} (hn : H a = none) (ne : a ≠ p) {xs : List V} {sps : List Sp4} (h1 : H1 a = some (.lst xs)) (h2 : TqA 2 H1 xs (sps.map dSp)) (h3 : (sps.length : Int) = c) (h4 : ∀ s ∈ sps, gSp T n s) (h5 : Run p H H1)
    {i : Nat} {x : V} {d : PyData} (hd : (sps.map dSp)[i]? = some d) (hx : Tq 2 H1 x d) (j : Nat) : spSpans H (upd H1 a (.lst (xs.set j x))) p a T n c := by
  rw [List.getElem?_map] at hd
  cases e : sps[i]? with
  | none => rw [e] at hd; cases hd
  | some s =>
    rw [e] at hd
    obtain rfl : dSp s = d := Option.some.inj hd
    refine ⟨_, sps.set j s, upd_same, ?_, by simp; exact h3, fun y hy => ?_, h5.put hn ne⟩
    · have := (h2.set hx j).keep (TK.put (o := .lst (xs.set j x)) h1)
      rw [List.map_set]
      exact this
    · rcases List.mem_or_eq_of_mem_set hy with h | h
      · exact h4 y h
      · rw [h]
        exact h4 s (List.mem_of_getElem? e)
end SX
namespace SX
theorem gSp_of {T n s e l d : Int} (h0 : 0 ≤ s) (h1 : s < n) (h : 0 ≤ e ∧ e < n ∧ s ≠ e) (h2 : 0 ≤ l) (h3 : 0 ≤ d) (h4 : d < T) (h5 : l + d ≤ 999) : gSp T n (s, e, l, l + d) :=
  ⟨h0, h1, h.1, h.2.1, h.2.2, h2, by show l ≤ l + d; omega, by show l + d ≤ l + T - 1; omega, h5⟩
end SX
namespace SX
open PySem PySem.Spec PyProof.Rows L2 KO
theorem lit_at' {xs : List V} {ns : List Int} (e : xs = ns.map V.int) {r : Int} (h0 : 0 ≤ r) (h1 : r < xs.length) : ∃ v : Int, atI xs r = some (.int v) ∧ v ∈ ns ∧ ns[r.toNat]? = some v := by
  subst e
  obtain ⟨j, rfl⟩ := Int.eq_ofNat_of_zero_le h0
  have hj : j < ns.length := by rw [List.length_map] at h1; omega
  exact ⟨ns[j], atI_nat (by rw [List.getElem?_map, List.getElem?_eq_getElem hj]; rfl), List.getElem_mem hj, List.getElem?_eq_getElem hj⟩
/-- a list of ints grows in a comprehension -/
theorem ints_more {H' H4 : Hp} {D p : Addr} {ns : List Int} {r : Int} (ne : D ≠ p) (h : H' D = some (.lst (ns.map V.int))) (hz : ns.length ≤ 1000) (R : Run p H' H4) :
    ∃ acc, H4 D = some (.lst acc) ∧ acc.length < sizeLine ∧ (upd H4 D (.lst (acc ++ [V.int r]))) D = some (.lst ((ns ++ [r]).map V.int)) :=
  ⟨_, R.1 _ _ ne h, by rw [List.length_map, sizeLine_eq]; omega, by rw [upd_same, List.map_append]; rfl⟩
theorem gone_b {rest T t : Int} (h0 : 0 ≤ rest) (h1 : rest < T) (hT : 2 ≤ T) (hT2 : T ≤ 60) (ht : 0 ≤ t) (h : t < 3 ∨ t < 1 + (999 - rest) / T) : 0 ≤ rest + T * t ∧ rest + T * t ≤ 999 := by
  have a : 0 ≤ T * t := Int.mul_nonneg (by omega) ht
  refine ⟨by omega, ?_⟩
  rcases h with h | h
  · have : T * t ≤ 60 * 2 := Int.mul_le_mul hT2 (by omega) ht (by decide)
    omega
  · have b : t * T ≤ 999 - rest := Int.le_of_lt_add_one (by
      have := (Int.le_ediv_iff_mul_le (by omega : 0 < T)).mp (show t ≤ (999 - rest) / T by omega)
      omega)
    have : T * t = t * T := Int.mul_comm _ _
    omega
theorem gSp_of2 {T n s e g b a : Int} (h0 : 0 ≤ s) (h1 : s < n) (h : 0 ≤ e ∧ e < n ∧ s ≠ e) (h2 : 0 ≤ b) (h3 : 0 ≤ a) (h4 : b ≤ g) (h5 : a + b ≤ T - 1) (h6 : g + a ≤ 999) : gSp T n (s, e, g - b, g + a) :=
  ⟨h0, h1, h.1, h.2.1, h.2.2, by show 0 ≤ g - b; omega, by show g - b ≤ g + a; omega, by show g + a ≤ g - b + T - 1; omega, h6⟩
end SX
namespace SX
open PySem PySem.Spec PyProof.Rows L2 KO
theorem iteNDT {c A B : Prop} [Decidable c] (hc : ¬ c) (h : A) : if (!decide c) = true then A else B := by
  rw [decide_eq_false hc]
  exact iteT h
theorem iteNDs {c A B : Prop} [Decidable c] (h1 : ¬ c → A) (h2 : c → B) : if (!decide c) = true then A else B := by
  by_cases h : c
  · exact iteND h (h2 h)
  · exact iteNDT h (h1 h)
/-- a net as it stands at a: its spans are the tuple at t -/
def NetAt (C : Addr) (H : Hp) (a : Addr) (T n : Int) (sps : List Sp4) : Prop := ∃ (dx t : Addr) (xs : List V), H a = some (.ins C dx [("round_length", .int T), ("events", .int n), ("spans", .ref t)]) ∧ H t = some (.tup xs) ∧ TqA 2 H xs (sps.map dSp)
theorem NetAt.keep {C : Addr} {H H' : Hp} {a : Addr} {T n : Int} {sps : List Sp4} (k : ∀ b o, (∀ xs, o ≠ .lst xs) → H b = some o → H' b = some o) (h : NetAt C H a T n sps) : NetAt C H' a T n sps := by
  obtain ⟨dx, t, xs, h1, h2, h3⟩ := h
  exact ⟨dx, t, xs, k _ _ (fun _ z => nomatch z) h1, k _ _ (fun _ z => nomatch z) h2, h3.keep fun b ys e => k _ _ (fun _ z => nomatch z) e⟩
theorem NetAt.run {C p : Addr} {H H' : Hp} {a : Addr} {T n : Int} {sps : List Sp4} (hp : Pool H p) (r : Run p H H') (h : NetAt C H a T n sps) : NetAt C H' a T n sps :=
  h.keep fun b o nl e => r.1 b o (fun z => by
    obtain ⟨x, f, c, q⟩ := hp
    rw [z, q] at e
    exact nl _ (Option.some.inj e).symm) e
theorem NetAt.same {C : Addr} {H H' : Hp} {a : Addr} {T n : Int} {sps : List Sp4} (s : Same H H') (h : NetAt C H a T n sps) : NetAt C H' a T n sps := h.keep fun b o _ e => s b o e
end SX
namespace SX
open PySem PySem.Spec PyProof.Rows L2 KO
theorem take_more {α : Type} {l : List α} {i : Nat} {x : α} (h : l[i]? = some x) : l.take (i + 1) = l.take i ++ [x] := by
  rw [List.take_add_one, h]
  rfl
/-- a new net -/
theorem net_new {C x dx t : Addr} {H H' : Hp} {T n : Int} {xs : List V} {sps : List Sp4} (nx : H x = none) (ndx : H dx = none) (k : ∀ b o, b ≠ x → (upd (upd H dx (.own x)) x (.ins C dx [])) b = some o → H' b = some o)
    (hx : H' x = some (.ins C dx [("round_length", .int T), ("events", .int n), ("spans", .ref t)])) (ht : H' t = some (.tup xs)) (hq : TqA 2 H xs (sps.map dSp)) : NetAt C H' x T n sps ∧ Same H H' := by
  have s : Same H H' := fun b o e => k b o (ne_of_none e nx) (by rw [upd_ne (ne_of_none e nx)]; exact upd_get e ndx)
  exact ⟨⟨dx, t, xs, hx, ht, hq.keep (TK.same s)⟩, s⟩
theorem sp_at {H : Hp} {xs : List V} {sps : List Sp4} (h : TqA 2 H xs (sps.map dSp)) {i : Nat} {x : V} (hx : xs[i]? = some x) : ∃ b sp, x = .ref b ∧ sps[i]? = some sp ∧ H b = some (.tup [.int sp.1, .int sp.2.1, .int sp.2.2.1, .int sp.2.2.2]) := by
  obtain ⟨d, hd, qd⟩ := h.get' hx
  rw [List.getElem?_map] at hd
  cases e : sps[i]? with
  | none => rw [e] at hd; cases hd
  | some sp =>
    rw [e] at hd
    obtain rfl : dSp sp = d := Option.some.inj hd
    obtain ⟨b, rfl, hb⟩ := sp_of qd
    exact ⟨b, sp, rfl, rfl, hb⟩
theorem sp_at' {H : Hp} {xs : List V} {sps : List Sp4} (h : TqA 2 H xs (sps.map dSp)) {i : Nat} {sp : Sp4} (hs : sps[i]? = some sp) : ∃ b, xs[i]? = some (.ref b) ∧ H b = some (.tup [.int sp.1, .int sp.2.1, .int sp.2.2.1, .int sp.2.2.2]) := by
  obtain ⟨x, hx, hq⟩ := h.get (d := dSp sp) (i := i) (by rw [List.getElem?_map, hs]; rfl)
  obtain ⟨b, rfl, hb⟩ := sp_of hq
  exact ⟨b, hx, hb⟩
end SX
namespace SX
open PySem PySem.Spec PyProof.Rows L2 KO
section
variable {X : Cx} {K : PySem.W.Frag}
theorem ix_listK (h : X.K = K) : IxR X (rIxL K) := by subst h; exact ix_list
theorem ix_tupK (h : X.K = K) : IxR X (rIxT K) := by subst h; exact ix_tup
theorem pe_fldK {e : Expr} {f : Str} {pos : Pos} {ta : TE} (h : X.K = K) (he : PE X e ta) (hb : attributeBase e f X.env (eval e X.env) = eval e X.env) : PE X (.Attribute e f pos) (tFld K ta f) := by subst h; exact pe_fld he hb
theorem call_tuple_ofK (h : X.K = K) : CallR X (.type "tuple") (fun xs H Q => ∃ p ys, xs = [.ref p] ∧ ((SqL K H p ys ∧ ∀ l, H l = none → Q (.ref l) (upd H l (.tup ys))) ∨ (SqT K H p ys ∧ Q (.ref p) H))) := by subst h; exact call_tuple_of
theorem call_list_ofK (h : X.K = K) : CallR X (.type "list") (fun xs H Q => ∃ p ys, xs = [.ref p] ∧ (SqL K H p ys ∨ SqT K H p ys) ∧ ∀ l, H l = none → Q (.ref l) (upd H l (.lst ys))) := by subst h; exact call_list_of
theorem call_len_seqK (h : X.K = K) : CallR X (.builtin "len") (fun xs H Q => ∃ p ys, xs = [.ref p] ∧ (SqL K H p ys ∨ SqT K H p ys) ∧ Q (.int ys.length) H) := by subst h; exact call_len_seq
theorem op_in_seqK (h : X.K = K) : OpR X (compareOp .In) (rIn K false) := by subst h; exact op_in_seq
theorem op_notIn_seqK (h : X.K = K) : OpR X (compareOp .NotIn) (rIn K true) := by subst h; exact op_notIn_seq
theorem op_eqDK (h : X.K = K) (hu : X.A.units + 64 < cLine) : OpR X (compareOp .Eq) (rEqD K) := by subst h; exact op_eqD hu
theorem op_neDK (h : X.K = K) (hu : X.A.units + 64 < cLine) : OpR X (compareOp .NotEq) (rNeD K) := by subst h; exact op_neD hu
theorem cr_sumK (h : X.K = K) (hc : X.calm = true) : CallR X (.builtin "sum") (rSum K) := by subst h; exact cr_sum hc
theorem call_isiK' (h : X.K = K) : CallR X (.builtin "isinstance") (rIsi K) := by subst h; exact call_isi
theorem pg_tupK {pos : Pos} {es : List Expr} {k : Nat} {t : TGs} {n : Nat} (hK : X.K = K) (hc : X.calm = true) (h : PGs X es t) (hn : (assignEach es X.env).length = n := by rfl) (hst : (assignEach es X.env).findIdx? (·.1) = none := by rfl) : PG X (.Tuple es k pos) (gTup K n t) := by
  subst hK
  exact pg_tup hc h hn hst
end
end SX
namespace SXT
open PySem PySem.Spec PyProof.Rows
open Sem (wp)
open AutoSeq1 (wpAny_loadPart')
theorem meets_enumerate_newT (l : Addr) (items : Array Value) (n : Nat) (dct : Option Addr) (sl : Array (Option Value)) :
    Meets (Builtin.«enumerate.__new__» ⟨[.type "enumerate", .ref l], []⟩) (fun _ R s => s.heap.get? l = some { cls := .type "tuple", dict := dct, data := .seq items n, slots := sl } ∧
      R (.ok (.ret (.ref (s.heap.push { cls := .type "tuple_iterator", data := .fields #[.ref l, .int 0 0] }).objs.size)))
        { s with heap := (s.heap.push { cls := .type "tuple_iterator", data := .fields #[.ref l, .int 0 0] }).push { cls := .type "enumerate", data := .fields #[.none, .bool false, .ref s.heap.objs.size, rawInt 0, .none, .none] } }) :=
  .of_wp fun prog w A R s h => by
    obtain ⟨hp, g, d, tk, os⟩ := s; obtain ⟨hl, h⟩ := h
    have hsub := sub_enumerate
    have hL : Heap.IsTuple (Shared.heap ⟨hp, g, d, tk, os⟩) l items := ⟨_, hl, rfl, n, rfl⟩
    wp_walk using wpAny_loadPart' hl
    refine wpAny_stack_any fun st => wpAny_pure ?_
    split
    · rename_i c _ _ _ _ _
      cases (c == Value.type "enumerate")
      · wp_walk using wpAny_loadPart' hl, wpAny_pyIter_tuple hL
        exact ⟨_, rfl, h⟩
      · wp_walk using wpAny_loadPart' hl, wpAny_pyIter_tuple hL
        exact ⟨_, rfl, h⟩
    · wp_walk using wpAny_loadPart' hl, wpAny_pyIter_tuple hL
      exact ⟨_, rfl, h⟩
section
variable {prog : Program} {w : World} {A : Around} {E : Value → Shared → Prop} {s : Shared}
theorem call_enumerate_tuple {l : Addr} {items : Array Value} {Q : Value → Shared → Prop} (hL : s.heap.IsTuple l items)
    (h : ∀ h', IsEnum h' (s.heap.objs.size + 1) s.heap.objs.size 0 .none → h'.IsTupleIter s.heap.objs.size l 0 → h'.objs.size = s.heap.objs.size + 2 →
      (∀ b o, s.heap.get? b = some o → h'.get? b = some o) → Q (.ref (s.heap.objs.size + 1)) { s with heap := h' }) :
    wpAny (model prog w) A (call (.type "enumerate") [.ref l]) Q E s := by
  obtain ⟨⟨c, dct, dt, sl⟩, hl, hc, n, hd⟩ := hL
  replace hc : c = .type "tuple" := hc
  replace hd : dt = .seq items n := hd
  subst hc hd
  refine callType_new F.called_enumerate (by decide) (F.typeCall_enumerate_1 _) (F.newCall_enumerate_1 _) (fun obj => F.args_object_init_2 obj _) F.entry_enumerate_new
    (meets_enumerate_newT l items n dct sl) ⟨hl, ?_⟩
  have hz : (s.heap.push { cls := .type "tuple_iterator", data := .fields #[.ref l, .int 0 0] }).objs.size = s.heap.objs.size + 1 := Heap.size_push ..
  show _ ∧ _
  rw [hz]
  have he : IsEnum ((s.heap.push { cls := .type "tuple_iterator", data := .fields #[.ref l, .int 0 0] }).push
      { cls := .type "enumerate", data := .fields #[.none, .bool false, .ref s.heap.objs.size, rawInt 0, .none, .none] }) (s.heap.objs.size + 1) s.heap.objs.size 0 .none := by
    have := Heap.get?_push_size (s.heap.push { cls := .type "tuple_iterator", data := .fields #[.ref l, .int 0 0] })
      (o := { cls := .type "enumerate", data := .fields #[.none, .bool false, .ref s.heap.objs.size, rawInt 0, .none, .none] }) rfl
    rw [hz] at this; exact this
  refine ⟨⟨_, he, rfl⟩, h _ he ⟨_, Heap.get?_push_of_some _ (Heap.get?_push_size _ rfl), rfl, rfl⟩ (by rw [Heap.size_push, hz]) fun b o x => Heap.get?_push_of_some _ (Heap.get?_push_of_some _ x)⟩
end
end SXT
namespace L2
open PySem PySem.Spec PyProof.Rows
/-- enumerate(t), t a tuple: each item in a new pair -/
def IteT (K : PySem.W.Frag) (a : Addr) : It :=
  ⟨fun i H => ∃ (xs : List V) (x : V), SqT K H a xs ∧ xs[i]? = some x, fun i H v H' => ∃ T x, v = .ref T ∧ H T = none ∧ H' = upd H T (.tup [.int (i : Nat), x]) ∧ ∀ xs, SqT K H a xs → xs[i]? = some x, fun i H => ∃ xs : List V, SqT K H a xs ∧ xs.length ≤ i⟩
theorem turn_enumT {P : Program} {w : World} {K : PySem.W.Frag} {elts : List Expr} {kk : Nat} {tpos : Pos} (a e it : Addr) :
    Turn P w K (.Tuple elts kk tpos) (IteT K a) [e, it] e (fun i h => (∃ old, IsEnum h e it ((i : Nat) : Int) old) ∧ h.IsTupleIter it a i ∧ e ≠ it ∧ a ≠ it ∧ a ≠ e) where
  mem := by simp
  obj := fun i h st b hb => by
    obtain ⟨⟨old, he⟩, ⟨o, ho, hc, hd⟩, _⟩ := st
    have e' : b = e ∨ b = it := by simpa using hb
    rcases e' with z | z
    · rw [z]; exact ⟨_, he, fun v q => nomatch q⟩
    · rw [z]; exact ⟨o, ho, fun v q => by rw [hd] at q; cases q⟩
  keep := fun i h h' st k => let ⟨⟨old, he⟩, hi, hne⟩ := st; ⟨⟨old, k e (by simp) _ he⟩, hi.at fun o q => k it (by simp) o q, hne⟩
  item := by
    intro X hP hw hK hc i pins s σ H E I hf st hg
    subst hP hw hK
    obtain ⟨⟨old, he⟩, hit, hne, hai, hae⟩ := st
    obtain ⟨xs, x, hq, hx⟩ := hg
    obtain ⟨its, rv, p, hz⟩ := I.tuple hq
    obtain ⟨u, hu, ru⟩ := rv.get hx
    have hel : e < s.heap.objs.size := Heap.lt_size he
    have hil : it < s.heap.objs.size := by obtain ⟨_, q, _⟩ := hit; exact Heap.lt_size q
    have hi : i < its.toArray.size := by
      have := (List.getElem?_eq_some_iff.mp hu).1
      simpa using this
    refine wpAny_pyNext_enum_itemD (Draws.tuple (A := X.A.in1) (I.ok.hd hc) it a hai its.toArray) he ⟨hit, p⟩ hi hne (by simp [hne, Ne.symm hae]) fun x' h' tk hP ho hst' hT hsz hk => ?_
    have ex : x' = u := Option.some.inj (hP.symm.trans (by simpa using hu))
    subst ex
    refine ⟨_, rfl, wpAny_letOwnedTupleGo_enum (s := { s with heap := h', toks := tk + 1 }) ho fun h'' he' sb => ?_⟩
    have hT2 : h''.get? s.heap.objs.size = some { cls := .type "tuple", data := .seq #[.int i tk, x'] } := (sb.2 _ (Nat.ne_of_gt hel)).trans hT
    have new : ObjOk X.prog X.w (upd H s.heap.objs.size (.tup [.int (i : Nat), x])) h'' s.heap.objs.size (.tup [.int (i : Nat), x]) :=
      ⟨by show 2 ≤ sizeLine; decide, [.int i tk, x'], .cons ⟨_, rfl⟩ (.cons ru .nil), ⟨_, hT2, rfl, _, rfl⟩⟩
    have I1 : Inv X pins σ (upd H s.heap.objs.size (.tup [.int (i : Nat), x])) { s with heap := h'', toks := tk + 1 } :=
      I.turnedNew (ch := [e, it]) (fun b ob hb q => (sb.2 b (fun z => hb (by simp [z]))).trans (hk b ob (fun z => hb (by simp [z])) (fun z => hb (by simp [z])) q)) hf (Nat.le_refl _) new
    refine ⟨.ref s.heap.objs.size, _, I1, rfl, ⟨_, x, rfl, I.hok.fresh (Nat.le_refl _), rfl, fun ys hy => by rw [I.tuple_inj hy hq]; exact hx⟩, ⟨⟨x', ?_⟩, hst'.1.at fun o q => (sb.2 it (Ne.symm hne)).trans q, hne, hai, hae⟩, fun b hb => ?_⟩
    · have e1 : ((i + 1 : Nat) : Int) = (i : Int) + 1 := by omega
      rw [e1]; exact he'
    · have hb' : b < s.heap.objs.size := by
        have e' : b = e ∨ b = it := by simpa using hb
        rcases e' with z | z
        · rw [z]; exact hel
        · rw [z]; exact hil
      rw [upd_ne (Nat.ne_of_lt hb')]
      exact (hf b hb).1
  done := by
    intro X hP hw hK hc i pins s σ H E I hf st hg
    subst hP hw hK
    obtain ⟨⟨old, he⟩, hit, hne, hai, hae⟩ := st
    obtain ⟨xs, hq, hx⟩ := hg
    obtain ⟨its, rv, p, hz⟩ := I.tuple hq
    obtain ⟨f0, f1, f2, f3, f4, f5⟩ := hf it (by simp)
    have hl := rv.length
    have dn : ∀ (s : Shared) (Q : Value → Shared → Prop) (E : Value → Shared → Prop), s.heap.IsTupleIter it a i ∧ s.heap.IsTuple a its.toArray →
        (∀ h' e, Heap.ExtBut it s.heap h' → (∃ o, h'.get? e = some o ∧ o.cls = .type "StopIteration") → E (.ref e) { s with heap := h' }) → wpAny (model X.prog X.w) X.A.in1 (Builtin.SmallTypes.nextOf (.ref it)) Q E s := fun s Q E st hE =>
      wpAny_nextOf_tuple_end (show X.A.in1.handled = none from I.ok.hd hc) st.1 st.2 (by simp; omega) hE
    have D : Draws X.prog X.w X.A.in1 it [it, a] i (fun j v => j < 0 ∧ v = v) (fun j h => h.IsTupleIter it a j ∧ h.IsTuple a its.toArray ∧ i ≤ j) :=
      { live := fun _ _ st => let ⟨o, ho, _⟩ := st.1; ⟨o, ho⟩
        frame := fun _ _ _ st hk => ⟨st.1.at fun o e => hk it (by simp) o e, st.2.1.at fun o e => hk a (by simp) o e, st.2.2⟩
        item := fun j s Q E hj st _ => absurd st.2.2 (by omega)
        done := fun s Q E st hE => dn s Q E ⟨st.1, st.2.1⟩ hE }
    exact wpAny_pyNext_enum_endD D he ⟨hit, p, Nat.le_refl _⟩ fun h' eb => ⟨rfl, I.turned (t' := s.toks) (fun b o hb q => eb b o hb q) f0 f1 f3 f4 f5⟩
  self := fun A i s Q E st h => let ⟨⟨_, he⟩, _⟩ := st; wpAny_pyIter_enum he h
def iEnumT (K : PySem.W.Frag) (ta : TA) : TI := fun σ H R => ta σ H fun vs H1 => ∃ a xs, vs = [.ref a] ∧ SqT K H1 a xs ∧ R (IteT K a) H1
theorem pi_enumT {X : Cx} {e : Expr} {ta : TA} {p pos tpos : Pos} {elts : List Expr} {kk : Nat} (hg : Gl X "enumerate") (hm : X.mg "enumerate" = none) (ha : PA X [e] ta) (hs : starEach [e] X.env = [(false, eval e X.env)] := by rfl) :
    PI X (.Tuple elts kk tpos) (.Call (.Name "enumerate" p) [e] [] pos) (iEnumT X.K ta) := by
  refine ⟨fun pins s σ H R I h => ?_⟩
  refine Call_ (ld_blt I hg hm boot_enumerate (PyProof.Rows.callWith_type1 (thn (ha.run pos pins s σ H _ I h) fun us s1 ⟨vs, H1, I1, r1, q1⟩ => ?_) hs rfl))
  obtain ⟨a, xs, ex, hq, q⟩ := q1
  subst ex
  cases r1 with
  | cons r rr =>
    cases rr
    cases r
    obtain ⟨its, rv, p', hz⟩ := I1.tuple hq
    have hlt : a < s1.heap.objs.size := by obtain ⟨_, e, _⟩ := p'; exact Heap.lt_size e
    refine SXT.call_enumerate_tuple (show s1.heap.IsTuple a its.toArray from p') fun h' he hit hsz hk => wpAny_pyIter_enum he ?_
    have I2 : Inv X pins σ H1 { s1 with heap := h' } := I1.kept (t' := s1.toks) hk
    refine ⟨s1.heap.objs.size + 1, [s1.heap.objs.size + 1, s1.heap.objs.size], _, _, H1, rfl, I2, turn_enumT a (s1.heap.objs.size + 1) s1.heap.objs.size, ⟨⟨.none, he⟩, hit, Nat.succ_ne_self _, Nat.ne_of_lt hlt, Nat.ne_of_lt (Nat.lt_succ_of_lt hlt)⟩, fun b hb => ?_, q⟩
    have e' : b = s1.heap.objs.size + 1 ∨ b = s1.heap.objs.size := by simpa using hb
    have hle : s1.heap.objs.size ≤ b := by
      rcases e' with z | z
      · rw [z]; exact Nat.le_add_right _ _
      · rw [z]; exact Nat.le_refl _
    exact I1.fpOk hle (I1.hok.fresh hle)
section
variable {K : PySem.W.Frag} {a : Addr} {xs : List V} {g : TG} {tb : TS} {D : Ends} {σ : St} {H : Hp}
/-- the loop over enumerate(t) -/
theorem for_enumT (Pv : Nat → St → Hp → Prop) (h0 : Pv 0 σ H) (hq : ∀ i σ H, i ≤ xs.length → Pv i σ H → SqT K H a xs)
    (hs : ∀ i x T σ H, xs[i]? = some x → Pv i σ H → H T = none → g (.ref T) σ (upd H T (.tup [.int (i : Nat), x])) fun σ2 H2 => tb { D with nx := Pv (i + 1), ct := Pv (i + 1), bk := D.nx } σ2 H2) (hd : ∀ σ H, Pv xs.length σ H → D.nx σ H) :
    ∃ W : Nat → Nat → St → Hp → Prop, (∃ m, W 0 m σ H) ∧ ∀ i m σ H, W i m σ H →
      ((IteT K a).stop i H ∧ D.nx σ H) ∨ ((IteT K a).go i H ∧ ∃ N : St → Hp → Prop, (∀ σ' H', N σ' H' → ∃ m', m' < m ∧ W (i + 1) m' σ' H') ∧ ∀ x H', (IteT K a).yld i H x H' → g x σ H' fun σ2 H2 => tb { D with nx := N, ct := N, bk := D.nx } σ2 H2) := by
  refine ⟨fun i m σ H => m = xs.length - i ∧ i ≤ xs.length ∧ Pv i σ H, ⟨xs.length, by simp, Nat.zero_le _, h0⟩, ?_⟩
  rintro i m σ H ⟨rfl, hi, p⟩
  have q := hq i σ H hi p
  by_cases hlt : i < xs.length
  · refine .inr ⟨⟨xs, xs[i], q, by simp [hlt]⟩, Pv (i + 1), fun σ' H' p' => ⟨xs.length - (i + 1), by omega, rfl, hlt, p'⟩, fun x H' y => ?_⟩
    obtain ⟨T, z, e1, e2, e3, e4⟩ := y
    subst e1 e3
    exact hs i z T σ H (e4 xs q) p e2
  · have e : i = xs.length := by omega
    subst e
    exact .inl ⟨⟨xs, q, Nat.le_refl _⟩, hd σ H p⟩
/-- the loop over enumerate(xs) -/
theorem for_enum (Pv : Nat → St → Hp → Prop) (h0 : Pv 0 σ H) (hq : ∀ i σ H, i ≤ xs.length → Pv i σ H → SqL K H a xs)
    (hs : ∀ i x T σ H, xs[i]? = some x → Pv i σ H → H T = none → g (.ref T) σ (upd H T (.tup [.int (i : Nat), x])) fun σ2 H2 => tb { D with nx := Pv (i + 1), ct := Pv (i + 1), bk := D.nx } σ2 H2) (hd : ∀ σ H, Pv xs.length σ H → D.nx σ H) :
    ∃ W : Nat → Nat → St → Hp → Prop, (∃ m, W 0 m σ H) ∧ ∀ i m σ H, W i m σ H →
      ((Ite K a).stop i H ∧ D.nx σ H) ∨ ((Ite K a).go i H ∧ ∃ N : St → Hp → Prop, (∀ σ' H', N σ' H' → ∃ m', m' < m ∧ W (i + 1) m' σ' H') ∧ ∀ x H', (Ite K a).yld i H x H' → g x σ H' fun σ2 H2 => tb { D with nx := N, ct := N, bk := D.nx } σ2 H2) := by
  refine ⟨fun i m σ H => m = xs.length - i ∧ i ≤ xs.length ∧ Pv i σ H, ⟨xs.length, by simp, Nat.zero_le _, h0⟩, ?_⟩
  rintro i m σ H ⟨rfl, hi, p⟩
  have q := hq i σ H hi p
  by_cases hlt : i < xs.length
  · refine .inr ⟨⟨xs, xs[i], q, by simp [hlt]⟩, Pv (i + 1), fun σ' H' p' => ⟨xs.length - (i + 1), by omega, rfl, hlt, p'⟩, fun x H' y => ?_⟩
    obtain ⟨T, z, e1, e2, e3, e4⟩ := y
    subst e1 e3
    exact hs i z T σ H (e4 xs q) p e2
  · have e : i = xs.length := by omega
    subst e
    exact .inl ⟨⟨xs, q, Nat.le_refl _⟩, hd σ H p⟩
end
section
variable {K : PySem.W.Frag} {a : Addr} {xs : List V} {g : TG} {tt : TT} {te : TE} {vs : List Nat} {σ : St} {H1 : Hp} {D : Addr} {Qd : Hp → Prop}
/-- the comprehension over enumerate(t) -/
theorem lc_enumT (Pv : Nat → Hp → Prop) (h0 : Pv 0 (upd H1 D (.lst []))) (hl : ∀ i H, i ≤ xs.length → Pv i H → SqT K H a xs)
    (hs : ∀ i x T H, xs[i]? = some x → Pv i H → H T = none → g (.ref T) (wipe σ vs) (upd H T (.tup [.int (i : Nat), x])) fun σ2 H2 => wipe σ2 vs = wipe σ vs ∧ tt σ2 H2 fun b H3 =>
      if b = true then te σ2 H3 fun y H4 => ∃ acc, H4 D = some (.lst acc) ∧ acc.length < sizeLine ∧ Pv (i + 1) (upd H4 D (.lst (acc ++ [y]))) else Pv (i + 1) H3) (hd : ∀ H, Pv xs.length H → Qd H) :
    ∃ W : Nat → Nat → Hp → Prop, (∃ m, W 0 m (upd H1 D (.lst []))) ∧ ∀ i m H, W i m H →
      ((IteT K a).stop i H ∧ Qd H) ∨ ((IteT K a).go i H ∧ ∃ Nx : Hp → Prop, (∀ H', Nx H' → ∃ m', m' < m ∧ W (i + 1) m' H') ∧ ∀ x H', (IteT K a).yld i H x H' → g x (wipe σ vs) H' fun σ2 H2 => wipe σ2 vs = wipe σ vs ∧ tt σ2 H2 fun b H3 =>
        if b = true then te σ2 H3 fun y H4 => ∃ acc, H4 D = some (.lst acc) ∧ acc.length < sizeLine ∧ Nx (upd H4 D (.lst (acc ++ [y]))) else Nx H3) := by
  refine ⟨fun i m H => m = xs.length - i ∧ i ≤ xs.length ∧ Pv i H, ⟨xs.length, by simp, Nat.zero_le _, h0⟩, ?_⟩
  rintro i m H ⟨rfl, hi, p⟩
  have q := hl i H hi p
  by_cases hlt : i < xs.length
  · refine .inr ⟨⟨xs, xs[i], q, by simp [hlt]⟩, Pv (i + 1), fun H' p' => ⟨xs.length - (i + 1), by omega, rfl, hlt, p'⟩, fun x H' y => ?_⟩
    obtain ⟨T, z, e1, e2, e3, e4⟩ := y
    subst e1 e3
    exact hs i z T H (e4 xs q) p e2
  · have e : i = xs.length := by omega
    subst e
    exact .inl ⟨⟨xs, q, Nat.le_refl _⟩, hd H p⟩
end
end L2
namespace SX
open PySem PySem.Spec PyProof.Rows L2 KO
section
variable {K : PySem.W.Frag} {H : Hp} {p : Addr} {xs : List V} {r : Int} {Q : VK}
theorem rixL_any (h : SqL K H p xs) (h0 : 0 ≤ r) (h1 : r < xs.length) (q : ∀ v, v ∈ xs → Q v H) : rIxL K (.ref p) (.int r) H Q := by
  obtain ⟨j, rfl⟩ := Int.eq_ofNat_of_zero_le h0
  have hj : j < xs.length := by omega
  exact ⟨p, xs, _, xs[j], rfl, rfl, h, atI_nat (List.getElem?_eq_getElem hj), q _ (List.getElem_mem hj)⟩
theorem rixL_ints {ns : List Int} (h : SqL K H p xs) (e : xs = ns.map V.int) (h0 : 0 ≤ r) (h1 : r < ns.length) (q : ∀ w : Int, w ∈ ns → Q (.int w) H) : rIxL K (.ref p) (.int r) H Q := by
  subst e
  refine rixL_any h h0 (by rw [List.length_map]; exact h1) fun v hv => ?_
  obtain ⟨w, hw, rfl⟩ := List.mem_map.mp hv
  exact q w hw
end
/-- all of them ints -/
def AllI (xs : List V) : Prop := ∀ x ∈ xs, ∃ i : Int, x = .int i
theorem AllI.get : ∀ {xs : List V}, AllI xs → ∃ ns : List Int, xs = ns.map V.int
  | [], _ => ⟨[], rfl⟩
  | x :: xs, h => by
    obtain ⟨i, rfl⟩ := h _ List.mem_cons_self
    obtain ⟨ns, rfl⟩ := AllI.get (xs := xs) fun y hy => h y (List.mem_cons_of_mem _ hy)
    exact ⟨i :: ns, rfl⟩
theorem AllI.of (ns : List Int) : AllI (ns.map V.int) := fun x hx => by
  obtain ⟨i, _, rfl⟩ := List.mem_map.mp hx
  exact ⟨i, rfl⟩
theorem AllI.nil : AllI [] := fun x hx => by cases hx
theorem AllI.one (i : Int) : AllI [.int i] := AllI.of [i]
theorem AllI.app {xs ys : List V} (a : AllI xs) (b : AllI ys) : AllI (xs ++ ys) := fun x hx => (List.mem_append.mp hx).elim (a x) (b x)
theorem AllI.cut {xs : List V} (a : AllI xs) (lo hi : Option Int) : AllI (cutV xs lo hi) := fun x hx => a x (List.mem_of_mem_drop (List.mem_of_mem_take hx))
theorem AllI.set {xs : List V} (a : AllI xs) (j : Nat) (i : Int) : AllI (xs.set j (.int i)) := fun x hx => (List.mem_or_eq_of_mem_set hx).elim (a x) fun e => ⟨i, e⟩
/-- a new list of ints -/
def NewI (H H' : Hp) (p b : Addr) (k : Nat) : Prop := ∃ ns : List Int, H b = none ∧ H' b = some (.lst (ns.map V.int)) ∧ ns.length ≤ k ∧ Run p H H'
theorem NewI.of {H H' : Hp} {p b : Addr} {k : Nat} {xs : List V} (n : H b = none) (h : H' b = some (.lst xs)) (a : AllI xs) (hk : xs.length ≤ k) (r : Run p H H') : NewI H H' p b k := by
  obtain ⟨ns, rfl⟩ := a.get
  exact ⟨ns, n, h, by rw [List.length_map] at hk; exact hk, r⟩
end SX
namespace SX
open PySem PySem.Spec PyProof.Rows L2 KO
theorem Run.free' {p a : Addr} {H H1 : Hp} (n : H1 a = none) (r : Run p H H1) : H a = none := r.free n
theorem cut_le {xs : List V} {k : Nat} {lo hi : Option Int} (h : xs.length ≤ k) : (cutV xs lo hi).length ≤ k := Nat.le_trans (cutV_length _ _ _) h
theorem app_le {xs ys : List V} {k j : Nat} (h : xs.length ≤ k) (h2 : ys.length ≤ j) : (xs ++ ys).length ≤ k + j := by rw [List.length_append]; omega
theorem set_le {xs : List V} {k j : Nat} {x : V} (h : xs.length ≤ k) : (xs.set j x).length ≤ k := by rw [List.length_set]; exact h
theorem map_le {xs : List Int} {k : Nat} (h : xs.length ≤ k) : (xs.map V.int).length ≤ k := by rw [List.length_map]; exact h
theorem add_le {a b k j m : Nat} (h : a ≤ k) (h2 : b ≤ j) (h3 : k + j ≤ m) : a + b ≤ m := by omega
end SX
namespace SX
open PySem PySem.Spec PyProof.Rows L2 KO
theorem one_le {x : V} : [x].length ≤ 1 := Nat.le_refl _
end SX
namespace SX
open PySem PySem.Spec PyProof.Rows L2 KO
theorem Run.upd' {p a : Addr} {H H1 : Hp} {o : HO} (n : H1 a = none) (r : Run p H H1) : Run p H (L2.upd H1 a o) := r.upd n
end SX
namespace SX
open PySem PySem.Spec PyProof.Rows L2 KO
theorem ix_seqK {X : Cx} {K : PySem.W.Frag} (h : X.K = K) : IxR X (rIx K) := by subst h; exact ix_seq
end SX
namespace L2
open PySem PySem.Spec PyProof.Rows
/-- several except clauses, each with a name: class, the name's slot, its suite -/
def wManyA (K : PySem.W.Frag) (Wout : WX) (D : Ends) : List (Value × Nat × (Addr → Value → Option Addr → TS)) → WX
  | [] => Wout
  | (c, i, ts) :: r => fun cls d σ H => ∃ b, PySem.W.exmOne K cls c = some b ∧ (b = true → ∀ a, H a = none → ts a cls d { nx := fun σ' H' => D.nx (σ'.set i none) H', rt := D.rt, bk := fun σ' H' => D.bk (σ'.set i none) H', ct := fun σ' H' => D.ct (σ'.set i none) H' } (σ.set i (some (.ref a))) H) ∧ (b = false → wManyA K Wout D r cls d σ H)
inductive HdsOkA (X : Cx) : List ExceptHandler → List (Value × Nat × (Addr → Value → Option Addr → TS)) → Prop
  | nil : HdsOkA X [] []
  | cons {x n : Str} {c : Value} {i : Nat} {ts : Addr → Value → Option Addr → TS} {b₀ : Stmt} {suite : List Stmt} {np pos' : Pos} {hds : List ExceptHandler} {l : List (Value × Nat × (Addr → Value → Option Addr → TS))} (hi : X.N[i]? = some n) (hln : X.env.kindOf n = some .local) (hc : Names X x c)
      (hsu : ∀ (a : Addr) (oe : Obj) (cls : Value) (d : Option Addr) (pn : List (Addr × Obj)), Zc cls d oe → (∃ vs, oe.data = .fields vs) → PSs (X.suite a ((a, oe) :: pn)) (b₀ :: suite) (ts a cls d)) (r : HdsOkA X hds l) :
      HdsOkA X (.ExceptHandler (some (.Name x np)) (some n) (b₀ :: suite) pos' :: hds) ((c, i, ts) :: l)
section
variable {X : Cx} {body : List Stmt} {h₀ : ExceptHandler} {hds : List ExceptHandler} {l : List (Value × Nat × (Addr → Value → Option Addr → TS))} {pos : Pos} {tb : WX → TS} {Wout : WX}
theorem ps_try_manyA (hs : X.stack = X.env :: X.outer) (hf : X.env.frame = some X.env.locals) (hN : X.N.Nodup) (tk : Takes X Wout)
    (hb : ∀ (W : WX) (pn : List (Addr × Obj)) (xe : Value → Shared → Prop), Takes (X.tr pn xe) W → PassesOwn (model X.prog X.w) X.A X.env xe → PSs (X.tr pn xe) body (tb W))
    (hh : HdsOkA X (h₀ :: hds) l) : PS X (.Try body (h₀ :: hds) [] [] pos) (fun D σ H => tb (wManyA X.K Wout D l) D σ H) := by
  refine ⟨fun pins s σ H D I h => ?_⟩
  have ok := I.ok
  have hfr : X.A.frames = some (X.env :: X.outer) := by rw [ok.frames, hs]
  refine wpAny_Try_except ?_
  refine wpAny_mono ((hb (wManyA X.K Wout D l) (X.pn ++ pins) (fun e s₁ => wpAny (model X.prog X.w) X.A (noteFrame e X.env) (fun _ s₂ => wpAny (model X.prog X.w) X.A (setFlight e none) (fun _ s₃ =>
    wpAny (model X.prog X.w) X.A (handleBy e X.env (h₀ :: hds)) (SP X pins D) X.xe s₃) X.xe s₂) X.xe s₁) (fun u s' xx => ?_) PassesOwn.looking).run [] s σ H D (I.toTry _) h) (fun f s1 hsp => ?_) (fun e s1 he => he)
  · -- the catch
    obtain ⟨a, B, sI, pins', σ', H', cls, d, rfl, J', nb, up, sky, na, os, ag, w⟩ := xx
    have J : Inv X pins σ' H' sI := J'.ofTry ok
    have sky' : Sky B (X.env :: X.outer) a (Zc cls d) X.env.locals s'.heap := by rw [← hs]; exact sky
    show wpAny (model X.prog X.w) X.A (noteFrame (.ref a) X.env) _ _ _
    refine Sky.land Zc.steady hfr hf sky' fun h3 fl3 up3 => ?_
    have J3 : Inv X pins σ' H' { s' with heap := h3 } := J.landed nb fl3.1 (up.trans up3) os ag
    obtain ⟨oe3, vs3, he3, hz3, hd3⟩ := fl3.there
    have notFr : ∀ {h : Heap} {o : Obj} {vs : Array Value}, h.FunFrames B (X.env :: X.outer) → h.get? a = some o → o.data = .fields vs → a ∉ frs (X.env :: X.outer) := fun {h o vs} ff e dd hm => by
      obtain ⟨_, o', e', hnf⟩ := ff.mem hm
      rw [e] at e'; cases e'
      exact hnf _ dd
    have nfr := notFr fl3.2.2.1 he3 hd3
    have nL : a ≠ X.env.locals := fun z => nfr (List.mem_filterMap.mpr ⟨X.env, List.mem_cons_self, by rw [hf, z]⟩)
    have nF : a ∉ X.fs := fun hm => by
      obtain ⟨e, he, q⟩ := List.mem_filterMap.mp hm
      exact nfr (List.mem_filterMap.mpr ⟨e, List.mem_cons_of_mem _ he, q⟩)
    have S3 := J3.suite he3 hd3 na nL nF
    have go : ∀ {hds' : List ExceptHandler} {l' : List (Value × Nat × (Addr → Value → Option Addr → TS))}, HdsOkA X hds' l' → wManyA X.K Wout D l' cls d σ' H' →
        wpAny (model X.prog X.w) X.A (handleBy (.ref a) X.env hds') (SP X pins D) X.xe { s' with heap := h3 } := by
      intro hds' l' hk
      induction hk with
      | nil =>
        intro w
        refine wpAny_handleBy_nil ?_
        obtain ⟨k1, k2, k3, oe, vs, T, oT, ts', he, hz, hd, h1, hr⟩ := id fl3
        unfold PySem.passOn
        refine wpAny_bind (wpAny_field he hd h1 ?_)
        rw [if_neg (show ¬ ((Value.ref T == Value.none) = true) from by simp)]
        have fin : wpAny (model X.prog X.w) X.A (setFlight (.ref a) X.env.frame) (fun _ s4 => wpAny (model X.prog X.w) X.A (throw (.ref a) : Sem Flow) (SP X pins D) X.xe s4) X.xe { s' with heap := h3 } := by
          rw [hf]
          refine HandSPX.setFlight_upZ fl3 fun h4 hh4 up4 => wpAny_throw (tk _ _ ?_)
          exact ⟨a, B, sI, pins, σ', H', cls, d, rfl, J, nb, (up.trans up3).trans up4, .inr (.inr (by rw [hs]; exact hh4)), na, os, ag, w⟩
        first
          | exact wpAny_bind (wpAny_pure (wpAny_bind fin))
          | exact wpAny_bind fin
      | @cons x n c i ts b₀ suite np pos' hds2 l2 hi hln hc hsu r ih =>
        intro w
        obtain ⟨b, hb1, hyes, hno⟩ := w
        have hloc : Loc X.env.scope n := .inl hln
        refine wpAny_handleBy_cons (codeAny_handlers_test ?_) (by intro q; cases q)
        have LT : PySem.W.Looks (model X.prog X.w) h3 (typeOf (.ref a)) cls := fun A Q E s k q => wpAny_typeOf_ref (k _ _ he3) (by rw [hz3.1]; exact q)
        have LM := PySem.W.exm_one (M := model X.prog X.w) (J3.kIn) LT hb1
        have test : ∀ {Q : Value → Shared → Prop} {E : Value → Shared → Prop}, Q c { s' with heap := h3 } → wpAny (model X.prog X.w) (X.A.mark (some (.ref a))) (eval (.Name x np) X.env) Q E { s' with heap := h3 } := fun {Q E} q => by
          obtain ⟨hg, hdbg, hm | ⟨hm, hv, hnn⟩⟩ := hc
          · exact ld_glob (X := X.suite a ((a, oe3) :: (X.pn ++ pins))) S3 hg hm q hdbg
          · exact ld_blt (X := X.suite a ((a, oe3) :: (X.pn ++ pins))) S3 hg hm hv q hnn hdbg
        refine test (LM.here ?_)
        cases b with
        | true =>
          refine codeAny_handlers_suite_as ?_
          refine HandSPX.lands_againZ fl3 fun h4 fl4 up4 => ?_
          have J4 : Inv X pins σ' H' { s' with heap := h4 } := J.landed nb fl4.1 ((up.trans up3).trans up4) os ag
          obtain ⟨oe4, vs4, he4, hz4, hd4⟩ := fl4.there
          have S4 := J4.suite he4 hd4 na nL nF
          refine store_ok (X := X.suite a ((a, oe4) :: (X.pn ++ pins))) (v := .ref a) S4 hN hi hloc rfl (fun s5 S5 => ?_) (.inr hln)
          refine wpAny_mono ((hsu a oe4 cls d (X.pn ++ pins) hz4 ⟨_, hd4⟩).run [] s5 _ H' _ S5 (hyes rfl a na)) (fun f s6 hsp => ?_) (fun _ _ z => False.elim z)
          have end_ : ∀ {σ6 : St} {H6 : Hp} {Q : Shared → Prop}, Inv (X.suite a ((a, oe4) :: (X.pn ++ pins))) [] σ6 H6 s6 → (∀ s7, Inv X pins (σ6.set i none) H6 s7 → Q s7) →
              wpAny (model X.prog X.w) X.A (do bindName X.env n .none; unbindBehindTheSuite X.env n pos') (fun _ s7 => Q s7) X.xe s6 := fun {σ6 H6 Q} S6 hq => gone_ok (S6.unsuite ok) hN hi hln hq
          cases f with
          | next =>
            obtain ⟨σ6, H6, S6, q6⟩ := hsp
            exact end_ S6 fun s7 J7 => ⟨_, _, J7, q6⟩
          | brk =>
            obtain ⟨σ6, H6, S6, q6⟩ := hsp
            exact end_ S6 fun s7 J7 => ⟨_, _, J7, q6⟩
          | cont =>
            obtain ⟨σ6, H6, S6, q6⟩ := hsp
            exact end_ S6 fun s7 J7 => ⟨_, _, J7, q6⟩
          | ret u =>
            obtain ⟨v6, σ6, H6, S6, r6, q6⟩ := hsp
            exact end_ S6 fun s7 J7 => ⟨_, _, _, J7, r6, q6⟩
        | false =>
          show wpAny _ X.A (handleBy (.ref a) X.env hds2) _ _ _
          exact ih (hno rfl)
    exact go hh w
  · cases f with
    | next =>
      obtain ⟨σ', H', J', q⟩ := hsp
      exact wpAny_execs_nil ⟨σ', H', J'.ofTry ok, q⟩
    | brk =>
      obtain ⟨σ', H', J', q⟩ := hsp
      exact ⟨σ', H', J'.ofTry ok, q⟩
    | cont =>
      obtain ⟨σ', H', J', q⟩ := hsp
      exact ⟨σ', H', J'.ofTry ok, q⟩
    | ret u =>
      obtain ⟨v, σ', H', J', r, q⟩ := hsp
      exact ⟨v, σ', H', J'.ofTry ok, r, q⟩
end
end L2
namespace SX
open PySem PySem.Spec PyProof.Rows L2 KO
theorem kit_oty {K : PySem.W.Frag} {C : Addr} {t : String} {b : Bool} (h : PySem.W.kitMeta t = true) (s : PySem.W.subIn K (.ref C) (.type t) = some b) : PySem.W.kitOne K (.ref C) (.type t) = some b := by
  unfold PySem.W.kitOne PySem.W.kitCls
  rw [if_neg (by simp)]
  dsimp only
  rw [if_pos h]
  exact s
theorem kit_ref {K : PySem.W.Frag} {C D : Addr} {b : Bool} (ss : PySem.W.subIn K (.ref C) (.ref C) = some true) (s : PySem.W.subIn K (.ref C) (.ref D) = some b) (hd : PySem.W.hasDictIn K D = true) (ty : PySem.W.typeIn K (.ref D) = some (.type "type")) : PySem.W.kitOne K (.ref C) (.ref D) = some b := by
  obtain ⟨cd, hc, _⟩ := PySem.W.any_some hd
  unfold PySem.W.kitOne PySem.W.kitCls
  by_cases e : C = D
  · subst e
    rw [ss] at s
    cases s
    simp
  · rw [if_neg (by simpa using e)]
    dsimp only
    rw [hc, ty]
    simpa using s
theorem Tq.dq' {p : Addr} {H : Hp} (hp : ∀ xs, H p ≠ some (.tup xs)) : ∀ {n : Nat} {v : V} {d : PyData}, Tq n H v d → Dq p n H v d
  | 0, _, _, h => h.elim
  | n + 1, v, d, h => by
    cases d with
    | none => exact h
    | bool b => exact h
    | int i => exact h
    | str s => exact h
    | dict kv => exact h
    | list ds => exact h.elim
    | tuple ds =>
      obtain ⟨a, xs, e, ha, hl, hz, r⟩ := h
      exact ⟨a, xs, e, fun z => hp xs (by rw [← z]; exact ha), ha, hl, hz, fun i x e h1 h2 => Tq.dq' hp (r i x e h1 h2)⟩
end SX
namespace SX
open PySem PySem.Spec PyProof.Rows L2 KO
theorem op_catTK {X : Cx} {K : PySem.W.Frag} (h : X.K = K) : OpR X (binaryOp .Add) (rCatT K) := by subst h; exact op_catT
end SX
namespace DD
open PySem L2
/-! the text by its places -/
def topS (i : Nat) : Stmt := PySem.Challenge.pw_depotday_k14_minutes_that_pass.main.body.getD i (.Pass ⟨0, 0, 0, 0⟩)
abbrev sBadNetInit : Stmt := inClass (topS 3) 0
abbrev sBadTimesInit : Stmt := inClass (topS 4) 0
abbrev sUnknownSpanInit : Stmt := inClass (topS 5) 0
abbrev schecktimes : Stmt := topS 7
abbrev sminuteson : Stmt := topS 8
abbrev spassed : Stmt := topS 9
abbrev sbroken : Stmt := topS 10
abbrev sisspan : Stmt := topS 17
abbrev schecknet : Stmt := topS 18
abbrev sNetInit : Stmt := inClass (topS 19) 0
abbrev sNetEq : Stmt := inClass (topS 19) 1
abbrev sLcell : Stmt := topS 21
abbrev sLpool : Stmt := topS 22
abbrev sLtake : Stmt := topS 23
abbrev sLsame : Stmt := topS 24
abbrev sLlength : Stmt := topS 25
abbrev sLmany : Stmt := topS 26
abbrev sLcount : Stmt := topS 27
abbrev sLanyspans : Stmt := topS 28
abbrev sLtimes : Stmt := topS 29
abbrev sLkeptspans : Stmt := topS 30
abbrev sLspoilt : Stmt := topS 31
abbrev sLwrong : Stmt := topS 32
abbrev sLgone : Stmt := topS 33
abbrev sLchecktold : Stmt := topS 34
abbrev sLbrokentold : Stmt := topS 35
abbrev sLpassedtold : Stmt := topS 36
abbrev sLpassedgood : Stmt := topS 37
abbrev sLrefusedgood : Stmt := topS 38
abbrev sLtimesgood : Stmt := topS 39
abbrev sLasked : Stmt := topS 40
abbrev sLaw : Stmt := topS 41
/-- what the top has written, as the walks ask for it -/
structure Tx (K : PySem.W.Frag) (mg : Str → Option Value) where
  t_LEAST_ROUND : Tok
  c_LEAST_ROUND : mg "LEAST_ROUND" = some (.int 2 t_LEAST_ROUND)
  t_MOST_ROUND : Tok
  c_MOST_ROUND : mg "MOST_ROUND" = some (.int 60 t_MOST_ROUND)
  t_MOST_EVENTS : Tok
  c_MOST_EVENTS : mg "MOST_EVENTS" = some (.int 12 t_MOST_EVENTS)
  t_MOST_SPANS : Tok
  c_MOST_SPANS : mg "MOST_SPANS" = some (.int 24 t_MOST_SPANS)
  t_MOST_ON_SPAN : Tok
  c_MOST_ON_SPAN : mg "MOST_ON_SPAN" = some (.int 999 t_MOST_ON_SPAN)
  z_ValueError : mg "ValueError" = none
  z_abs : mg "abs" = none
  z_bool : mg "bool" = none
  z_enumerate : mg "enumerate" = none
  z_int : mg "int" = none
  z_isinstance : mg "isinstance" = none
  z_len : mg "len" = none
  z_list : mg "list" = none
  z_max : mg "max" = none
  z_min : mg "min" = none
  z_range : mg "range" = none
  z_str : mg "str" = none
  z_tuple : mg "tuple" = none
  C_Net : Addr
  g_Net : mg "Net" = some (.ref C_Net)
  cl_Net : Cls K C_Net
  na_Net_round_length : NoAttr K C_Net "round_length"
  na_Net_events : NoAttr K C_Net "events"
  na_Net_spans : NoAttr K C_Net "spans"
  fBadNet_init : Addr
  dBadNet_init : FuncData
  FBadNet_init : Fun K "__init__" "BadNet.__init__" sBadNetInit fBadNet_init dBadNet_init
  bBadNet_init : Binds K dBadNet_init ["self", "part", "place"] []
  fBadTimes_init : Addr
  dBadTimes_init : FuncData
  FBadTimes_init : Fun K "__init__" "BadTimes.__init__" sBadTimesInit fBadTimes_init dBadTimes_init
  bBadTimes_init : Binds K dBadTimes_init ["self", "place"] []
  fUnknownSpan_init : Addr
  dUnknownSpan_init : FuncData
  FUnknownSpan_init : Fun K "__init__" "UnknownSpan.__init__" sUnknownSpanInit fUnknownSpan_init dUnknownSpan_init
  bUnknownSpan_init : Binds K dUnknownSpan_init ["self", "number"] []
  fcheck_times : Addr
  dcheck_times : FuncData
  Fcheck_times : Fun K "check_times" "check_times" schecktimes fcheck_times dcheck_times
  bcheck_times : Binds K dcheck_times ["net", "times"] []
  gcheck_times : mg "check_times" = some (.ref fcheck_times)
  fminutes_on : Addr
  dminutes_on : FuncData
  Fminutes_on : Fun K "minutes_on" "minutes_on" sminuteson fminutes_on dminutes_on
  bminutes_on : Binds K dminutes_on ["net", "times", "number"] []
  gminutes_on : mg "minutes_on" = some (.ref fminutes_on)
  fpassed : Addr
  dpassed : FuncData
  Fpassed : Fun K "passed" "passed" spassed fpassed dpassed
  bpassed : Binds K dpassed ["net", "times", "number"] []
  gpassed : mg "passed" = some (.ref fpassed)
  fbroken : Addr
  dbroken : FuncData
  Fbroken : Fun K "broken" "broken" sbroken fbroken dbroken
  bbroken : Binds K dbroken ["net", "times"] []
  gbroken : mg "broken" = some (.ref fbroken)
  fis_span : Addr
  dis_span : FuncData
  Fis_span : Fun K "is_span" "is_span" sisspan fis_span dis_span
  bis_span : Binds K dis_span ["span", "round_length", "events"] []
  gis_span : mg "is_span" = some (.ref fis_span)
  fcheck_net : Addr
  dcheck_net : FuncData
  Fcheck_net : Fun K "check_net" "check_net" schecknet fcheck_net dcheck_net
  bcheck_net : Binds K dcheck_net ["round_length", "events", "spans"] []
  gcheck_net : mg "check_net" = some (.ref fcheck_net)
  fNet_init : Addr
  dNet_init : FuncData
  FNet_init : Fun K "__init__" "Net.__init__" sNetInit fNet_init dNet_init
  bNet_init : Binds K dNet_init ["self", "round_length", "events", "spans"] []
  M_Net : Mk K C_Net fNet_init
  fNet_eq : Addr
  dNet_eq : FuncData
  FNet_eq : Fun K "__eq__" "Net.__eq__" sNetEq fNet_eq dNet_eq
  bNet_eq : Binds K dNet_eq ["self", "other"] []
  m_Net_eq : Meth K C_Net "__eq__" fNet_eq
  f_law_cell : Addr
  d_law_cell : FuncData
  F_law_cell : Fun K "_law_cell" "_law_cell" sLcell f_law_cell d_law_cell
  b_law_cell : Binds K d_law_cell ["_law_script", "_law_k"] []
  g_law_cell : mg "_law_cell" = some (.ref f_law_cell)
  f_law_pool : Addr
  d_law_pool : FuncData
  F_law_pool : Fun K "_law_pool" "_law_pool" sLpool f_law_pool d_law_pool
  b_law_pool : Binds K d_law_pool ["_law_script", "_law_k"] []
  g_law_pool : mg "_law_pool" = some (.ref f_law_pool)
  f_law_take : Addr
  d_law_take : FuncData
  F_law_take : Fun K "_law_take" "_law_take" sLtake f_law_take d_law_take
  b_law_take : Binds K d_law_take ["_law_pool_here", "_law_many_here"] []
  g_law_take : mg "_law_take" = some (.ref f_law_take)
  f_law_same : Addr
  d_law_same : FuncData
  F_law_same : Fun K "_law_same" "_law_same" sLsame f_law_same d_law_same
  b_law_same : Binds K d_law_same ["_law_got", "_law_due"] []
  g_law_same : mg "_law_same" = some (.ref f_law_same)
  f_law_length : Addr
  d_law_length : FuncData
  F_law_length : Fun K "_law_length" "_law_length" sLlength f_law_length d_law_length
  b_law_length : Binds K d_law_length ["_law_pool_here"] []
  g_law_length : mg "_law_length" = some (.ref f_law_length)
  f_law_many : Addr
  d_law_many : FuncData
  F_law_many : Fun K "_law_many" "_law_many" sLmany f_law_many d_law_many
  b_law_many : Binds K d_law_many ["_law_pool_here"] []
  g_law_many : mg "_law_many" = some (.ref f_law_many)
  f_law_count : Addr
  d_law_count : FuncData
  F_law_count : Fun K "_law_count" "_law_count" sLcount f_law_count d_law_count
  b_law_count : Binds K d_law_count ["_law_pool_here", "_law_many_here"] []
  g_law_count : mg "_law_count" = some (.ref f_law_count)
  f_law_any_spans : Addr
  d_law_any_spans : FuncData
  F_law_any_spans : Fun K "_law_any_spans" "_law_any_spans" sLanyspans f_law_any_spans d_law_any_spans
  b_law_any_spans : Binds K d_law_any_spans ["_law_pool_here", "_law_length_here", "_law_many_here", "_law_count_here"] []
  g_law_any_spans : mg "_law_any_spans" = some (.ref f_law_any_spans)
  f_law_times : Addr
  d_law_times : FuncData
  F_law_times : Fun K "_law_times" "_law_times" sLtimes f_law_times d_law_times
  b_law_times : Binds K d_law_times ["_law_pool_here", "_law_length_here", "_law_many_here"] []
  g_law_times : mg "_law_times" = some (.ref f_law_times)
  f_law_kept_spans : Addr
  d_law_kept_spans : FuncData
  F_law_kept_spans : Fun K "_law_kept_spans" "_law_kept_spans" sLkeptspans f_law_kept_spans d_law_kept_spans
  b_law_kept_spans : Binds K d_law_kept_spans ["_law_pool_here", "_law_length_here", "_law_minutes", "_law_count_here"] []
  g_law_kept_spans : mg "_law_kept_spans" = some (.ref f_law_kept_spans)
  f_law_spoilt : Addr
  d_law_spoilt : FuncData
  F_law_spoilt : Fun K "_law_spoilt" "_law_spoilt" sLspoilt f_law_spoilt d_law_spoilt
  b_law_spoilt : Binds K d_law_spoilt ["_law_pool_here", "_law_length_here", "_law_times_here"] []
  g_law_spoilt : mg "_law_spoilt" = some (.ref f_law_spoilt)
  f_law_wrong : Addr
  d_law_wrong : FuncData
  F_law_wrong : Fun K "_law_wrong" "_law_wrong" sLwrong f_law_wrong d_law_wrong
  b_law_wrong : Binds K d_law_wrong ["_law_length_here", "_law_many_here", "_law_times_here"] []
  g_law_wrong : mg "_law_wrong" = some (.ref f_law_wrong)
  f_law_gone : Addr
  d_law_gone : FuncData
  F_law_gone : Fun K "_law_gone" "_law_gone" sLgone f_law_gone d_law_gone
  b_law_gone : Binds K d_law_gone ["_law_length_here", "_law_span", "_law_times_here"] []
  g_law_gone : mg "_law_gone" = some (.ref f_law_gone)
  f_law_check_told : Addr
  d_law_check_told : FuncData
  F_law_check_told : Fun K "_law_check_told" "_law_check_told" sLchecktold f_law_check_told d_law_check_told
  b_law_check_told : Binds K d_law_check_told ["_law_net", "_law_times_here"] []
  g_law_check_told : mg "_law_check_told" = some (.ref f_law_check_told)
  f_law_broken_told : Addr
  d_law_broken_told : FuncData
  F_law_broken_told : Fun K "_law_broken_told" "_law_broken_told" sLbrokentold f_law_broken_told d_law_broken_told
  b_law_broken_told : Binds K d_law_broken_told ["_law_net", "_law_times_here"] []
  g_law_broken_told : mg "_law_broken_told" = some (.ref f_law_broken_told)
  f_law_passed_told : Addr
  d_law_passed_told : FuncData
  F_law_passed_told : Fun K "_law_passed_told" "_law_passed_told" sLpassedtold f_law_passed_told d_law_passed_told
  b_law_passed_told : Binds K d_law_passed_told ["_law_net", "_law_times_here", "_law_number"] []
  g_law_passed_told : mg "_law_passed_told" = some (.ref f_law_passed_told)
  f_law_passed_good : Addr
  d_law_passed_good : FuncData
  F_law_passed_good : Fun K "_law_passed_good" "_law_passed_good" sLpassedgood f_law_passed_good d_law_passed_good
  b_law_passed_good : Binds K d_law_passed_good ["_law_net", "_law_handed", "_law_spans", "_law_gone_here", "_law_far"] []
  g_law_passed_good : mg "_law_passed_good" = some (.ref f_law_passed_good)
  f_law_refused_good : Addr
  d_law_refused_good : FuncData
  F_law_refused_good : Fun K "_law_refused_good" "_law_refused_good" sLrefusedgood f_law_refused_good d_law_refused_good
  b_law_refused_good : Binds K d_law_refused_good ["_law_net", "_law_handed", "_law_count_here", "_law_far", "_law_place"] []
  g_law_refused_good : mg "_law_refused_good" = some (.ref f_law_refused_good)
  f_law_times_good : Addr
  d_law_times_good : FuncData
  F_law_times_good : Fun K "_law_times_good" "_law_times_good" sLtimesgood f_law_times_good d_law_times_good
  b_law_times_good : Binds K d_law_times_good ["_law_net", "_law_length_here", "_law_many_here", "_law_spans", "_law_handed", "_law_far"] []
  g_law_times_good : mg "_law_times_good" = some (.ref f_law_times_good)
  f_law_asked : Addr
  d_law_asked : FuncData
  F_law_asked : Fun K "_law_asked" "_law_asked" sLasked f_law_asked d_law_asked
  b_law_asked : Binds K d_law_asked ["_law_net", "_law_length_here", "_law_many_here", "_law_spans", "_law_times_here", "_law_far", "_law_shape"] []
  g_law_asked : mg "_law_asked" = some (.ref f_law_asked)
  flaw : Addr
  dlaw : FuncData
  Flaw : Fun K "law" "law" sLaw flaw dlaw
  blaw : Binds K dlaw ["_law_script"] []
  glaw : mg "law" = some (.ref flaw)
  C_DepotError : Addr
  g_DepotError : mg "DepotError" = some (.ref C_DepotError)
  C_BadNet : Addr
  g_BadNet : mg "BadNet" = some (.ref C_BadNet)
  C_BadTimes : Addr
  g_BadTimes : mg "BadTimes" = some (.ref C_BadTimes)
  C_UnknownSpan : Addr
  g_UnknownSpan : mg "UnknownSpan" = some (.ref C_UnknownSpan)
  ty_DepotError : PySem.W.typeIn K (.ref C_DepotError) = some (.type "type")
  bs_DepotError : PySem.W.subIn K (.ref C_DepotError) (.type "BaseException") = some true
  hd_DepotError : PySem.W.hasDictIn K C_DepotError = true
  ty_BadNet : PySem.W.typeIn K (.ref C_BadNet) = some (.type "type")
  bs_BadNet : PySem.W.subIn K (.ref C_BadNet) (.type "BaseException") = some true
  hd_BadNet : PySem.W.hasDictIn K C_BadNet = true
  ty_BadTimes : PySem.W.typeIn K (.ref C_BadTimes) = some (.type "type")
  bs_BadTimes : PySem.W.subIn K (.ref C_BadTimes) (.type "BaseException") = some true
  hd_BadTimes : PySem.W.hasDictIn K C_BadTimes = true
  ty_UnknownSpan : PySem.W.typeIn K (.ref C_UnknownSpan) = some (.type "type")
  bs_UnknownSpan : PySem.W.subIn K (.ref C_UnknownSpan) (.type "BaseException") = some true
  hd_UnknownSpan : PySem.W.hasDictIn K C_UnknownSpan = true
  kp_BadNet : PySem.W.keepIn K (.ref C_BadNet) = true
  ga_BadNet : PySem.W.findIn K (.ref C_BadNet) "__getattribute__" = some (some (.builtin "BaseException.__getattribute__"))
  gg_BadNet : PySem.W.findIn K (.ref C_BadNet) "__getattr__" = some none
  cl_BadNet : PySem.W.findIn K (.ref C_BadNet) "__class__" = some (some (.builtin "object.__class__"))
  mr_BadNet : PySem.W.mroIn K C_BadNet (.type "object") = some true
  sb_BadNet_ValueError : PySem.W.subIn K (.ref C_BadNet) (.type "ValueError") = some true
  sb_BadNet_BadTimes : PySem.W.subIn K (.ref C_BadNet) (.ref C_BadTimes) = some false
  sb_BadNet_DepotError : PySem.W.subIn K (.ref C_BadNet) (.ref C_DepotError) = some true
  sb_BadNet_UnknownSpan : PySem.W.subIn K (.ref C_BadNet) (.ref C_UnknownSpan) = some false
  no_BadNet_part : PySem.W.findIn K (.ref C_BadNet) "part" = some none
  no_BadNet_place : PySem.W.findIn K (.ref C_BadNet) "place" = some none
  sa_BadNet : PySem.W.findIn K (.ref C_BadNet) "__setattr__" = some (some (.builtin "object.__setattr__"))
  kp_BadTimes : PySem.W.keepIn K (.ref C_BadTimes) = true
  ga_BadTimes : PySem.W.findIn K (.ref C_BadTimes) "__getattribute__" = some (some (.builtin "BaseException.__getattribute__"))
  gg_BadTimes : PySem.W.findIn K (.ref C_BadTimes) "__getattr__" = some none
  cl_BadTimes : PySem.W.findIn K (.ref C_BadTimes) "__class__" = some (some (.builtin "object.__class__"))
  mr_BadTimes : PySem.W.mroIn K C_BadTimes (.type "object") = some true
  sb_BadTimes_ValueError : PySem.W.subIn K (.ref C_BadTimes) (.type "ValueError") = some true
  sb_BadTimes_BadTimes : PySem.W.subIn K (.ref C_BadTimes) (.ref C_BadTimes) = some true
  sb_BadTimes_DepotError : PySem.W.subIn K (.ref C_BadTimes) (.ref C_DepotError) = some true
  sb_BadTimes_UnknownSpan : PySem.W.subIn K (.ref C_BadTimes) (.ref C_UnknownSpan) = some false
  no_BadTimes_place : PySem.W.findIn K (.ref C_BadTimes) "place" = some none
  sa_BadTimes : PySem.W.findIn K (.ref C_BadTimes) "__setattr__" = some (some (.builtin "object.__setattr__"))
  kp_UnknownSpan : PySem.W.keepIn K (.ref C_UnknownSpan) = true
  ga_UnknownSpan : PySem.W.findIn K (.ref C_UnknownSpan) "__getattribute__" = some (some (.builtin "BaseException.__getattribute__"))
  gg_UnknownSpan : PySem.W.findIn K (.ref C_UnknownSpan) "__getattr__" = some none
  cl_UnknownSpan : PySem.W.findIn K (.ref C_UnknownSpan) "__class__" = some (some (.builtin "object.__class__"))
  mr_UnknownSpan : PySem.W.mroIn K C_UnknownSpan (.type "object") = some true
  sb_UnknownSpan_ValueError : PySem.W.subIn K (.ref C_UnknownSpan) (.type "ValueError") = some true
  sb_UnknownSpan_BadTimes : PySem.W.subIn K (.ref C_UnknownSpan) (.ref C_BadTimes) = some false
  sb_UnknownSpan_DepotError : PySem.W.subIn K (.ref C_UnknownSpan) (.ref C_DepotError) = some true
  sb_UnknownSpan_UnknownSpan : PySem.W.subIn K (.ref C_UnknownSpan) (.ref C_UnknownSpan) = some true
  no_UnknownSpan_number : PySem.W.findIn K (.ref C_UnknownSpan) "number" = some none
  sa_UnknownSpan : PySem.W.findIn K (.ref C_UnknownSpan) "__setattr__" = some (some (.builtin "object.__setattr__"))
  sp_class : PySem.W.specialIn K (.builtin "object.__class__") "__get__" = some (some (.builtin "getset_descriptor.__get__"))
  tk_class : PySem.W.takesIn K (.builtin "object.__class__") = some true
  ic_Net : PySem.W.findIn K (.ref C_Net) "__class__" = some (some (.builtin "object.__class__"))
  mr_Net : PySem.W.mroIn K C_Net (.type "object") = some true
  ox_BadNet : OexC K C_BadNet
  ni_BadNet : PySem.W.findIn K (.ref C_BadNet) "__init__" = some (some (.ref fBadNet_init))
  ti_BadNet : PySem.W.typeIn K (.ref fBadNet_init) = some (.type "function")
  ox_BadTimes : OexC K C_BadTimes
  ni_BadTimes : PySem.W.findIn K (.ref C_BadTimes) "__init__" = some (some (.ref fBadTimes_init))
  ti_BadTimes : PySem.W.typeIn K (.ref fBadTimes_init) = some (.type "function")
  ox_UnknownSpan : OexC K C_UnknownSpan
  ni_UnknownSpan : PySem.W.findIn K (.ref C_UnknownSpan) "__init__" = some (some (.ref fUnknownSpan_init))
  ti_UnknownSpan : PySem.W.typeIn K (.ref fUnknownSpan_init) = some (.type "function")
end DD
namespace DD
open PySem PySem.Spec PyProof.Rows L2 KO SX
section
variable {P : Program} {w : World} {K : PySem.W.Frag} {mg : Str → Option Value} {base : Heap}
/-! ### cell, pool, take -/
def spCell (K : PySem.W.Frag) : Sp := fun vs H Q _ => ∃ (a : Addr) (ns : List Int) (k : Nat), vs = [.ref a, .int k] ∧ SqL K H a (ns.map V.int) ∧ ∀ i : Int, Q (.int i) H
theorem scCell : FnScope ["_law_script", "_law_k"] ["_law_script", "_law_k"] (defScope sLcell) := ⟨rfl, rfl, rfl, by decide +kernel, rfl, by decide +kernel, by decide +kernel⟩
theorem ok_cell (T : Tx K mg) : FnOk P w K mg base CX0 1 T.f_law_cell T.d_law_cell ["_law_script", "_law_k"] (spCell K) := by
  refine T.F_law_cell.ok scCell (fun vs H Q E h => ?_) (fun cdv A outer s H vs Q E hr h => ?_)
  · obtain ⟨a, ns, k, rfl, _⟩ := h
    rfl
  · obtain ⟨a, ns, k, rfl, hS, q⟩ := h
    refine ⟨_, pss_cons (ps_if (pt_cmpR op_lt (pv 1) (pe_callB call_len_seq (by rfl) T.z_len (by decide +kernel) (pa_cons (pv 0) pa_nil)) (nomark _)) (pss_one (ps_ret (pe_callB call_abs (by rfl) T.z_abs (by decide +kernel) (pa_cons (pe_ix ix_list (pv 0) (pv 1) (fun _ _ => rfl)) pa_nil)))) (pss_nil))
      (pss_one (ps_ret pe_int)), ?_⟩
    refine ⟨_, rfl, _, rfl, a, _, rfl, .inl hS, _, _, rfl, rfl, _, rfl, iteDs (fun h => ?_) (fun _ => q _)⟩
    have hk : k < ns.length := by
      rw [List.length_map] at h
      omega
    refine ⟨_, rfl, _, rfl, a, _, _, .int ns[k], rfl, rfl, hS, atI_nat (by rw [List.getElem?_map, List.getElem?_eq_getElem hk]; rfl), _, rfl, q _⟩
def spPool (K : PySem.W.Frag) : Sp := fun vs H Q _ => ∃ (a : Addr) (ns : List Int) (k : Nat), vs = [.ref a, .int k] ∧ SqL K H a (ns.map V.int) ∧ k ≤ 1000 ∧ ∀ H' p, H p = none → Same H H' → Pool H' p → Q (.ref p) H'
theorem scPool : FnScope ["_law_script", "_law_k", "_law_cell_here"] ["_law_script", "_law_k"] (defScope sLpool) := ⟨rfl, rfl, rfl, by decide +kernel, rfl, by decide +kernel, by decide +kernel⟩
theorem ok_pool (T : Tx K mg) : FnOk P w K mg base CX0 2 T.f_law_pool T.d_law_pool ["_law_script", "_law_k"] (spPool K) := by
  have G_law_cell := ok_cell (P := P) (w := w) (base := base) T
  refine T.F_law_pool.ok scPool (fun vs H Q E h => ?_) (fun cdv A outer s H vs Q E hr h => ?_)
  · obtain ⟨a, ns, k, rfl, _⟩ := h
    rfl
  · obtain ⟨a, ns, k, rfl, hS, hk, q⟩ := h
    refine ⟨_, pss_cons (ps_set (i := 2) scPool.nd rfl (.inl rfl) (pe_call G_law_cell hr (by rfl) T.g_law_cell T.F_law_cell.kp T.b_law_cell .nil pass0 (pa_cons (pv 0) (pa_cons (pv 1) pa_nil))))
      (pss_one (ps_ret (pe_lst (pa_cons (pv 2) (pa_cons (pe_callTy call_int1 (by rfl) T.z_int (by decide +kernel) (pa_cons (pe_cmpR op_ge (pv 2) (pe_op op_pow pe_int pe_int) (nomark _)) pa_nil)) (pa_cons (pe_op op_mul pe_int (pv 1)) pa_nil)))))), ?_⟩
    refine ⟨_, rfl, _, rfl, a, ns, k, rfl, hS, fun i => ?_⟩
    refine ⟨_, rfl, _, rfl, _, _, rfl, rfl, ⟨by decide, by decide, by decide⟩, _, _, rfl, rfl, .inr ⟨_, rfl, _, rfl, _, _, rfl, rfl, .inl ⟨by decide, by decide⟩, (by show 3 ≤ sizeLine; decide), fun p hp => ?_⟩⟩
    exact q _ p hp (same_upd hp) ⟨_, _, _, upd_same⟩
def spTake : Sp := fun vs H Q _ => ∃ (p : Addr) (m : Int), vs = [.ref p, .int m] ∧ Pool H p ∧ 0 < m ∧ m < 1099511627776 ∧ ∀ H' r, 0 ≤ r → r < m → Run p H H' → Q (.int r) H'
theorem scTake : FnScope ["_law_pool_here", "_law_many_here", "_law_drawn", "_law_mixed"] ["_law_pool_here", "_law_many_here"] (defScope sLtake) := ⟨rfl, rfl, rfl, by decide +kernel, rfl, by decide +kernel, by decide +kernel⟩
theorem mulOk {i j : Int} (h : 0 ≤ j) (h2 : j < 1000000) : CMul i j := .inr ⟨by omega, by omega⟩
/-- a remainder as a letter -/
theorem rmod {i j : Int} {R : Int → Prop} (hj : 0 < j) (q : ∀ r : Int, 0 ≤ r → r < j → R r) : ∃ r : Int, i % j = r ∧ 0 ≤ r ∧ r < j ∧ R r :=
  ⟨i % j, rfl, Int.emod_nonneg _ (by omega), Int.emod_lt_of_pos _ hj, q _ (Int.emod_nonneg _ (by omega)) (Int.emod_lt_of_pos _ hj)⟩
theorem emod_b (i : Int) {j : Int} (hj : 0 < j) : 0 ≤ i % j ∧ i % j < j := ⟨Int.emod_nonneg _ (by omega), Int.emod_lt_of_pos _ hj⟩
theorem ok_take (T : Tx K mg) : FnOk P w K mg base CX0 1 T.f_law_take T.d_law_take ["_law_pool_here", "_law_many_here"] spTake := by
  refine T.F_law_take.ok scTake (fun vs H Q E h => ?_) (fun cdv A outer s H vs Q E hr h => ?_)
  · obtain ⟨p, m, rfl, _⟩ := h
    rfl
  · obtain ⟨p, m, rfl, ⟨x, f, c, hp⟩, hm, hm2, q⟩ := h
    refine ⟨_, pss_cons (ps_if (PW.pt (pw_and (pt_cmpR op_eq (pe_ix ix_list (pv 0) pe_int (fun _ _ => rfl)) pe_int (nomark _)) (pw_and1 (pt_cmpR op_gt (pe_ix ix_list (pv 0) pe_int (fun _ _ => rfl)) pe_int (nomark _))))) (pss_cons (ps_set (i := 2) scTake.nd rfl (.inl rfl) (pe_op op_mod (pe_callTy call_int1 (by rfl) T.z_int (by decide +kernel) (pa_cons (pe_ix ix_list (pv 0) pe_int (fun _ _ => rfl)) pa_nil)) (pv 1)))
      (pss_cons (ps_asg (pe_op op_fdivW (pe_ix ix_list (pv 0) pe_int (fun _ _ => rfl)) (pv 1)) (pg_sub (pv 0) pe_int set_list))
      (pss_one (ps_ret (pv 2))))) (pss_nil))
      (pss_cons (ps_asg (pe_op op_add (pe_ix ix_list (pv 0) pe_int (fun _ _ => rfl)) pe_int) (pg_sub (pv 0) pe_int set_list))
      (pss_cons (ps_set (i := 3) scTake.nd rfl (.inl rfl) (pe_op op_mod (pe_callTy call_int1 (by rfl) T.z_int (by decide +kernel) (pa_cons (pe_op op_add (pe_op op_mul (pe_op op_add (pe_ix ix_list (pv 0) pe_int (fun _ _ => rfl)) pe_int) pe_int) (pe_op op_mul (pe_ix ix_list (pv 0) pe_int (fun _ _ => rfl)) pe_int)) pa_nil)) pe_int))
      (pss_cons (ps_set (i := 3) scTake.nd rfl (.inl rfl) (pe_op op_mod (pe_callTy call_int1 (by rfl) T.z_int (by decide +kernel) (pa_cons (pe_op op_add (pe_op op_mul (pv 3) pe_int) (pe_op op_mul (pe_ix ix_list (pv 0) pe_int (fun _ _ => rfl)) pe_int)) pa_nil)) pe_int))
      (pss_cons (ps_if (pt_cmpR op_gt (pe_ix ix_list (pv 0) pe_int (fun _ _ => rfl)) pe_int (nomark _)) (pss_one (ps_set (i := 3) scTake.nd rfl (.inl rfl) (pe_op op_mod (pe_callTy call_int1 (by rfl) T.z_int (by decide +kernel) (pa_cons (pe_op op_mul (pe_op op_fdiv (pv 3) pe_int) (pe_op op_add (pe_op op_add (pe_op op_fdiv (pv 3) pe_int) (pe_ix ix_list (pv 0) pe_int (fun _ _ => rfl))) pe_int)) pa_nil)) pe_int))) (pss_nil))
      (pss_one (ps_ret (pe_op op_mod (pe_callTy call_int1 (by rfl) T.z_int (by decide +kernel) (pa_cons (pe_op op_fdiv (pv 3) pe_int) pa_nil)) (pv 1)))))))), ?_⟩
    have hL := SqL.of (K := K) hp
    -- pool[1] == 1 and pool[0] > 1
    refine ⟨_, rfl, p, _, _, _, rfl, rfl, hL, rfl, rfl, _, rfl, ?_⟩
    refine iteDs (fun h1 => ⟨_, rfl, p, _, _, _, rfl, rfl, hL, rfl, _, _, rfl, rfl, _, rfl, iteDs (fun h2 => ?c) (fun _ => ?t1)⟩) (fun _ => ?t2)
    case c =>
      refine ⟨_, rfl, p, _, _, _, rfl, rfl, hL, rfl, .inl ⟨_, rfl, _, rfl, _, _, rfl, rfl, hm, ?_⟩⟩
      have hb := emod_b x hm
      refine ⟨_, rfl, p, _, _, _, rfl, rfl, hL, rfl, _, rfl, _, _, rfl, rfl, wide_div (b := 40) hm (by omega) (by decide) (by decide), _, rfl, p, _, _, _, rfl, rfl, hp, rfl, ?_⟩
      exact ⟨_, rfl, q _ _ hb.1 hb.2 ⟨But.put, _, _, _, upd_same⟩⟩
    all_goals
      refine ⟨_, rfl, p, _, _, _, rfl, rfl, hL, rfl, _, _, rfl, rfl, _, rfl, p, _, _, _, rfl, rfl, hp, rfl, ?_⟩
      have hp1 : (upd H p (.lst (([.int x, .int f, .int c] : List V).set 2 (.int (c + 1))))) p = some (.lst [.int x, .int f, .int (c + 1)]) := upd_same
      have hL1 := SqL.of (K := K) hp1
      refine ⟨_, rfl, p, _, _, _, rfl, rfl, hL1, rfl, _, _, rfl, rfl, _, _, rfl, rfl, mulOk (by decide) (by decide), _, rfl, p, _, _, _, rfl, rfl, hL1, rfl, _, _, rfl, rfl, mulOk (by decide) (by decide), _, _, rfl, rfl, .inl ⟨_, rfl, _, _, rfl, rfl, (show (0 : Int) < 2147483629 by decide), ?_⟩⟩
      refine ⟨_, rfl, _, _, rfl, rfl, mulOk (by decide) (by decide), _, rfl, p, _, _, _, rfl, rfl, hL1, rfl, _, _, rfl, rfl, mulOk (by decide) (by decide), _, _, rfl, rfl, .inl ⟨_, rfl, _, _, rfl, rfl, (show (0 : Int) < 2147483587 by decide), ?_⟩⟩
      refine ⟨_, rfl, p, _, _, _, rfl, rfl, hL1, rfl, _, _, rfl, rfl, _, rfl, iteDs (fun _ => ?_) (fun _ => ?_)⟩
      · refine ⟨_, rfl, _, _, rfl, rfl, ⟨by decide, by decide⟩, _, rfl, _, _, rfl, rfl, ⟨by decide, by decide⟩, _, rfl, p, _, _, _, rfl, rfl, hL1, rfl, _, _, rfl, rfl, _, _, rfl, rfl, _, _, rfl, rfl, .inl ⟨by omega, by omega⟩, .inl ⟨_, rfl, _, _, rfl, rfl, (show (0 : Int) < 2147483563 by decide), ?_⟩⟩
        refine ⟨_, rfl, _, _, rfl, rfl, ⟨by decide, by decide⟩, .inl ⟨_, rfl, _, rfl, _, _, rfl, rfl, hm, ?_⟩⟩
        exact q _ _ (emod_b _ hm).1 (emod_b _ hm).2 ⟨But.put, _, _, _, hp1⟩
      · refine ⟨_, rfl, _, _, rfl, rfl, ⟨by decide, by decide⟩, .inl ⟨_, rfl, _, rfl, _, _, rfl, rfl, hm, ?_⟩⟩
        exact q _ _ (emod_b _ hm).1 (emod_b _ hm).2 ⟨But.put, _, _, _, hp1⟩
end
end DD
namespace DD
open PySem PySem.Spec PyProof.Rows L2 KO SX
section
variable {P : Program} {w : World} {K : PySem.W.Frag} {mg : Str → Option Value} {base : Heap}
def spSame (n : Nat) : Sp := fun vs H Q _ => ∃ (p : Addr) (u v : V) (d : PyData), vs = [u, v] ∧ Dq p n H u d ∧ Dq p n H v d ∧ Q (.bl true) H
theorem scSame : FnScope ["_law_got", "_law_due", "_law_k"] ["_law_got", "_law_due"] (defScope sLsame) := ⟨rfl, rfl, rfl, by decide +kernel, rfl, by decide +kernel, by decide +kernel⟩
theorem ok_same (T : Tx K mg) : ∀ n : Nat, FnOk P w K mg base CX0 n T.f_law_same T.d_law_same ["_law_got", "_law_due"] (spSame n)
  | 0 => ⟨fun vs H Q E ⟨p, u, v, d, _, h, _⟩ => h.elim, fun A outer s H args us vs Q E _ _ _ _ ⟨p, u, v, d, _, h, _⟩ => h.elim⟩
  | n + 1 => by
    have G_law_same := ok_same T n
    refine T.F_law_same.ok scSame (fun vs H Q E h => ?_) (fun cdv A outer s H vs Q E hr h => ?_)
    · obtain ⟨p, u, v, d, rfl, _⟩ := h
      rfl
    · obtain ⟨p, u, v, d, rfl, hR, hR2, q⟩ := h
      cases d with
      | dict kv => exact hR.elim
      | bool i =>
        obtain rfl : u = _ := hR
        obtain rfl : v = _ := hR2
        refine ⟨_, pss_cons (ps_if (PW.pt (pw_or (pt_val (pe_callB call_isi (by rfl) T.z_isinstance (by decide +kernel) (pa_cons (pv 0) (pa_cons (pe_bltn (v := .ty "bool") (by rfl) T.z_bool (by decide +kernel) rfl) pa_nil)))) (pw_or1 (pt_val (pe_callB call_isi (by rfl) T.z_isinstance (by decide +kernel) (pa_cons (pv 1) (pa_cons (pe_bltn (v := .ty "bool") (by rfl) T.z_bool (by decide +kernel) rfl) pa_nil))))))) (pss_one (ps_ret (pe_and (pe_callB call_isi (by rfl) T.z_isinstance (by decide +kernel) (pa_cons (pv 0) (pa_cons (pe_bltn (v := .ty "bool") (by rfl) T.z_bool (by decide +kernel) rfl) pa_nil))) (pe_and (pe_callB call_isi (by rfl) T.z_isinstance (by decide +kernel) (pa_cons (pv 1) (pa_cons (pe_bltn (v := .ty "bool") (by rfl) T.z_bool (by decide +kernel) rfl) pa_nil))) (pe_one (pe_cmpR op_eq (pv 0) (pv 1) (nomark _))))))) (pss_nil)) (pss_cons ps_never (pss_cons ps_never (pss_cons ps_never (pss_cons ps_never (pss_cons ps_never (pss_cons ps_never (pss_cons ps_never (pss_one ps_never)))))))), ?_⟩
        refine ⟨_, rfl, _, _, _, _, _, rfl, .ty _, (.base (.bl i)), kit_ty (by decide +kernel), ⟨_, rfl, iteT (iteT ?_)⟩⟩
        refine ⟨_, rfl, _, _, _, _, _, rfl, .ty _, (.base (.bl i)), kit_ty (by decide +kernel), ⟨_, rfl, iteT ⟨_, rfl, _, _, _, _, _, rfl, .ty _, (.base (.bl i)), kit_ty (by decide +kernel), ⟨_, rfl, iteT ⟨_, rfl, _, rfl, rfl, ?_⟩⟩⟩⟩⟩
        rw [decide_eq_true rfl]
        exact q
      | none =>
        obtain rfl : u = _ := hR
        obtain rfl : v = _ := hR2
        refine ⟨_, pss_cons (ps_if (PW.pt (pw_or (pt_val (pe_callB call_isi (by rfl) T.z_isinstance (by decide +kernel) (pa_cons (pv 0) (pa_cons (pe_bltn (v := .ty "bool") (by rfl) T.z_bool (by decide +kernel) rfl) pa_nil)))) (pw_or1 (pt_val (pe_callB call_isi (by rfl) T.z_isinstance (by decide +kernel) (pa_cons (pv 1) (pa_cons (pe_bltn (v := .ty "bool") (by rfl) T.z_bool (by decide +kernel) rfl) pa_nil))))))) (pss_one ps_never) (pss_nil))
          (pss_cons (ps_if (PW.pt (pw_or (pt_cmpR op_isN (pv 0) pe_non (nomark _)) (pw_or1 (pt_cmpR op_isN (pv 1) pe_non (nomark _))))) (pss_one (ps_ret (pe_and (pe_cmpR op_isN (pv 0) pe_non (nomark _)) (pe_one (pe_cmpR op_isN (pv 1) pe_non (nomark _)))))) (pss_nil)) (pss_cons ps_never (pss_cons ps_never (pss_cons ps_never (pss_cons ps_never (pss_cons ps_never (pss_cons ps_never (pss_one ps_never)))))))), ?_⟩
        refine ⟨_, rfl, _, _, _, _, _, rfl, .ty _, (.base .non), kit_ty (by decide +kernel), ⟨_, rfl, iteF ⟨_, rfl, _, _, _, _, _, rfl, .ty _, (.base .non), kit_ty (by decide +kernel), ⟨_, rfl, iteF ?_⟩⟩⟩⟩
        refine ⟨_, rfl, rfl, _, rfl, iteDT rfl (iteT ?_)⟩
        refine ⟨_, rfl, rfl, _, rfl, iteDT rfl ?_⟩
        refine ⟨_, rfl, rfl, ?_⟩
        rw [decide_eq_true rfl]
        exact q
      | str i =>
        obtain rfl : u = _ := hR
        obtain rfl : v = _ := hR2
        refine ⟨_, pss_cons (ps_if (PW.pt (pw_or (pt_val (pe_callB call_isi (by rfl) T.z_isinstance (by decide +kernel) (pa_cons (pv 0) (pa_cons (pe_bltn (v := .ty "bool") (by rfl) T.z_bool (by decide +kernel) rfl) pa_nil)))) (pw_or1 (pt_val (pe_callB call_isi (by rfl) T.z_isinstance (by decide +kernel) (pa_cons (pv 1) (pa_cons (pe_bltn (v := .ty "bool") (by rfl) T.z_bool (by decide +kernel) rfl) pa_nil))))))) (pss_one ps_never) (pss_nil))
          (pss_cons (ps_if (PW.pt (pw_or (pt_cmpR op_isN (pv 0) pe_non (nomark _)) (pw_or1 (pt_cmpR op_isN (pv 1) pe_non (nomark _))))) (pss_one ps_never) (pss_nil))
          (pss_cons (ps_if (pt_val (pe_callB call_isi (by rfl) T.z_isinstance (by decide +kernel) (pa_cons (pv 1) (pa_cons (pe_bltn (v := .ty "int") (by rfl) T.z_int (by decide +kernel) rfl) pa_nil)))) (pss_one ps_never) (pss_nil))
          (pss_cons (ps_if (pt_val (pe_callB call_isi (by rfl) T.z_isinstance (by decide +kernel) (pa_cons (pv 1) (pa_cons (pe_bltn (v := .ty "str") (by rfl) T.z_str (by decide +kernel) rfl) pa_nil)))) (pss_one (ps_ret (pe_and (pe_callB call_isi (by rfl) T.z_isinstance (by decide +kernel) (pa_cons (pv 0) (pa_cons (pe_bltn (v := .ty "str") (by rfl) T.z_str (by decide +kernel) rfl) pa_nil))) (pe_one (pe_cmpR op_eq (pv 0) (pv 1) (nomark _)))))) (pss_nil)) (pss_cons ps_never (pss_cons ps_never (pss_cons ps_never (pss_cons ps_never (pss_one ps_never)))))))), ?_⟩
        refine ⟨_, rfl, _, _, _, _, _, rfl, .ty _, (.base (.str i)), kit_ty (by decide +kernel), ⟨_, rfl, iteF ⟨_, rfl, _, _, _, _, _, rfl, .ty _, (.base (.str i)), kit_ty (by decide +kernel), ⟨_, rfl, iteF ?_⟩⟩⟩⟩
        refine ⟨_, rfl, rfl, _, rfl, iteD (by intro z; cases z) ⟨_, rfl, rfl, _, rfl, iteD (by intro z; cases z) ?_⟩⟩
        refine ⟨_, rfl, _, _, _, _, _, rfl, .ty _, (.base (.str i)), kit_ty (by decide +kernel), ⟨_, rfl, iteF ?_⟩⟩
        refine ⟨_, rfl, _, _, _, _, _, rfl, .ty _, (.base (.str i)), kit_ty (by decide +kernel), ⟨_, rfl, iteT ⟨_, rfl, _, _, _, _, _, rfl, .ty _, (.base (.str i)), kit_ty (by decide +kernel), ⟨_, rfl, iteT ⟨_, rfl, _, rfl, rfl, ?_⟩⟩⟩⟩⟩
        rw [decide_eq_true rfl]
        exact q
      | int i =>
        obtain rfl : u = _ := hR
        obtain rfl : v = _ := hR2
        refine ⟨_, pss_cons (ps_if (PW.pt (pw_or (pt_val (pe_callB call_isi (by rfl) T.z_isinstance (by decide +kernel) (pa_cons (pv 0) (pa_cons (pe_bltn (v := .ty "bool") (by rfl) T.z_bool (by decide +kernel) rfl) pa_nil)))) (pw_or1 (pt_val (pe_callB call_isi (by rfl) T.z_isinstance (by decide +kernel) (pa_cons (pv 1) (pa_cons (pe_bltn (v := .ty "bool") (by rfl) T.z_bool (by decide +kernel) rfl) pa_nil))))))) (pss_one ps_never) (pss_nil))
          (pss_cons (ps_if (PW.pt (pw_or (pt_cmpR op_isN (pv 0) pe_non (nomark _)) (pw_or1 (pt_cmpR op_isN (pv 1) pe_non (nomark _))))) (pss_one ps_never) (pss_nil))
          (pss_cons (ps_if (pt_val (pe_callB call_isi (by rfl) T.z_isinstance (by decide +kernel) (pa_cons (pv 1) (pa_cons (pe_bltn (v := .ty "int") (by rfl) T.z_int (by decide +kernel) rfl) pa_nil)))) (pss_one (ps_ret (pe_and (pe_callB call_isi (by rfl) T.z_isinstance (by decide +kernel) (pa_cons (pv 0) (pa_cons (pe_bltn (v := .ty "int") (by rfl) T.z_int (by decide +kernel) rfl) pa_nil))) (pe_one (pe_cmpR op_eq (pv 0) (pv 1) (nomark _)))))) (pss_nil))
          (pss_cons ps_never (pss_cons ps_never (pss_cons ps_never (pss_cons ps_never (pss_cons ps_never (pss_one ps_never)))))))), ?_⟩
        refine ⟨_, rfl, _, _, _, _, _, rfl, .ty _, (.base (.int i)), kit_ty (by decide +kernel), ⟨_, rfl, iteF ⟨_, rfl, _, _, _, _, _, rfl, .ty _, (.base (.int i)), kit_ty (by decide +kernel), ⟨_, rfl, iteF ?_⟩⟩⟩⟩
        refine ⟨_, rfl, rfl, _, rfl, iteD (by intro z; cases z) ⟨_, rfl, rfl, _, rfl, iteD (by intro z; cases z) ?_⟩⟩
        refine ⟨_, rfl, _, _, _, _, _, rfl, .ty _, (.base (.int i)), kit_ty (by decide +kernel), ⟨_, rfl, iteT ⟨_, rfl, _, _, _, _, _, rfl, .ty _, (.base (.int i)), kit_ty (by decide +kernel), ⟨_, rfl, iteT ⟨_, rfl, _, rfl, rfl, ?_⟩⟩⟩⟩⟩
        rw [decide_eq_true rfl]
        exact q
      | list ds =>
        obtain ⟨a, xs, rfl, _, h1, hl1, hz, r1⟩ := hR
        obtain ⟨b, ys, rfl, _, h2, hl2, _, r2⟩ := hR2
        refine ⟨_, pss_cons (ps_if (PW.pt (pw_or (pt_val (pe_callB call_isi (by rfl) T.z_isinstance (by decide +kernel) (pa_cons (pv 0) (pa_cons (pe_bltn (v := .ty "bool") (by rfl) T.z_bool (by decide +kernel) rfl) pa_nil)))) (pw_or1 (pt_val (pe_callB call_isi (by rfl) T.z_isinstance (by decide +kernel) (pa_cons (pv 1) (pa_cons (pe_bltn (v := .ty "bool") (by rfl) T.z_bool (by decide +kernel) rfl) pa_nil))))))) (pss_one ps_never) (pss_nil))
          (pss_cons (ps_if (PW.pt (pw_or (pt_cmpR op_isN (pv 0) pe_non (nomark _)) (pw_or1 (pt_cmpR op_isN (pv 1) pe_non (nomark _))))) (pss_one ps_never) (pss_nil))
          (pss_cons (ps_if (pt_val (pe_callB call_isi (by rfl) T.z_isinstance (by decide +kernel) (pa_cons (pv 1) (pa_cons (pe_bltn (v := .ty "int") (by rfl) T.z_int (by decide +kernel) rfl) pa_nil)))) (pss_one ps_never) (pss_nil))
          (pss_cons (ps_if (pt_val (pe_callB call_isi (by rfl) T.z_isinstance (by decide +kernel) (pa_cons (pv 1) (pa_cons (pe_bltn (v := .ty "str") (by rfl) T.z_str (by decide +kernel) rfl) pa_nil)))) (pss_one ps_never) (pss_nil))
          (pss_cons (ps_if (PW.pt (pw_and (pt_val (pe_callB call_isi (by rfl) T.z_isinstance (by decide +kernel) (pa_cons (pv 1) (pa_cons (pe_bltn (v := .ty "list") (by rfl) T.z_list (by decide +kernel) rfl) pa_nil)))) (pw_and1 (pt_not (pt_val (pe_callB call_isi (by rfl) T.z_isinstance (by decide +kernel) (pa_cons (pv 0) (pa_cons (pe_bltn (v := .ty "list") (by rfl) T.z_list (by decide +kernel) rfl) pa_nil)))))))) (pss_one ps_never) (pss_nil))
          (pss_cons (ps_if (PW.pt (pw_and (pt_val (pe_callB call_isi (by rfl) T.z_isinstance (by decide +kernel) (pa_cons (pv 1) (pa_cons (pe_bltn (v := .ty "tuple") (by rfl) T.z_tuple (by decide +kernel) rfl) pa_nil)))) (pw_and1 (pt_not (pt_val (pe_callB call_isi (by rfl) T.z_isinstance (by decide +kernel) (pa_cons (pv 0) (pa_cons (pe_bltn (v := .ty "tuple") (by rfl) T.z_tuple (by decide +kernel) rfl) pa_nil)))))))) (pss_one ps_never) (pss_nil))
          (pss_cons (ps_if (pt_cmpR op_ne (pe_callB call_len_seq (by rfl) T.z_len (by decide +kernel) (pa_cons (pv 0) pa_nil)) (pe_callB call_len_seq (by rfl) T.z_len (by decide +kernel) (pa_cons (pv 1) pa_nil)) (nomark _)) (pss_one ps_never) (pss_nil))
          (pss_cons (ps_for PassesOwn.never rfl (pi_range1 (by rfl) T.z_range (pa_cons (pe_callB call_len_seq (by rfl) T.z_len (by decide +kernel) (pa_cons (pv 1) pa_nil)) pa_nil)) (pg_name (i := 2) scSame.nd rfl (.inl rfl))
            (pss_one (ps_if (pt_not (pt_val (pe_call G_law_same hr (by rfl) T.g_law_same T.F_law_same.kp T.b_law_same .nil pass0 (pa_cons (pe_ix ix_seq (pv 0) (pv 2) (fun _ _ => rfl)) (pa_cons (pe_ix ix_seq (pv 1) (pv 2) (fun _ _ => rfl)) pa_nil))))) (pss_one ps_never) (pss_nil))))
          (pss_one (ps_ret pe_bl))))))))), ?_⟩
        have ta : TyX K H (.ref a) (.type "list") := .base (.lst h1)
        have tb : TyX K H (.ref b) (.type "list") := .base (.lst h2)
        refine ⟨_, rfl, _, _, _, _, _, rfl, .ty _, ta, kit_ty (by decide +kernel), ⟨_, rfl, iteF ⟨_, rfl, _, _, _, _, _, rfl, .ty _, tb, kit_ty (by decide +kernel), ⟨_, rfl, iteF ?_⟩⟩⟩⟩
        refine ⟨_, rfl, rfl, _, rfl, iteD (by intro z; cases z) ⟨_, rfl, rfl, _, rfl, iteD (by intro z; cases z) ?_⟩⟩
        refine ⟨_, rfl, _, _, _, _, _, rfl, .ty _, tb, kit_ty (by decide +kernel), ⟨_, rfl, iteF ⟨_, rfl, _, _, _, _, _, rfl, .ty _, tb, kit_ty (by decide +kernel), ⟨_, rfl, iteF ?_⟩⟩⟩⟩
        refine ⟨_, rfl, _, _, _, _, _, rfl, .ty _, tb, kit_ty (by decide +kernel), _, rfl, iteT ⟨_, rfl, _, _, _, _, _, rfl, .ty _, ta, kit_ty (r := true) (by decide +kernel), _, rfl, iteF ?_⟩⟩
        refine ⟨_, rfl, _, _, _, _, _, rfl, .ty _, tb, kit_ty (by decide +kernel), _, rfl, iteF (iteF ?_)⟩
        refine ⟨_, rfl, a, _, rfl, .inl (SqL.of h1), _, rfl, b, _, rfl, .inl (SqL.of h2), rfl, _, rfl, iteND (by rw [hl1, hl2]) ?_⟩
        refine ⟨_, rfl, b, _, rfl, .inl (SqL.of h2), _, rfl, by omega, by omega, for_range (lo := 0) (n := ys.length) (fun _ σ H' => (∃ v, σ = [some (.ref a), some (.ref b), v]) ∧ H' = H) ⟨⟨none, rfl⟩, rfl⟩ ?_ ?_⟩
        · rintro i σ H' hi ⟨⟨v, rfl⟩, rfl⟩
          have hx := List.getElem?_eq_getElem (l := xs) (i := i) (by omega)
          have hy := List.getElem?_eq_getElem (l := ys) (i := i) (by omega)
          have hd := List.getElem?_eq_getElem (l := ds) (i := i) (by omega)
          have e0 : (0 : Int) + (i : Int) = (i : Int) := by omega
          refine ⟨_, rfl, _, rfl, .inl ⟨a, xs, _, _, rfl, rfl, SqL.of h1, at_of' e0 hx, ?_⟩⟩
          refine ⟨_, rfl, _, rfl, .inl ⟨b, ys, _, _, rfl, rfl, SqL.of h2, at_of' e0 hy, ?_⟩⟩
          exact ⟨p, _, _, _, rfl, r1 i _ _ hx hd, r2 i _ _ hy hd, _, rfl, iteF ⟨⟨_, rfl⟩, rfl⟩⟩
        · rintro σ H' ⟨⟨v, rfl⟩, rfl⟩
          exact q
      | tuple ds =>
        obtain ⟨a, xs, rfl, _, h1, hl1, hz, r1⟩ := hR
        obtain ⟨b, ys, rfl, _, h2, hl2, _, r2⟩ := hR2
        refine ⟨_, pss_cons (ps_if (PW.pt (pw_or (pt_val (pe_callB call_isi (by rfl) T.z_isinstance (by decide +kernel) (pa_cons (pv 0) (pa_cons (pe_bltn (v := .ty "bool") (by rfl) T.z_bool (by decide +kernel) rfl) pa_nil)))) (pw_or1 (pt_val (pe_callB call_isi (by rfl) T.z_isinstance (by decide +kernel) (pa_cons (pv 1) (pa_cons (pe_bltn (v := .ty "bool") (by rfl) T.z_bool (by decide +kernel) rfl) pa_nil))))))) (pss_one ps_never) (pss_nil))
          (pss_cons (ps_if (PW.pt (pw_or (pt_cmpR op_isN (pv 0) pe_non (nomark _)) (pw_or1 (pt_cmpR op_isN (pv 1) pe_non (nomark _))))) (pss_one ps_never) (pss_nil))
          (pss_cons (ps_if (pt_val (pe_callB call_isi (by rfl) T.z_isinstance (by decide +kernel) (pa_cons (pv 1) (pa_cons (pe_bltn (v := .ty "int") (by rfl) T.z_int (by decide +kernel) rfl) pa_nil)))) (pss_one ps_never) (pss_nil))
          (pss_cons (ps_if (pt_val (pe_callB call_isi (by rfl) T.z_isinstance (by decide +kernel) (pa_cons (pv 1) (pa_cons (pe_bltn (v := .ty "str") (by rfl) T.z_str (by decide +kernel) rfl) pa_nil)))) (pss_one ps_never) (pss_nil))
          (pss_cons (ps_if (PW.pt (pw_and (pt_val (pe_callB call_isi (by rfl) T.z_isinstance (by decide +kernel) (pa_cons (pv 1) (pa_cons (pe_bltn (v := .ty "list") (by rfl) T.z_list (by decide +kernel) rfl) pa_nil)))) (pw_and1 (pt_not (pt_val (pe_callB call_isi (by rfl) T.z_isinstance (by decide +kernel) (pa_cons (pv 0) (pa_cons (pe_bltn (v := .ty "list") (by rfl) T.z_list (by decide +kernel) rfl) pa_nil)))))))) (pss_one ps_never) (pss_nil))
          (pss_cons (ps_if (PW.pt (pw_and (pt_val (pe_callB call_isi (by rfl) T.z_isinstance (by decide +kernel) (pa_cons (pv 1) (pa_cons (pe_bltn (v := .ty "tuple") (by rfl) T.z_tuple (by decide +kernel) rfl) pa_nil)))) (pw_and1 (pt_not (pt_val (pe_callB call_isi (by rfl) T.z_isinstance (by decide +kernel) (pa_cons (pv 0) (pa_cons (pe_bltn (v := .ty "tuple") (by rfl) T.z_tuple (by decide +kernel) rfl) pa_nil)))))))) (pss_one ps_never) (pss_nil))
          (pss_cons (ps_if (pt_cmpR op_ne (pe_callB call_len_seq (by rfl) T.z_len (by decide +kernel) (pa_cons (pv 0) pa_nil)) (pe_callB call_len_seq (by rfl) T.z_len (by decide +kernel) (pa_cons (pv 1) pa_nil)) (nomark _)) (pss_one ps_never) (pss_nil))
          (pss_cons (ps_for PassesOwn.never rfl (pi_range1 (by rfl) T.z_range (pa_cons (pe_callB call_len_seq (by rfl) T.z_len (by decide +kernel) (pa_cons (pv 1) pa_nil)) pa_nil)) (pg_name (i := 2) scSame.nd rfl (.inl rfl))
            (pss_one (ps_if (pt_not (pt_val (pe_call G_law_same hr (by rfl) T.g_law_same T.F_law_same.kp T.b_law_same .nil pass0 (pa_cons (pe_ix ix_seq (pv 0) (pv 2) (fun _ _ => rfl)) (pa_cons (pe_ix ix_seq (pv 1) (pv 2) (fun _ _ => rfl)) pa_nil))))) (pss_one ps_never) (pss_nil))))
          (pss_one (ps_ret pe_bl))))))))), ?_⟩
        have ta : TyX K H (.ref a) (.type "tuple") := .base (.tup h1)
        have tb : TyX K H (.ref b) (.type "tuple") := .base (.tup h2)
        refine ⟨_, rfl, _, _, _, _, _, rfl, .ty _, ta, kit_ty (by decide +kernel), ⟨_, rfl, iteF ⟨_, rfl, _, _, _, _, _, rfl, .ty _, tb, kit_ty (by decide +kernel), ⟨_, rfl, iteF ?_⟩⟩⟩⟩
        refine ⟨_, rfl, rfl, _, rfl, iteD (by intro z; cases z) ⟨_, rfl, rfl, _, rfl, iteD (by intro z; cases z) ?_⟩⟩
        refine ⟨_, rfl, _, _, _, _, _, rfl, .ty _, tb, kit_ty (by decide +kernel), ⟨_, rfl, iteF ⟨_, rfl, _, _, _, _, _, rfl, .ty _, tb, kit_ty (by decide +kernel), ⟨_, rfl, iteF ?_⟩⟩⟩⟩
        refine ⟨_, rfl, _, _, _, _, _, rfl, .ty _, tb, kit_ty (by decide +kernel), _, rfl, iteF (iteF ?_)⟩
        refine ⟨_, rfl, _, _, _, _, _, rfl, .ty _, tb, kit_ty (by decide +kernel), _, rfl, iteT ⟨_, rfl, _, _, _, _, _, rfl, .ty _, ta, kit_ty (r := true) (by decide +kernel), _, rfl, iteF ?_⟩⟩
        refine ⟨_, rfl, a, _, rfl, .inr (SqT.of h1), _, rfl, b, _, rfl, .inr (SqT.of h2), rfl, _, rfl, iteND (by rw [hl1, hl2]) ?_⟩
        refine ⟨_, rfl, b, _, rfl, .inr (SqT.of h2), _, rfl, by omega, by omega, for_range (lo := 0) (n := ys.length) (fun _ σ H' => (∃ v, σ = [some (.ref a), some (.ref b), v]) ∧ H' = H) ⟨⟨none, rfl⟩, rfl⟩ ?_ ?_⟩
        · rintro i σ H' hi ⟨⟨v, rfl⟩, rfl⟩
          have hx := List.getElem?_eq_getElem (l := xs) (i := i) (by omega)
          have hy := List.getElem?_eq_getElem (l := ys) (i := i) (by omega)
          have hd := List.getElem?_eq_getElem (l := ds) (i := i) (by omega)
          have e0 : (0 : Int) + (i : Int) = (i : Int) := by omega
          refine ⟨_, rfl, _, rfl, .inr (.inl ⟨a, xs, _, _, rfl, rfl, SqT.of h1, at_of' e0 hx, ?_⟩)⟩
          refine ⟨_, rfl, _, rfl, .inr (.inl ⟨b, ys, _, _, rfl, rfl, SqT.of h2, at_of' e0 hy, ?_⟩)⟩
          exact ⟨p, _, _, _, rfl, r1 i _ _ hx hd, r2 i _ _ hy hd, _, rfl, iteF ⟨⟨_, rfl⟩, rfl⟩⟩
        · rintro σ H' ⟨⟨v, rfl⟩, rfl⟩
          exact q
end
end DD
section
open PySem PySem.Spec PyProof.Rows L2 KO SX
local macro_rules | `(tactic| ac_rfl) => `(tactic| with_reducible first
  | assumption
  | exact upd_same
  | (apply upd_get; ac_rfl; assumption)
  | (apply Run.get; assumption; ac_rfl; ac_rfl)
  | (apply Same.get; assumption; ac_rfl)
  | (apply SqL.of; ac_rfl)
  | (apply SqT.of; ac_rfl)
  | (apply Or.inl; apply SqL.of; ac_rfl)
  | (apply Or.inr; apply SqT.of; ac_rfl)
  | (apply Pool.ne'; assumption; ac_rfl)
  | (apply Pool.te'; assumption; ac_rfl)
  | (apply Pool.ie'; assumption; ac_rfl)
  | (apply Pool.run; assumption)
  | (apply Pool.upd; ac_rfl; ac_rfl)
  | (apply Pool.same'; assumption; ac_rfl))
local macro_rules | `(tactic| infer_instance) => `(tactic| with_reducible first
  | assumption
  | (apply Run.upd; infer_instance; assumption)
  | (apply Run.flip; assumption; infer_instance)
  | (apply Run.add'; assumption; infer_instance)
  | (apply Run.nil; ac_rfl))
local macro_rules | `(tactic| and_intros) => `(tactic| first
  | omega
  | (refine ⟨by omega, by omega, fun _ => by omega⟩)
  | (simp only [List.length_cons, List.length_nil, sizeLine_eq]; omega)
  | decide)
local macro_rules | `(tactic| symm_saturate) => `(tactic| first
  | exact .inl ⟨by omega, by omega⟩
  | exact .inr ⟨by omega, by omega⟩)
local macro_rules | `(tactic| nofun) => `(tactic| first
  | assumption
  | (apply ixN_of; omega; (first | omega | (simp only [List.length_append, List.length_cons, List.length_nil]; omega))))
local macro_rules | `(tactic| rfl') => `(tactic| first
  | assumption
  | rfl)
namespace DD
open PySem PySem.Spec PyProof.Rows L2 KO SX
section
variable {P : Program} {w : World} {K : PySem.W.Frag} {mg : Str → Option Value} {base : Heap}
def spLength : Sp := fun vs H Q _ => ∃ p : Addr, vs = [.ref p] ∧ Pool H p ∧ ∀ H' (r : Int), (2 ≤ r ∧ r ≤ 60) → Run p H H' → Q (.int r) H'
theorem scLlength : FnScope ["_law_pool_here"] ["_law_pool_here"] (defScope sLlength) := ⟨rfl, rfl, rfl, by decide +kernel, rfl, by decide +kernel, by decide +kernel⟩
theorem ok_Llength (T : Tx K mg) : FnOk P w K mg base CX0 2 T.f_law_length T.d_law_length ["_law_pool_here"] (spLength) := by
  have G_law_take := ok_take (P := P) (w := w) (base := base) T
  refine T.F_law_length.ok scLlength (fun vs H Q E h => ?_) (fun cdv A outer s H vs Q E hr h => ?_)
  · obtain ⟨p, rfl, hp, q⟩ := h
    rfl
  · obtain ⟨p, rfl, hp, q⟩ := h
    refine ⟨_, pss_cons (ps_if (pt_cmpR op_eq (pe_call G_law_take hr (by rfl) T.g_law_take T.F_law_take.kp T.b_law_take .nil pass0 (pa_cons (pv 0) (pa_cons pe_int pa_nil))) pe_int (nomark _)) (pss_one (ps_ret (pe_op op_add pe_int (pe_call G_law_take hr (by rfl) T.g_law_take T.F_law_take.kp T.b_law_take .nil pass0 (pa_cons (pv 0) (pa_cons pe_int pa_nil)))))) (pss_nil))
      (pss_one (ps_ret (pe_ix ix_list (pe_lst (pa_cons pe_int (pa_cons pe_int (pa_cons pe_int (pa_cons pe_int (pa_cons pe_int (pa_cons pe_int pa_nil))))))) (pe_call G_law_take hr (by rfl) T.g_law_take T.F_law_take.kp T.b_law_take .nil pass0 (pa_cons (pv 0) (pa_cons pe_int pa_nil))) (fun _ _ => rfl)))), ?_⟩
    refine ⟨_, rfl, _, _, rfl, (by ac_rfl), by and_intros, by and_intros, fun H1 r1 l1 u1 R1 => ?_⟩
    have P1 := R1.2
    refine ⟨rfl, _, rfl, iteDs (fun c2 => ?_) (fun c2 => ?_)⟩
    · skip
      refine ⟨_, rfl, _, _, rfl, (by ac_rfl), by and_intros, by and_intros, fun H3 r3 l3 u3 R3 => ?_⟩
      have P3 := R3.2
      refine ⟨_, _, rfl, rfl, ?_⟩
      exact q _ _ (by and_intros) (by infer_instance)
    · skip
      refine ⟨(by and_intros), fun a4 n4 => ?_⟩
      refine ⟨_, rfl, _, _, rfl, (by ac_rfl), by and_intros, by and_intros, fun H5 r5 l5 u5 R5 => ?_⟩
      have P5 := R5.2
      obtain ⟨v5, i5, m5⟩ := lit_at (ns := [2, 3, 5, 10, 24, 60]) (r := r5) (by and_intros) (by and_intros)
      simp only [List.mem_cons, List.not_mem_nil, or_false] at m5
      replace i5 : atI [V.int 2, V.int 3, V.int 5, V.int 10, V.int 24, V.int 60] r5 = some (V.int v5) := i5
      refine ⟨_, _, _, _, rfl, rfl, (by ac_rfl), i5, ?_⟩
      exact q _ _ (by and_intros) (by infer_instance)

def spMany : Sp := fun vs H Q _ => ∃ p : Addr, vs = [.ref p] ∧ Pool H p ∧ ∀ H' (r : Int), (0 ≤ r ∧ r ≤ 12) → Run p H H' → Q (.int r) H'
theorem scLmany : FnScope ["_law_pool_here", "_law_way"] ["_law_pool_here"] (defScope sLmany) := ⟨rfl, rfl, rfl, by decide +kernel, rfl, by decide +kernel, by decide +kernel⟩
theorem ok_Lmany (T : Tx K mg) : FnOk P w K mg base CX0 2 T.f_law_many T.d_law_many ["_law_pool_here"] (spMany) := by
  have G_law_take := ok_take (P := P) (w := w) (base := base) T
  refine T.F_law_many.ok scLmany (fun vs H Q E h => ?_) (fun cdv A outer s H vs Q E hr h => ?_)
  · obtain ⟨p, rfl, hp, q⟩ := h
    rfl
  · obtain ⟨p, rfl, hp, q⟩ := h
    refine ⟨_, pss_cons (ps_set (i := 1) scLmany.nd rfl (.inl rfl) (pe_call G_law_take hr (by rfl) T.g_law_take T.F_law_take.kp T.b_law_take .nil pass0 (pa_cons (pv 0) (pa_cons pe_int pa_nil))))
      (pss_cons (ps_if (pt_cmpR op_eq (pv 1) pe_int (nomark _)) (pss_one (ps_ret (pe_call G_law_take hr (by rfl) T.g_law_take T.F_law_take.kp T.b_law_take .nil pass0 (pa_cons (pv 0) (pa_cons pe_int pa_nil))))) (pss_nil))
      (pss_cons (ps_if (pt_cmpR op_eq (pv 1) pe_int (nomark _)) (pss_one (ps_ret (pe_op op_add pe_int (pe_call G_law_take hr (by rfl) T.g_law_take T.F_law_take.kp T.b_law_take .nil pass0 (pa_cons (pv 0) (pa_cons pe_int pa_nil)))))) (pss_nil))
      (pss_one (ps_ret (pe_op op_add pe_int (pe_call G_law_take hr (by rfl) T.g_law_take T.F_law_take.kp T.b_law_take .nil pass0 (pa_cons (pv 0) (pa_cons pe_int pa_nil)))))))), ?_⟩
    refine ⟨_, rfl, _, _, rfl, (by ac_rfl), by and_intros, by and_intros, fun H1 r1 l1 u1 R1 => ?_⟩
    have P1 := R1.2
    refine ⟨_, rfl, rfl, _, rfl, iteDs (fun c2 => ?_) (fun c2 => ?_)⟩
    · skip
      refine ⟨_, rfl, _, _, rfl, (by ac_rfl), by and_intros, by and_intros, fun H3 r3 l3 u3 R3 => ?_⟩
      have P3 := R3.2
      exact q _ _ (by and_intros) (by infer_instance)
    · skip
      refine ⟨_, rfl, rfl, _, rfl, iteDs (fun c4 => ?_) (fun c4 => ?_)⟩
      · skip
        refine ⟨_, rfl, _, _, rfl, (by ac_rfl), by and_intros, by and_intros, fun H5 r5 l5 u5 R5 => ?_⟩
        have P5 := R5.2
        refine ⟨_, _, rfl, rfl, ?_⟩
        exact q _ _ (by and_intros) (by infer_instance)
      · skip
        refine ⟨_, rfl, _, _, rfl, (by ac_rfl), by and_intros, by and_intros, fun H6 r6 l6 u6 R6 => ?_⟩
        have P6 := R6.2
        refine ⟨_, _, rfl, rfl, ?_⟩
        exact q _ _ (by and_intros) (by infer_instance)

def spCount : Sp := fun vs H Q _ => ∃ (p : Addr) (n : Int), vs = [.ref p, .int n] ∧ Pool H p ∧ ∀ H' (r : Int), (0 ≤ r ∧ r ≤ 24 ∧ (n < 2 → r = 0)) → Run p H H' → Q (.int r) H'
theorem scLcount : FnScope ["_law_pool_here", "_law_many_here"] ["_law_pool_here", "_law_many_here"] (defScope sLcount) := ⟨rfl, rfl, rfl, by decide +kernel, rfl, by decide +kernel, by decide +kernel⟩
theorem ok_Lcount (T : Tx K mg) : FnOk P w K mg base CX0 2 T.f_law_count T.d_law_count ["_law_pool_here", "_law_many_here"] (spCount) := by
  have G_law_take := ok_take (P := P) (w := w) (base := base) T
  refine T.F_law_count.ok scLcount (fun vs H Q E h => ?_) (fun cdv A outer s H vs Q E hr h => ?_)
  · obtain ⟨p, n, rfl, hp, q⟩ := h
    rfl
  · obtain ⟨p, n, rfl, hp, q⟩ := h
    refine ⟨_, pss_cons (ps_if (pt_cmpR op_lt (pv 1) pe_int (nomark _)) (pss_one (ps_ret pe_int)) (pss_nil))
      (pss_cons (ps_if (pt_cmpR op_eq (pe_call G_law_take hr (by rfl) T.g_law_take T.F_law_take.kp T.b_law_take .nil pass0 (pa_cons (pv 0) (pa_cons pe_int pa_nil))) pe_int (nomark _)) (pss_one (ps_ret (pe_op op_add pe_int (pe_call G_law_take hr (by rfl) T.g_law_take T.F_law_take.kp T.b_law_take .nil pass0 (pa_cons (pv 0) (pa_cons pe_int pa_nil)))))) (pss_nil))
      (pss_one (ps_ret (pe_call G_law_take hr (by rfl) T.g_law_take T.F_law_take.kp T.b_law_take .nil pass0 (pa_cons (pv 0) (pa_cons pe_int pa_nil)))))), ?_⟩
    refine ⟨_, rfl, _, _, rfl, rfl, _, rfl, iteDs (fun c1 => ?_) (fun c1 => ?_)⟩
    · skip
      exact q _ _ (by and_intros) (by infer_instance)
    · skip
      refine ⟨_, rfl, _, _, rfl, (by ac_rfl), by and_intros, by and_intros, fun H2 r2 l2 u2 R2 => ?_⟩
      have P2 := R2.2
      refine ⟨rfl, _, rfl, iteDs (fun c3 => ?_) (fun c3 => ?_)⟩
      · skip
        refine ⟨_, rfl, _, _, rfl, (by ac_rfl), by and_intros, by and_intros, fun H4 r4 l4 u4 R4 => ?_⟩
        have P4 := R4.2
        refine ⟨_, _, rfl, rfl, ?_⟩
        exact q _ _ (by and_intros) (by infer_instance)
      · skip
        refine ⟨_, rfl, _, _, rfl, (by ac_rfl), by and_intros, by and_intros, fun H5 r5 l5 u5 R5 => ?_⟩
        have P5 := R5.2
        exact q _ _ (by and_intros) (by infer_instance)
end
end DD
end
section
open PySem PySem.Spec PyProof.Rows L2 KO SX
local macro_rules | `(tactic| ac_rfl) => `(tactic| with_reducible first
  | assumption
  | exact upd_same
  | (apply upd_get; ac_rfl; assumption)
  | (apply Run.get; assumption; ac_rfl; ac_rfl)
  | (apply Same.get; assumption; ac_rfl)
  | (apply SqL.of; ac_rfl)
  | (apply SqT.of; ac_rfl)
  | (apply Or.inl; apply SqL.of; ac_rfl)
  | (apply Or.inr; apply SqT.of; ac_rfl)
  | (apply Pool.ne'; assumption; ac_rfl)
  | (apply Pool.te'; assumption; ac_rfl)
  | (apply Pool.ie'; assumption; ac_rfl)
  | (apply Pool.run; assumption)
  | (apply Pool.upd; ac_rfl; ac_rfl)
  | (apply Pool.same'; assumption; ac_rfl))
local macro_rules | `(tactic| infer_instance) => `(tactic| with_reducible first
  | assumption
  | (apply Run.upd; infer_instance; assumption)
  | (apply Run.flip; assumption; infer_instance)
  | (apply Run.add'; assumption; infer_instance)
  | (apply Run.nil; ac_rfl))
local macro_rules | `(tactic| and_intros) => `(tactic| first
  | omega
  | (refine ⟨by omega, by omega, fun _ => by omega⟩)
  | (simp only [List.length_cons, List.length_nil, sizeLine_eq]; omega)
  | decide)
local macro_rules | `(tactic| symm_saturate) => `(tactic| first
  | exact .inl ⟨by omega, by omega⟩
  | exact .inr ⟨by omega, by omega⟩)
local macro_rules | `(tactic| nofun) => `(tactic| first
  | assumption
  | (apply ixN_of; omega; (first | omega | (simp only [List.length_append, List.length_cons, List.length_nil]; omega))))
local macro_rules | `(tactic| rfl') => `(tactic| first
  | assumption
  | rfl)
namespace DD
open PySem PySem.Spec PyProof.Rows L2 KO SX
section
variable {P : Program} {w : World} {K : PySem.W.Frag} {mg : Str → Option Value} {base : Heap}
def spAny : Sp := fun vs H Q _ => ∃ (p : Addr) (T n c : Int), vs = [.ref p, .int T, .int n, .int c] ∧ Pool H p ∧ 2 ≤ T ∧ T ≤ 60 ∧ 0 ≤ n ∧ n ≤ 12 ∧ 0 ≤ c ∧ c ≤ 24 ∧ (n < 2 → c = 0) ∧ ∀ H' a, H a = none → spSpans H H' p a T n c → Q (.ref a) H'

theorem scLanyspans : FnScope ["_law_pool_here", "_law_length_here", "_law_many_here", "_law_count_here", "_law_spans", "_law_k", "_law_start", "_law_end", "_law_room", "_law_low"] ["_law_pool_here", "_law_length_here", "_law_many_here", "_law_count_here"] (defScope sLanyspans) := ⟨rfl, rfl, rfl, by decide +kernel, rfl, by decide +kernel, by decide +kernel⟩
theorem ok_Lanyspans (T : Tx K mg) : FnOk P w K mg base CX0 2 T.f_law_any_spans T.d_law_any_spans ["_law_pool_here", "_law_length_here", "_law_many_here", "_law_count_here"] (spAny) := by
  have G_law_take := ok_take (P := P) (w := w) (base := base) T
  refine T.F_law_any_spans.ok scLanyspans (fun vs H Q E h => ?_) (fun cdv A outer s H vs Q E hr h => ?_)
  · obtain ⟨p, T0, n, c, rfl, hp, hT, hT2, hn, hn2, hc, hc2, hnc, q⟩ := h
    rfl
  · obtain ⟨p, T0, n, c, rfl, hp, hT, hT2, hn, hn2, hc, hc2, hnc, q⟩ := h
    refine ⟨_, pss_cons (ps_set (i := 4) scLanyspans.nd rfl (.inl rfl) (pe_lst pa_nil))
      (pss_cons (ps_for PassesOwn.never rfl (pi_range1 (by rfl) T.z_range (pa_cons (pv 3) pa_nil)) (pg_name (i := 5) scLanyspans.nd rfl (.inl rfl))
      (pss_cons (ps_set (i := 6) scLanyspans.nd rfl (.inl rfl) (pe_call G_law_take hr (by rfl) T.g_law_take T.F_law_take.kp T.b_law_take .nil pass0 (pa_cons (pv 0) (pa_cons (pv 2) pa_nil))))
      (pss_cons (ps_set (i := 7) scLanyspans.nd rfl (.inl rfl) (pe_op op_mod (pe_callTy (T := "int") call_int1 (by rfl) T.z_int (by decide +kernel) (pa_cons (pe_op op_add (pe_op op_add (pv 6) pe_int) (pe_call G_law_take hr (by rfl) T.g_law_take T.F_law_take.kp T.b_law_take .nil pass0 (pa_cons (pv 0) (pa_cons (pe_op op_sub (pv 2) pe_int) pa_nil)))) pa_nil)) (pv 2)))
      (pss_cons (ps_set (i := 8) scLanyspans.nd rfl (.inl rfl) (pe_op op_mul pe_int (pv 1)))
      (pss_cons (ps_if (pt_cmpR op_eq (pe_call G_law_take hr (by rfl) T.g_law_take T.F_law_take.kp T.b_law_take .nil pass0 (pa_cons (pv 0) (pa_cons pe_int pa_nil))) pe_int (nomark _)) (pss_one (ps_set (i := 8) scLanyspans.nd rfl (.inl rfl) pe_int)) (pss_nil))
      (pss_cons (ps_set (i := 9) scLanyspans.nd rfl (.inl rfl) (pe_call G_law_take hr (by rfl) T.g_law_take T.F_law_take.kp T.b_law_take .nil pass0 (pa_cons (pv 0) (pa_cons (pv 8) pa_nil))))
      (pss_cons (ps_expr (pe_bm PySem.F.plainAttrs_list PySem.F.slot_list_append PySem.F.type_list_append mt_append (pv 4) (pa_cons (pe_tup (pa_cons (pv 6) (pa_cons (pv 7) (pa_cons (pv 9) (pa_cons (pe_op op_add (pv 9) (pe_call G_law_take hr (by rfl) T.g_law_take T.F_law_take.kp T.b_law_take .nil pass0 (pa_cons (pv 0) (pa_cons (pe_callB (call_min2 rfl) (by rfl) T.z_min (by decide +kernel) (pa_cons (pv 1) (pa_cons (pe_op op_sub pe_int (pv 9)) pa_nil))) pa_nil)))) pa_nil))))) pa_nil)))
      (pss_one (ps_if (pt_cmpR op_eq (pe_call G_law_take hr (by rfl) T.g_law_take T.F_law_take.kp T.b_law_take .nil pass0 (pa_cons (pv 0) (pa_cons pe_int pa_nil))) pe_int (nomark _)) (pss_one (ps_asg (pe_ix ix_list (pv 4) (pe_call G_law_take hr (by rfl) T.g_law_take T.F_law_take.kp T.b_law_take .nil pass0 (pa_cons (pv 0) (pa_cons (pe_op op_add (pv 5) pe_int) pa_nil))) (fun _ _ => rfl)) (pg_sub (pv 4) (pv 5) set_list))) (pss_nil))))))))))
      (pss_one (ps_ret (pv 4)))), ?_⟩
    refine ⟨(by and_intros), fun a1 n1 => ?_⟩
    refine ⟨_, rfl, _, rfl, (by and_intros), (by and_intros), for_range (lo := 0) (n := c.toNat) (fun j σ H' => (∃ v5 v6 v7 v8 v9, σ = [some (.ref p), some (.int T0), some (.int n), some (.int c), some (.ref a1), v5, v6, v7, v8, v9]) ∧ spSpans H H' p a1 T0 n j) ⟨⟨_, _, _, _, _, rfl⟩, [], [], upd_same, .nil, rfl, fun s h => by simp at h, (Run.nil hp).upd n1⟩ ?_ ?_⟩
    · rintro j σ H' hj ⟨⟨v5, v6, v7, v8, v9, rfl⟩, xs, sps, hD, hx, hl, hg, R0⟩
      have P0 := R0.2
      have hn3 : 2 ≤ n := by omega
      have hz : xs.length = j := by rw [hx.1, List.length_map]; omega
      have Dp : a1 ≠ p := hp.ne n1
      refine ⟨_, rfl, _, rfl, _, _, rfl, (by ac_rfl), by and_intros, by and_intros, fun H2 r2 l2 u2 R2 => ?_⟩
      have P2 := R2.2
      refine ⟨_, rfl, _, _, rfl, rfl, _, rfl, _, rfl, _, _, rfl, rfl, _, _, rfl, (by ac_rfl), by and_intros, by and_intros, fun H3 r3 l3 u3 R3 => ?_⟩
      have P3 := R3.2
      refine ⟨_, _, rfl, rfl, .inl ⟨_, rfl, ?_⟩⟩
      refine ⟨_, rfl, _, _, rfl, rfl, (by and_intros), _, rfl, _, _, rfl, rfl, (by symm_saturate), _, rfl, _, _, rfl, (by ac_rfl), by and_intros, by and_intros, fun H4 r4 l4 u4 R4 => ?_⟩
      have P4 := R4.2
      refine ⟨rfl, _, rfl, iteDs (fun c5 => ?_) (fun c5 => ?_)⟩
      · skip
        refine ⟨_, rfl, _, rfl, _, _, rfl, (by ac_rfl), by and_intros, by and_intros, fun H6 r6 l6 u6 R6 => ?_⟩
        have P6 := R6.2
        refine ⟨_, rfl, .inl ⟨rfl, _, (by ac_rfl)⟩, _, rfl, _, rfl, _, rfl, _, rfl, _, rfl, _, rfl, _, rfl, _, _, rfl, rfl, _, _, rfl, ?_⟩
        try simp only [imin, imax]
        refine ⟨_, _, rfl, (by ac_rfl), by and_intros, by and_intros, fun H7 r7 l7 u7 R7 => ?_⟩
        have P7 := R7.2
        refine ⟨_, _, rfl, rfl, (by and_intros), fun a8 n8 => ?_⟩
        refine ⟨_, _, _, rfl, rfl, (by ac_rfl), (by and_intros), ?_⟩
        have S := spSpans.more (c' := (j : Int) + 1) n1 Dp hD hx hl hg R0 (by infer_instance : Run p H' H7) n8 (gSp_of l2 u2 (turn_ne l2 u2 l3 u3) l6 l7 (by omega) (by omega)) rfl
        refine ⟨_, rfl, _, _, rfl, (by ac_rfl), by and_intros, by and_intros, fun H9 r9 l9 u9 R9 => ?_⟩
        have P9 := R9.2
        refine ⟨rfl, _, rfl, iteDs (fun c10 => ?_) (fun c10 => ?_)⟩
        · skip
          refine ⟨_, rfl, _, rfl, _, rfl, _, _, rfl, rfl, _, _, rfl, (by ac_rfl), by and_intros, by and_intros, fun H11 r11 l11 u11 R11 => ?_⟩
          have P11 := R11.2
          obtain ⟨xs', sps', hD', hx', hl', hg', R'⟩ := (S.run Dp R9).run Dp R11
          have hz' : xs'.length = j + 1 := by rw [hx'.1, List.length_map]; omega
          obtain ⟨x', d', ix', id', qd'⟩ := at_lst hx' l11 (by rw [List.length_map]; omega)
          refine ⟨_, _, _, _, rfl, rfl, (by ac_rfl), (by rfl'), _, rfl, _, rfl, _, _, _, _, rfl, rfl, (by ac_rfl), (by nofun), ?_⟩
          exact ⟨⟨_, _, _, _, _, rfl⟩, spSpans.swap n1 Dp hD' hx' hl' hg' R' id' qd' _⟩
        · skip
          exact ⟨⟨_, _, _, _, _, rfl⟩, spSpans.run Dp S (by assumption)⟩
      · skip
        refine ⟨_, rfl, _, rfl, _, _, rfl, (by ac_rfl), by and_intros, by and_intros, fun H12 r12 l12 u12 R12 => ?_⟩
        have P12 := R12.2
        refine ⟨_, rfl, .inl ⟨rfl, _, (by ac_rfl)⟩, _, rfl, _, rfl, _, rfl, _, rfl, _, rfl, _, rfl, _, rfl, _, _, rfl, rfl, _, _, rfl, ?_⟩
        try simp only [imin, imax]
        refine ⟨_, _, rfl, (by ac_rfl), by and_intros, by and_intros, fun H13 r13 l13 u13 R13 => ?_⟩
        have P13 := R13.2
        refine ⟨_, _, rfl, rfl, (by and_intros), fun a14 n14 => ?_⟩
        refine ⟨_, _, _, rfl, rfl, (by ac_rfl), (by and_intros), ?_⟩
        have S := spSpans.more (c' := (j : Int) + 1) n1 Dp hD hx hl hg R0 (by infer_instance : Run p H' H13) n14 (gSp_of l2 u2 (turn_ne l2 u2 l3 u3) l12 l13 (by omega) (by omega)) rfl
        refine ⟨_, rfl, _, _, rfl, (by ac_rfl), by and_intros, by and_intros, fun H15 r15 l15 u15 R15 => ?_⟩
        have P15 := R15.2
        refine ⟨rfl, _, rfl, iteDs (fun c16 => ?_) (fun c16 => ?_)⟩
        · skip
          refine ⟨_, rfl, _, rfl, _, rfl, _, _, rfl, rfl, _, _, rfl, (by ac_rfl), by and_intros, by and_intros, fun H17 r17 l17 u17 R17 => ?_⟩
          have P17 := R17.2
          obtain ⟨xs', sps', hD', hx', hl', hg', R'⟩ := (S.run Dp R15).run Dp R17
          have hz' : xs'.length = j + 1 := by rw [hx'.1, List.length_map]; omega
          obtain ⟨x', d', ix', id', qd'⟩ := at_lst hx' l17 (by rw [List.length_map]; omega)
          refine ⟨_, _, _, _, rfl, rfl, (by ac_rfl), (by rfl'), _, rfl, _, rfl, _, _, _, _, rfl, rfl, (by ac_rfl), (by nofun), ?_⟩
          exact ⟨⟨_, _, _, _, _, rfl⟩, spSpans.swap n1 Dp hD' hx' hl' hg' R' id' qd' _⟩
        · skip
          exact ⟨⟨_, _, _, _, _, rfl⟩, spSpans.run Dp S (by assumption)⟩
    · rintro σ H' ⟨⟨v5, v6, v7, v8, v9, rfl⟩, S⟩
      rw [show ((c.toNat : Nat) : Int) = c by omega] at S
      refine ⟨_, rfl, ?_⟩
      exact q _ _ n1 S
end
end DD
end
section
open PySem PySem.Spec PyProof.Rows L2 KO SX
local macro_rules | `(tactic| ac_rfl) => `(tactic| with_reducible first
  | assumption
  | exact upd_same
  | (apply upd_get; ac_rfl; assumption)
  | (apply Run.get; assumption; ac_rfl; ac_rfl)
  | (apply Same.get; assumption; ac_rfl)
  | (apply SqL.of; ac_rfl)
  | (apply SqT.of; ac_rfl)
  | (apply Or.inl; apply SqL.of; ac_rfl)
  | (apply Or.inr; apply SqT.of; ac_rfl)
  | (apply Pool.ne'; assumption; ac_rfl)
  | (apply Pool.te'; assumption; ac_rfl)
  | (apply Pool.ie'; assumption; ac_rfl)
  | (apply Pool.run; assumption)
  | (apply Pool.upd; ac_rfl; ac_rfl)
  | (apply Pool.same'; assumption; ac_rfl))
local macro_rules | `(tactic| infer_instance) => `(tactic| with_reducible first
  | assumption
  | (apply Run.upd; infer_instance; assumption)
  | (apply Run.flip; assumption; infer_instance)
  | (apply Run.add'; assumption; infer_instance)
  | (apply Run.nil; ac_rfl))
local macro_rules | `(tactic| and_intros) => `(tactic| first
  | omega
  | (refine ⟨by omega, by omega, fun _ => by omega⟩)
  | (simp only [List.length_cons, List.length_nil, sizeLine_eq]; omega)
  | decide)
local macro_rules | `(tactic| symm_saturate) => `(tactic| first
  | exact .inl ⟨by omega, by omega⟩
  | exact .inr ⟨by omega, by omega⟩)
local macro_rules | `(tactic| nofun) => `(tactic| first
  | assumption
  | (apply ixN_of; omega; (first | omega | (simp only [List.length_append, List.length_cons, List.length_nil]; omega))))
local macro_rules | `(tactic| rfl') => `(tactic| first
  | assumption
  | rfl)
namespace DD
open PySem PySem.Spec PyProof.Rows L2 KO SX
section
variable {P : Program} {w : World} {K : PySem.W.Frag} {mg : Str → Option Value} {base : Heap}
def spTimes : Sp := fun vs H Q _ => ∃ (p : Addr) (T n : Int), vs = [.ref p, .int T, .int n] ∧ Pool H p ∧ 2 ≤ T ∧ T ≤ 60 ∧ 0 ≤ n ∧ n ≤ 12 ∧ ∀ (H' : Hp) (a : Addr) (ns : List Int), H a = none → H' a = some (.lst (ns.map V.int)) → (ns.length : Int) = n → (∀ x ∈ ns, 0 ≤ x ∧ x < T) → Run p H H' → Q (.ref a) H'

theorem scLtimes : FnScope ["_law_pool_here", "_law_length_here", "_law_many_here", "_law_k"] ["_law_pool_here", "_law_length_here", "_law_many_here"] (defScope sLtimes) := ⟨rfl, rfl, rfl, by decide +kernel, rfl, by decide +kernel, by decide +kernel⟩
theorem ok_Ltimes (T : Tx K mg) : FnOk P w K mg base CX0 2 T.f_law_times T.d_law_times ["_law_pool_here", "_law_length_here", "_law_many_here"] (spTimes) := by
  have G_law_take := ok_take (P := P) (w := w) (base := base) T
  refine T.F_law_times.ok scLtimes (fun vs H Q E h => ?_) (fun cdv A outer s H vs Q E hr h => ?_)
  · obtain ⟨p, T0, n, rfl, hp, hT, hT2, hn, hn2, q⟩ := h
    rfl
  · obtain ⟨p, T0, n, rfl, hp, hT, hT2, hn, hn2, q⟩ := h
    refine ⟨_, pss_one (ps_ret (pe_lc (own := [("_law_k", 3)]) (g := gName 3) rfl scLtimes.nd (pi_range1 (by rfl) T.z_range (pa_cons (pv 2) pa_nil)) (blkOk_by (own := [("_law_k", 3)]) (N := ["_law_pool_here", "_law_length_here", "_law_many_here", "_law_k"]) (sc := defScope sLtimes) (by decide +kernel)) (fun _ _ _ _ _ => pg_name (i := 3) scLtimes.nd rfl (.inl rfl)) (fun _ _ _ _ _ => pts_nil) (fun _ _ _ _ _ => (pe_call G_law_take hr (by rfl) T.g_law_take T.F_law_take.kp T.b_law_take .nil pass0 (pa_cons (pv 0) (pa_cons (pv 1) pa_nil)))))), ?_⟩
    refine ⟨_, rfl, _, rfl, (by and_intros), (by and_intros), fun D nD => lc_range (lo := 0) (n := n.toNat) (fun j H' => ∃ ns : List Int, ns.length = j ∧ (∀ x ∈ ns, 0 ≤ x ∧ x < T0) ∧ H' D = some (.lst (ns.map V.int)) ∧ Run p H H') ⟨[], rfl, by simp, upd_same, (Run.nil hp).upd nD⟩ ?_ ?_⟩
    · rintro j H' hj ⟨ns, hl, hg, hD', R0⟩
      have P0 := R0.2
      have Dp : D ≠ p := hp.ne nD
      refine ⟨rfl, keepT ?_⟩
      refine ⟨_, rfl, _, rfl, _, _, rfl, (by ac_rfl), by and_intros, by and_intros, fun H1 r1 l1 u1 R1 => ?_⟩
      have P1 := R1.2
      obtain ⟨acc, e1, e2, e3⟩ := ints_more (r := r1) Dp hD' (by omega) R1
      refine ⟨acc, e1, e2, ns ++ [r1], by simp [hl], fun x hx => ?_, e3, (R0.trans R1).put nD Dp⟩
      rcases List.mem_append.mp hx with h | h
      · exact hg x h
      · rw [List.mem_singleton.mp h]; exact ⟨l1, u1⟩
    · rintro H' ⟨ns, hl, hg, hD', R0⟩
      exact q _ _ ns nD hD' (by omega) hg R0

def spKept : Sp := fun vs H Q _ => ∃ (p a : Addr) (T c : Int) (xs : List V) (ns : List Int), vs = [.ref p, .int T, .ref a, .int c] ∧ Pool H p ∧ a ≠ p ∧ H a = some (.lst xs) ∧ xs = ns.map V.int ∧ xs.length ≤ 12 ∧ (∀ x ∈ ns, 0 ≤ x ∧ x < T) ∧ 2 ≤ T ∧ T ≤ 60 ∧ 0 ≤ c ∧ c ≤ 24 ∧ (xs.length < 2 → c = 0) ∧ ∀ H' b, H b = none → spSpans H H' p b T xs.length c → Q (.ref b) H'

theorem scLkeptspans : FnScope ["_law_pool_here", "_law_length_here", "_law_minutes", "_law_count_here", "_law_spans", "_law_k", "_law_start", "_law_end", "_law_rest", "_law_turns", "_law_gone_here", "_law_below", "_law_above"] ["_law_pool_here", "_law_length_here", "_law_minutes", "_law_count_here"] (defScope sLkeptspans) := ⟨rfl, rfl, rfl, by decide +kernel, rfl, by decide +kernel, by decide +kernel⟩
theorem ok_Lkeptspans (T : Tx K mg) : FnOk P w K mg base CX0 2 T.f_law_kept_spans T.d_law_kept_spans ["_law_pool_here", "_law_length_here", "_law_minutes", "_law_count_here"] (spKept) := by
  have G_law_take := ok_take (P := P) (w := w) (base := base) T
  refine T.F_law_kept_spans.ok scLkeptspans (fun vs H Q E h => ?_) (fun cdv A outer s H vs Q E hr h => ?_)
  · obtain ⟨p, m, T0, c, ms, ns, rfl, hp, hmp, hm, hms, hn2, hmin, hT, hT2, hc, hc2, hnc, q⟩ := h
    rfl
  · obtain ⟨p, m, T0, c, ms, ns, rfl, hp, hmp, hm, hms, hn2, hmin, hT, hT2, hc, hc2, hnc, q⟩ := h
    refine ⟨_, pss_cons (ps_set (i := 4) scLkeptspans.nd rfl (.inl rfl) (pe_lst pa_nil))
      (pss_cons (ps_for PassesOwn.never rfl (pi_range1 (by rfl) T.z_range (pa_cons (pv 3) pa_nil)) (pg_name (i := 5) scLkeptspans.nd rfl (.inl rfl))
      (pss_cons (ps_set (i := 6) scLkeptspans.nd rfl (.inl rfl) (pe_call G_law_take hr (by rfl) T.g_law_take T.F_law_take.kp T.b_law_take .nil pass0 (pa_cons (pv 0) (pa_cons (pe_callB call_len_seq (by rfl) T.z_len (by decide +kernel) (pa_cons (pv 2) pa_nil)) pa_nil))))
      (pss_cons (ps_set (i := 7) scLkeptspans.nd rfl (.inl rfl) (pe_op op_mod (pe_callTy (T := "int") call_int1 (by rfl) T.z_int (by decide +kernel) (pa_cons (pe_op op_add (pe_op op_add (pv 6) pe_int) (pe_call G_law_take hr (by rfl) T.g_law_take T.F_law_take.kp T.b_law_take .nil pass0 (pa_cons (pv 0) (pa_cons (pe_op op_sub (pe_callB call_len_seq (by rfl) T.z_len (by decide +kernel) (pa_cons (pv 2) pa_nil)) pe_int) pa_nil)))) pa_nil)) (pe_callB call_len_seq (by rfl) T.z_len (by decide +kernel) (pa_cons (pv 2) pa_nil))))
      (pss_cons (ps_set (i := 8) scLkeptspans.nd rfl (.inl rfl) (pe_op op_mod (pe_callTy (T := "int") call_int1 (by rfl) T.z_int (by decide +kernel) (pa_cons (pe_op op_sub (pe_ix ix_list (pv 2) (pv 7) (fun _ _ => rfl)) (pe_ix ix_list (pv 2) (pv 6) (fun _ _ => rfl))) pa_nil)) (pv 1)))
      (pss_cons (ps_set (i := 9) scLkeptspans.nd rfl (.inl rfl) pe_int)
      (pss_cons (ps_if (pt_cmpR op_eq (pe_call G_law_take hr (by rfl) T.g_law_take T.F_law_take.kp T.b_law_take .nil pass0 (pa_cons (pv 0) (pa_cons pe_int pa_nil))) pe_int (nomark _)) (pss_one (ps_set (i := 9) scLkeptspans.nd rfl (.inl rfl) (pe_op op_add pe_int (pe_op op_fdiv (pe_op op_sub pe_int (pv 8)) (pv 1))))) (pss_nil))
      (pss_cons (ps_set (i := 10) scLkeptspans.nd rfl (.inl rfl) (pe_op op_add (pv 8) (pe_op op_mul (pv 1) (pe_call G_law_take hr (by rfl) T.g_law_take T.F_law_take.kp T.b_law_take .nil pass0 (pa_cons (pv 0) (pa_cons (pv 9) pa_nil))))))
      (pss_cons (ps_set (i := 11) scLkeptspans.nd rfl (.inl rfl) (pe_call G_law_take hr (by rfl) T.g_law_take T.F_law_take.kp T.b_law_take .nil pass0 (pa_cons (pv 0) (pa_cons (pe_op op_add pe_int (pe_callB (call_min2 rfl) (by rfl) T.z_min (by decide +kernel) (pa_cons (pe_op op_sub (pv 1) pe_int) (pa_cons (pv 10) pa_nil)))) pa_nil))))
      (pss_cons (ps_set (i := 12) scLkeptspans.nd rfl (.inl rfl) (pe_call G_law_take hr (by rfl) T.g_law_take T.F_law_take.kp T.b_law_take .nil pass0 (pa_cons (pv 0) (pa_cons (pe_op op_add pe_int (pe_callB (call_min2 rfl) (by rfl) T.z_min (by decide +kernel) (pa_cons (pe_op op_sub (pe_op op_sub (pv 1) pe_int) (pv 11)) (pa_cons (pe_op op_sub pe_int (pv 10)) pa_nil)))) pa_nil))))
      (pss_cons (ps_expr (pe_bm PySem.F.plainAttrs_list PySem.F.slot_list_append PySem.F.type_list_append mt_append (pv 4) (pa_cons (pe_tup (pa_cons (pv 6) (pa_cons (pv 7) (pa_cons (pe_op op_sub (pv 10) (pv 11)) (pa_cons (pe_op op_add (pv 10) (pv 12)) pa_nil))))) pa_nil)))
      (pss_one (ps_if (pt_cmpR op_eq (pe_call G_law_take hr (by rfl) T.g_law_take T.F_law_take.kp T.b_law_take .nil pass0 (pa_cons (pv 0) (pa_cons pe_int pa_nil))) pe_int (nomark _)) (pss_one (ps_asg (pe_ix ix_list (pv 4) (pe_call G_law_take hr (by rfl) T.g_law_take T.F_law_take.kp T.b_law_take .nil pass0 (pa_cons (pv 0) (pa_cons (pe_op op_add (pv 5) pe_int) pa_nil))) (fun _ _ => rfl)) (pg_sub (pv 4) (pv 5) set_list))) (pss_nil)))))))))))))
      (pss_one (ps_ret (pv 4)))), ?_⟩
    refine ⟨(by and_intros), fun a1 n1 => ?_⟩
    refine ⟨_, rfl, _, rfl, (by and_intros), (by and_intros), for_range (lo := 0) (n := c.toNat) (fun j σ H' => (∃ v5 v6 v7 v8 v9 v10 v11 v12, σ = [some (.ref p), some (.int T0), some (.ref m), some (.int c), some (.ref a1), v5, v6, v7, v8, v9, v10, v11, v12]) ∧ spSpans H H' p a1 T0 ms.length j) ⟨⟨_, _, _, _, _, _, _, _, rfl⟩, [], [], upd_same, .nil, rfl, fun s h => by simp at h, (Run.nil hp).upd n1⟩ ?_ ?_⟩
    · rintro j σ H' hj ⟨⟨v5, v6, v7, v8, v9, v10, v11, v12, rfl⟩, xs, sps, hD, hx, hl, hg, R0⟩
      have P0 := R0.2
      have hn3 : 2 ≤ ms.length := by omega
      have hz : xs.length = j := by rw [hx.1, List.length_map]; omega
      have Dp : a1 ≠ p := hp.ne n1
      have hm0 : H' m = some (.lst ms) := R0.1 _ _ hmp hm
      refine ⟨_, rfl, _, rfl, _, _, rfl, (by ac_rfl), _, _, rfl, (by ac_rfl), by and_intros, by and_intros, fun H2 r2 l2 u2 R2 => ?_⟩
      have P2 := R2.2
      refine ⟨_, rfl, _, _, rfl, rfl, _, rfl, _, rfl, _, _, rfl, (by ac_rfl), _, _, rfl, rfl, _, _, rfl, (by ac_rfl), by and_intros, by and_intros, fun H3 r3 l3 u3 R3 => ?_⟩
      have P3 := R3.2
      refine ⟨_, _, rfl, rfl, .inl ⟨_, rfl, ?_⟩⟩
      refine ⟨_, rfl, _, _, rfl, (by ac_rfl), _, _, rfl, rfl, (by and_intros), _, rfl, _, rfl, ?_⟩
      have tn := turn_ne l2 u2 l3 u3
      obtain ⟨w1, iw1, mw1, _⟩ := lit_at' hms tn.1 tn.2.1
      refine ⟨_, _, _, _, rfl, rfl, (by ac_rfl), (by rfl'), _, rfl, _, rfl, ?_⟩
      obtain ⟨w2, iw2, mw2, _⟩ := lit_at' hms l2 u2
      refine ⟨_, _, _, _, rfl, rfl, (by ac_rfl), (by rfl'), _, _, rfl, rfl, .inl ⟨_, rfl, ?_⟩⟩
      refine ⟨_, rfl, _, _, rfl, rfl, (by and_intros), ?_⟩
      have e1 := Int.emod_nonneg (w1 - w2) (show T0 ≠ 0 by omega)
      have e2 := Int.emod_lt_of_pos (w1 - w2) (show 0 < T0 by omega)
      obtain ⟨rs, hrs⟩ : ∃ rs, rs = (w1 - w2) % T0 := ⟨_, rfl⟩
      dsimp only
      rw [← hrs] at e1 e2 ⊢
      have e3 : 0 ≤ (999 - rs) / T0 := Int.ediv_nonneg (by omega) (by omega)
      have e4 : (999 - rs) / T0 ≤ 999 := Int.le_trans (Int.ediv_le_self _ (by omega)) (by omega)
      refine ⟨_, rfl, _, _, rfl, (by ac_rfl), by and_intros, by and_intros, fun H4 r4 l4 u4 R4 => ?_⟩
      have P4 := R4.2
      refine ⟨rfl, _, rfl, iteDs (fun c5 => ?_) (fun c5 => ?_)⟩
      · skip
        refine ⟨_, rfl, _, _, rfl, rfl, _, rfl, _, _, rfl, rfl, ⟨by and_intros, by and_intros⟩, _, _, rfl, rfl, _, rfl, _, rfl, _, rfl, _, rfl, _, _, rfl, (by ac_rfl), by and_intros, by and_intros, fun H6 r6 l6 u6 R6 => ?_⟩
        have P6 := R6.2
        refine ⟨_, _, rfl, rfl, (by symm_saturate), _, _, rfl, rfl, ?_⟩
        obtain ⟨gn, hgn⟩ : ∃ gn, gn = rs + T0 * r6 := ⟨_, rfl⟩
        have gb : 0 ≤ gn ∧ gn ≤ 999 := by rw [hgn]; exact gone_b e1 e2 hT hT2 l6 (by omega)
        dsimp only
        rw [← hgn]
        refine ⟨_, rfl, _, rfl, _, _, rfl, rfl, _, rfl, _, _, rfl, ?_⟩
        try simp only [imin, imax]
        refine ⟨_, _, rfl, rfl, _, _, rfl, (by ac_rfl), by and_intros, by and_intros, fun H7 r7 l7 u7 R7 => ?_⟩
        have P7 := R7.2
        refine ⟨_, rfl, _, rfl, _, _, rfl, rfl, _, rfl, _, _, rfl, rfl, _, rfl, _, _, rfl, rfl, _, _, rfl, ?_⟩
        try simp only [imin, imax]
        refine ⟨_, _, rfl, rfl, _, _, rfl, (by ac_rfl), by and_intros, by and_intros, fun H8 r8 l8 u8 R8 => ?_⟩
        have P8 := R8.2
        refine ⟨_, rfl, .inl ⟨rfl, _, (by ac_rfl)⟩, _, rfl, _, rfl, _, rfl, _, rfl, _, _, rfl, rfl, _, rfl, _, rfl, _, _, rfl, rfl, (by and_intros), fun a9 n9 => ?_⟩
        refine ⟨_, _, _, rfl, rfl, (by ac_rfl), (by and_intros), ?_⟩
        have S := spSpans.more (c' := (j : Int) + 1) n1 Dp hD hx hl hg R0 (by infer_instance : Run p H' H8) n9 (gSp_of2 (g := gn) (b := r7) (a := r8) l2 u2 (turn_ne l2 u2 l3 u3) l7 l8 (by omega) (by omega) (by omega)) rfl
        refine ⟨_, rfl, _, _, rfl, (by ac_rfl), by and_intros, by and_intros, fun H10 r10 l10 u10 R10 => ?_⟩
        have P10 := R10.2
        refine ⟨rfl, _, rfl, iteDs (fun c11 => ?_) (fun c11 => ?_)⟩
        · skip
          refine ⟨_, rfl, _, rfl, _, rfl, _, _, rfl, rfl, _, _, rfl, (by ac_rfl), by and_intros, by and_intros, fun H12 r12 l12 u12 R12 => ?_⟩
          have P12 := R12.2
          obtain ⟨xs', sps', hD', hx', hl', hg', R'⟩ := (S.run Dp R10).run Dp R12
          have hz' : xs'.length = j + 1 := by rw [hx'.1, List.length_map]; omega
          obtain ⟨x', d', ix', id', qd'⟩ := at_lst hx' l12 (by rw [List.length_map]; omega)
          refine ⟨_, _, _, _, rfl, rfl, (by ac_rfl), (by rfl'), _, rfl, _, rfl, _, _, _, _, rfl, rfl, (by ac_rfl), (by nofun), ?_⟩
          exact ⟨⟨_, _, _, _, _, _, _, _, rfl⟩, spSpans.swap n1 Dp hD' hx' hl' hg' R' id' qd' _⟩
        · skip
          exact ⟨⟨_, _, _, _, _, _, _, _, rfl⟩, spSpans.run Dp S (by assumption)⟩
      · skip
        refine ⟨_, rfl, _, rfl, _, rfl, _, rfl, _, _, rfl, (by ac_rfl), by and_intros, by and_intros, fun H13 r13 l13 u13 R13 => ?_⟩
        have P13 := R13.2
        refine ⟨_, _, rfl, rfl, (by symm_saturate), _, _, rfl, rfl, ?_⟩
        obtain ⟨gn, hgn⟩ : ∃ gn, gn = rs + T0 * r13 := ⟨_, rfl⟩
        have gb : 0 ≤ gn ∧ gn ≤ 999 := by rw [hgn]; exact gone_b e1 e2 hT hT2 l13 (by omega)
        dsimp only
        rw [← hgn]
        refine ⟨_, rfl, _, rfl, _, _, rfl, rfl, _, rfl, _, _, rfl, ?_⟩
        try simp only [imin, imax]
        refine ⟨_, _, rfl, rfl, _, _, rfl, (by ac_rfl), by and_intros, by and_intros, fun H14 r14 l14 u14 R14 => ?_⟩
        have P14 := R14.2
        refine ⟨_, rfl, _, rfl, _, _, rfl, rfl, _, rfl, _, _, rfl, rfl, _, rfl, _, _, rfl, rfl, _, _, rfl, ?_⟩
        try simp only [imin, imax]
        refine ⟨_, _, rfl, rfl, _, _, rfl, (by ac_rfl), by and_intros, by and_intros, fun H15 r15 l15 u15 R15 => ?_⟩
        have P15 := R15.2
        refine ⟨_, rfl, .inl ⟨rfl, _, (by ac_rfl)⟩, _, rfl, _, rfl, _, rfl, _, rfl, _, _, rfl, rfl, _, rfl, _, rfl, _, _, rfl, rfl, (by and_intros), fun a16 n16 => ?_⟩
        refine ⟨_, _, _, rfl, rfl, (by ac_rfl), (by and_intros), ?_⟩
        have S := spSpans.more (c' := (j : Int) + 1) n1 Dp hD hx hl hg R0 (by infer_instance : Run p H' H15) n16 (gSp_of2 (g := gn) (b := r14) (a := r15) l2 u2 (turn_ne l2 u2 l3 u3) l14 l15 (by omega) (by omega) (by omega)) rfl
        refine ⟨_, rfl, _, _, rfl, (by ac_rfl), by and_intros, by and_intros, fun H17 r17 l17 u17 R17 => ?_⟩
        have P17 := R17.2
        refine ⟨rfl, _, rfl, iteDs (fun c18 => ?_) (fun c18 => ?_)⟩
        · skip
          refine ⟨_, rfl, _, rfl, _, rfl, _, _, rfl, rfl, _, _, rfl, (by ac_rfl), by and_intros, by and_intros, fun H19 r19 l19 u19 R19 => ?_⟩
          have P19 := R19.2
          obtain ⟨xs', sps', hD', hx', hl', hg', R'⟩ := (S.run Dp R17).run Dp R19
          have hz' : xs'.length = j + 1 := by rw [hx'.1, List.length_map]; omega
          obtain ⟨x', d', ix', id', qd'⟩ := at_lst hx' l19 (by rw [List.length_map]; omega)
          refine ⟨_, _, _, _, rfl, rfl, (by ac_rfl), (by rfl'), _, rfl, _, rfl, _, _, _, _, rfl, rfl, (by ac_rfl), (by nofun), ?_⟩
          exact ⟨⟨_, _, _, _, _, _, _, _, rfl⟩, spSpans.swap n1 Dp hD' hx' hl' hg' R' id' qd' _⟩
        · skip
          exact ⟨⟨_, _, _, _, _, _, _, _, rfl⟩, spSpans.run Dp S (by assumption)⟩
    · rintro σ H' ⟨⟨v5, v6, v7, v8, v9, v10, v11, v12, rfl⟩, S⟩
      rw [show ((c.toNat : Nat) : Int) = c by omega] at S
      refine ⟨_, rfl, ?_⟩
      exact q _ _ n1 S
end
end DD
end
section
open PySem PySem.Spec PyProof.Rows L2 KO SX
local macro_rules | `(tactic| ac_rfl) => `(tactic| with_reducible first
  | assumption
  | exact upd_same
  | (apply upd_get; ac_rfl; assumption)
  | (apply Run.get; assumption; ac_rfl; ac_rfl)
  | (apply Same.get; assumption; ac_rfl)
  | (apply SqL.of; ac_rfl)
  | (apply SqT.of; ac_rfl)
  | (apply Or.inl; apply SqL.of; ac_rfl)
  | (apply Or.inr; apply SqT.of; ac_rfl)
  | (apply Pool.ne'; assumption; ac_rfl)
  | (apply Pool.te'; assumption; ac_rfl)
  | (apply Pool.ie'; assumption; ac_rfl)
  | (apply Pool.run; assumption)
  | (apply Pool.upd; ac_rfl; ac_rfl)
  | (apply Pool.same'; assumption; ac_rfl))
local macro_rules | `(tactic| infer_instance) => `(tactic| with_reducible first
  | assumption
  | (apply Run.upd; infer_instance; assumption)
  | (apply Run.flip; assumption; infer_instance)
  | (apply Run.add'; assumption; infer_instance)
  | (apply Run.nil; ac_rfl))
local macro_rules | `(tactic| and_intros) => `(tactic| first
  | omega
  | (refine ⟨by omega, by omega, fun _ => by omega⟩)
  | rfl
  | (intro h; injection h; omega)
  | (apply congrArg V.int; omega)
  | (intro h; cases h; done)
  | (simp only [List.length_cons, List.length_nil, sizeLine_eq]; omega)
  | decide)
local macro_rules | `(tactic| symm_saturate) => `(tactic| first
  | exact .inl ⟨by omega, by omega⟩
  | exact .inr ⟨by omega, by omega⟩)
local macro_rules | `(tactic| nofun) => `(tactic| first
  | assumption
  | (apply ixN_of; omega; (first | omega | (simp only [List.length_append, List.length_cons, List.length_nil]; omega))))
local macro_rules | `(tactic| rfl') => `(tactic| first
  | assumption
  | rfl)
namespace DD
open PySem PySem.Spec PyProof.Rows L2 KO SX
section
variable {P : Program} {w : World} {K : PySem.W.Frag} {mg : Str → Option Value} {base : Heap}
def spIsSpan : Sp := fun vs H Q _ => ∃ (a : Addr) (T n : Int) (s : Sp4), vs = [.ref a, .int T, .int n] ∧ H a = some (.tup [.int s.1, .int s.2.1, .int s.2.2.1, .int s.2.2.2]) ∧ gSp T n s ∧ Q (.bl true) H

theorem scisspan : FnScope ["span", "round_length", "events", "start", "end", "least", "most", "joins"] ["span", "round_length", "events"] (defScope sisspan) := ⟨rfl, rfl, rfl, by decide +kernel, rfl, by decide +kernel, by decide +kernel⟩
theorem ok_isspan (T : Tx K mg) : FnOk P w K mg base CX0 1 T.fis_span T.dis_span ["span", "round_length", "events"] (spIsSpan) := by
  refine T.Fis_span.ok scisspan (fun vs H Q E h => ?_) (fun cdv A outer s H vs Q E hr h => ?_)
  · obtain ⟨a, T0, n, sp, rfl, ha, g, q⟩ := h
    rfl
  · obtain ⟨a, T0, n, sp, rfl, ha, g, q⟩ := h
    have gg := g
    obtain ⟨g1, g2, g3, g4, g5, g6, g7, g8, g9⟩ := gg
    obtain ⟨s1, s2, s3, s4⟩ := sp
    dsimp only at *
    refine ⟨_, pss_cons (ps_if (pt_cmpR op_ne (pe_callB call_len_seq (by rfl) T.z_len (by decide +kernel) (pa_cons (pv 0) pa_nil)) pe_int (nomark _)) (pss_one ps_never) (pss_nil))
      (pss_cons (ps_asg (pv 0) (pg_tup rfl (pgs_cons (pg_name (i := 3) scisspan.nd rfl (.inl rfl)) (pgs_cons (pg_name (i := 4) scisspan.nd rfl (.inl rfl)) (pgs_cons (pg_name (i := 5) scisspan.nd rfl (.inl rfl)) (pgs_cons (pg_name (i := 6) scisspan.nd rfl (.inl rfl)) pgs_nil))))))
      (pss_cons (ps_set (i := 7) scisspan.nd rfl (.inl rfl) (pe_and (pe_chain op_le op_lt pe_int (pv 3) (pv 2)) (pe_and (pe_chain op_le op_lt pe_int (pv 4) (pv 2)) (pe_one (pe_cmpR op_ne (pv 3) (pv 4) (nomark _))))))
      (pss_one (ps_ret (pe_and (pv 7) (pe_one (pe_chain3 op_le op_le op_le pe_int (pv 5) (pv 6) (pe_callB (call_min2 rfl) (by rfl) T.z_min (by decide +kernel) (pa_cons (pe_op op_sub (pe_op op_add (pv 5) (pv 1)) pe_int) (pa_cons (pe_glob (v := .int 999) rfl T.c_MOST_ON_SPAN ⟨_, rfl⟩) pa_nil)))))))))), ?_⟩
    refine ⟨_, rfl, _, _, rfl, (by ac_rfl), rfl, _, rfl, iteND (by and_intros) ?_⟩
    refine ⟨_, rfl, _, _, rfl, (by ac_rfl), rfl, _, _, rfl, _, _, rfl, _, _, rfl, _, _, rfl, rfl, _, rfl, _, _, rfl, rfl, _, rfl, iteDT (by and_intros) ?_⟩
    refine ⟨_, rfl, _, _, rfl, rfl, _, rfl, iteDT (by and_intros) ?_⟩
    refine ⟨_, rfl, _, _, rfl, rfl, _, rfl, iteDT (by and_intros) ?_⟩
    refine ⟨_, rfl, _, _, rfl, rfl, _, rfl, iteDT (by and_intros) ?_⟩
    refine ⟨_, rfl, _, rfl, rfl, ?_⟩
    dsimp only
    rw [decide_eq_false (show ¬ (V.int s1 = V.int s2) by intro h; injection h; omega)]
    refine ⟨_, rfl, _, rfl, iteT ?_⟩
    refine ⟨_, rfl, _, _, rfl, rfl, _, rfl, iteDT (by and_intros) ?_⟩
    refine ⟨_, rfl, _, _, rfl, rfl, _, rfl, iteDT (by and_intros) ?_⟩
    refine ⟨_, rfl, _, rfl, _, _, rfl, rfl, _, _, rfl, rfl, _, _, rfl, ?_⟩
    try simp only [imin, imax]
    refine ⟨_, _, rfl, rfl, ?_⟩
    dsimp only
    rw [decide_eq_true (by omega)]
    exact q
end
end DD
end
section
open PySem PySem.Spec PyProof.Rows L2 KO SX
local macro_rules | `(tactic| ac_rfl) => `(tactic| with_reducible first
  | assumption
  | exact upd_same
  | (apply upd_get; ac_rfl; assumption)
  | (apply Run.get; assumption; ac_rfl; ac_rfl)
  | (apply Same.get; assumption; ac_rfl)
  | (apply SqL.of; ac_rfl)
  | (apply SqT.of; ac_rfl)
  | (apply Or.inl; apply SqL.of; ac_rfl)
  | (apply Or.inr; apply SqT.of; ac_rfl)
  | (apply Pool.ne'; assumption; ac_rfl)
  | (apply Pool.te'; assumption; ac_rfl)
  | (apply Pool.ie'; assumption; ac_rfl)
  | (apply Pool.run; assumption)
  | (apply Pool.upd; ac_rfl; ac_rfl)
  | (apply Pool.same'; assumption; ac_rfl))
local macro_rules | `(tactic| infer_instance) => `(tactic| with_reducible first
  | assumption
  | (apply Run.upd; infer_instance; assumption)
  | (apply Run.flip; assumption; infer_instance)
  | (apply Run.add'; assumption; infer_instance)
  | (apply Run.nil; ac_rfl))
local macro_rules | `(tactic| and_intros) => `(tactic| first
  | omega
  | (refine ⟨by omega, by omega, fun _ => by omega⟩)
  | rfl
  | (intro h; injection h; omega)
  | (apply congrArg V.int; omega)
  | (intro h; cases h; done)
  | (simp only [List.length_cons, List.length_nil, sizeLine_eq]; omega)
  | decide)
local macro_rules | `(tactic| symm_saturate) => `(tactic| first
  | exact .inl ⟨by omega, by omega⟩
  | exact .inr ⟨by omega, by omega⟩)
local macro_rules | `(tactic| nofun) => `(tactic| first
  | assumption
  | (apply ixN_of; omega; (first | omega | (simp only [List.length_append, List.length_cons, List.length_nil]; omega))))
local macro_rules | `(tactic| rfl') => `(tactic| first
  | assumption
  | rfl)
namespace DD
open PySem PySem.Spec PyProof.Rows L2 KO SX
section
variable {P : Program} {w : World} {K : PySem.W.Frag} {mg : Str → Option Value} {base : Heap}
def spCheckNet : Sp := fun vs H Q _ => ∃ (a : Addr) (T n : Int) (xs : List V) (sps : List Sp4), vs = [.int T, .int n, .ref a] ∧ H a = some (.lst xs) ∧ TqA 2 H xs (sps.map dSp) ∧ xs.length ≤ 24 ∧ (∀ s ∈ sps, gSp T n s) ∧ 2 ≤ T ∧ T ≤ 60 ∧ 0 ≤ n ∧ n ≤ 12 ∧ ∀ H', Same H H' → Q .non H'

theorem scchecknet : FnScope ["round_length", "events", "spans", "number", "span"] ["round_length", "events", "spans"] (defScope schecknet) := ⟨rfl, rfl, rfl, by decide +kernel, rfl, by decide +kernel, by decide +kernel⟩
theorem ok_checknet (T : Tx K mg) : FnOk P w K mg base CX0 2 T.fcheck_net T.dcheck_net ["round_length", "events", "spans"] (spCheckNet) := by
  have Gis_span := ok_isspan (P := P) (w := w) (base := base) T
  refine T.Fcheck_net.ok scchecknet (fun vs H Q E h => ?_) (fun cdv A outer s H vs Q E hr h => ?_)
  · obtain ⟨a, T0, n, xs, sps, rfl, ha, hx, hz, hg, hT, hT2, hn, hn2, q⟩ := h
    rfl
  · obtain ⟨a, T0, n, xs, sps, rfl, ha, hx, hz, hg, hT, hT2, hn, hn2, q⟩ := h
    refine ⟨_, pss_cons (ps_if (pt_not (pt_chain op_le op_le (pe_glob (v := .int 2) rfl T.c_LEAST_ROUND ⟨_, rfl⟩) (pv 0) (pe_glob (v := .int 60) rfl T.c_MOST_ROUND ⟨_, rfl⟩))) (pss_one ps_never) (pss_nil))
      (pss_cons (ps_if (pt_not (pt_chain op_le op_le pe_int (pv 1) (pe_glob (v := .int 12) rfl T.c_MOST_EVENTS ⟨_, rfl⟩))) (pss_one ps_never) (pss_nil))
      (pss_cons (ps_if (pt_cmpR op_gt (pe_callB call_len_seq (by rfl) T.z_len (by decide +kernel) (pa_cons (pv 2) pa_nil)) (pe_glob (v := .int 24) rfl T.c_MOST_SPANS ⟨_, rfl⟩) (nomark _)) (pss_one ps_never) (pss_nil))
      (pss_one (ps_for PassesOwn.never rfl (pi_enum (by rfl) T.z_enumerate (pa_cons (pv 2) pa_nil)) (pg_tup rfl (pgs_cons (pg_name (i := 3) scchecknet.nd rfl (.inl rfl)) (pgs_cons (pg_name (i := 4) scchecknet.nd rfl (.inl rfl)) pgs_nil)))
      (pss_one (ps_if (pt_not (pt_val (pe_call Gis_span hr (by rfl) T.gis_span T.Fis_span.kp T.bis_span .nil pass0 (pa_cons (pv 4) (pa_cons (pv 0) (pa_cons (pv 1) pa_nil)))))) (pss_one ps_never) (pss_nil))))))), ?_⟩
    refine ⟨_, rfl, _, _, rfl, rfl, _, rfl, iteDT (by and_intros) ?_⟩
    refine ⟨_, _, rfl, rfl, _, rfl, iteND (by and_intros) ?_⟩
    refine ⟨_, rfl, _, _, rfl, rfl, _, rfl, iteDT (by and_intros) ?_⟩
    refine ⟨_, _, rfl, rfl, _, rfl, iteND (by and_intros) ?_⟩
    refine ⟨_, rfl, _, _, rfl, (by ac_rfl), _, _, rfl, rfl, _, rfl, iteD (by and_intros) ?_⟩
    refine ⟨_, rfl, _, _, rfl, (by ac_rfl), for_enum (K := K) (a := a) (xs := xs) (fun j σ H' => (∃ v3 v4, σ = [some (.int T0), some (.int n), some (.ref a), v3, v4]) ∧ Same H H') ⟨⟨_, _, rfl⟩, Same.refl _⟩ (fun i σ H' _ h => SqL.of (h.2 _ _ ha)) ?_ ?_⟩
    · rintro i x t σ H' hi ⟨⟨v3, v4, rfl⟩, s0⟩ ht
      obtain ⟨d, hd, qd⟩ := (hx.keep (TK.same s0)).get' hi
      rw [List.getElem?_map] at hd
      obtain ⟨sp, hsp, rfl⟩ : ∃ sp, sps[i]? = some sp ∧ dSp sp = d := by
        cases e : sps[i]? with
        | none => rw [e] at hd; cases hd
        | some sp => rw [e] at hd; exact ⟨sp, rfl, Option.some.inj hd⟩
      obtain ⟨b, rfl, hb⟩ := sp_of qd
      have g := hg sp (List.mem_of_getElem? hsp)
      have hb' : (upd H' t (.tup [.int (i : Nat), .ref b])) b = some (.tup [.int sp.1, .int sp.2.1, .int sp.2.2.1, .int sp.2.2.2]) := upd_get hb ht
      have s1 : Same H (upd H' t (.tup [.int (i : Nat), .ref b])) := SX.Same.put s0 (L2.Same.free s0 ht)
      refine ⟨t, _, rfl, SqT.of upd_same, rfl, _, _, rfl, _, _, rfl, rfl, ?_⟩
      refine ⟨_, rfl, _, rfl, _, rfl, _, _, _, _, rfl, (by ac_rfl), (by assumption), _, rfl, iteF ?_⟩
      exact ⟨⟨_, _, rfl⟩, s1⟩
    · rintro σ H' ⟨⟨v3, v4, rfl⟩, s0⟩
      exact q _ s0
end
end DD
end
section
open PySem PySem.Spec PyProof.Rows L2 KO SX
local macro_rules | `(tactic| ac_rfl) => `(tactic| with_reducible first
  | assumption
  | exact upd_same
  | (apply upd_get; ac_rfl; assumption)
  | (apply Run.get; assumption; ac_rfl; ac_rfl)
  | (apply Same.get; assumption; ac_rfl)
  | (apply SqL.of; ac_rfl)
  | (apply SqT.of; ac_rfl)
  | (apply Or.inl; apply SqL.of; ac_rfl)
  | (apply Or.inr; apply SqT.of; ac_rfl)
  | (apply Pool.ne'; assumption; ac_rfl)
  | (apply Pool.te'; assumption; ac_rfl)
  | (apply Pool.ie'; assumption; ac_rfl)
  | (apply Pool.run; assumption)
  | (apply Pool.upd; ac_rfl; ac_rfl)
  | (apply Pool.same'; assumption; ac_rfl))
local macro_rules | `(tactic| infer_instance) => `(tactic| with_reducible first
  | assumption
  | (apply Run.upd; infer_instance; assumption)
  | (apply Run.flip; assumption; infer_instance)
  | (apply Run.add'; assumption; infer_instance)
  | (apply Run.nil; ac_rfl))
local macro_rules | `(tactic| and_intros) => `(tactic| first
  | omega
  | (refine ⟨by omega, by omega, fun _ => by omega⟩)
  | rfl
  | (intro h; injection h; omega)
  | (apply congrArg V.int; omega)
  | (intro h; cases h; done)
  | (simp only [List.length_cons, List.length_nil, sizeLine_eq]; omega)
  | decide)
local macro_rules | `(tactic| symm_saturate) => `(tactic| first
  | exact .inl ⟨by omega, by omega⟩
  | exact .inr ⟨by omega, by omega⟩)
local macro_rules | `(tactic| nofun) => `(tactic| first
  | assumption
  | (apply ixN_of; omega; (first | omega | (simp only [List.length_append, List.length_cons, List.length_nil]; omega))))
local macro_rules | `(tactic| rfl') => `(tactic| first
  | assumption
  | rfl)
namespace DD
open PySem PySem.Spec PyProof.Rows L2 KO SX
section
variable {P : Program} {w : World} {K : PySem.W.Frag} {mg : Str → Option Value} {base : Heap}
def spNetInit (C : Addr) : Sp := fun vs H Q _ => ∃ (x dx a : Addr) (T n : Int) (xs : List V) (sps : List Sp4), vs = [.ref x, .int T, .int n, .ref a] ∧ H x = some (.ins C dx []) ∧ H a = some (.lst xs) ∧ TqA 2 H xs (sps.map dSp) ∧ xs.length ≤ 24 ∧ (∀ s ∈ sps, gSp T n s) ∧ 2 ≤ T ∧ T ≤ 60 ∧ 0 ≤ n ∧ n ≤ 12 ∧
  ∀ H' t, (∀ b o, b ≠ x → H b = some o → H' b = some o) → H' x = some (.ins C dx [("round_length", .int T), ("events", .int n), ("spans", .ref t)]) → H' t = some (.tup xs) → Q .non H'

theorem scNetInit : FnScope ["self", "round_length", "events", "spans", "span"] ["self", "round_length", "events", "spans"] (defScope sNetInit) := ⟨rfl, rfl, rfl, by decide +kernel, rfl, by decide +kernel, by decide +kernel⟩
theorem ok_NetInit (T : Tx K mg) : FnOk P w K mg base CX0 3 T.fNet_init T.dNet_init ["self", "round_length", "events", "spans"] (spNetInit T.C_Net) := by
  have Gcheck_net := ok_checknet (P := P) (w := w) (base := base) T
  refine T.FNet_init.ok scNetInit (fun vs H Q E h => ?_) (fun cdv A outer s H vs Q E hr h => ?_)
  · obtain ⟨x, dx, a, T0, n, xs, sps, rfl, hx0, ha, hx, hz, hg, hT, hT2, hn, hn2, q⟩ := h
    rfl
  · obtain ⟨x, dx, a, T0, n, xs, sps, rfl, hx0, ha, hx, hz, hg, hT, hT2, hn, hn2, q⟩ := h
    refine ⟨_, pss_cons (ps_expr (pe_call Gcheck_net hr (by rfl) T.gcheck_net T.Fcheck_net.kp T.bcheck_net .nil pass0 (pa_cons (pv 1) (pa_cons (pv 2) (pa_cons (pv 3) pa_nil)))))
      (pss_cons (ps_fld (pv 0) (pv 1) rfl)
      (pss_cons (ps_fld (pv 0) (pv 2) rfl)
      (pss_one (ps_fld (pv 0) (pe_callTy (T := "tuple") call_tuple_of (by rfl) T.z_tuple (by decide +kernel) (pa_cons (pe_lc (own := [("span", 4)]) (g := gName 4) rfl scNetInit.nd (pi_list (pv 3)) (blkOk_by (own := [("span", 4)]) (N := ["self", "round_length", "events", "spans", "span"]) (sc := defScope sNetInit) (by decide +kernel)) (fun _ _ _ _ _ => pg_name (i := 4) scNetInit.nd rfl (.inl rfl)) (fun _ _ _ _ _ => pts_nil) (fun _ _ _ _ _ => (pe_callTy (T := "tuple") (call_tuple_ofK (K := K) rfl) (by rfl) T.z_tuple (by decide +kernel) (pa_cons (pv 4) pa_nil)))) pa_nil)) rfl)))), ?_⟩
    refine ⟨_, rfl, _, rfl, _, rfl, _, _, _, _, _, rfl, (by ac_rfl), (by assumption), (by and_intros), (by assumption), (by and_intros), (by and_intros), (by and_intros), (by and_intros), fun H1 s1 => ?_⟩
    have hx1 := s1 _ _ hx0
    have ha1 := s1 _ _ ha
    refine ⟨_, rfl, _, rfl, _, _, _, _, rfl, (by ac_rfl), T.cl_Net, T.na_Net_round_length, (by show 0 < 1000; decide), _, rfl, _, rfl, _, _, _, _, rfl, (by ac_rfl), T.cl_Net, T.na_Net_events, (by show 1 < 1000; decide), ?_⟩
    have xa : a ≠ x := ne_of ha hx0 (by intro z; cases z)
    have ha3 : (upd (upd H1 x (.ins T.C_Net dx (putF "round_length" (.int T0) []))) x (.ins T.C_Net dx (putF "events" (.int n) (putF "round_length" (.int T0) [])))) a = some (.lst xs) := by rw [upd_ne xa, upd_ne xa]; exact ha1
    have k3 : ∀ b o, b ≠ x → H b = some o → (upd (upd H1 x (.ins T.C_Net dx (putF "round_length" (.int T0) []))) x (.ins T.C_Net dx (putF "events" (.int n) (putF "round_length" (.int T0) [])))) b = some o := fun b o nb e => by rw [upd_ne nb, upd_ne nb]; exact s1 _ _ e
    have hx3 : (upd (upd H1 x (.ins T.C_Net dx (putF "round_length" (.int T0) []))) x (.ins T.C_Net dx (putF "events" (.int n) (putF "round_length" (.int T0) [])))) x = some (.ins T.C_Net dx (putF "events" (.int n) (putF "round_length" (.int T0) []))) := upd_same
    generalize (upd (upd H1 x (.ins T.C_Net dx (putF "round_length" (.int T0) []))) x (.ins T.C_Net dx (putF "events" (.int n) (putF "round_length" (.int T0) [])))) = H3 at ha3 k3 hx3 ⊢
    have hq3 : TqA 2 H3 xs (sps.map dSp) := hx.keep fun b ys e => k3 _ _ (ne_of e hx0 (by intro z; cases z)) e
    refine ⟨_, rfl, _, rfl, ⟨_, (by ac_rfl)⟩, fun D nD => lc_list (K := K) (a := a) (xs := xs) (fun j H' => H' D = some (.lst (xs.take j)) ∧ Same H3 H') ⟨upd_same, same_upd nD⟩ (fun j H' _ h => SqL.of (h.2 _ _ ha3)) ?_ ?_⟩
    · rintro j y H' hy ⟨hD, s0⟩
      obtain ⟨b, sp, rfl, hsp, hb⟩ := sp_at hq3 hy
      have hb' := s0 _ _ hb
      refine ⟨rfl, keepT ?_⟩
      refine ⟨_, rfl, _, _, rfl, .inr ⟨(by ac_rfl), ?_⟩⟩
      exact ⟨_, hD, by rw [List.length_take, sizeLine_eq]; omega, by rw [upd_same, take_more hy], SX.Same.put s0 nD⟩
    · rintro H' ⟨hD, s0⟩
      rw [List.take_length] at hD
      have hx4 := s0 _ _ hx3
      refine ⟨_, _, rfl, .inl ⟨(by ac_rfl), fun a2 n2 => ?_⟩⟩
      refine ⟨_, rfl, _, _, _, _, rfl, (by ac_rfl), T.cl_Net, T.na_Net_spans, (by show 2 < 1000; decide), ?_⟩
      refine q _ a2 (fun b o nb e => ?_) upd_same (by rw [upd_ne (ne_of_none hx4 n2).symm, upd_same])
      rw [upd_ne nb]
      exact upd_get (s0 _ _ (k3 b o nb e)) n2
end
end DD
end
section
open PySem PySem.Spec PyProof.Rows L2 KO SX
local macro_rules | `(tactic| ac_rfl) => `(tactic| with_reducible first
  | assumption
  | exact upd_same
  | (apply upd_get; ac_rfl; assumption)
  | (apply Run.get; assumption; ac_rfl; ac_rfl)
  | (apply Same.get; assumption; ac_rfl)
  | (apply SqL.of; ac_rfl)
  | (apply SqT.of; ac_rfl)
  | (apply Or.inl; apply SqL.of; ac_rfl)
  | (apply Or.inr; apply SqT.of; ac_rfl)
  | (apply Pool.ne'; assumption; ac_rfl)
  | (apply Pool.te'; assumption; ac_rfl)
  | (apply Pool.ie'; assumption; ac_rfl)
  | (apply Pool.run; assumption)
  | (apply Pool.upd; ac_rfl; ac_rfl)
  | (apply Pool.same'; assumption; ac_rfl))
local macro_rules | `(tactic| infer_instance) => `(tactic| with_reducible first
  | assumption
  | (apply Run.upd; infer_instance; assumption)
  | (apply Run.flip; assumption; infer_instance)
  | (apply Run.add'; assumption; infer_instance)
  | (apply Run.nil; ac_rfl))
local macro_rules | `(tactic| and_intros) => `(tactic| first
  | omega
  | (refine ⟨by omega, by omega, fun _ => by omega⟩)
  | rfl
  | (intro h; injection h; omega)
  | (apply congrArg V.int; omega)
  | (intro h; cases h; done)
  | (simp only [List.length_cons, List.length_nil, sizeLine_eq]; omega)
  | decide)
local macro_rules | `(tactic| symm_saturate) => `(tactic| first
  | exact .inl ⟨by omega, by omega⟩
  | exact .inr ⟨by omega, by omega⟩)
local macro_rules | `(tactic| nofun) => `(tactic| first
  | assumption
  | (apply ixN_of; omega; (first | omega | (simp only [List.length_append, List.length_cons, List.length_nil]; omega))))
local macro_rules | `(tactic| rfl') => `(tactic| first
  | assumption
  | rfl)
namespace DD
open PySem PySem.Spec PyProof.Rows L2 KO SX
section
variable {P : Program} {w : World} {K : PySem.W.Frag} {mg : Str → Option Value} {base : Heap}
theorem scBadTimesInit : FnScope ["self", "place"] ["self", "place"] (defScope sBadTimesInit) := ⟨rfl, rfl, rfl, by decide +kernel, rfl, by decide +kernel, by decide +kernel⟩
theorem ok_BadTimesInit (T : Tx K mg) : FnOk P w K mg base CX0 1 T.fBadTimes_init T.dBadTimes_init ["self", "place"] (spX1 T.C_BadTimes "place") := by
  refine T.FBadTimes_init.ok scBadTimesInit (fun vs H Q E h => ?_) (fun cdv A outer s H vs Q E hr h => ?_)
  · obtain ⟨a, v, rfl, _⟩ := h
    rfl
  · obtain ⟨a, v, rfl, ha, q⟩ := h
    exact ⟨_, pss_one (ps_ost (pv 0) (pv 1)), _, rfl, _, rfl, a, _, rfl, T.ox_BadTimes, T.no_BadTimes_place, .inl ⟨ha, q⟩⟩

theorem scUnknownSpanInit : FnScope ["self", "number"] ["self", "number"] (defScope sUnknownSpanInit) := ⟨rfl, rfl, rfl, by decide +kernel, rfl, by decide +kernel, by decide +kernel⟩
theorem ok_UnknownSpanInit (T : Tx K mg) : FnOk P w K mg base CX0 1 T.fUnknownSpan_init T.dUnknownSpan_init ["self", "number"] (spX1 T.C_UnknownSpan "number") := by
  refine T.FUnknownSpan_init.ok scUnknownSpanInit (fun vs H Q E h => ?_) (fun cdv A outer s H vs Q E hr h => ?_)
  · obtain ⟨a, v, rfl, _⟩ := h
    rfl
  · obtain ⟨a, v, rfl, ha, q⟩ := h
    exact ⟨_, pss_one (ps_ost (pv 0) (pv 1)), _, rfl, _, rfl, a, _, rfl, T.ox_UnknownSpan, T.no_UnknownSpan_number, .inl ⟨ha, q⟩⟩

/-- the times: a list or a tuple -/
def TmAt (H : Hp) (a : Addr) (ts : List Int) : Prop := H a = some (.lst (ts.map V.int)) ∨ H a = some (.tup (ts.map V.int))
theorem TmAt.same {H H' : Hp} {a : Addr} {ts : List Int} (s : Same H H') (h : TmAt H a ts) : TmAt H' a ts := h.imp (s _ _) (s _ _)
theorem TmAt.sq {H : Hp} {a : Addr} {ts : List Int} (h : TmAt H a ts) : SqL K H a (ts.map V.int) ∨ SqT K H a (ts.map V.int) := h.imp SqL.of SqT.of
theorem TmAt.ix {H : Hp} {a : Addr} {ts : List Int} (h : TmAt H a ts) {i v : Int} (e : atI (ts.map V.int) i = some (.int v)) {Q : VK} (q : Q (.int v) H) : rIx K (.ref a) (.int i) H Q := by
  rcases h with h | h
  · exact .inl ⟨_, _, _, _, rfl, rfl, SqL.of h, e, q⟩
  · exact .inr (.inl ⟨_, _, _, _, rfl, rfl, SqT.of h, e, q⟩)
def okB (T n : Int) (ts : List Int) (i : Nat) : Bool := decide ((i : Int) < n) && match ts[i]? with
  | some t => decide (0 ≤ t ∧ t < T)
  | none => false
def bad (T n : Int) (ts : List Int) : Option Nat := (List.range (max n.toNat ts.length)).find? fun i => !okB T n ts i
theorem bad_none {T n : Int} {ts : List Int} (h : ∀ i, i < max n.toNat ts.length → okB T n ts i = true) : bad T n ts = none := by
  unfold bad
  rw [List.find?_eq_none]
  intro i hi
  rw [h i (List.mem_range.mp hi)]
  decide
theorem bad_some {T n : Int} {ts : List Int} {k : Nat} (hk : k < max n.toNat ts.length) (h : ∀ i, i < k → okB T n ts i = true) (hb : okB T n ts k = false) : bad T n ts = some k := by
  unfold bad
  rw [List.find?_range_eq_some]
  refine ⟨by rw [hb]; rfl, List.mem_range.mpr hk, fun j hj => ?_⟩
  rw [h j hj]
  decide
theorem bad_ok {T n : Int} {ts : List Int} (hn : 0 ≤ n) (h : bad T n ts = none) : (ts.length : Int) = n ∧ ∀ i, i < ts.length → ∃ t, ts[i]? = some t ∧ 0 ≤ t ∧ t < T := by
  unfold bad at h
  rw [List.find?_eq_none] at h
  have h' : ∀ i, i < max n.toNat ts.length → okB T n ts i = true := fun i hi => by
    have := h i (List.mem_range.mpr hi)
    cases e : okB T n ts i with
    | true => rfl
    | false => rw [e] at this; exact absurd rfl this
  have g : ∀ i, i < max n.toNat ts.length → (i : Int) < n ∧ ∃ t, ts[i]? = some t ∧ 0 ≤ t ∧ t < T := fun i hi => by
    have := h' i hi
    unfold okB at this
    cases e : ts[i]? with
    | none => rw [e] at this; simp at this
    | some t => rw [e] at this; simp at this; exact ⟨this.1, t, rfl, this.2⟩
  have a : (ts.length : Int) ≤ n := by
    by_cases c : ts.length = 0
    · omega
    · have := (g (ts.length - 1) (by omega)).1
      omega
  have b : n ≤ ts.length := by
    by_cases c : n = 0
    · omega
    · obtain ⟨_, t, ht, _⟩ := g (n.toNat - 1) (by omega)
      have := (List.getElem?_eq_some_iff.mp ht).1
      omega
  exact ⟨by omega, fun i hi => (g i (by omega)).2⟩
def spCheckTimes (C B : Addr) : Sp := fun vs H Q E => ∃ (a m : Addr) (T n : Int) (sps : List Sp4) (ts : List Int), vs = [.ref a, .ref m] ∧ NetAt C H a T n sps ∧ TmAt H m ts ∧ ts.length ≤ 1000 ∧ 0 ≤ n ∧ n ≤ 12 ∧
  (bad T n ts = none → Q .non H) ∧ ∀ k, bad T n ts = some k → ∀ d, H d = none → E (.ref B) (some d) (upd H d (.xd [("place", .int k)]))

theorem scchecktimes : FnScope ["net", "times", "event"] ["net", "times"] (defScope schecktimes) := ⟨rfl, rfl, rfl, by decide +kernel, rfl, by decide +kernel, by decide +kernel⟩
theorem ok_checktimes (T : Tx K mg) : FnOk P w K mg base (L2.CX P w) 3 T.fcheck_times T.dcheck_times ["net", "times"] (spCheckTimes T.C_Net T.C_BadTimes) := by
  have GBadTimes_init := ok_BadTimesInit (P := P) (w := w) (base := base) T
  refine T.Fcheck_times.okX scchecktimes (fun vs H Q E h => ?_) (fun cdv A outer s H vs Q E hr h => ?_)
  · obtain ⟨a, m, T0, n, sps, ts, rfl, hN, hm, hz, hn, hn2, q1, q2⟩ := h
    rfl
  · obtain ⟨a, m, T0, n, sps, ts, rfl, hN, hm, hz, hn, hn2, q1, q2⟩ := h
    refine ⟨_, pss_one (ps_for (passes_of rfl) rfl (pi_range1 (by rfl) T.z_range (pa_cons (pe_callB (call_max2 rfl) (by rfl) T.z_max (by decide +kernel) (pa_cons (pe_fld (pv 0) rfl) (pa_cons (pe_callB call_len_seq (by rfl) T.z_len (by decide +kernel) (pa_cons (pv 1) pa_nil)) pa_nil))) pa_nil)) (pg_name (i := 2) scchecktimes.nd rfl (.inl rfl))
      (pss_one (ps_if (PW.pt (pw_or (pt_cmpR op_ge (pv 2) (pe_fld (pv 0) rfl) (nomark _)) (pw_or (pt_cmpR op_ge (pv 2) (pe_callB call_len_seq (by rfl) T.z_len (by decide +kernel) (pa_cons (pv 1) pa_nil)) (nomark _)) (pw_or1 (pt_not (pt_chain op_le op_lt pe_int (pe_ix ix_seq (pv 1) (pv 2) (fun _ _ => rfl)) (pe_fld (pv 0) rfl))))))) (pss_one (ps_raise rfl (takes_of rfl rfl rfl rfl) (pmk_1 T.ox_BadTimes T.ni_BadTimes T.ti_BadTimes GBadTimes_init hr T.bBadTimes_init (by rfl) T.g_BadTimes mono_V (pa_cons (pv 2) pa_nil)))) (pss_nil)))), ?_⟩
    obtain ⟨dx, t, xs, h1, h2, h3⟩ := hN
    refine ⟨_, rfl, _, _, _, _, _, rfl, h1, T.cl_Net, T.na_Net_events, (by rfl), _, rfl, _, _, rfl, hm.sq, ?_⟩
    refine ⟨_, _, rfl, ?_⟩
    simp only [imax, List.length_map]
    refine ⟨_, rfl, (by and_intros), (by and_intros), for_range (D := { nx := fun _ H' => Q .non H', rt := Q }) (lo := 0) (n := (max n (ts.length : Int)).toNat) (fun j σ H' => (∃ v2, σ = [some (.ref a), some (.ref m), v2]) ∧ H' = H ∧ ∀ i, i < j → okB T0 n ts i = true) ⟨⟨_, rfl⟩, rfl, fun i hi => by omega⟩ ?_ ?_⟩
    · rintro j σ H' hj ⟨⟨v2, rfl⟩, rfl, hok⟩
      have e0 : (0 : Int) + (j : Int) = j := by omega
      have rs : okB T0 n ts j = false → ∀ d, H' d = none → E (.ref T.C_BadTimes) (some d) (upd H' d (.xd [("place", .int (0 + (j : Int)))])) := fun hb => by
        rw [e0]
        exact q2 j (bad_some (by omega) hok hb)
      refine ⟨_, rfl, _, rfl, _, _, _, _, _, rfl, h1, T.cl_Net, T.na_Net_events, (by rfl), _, _, rfl, rfl, _, rfl, iteDs (fun c1 => iteT ?_) (fun c1 => ?_)⟩
      · have : okB T0 n ts j = false := by
          unfold okB
          rw [decide_eq_false (by omega)]
          rfl
        exact ⟨_, rfl, rs this⟩
      refine ⟨_, rfl, _, rfl, _, _, rfl, hm.sq, _, _, rfl, rfl, _, rfl, iteDs (fun c2 => iteT ?_) (fun c2 => ?_)⟩
      · have : okB T0 n ts j = false := by
          rw [List.length_map] at c2
          unfold okB
          rw [List.getElem?_eq_none (by omega)]
          simp
        exact ⟨_, rfl, rs this⟩
      rw [List.length_map] at c2
      have hjt : j < ts.length := by omega
      have hg := List.getElem?_eq_getElem hjt
      have ok : okB T0 n ts j = decide (0 ≤ ts[j] ∧ ts[j] < T0) := by
        unfold okB
        rw [decide_eq_true (by omega), hg]
        rfl
      refine ⟨_, rfl, _, rfl, hm.ix (at_of' e0 (by rw [List.getElem?_map, hg]; rfl)) ?_⟩
      refine ⟨_, _, rfl, rfl, _, rfl, iteDs (fun c3 => ?_) (fun c3 => ?_)⟩
      · refine ⟨_, rfl, _, _, _, _, _, rfl, h1, T.cl_Net, T.na_Net_round_length, (by rfl), _, _, rfl, rfl, _, rfl, iteNDs (fun c4 => ?_) (fun c4 => ?_)⟩
        · exact ⟨_, rfl, rs (by rw [ok]; exact decide_eq_false (by omega))⟩
        · refine ⟨⟨_, rfl⟩, rfl, fun i hi => ?_⟩
          by_cases e : i = j
          · rw [e, ok]
            exact decide_eq_true ⟨c3, c4⟩
          · exact hok i (by omega)
      · exact ⟨_, rfl, iteT ⟨_, rfl, rs (by rw [ok]; exact decide_eq_false (by omega))⟩⟩
    · rintro σ H' ⟨⟨v2, rfl⟩, rfl, hok⟩
      exact q1 (bad_none fun i hi => hok i (by omega))
end
end DD
end
section
open PySem PySem.Spec PyProof.Rows L2 KO SX
local macro_rules | `(tactic| ac_rfl) => `(tactic| with_reducible first
  | assumption
  | exact upd_same
  | (apply upd_get; ac_rfl; assumption)
  | (apply Run.get; assumption; ac_rfl; ac_rfl)
  | (apply Same.get; assumption; ac_rfl)
  | (apply SqL.of; ac_rfl)
  | (apply SqT.of; ac_rfl)
  | (apply Or.inl; apply SqL.of; ac_rfl)
  | (apply Or.inr; apply SqT.of; ac_rfl)
  | (apply Pool.ne'; assumption; ac_rfl)
  | (apply Pool.te'; assumption; ac_rfl)
  | (apply Pool.ie'; assumption; ac_rfl)
  | (apply Pool.run; assumption)
  | (apply Pool.upd; ac_rfl; ac_rfl)
  | (apply Pool.same'; assumption; ac_rfl))
local macro_rules | `(tactic| infer_instance) => `(tactic| with_reducible first
  | assumption
  | (apply Run.upd; infer_instance; assumption)
  | (apply Run.flip; assumption; infer_instance)
  | (apply Run.add'; assumption; infer_instance)
  | (apply Run.nil; ac_rfl))
local macro_rules | `(tactic| and_intros) => `(tactic| first
  | omega
  | (refine ⟨by omega, by omega, fun _ => by omega⟩)
  | rfl
  | (intro h; injection h; omega)
  | (apply congrArg V.int; omega)
  | (intro h; cases h; done)
  | (simp only [List.length_cons, List.length_nil, sizeLine_eq]; omega)
  | decide)
local macro_rules | `(tactic| symm_saturate) => `(tactic| first
  | exact .inl ⟨by omega, by omega⟩
  | exact .inr ⟨by omega, by omega⟩)
local macro_rules | `(tactic| nofun) => `(tactic| first
  | assumption
  | (apply ixN_of; omega; (first | omega | (simp only [List.length_append, List.length_cons, List.length_nil]; omega))))
local macro_rules | `(tactic| rfl') => `(tactic| first
  | assumption
  | rfl)
namespace DD
open PySem PySem.Spec PyProof.Rows L2 KO SX
section
variable {P : Program} {w : World} {K : PySem.W.Frag} {mg : Str → Option Value} {base : Heap}
/-- the minutes that pass on a span -/
def mOn (T : Int) (sp : Sp4) (ts : List Int) : Int := sp.2.2.1 + (ts.getD sp.2.1.toNat 0 - ts.getD sp.1.toNat 0 - sp.2.2.1) % T
def inT (n : Int) (ts : List Int) : Prop := (ts.length : Int) = n
theorem at_get {ts : List Int} {i : Int} (h0 : 0 ≤ i) (h1 : i < ts.length) : atI (ts.map V.int) i = some (.int (ts.getD i.toNat 0)) := by
  obtain ⟨j, rfl⟩ := Int.eq_ofNat_of_zero_le h0
  have hj : j < ts.length := by omega
  refine atI_nat ?_
  rw [List.getElem?_map, List.getElem?_eq_getElem hj]
  show some (V.int ts[j]) = some (V.int (ts.getD j 0))
  rw [List.getD_eq_getElem?_getD, List.getElem?_eq_getElem hj]
  rfl
def spOn (C : Addr) : Sp := fun vs H Q _ => ∃ (a m : Addr) (i : Nat) (T n : Int) (sps : List Sp4) (ts : List Int) (sp : Sp4), vs = [.ref a, .ref m, .int i] ∧ NetAt C H a T n sps ∧ TmAt H m ts ∧ sps[i]? = some sp ∧ gSp T n sp ∧ 2 ≤ T ∧ (ts.length : Int) = n ∧ Q (.int (mOn T sp ts)) H

theorem scminuteson : FnScope ["net", "times", "number", "start", "end", "least", "_"] ["net", "times", "number"] (defScope sminuteson) := ⟨rfl, rfl, rfl, by decide +kernel, rfl, by decide +kernel, by decide +kernel⟩
theorem ok_minuteson (T : Tx K mg) : FnOk P w K mg base CX0 1 T.fminutes_on T.dminutes_on ["net", "times", "number"] (spOn T.C_Net) := by
  refine T.Fminutes_on.ok scminuteson (fun vs H Q E h => ?_) (fun cdv A outer s H vs Q E hr h => ?_)
  · obtain ⟨a, m, i, T0, n, sps, ts, sp, rfl, hN, hm, hi, g, hT, hl, q⟩ := h
    rfl
  · obtain ⟨a, m, i, T0, n, sps, ts, sp, rfl, hN, hm, hi, g, hT, hl, q⟩ := h
    refine ⟨_, pss_cons (ps_asg (pe_ix ix_tup (pe_fld (pv 0) rfl) (pv 2) (fun _ _ => rfl)) (pg_tup rfl (pgs_cons (pg_name (i := 3) scminuteson.nd rfl (.inl rfl)) (pgs_cons (pg_name (i := 4) scminuteson.nd rfl (.inl rfl)) (pgs_cons (pg_name (i := 5) scminuteson.nd rfl (.inl rfl)) (pgs_cons (pg_name (i := 6) scminuteson.nd rfl (.inl rfl)) pgs_nil))))))
      (pss_one (ps_ret (pe_op op_add (pv 5) (pe_op op_mod (pe_op op_sub (pe_op op_sub (pe_ix ix_seq (pv 1) (pv 4) (fun _ _ => rfl)) (pe_ix ix_seq (pv 1) (pv 3) (fun _ _ => rfl))) (pv 5)) (pe_fld (pv 0) rfl))))), ?_⟩
    obtain ⟨dx, t, xs, h1, h2, h3⟩ := hN
    obtain ⟨b, hb, hb2⟩ := sp_at' h3 hi
    obtain ⟨g1, g2, g3, g4, g5, g6, g7, g8, g9⟩ := g
    refine ⟨_, rfl, _, _, _, _, _, rfl, h1, T.cl_Net, T.na_Net_spans, (by rfl), _, rfl, _, _, _, _, rfl, rfl, SqT.of h2, atI_nat hb, _, _, rfl, SqT.of hb2, rfl, _, _, rfl, _, _, rfl, _, _, rfl, _, _, rfl, rfl, ?_⟩
    refine ⟨_, rfl, _, rfl, _, rfl, hm.ix (at_get g3 (by omega)) ?_⟩
    refine ⟨_, rfl, _, rfl, hm.ix (at_get g1 (by omega)) ?_⟩
    refine ⟨_, _, rfl, rfl, _, rfl, _, _, rfl, rfl, _, rfl, _, _, _, _, _, rfl, h1, T.cl_Net, T.na_Net_round_length, (by rfl), _, _, rfl, rfl, (by and_intros), _, _, rfl, rfl, ?_⟩
    exact q

def goneI (T : Int) (sps : List Sp4) (ts : List Int) (i : Nat) : Int := match sps[i]? with
  | some sp => mOn T sp ts
  | none => 0
theorem goneI_of {T : Int} {sps : List Sp4} {ts : List Int} {i : Nat} {sp : Sp4} (h : sps[i]? = some sp) : goneI T sps ts i = mOn T sp ts := by
  unfold goneI
  rw [h]
def spPassed (C B U : Addr) : Sp := fun vs H Q E => ∃ (a m : Addr) (i : Int) (T n : Int) (sps : List Sp4) (ts : List Int), vs = [.ref a, .ref m, .int i] ∧ NetAt C H a T n sps ∧ TmAt H m ts ∧ ts.length ≤ 1000 ∧ 0 ≤ n ∧ n ≤ 12 ∧ 2 ≤ T ∧ (∀ s ∈ sps, gSp T n s) ∧
  (bad T n ts = none → (0 ≤ i ∧ i < sps.length → Q (.int (goneI T sps ts i.toNat)) H) ∧ (¬ (0 ≤ i ∧ i < sps.length) → ∀ d, H d = none → E (.ref U) (some d) (upd H d (.xd [("number", .int i)])))) ∧
  ∀ k, bad T n ts = some k → ∀ d, H d = none → E (.ref B) (some d) (upd H d (.xd [("place", .int k)]))

theorem scpassed : FnScope ["net", "times", "number"] ["net", "times", "number"] (defScope spassed) := ⟨rfl, rfl, rfl, by decide +kernel, rfl, by decide +kernel, by decide +kernel⟩
theorem ok_passed (T : Tx K mg) : FnOk P w K mg base (L2.CX P w) 4 T.fpassed T.dpassed ["net", "times", "number"] (spPassed T.C_Net T.C_BadTimes T.C_UnknownSpan) := by
  have Gcheck_times := ok_checktimes (P := P) (w := w) (base := base) T
  have Gminutes_on := (ok_minuteson (P := P) (w := w) (base := base) T).mono (k := 3) (by decide)
  have GUnknownSpan_init := ok_UnknownSpanInit (P := P) (w := w) (base := base) T
  refine T.Fpassed.okX scpassed (fun vs H Q E h => ?_) (fun cdv A outer s H vs Q E hr h => ?_)
  · obtain ⟨a, m, i, T0, n, sps, ts, rfl, hN, hm, hz, hn, hn2, hT, hg, q1, q2⟩ := h
    rfl
  · obtain ⟨a, m, i, T0, n, sps, ts, rfl, hN, hm, hz, hn, hn2, hT, hg, q1, q2⟩ := h
    have h2 : Room 2 _ := hr.mono (by decide)
    refine ⟨_, pss_cons (ps_expr (pe_call Gcheck_times hr (by rfl) T.gcheck_times T.Fcheck_times.kp T.bcheck_times .nil (passes_call (takes_of rfl rfl rfl rfl) (fun _ _ _ _ h => h)) (pa_cons (pv 0) (pa_cons (pv 1) pa_nil))))
      (pss_cons (ps_if (pt_not (pt_chain op_le op_lt pe_int (pv 2) (pe_callB call_len_seq (by rfl) T.z_len (by decide +kernel) (pa_cons (pe_fld (pv 0) rfl) pa_nil)))) (pss_one (ps_raise rfl (takes_of rfl rfl rfl rfl) (pmk_1 T.ox_UnknownSpan T.ni_UnknownSpan T.ti_UnknownSpan GUnknownSpan_init h2 T.bUnknownSpan_init (by rfl) T.g_UnknownSpan mono_V (pa_cons (pv 2) pa_nil)))) (pss_nil))
      (pss_one (ps_ret (pe_call Gminutes_on hr (by rfl) T.gminutes_on T.Fminutes_on.kp T.bminutes_on .nil pass0 (pa_cons (pv 0) (pa_cons (pv 1) (pa_cons (pv 2) pa_nil))))))), ?_⟩
    obtain ⟨dx, t, xs, h1, h2', h3⟩ := id hN
    have hxl : xs.length = sps.length := by rw [h3.1, List.length_map]
    refine ⟨_, rfl, _, rfl, a, m, T0, n, sps, ts, rfl, hN, hm, hz, hn, hn2, fun hb => ?_, fun k hk d hd => q2 k hk d hd⟩
    obtain ⟨q3, q4⟩ := q1 hb
    refine ⟨_, rfl, _, _, rfl, rfl, _, rfl, iteDs (fun c1 => ?_) (fun c1 => ?_)⟩
    · refine ⟨_, rfl, _, _, _, _, _, rfl, h1, T.cl_Net, T.na_Net_spans, (by rfl), _, _, rfl, .inr (SqT.of h2'), _, _, rfl, rfl, _, rfl, iteNDs (fun c2 => ?_) (fun c2 => ?_)⟩
      · exact ⟨_, rfl, q4 (by omega)⟩
      · obtain ⟨j, rfl⟩ := Int.eq_ofNat_of_zero_le c1
        have hj : j < sps.length := by omega
        have hs := List.getElem?_eq_getElem hj
        have q5 := q3 ⟨c1, by omega⟩
        rw [show ((j : Int)).toNat = j from rfl, goneI_of hs] at q5
        exact ⟨_, rfl, _, rfl, _, rfl, a, m, j, T0, n, sps, ts, _, rfl, hN, hm, hs, hg _ (List.getElem_mem hj), hT, (bad_ok hn hb).1, q5⟩
    · exact ⟨_, rfl, iteT ⟨_, rfl, q4 (by omega)⟩⟩
end
end DD
end
section
open PySem PySem.Spec PyProof.Rows L2 KO SX
local macro_rules | `(tactic| ac_rfl) => `(tactic| with_reducible first
  | assumption
  | exact upd_same
  | (apply upd_get; ac_rfl; assumption)
  | (apply Run.get; assumption; ac_rfl; ac_rfl)
  | (apply Same.get; assumption; ac_rfl)
  | (apply SqL.of; ac_rfl)
  | (apply SqT.of; ac_rfl)
  | (apply Or.inl; apply SqL.of; ac_rfl)
  | (apply Or.inr; apply SqT.of; ac_rfl)
  | (apply Pool.ne'; assumption; ac_rfl)
  | (apply Pool.te'; assumption; ac_rfl)
  | (apply Pool.ie'; assumption; ac_rfl)
  | (apply Pool.run; assumption)
  | (apply Pool.upd; ac_rfl; ac_rfl)
  | (apply Pool.same'; assumption; ac_rfl))
local macro_rules | `(tactic| infer_instance) => `(tactic| with_reducible first
  | assumption
  | (apply Run.upd; infer_instance; assumption)
  | (apply Run.flip; assumption; infer_instance)
  | (apply Run.add'; assumption; infer_instance)
  | (apply Run.nil; ac_rfl))
local macro_rules | `(tactic| and_intros) => `(tactic| first
  | omega
  | (refine ⟨by omega, by omega, fun _ => by omega⟩)
  | rfl
  | (intro h; injection h; omega)
  | (apply congrArg V.int; omega)
  | (intro h; cases h; done)
  | (simp only [List.length_cons, List.length_nil, sizeLine_eq]; omega)
  | decide)
local macro_rules | `(tactic| symm_saturate) => `(tactic| first
  | exact .inl ⟨by omega, by omega⟩
  | exact .inr ⟨by omega, by omega⟩)
local macro_rules | `(tactic| nofun) => `(tactic| first
  | assumption
  | (apply ixN_of; omega; (first | omega | (simp only [List.length_append, List.length_cons, List.length_nil]; omega))))
local macro_rules | `(tactic| rfl') => `(tactic| first
  | assumption
  | rfl)
namespace DD
open PySem PySem.Spec PyProof.Rows L2 KO SX
section
variable {P : Program} {w : World} {K : PySem.W.Frag} {mg : Str → Option Value} {base : Heap}
def overB (T : Int) (sps : List Sp4) (ts : List Int) (i : Nat) : Bool := match sps[i]? with
  | some sp => decide (sp.2.2.2 < mOn T sp ts)
  | none => false
def over (T : Int) (sps : List Sp4) (ts : List Int) (k : Nat) : List Int := List.map (fun i : Nat => (i : Int)) (List.filter (overB T sps ts) (List.range k))
theorem over_more {T : Int} {sps : List Sp4} {ts : List Int} {k : Nat} : over T sps ts (k + 1) = if overB T sps ts k = true then over T sps ts k ++ [(k : Int)] else over T sps ts k := by
  unfold over
  rw [List.range_succ, List.filter_append, List.map_append]
  cases h : overB T sps ts k with
  | true => simp [h]
  | false => simp [h]
theorem over_len {T : Int} {sps : List Sp4} {ts : List Int} {k : Nat} : (over T sps ts k).length ≤ k := by
  unfold over
  rw [List.length_map]
  have := List.length_filter_le (overB T sps ts) (List.range k)
  rw [List.length_range] at this
  exact this
def spBroken (C B : Addr) : Sp := fun vs H Q E => ∃ (a m : Addr) (T n : Int) (sps : List Sp4) (ts : List Int), vs = [.ref a, .ref m] ∧ NetAt C H a T n sps ∧ TmAt H m ts ∧ ts.length ≤ 1000 ∧ sps.length ≤ 1000 ∧ 0 ≤ n ∧ n ≤ 12 ∧ 2 ≤ T ∧ (∀ s ∈ sps, gSp T n s) ∧
  (bad T n ts = none → ∀ H' b, H b = none → Same H H' → H' b = some (.lst ((over T sps ts sps.length).map V.int)) → Q (.ref b) H') ∧
  ∀ k, bad T n ts = some k → ∀ d, H d = none → E (.ref B) (some d) (upd H d (.xd [("place", .int k)]))

theorem scbroken : FnScope ["net", "times", "number", "span"] ["net", "times"] (defScope sbroken) := ⟨rfl, rfl, rfl, by decide +kernel, rfl, by decide +kernel, by decide +kernel⟩
theorem ok_broken (T : Tx K mg) : FnOk P w K mg base (L2.CX P w) 4 T.fbroken T.dbroken ["net", "times"] (spBroken T.C_Net T.C_BadTimes) := by
  have Gcheck_times := ok_checktimes (P := P) (w := w) (base := base) T
  have Gminutes_on := (ok_minuteson (P := P) (w := w) (base := base) T).mono (k := 3) (by decide)
  refine T.Fbroken.okX scbroken (fun vs H Q E h => ?_) (fun cdv A outer s H vs Q E hr h => ?_)
  · obtain ⟨a, m, T0, n, sps, ts, rfl, hN, hm, hz, hz2, hn, hn2, hT, hg, q1, q2⟩ := h
    rfl
  · obtain ⟨a, m, T0, n, sps, ts, rfl, hN, hm, hz, hz2, hn, hn2, hT, hg, q1, q2⟩ := h
    refine ⟨_, pss_cons (ps_expr (pe_call Gcheck_times hr (by rfl) T.gcheck_times T.Fcheck_times.kp T.bcheck_times .nil (passes_call (takes_of rfl rfl rfl rfl) (fun _ _ _ _ h => h)) (pa_cons (pv 0) (pa_cons (pv 1) pa_nil))))
      (pss_one (ps_ret (pe_lc (own := [("number", 2), ("span", 3)]) (g := gTup K 2 (gCons (gName 2) (gCons (gName 3) gNil))) rfl scbroken.nd (pi_enumT (by rfl) T.z_enumerate (pa_cons (pe_fld (pv 0) rfl) pa_nil)) (blkOk_by (own := [("number", 2), ("span", 3)]) (N := ["net", "times", "number", "span"]) (sc := defScope sbroken) (by decide +kernel)) (fun _ _ _ _ _ => pg_tupK (K := K) rfl rfl (pgs_cons (pg_name (i := 2) scbroken.nd rfl (.inl rfl)) (pgs_cons (pg_name (i := 3) scbroken.nd rfl (.inl rfl)) pgs_nil))) (fun _ _ _ _ _ => pts_one (pt_cmpR op_gt (pe_call Gminutes_on hr (by rfl) T.gminutes_on T.Fminutes_on.kp T.bminutes_on .nil pass0 (pa_cons (pv 0) (pa_cons (pv 1) (pa_cons (pv 2) pa_nil)))) (pe_ix (ix_tupK (K := K) rfl) (pv 3) pe_int (fun _ _ => rfl)) (nomark _))) (fun _ _ _ _ _ => (pv 2))))), ?_⟩
    obtain ⟨dx, t, xs, h1, h2', h3⟩ := id hN
    have hxl : xs.length = sps.length := by rw [h3.1, List.length_map]
    refine ⟨_, rfl, _, rfl, a, m, T0, n, sps, ts, rfl, hN, hm, hz, hn, hn2, fun hb => ?_, fun k hk d hd => q2 k hk d hd⟩
    refine ⟨_, rfl, _, _, _, _, _, rfl, h1, T.cl_Net, T.na_Net_spans, (by rfl), _, _, rfl, SqT.of h2', fun D nD => lc_enumT (K := K) (a := t) (xs := xs) (fun j H' => H' D = some (.lst ((over T0 sps ts j).map V.int)) ∧ Same H H') ⟨upd_same, same_upd nD⟩ (fun j H' _ h => SqT.of (h.2 _ _ h2')) ?_ ?_⟩
    · rintro j y t2 H' hy ⟨hD, s0⟩ nt
      obtain ⟨b, sp, rfl, hsp, hb2⟩ := sp_at h3 hy
      have hj : j < sps.length := (List.getElem?_eq_some_iff.mp hsp).1
      have s1 : Same H (upd H' t2 (.tup [.int (j : Nat), .ref b])) := SX.Same.put s0 (L2.Same.free s0 nt)
      have hD1 : (upd H' t2 (.tup [.int (j : Nat), .ref b])) D = some (.lst ((over T0 sps ts j).map V.int)) := upd_get hD nt
      have ht2 : (upd H' t2 (.tup [.int (j : Nat), .ref b])) t2 = some (.tup [.int (j : Nat), .ref b]) := upd_same
      generalize upd H' t2 (.tup [.int (j : Nat), .ref b]) = H2 at s1 hD1 ht2 ⊢
      have hb3 := s1 _ _ hb2
      have ol := over_len (T := T0) (sps := sps) (ts := ts) (k := j)
      refine ⟨t2, _, rfl, SqT.of ht2, rfl, _, _, rfl, _, _, rfl, rfl, rfl, ?_⟩
      refine ⟨_, rfl, _, rfl, _, rfl, a, m, j, T0, n, sps, ts, sp, rfl, hN.same s1, hm.same s1, hsp, hg _ (List.mem_of_getElem? hsp), hT, (bad_ok hn hb).1, ?_⟩
      refine ⟨_, rfl, _, _, _, _, rfl, rfl, SqT.of hb3, atI_nat (j := 3) rfl, _, _, rfl, rfl, _, rfl, iteDs (fun c => ?_) (fun c => ?_)⟩
      · have ob : overB T0 sps ts j = true := by
          unfold overB
          rw [hsp]
          exact decide_eq_true c
        refine ⟨_, rfl, _, hD1, by rw [List.length_map, sizeLine_eq]; omega, ?_, SX.Same.put s1 nD⟩
        rw [upd_same, over_more, if_pos ob, List.map_append]
        rfl
      · have ob : overB T0 sps ts j = false := by
          unfold overB
          rw [hsp]
          exact decide_eq_false c
        refine ⟨?_, s1⟩
        rw [over_more, ob]
        exact hD1
    · rintro H' ⟨hD, s0⟩
      rw [hxl] at hD
      exact q1 hb _ D nD s0 hD
end
end DD
end
section
open PySem PySem.Spec PyProof.Rows L2 KO SX
local macro_rules | `(tactic| ac_rfl) => `(tactic| with_reducible first
  | assumption
  | exact upd_same
  | (apply upd_get; ac_rfl; assumption)
  | (apply Run.get; assumption; ac_rfl; ac_rfl)
  | (apply Same.get; assumption; ac_rfl)
  | (apply SqL.of; ac_rfl)
  | (apply SqT.of; ac_rfl)
  | (apply Or.inl; apply SqL.of; ac_rfl)
  | (apply Or.inr; apply SqT.of; ac_rfl)
  | (apply Pool.ne'; assumption; ac_rfl)
  | (apply Pool.te'; assumption; ac_rfl)
  | (apply Pool.ie'; assumption; ac_rfl)
  | (apply Pool.run; assumption)
  | (apply Pool.upd; ac_rfl; ac_rfl)
  | (apply Pool.same'; assumption; ac_rfl))
local macro_rules | `(tactic| infer_instance) => `(tactic| with_reducible first
  | assumption
  | (apply Run.upd'; assumption; infer_instance)
  | (apply Run.put; infer_instance; (apply Run.free'; assumption; infer_instance); ac_rfl)
  | (apply Run.flip; assumption; infer_instance)
  | (apply Run.add'; assumption; infer_instance)
  | (apply Run.nil; ac_rfl))
local macro_rules | `(tactic| and_intros) => `(tactic| first
  | omega
  | (refine ⟨by omega, by omega, fun _ => by omega⟩)
  | rfl
  | (intro h; injection h; omega)
  | (apply congrArg V.int; omega)
  | (intro h; cases h; done)
  | (simp only [List.length_cons, List.length_nil, sizeLine_eq]; omega)
  | (simp only [List.length_map, List.length_cons, List.length_nil] at *; omega)
  | decide
  | (apply add_le; exfalso; exfalso; simp [sizeLine_eq]; done))
local macro_rules | `(tactic| trivial) => `(tactic| first
  | exact AllI.of _
  | exact AllI.nil
  | exact AllI.one _
  | (apply AllI.cut; trivial)
  | (apply AllI.app; trivial; trivial)
  | (apply AllI.set; trivial))
local macro_rules | `(tactic| exfalso) => `(tactic| first
  | assumption
  | exact one_le
  | (apply cut_le; exfalso)
  | (apply app_le; exfalso; exfalso)
  | (apply set_le; exfalso)
  | (apply map_le; exfalso))
local macro_rules | `(tactic| symm_saturate) => `(tactic| first
  | exact .inl ⟨by omega, by omega⟩
  | exact .inr ⟨by omega, by omega⟩)
local macro_rules | `(tactic| nofun) => `(tactic| first
  | assumption
  | (apply ixN_of; omega; (first | omega | (simp only [List.length_append, List.length_cons, List.length_nil]; omega)))
  | (apply ixN_of; (simp only [List.length_append, List.length_cons, List.length_nil]; omega); (simp only [List.length_append, List.length_cons, List.length_nil]; omega)))
local macro_rules | `(tactic| rfl') => `(tactic| first
  | assumption
  | rfl)
namespace DD
open PySem PySem.Spec PyProof.Rows L2 KO SX
section
variable {P : Program} {w : World} {K : PySem.W.Frag} {mg : Str → Option Value} {base : Heap}
def spSpoilt : Sp := fun vs H Q _ => ∃ (p m : Addr) (T : Int) (ns : List Int), vs = [.ref p, .int T, .ref m] ∧ Pool H p ∧ m ≠ p ∧ H m = some (.lst (ns.map V.int)) ∧ ns.length ≤ 12 ∧ 2 ≤ T ∧ T ≤ 60 ∧ ∀ H' b, NewI H H' p b 100 → Q (.ref b) H'

theorem scLspoilt : FnScope ["_law_pool_here", "_law_length_here", "_law_times_here", "_law_far", "_law_wrong_here", "_law_way", "_law_at", "_law_row", "_law_k"] ["_law_pool_here", "_law_length_here", "_law_times_here"] (defScope sLspoilt) := ⟨rfl, rfl, rfl, by decide +kernel, rfl, by decide +kernel, by decide +kernel⟩
theorem ok_Lspoilt (T : Tx K mg) : FnOk P w K mg base CX0 2 T.f_law_spoilt T.d_law_spoilt ["_law_pool_here", "_law_length_here", "_law_times_here"] (spSpoilt) := by
  have G_law_take := (ok_take (P := P) (w := w) (base := base) T)
  refine T.F_law_spoilt.ok scLspoilt (fun vs H Q E h => ?_) (fun cdv A outer s H vs Q E hr h => ?_)
  · obtain ⟨p, m, T0, ns, rfl, hp, hmp, hm, hz, hT, hT2, q⟩ := h
    rfl
  · obtain ⟨p, m, T0, ns, rfl, hp, hmp, hm, hz, hT, hT2, q⟩ := h
    refine ⟨_, pss_cons (ps_set (i := 3) scLspoilt.nd rfl (.inl rfl) (pe_ix ix_list (pe_lst (pa_cons pe_int (pa_cons pe_int (pa_cons pe_int (pa_cons pe_int (pa_cons (pe_op op_pow pe_int pe_int) pa_nil)))))) (pe_call G_law_take hr (by rfl) T.g_law_take T.F_law_take.kp T.b_law_take .nil pass0 (pa_cons (pv 0) (pa_cons pe_int pa_nil))) (fun _ _ => rfl)))
      (pss_cons (ps_set (i := 4) scLspoilt.nd rfl (.inl rfl) (pe_ix ix_list (pe_lst (pa_cons (pe_op op_sub (pe_un un_neg pe_int) (pv 3)) (pa_cons (pe_op op_add (pv 1) (pv 3)) pa_nil))) (pe_call G_law_take hr (by rfl) T.g_law_take T.F_law_take.kp T.b_law_take .nil pass0 (pa_cons (pv 0) (pa_cons pe_int pa_nil))) (fun _ _ => rfl)))
      (pss_cons (ps_set (i := 5) scLspoilt.nd rfl (.inl rfl) (pe_call G_law_take hr (by rfl) T.g_law_take T.F_law_take.kp T.b_law_take .nil pass0 (pa_cons (pv 0) (pa_cons pe_int pa_nil))))
      (pss_cons (ps_set (i := 6) scLspoilt.nd rfl (.inl rfl) (pe_call G_law_take hr (by rfl) T.g_law_take T.F_law_take.kp T.b_law_take .nil pass0 (pa_cons (pv 0) (pa_cons (pe_op op_add (pe_callB call_len_seq (by rfl) T.z_len (by decide +kernel) (pa_cons (pv 2) pa_nil)) pe_int) pa_nil))))
      (pss_cons (ps_if (pt_cmpR op_eq (pv 5) pe_int (nomark _)) (pss_one (ps_ret (pe_slice sl_list (pv 2) po_none (po_some (pv 6))))) (pss_nil))
      (pss_cons (ps_if (pt_cmpR op_eq (pv 5) pe_int (nomark _)) (pss_one (ps_ret (pe_op op_cat (pv 2) (pe_lc (own := [("_law_k", 8)]) (g := gName 8) rfl scLspoilt.nd (pi_range1 (by rfl) T.z_range (pa_cons (pe_op op_add pe_int (pe_call G_law_take hr (by rfl) T.g_law_take T.F_law_take.kp T.b_law_take .nil pass0 (pa_cons (pv 0) (pa_cons pe_int pa_nil)))) pa_nil)) (blkOk_by (own := [("_law_k", 8)]) (N := ["_law_pool_here", "_law_length_here", "_law_times_here", "_law_far", "_law_wrong_here", "_law_way", "_law_at", "_law_row", "_law_k"]) (sc := defScope sLspoilt) (by decide +kernel)) (fun _ _ _ _ _ => pg_name (i := 8) scLspoilt.nd rfl (.inl rfl)) (fun _ _ _ _ _ => pts_nil) (fun _ _ _ _ _ => (pe_call G_law_take hr (by rfl) T.g_law_take T.F_law_take.kp T.b_law_take .nil pass0 (pa_cons (pv 0) (pa_cons (pv 1) pa_nil)))))))) (pss_nil))
      (pss_cons (ps_if (pt_cmpR op_eq (pv 5) pe_int (nomark _)) (pss_one (ps_ret (pe_op op_cat (pe_op op_cat (pe_slice sl_list (pv 2) po_none (po_some (pv 6))) (pe_lst (pa_cons (pv 4) pa_nil))) (pe_slice sl_list (pv 2) (po_some (pv 6)) po_none)))) (pss_nil))
      (pss_cons (ps_if (PW.pt (pw_and (pt_cmpR op_lt (pv 5) pe_int (nomark _)) (pw_and1 (pt_cmpR op_lt (pv 6) (pe_callB call_len_seq (by rfl) T.z_len (by decide +kernel) (pa_cons (pv 2) pa_nil)) (nomark _))))) (pss_cons (ps_set (i := 7) scLspoilt.nd rfl (.inl rfl) (pe_op op_cat (pe_op op_cat (pe_slice sl_list (pv 2) po_none (po_some (pv 6))) (pe_lst (pa_cons (pv 4) pa_nil))) (pe_slice sl_list (pv 2) (po_some (pe_op op_add (pv 6) pe_int)) po_none)))
      (pss_cons (ps_if (pt_cmpR op_eq (pv 5) pe_int (nomark _)) (pss_one (ps_asg (pv 1) (pg_sub (pv 7) (pe_op op_sub (pe_callB call_len_seq (by rfl) T.z_len (by decide +kernel) (pa_cons (pv 7) pa_nil)) pe_int) set_list))) (pss_nil))
      (pss_one (ps_ret (pv 7))))) (pss_nil))
      (pss_cons (ps_if (pt_cmpR op_eq (pv 5) pe_int (nomark _)) (pss_one (ps_ret (pe_lc (own := [("_law_k", 8)]) (g := gName 8) rfl scLspoilt.nd (pi_range1 (by rfl) T.z_range (pa_cons (pe_call G_law_take hr (by rfl) T.g_law_take T.F_law_take.kp T.b_law_take .nil pass0 (pa_cons (pv 0) (pa_cons pe_int pa_nil))) pa_nil)) (blkOk_by (own := [("_law_k", 8)]) (N := ["_law_pool_here", "_law_length_here", "_law_times_here", "_law_far", "_law_wrong_here", "_law_way", "_law_at", "_law_row", "_law_k"]) (sc := defScope sLspoilt) (by decide +kernel)) (fun _ _ _ _ _ => pg_name (i := 8) scLspoilt.nd rfl (.inl rfl)) (fun _ _ _ _ _ => pts_nil) (fun _ _ _ _ _ => (pe_op op_sub (pe_call G_law_take hr (by rfl) T.g_law_take T.F_law_take.kp T.b_law_take .nil pass0 (pa_cons (pv 0) (pa_cons (pe_op op_add (pe_op op_mul pe_int (pe_op op_pow pe_int pe_int)) pe_int) pa_nil))) (pe_op op_pow pe_int pe_int)))))) (pss_nil))
      (pss_one (ps_ret (pe_callTy (T := "list") call_list_of (by rfl) T.z_list (by decide +kernel) (pa_cons (pv 2) pa_nil)))))))))))), ?_⟩
    refine ⟨_, _, rfl, rfl, ⟨by decide, by decide, by decide⟩, (by and_intros), fun a1 n1 => ?_⟩
    refine ⟨_, rfl, _, _, rfl, (by ac_rfl), by and_intros, by and_intros, fun H2 r2 l2 u2 R2 => ?_⟩
    have P2 := R2.2
    refine rixL_ints (ns := [0, 0, 1, 60, 10 ^ 8]) (by ac_rfl) (by rfl) l2 (by and_intros) fun w2 m2 => ?_
    simp only [List.mem_cons, List.not_mem_nil, or_false] at m2
    refine ⟨_, rfl, _, rfl, _, _, rfl, rfl, _, rfl, _, rfl, _, _, rfl, rfl, (by and_intros), fun a3 n3 => ?_⟩
    refine ⟨_, rfl, _, _, rfl, (by ac_rfl), by and_intros, by and_intros, fun H4 r4 l4 u4 R4 => ?_⟩
    have P4 := R4.2
    refine rixL_any (by ac_rfl) l4 (by and_intros) fun v4 m4 => ?_
    simp only [List.mem_cons, List.not_mem_nil, or_false] at m4
    obtain ⟨wr, rfl⟩ : ∃ w : Int, v4 = V.int w := by rcases m4 with h | h <;> exact ⟨_, h⟩
    refine ⟨_, rfl, _, _, rfl, (by ac_rfl), by and_intros, by and_intros, fun H5 r5 l5 u5 R5 => ?_⟩
    have P5 := R5.2
    refine ⟨_, rfl, _, rfl, _, _, rfl, (by ac_rfl), _, _, rfl, rfl, _, _, rfl, (by ac_rfl), by and_intros, by and_intros, fun H6 r6 l6 u6 R6 => ?_⟩
    have P6 := R6.2
    refine ⟨_, rfl, rfl, _, rfl, iteDs (fun c7 => ?_) (fun c7 => ?_)⟩
    · skip
      refine ⟨_, rfl, _, rfl, _, rfl, _, _, rfl, (by ac_rfl), fun a8 n8 => ?_⟩
      exact q _ _ (NewI.of (by apply Run.free'; assumption; infer_instance) (by ac_rfl) (by trivial) (Nat.le_trans (by exfalso) (by decide)) (by infer_instance))
    · skip
      refine ⟨_, rfl, rfl, _, rfl, iteDs (fun c9 => ?_) (fun c9 => ?_)⟩
      · skip
        refine ⟨_, rfl, _, rfl, _, _, rfl, (by ac_rfl), by and_intros, by and_intros, fun H10 r10 l10 u10 R10 => ?_⟩
        have P10 := R10.2
        refine ⟨_, _, rfl, rfl, _, rfl, (by and_intros), (by and_intros), fun D nD => lc_range (lo := 0) (n := (1 + r10).toNat) (fun j H' => ∃ ns : List Int, ns.length = j ∧ H' D = some (.lst (ns.map V.int)) ∧ Run p H10 H') ⟨[], rfl, upd_same, (Run.nil (by ac_rfl)).upd nD⟩ ?_ ?_⟩
        · rintro j H' hj ⟨ns', hl, hD', R0⟩
          have P0 := R0.2
          have Dp : D ≠ p := Pool.ne (by ac_rfl : Pool H10 p) nD
          refine ⟨rfl, keepT ?_⟩
          refine ⟨_, rfl, _, rfl, _, _, rfl, (by ac_rfl), by and_intros, by and_intros, fun H11 r11 l11 u11 R11 => ?_⟩
          have P11 := R11.2
          obtain ⟨acc, e1, e2, e3⟩ := ints_more (r := r11) Dp hD' (by omega) R11
          exact ⟨acc, e1, e2, ns' ++ [r11], by simp [hl], e3, (R0.trans R11).put nD Dp⟩
        · rintro H' ⟨ns', hl, hD', R0⟩
          have P0 := R0.2
          have hl' : ns'.length ≤ 20 := by omega
          refine ⟨_, _, _, _, rfl, rfl, (by ac_rfl), (by ac_rfl), (by and_intros), fun a12 n12 => ?_⟩
          exact q _ _ (NewI.of (by apply Run.free'; assumption; infer_instance) (by ac_rfl) (by trivial) (Nat.le_trans (by exfalso) (by decide)) (by infer_instance))
      · skip
        refine ⟨_, rfl, rfl, _, rfl, iteDs (fun c13 => ?_) (fun c13 => ?_)⟩
        · skip
          refine ⟨_, rfl, _, rfl, _, rfl, _, _, rfl, (by ac_rfl), fun a14 n14 => ?_⟩
          refine ⟨_, rfl, (by and_intros), fun a15 n15 => ?_⟩
          refine ⟨_, _, _, _, rfl, rfl, (by ac_rfl), (by ac_rfl), (by and_intros), fun a16 n16 => ?_⟩
          refine ⟨_, rfl, _, rfl, _, rfl, _, _, rfl, (by ac_rfl), fun a17 n17 => ?_⟩
          refine ⟨_, _, _, _, rfl, rfl, (by ac_rfl), (by ac_rfl), (by and_intros), fun a18 n18 => ?_⟩
          exact q _ _ (NewI.of (by apply Run.free'; assumption; infer_instance) (by ac_rfl) (by trivial) (Nat.le_trans (by exfalso) (by decide)) (by infer_instance))
        · skip
          refine ⟨_, rfl, _, _, rfl, rfl, _, rfl, iteDs (fun c19 => ?_) (fun c19 => ?_)⟩
          · skip
            refine ⟨_, rfl, _, rfl, _, _, rfl, (by ac_rfl), _, _, rfl, rfl, _, rfl, iteDs (fun c20 => ?_) (fun c20 => ?_)⟩
            · skip
              refine ⟨_, rfl, _, rfl, _, rfl, _, _, rfl, (by ac_rfl), fun a21 n21 => ?_⟩
              refine ⟨_, rfl, (by and_intros), fun a22 n22 => ?_⟩
              refine ⟨_, _, _, _, rfl, rfl, (by ac_rfl), (by ac_rfl), (by and_intros), fun a23 n23 => ?_⟩
              refine ⟨_, rfl, _, rfl, _, _, rfl, rfl, _, rfl, _, _, rfl, (by ac_rfl), fun a24 n24 => ?_⟩
              refine ⟨_, _, _, _, rfl, rfl, (by ac_rfl), (by ac_rfl), (by and_intros), fun a25 n25 => ?_⟩
              refine ⟨_, rfl, rfl, _, rfl, iteDs (fun c26 => ?_) (fun c26 => ?_)⟩
              · skip
                refine ⟨_, rfl, _, rfl, _, rfl, _, _, rfl, (by ac_rfl), _, _, rfl, rfl, _, _, _, _, rfl, rfl, (by ac_rfl), (by nofun), _, rfl, ?_⟩
                exact q _ _ (NewI.of (by apply Run.free'; assumption; infer_instance) (by ac_rfl) (by trivial) (Nat.le_trans (by exfalso) (by decide)) (by infer_instance))
              · skip
                refine ⟨_, rfl, ?_⟩
                exact q _ _ (NewI.of (by apply Run.free'; assumption; infer_instance) (by ac_rfl) (by trivial) (Nat.le_trans (by exfalso) (by decide)) (by infer_instance))
            · skip
              refine ⟨_, rfl, rfl, _, rfl, iteDs (fun c27 => ?_) (fun c27 => ?_)⟩
              · skip
                refine ⟨_, rfl, _, _, rfl, (by ac_rfl), by and_intros, by and_intros, fun H28 r28 l28 u28 R28 => ?_⟩
                have P28 := R28.2
                refine ⟨_, rfl, (by and_intros), (by and_intros), fun D nD => lc_range (lo := 0) (n := (r28).toNat) (fun j H' => ∃ ns : List Int, ns.length = j ∧ H' D = some (.lst (ns.map V.int)) ∧ Run p H28 H') ⟨[], rfl, upd_same, (Run.nil (by ac_rfl)).upd nD⟩ ?_ ?_⟩
                · rintro j H' hj ⟨ns', hl, hD', R0⟩
                  have P0 := R0.2
                  have Dp : D ≠ p := Pool.ne (by ac_rfl : Pool H28 p) nD
                  refine ⟨rfl, keepT ?_⟩
                  refine ⟨_, rfl, _, _, rfl, rfl, ⟨by decide, by decide, by decide⟩, _, _, rfl, rfl, (by symm_saturate), _, _, rfl, rfl, _, _, rfl, (by ac_rfl), by and_intros, by and_intros, fun H29 r29 l29 u29 R29 => ?_⟩
                  have P29 := R29.2
                  refine ⟨_, _, rfl, rfl, ⟨by decide, by decide, by decide⟩, _, _, rfl, rfl, ?_⟩
                  obtain ⟨acc, e1, e2, e3⟩ := ints_more (r := r29 - 10 ^ Int.toNat 9) Dp hD' (by omega) R29
                  exact ⟨acc, e1, e2, ns' ++ [r29 - 10 ^ Int.toNat 9], by simp [hl], e3, (R0.trans R29).put nD Dp⟩
                · rintro H' ⟨ns', hl, hD', R0⟩
                  have P0 := R0.2
                  have hl' : ns'.length ≤ 20 := by omega
                  exact q _ _ (NewI.of (by apply Run.free'; assumption; infer_instance) (by ac_rfl) (by trivial) (Nat.le_trans (by exfalso) (by decide)) (by infer_instance))
              · skip
                refine ⟨_, rfl, _, _, rfl, (by ac_rfl), fun a30 n30 => ?_⟩
                exact q _ _ (NewI.of (by apply Run.free'; assumption; infer_instance) (by ac_rfl) (by trivial) (Nat.le_trans (by exfalso) (by decide)) (by infer_instance))
          · skip
            refine iteF ?_
            refine ⟨_, rfl, rfl, _, rfl, iteDs (fun c31 => ?_) (fun c31 => ?_)⟩
            · skip
              refine ⟨_, rfl, _, _, rfl, (by ac_rfl), by and_intros, by and_intros, fun H32 r32 l32 u32 R32 => ?_⟩
              have P32 := R32.2
              refine ⟨_, rfl, (by and_intros), (by and_intros), fun D nD => lc_range (lo := 0) (n := (r32).toNat) (fun j H' => ∃ ns : List Int, ns.length = j ∧ H' D = some (.lst (ns.map V.int)) ∧ Run p H32 H') ⟨[], rfl, upd_same, (Run.nil (by ac_rfl)).upd nD⟩ ?_ ?_⟩
              · rintro j H' hj ⟨ns', hl, hD', R0⟩
                have P0 := R0.2
                have Dp : D ≠ p := Pool.ne (by ac_rfl : Pool H32 p) nD
                refine ⟨rfl, keepT ?_⟩
                refine ⟨_, rfl, _, _, rfl, rfl, ⟨by decide, by decide, by decide⟩, _, _, rfl, rfl, (by symm_saturate), _, _, rfl, rfl, _, _, rfl, (by ac_rfl), by and_intros, by and_intros, fun H33 r33 l33 u33 R33 => ?_⟩
                have P33 := R33.2
                refine ⟨_, _, rfl, rfl, ⟨by decide, by decide, by decide⟩, _, _, rfl, rfl, ?_⟩
                obtain ⟨acc, e1, e2, e3⟩ := ints_more (r := r33 - 10 ^ Int.toNat 9) Dp hD' (by omega) R33
                exact ⟨acc, e1, e2, ns' ++ [r33 - 10 ^ Int.toNat 9], by simp [hl], e3, (R0.trans R33).put nD Dp⟩
              · rintro H' ⟨ns', hl, hD', R0⟩
                have P0 := R0.2
                have hl' : ns'.length ≤ 20 := by omega
                exact q _ _ (NewI.of (by apply Run.free'; assumption; infer_instance) (by ac_rfl) (by trivial) (Nat.le_trans (by exfalso) (by decide)) (by infer_instance))
            · skip
              refine ⟨_, rfl, _, _, rfl, (by ac_rfl), fun a34 n34 => ?_⟩
              exact q _ _ (NewI.of (by apply Run.free'; assumption; infer_instance) (by ac_rfl) (by trivial) (Nat.le_trans (by exfalso) (by decide)) (by infer_instance))
end
end DD
end
section
open PySem PySem.Spec PyProof.Rows L2 KO SX
local macro_rules | `(tactic| ac_rfl) => `(tactic| with_reducible first
  | assumption
  | exact upd_same
  | (apply upd_get; ac_rfl; assumption)
  | (apply Run.get; assumption; ac_rfl; ac_rfl)
  | (apply Same.get; assumption; ac_rfl)
  | (apply SqL.of; ac_rfl)
  | (apply SqT.of; ac_rfl)
  | (apply Or.inl; apply SqL.of; ac_rfl)
  | (apply Or.inr; apply SqT.of; ac_rfl)
  | (apply Pool.ne'; assumption; ac_rfl)
  | (apply Pool.te'; assumption; ac_rfl)
  | (apply Pool.ie'; assumption; ac_rfl)
  | (apply Pool.run; assumption)
  | (apply Pool.upd; ac_rfl; ac_rfl)
  | (apply Pool.same'; assumption; ac_rfl))
local macro_rules | `(tactic| infer_instance) => `(tactic| with_reducible first
  | assumption
  | (apply Run.upd'; assumption; infer_instance)
  | (apply Run.put; infer_instance; (apply Run.free'; assumption; infer_instance); ac_rfl)
  | (apply Run.flip; assumption; infer_instance)
  | (apply Run.add'; assumption; infer_instance)
  | (apply Run.nil; ac_rfl))
local macro_rules | `(tactic| and_intros) => `(tactic| first
  | omega
  | (refine ⟨by omega, by omega, fun _ => by omega⟩)
  | rfl
  | (intro h; injection h; omega)
  | (apply congrArg V.int; omega)
  | (intro h; cases h; done)
  | (simp only [List.length_cons, List.length_nil, sizeLine_eq]; omega)
  | (simp only [List.length_map, List.length_cons, List.length_nil] at *; omega)
  | decide
  | (apply add_le; exfalso; exfalso; simp [sizeLine_eq]; done))
local macro_rules | `(tactic| trivial) => `(tactic| first
  | exact AllI.of _
  | exact AllI.nil
  | exact AllI.one _
  | (apply AllI.cut; trivial)
  | (apply AllI.app; trivial; trivial)
  | (apply AllI.set; trivial))
local macro_rules | `(tactic| exfalso) => `(tactic| first
  | assumption
  | exact one_le
  | (apply cut_le; exfalso)
  | (apply app_le; exfalso; exfalso)
  | (apply set_le; exfalso)
  | (apply map_le; exfalso))
local macro_rules | `(tactic| symm_saturate) => `(tactic| first
  | exact .inl ⟨by omega, by omega⟩
  | exact .inr ⟨by omega, by omega⟩)
local macro_rules | `(tactic| nofun) => `(tactic| first
  | assumption
  | (apply ixN_of; omega; (first | omega | (simp only [List.length_append, List.length_cons, List.length_nil]; omega)))
  | (apply ixN_of; (simp only [List.length_append, List.length_cons, List.length_nil]; omega); (simp only [List.length_append, List.length_cons, List.length_nil]; omega)))
local macro_rules | `(tactic| rfl') => `(tactic| first
  | assumption
  | rfl)
namespace DD
open PySem PySem.Spec PyProof.Rows L2 KO SX
section
variable {P : Program} {w : World} {K : PySem.W.Frag} {mg : Str → Option Value} {base : Heap}
def badV (T n : Int) (ts : List Int) : V := match bad T n ts with
  | some k => .int k
  | none => .non
theorem badV_none {T n : Int} {ts : List Int} (h : bad T n ts = none) : badV T n ts = .non := by unfold badV; rw [h]
theorem badV_some {T n : Int} {ts : List Int} {k : Nat} (h : bad T n ts = some k) : badV T n ts = .int k := by unfold badV; rw [h]
def spWrong : Sp := fun vs H Q _ => ∃ (m : Addr) (T n : Int) (ts : List Int), vs = [.int T, .int n, .ref m] ∧ TmAt H m ts ∧ ts.length ≤ 1000 ∧ 0 ≤ n ∧ n ≤ 12 ∧ Q (badV T n ts) H

theorem scLwrong : FnScope ["_law_length_here", "_law_many_here", "_law_times_here", "_law_k"] ["_law_length_here", "_law_many_here", "_law_times_here"] (defScope sLwrong) := ⟨rfl, rfl, rfl, by decide +kernel, rfl, by decide +kernel, by decide +kernel⟩
theorem ok_Lwrong (T : Tx K mg) : FnOk P w K mg base CX0 1 T.f_law_wrong T.d_law_wrong ["_law_length_here", "_law_many_here", "_law_times_here"] (spWrong) := by
  refine T.F_law_wrong.ok scLwrong (fun vs H Q E h => ?_) (fun cdv A outer s H vs Q E hr h => ?_)
  · obtain ⟨m, T0, n, ts, rfl, hm, hz, hn, hn2, q⟩ := h
    rfl
  · obtain ⟨m, T0, n, ts, rfl, hm, hz, hn, hn2, q⟩ := h
    refine ⟨_, pss_cons (ps_for PassesOwn.never rfl (pi_range1 (by rfl) T.z_range (pa_cons (pe_callB (call_max2 rfl) (by rfl) T.z_max (by decide +kernel) (pa_cons (pv 1) (pa_cons (pe_callB call_len_seq (by rfl) T.z_len (by decide +kernel) (pa_cons (pv 2) pa_nil)) pa_nil))) pa_nil)) (pg_name (i := 3) scLwrong.nd rfl (.inl rfl))
      (pss_cons (ps_if (PW.pt (pw_or (pt_cmpR op_ge (pv 3) (pv 1) (nomark _)) (pw_or1 (pt_cmpR op_ge (pv 3) (pe_callB call_len_seq (by rfl) T.z_len (by decide +kernel) (pa_cons (pv 2) pa_nil)) (nomark _))))) (pss_one (ps_ret (pv 3))) (pss_nil))
      (pss_one (ps_if (PW.pt (pw_or (pt_cmpR op_lt (pe_ix ix_seq (pv 2) (pv 3) (fun _ _ => rfl)) pe_int (nomark _)) (pw_or1 (pt_cmpR op_gt (pe_ix ix_seq (pv 2) (pv 3) (fun _ _ => rfl)) (pe_op op_sub (pv 0) pe_int) (nomark _))))) (pss_one (ps_ret (pv 3))) (pss_nil)))))
      (pss_one (ps_ret pe_non)), ?_⟩
    refine ⟨_, rfl, _, rfl, _, _, rfl, hm.sq, ?_⟩
    refine ⟨_, _, rfl, ?_⟩
    rw [imax, List.length_map]
    refine ⟨_, rfl, (by and_intros), (by and_intros), for_range (lo := 0) (n := (max n (ts.length : Int)).toNat) (fun j σ H' => (∃ v3, σ = [some (.int T0), some (.int n), some (.ref m), v3]) ∧ H' = H ∧ ∀ i, i < j → okB T0 n ts i = true) ⟨⟨_, rfl⟩, rfl, fun i hi => by omega⟩ ?_ ?_⟩
    · rintro j σ H' hj ⟨⟨v3, rfl⟩, rfl, hok⟩
      have e0 : (0 : Int) + (j : Int) = j := by omega
      have rs : okB T0 n ts j = false → Q (.int (0 + (j : Int))) H' := fun hb => by
        rw [e0, ← badV_some (bad_some (by omega) hok hb)]
        exact q
      refine ⟨_, rfl, _, rfl, _, _, rfl, rfl, _, rfl, iteDs (fun c1 => iteT ?_) (fun c1 => ?_)⟩
      · have : okB T0 n ts j = false := by
          unfold okB
          rw [decide_eq_false (by omega)]
          rfl
        exact ⟨_, rfl, rs this⟩
      refine ⟨_, rfl, _, rfl, _, _, rfl, hm.sq, _, _, rfl, rfl, _, rfl, iteDs (fun c2 => ?_) (fun c2 => ?_)⟩
      · have : okB T0 n ts j = false := by
          rw [List.length_map] at c2
          unfold okB
          rw [List.getElem?_eq_none (by omega)]
          simp
        exact ⟨_, rfl, rs this⟩
      rw [List.length_map] at c2
      have hjt : j < ts.length := by omega
      have hg := List.getElem?_eq_getElem hjt
      have ok : okB T0 n ts j = decide (0 ≤ ts[j] ∧ ts[j] < T0) := by
        unfold okB
        rw [decide_eq_true (by omega), hg]
        rfl
      have ix := at_of' e0 (show (ts.map V.int)[j]? = some (.int ts[j]) by rw [List.getElem?_map, hg]; rfl)
      refine ⟨_, rfl, _, rfl, hm.ix ix ?_⟩
      refine ⟨_, _, rfl, rfl, _, rfl, iteDs (fun c3 => iteT ?_) (fun c3 => ?_)⟩
      · exact ⟨_, rfl, rs (by rw [ok]; exact decide_eq_false (by omega))⟩
      refine ⟨_, rfl, _, rfl, hm.ix ix ?_⟩
      refine ⟨_, rfl, _, _, rfl, rfl, _, _, rfl, rfl, _, rfl, iteDs (fun c4 => ?_) (fun c4 => ?_)⟩
      · exact ⟨_, rfl, rs (by rw [ok]; exact decide_eq_false (by omega))⟩
      · refine ⟨⟨_, rfl⟩, rfl, fun i hi => ?_⟩
        by_cases e : i = j
        · rw [e, ok]
          exact decide_eq_true ⟨by omega, by omega⟩
        · exact hok i (by omega)
    · rintro σ H' ⟨⟨v3, rfl⟩, rfl, hok⟩
      rw [badV_none (bad_none fun i hi => hok i (by omega))] at q
      exact q

theorem fit_iff {l x y T : Int} {j : Nat} (hj : (j : Int) < T) : (l + (j : Int) + x - y) % T = 0 ↔ (j : Int) = (y - x - l) % T := by
  have e : l + (j : Int) + x - y = (j : Int) - (y - x - l) := by omega
  rw [e, ← Int.emod_eq_emod_iff_emod_sub_eq_zero, Int.emod_eq_of_lt (by omega) hj]
def spGone : Sp := fun vs H Q _ => ∃ (m b : Addr) (T n : Int) (ts : List Int) (sp : Sp4), vs = [.int T, .ref b, .ref m] ∧ H b = some (.tup [.int sp.1, .int sp.2.1, .int sp.2.2.1, .int sp.2.2.2]) ∧ TmAt H m ts ∧ gSp T n sp ∧ 2 ≤ T ∧ T ≤ 60 ∧ (ts.length : Int) = n ∧ ∀ H', Same H H' → Q (.int (mOn T sp ts)) H'

theorem scLgone : FnScope ["_law_length_here", "_law_span", "_law_times_here", "_law_window", "_law_fits", "_law_k", "_law_gone_here"] ["_law_length_here", "_law_span", "_law_times_here"] (defScope sLgone) := ⟨rfl, rfl, rfl, by decide +kernel, rfl, by decide +kernel, by decide +kernel⟩
theorem ok_Lgone (T : Tx K mg) : FnOk P w K mg base CX0 1 T.f_law_gone T.d_law_gone ["_law_length_here", "_law_span", "_law_times_here"] (spGone) := by
  refine T.F_law_gone.ok scLgone (fun vs H Q E h => ?_) (fun cdv A outer s H vs Q E hr h => ?_)
  · obtain ⟨m, b, T0, n, ts, sp, rfl, hb, hm, g, hT, hT2, hl, q⟩ := h
    rfl
  · obtain ⟨m, b, T0, n, ts, sp, rfl, hb, hm, g, hT, hT2, hl, q⟩ := h
    refine ⟨_, pss_cons (ps_setLc (i := 3) (own := [("_law_k", 5)]) (g := gName 5) rfl scLgone.nd rfl rfl (sw_true rfl rfl rfl (by decide +kernel)) (pi_range1 (by rfl) T.z_range (pa_cons (pv 0) pa_nil)) (blkOk_by (own := [("_law_k", 5)]) (N := ["_law_length_here", "_law_span", "_law_times_here", "_law_window", "_law_fits", "_law_k", "_law_gone_here"]) (sc := defScope sLgone) (by decide +kernel)) (fun _ _ _ _ _ => pg_name (i := 5) scLgone.nd rfl (.inl rfl)) (fun _ _ _ _ _ => pts_nil) (fun _ _ _ _ _ => (pe_op op_add (pe_ix (ix_tupK (K := K) rfl) (pv 1) pe_int (fun _ _ => rfl)) (pv 5))))
      (pss_cons (ps_setLc (i := 4) (own := [("_law_gone_here", 6)]) (g := gName 6) rfl scLgone.nd rfl rfl (sw_true rfl rfl rfl (by decide +kernel)) (pi_list (pv 3)) (blkOk_by (own := [("_law_gone_here", 6)]) (N := ["_law_length_here", "_law_span", "_law_times_here", "_law_window", "_law_fits", "_law_k", "_law_gone_here"]) (sc := defScope sLgone) (by decide +kernel)) (fun _ _ _ _ _ => pg_name (i := 6) scLgone.nd rfl (.inl rfl)) (fun _ _ _ _ _ => pts_one (pt_cmpR op_eq (pe_op op_mod (pe_callTy (T := "int") call_int1 (by rfl) T.z_int (by decide +kernel) (pa_cons (pe_op op_sub (pe_op op_add (pv 6) (pe_ix (ix_seqK (K := K) rfl) (pv 2) (pe_ix (ix_tupK (K := K) rfl) (pv 1) pe_int (fun _ _ => rfl)) (fun _ _ => rfl))) (pe_ix (ix_seqK (K := K) rfl) (pv 2) (pe_ix (ix_tupK (K := K) rfl) (pv 1) pe_int (fun _ _ => rfl)) (fun _ _ => rfl))) pa_nil)) (pv 0)) pe_int (nomark _))) (fun _ _ _ _ _ => (pv 6)))
      (pss_one (ps_ret (pe_ix ix_list (pv 4) pe_int (fun _ _ => rfl))))), ?_⟩
    obtain ⟨g1, g2, g3, g4, g5, g6, g7, g8, g9⟩ := g
    refine ⟨_, rfl, _, rfl, (by and_intros), (by and_intros), fun D nD => lc_range (lo := 0) (n := T0.toNat) (fun j H' => H' D = some (.lst (List.map (fun i : Nat => V.int (sp.2.2.1 + (i : Int))) (List.range j))) ∧ Same H H') ⟨upd_same, same_upd nD⟩ ?_ ?_⟩
    · rintro j H' hj ⟨hD, s0⟩
      refine ⟨rfl, keepT ?_⟩
      refine ⟨_, rfl, _, _, _, _, rfl, rfl, SqT.of (s0 _ _ hb), atI_nat (j := 2) rfl, _, rfl, _, _, rfl, rfl, ?_⟩
      refine ⟨_, hD, by rw [List.length_map, List.length_range, sizeLine_eq]; omega, ?_, SX.Same.put s0 nD⟩
      rw [upd_same, List.range_succ, List.map_append]
      simp
    rintro H1 ⟨hD1, s1⟩
    have hm1 := hm.same s1
    have hb1 := s1 _ _ hb
    obtain ⟨r, hr0, hr1, hr2⟩ : ∃ r : Nat, (r : Int) = (ts.getD sp.2.1.toNat 0 - ts.getD sp.1.toNat 0 - sp.2.2.1) % T0 ∧ r < T0.toNat ∧ mOn T0 sp ts = sp.2.2.1 + (r : Int) := by
      have a := Int.emod_nonneg (ts.getD sp.2.1.toNat 0 - ts.getD sp.1.toNat 0 - sp.2.2.1) (show T0 ≠ 0 by omega)
      have b := Int.emod_lt_of_pos (ts.getD sp.2.1.toNat 0 - ts.getD sp.1.toNat 0 - sp.2.2.1) (show 0 < T0 by omega)
      refine ⟨((ts.getD sp.2.1.toNat 0 - ts.getD sp.1.toNat 0 - sp.2.2.1) % T0).toNat, by omega, by omega, ?_⟩
      unfold mOn
      omega
    refine ⟨_, rfl, _, rfl, ⟨_, SqL.of hD1⟩, fun F nF => lc_list (K := K) (a := D) (xs := List.map (fun i : Nat => V.int (sp.2.2.1 + (i : Int))) (List.range T0.toNat)) (fun j H' => H' F = some (.lst (if r < j then [V.int (mOn T0 sp ts)] else [])) ∧ Same H1 H') ⟨by rw [upd_same, if_neg (by omega)], same_upd nF⟩ (fun j H' _ h => SqL.of (h.2 _ _ hD1)) ?_ ?_⟩
    · rintro j y H' hy ⟨hF, s2⟩
      have hj : j < T0.toNat := by
        have := (List.getElem?_eq_some_iff.mp hy).1
        simpa using this
      obtain rfl : V.int (sp.2.2.1 + (j : Int)) = y := by
        rw [List.getElem?_map, List.getElem?_range hj] at hy
        exact Option.some.inj hy
      have hm2 := hm1.same s2
      have hb2 := s2 _ _ hb1
      refine ⟨rfl, ?_⟩
      refine ⟨_, rfl, _, rfl, _, rfl, _, _, _, _, rfl, rfl, SqT.of hb2, atI_nat (j := 0) rfl, hm2.ix (at_get g1 (by omega)) ?_⟩
      refine ⟨_, _, rfl, rfl, _, rfl, _, rfl, _, _, _, _, rfl, rfl, SqT.of hb2, atI_nat (j := 1) rfl, hm2.ix (at_get g3 (by omega)) ?_⟩
      refine ⟨_, _, rfl, rfl, .inl ⟨_, rfl, _, rfl, _, _, rfl, rfl, (show 0 < T0 by omega), ?_⟩⟩
      refine ⟨rfl, _, rfl, iteDs (fun c => ?_) (fun c => ?_)⟩
      · have ej : j = r := by
          have c' := (fit_iff (by omega)).mp (V.int.inj c)
          omega
        subst ej
        rw [if_neg (by omega)] at hF
        refine ⟨_, rfl, _, hF, by decide, ?_, SX.Same.put s2 nF⟩
        rw [upd_same, if_pos (by omega), hr2]
        rfl
      · have ej : j ≠ r := fun e => c (by
          exact congrArg V.int ((fit_iff (by omega)).mpr (by rw [e]; exact hr0)))
        refine ⟨?_, s2⟩
        by_cases h : r < j
        · rw [if_pos h] at hF
          rw [if_pos (by omega)]
          exact hF
        · rw [if_neg h] at hF
          rw [if_neg (by omega)]
          exact hF
    rintro H2 ⟨hF, s2⟩
    rw [List.length_map, List.length_range, if_pos hr1] at hF
    exact ⟨_, rfl, _, _, _, _, rfl, rfl, SqL.of hF, atI_nat (j := 0) rfl, q _ (s1.trans s2)⟩
end
end DD
end
section
open PySem PySem.Spec PyProof.Rows L2 KO SX
local macro_rules | `(tactic| ac_rfl) => `(tactic| with_reducible first
  | assumption
  | exact upd_same
  | (apply upd_get; ac_rfl; assumption)
  | (apply Run.get; assumption; ac_rfl; ac_rfl)
  | (apply Same.get; assumption; ac_rfl)
  | (apply SqL.of; ac_rfl)
  | (apply SqT.of; ac_rfl)
  | (apply Or.inl; apply SqL.of; ac_rfl)
  | (apply Or.inr; apply SqT.of; ac_rfl)
  | (apply Pool.ne'; assumption; ac_rfl)
  | (apply Pool.te'; assumption; ac_rfl)
  | (apply Pool.ie'; assumption; ac_rfl)
  | (apply Pool.run; assumption)
  | (apply Pool.upd; ac_rfl; ac_rfl)
  | (apply Pool.same'; assumption; ac_rfl))
local macro_rules | `(tactic| infer_instance) => `(tactic| with_reducible first
  | assumption
  | (apply Run.upd'; assumption; infer_instance)
  | (apply Run.put; infer_instance; (apply Run.free'; assumption; infer_instance); ac_rfl)
  | (apply Run.flip; assumption; infer_instance)
  | (apply Run.add'; assumption; infer_instance)
  | (apply Run.nil; ac_rfl))
local macro_rules | `(tactic| and_intros) => `(tactic| first
  | omega
  | (refine ⟨by omega, by omega, fun _ => by omega⟩)
  | rfl
  | (intro h; injection h; omega)
  | (apply congrArg V.int; omega)
  | (intro h; cases h; done)
  | (simp only [List.length_cons, List.length_nil, sizeLine_eq]; omega)
  | (simp only [List.length_map, List.length_cons, List.length_nil] at *; omega)
  | decide
  | (apply add_le; exfalso; exfalso; simp [sizeLine_eq]; done))
local macro_rules | `(tactic| trivial) => `(tactic| first
  | exact AllI.of _
  | exact AllI.nil
  | exact AllI.one _
  | (apply AllI.cut; trivial)
  | (apply AllI.app; trivial; trivial)
  | (apply AllI.set; trivial))
local macro_rules | `(tactic| exfalso) => `(tactic| first
  | assumption
  | exact one_le
  | (apply cut_le; exfalso)
  | (apply app_le; exfalso; exfalso)
  | (apply set_le; exfalso)
  | (apply map_le; exfalso))
local macro_rules | `(tactic| symm_saturate) => `(tactic| first
  | exact .inl ⟨by omega, by omega⟩
  | exact .inr ⟨by omega, by omega⟩)
local macro_rules | `(tactic| nofun) => `(tactic| first
  | assumption
  | (apply ixN_of; omega; (first | omega | (simp only [List.length_append, List.length_cons, List.length_nil]; omega)))
  | (apply ixN_of; (simp only [List.length_append, List.length_cons, List.length_nil]; omega); (simp only [List.length_append, List.length_cons, List.length_nil]; omega)))
local macro_rules | `(tactic| rfl') => `(tactic| first
  | assumption
  | rfl)
namespace DD
open PySem PySem.Spec PyProof.Rows L2 KO SX
section
variable {P : Program} {w : World} {K : PySem.W.Frag} {mg : Str → Option Value} {base : Heap}
theorem excC_BadNet (T : Tx K mg) : ExcC K T.C_BadNet := ⟨T.ga_BadNet, T.gg_BadNet, T.bs_BadNet, T.hd_BadNet, T.cl_BadNet, T.sp_class, T.tk_class, T.mr_BadNet⟩
theorem xfC_BadNet (T : Tx K mg) : XfC K T.C_BadNet := ⟨T.ga_BadNet, T.gg_BadNet, T.bs_BadNet, T.hd_BadNet⟩
theorem exm_BadNet_BadTimes (T : Tx K mg) : PySem.W.exmOne K (.ref T.C_BadNet) (.ref T.C_BadTimes) = some false := PySem.W.exm_ref T.bs_BadTimes T.hd_BadTimes T.ty_BadTimes T.sb_BadNet_BadTimes
theorem exm_BadNet_DepotError (T : Tx K mg) : PySem.W.exmOne K (.ref T.C_BadNet) (.ref T.C_DepotError) = some true := PySem.W.exm_ref T.bs_DepotError T.hd_DepotError T.ty_DepotError T.sb_BadNet_DepotError
theorem exm_BadNet_UnknownSpan (T : Tx K mg) : PySem.W.exmOne K (.ref T.C_BadNet) (.ref T.C_UnknownSpan) = some false := PySem.W.exm_ref T.bs_UnknownSpan T.hd_UnknownSpan T.ty_UnknownSpan T.sb_BadNet_UnknownSpan
theorem excC_BadTimes (T : Tx K mg) : ExcC K T.C_BadTimes := ⟨T.ga_BadTimes, T.gg_BadTimes, T.bs_BadTimes, T.hd_BadTimes, T.cl_BadTimes, T.sp_class, T.tk_class, T.mr_BadTimes⟩
theorem xfC_BadTimes (T : Tx K mg) : XfC K T.C_BadTimes := ⟨T.ga_BadTimes, T.gg_BadTimes, T.bs_BadTimes, T.hd_BadTimes⟩
theorem kit_BadTimes_VE (T : Tx K mg) : PySem.W.kitOne K (.ref T.C_BadTimes) (.type "ValueError") = some true := kit_oty (by decide +kernel) T.sb_BadTimes_ValueError
theorem exm_BadTimes_BadTimes (T : Tx K mg) : PySem.W.exmOne K (.ref T.C_BadTimes) (.ref T.C_BadTimes) = some true := PySem.W.exm_ref T.bs_BadTimes T.hd_BadTimes T.ty_BadTimes T.sb_BadTimes_BadTimes
theorem kit_BadTimes_BadTimes (T : Tx K mg) : PySem.W.kitOne K (.ref T.C_BadTimes) (.ref T.C_BadTimes) = some true := kit_ref T.sb_BadTimes_BadTimes T.sb_BadTimes_BadTimes T.hd_BadTimes T.ty_BadTimes
theorem exm_BadTimes_DepotError (T : Tx K mg) : PySem.W.exmOne K (.ref T.C_BadTimes) (.ref T.C_DepotError) = some true := PySem.W.exm_ref T.bs_DepotError T.hd_DepotError T.ty_DepotError T.sb_BadTimes_DepotError
theorem kit_BadTimes_DepotError (T : Tx K mg) : PySem.W.kitOne K (.ref T.C_BadTimes) (.ref T.C_DepotError) = some true := kit_ref T.sb_BadTimes_BadTimes T.sb_BadTimes_DepotError T.hd_DepotError T.ty_DepotError
theorem exm_BadTimes_UnknownSpan (T : Tx K mg) : PySem.W.exmOne K (.ref T.C_BadTimes) (.ref T.C_UnknownSpan) = some false := PySem.W.exm_ref T.bs_UnknownSpan T.hd_UnknownSpan T.ty_UnknownSpan T.sb_BadTimes_UnknownSpan
theorem kit_BadTimes_UnknownSpan (T : Tx K mg) : PySem.W.kitOne K (.ref T.C_BadTimes) (.ref T.C_UnknownSpan) = some false := kit_ref T.sb_BadTimes_BadTimes T.sb_BadTimes_UnknownSpan T.hd_UnknownSpan T.ty_UnknownSpan
theorem excC_UnknownSpan (T : Tx K mg) : ExcC K T.C_UnknownSpan := ⟨T.ga_UnknownSpan, T.gg_UnknownSpan, T.bs_UnknownSpan, T.hd_UnknownSpan, T.cl_UnknownSpan, T.sp_class, T.tk_class, T.mr_UnknownSpan⟩
theorem xfC_UnknownSpan (T : Tx K mg) : XfC K T.C_UnknownSpan := ⟨T.ga_UnknownSpan, T.gg_UnknownSpan, T.bs_UnknownSpan, T.hd_UnknownSpan⟩
theorem kit_UnknownSpan_VE (T : Tx K mg) : PySem.W.kitOne K (.ref T.C_UnknownSpan) (.type "ValueError") = some true := kit_oty (by decide +kernel) T.sb_UnknownSpan_ValueError
theorem exm_UnknownSpan_BadTimes (T : Tx K mg) : PySem.W.exmOne K (.ref T.C_UnknownSpan) (.ref T.C_BadTimes) = some false := PySem.W.exm_ref T.bs_BadTimes T.hd_BadTimes T.ty_BadTimes T.sb_UnknownSpan_BadTimes
theorem kit_UnknownSpan_BadTimes (T : Tx K mg) : PySem.W.kitOne K (.ref T.C_UnknownSpan) (.ref T.C_BadTimes) = some false := kit_ref T.sb_UnknownSpan_UnknownSpan T.sb_UnknownSpan_BadTimes T.hd_BadTimes T.ty_BadTimes
theorem exm_UnknownSpan_DepotError (T : Tx K mg) : PySem.W.exmOne K (.ref T.C_UnknownSpan) (.ref T.C_DepotError) = some true := PySem.W.exm_ref T.bs_DepotError T.hd_DepotError T.ty_DepotError T.sb_UnknownSpan_DepotError
theorem kit_UnknownSpan_DepotError (T : Tx K mg) : PySem.W.kitOne K (.ref T.C_UnknownSpan) (.ref T.C_DepotError) = some true := kit_ref T.sb_UnknownSpan_UnknownSpan T.sb_UnknownSpan_DepotError T.hd_DepotError T.ty_DepotError
theorem exm_UnknownSpan_UnknownSpan (T : Tx K mg) : PySem.W.exmOne K (.ref T.C_UnknownSpan) (.ref T.C_UnknownSpan) = some true := PySem.W.exm_ref T.bs_UnknownSpan T.hd_UnknownSpan T.ty_UnknownSpan T.sb_UnknownSpan_UnknownSpan
theorem kit_UnknownSpan_UnknownSpan (T : Tx K mg) : PySem.W.kitOne K (.ref T.C_UnknownSpan) (.ref T.C_UnknownSpan) = some true := kit_ref T.sb_UnknownSpan_UnknownSpan T.sb_UnknownSpan_UnknownSpan T.hd_UnknownSpan T.ty_UnknownSpan

/-- what is told of the times -/
def Told (H H' : Hp) (T n : Int) (ts : List Int) (v : V) (R : V → Hp → Prop) : Prop := Same H H' ∧ match bad T n ts with
  | some k => Tq 2 H' v (.tuple [.str "bad times", .int k, .bool true, .bool true, .bool false])
  | none => ∃ t x, v = .ref t ∧ H' t = some (.tup [.str "returned", x]) ∧ R x H'
def spCkTold (C : Addr) : Sp := fun vs H Q _ => ∃ (a m : Addr) (T n : Int) (sps : List Sp4) (ts : List Int), vs = [.ref a, .ref m] ∧ NetAt C H a T n sps ∧ TmAt H m ts ∧ ts.length ≤ 1000 ∧ 0 ≤ n ∧ n ≤ 12 ∧ ∀ H' v, Told H H' T n ts v (fun x _ => x = .non) → Q v H'

theorem scLchecktold : FnScope ["_law_net", "_law_times_here", "_law_told", "_law_got", "e"] ["_law_net", "_law_times_here"] (defScope sLchecktold) := ⟨rfl, rfl, rfl, by decide +kernel, rfl, by decide +kernel, by decide +kernel⟩
theorem ok_Lchecktold (T : Tx K mg) : FnOk P w K mg base CX0 5 T.f_law_check_told T.d_law_check_told ["_law_net", "_law_times_here"] (spCkTold T.C_Net) := by
  have Gcheck_times := (ok_checktimes (P := P) (w := w) (base := base) T)
  refine T.F_law_check_told.ok scLchecktold (fun vs H Q E h => ?_) (fun cdv A outer s H vs Q E hr h => ?_)
  · obtain ⟨a, m, T0, n, sps, ts, rfl, hN, hm, hz, hn, hn2, q⟩ := h
    rfl
  · obtain ⟨a, m, T0, n, sps, ts, rfl, hN, hm, hz, hn, hn2, q⟩ := h
    have h3 : Room 3 _ := hr.mono (by decide)
    refine ⟨_, pss_cons (ps_set (i := 2) scLchecktold.nd rfl (.inl rfl) pe_non)
      (pss_cons (ps_set (i := 3) scLchecktold.nd rfl (.inl rfl) pe_non)
      (pss_cons (ps_try_as (i := 4) (Wout := fun _ _ _ _ => False) rfl rfl scLchecktold.nd rfl rfl ⟨rfl, by decide, .inl T.g_BadTimes⟩ takes0
        (fun W pn xe tk po => pss_one (ps_set (i := 3) scLchecktold.nd rfl (.inl rfl) (by exact (pe_callS Gcheck_times h3 (by rfl) T.gcheck_times T.Fcheck_times.kp T.bcheck_times (fun σ => passAt tk σ) (by exact (pa_cons (pv 0) (pa_cons (pv 1) pa_nil)))))))
        (fun a oe cls d pn hz hf => pss_one (ps_set (i := 2) scLchecktold.nd rfl (.inl rfl) (pe_tup (pa_cons pe_str (pa_cons (pe_xf (xfC_BadTimes T) T.no_BadTimes_place hz hf (pv 4)) (pa_cons (pe_callB (call_isD (excC_BadTimes T) hz hf) (by rfl) T.z_isinstance (by decide +kernel) (pa_cons (pv 4) (pa_cons (pe_glob (v := .ref T.C_DepotError) rfl T.g_DepotError rfl) pa_nil))) (pa_cons (pe_callB (call_isD (excC_BadTimes T) hz hf) (by rfl) T.z_isinstance (by decide +kernel) (pa_cons (pv 4) (pa_cons (pe_bltn (v := .ty "ValueError") (by rfl) T.z_ValueError (by decide +kernel) rfl) pa_nil))) (pa_cons (pe_callB (call_isD (excC_BadTimes T) hz hf) (by rfl) T.z_isinstance (by decide +kernel) (pa_cons (pv 4) (pa_cons (pe_glob (v := .ref T.C_UnknownSpan) rfl T.g_UnknownSpan rfl) pa_nil))) pa_nil)))))))))
      (pss_cons (ps_if (pt_cmpR op_isN (pv 2) pe_non (nomark _)) (pss_one (ps_set (i := 2) scLchecktold.nd rfl (.inl rfl) (pe_tup (pa_cons pe_str (pa_cons (pv 3) pa_nil))))) (pss_nil))
      (pss_one (ps_ret (pv 2)))))), ?_⟩
    refine ⟨_, rfl, _, rfl, a, m, T0, n, sps, ts, rfl, hN, hm, hz, hn, hn2, fun hb => ?_, fun k hk d nd => ?_⟩
    · refine ⟨_, rfl, rfl, _, rfl, iteDT rfl ?_⟩
      refine ⟨_, rfl, (by and_intros), fun t nt => ?_⟩
      refine ⟨_, rfl, q _ _ ⟨same_upd nt, ?_⟩⟩
      rw [hb]
      exact ⟨t, .non, rfl, upd_same, rfl⟩
    · refine ⟨true, exm_BadTimes_BadTimes T, fun _ a0 ha0 => ?_, fun z => Bool.noConfusion z⟩
      refine ⟨_, rfl, rfl, rfl, _, _, _, rfl, upd_same, rfl, ?_⟩
      refine ⟨_, rfl, rfl, _, _, rfl, upd_same, _, _, _, rfl, fun u r => r, kit_BadTimes_DepotError T, ?_⟩
      refine ⟨_, rfl, rfl, _, _, rfl, upd_same, _, _, _, rfl, fun u r => r, kit_BadTimes_VE T, ?_⟩
      refine ⟨_, rfl, rfl, _, _, rfl, upd_same, _, _, _, rfl, fun u r => r, kit_BadTimes_UnknownSpan T, ?_⟩
      refine ⟨(by and_intros), fun t nt => ?_⟩
      refine ⟨_, rfl, rfl, _, rfl, iteD (by intro z; cases z) ?_⟩
      refine ⟨_, rfl, q _ _ ⟨SX.Same.put (same_upd nd) (L2.Same.free (same_upd nd) nt), ?_⟩⟩
      rw [hk]
      exact TqA.tup (.cons rfl (.cons rfl (.cons rfl (.cons rfl (.cons rfl .nil))))) upd_same (by simp)
end
end DD
end
section
open PySem PySem.Spec PyProof.Rows L2 KO SX
local macro_rules | `(tactic| ac_rfl) => `(tactic| with_reducible first
  | assumption
  | exact upd_same
  | (apply upd_get; ac_rfl; assumption)
  | (apply Run.get; assumption; ac_rfl; ac_rfl)
  | (apply Same.get; assumption; ac_rfl)
  | (apply SqL.of; ac_rfl)
  | (apply SqT.of; ac_rfl)
  | (apply Or.inl; apply SqL.of; ac_rfl)
  | (apply Or.inr; apply SqT.of; ac_rfl)
  | (apply Pool.ne'; assumption; ac_rfl)
  | (apply Pool.te'; assumption; ac_rfl)
  | (apply Pool.ie'; assumption; ac_rfl)
  | (apply Pool.run; assumption)
  | (apply Pool.upd; ac_rfl; ac_rfl)
  | (apply Pool.same'; assumption; ac_rfl))
local macro_rules | `(tactic| infer_instance) => `(tactic| with_reducible first
  | assumption
  | (apply Run.upd'; assumption; infer_instance)
  | (apply Run.put; infer_instance; (apply Run.free'; assumption; infer_instance); ac_rfl)
  | (apply Run.flip; assumption; infer_instance)
  | (apply Run.add'; assumption; infer_instance)
  | (apply Run.nil; ac_rfl))
local macro_rules | `(tactic| and_intros) => `(tactic| first
  | omega
  | (refine ⟨by omega, by omega, fun _ => by omega⟩)
  | rfl
  | (intro h; injection h; omega)
  | (apply congrArg V.int; omega)
  | (intro h; cases h; done)
  | (simp only [List.length_cons, List.length_nil, sizeLine_eq]; omega)
  | (simp only [List.length_map, List.length_cons, List.length_nil] at *; omega)
  | decide
  | (apply add_le; exfalso; exfalso; simp [sizeLine_eq]; done))
local macro_rules | `(tactic| trivial) => `(tactic| first
  | exact AllI.of _
  | exact AllI.nil
  | exact AllI.one _
  | (apply AllI.cut; trivial)
  | (apply AllI.app; trivial; trivial)
  | (apply AllI.set; trivial))
local macro_rules | `(tactic| exfalso) => `(tactic| first
  | assumption
  | exact one_le
  | (apply cut_le; exfalso)
  | (apply app_le; exfalso; exfalso)
  | (apply set_le; exfalso)
  | (apply map_le; exfalso))
local macro_rules | `(tactic| symm_saturate) => `(tactic| first
  | exact .inl ⟨by omega, by omega⟩
  | exact .inr ⟨by omega, by omega⟩)
local macro_rules | `(tactic| nofun) => `(tactic| first
  | assumption
  | (apply ixN_of; omega; (first | omega | (simp only [List.length_append, List.length_cons, List.length_nil]; omega)))
  | (apply ixN_of; (simp only [List.length_append, List.length_cons, List.length_nil]; omega); (simp only [List.length_append, List.length_cons, List.length_nil]; omega)))
local macro_rules | `(tactic| rfl') => `(tactic| first
  | assumption
  | rfl)
namespace DD
open PySem PySem.Spec PyProof.Rows L2 KO SX
section
variable {P : Program} {w : World} {K : PySem.W.Frag} {mg : Str → Option Value} {base : Heap}
def spBrTold (C : Addr) : Sp := fun vs H Q _ => ∃ (a m : Addr) (T n : Int) (sps : List Sp4) (ts : List Int), vs = [.ref a, .ref m] ∧ NetAt C H a T n sps ∧ TmAt H m ts ∧ ts.length ≤ 1000 ∧ sps.length ≤ 1000 ∧ 0 ≤ n ∧ n ≤ 12 ∧ 2 ≤ T ∧ (∀ s ∈ sps, gSp T n s) ∧ ∀ H' v, Told H H' T n ts v (fun x H' => ∃ b, x = .ref b ∧ H b = none ∧ H' b = some (.lst ((over T sps ts sps.length).map V.int))) → Q v H'

theorem scLbrokentold : FnScope ["_law_net", "_law_times_here", "_law_told", "_law_got", "e"] ["_law_net", "_law_times_here"] (defScope sLbrokentold) := ⟨rfl, rfl, rfl, by decide +kernel, rfl, by decide +kernel, by decide +kernel⟩
theorem ok_Lbrokentold (T : Tx K mg) : FnOk P w K mg base CX0 6 T.f_law_broken_told T.d_law_broken_told ["_law_net", "_law_times_here"] (spBrTold T.C_Net) := by
  have Gbroken := (ok_broken (P := P) (w := w) (base := base) T)
  refine T.F_law_broken_told.ok scLbrokentold (fun vs H Q E h => ?_) (fun cdv A outer s H vs Q E hr h => ?_)
  · obtain ⟨a, m, T0, n, sps, ts, rfl, hN, hm, hz, hz2, hn, hn2, hT, hg, q⟩ := h
    rfl
  · obtain ⟨a, m, T0, n, sps, ts, rfl, hN, hm, hz, hz2, hn, hn2, hT, hg, q⟩ := h
    have h3 : Room 4 _ := hr.mono (by decide)
    refine ⟨_, pss_cons (ps_set (i := 2) scLbrokentold.nd rfl (.inl rfl) pe_non)
      (pss_cons (ps_set (i := 3) scLbrokentold.nd rfl (.inl rfl) pe_non)
      (pss_cons (ps_try_as (i := 4) (Wout := fun _ _ _ _ => False) rfl rfl scLbrokentold.nd rfl rfl ⟨rfl, by decide, .inl T.g_BadTimes⟩ takes0
        (fun W pn xe tk po => pss_one (ps_set (i := 3) scLbrokentold.nd rfl (.inl rfl) (by exact (pe_callS Gbroken h3 (by rfl) T.gbroken T.Fbroken.kp T.bbroken (fun σ => passAt tk σ) (by exact (pa_cons (pv 0) (pa_cons (pv 1) pa_nil)))))))
        (fun a oe cls d pn hz hf => pss_one (ps_set (i := 2) scLbrokentold.nd rfl (.inl rfl) (pe_tup (pa_cons pe_str (pa_cons (pe_xf (xfC_BadTimes T) T.no_BadTimes_place hz hf (pv 4)) (pa_cons (pe_callB (call_isD (excC_BadTimes T) hz hf) (by rfl) T.z_isinstance (by decide +kernel) (pa_cons (pv 4) (pa_cons (pe_glob (v := .ref T.C_DepotError) rfl T.g_DepotError rfl) pa_nil))) (pa_cons (pe_callB (call_isD (excC_BadTimes T) hz hf) (by rfl) T.z_isinstance (by decide +kernel) (pa_cons (pv 4) (pa_cons (pe_bltn (v := .ty "ValueError") (by rfl) T.z_ValueError (by decide +kernel) rfl) pa_nil))) (pa_cons (pe_callB (call_isD (excC_BadTimes T) hz hf) (by rfl) T.z_isinstance (by decide +kernel) (pa_cons (pv 4) (pa_cons (pe_glob (v := .ref T.C_UnknownSpan) rfl T.g_UnknownSpan rfl) pa_nil))) pa_nil)))))))))
      (pss_cons (ps_if (pt_cmpR op_isN (pv 2) pe_non (nomark _)) (pss_one (ps_set (i := 2) scLbrokentold.nd rfl (.inl rfl) (pe_tup (pa_cons pe_str (pa_cons (pv 3) pa_nil))))) (pss_nil))
      (pss_one (ps_ret (pv 2)))))), ?_⟩
    refine ⟨_, rfl, _, rfl, a, m, T0, n, sps, ts, rfl, hN, hm, hz, hz2, hn, hn2, hT, hg, fun hb H1 b nb s1 hb1 => ?_, fun k hk d nd => ?_⟩
    · refine ⟨_, rfl, rfl, _, rfl, iteDT rfl ?_⟩
      refine ⟨_, rfl, (by and_intros), fun t nt => ?_⟩
      refine ⟨_, rfl, q _ _ ⟨SX.Same.put s1 (L2.Same.free s1 nt), ?_⟩⟩
      rw [hb]
      exact ⟨t, _, rfl, upd_same, b, rfl, nb, upd_get hb1 nt⟩
    · refine ⟨true, exm_BadTimes_BadTimes T, fun _ a0 ha0 => ?_, fun z => Bool.noConfusion z⟩
      refine ⟨_, rfl, rfl, rfl, _, _, _, rfl, upd_same, rfl, ?_⟩
      refine ⟨_, rfl, rfl, _, _, rfl, upd_same, _, _, _, rfl, fun u r => r, kit_BadTimes_DepotError T, ?_⟩
      refine ⟨_, rfl, rfl, _, _, rfl, upd_same, _, _, _, rfl, fun u r => r, kit_BadTimes_VE T, ?_⟩
      refine ⟨_, rfl, rfl, _, _, rfl, upd_same, _, _, _, rfl, fun u r => r, kit_BadTimes_UnknownSpan T, ?_⟩
      refine ⟨(by and_intros), fun t nt => ?_⟩
      refine ⟨_, rfl, rfl, _, rfl, iteD (by intro z; cases z) ?_⟩
      refine ⟨_, rfl, q _ _ ⟨SX.Same.put (same_upd nd) (L2.Same.free (same_upd nd) nt), ?_⟩⟩
      rw [hk]
      exact TqA.tup (.cons rfl (.cons rfl (.cons rfl (.cons rfl (.cons rfl .nil))))) upd_same (by simp)

def pTold (T n : Int) (sps : List Sp4) (ts : List Int) (i : Int) : PyData := match bad T n ts with
  | some k => .tuple [.str "bad times", .int k, .bool true, .bool true, .bool false]
  | none => if 0 ≤ i ∧ i < sps.length then .tuple [.str "returned", .int (goneI T sps ts i.toNat)] else .tuple [.str "unknown", .int i, .bool true, .bool true, .bool false]
def spPsTold (C : Addr) : Sp := fun vs H Q _ => ∃ (a m : Addr) (i : Int) (T n : Int) (sps : List Sp4) (ts : List Int), vs = [.ref a, .ref m, .int i] ∧ NetAt C H a T n sps ∧ TmAt H m ts ∧ ts.length ≤ 1000 ∧ 0 ≤ n ∧ n ≤ 12 ∧ 2 ≤ T ∧ (∀ s ∈ sps, gSp T n s) ∧ ∀ H' v, Same H H' → Tq 2 H' v (pTold T n sps ts i) → Q v H'

theorem scLpassedtold : FnScope ["_law_net", "_law_times_here", "_law_number", "_law_told", "_law_got", "e", "why", "_law_kinds"] ["_law_net", "_law_times_here", "_law_number"] (defScope sLpassedtold) := ⟨rfl, rfl, rfl, by decide +kernel, rfl, by decide +kernel, by decide +kernel⟩
theorem ok_Lpassedtold (T : Tx K mg) : FnOk P w K mg base CX0 6 T.f_law_passed_told T.d_law_passed_told ["_law_net", "_law_times_here", "_law_number"] (spPsTold T.C_Net) := by
  have Gpassed := (ok_passed (P := P) (w := w) (base := base) T)
  refine T.F_law_passed_told.ok scLpassedtold (fun vs H Q E h => ?_) (fun cdv A outer s H vs Q E hr h => ?_)
  · obtain ⟨a, m, i, T0, n, sps, ts, rfl, hN, hm, hz, hn, hn2, hT, hg, q⟩ := h
    rfl
  · obtain ⟨a, m, i, T0, n, sps, ts, rfl, hN, hm, hz, hn, hn2, hT, hg, q⟩ := h
    have h3 : Room 4 _ := hr.mono (by decide)
    refine ⟨_, pss_cons (ps_set (i := 3) scLpassedtold.nd rfl (.inl rfl) pe_non)
      (pss_cons (ps_set (i := 4) scLpassedtold.nd rfl (.inl rfl) pe_non)
      (pss_cons (ps_try_manyA (Wout := fun _ _ _ _ => False) rfl rfl scLpassedtold.nd takes0
        (fun W pn xe tk po => pss_one (ps_set (i := 4) scLpassedtold.nd rfl (.inl rfl) (by exact (pe_callS Gpassed h3 (by rfl) T.gpassed T.Fpassed.kp T.bpassed (fun σ => passAt tk σ) (by exact (pa_cons (pv 0) (pa_cons (pv 1) (pa_cons (pv 2) pa_nil))))))))
        (.cons (i := 5) rfl rfl ⟨rfl, by decide, .inl T.g_BadTimes⟩ (fun a oe cls d pn hz hf => pss_one (ps_set (i := 3) scLpassedtold.nd rfl (.inl rfl) (pe_tup (pa_cons pe_str (pa_cons (pe_xf (xfC_BadTimes T) T.no_BadTimes_place hz hf (pv 5)) (pa_cons (pe_callB (call_isD (excC_BadTimes T) hz hf) (by rfl) T.z_isinstance (by decide +kernel) (pa_cons (pv 5) (pa_cons (pe_glob (v := .ref T.C_DepotError) rfl T.g_DepotError rfl) pa_nil))) (pa_cons (pe_callB (call_isD (excC_BadTimes T) hz hf) (by rfl) T.z_isinstance (by decide +kernel) (pa_cons (pv 5) (pa_cons (pe_bltn (v := .ty "ValueError") (by rfl) T.z_ValueError (by decide +kernel) rfl) pa_nil))) (pa_cons (pe_callB (call_isD (excC_BadTimes T) hz hf) (by rfl) T.z_isinstance (by decide +kernel) (pa_cons (pv 5) (pa_cons (pe_glob (v := .ref T.C_UnknownSpan) rfl T.g_UnknownSpan rfl) pa_nil))) pa_nil)))))))) (.cons (i := 6) rfl rfl ⟨rfl, by decide, .inl T.g_UnknownSpan⟩ (fun a oe cls d pn hz hf => pss_cons (ps_set (i := 7) scLpassedtold.nd rfl (.inl rfl) (pe_tup (pa_cons (pe_callB (call_isD (excC_UnknownSpan T) hz hf) (by rfl) T.z_isinstance (by decide +kernel) (pa_cons (pv 6) (pa_cons (pe_glob (v := .ref T.C_DepotError) rfl T.g_DepotError rfl) pa_nil))) (pa_cons (pe_callB (call_isD (excC_UnknownSpan T) hz hf) (by rfl) T.z_isinstance (by decide +kernel) (pa_cons (pv 6) (pa_cons (pe_bltn (v := .ty "ValueError") (by rfl) T.z_ValueError (by decide +kernel) rfl) pa_nil))) (pa_cons (pe_callB (call_isD (excC_UnknownSpan T) hz hf) (by rfl) T.z_isinstance (by decide +kernel) (pa_cons (pv 6) (pa_cons (pe_glob (v := .ref T.C_BadTimes) rfl T.g_BadTimes rfl) pa_nil))) pa_nil)))))
      (pss_one (ps_set (i := 3) scLpassedtold.nd rfl (.inl rfl) (pe_op (op_catTK (K := K) rfl) (pe_tup (pa_cons pe_str (pa_cons (pe_xf (xfC_UnknownSpan T) T.no_UnknownSpan_number hz hf (pv 6)) pa_nil))) (pv 7))))) .nil)))
      (pss_cons (ps_if (pt_cmpR op_isN (pv 3) pe_non (nomark _)) (pss_one (ps_set (i := 3) scLpassedtold.nd rfl (.inl rfl) (pe_tup (pa_cons pe_str (pa_cons (pv 4) pa_nil))))) (pss_nil))
      (pss_one (ps_ret (pv 3)))))), ?_⟩
    refine ⟨_, rfl, _, rfl, _, rfl, a, m, i, T0, n, sps, ts, rfl, hN, hm, hz, hn, hn2, hT, hg, fun hb => ⟨fun hi => ?_, fun hi d nd => ?_⟩, fun k hk d nd => ?_⟩
    · have ep : pTold T0 n sps ts i = .tuple [.str "returned", .int (goneI T0 sps ts i.toNat)] := by unfold pTold; rw [hb]; exact if_pos hi
      refine ⟨_, rfl, rfl, _, rfl, iteDT rfl ?_⟩
      refine ⟨_, rfl, (by and_intros), fun t nt => ?_⟩
      refine ⟨_, rfl, q _ _ (same_upd nt) ?_⟩
      rw [ep]
      exact TqA.tup (.cons rfl (.cons rfl .nil)) upd_same (by simp)
    · have ep : pTold T0 n sps ts i = .tuple [.str "unknown", .int i, .bool true, .bool true, .bool false] := by unfold pTold; rw [hb]; exact if_neg hi
      refine ⟨false, exm_UnknownSpan_BadTimes T, fun z => Bool.noConfusion z, fun _ => ⟨true, exm_UnknownSpan_UnknownSpan T, fun _ a0 ha0 => ?_, fun z => Bool.noConfusion z⟩⟩
      refine ⟨_, rfl, rfl, _, _, rfl, upd_same, _, _, _, rfl, fun u r => r, kit_UnknownSpan_DepotError T, ?_⟩
      refine ⟨_, rfl, rfl, _, _, rfl, upd_same, _, _, _, rfl, fun u r => r, kit_UnknownSpan_VE T, ?_⟩
      refine ⟨_, rfl, rfl, _, _, rfl, upd_same, _, _, _, rfl, fun u r => r, kit_UnknownSpan_BadTimes T, ?_⟩
      refine ⟨(by and_intros), fun t1 nt1 => ?_⟩
      refine ⟨_, rfl, rfl, rfl, _, _, _, rfl, upd_get upd_same nt1, rfl, ?_⟩
      refine ⟨(by and_intros), fun t2 nt2 => ?_⟩
      refine ⟨_, rfl, _, _, _, _, rfl, rfl, SqT.of upd_same, SqT.of (upd_get upd_same nt2), (fun z => nomatch z), (by and_intros), (fun z => nomatch z), fun _ t3 nt3 => ?_⟩
      refine ⟨_, rfl, rfl, _, rfl, iteD (by intro z; cases z) ?_⟩
      refine ⟨_, rfl, q _ _ (SX.Same.put (SX.Same.put (SX.Same.put (same_upd nd) (L2.Same.free (same_upd nd) nt1)) (L2.Same.free (same_upd nd) (L2.Same.free (same_upd nt1) nt2))) (L2.Same.free (same_upd nd) (L2.Same.free (same_upd nt1) (L2.Same.free (same_upd nt2) nt3)))) ?_⟩
      rw [ep]
      exact TqA.tup (.cons rfl (.cons rfl (.cons rfl (.cons rfl (.cons rfl .nil))))) upd_same (by simp)
    · have ep : pTold T0 n sps ts i = .tuple [.str "bad times", .int k, .bool true, .bool true, .bool false] := by unfold pTold; rw [hk]
      refine ⟨true, exm_BadTimes_BadTimes T, fun _ a0 ha0 => ?_, fun z => Bool.noConfusion z⟩
      refine ⟨_, rfl, rfl, rfl, _, _, _, rfl, upd_same, rfl, ?_⟩
      refine ⟨_, rfl, rfl, _, _, rfl, upd_same, _, _, _, rfl, fun u r => r, kit_BadTimes_DepotError T, ?_⟩
      refine ⟨_, rfl, rfl, _, _, rfl, upd_same, _, _, _, rfl, fun u r => r, kit_BadTimes_VE T, ?_⟩
      refine ⟨_, rfl, rfl, _, _, rfl, upd_same, _, _, _, rfl, fun u r => r, kit_BadTimes_UnknownSpan T, ?_⟩
      refine ⟨(by and_intros), fun t nt => ?_⟩
      refine ⟨_, rfl, rfl, _, rfl, iteD (by intro z; cases z) ?_⟩
      refine ⟨_, rfl, q _ _ (SX.Same.put (same_upd nd) (L2.Same.free (same_upd nd) nt)) ?_⟩
      rw [ep]
      exact TqA.tup (.cons rfl (.cons rfl (.cons rfl (.cons rfl (.cons rfl .nil))))) upd_same (by simp)
end
end DD
end
section
open PySem PySem.Spec PyProof.Rows L2 KO SX
local macro_rules | `(tactic| ac_rfl) => `(tactic| with_reducible first
  | assumption
  | exact upd_same
  | (apply upd_get; ac_rfl; assumption)
  | (apply Run.get; assumption; ac_rfl; ac_rfl)
  | (apply Same.get; assumption; ac_rfl)
  | (apply SqL.of; ac_rfl)
  | (apply SqT.of; ac_rfl)
  | (apply Or.inl; apply SqL.of; ac_rfl)
  | (apply Or.inr; apply SqT.of; ac_rfl)
  | (apply Pool.ne'; assumption; ac_rfl)
  | (apply Pool.te'; assumption; ac_rfl)
  | (apply Pool.ie'; assumption; ac_rfl)
  | (apply Pool.run; assumption)
  | (apply Pool.upd; ac_rfl; ac_rfl)
  | (apply Pool.same'; assumption; ac_rfl))
local macro_rules | `(tactic| infer_instance) => `(tactic| with_reducible first
  | assumption
  | (apply Run.upd'; assumption; infer_instance)
  | (apply Run.put; infer_instance; (apply Run.free'; assumption; infer_instance); ac_rfl)
  | (apply Run.flip; assumption; infer_instance)
  | (apply Run.add'; assumption; infer_instance)
  | (apply Run.nil; ac_rfl))
local macro_rules | `(tactic| and_intros) => `(tactic| first
  | omega
  | (refine ⟨by omega, by omega, fun _ => by omega⟩)
  | rfl
  | (intro h; injection h; omega)
  | (apply congrArg V.int; omega)
  | (intro h; cases h; done)
  | (simp only [List.length_cons, List.length_nil, sizeLine_eq]; omega)
  | (simp only [List.length_map, List.length_cons, List.length_nil] at *; omega)
  | decide
  | (apply add_le; exfalso; exfalso; simp [sizeLine_eq]; done))
local macro_rules | `(tactic| trivial) => `(tactic| first
  | exact AllI.of _
  | exact AllI.nil
  | exact AllI.one _
  | (apply AllI.cut; trivial)
  | (apply AllI.app; trivial; trivial)
  | (apply AllI.set; trivial))
local macro_rules | `(tactic| exfalso) => `(tactic| first
  | assumption
  | exact one_le
  | (apply cut_le; exfalso)
  | (apply app_le; exfalso; exfalso)
  | (apply set_le; exfalso)
  | (apply map_le; exfalso))
local macro_rules | `(tactic| symm_saturate) => `(tactic| first
  | exact .inl ⟨by omega, by omega⟩
  | exact .inr ⟨by omega, by omega⟩)
local macro_rules | `(tactic| nofun) => `(tactic| first
  | assumption
  | (apply ixN_of; omega; (first | omega | (simp only [List.length_append, List.length_cons, List.length_nil]; omega)))
  | (apply ixN_of; (simp only [List.length_append, List.length_cons, List.length_nil]; omega); (simp only [List.length_append, List.length_cons, List.length_nil]; omega)))
local macro_rules | `(tactic| rfl') => `(tactic| first
  | assumption
  | rfl)
namespace DD
open PySem PySem.Spec PyProof.Rows L2 KO SX
section
variable {P : Program} {w : World} {K : PySem.W.Frag} {mg : Str → Option Value} {base : Heap}
theorem net_np {C : Addr} {H : Hp} {a : Addr} {T n : Int} {sps : List Sp4} (h : NetAt C H a T n sps) : ∀ xs, H a ≠ some (.tup xs) := fun xs e => by
  obtain ⟨dx, t, ys, h1, _⟩ := h
  rw [h1] at e
  cases e
def gL (T : Int) (sps : List Sp4) (ts : List Int) : List V := (List.range sps.length).map fun i => V.int (goneI T sps ts i)
def spPassedGood (C : Addr) : Sp := fun vs H Q _ => ∃ (a m sl g : Addr) (far T n : Int) (sps : List Sp4) (ts : List Int) (xs : List V), vs = [.ref a, .ref m, .ref sl, .ref g, .int far] ∧ NetAt C H a T n sps ∧ TmAt H m ts ∧ ts.length ≤ 1000 ∧ 0 ≤ n ∧ n ≤ 12 ∧ 2 ≤ T ∧ (∀ s ∈ sps, gSp T n s) ∧ sps.length ≤ 24 ∧
  H sl = some (.lst xs) ∧ xs.length = sps.length ∧ H g = some (.lst (gL T sps ts)) ∧ 0 ≤ far ∧ bad T n ts = none ∧ ∀ H', Same H H' → Q (.bl true) H'

theorem scLpassedgood : FnScope ["_law_net", "_law_handed", "_law_spans", "_law_gone_here", "_law_far", "_law_k", "_law_number"] ["_law_net", "_law_handed", "_law_spans", "_law_gone_here", "_law_far"] (defScope sLpassedgood) := ⟨rfl, rfl, rfl, by decide +kernel, rfl, by decide +kernel, by decide +kernel⟩
theorem ok_Lpassedgood (T : Tx K mg) : FnOk P w K mg base CX0 7 T.f_law_passed_good T.d_law_passed_good ["_law_net", "_law_handed", "_law_spans", "_law_gone_here", "_law_far"] (spPassedGood T.C_Net) := by
  have G_law_passed_told := (ok_Lpassedtold (P := P) (w := w) (base := base) T)
  have G_law_same := ((ok_same (P := P) (w := w) (base := base) T 3).mono (k := 6) (by decide))
  refine T.F_law_passed_good.ok scLpassedgood (fun vs H Q E h => ?_) (fun cdv A outer s H vs Q E hr h => ?_)
  · obtain ⟨a, m, sl, g, far, T0, n, sps, ts, xs, rfl, hN, hm, hz, hn, hn2, hT, hg, hz2, hsl, hxl, hgl, hf, hb, q⟩ := h
    rfl
  · obtain ⟨a, m, sl, g, far, T0, n, sps, ts, xs, rfl, hN, hm, hz, hn, hn2, hT, hg, hz2, hsl, hxl, hgl, hf, hb, q⟩ := h
    refine ⟨_, pss_cons (ps_for PassesOwn.never rfl (pi_range1 (by rfl) T.z_range (pa_cons (pe_callB call_len_seq (by rfl) T.z_len (by decide +kernel) (pa_cons (pv 2) pa_nil)) pa_nil)) (pg_name (i := 5) scLpassedgood.nd rfl (.inl rfl))
      (pss_one (ps_if (pt_not (pt_val (pe_call G_law_same hr (by rfl) T.g_law_same T.F_law_same.kp T.b_law_same .nil pass0 (pa_cons (pe_call G_law_passed_told hr (by rfl) T.g_law_passed_told T.F_law_passed_told.kp T.b_law_passed_told .nil pass0 (pa_cons (pv 0) (pa_cons (pv 1) (pa_cons (pv 5) pa_nil)))) (pa_cons (pe_tup (pa_cons pe_str (pa_cons (pe_ix ix_list (pv 3) (pv 5) (fun _ _ => rfl)) pa_nil))) pa_nil))))) (pss_one ps_never) (pss_nil))))
      (pss_cons (ps_for PassesOwn.never rfl (pi_list (pe_lst (pa_cons (pe_op op_sub (pe_un un_neg pe_int) (pv 4)) (pa_cons (pe_op op_add (pe_callB call_len_seq (by rfl) T.z_len (by decide +kernel) (pa_cons (pv 2) pa_nil)) (pv 4)) pa_nil)))) (pg_name (i := 6) scLpassedgood.nd rfl (.inl rfl))
      (pss_one (ps_if (pt_not (pt_val (pe_call G_law_same hr (by rfl) T.g_law_same T.F_law_same.kp T.b_law_same .nil pass0 (pa_cons (pe_call G_law_passed_told hr (by rfl) T.g_law_passed_told T.F_law_passed_told.kp T.b_law_passed_told .nil pass0 (pa_cons (pv 0) (pa_cons (pv 1) (pa_cons (pv 6) pa_nil)))) (pa_cons (pe_tup (pa_cons pe_str (pa_cons (pv 6) (pa_cons pe_bl (pa_cons pe_bl (pa_cons pe_bl pa_nil)))))) pa_nil))))) (pss_one ps_never) (pss_nil))))
      (pss_one (ps_ret pe_bl))), ?_⟩
    refine ⟨_, rfl, _, _, rfl, .inl (SqL.of hsl), _, rfl, by omega, by omega, for_range (lo := 0) (n := xs.length) (fun j σ H' => (∃ v5 v6, σ = [some (.ref a), some (.ref m), some (.ref sl), some (.ref g), some (.int far), v5, v6]) ∧ Same H H') ⟨⟨_, _, rfl⟩, Same.refl _⟩ ?_ ?_⟩
    · rintro j σ H' hj ⟨⟨v5, v6, rfl⟩, s0⟩
      have e0 : (0 : Int) + (j : Int) = j := by omega
      refine ⟨_, rfl, _, rfl, _, rfl, a, m, _, T0, n, sps, ts, rfl, hN.same s0, hm.same s0, hz, hn, hn2, hT, hg, fun H1 v s1 t1 => ?_⟩
      have hgj : (gL T0 sps ts)[j]? = some (.int (goneI T0 sps ts j)) := by
        unfold gL
        rw [List.getElem?_map, List.getElem?_range (by omega)]
        rfl
      refine ⟨_, rfl, _, rfl, _, _, _, _, rfl, rfl, SqL.of (s1 _ _ (s0 _ _ hgl)), at_of' e0 hgj, ?_⟩
      refine ⟨by and_intros, fun t nt => ?_⟩
      have s2 := SX.Same.put (o := .tup [.str "returned", .int (goneI T0 sps ts j)]) (s0.trans s1) (L2.Same.free (s0.trans s1) nt)
      have np := net_np (hN.same s2)
      have ep : pTold T0 n sps ts (0 + (j : Int)) = .tuple [.str "returned", .int (goneI T0 sps ts j)] := by
        rw [e0]
        unfold pTold
        rw [hb]
        exact if_pos ⟨by omega, by omega⟩
      rw [ep] at t1
      have w2 : Dq a 3 _ (.ref t) (.tuple [.str "returned", .int (goneI T0 sps ts j)]) := (Tq.dq' np (show Tq 2 _ (.ref t) (.tuple [.str "returned", .int (goneI T0 sps ts j)]) from TqA.tup (.cons rfl (.cons rfl .nil)) upd_same (by simp))).up
      refine ⟨a, _, _, _, rfl, (Tq.dq' np (t1.keep (TK.new nt))).up, w2, ?_⟩
      exact ⟨_, rfl, iteF ⟨⟨_, _, rfl⟩, s2⟩⟩
    rintro σ H1 ⟨⟨v5, v6, rfl⟩, s1⟩
    refine ⟨_, rfl, _, rfl, _, _, rfl, rfl, _, rfl, _, _, rfl, .inl (SqL.of (s1 _ _ hsl)), _, rfl, _, _, rfl, rfl, by and_intros, fun r nr => ?_⟩
    have s2 := SX.Same.put (o := .lst [V.int (-1 - far), V.int (xs.length + far)]) s1 (L2.Same.free s1 nr)
    have hr2 : (upd H1 r (.lst [V.int (-1 - far), V.int (xs.length + far)])) r = some (.lst [V.int (-1 - far), V.int (xs.length + far)]) := upd_same
    refine ⟨r, rfl, ⟨_, SqL.of upd_same⟩, for_list (K := K) (a := r) (xs := [V.int (-1 - far), V.int (xs.length + far)]) (fun j σ H' => (∃ v5 v6, σ = [some (.ref a), some (.ref m), some (.ref sl), some (.ref g), some (.int far), v5, v6]) ∧ Same (upd H1 r (.lst [V.int (-1 - far), V.int (xs.length + far)])) H') ⟨⟨_, _, rfl⟩, Same.refl _⟩ (fun j σ H' _ h => SqL.of (h.2 _ _ hr2)) ?_ ?_⟩
    · rintro j y σ H' hy ⟨⟨v5, v6, rfl⟩, s3⟩
      have s4 := s2.trans s3
      obtain ⟨i, rfl, hi⟩ : ∃ i : Int, y = .int i ∧ ¬ (0 ≤ i ∧ i < sps.length) := by
        rcases List.mem_cons.mp (List.mem_of_getElem? hy) with h | h
        · exact ⟨_, h, by omega⟩
        · exact ⟨_, List.mem_singleton.mp h, by omega⟩
      refine ⟨_, rfl, _, rfl, _, rfl, a, m, i, T0, n, sps, ts, rfl, hN.same s4, hm.same s4, hz, hn, hn2, hT, hg, fun H2 v s5 t1 => ?_⟩
      refine ⟨_, rfl, by and_intros, fun t nt => ?_⟩
      have s6 := SX.Same.put (o := .tup [.str "unknown", .int i, .bl true, .bl true, .bl false]) (s3.trans s5) (L2.Same.free (s3.trans s5) nt)
      have np := net_np (hN.same (s2.trans s6))
      have ep : pTold T0 n sps ts i = .tuple [.str "unknown", .int i, .bool true, .bool true, .bool false] := by unfold pTold; rw [hb]; exact if_neg hi
      rw [ep] at t1
      have w2 : Dq a 3 _ (.ref t) (.tuple [.str "unknown", .int i, .bool true, .bool true, .bool false]) := (Tq.dq' np (show Tq 2 _ (.ref t) (.tuple [.str "unknown", .int i, .bool true, .bool true, .bool false]) from TqA.tup (.cons rfl (.cons rfl (.cons rfl (.cons rfl (.cons rfl .nil))))) upd_same (by simp))).up
      refine ⟨a, _, _, _, rfl, (Tq.dq' np (t1.keep (TK.new nt))).up, w2, ?_⟩
      exact ⟨_, rfl, iteF ⟨⟨_, _, rfl⟩, s6⟩⟩
    · rintro σ H2 ⟨⟨v5, v6, rfl⟩, s3⟩
      exact q _ (s2.trans s3)
end
end DD
end
section
open PySem PySem.Spec PyProof.Rows L2 KO SX
local macro_rules | `(tactic| ac_rfl) => `(tactic| with_reducible first
  | assumption
  | exact upd_same
  | (apply upd_get; ac_rfl; assumption)
  | (apply Run.get; assumption; ac_rfl; ac_rfl)
  | (apply Same.get; assumption; ac_rfl)
  | (apply SqL.of; ac_rfl)
  | (apply SqT.of; ac_rfl)
  | (apply Or.inl; apply SqL.of; ac_rfl)
  | (apply Or.inr; apply SqT.of; ac_rfl)
  | (apply Pool.ne'; assumption; ac_rfl)
  | (apply Pool.te'; assumption; ac_rfl)
  | (apply Pool.ie'; assumption; ac_rfl)
  | (apply Pool.run; assumption)
  | (apply Pool.upd; ac_rfl; ac_rfl)
  | (apply Pool.same'; assumption; ac_rfl))
local macro_rules | `(tactic| infer_instance) => `(tactic| with_reducible first
  | assumption
  | (apply Run.upd'; assumption; infer_instance)
  | (apply Run.put; infer_instance; (apply Run.free'; assumption; infer_instance); ac_rfl)
  | (apply Run.flip; assumption; infer_instance)
  | (apply Run.add'; assumption; infer_instance)
  | (apply Run.nil; ac_rfl))
local macro_rules | `(tactic| and_intros) => `(tactic| first
  | omega
  | (refine ⟨by omega, by omega, fun _ => by omega⟩)
  | rfl
  | (intro h; injection h; omega)
  | (apply congrArg V.int; omega)
  | (intro h; cases h; done)
  | (simp only [List.length_cons, List.length_nil, sizeLine_eq]; omega)
  | (simp only [List.length_map, List.length_cons, List.length_nil] at *; omega)
  | decide
  | (apply add_le; exfalso; exfalso; simp [sizeLine_eq]; done))
local macro_rules | `(tactic| trivial) => `(tactic| first
  | exact AllI.of _
  | exact AllI.nil
  | exact AllI.one _
  | (apply AllI.cut; trivial)
  | (apply AllI.app; trivial; trivial)
  | (apply AllI.set; trivial))
local macro_rules | `(tactic| exfalso) => `(tactic| first
  | assumption
  | exact one_le
  | (apply cut_le; exfalso)
  | (apply app_le; exfalso; exfalso)
  | (apply set_le; exfalso)
  | (apply map_le; exfalso))
local macro_rules | `(tactic| symm_saturate) => `(tactic| first
  | exact .inl ⟨by omega, by omega⟩
  | exact .inr ⟨by omega, by omega⟩)
local macro_rules | `(tactic| nofun) => `(tactic| first
  | assumption
  | (apply ixN_of; omega; (first | omega | (simp only [List.length_append, List.length_cons, List.length_nil]; omega)))
  | (apply ixN_of; (simp only [List.length_append, List.length_cons, List.length_nil]; omega); (simp only [List.length_append, List.length_cons, List.length_nil]; omega)))
local macro_rules | `(tactic| rfl') => `(tactic| first
  | assumption
  | rfl)
namespace DD
open PySem PySem.Spec PyProof.Rows L2 KO SX
section
variable {P : Program} {w : World} {K : PySem.W.Frag} {mg : Str → Option Value} {base : Heap}
def dBad (k : Int) : PyData := .tuple [.str "bad times", .int k, .bool true, .bool true, .bool false]
def spRefused (C : Addr) : Sp := fun vs H Q _ => ∃ (a m : Addr) (far T n : Int) (k : Nat) (sps : List Sp4) (ts : List Int), vs = [.ref a, .ref m, .int sps.length, .int far, .int k] ∧ NetAt C H a T n sps ∧ TmAt H m ts ∧ ts.length ≤ 1000 ∧ 0 ≤ n ∧ n ≤ 12 ∧ 2 ≤ T ∧ (∀ s ∈ sps, gSp T n s) ∧ sps.length ≤ 24 ∧
  bad T n ts = some k ∧ ∀ H', Same H H' → Q (.bl true) H'

theorem scLrefusedgood : FnScope ["_law_net", "_law_handed", "_law_count_here", "_law_far", "_law_place", "_law_due", "_law_number"] ["_law_net", "_law_handed", "_law_count_here", "_law_far", "_law_place"] (defScope sLrefusedgood) := ⟨rfl, rfl, rfl, by decide +kernel, rfl, by decide +kernel, by decide +kernel⟩
theorem ok_Lrefusedgood (T : Tx K mg) : FnOk P w K mg base CX0 8 T.f_law_refused_good T.d_law_refused_good ["_law_net", "_law_handed", "_law_count_here", "_law_far", "_law_place"] (spRefused T.C_Net) := by
  have G_law_passed_told := ((ok_Lpassedtold (P := P) (w := w) (base := base) T).mono (k := 7) (by decide))
  have G_law_check_told := ((ok_Lchecktold (P := P) (w := w) (base := base) T).mono (k := 7) (by decide))
  have G_law_broken_told := ((ok_Lbrokentold (P := P) (w := w) (base := base) T).mono (k := 7) (by decide))
  have G_law_same := ((ok_same (P := P) (w := w) (base := base) T 3).mono (k := 7) (by decide))
  refine T.F_law_refused_good.ok scLrefusedgood (fun vs H Q E h => ?_) (fun cdv A outer s H vs Q E hr h => ?_)
  · obtain ⟨a, m, far, T0, n, k, sps, ts, rfl, hN, hm, hz, hn, hn2, hT, hg, hz2, hk, q⟩ := h
    rfl
  · obtain ⟨a, m, far, T0, n, k, sps, ts, rfl, hN, hm, hz, hn, hn2, hT, hg, hz2, hk, q⟩ := h
    refine ⟨_, pss_cons (ps_set (i := 5) scLrefusedgood.nd rfl (.inl rfl) (pe_tup (pa_cons pe_str (pa_cons (pv 4) (pa_cons pe_bl (pa_cons pe_bl (pa_cons pe_bl pa_nil)))))))
      (pss_cons (ps_if (PW.pt (pw_or (pt_not (pt_val (pe_call G_law_same hr (by rfl) T.g_law_same T.F_law_same.kp T.b_law_same .nil pass0 (pa_cons (pe_call G_law_check_told hr (by rfl) T.g_law_check_told T.F_law_check_told.kp T.b_law_check_told .nil pass0 (pa_cons (pv 0) (pa_cons (pv 1) pa_nil))) (pa_cons (pv 5) pa_nil))))) (pw_or1 (pt_not (pt_val (pe_call G_law_same hr (by rfl) T.g_law_same T.F_law_same.kp T.b_law_same .nil pass0 (pa_cons (pe_call G_law_broken_told hr (by rfl) T.g_law_broken_told T.F_law_broken_told.kp T.b_law_broken_told .nil pass0 (pa_cons (pv 0) (pa_cons (pv 1) pa_nil))) (pa_cons (pv 5) pa_nil)))))))) (pss_one ps_never) (pss_nil))
      (pss_cons (ps_for PassesOwn.never rfl (pi_list (pe_op op_cat (pe_listRg rfl (by rfl) T.z_list (prg_1 (by rfl) T.z_range (pv 2))) (pe_lst (pa_cons (pe_op op_sub (pe_un un_neg pe_int) (pv 3)) (pa_cons (pe_op op_add (pv 2) (pv 3)) pa_nil))))) (pg_name (i := 6) scLrefusedgood.nd rfl (.inl rfl))
      (pss_one (ps_if (pt_not (pt_val (pe_call G_law_same hr (by rfl) T.g_law_same T.F_law_same.kp T.b_law_same .nil pass0 (pa_cons (pe_call G_law_passed_told hr (by rfl) T.g_law_passed_told T.F_law_passed_told.kp T.b_law_passed_told .nil pass0 (pa_cons (pv 0) (pa_cons (pv 1) (pa_cons (pv 6) pa_nil)))) (pa_cons (pv 5) pa_nil))))) (pss_one ps_never) (pss_nil))))
      (pss_one (ps_ret pe_bl)))), ?_⟩
    refine ⟨_, rfl, by and_intros, fun du nd => ?_⟩
    have td : Tq 2 (upd H du (.tup [.str "bad times", .int k, .bl true, .bl true, .bl false])) (.ref du) (dBad k) := TqA.tup (.cons rfl (.cons rfl (.cons rfl (.cons rfl (.cons rfl .nil))))) upd_same (by simp)
    have s0 := same_upd (o := .tup [.str "bad times", .int k, .bl true, .bl true, .bl false]) nd
    generalize upd H du (.tup [.str "bad times", .int k, .bl true, .bl true, .bl false]) = H0 at td s0 ⊢
    have np : ∀ {H' : Hp}, Same H0 H' → ∀ xs, H' a ≠ some (.tup xs) := fun s => net_np (hN.same (s0.trans s))
    have two : ∀ {H' : Hp} {v : V}, Same H0 H' → Tq 2 H' v (dBad k) → Dq a 3 H' v (dBad k) ∧ Dq a 3 H' (.ref du) (dBad k) := fun s t => ⟨(Tq.dq' (np s) t).up, (Tq.dq' (np s) (td.keep (TK.same s))).up⟩
    refine ⟨_, rfl, _, rfl, a, m, T0, n, sps, ts, rfl, hN.same s0, hm.same s0, hz, hn, hn2, fun H1 v told => ?_⟩
    obtain ⟨s1, t1⟩ := told
    rw [hk] at t1
    refine ⟨_, rfl, a, _, _, _, rfl, (two s1 t1).1, (two s1 t1).2, _, rfl, iteF ?_⟩
    refine ⟨_, rfl, _, rfl, a, m, T0, n, sps, ts, rfl, hN.same (s0.trans s1), hm.same (s0.trans s1), hz, by omega, hn, hn2, hT, hg, fun H2 v told => ?_⟩
    obtain ⟨s2, t2⟩ := told
    rw [hk] at t2
    have s02 := s1.trans s2
    refine ⟨_, rfl, a, _, _, _, rfl, (two s02 t2).1, (two s02 t2).2, _, rfl, iteF ?_⟩
    refine ⟨_, rfl, _, rfl, ⟨by omega, by omega, by omega, by omega, by omega⟩, fun r1 n1 => ?_⟩
    refine ⟨_, rfl, _, rfl, _, _, rfl, rfl, _, rfl, _, rfl, _, _, rfl, rfl, by and_intros, fun r2 n2 => ?_⟩
    refine ⟨_, _, _, _, rfl, rfl, upd_get upd_same n2, upd_same, ?_, fun r3 n3 => ?_⟩
    · rw [rgV_length, sizeLine_eq]
      show _ + 2 ≤ _
      omega
    have s3 := SX.Same.put (SX.Same.put (SX.Same.put (o := .lst (rgV 0 sps.length)) s02 (L2.Same.free s02 n1)) (L2.Same.free (s02.trans (same_upd (o := .lst (rgV 0 sps.length)) n1)) n2) (o := .lst [V.int (-1 - far), V.int (sps.length + far)])) (L2.Same.free ((s02.trans (same_upd (o := .lst (rgV 0 sps.length)) n1)).trans (same_upd (o := .lst [V.int (-1 - far), V.int (sps.length + far)]) n2)) n3) (o := .lst (rgV 0 sps.length ++ [V.int (-1 - far), V.int (sps.length + far)]))
    have hr3 : (upd (upd (upd H2 r1 (.lst (rgV 0 sps.length))) r2 (.lst [V.int (-1 - far), V.int (sps.length + far)])) r3 (.lst (rgV 0 sps.length ++ [V.int (-1 - far), V.int (sps.length + far)]))) r3 = some (.lst (rgV 0 sps.length ++ [V.int (-1 - far), V.int (sps.length + far)])) := upd_same
    have allI : AllI (rgV 0 sps.length ++ [V.int (-1 - far), V.int (sps.length + far)]) := by
      refine AllI.app (fun x hx => ?_) (AllI.of [-1 - far, sps.length + far])
      unfold rgV at hx
      obtain ⟨i, _, rfl⟩ := List.mem_map.mp hx
      exact ⟨_, rfl⟩
    refine ⟨r3, rfl, ⟨_, SqL.of upd_same⟩, ?_⟩
    generalize (upd (upd (upd H2 r1 (.lst (rgV 0 sps.length))) r2 (.lst [V.int (-1 - far), V.int (sps.length + far)])) r3 (.lst (rgV 0 sps.length ++ [V.int (-1 - far), V.int (sps.length + far)]))) = H3 at s3 hr3 ⊢
    refine for_list (K := K) (a := r3) (xs := rgV 0 sps.length ++ [V.int (-1 - far), V.int (sps.length + far)]) (fun j σ H' => (∃ v6, σ = [some (.ref a), some (.ref m), some (.int sps.length), some (.int far), some (.int k), some (.ref du), v6]) ∧ Same H3 H') ⟨⟨_, rfl⟩, Same.refl _⟩ (fun j σ H' _ h => SqL.of (h.2 _ _ hr3)) ?_ ?_
    · rintro j y σ H' hy ⟨⟨v6, rfl⟩, s4⟩
      have s5 := s3.trans s4
      obtain ⟨i, rfl⟩ := allI y (List.mem_of_getElem? hy)
      refine ⟨_, rfl, _, rfl, _, rfl, a, m, i, T0, n, sps, ts, rfl, hN.same (s0.trans s5), hm.same (s0.trans s5), hz, hn, hn2, hT, hg, fun H4 v s6 t4 => ?_⟩
      have ep : pTold T0 n sps ts i = dBad k := by unfold pTold; rw [hk]; rfl
      rw [ep] at t4
      refine ⟨_, rfl, a, _, _, _, rfl, (two (s5.trans s6) t4).1, (two (s5.trans s6) t4).2, _, rfl, iteF ⟨⟨_, rfl⟩, s4.trans s6⟩⟩
    · rintro σ H4 ⟨⟨v6, rfl⟩, s4⟩
      exact q _ (s0.trans (s3.trans s4))
end
end DD
end
section
open PySem PySem.Spec PyProof.Rows L2 KO SX
local macro_rules | `(tactic| ac_rfl) => `(tactic| with_reducible first
  | assumption
  | exact upd_same
  | (apply upd_get; ac_rfl; assumption)
  | (apply Run.get; assumption; ac_rfl; ac_rfl)
  | (apply Same.get; assumption; ac_rfl)
  | (apply SqL.of; ac_rfl)
  | (apply SqT.of; ac_rfl)
  | (apply Or.inl; apply SqL.of; ac_rfl)
  | (apply Or.inr; apply SqT.of; ac_rfl)
  | (apply Pool.ne'; assumption; ac_rfl)
  | (apply Pool.te'; assumption; ac_rfl)
  | (apply Pool.ie'; assumption; ac_rfl)
  | (apply Pool.run; assumption)
  | (apply Pool.upd; ac_rfl; ac_rfl)
  | (apply Pool.same'; assumption; ac_rfl))
local macro_rules | `(tactic| infer_instance) => `(tactic| with_reducible first
  | assumption
  | (apply Run.upd'; assumption; infer_instance)
  | (apply Run.put; infer_instance; (apply Run.free'; assumption; infer_instance); ac_rfl)
  | (apply Run.flip; assumption; infer_instance)
  | (apply Run.add'; assumption; infer_instance)
  | (apply Run.nil; ac_rfl))
local macro_rules | `(tactic| and_intros) => `(tactic| first
  | omega
  | (refine ⟨by omega, by omega, fun _ => by omega⟩)
  | rfl
  | (intro h; injection h; omega)
  | (apply congrArg V.int; omega)
  | (intro h; cases h; done)
  | (simp only [List.length_cons, List.length_nil, sizeLine_eq]; omega)
  | (simp only [List.length_map, List.length_cons, List.length_nil] at *; omega)
  | decide
  | (apply add_le; exfalso; exfalso; simp [sizeLine_eq]; done))
local macro_rules | `(tactic| trivial) => `(tactic| first
  | exact AllI.of _
  | exact AllI.nil
  | exact AllI.one _
  | (apply AllI.cut; trivial)
  | (apply AllI.app; trivial; trivial)
  | (apply AllI.set; trivial))
local macro_rules | `(tactic| exfalso) => `(tactic| first
  | assumption
  | exact one_le
  | (apply cut_le; exfalso)
  | (apply app_le; exfalso; exfalso)
  | (apply set_le; exfalso)
  | (apply map_le; exfalso))
local macro_rules | `(tactic| symm_saturate) => `(tactic| first
  | exact .inl ⟨by omega, by omega⟩
  | exact .inr ⟨by omega, by omega⟩)
local macro_rules | `(tactic| nofun) => `(tactic| first
  | assumption
  | (apply ixN_of; omega; (first | omega | (simp only [List.length_append, List.length_cons, List.length_nil]; omega)))
  | (apply ixN_of; (simp only [List.length_append, List.length_cons, List.length_nil]; omega); (simp only [List.length_append, List.length_cons, List.length_nil]; omega)))
local macro_rules | `(tactic| rfl') => `(tactic| first
  | assumption
  | rfl)
namespace DD
open PySem PySem.Spec PyProof.Rows L2 KO SX
section
variable {P : Program} {w : World} {K : PySem.W.Frag} {mg : Str → Option Value} {base : Heap}
theorem over_take {T : Int} {sps : List Sp4} {ts : List Int} {j : Nat} (h : overB T sps ts j = true) : (over T sps ts (j + 1)).map V.int = (over T sps ts j).map V.int ++ [V.int j] := by
  rw [over_more, if_pos h, List.map_append]
  rfl
theorem over_skip {T : Int} {sps : List Sp4} {ts : List Int} {j : Nat} (h : overB T sps ts j = false) : over T sps ts (j + 1) = over T sps ts j := by
  rw [over_more, h]
  rfl
def spTimesGood (C : Addr) : Sp := fun vs H Q _ => ∃ (a m sl : Addr) (far T n : Int) (sps : List Sp4) (ts : List Int) (xs : List V), vs = [.ref a, .int T, .int n, .ref sl, .ref m, .int far] ∧ NetAt C H a T n sps ∧ TmAt H m ts ∧ ts.length ≤ 1000 ∧ 0 ≤ n ∧ n ≤ 12 ∧ 2 ≤ T ∧ T ≤ 60 ∧ (∀ s ∈ sps, gSp T n s) ∧ sps.length ≤ 24 ∧
  H sl = some (.lst xs) ∧ TqA 2 H xs (sps.map dSp) ∧ 0 ≤ far ∧ ∀ H', Same H H' → Q (.bl true) H'

theorem scLtimesgood : FnScope ["_law_net", "_law_length_here", "_law_many_here", "_law_spans", "_law_handed", "_law_far", "_law_place", "_law_gone_here", "_law_over", "_law_got", "_law_span", "_law_k"] ["_law_net", "_law_length_here", "_law_many_here", "_law_spans", "_law_handed", "_law_far"] (defScope sLtimesgood) := ⟨rfl, rfl, rfl, by decide +kernel, rfl, by decide +kernel, by decide +kernel⟩
theorem ok_Ltimesgood (T : Tx K mg) : FnOk P w K mg base CX0 9 T.f_law_times_good T.d_law_times_good ["_law_net", "_law_length_here", "_law_many_here", "_law_spans", "_law_handed", "_law_far"] (spTimesGood T.C_Net) := by
  have G_law_passed_good := ((ok_Lpassedgood (P := P) (w := w) (base := base) T).mono (k := 8) (by decide))
  have G_law_refused_good := ((ok_Lrefusedgood (P := P) (w := w) (base := base) T).mono (k := 8) (by decide))
  have G_law_check_told := ((ok_Lchecktold (P := P) (w := w) (base := base) T).mono (k := 8) (by decide))
  have G_law_broken_told := ((ok_Lbrokentold (P := P) (w := w) (base := base) T).mono (k := 8) (by decide))
  have G_law_wrong := ((ok_Lwrong (P := P) (w := w) (base := base) T).mono (k := 8) (by decide))
  have G_law_gone := ((ok_Lgone (P := P) (w := w) (base := base) T).mono (k := 8) (by decide))
  have G_law_same := ((ok_same (P := P) (w := w) (base := base) T 4).mono (k := 8) (by decide))
  have Gbroken := ((ok_broken (P := P) (w := w) (base := base) T).mono (k := 8) (by decide))
  refine T.F_law_times_good.ok scLtimesgood (fun vs H Q E h => ?_) (fun cdv A outer s H vs Q E hr h => ?_)
  · obtain ⟨a, m, sl, far, T0, n, sps, ts, xs, rfl, hN, hm, hz, hn, hn2, hT, hT2, hg, hz2, hsl, hx, hf, q⟩ := h
    rfl
  · obtain ⟨a, m, sl, far, T0, n, sps, ts, xs, rfl, hN, hm, hz, hn, hn2, hT, hT2, hg, hz2, hsl, hx, hf, q⟩ := h
    refine ⟨_, pss_cons (ps_set (i := 6) scLtimesgood.nd rfl (.inl rfl) (pe_call G_law_wrong hr (by rfl) T.g_law_wrong T.F_law_wrong.kp T.b_law_wrong .nil pass0 (pa_cons (pv 1) (pa_cons (pv 2) (pa_cons (pv 4) pa_nil)))))
      (pss_cons (ps_if (pt_cmpR op_notN (pv 6) pe_non (nomark _)) (pss_one (ps_ret (pe_call G_law_refused_good hr (by rfl) T.g_law_refused_good T.F_law_refused_good.kp T.b_law_refused_good .nil pass0 (pa_cons (pv 0) (pa_cons (pv 4) (pa_cons (pe_callB call_len_seq (by rfl) T.z_len (by decide +kernel) (pa_cons (pv 3) pa_nil)) (pa_cons (pv 5) (pa_cons (pv 6) pa_nil)))))))) (pss_nil))
      (pss_cons (ps_set (i := 7) scLtimesgood.nd rfl (.inr rfl) (pe_lc (own := [("_law_span", 10)]) (g := gName 10) rfl scLtimesgood.nd (pi_list (pv 3)) (blkOk_by (own := [("_law_span", 10)]) (N := ["_law_net", "_law_length_here", "_law_many_here", "_law_spans", "_law_handed", "_law_far", "_law_place", "_law_gone_here", "_law_over", "_law_got", "_law_span", "_law_k"]) (sc := defScope sLtimesgood) (by decide +kernel)) (fun _ _ _ _ _ => pg_name (i := 10) scLtimesgood.nd rfl (.inl rfl)) (fun _ _ _ _ _ => pts_nil) (fun _ _ _ _ _ => (pe_call G_law_gone hr (by rfl) T.g_law_gone T.F_law_gone.kp T.b_law_gone .nil pass0 (pa_cons (pv 1) (pa_cons (pv 10) (pa_cons (pv 4) pa_nil)))))))
      (pss_cons (ps_setLc (i := 8) (own := [("_law_k", 11)]) (g := gName 11) rfl scLtimesgood.nd rfl rfl (sw_true rfl rfl rfl (by decide +kernel)) (pi_range1 (by rfl) T.z_range (pa_cons (pe_callB call_len_seq (by rfl) T.z_len (by decide +kernel) (pa_cons (pv 3) pa_nil)) pa_nil)) (blkOk_by (own := [("_law_k", 11)]) (N := ["_law_net", "_law_length_here", "_law_many_here", "_law_spans", "_law_handed", "_law_far", "_law_place", "_law_gone_here", "_law_over", "_law_got", "_law_span", "_law_k"]) (sc := defScope sLtimesgood) (by decide +kernel)) (fun _ _ _ _ _ => pg_name (i := 11) scLtimesgood.nd rfl (.inl rfl)) (fun _ _ _ _ _ => pts_one (pt_cmpR op_gt (pe_ix (ix_listK (K := K) rfl) (pv 7) (pv 11) (fun _ _ => rfl)) (pe_ix (ix_tupK (K := K) rfl) (pe_ix (ix_listK (K := K) rfl) (pv 3) (pv 11) (fun _ _ => rfl)) pe_int (fun _ _ => rfl)) (nomark _))) (fun _ _ _ _ _ => (pv 11)))
      (pss_cons (ps_if (pt_not (pt_val (pe_call G_law_same hr (by rfl) T.g_law_same T.F_law_same.kp T.b_law_same .nil pass0 (pa_cons (pe_call G_law_check_told hr (by rfl) T.g_law_check_told T.F_law_check_told.kp T.b_law_check_told .nil pass0 (pa_cons (pv 0) (pa_cons (pv 4) pa_nil))) (pa_cons (pe_tup (pa_cons pe_str (pa_cons pe_non pa_nil))) pa_nil))))) (pss_one (ps_never)) (pss_nil))
      (pss_cons (ps_if (pt_not (pt_val (pe_call G_law_same hr (by rfl) T.g_law_same T.F_law_same.kp T.b_law_same .nil pass0 (pa_cons (pe_call G_law_broken_told hr (by rfl) T.g_law_broken_told T.F_law_broken_told.kp T.b_law_broken_told .nil pass0 (pa_cons (pv 0) (pa_cons (pv 4) pa_nil))) (pa_cons (pe_tup (pa_cons pe_str (pa_cons (pv 8) pa_nil))) pa_nil))))) (pss_one (ps_never)) (pss_nil))
      (pss_cons (ps_set (i := 9) scLtimesgood.nd rfl (.inl rfl) (pe_call Gbroken hr (by rfl) T.gbroken T.Fbroken.kp T.bbroken .nil passL (pa_cons (pv 0) (pa_cons (pv 4) pa_nil))))
      (pss_cons (ps_expr (pe_bm PySem.F.plainAttrs_list PySem.F.slot_list_append PySem.F.type_list_append mt_append (pv 9) (pa_cons (pe_callB call_len_seq (by rfl) T.z_len (by decide +kernel) (pa_cons (pv 3) pa_nil)) pa_nil)))
      (pss_cons (ps_if (pt_not (pt_val (pe_call G_law_same hr (by rfl) T.g_law_same T.F_law_same.kp T.b_law_same .nil pass0 (pa_cons (pe_call G_law_broken_told hr (by rfl) T.g_law_broken_told T.F_law_broken_told.kp T.b_law_broken_told .nil pass0 (pa_cons (pv 0) (pa_cons (pv 4) pa_nil))) (pa_cons (pe_tup (pa_cons pe_str (pa_cons (pv 8) pa_nil))) pa_nil))))) (pss_one (ps_never)) (pss_nil))
      (pss_one (ps_ret (pe_call G_law_passed_good hr (by rfl) T.g_law_passed_good T.F_law_passed_good.kp T.b_law_passed_good .nil pass0 (pa_cons (pv 0) (pa_cons (pv 4) (pa_cons (pv 3) (pa_cons (pv 7) (pa_cons (pv 5) pa_nil)))))))))))))))), ?_⟩
    have hxl : xs.length = sps.length := by rw [hx.1, List.length_map]
    refine ⟨_, rfl, _, rfl, _, rfl, m, T0, n, ts, rfl, hm, hz, hn, hn2, ?_⟩
    cases hb : bad T0 n ts with
    | some k =>
      rw [badV_some hb]
      refine ⟨_, rfl, rfl, _, rfl, iteNDT (by intro z; cases z) ?_⟩
      refine ⟨_, rfl, _, rfl, _, rfl, _, _, rfl, .inl (SqL.of hsl), _, rfl, _, rfl, ?_⟩
      rw [hxl]
      exact ⟨a, m, far, T0, n, k, sps, ts, rfl, hN, hm, hz, hn, hn2, hT, hg, hz2, hb, q⟩
    | none =>
      rw [badV_none hb]
      have hl := (bad_ok hn hb).1
      refine ⟨_, rfl, rfl, _, rfl, iteND rfl ?_⟩
      refine ⟨_, rfl, _, rfl, ⟨_, SqL.of hsl⟩, fun D nD => lc_list (K := K) (a := sl) (xs := xs) (fun j H' => H' D = some (.lst ((gL T0 sps ts).take j)) ∧ Same H H') ⟨upd_same, same_upd nD⟩ (fun j H' _ h => SqL.of (h.2 _ _ hsl)) ?_ ?_⟩
      · rintro j y H' hy ⟨hD, s0⟩
        obtain ⟨b, sp, rfl, hsp, hb2⟩ := sp_at hx hy
        have hj : j < sps.length := (List.getElem?_eq_some_iff.mp hsp).1
        refine ⟨rfl, keepT ?_⟩
        refine ⟨_, rfl, _, rfl, _, rfl, m, b, T0, n, ts, sp, rfl, s0 _ _ hb2, hm.same s0, hg _ (List.mem_of_getElem? hsp), hT, hT2, hl, fun H1 s1 => ?_⟩
        have hgj : (gL T0 sps ts)[j]? = some (.int (mOn T0 sp ts)) := by
          unfold gL
          rw [List.getElem?_map, List.getElem?_range hj]
          show some (V.int (goneI T0 sps ts j)) = _
          rw [goneI_of hsp]
        exact ⟨_, s1 _ _ hD, by rw [List.length_take, sizeLine_eq]; omega, by rw [upd_same, take_more hgj], SX.Same.put (s0.trans s1) nD⟩
      rintro H1 ⟨hD, s1⟩
      have hgl : (gL T0 sps ts).length = sps.length := by unfold gL; rw [List.length_map, List.length_range]
      rw [hxl, ← hgl, List.take_length] at hD
      have hsl1 := s1 _ _ hsl
      have hx1 := hx.keep (TK.same s1)
      -- the spans that are not kept
      refine ⟨_, rfl, _, _, rfl, .inl (SqL.of hsl1), _, rfl, by omega, by omega, fun F nF => lc_range (lo := 0) (n := xs.length) (fun j H' => H' F = some (.lst ((over T0 sps ts j).map V.int)) ∧ Same H1 H') ⟨upd_same, same_upd nF⟩ ?_ ?_⟩
      · rintro j H' hj ⟨hF, s2⟩
        have e0 : (0 : Int) + (j : Int) = j := by omega
        have hsp := List.getElem?_eq_getElem (l := sps) (i := j) (by omega)
        obtain ⟨b, hxb, hb2⟩ := sp_at' hx1 hsp
        have hgj : (gL T0 sps ts)[j]? = some (.int (mOn T0 sps[j] ts)) := by
          unfold gL
          rw [List.getElem?_map, List.getElem?_range (by omega)]
          show some (V.int (goneI T0 sps ts j)) = _
          rw [goneI_of hsp]
        have ol := over_len (T := T0) (sps := sps) (ts := ts) (k := j)
        refine ⟨rfl, ?_⟩
        refine ⟨_, rfl, _, rfl, _, _, _, _, rfl, rfl, SqL.of (s2 _ _ hD), at_of' e0 hgj, _, rfl, _, rfl, _, _, _, _, rfl, rfl, SqL.of (s2 _ _ hsl1), at_of' e0 hxb, _, _, _, _, rfl, rfl, SqT.of (s2 _ _ hb2), atI_nat (j := 3) rfl, _, _, rfl, rfl, _, rfl, iteDs (fun c => ?_) (fun c => ?_)⟩
        · have ob : overB T0 sps ts j = true := by
            unfold overB
            rw [hsp]
            exact decide_eq_true c
          refine ⟨_, rfl, _, hF, by rw [List.length_map, sizeLine_eq]; omega, ?_, SX.Same.put s2 nF⟩
          rw [upd_same, over_take ob, e0]
        · have ob : overB T0 sps ts j = false := by
            unfold overB
            rw [hsp]
            exact decide_eq_false c
          refine ⟨?_, s2⟩
          rw [over_skip ob]
          exact hF
      rintro H2 ⟨hF, s2⟩
      rw [hxl] at hF
      have ol := over_len (T := T0) (sps := sps) (ts := ts) (k := sps.length)
      have s02 := s1.trans s2
      have aF : F ≠ a := fun z => by
        obtain ⟨dx, t, ys, h1, _⟩ := hN
        have := s1 _ _ h1
        rw [← z, nF] at this
        cases this
      -- check_times
      refine ⟨_, rfl, _, rfl, a, m, T0, n, sps, ts, rfl, hN.same s02, hm.same s02, hz, hn, hn2, fun H3 v told => ?_⟩
      obtain ⟨s3, t3⟩ := told
      rw [hb] at t3
      obtain ⟨t, x, rfl, ht, rfl⟩ := t3
      refine ⟨by and_intros, fun d1 nd1 => ?_⟩
      have s4 := SX.Same.put (o := .tup [.str "returned", .non]) s3 (L2.Same.free s3 nd1)
      have np := net_np (hN.same (s02.trans s4))
      have w1 : Dq a 3 (upd H3 d1 (.tup [.str "returned", .non])) (.ref t) (.tuple [.str "returned", .none]) := (Tq.dq' np (show Tq 2 _ (.ref t) (.tuple [.str "returned", .none]) from TqA.tup (.cons rfl (.cons rfl .nil)) (upd_get ht nd1) (by simp))).up
      have w2 : Dq a 3 (upd H3 d1 (.tup [.str "returned", .non])) (.ref d1) (.tuple [.str "returned", .none]) := (Tq.dq' np (show Tq 2 _ (.ref d1) (.tuple [.str "returned", .none]) from TqA.tup (.cons rfl (.cons rfl .nil)) upd_same (by simp))).up
      refine ⟨a, _, _, _, rfl, w1.up, w2.up, _, rfl, iteF ?_⟩
      clear w1 w2 np
      have hF4 := s4 _ _ hF
      generalize upd H3 d1 (.tup [.str "returned", .non]) = H4 at s4 hF4 ⊢
      have s04 := s02.trans s4
      have two : ∀ {H5 H6 : Hp} {b t e : Addr}, Same H4 H5 → H4 b = none → Same H5 H6 → H5 b = some (.lst ((over T0 sps ts sps.length).map V.int)) → H6 t = some (.tup [.str "returned", .ref b]) → H6 e = some (.tup [.str "returned", .ref F]) →
          Dq a 4 H6 (.ref t) (.tuple [.str "returned", .list ((over T0 sps ts sps.length).map PyData.int)]) ∧ Dq a 4 H6 (.ref e) (.tuple [.str "returned", .list ((over T0 sps ts sps.length).map PyData.int)]) := fun {H5 H6 b t e} s5 nb s6 hb5 ht he => by
        have np := net_np (hN.same (s04.trans (s5.trans s6)))
        have nb' : b ≠ a := fun z => by
          obtain ⟨dx, t, ys, h1, _⟩ := hN
          have := s04 _ _ h1
          rw [← z, nb] at this
          cases this
        have il : ∀ {c : Addr}, c ≠ a → H6 c = some (.lst ((over T0 sps ts sps.length).map V.int)) → Dq a 3 H6 (.ref c) (.list ((over T0 sps ts sps.length).map PyData.int)) := fun ne hc => DqA.lst (n := 2) DqA.ints ne hc (by rw [List.length_map]; omega)
        exact ⟨DqA.tup (n := 3) (.cons rfl (.cons (il nb' (s6 _ _ hb5)) .nil)) (fun z => np _ (by rw [← z]; exact ht)) ht (by simp), DqA.tup (n := 3) (.cons rfl (.cons (il aF ((s5.trans s6) _ _ hF4)) .nil)) (fun z => np _ (by rw [← z]; exact he)) he (by simp)⟩
      -- broken, once
      refine ⟨_, rfl, _, rfl, a, m, T0, n, sps, ts, rfl, hN.same s04, hm.same s04, hz, by omega, hn, hn2, hT, hg, fun H5 v told => ?_⟩
      obtain ⟨s5, t5⟩ := told
      rw [hb] at t5
      obtain ⟨t5', x, rfl, ht5, b5, rfl, nb5, hb5⟩ := t5
      refine ⟨_, rfl, by and_intros, fun d2 nd2 => ?_⟩
      have ww := two s5 nb5 (same_upd (o := .tup [.str "returned", .ref F]) nd2) hb5 (upd_get ht5 nd2) upd_same
      refine ⟨a, _, _, _, rfl, ww.1, ww.2, _, rfl, iteF ?_⟩
      clear ww
      have s6 := SX.Same.put (o := .tup [.str "returned", .ref F]) s5 (L2.Same.free s5 nd2)
      generalize upd H5 d2 (.tup [.str "returned", .ref F]) = H6 at s6 ⊢
      have s06 := s04.trans s6
      -- broken itself, its list changed
      refine ⟨_, rfl, _, rfl, a, m, T0, n, sps, ts, rfl, hN.same s06, hm.same s06, hz, by omega, hn, hn2, hT, hg, fun _ H7 g7 n7 s7 hg7 => ?_, fun k hk => by rw [hb] at hk; cases hk⟩
      refine ⟨_, rfl, .inl ⟨rfl, _, SqL.of hg7⟩, _, rfl, _, _, rfl, .inl (SqL.of ((s06.trans s7) _ _ hsl)), _, _, _, rfl, rfl, hg7, by rw [List.length_map, sizeLine_eq]; omega, ?_⟩
      have s8 : Same H6 (upd H7 g7 (.lst ((over T0 sps ts sps.length).map V.int ++ [V.int xs.length]))) := SX.Same.put s7 n7
      have s48 := s6.trans s8
      generalize upd H7 g7 (.lst ((over T0 sps ts sps.length).map V.int ++ [V.int xs.length])) = H8 at s8 s48 ⊢
      have s08 := s04.trans s48
      refine ⟨_, rfl, _, rfl, a, m, T0, n, sps, ts, rfl, hN.same s08, hm.same s08, hz, by omega, hn, hn2, hT, hg, fun H9 v told => ?_⟩
      obtain ⟨s9, t9⟩ := told
      rw [hb] at t9
      obtain ⟨t9', x, rfl, ht9, b9, rfl, nb9, hb9⟩ := t9
      refine ⟨_, rfl, by and_intros, fun d3 nd3 => ?_⟩
      have ww := two (s48.trans s9) (L2.Same.free s48 nb9) (same_upd (o := .tup [.str "returned", .ref F]) nd3) hb9 (upd_get ht9 nd3) upd_same
      refine ⟨a, _, _, _, rfl, ww.1, ww.2, _, rfl, iteF ?_⟩
      clear ww
      have s10 := (s08.trans s9).trans (same_upd (o := .tup [.str "returned", .ref F]) nd3)
      have hD10 := ((s2.trans s4).trans (s48.trans s9)) _ _ hD
      have hD11 : (upd H9 d3 (.tup [.str "returned", .ref F])) D = _ := upd_get hD10 nd3
      generalize upd H9 d3 (.tup [.str "returned", .ref F]) = H10 at s10 hD11 ⊢
      exact ⟨_, rfl, _, rfl, _, rfl, _, rfl, _, rfl, a, m, sl, D, far, T0, n, sps, ts, xs, rfl, hN.same s10, hm.same s10, hz, hn, hn2, hT, hg, hz2, s10 _ _ hsl, hxl, hD11, hf, hb, fun H11 s11 => q _ (s10.trans s11)⟩
end
end DD
end
section
open PySem PySem.Spec PyProof.Rows L2 KO SX
local macro_rules | `(tactic| ac_rfl) => `(tactic| with_reducible first
  | assumption
  | exact upd_same
  | (apply upd_get; ac_rfl; assumption)
  | (apply Run.get; assumption; ac_rfl; ac_rfl)
  | (apply Same.get; assumption; ac_rfl)
  | (apply SqL.of; ac_rfl)
  | (apply SqT.of; ac_rfl)
  | (apply Or.inl; apply SqL.of; ac_rfl)
  | (apply Or.inr; apply SqT.of; ac_rfl)
  | (apply Pool.ne'; assumption; ac_rfl)
  | (apply Pool.te'; assumption; ac_rfl)
  | (apply Pool.ie'; assumption; ac_rfl)
  | (apply Pool.run; assumption)
  | (apply Pool.upd; ac_rfl; ac_rfl)
  | (apply Pool.same'; assumption; ac_rfl))
local macro_rules | `(tactic| infer_instance) => `(tactic| with_reducible first
  | assumption
  | (apply Run.upd'; assumption; infer_instance)
  | (apply Run.put; infer_instance; (apply Run.free'; assumption; infer_instance); ac_rfl)
  | (apply Run.flip; assumption; infer_instance)
  | (apply Run.add'; assumption; infer_instance)
  | (apply Run.nil; ac_rfl))
local macro_rules | `(tactic| and_intros) => `(tactic| first
  | omega
  | (refine ⟨by omega, by omega, fun _ => by omega⟩)
  | rfl
  | (intro h; injection h; omega)
  | (apply congrArg V.int; omega)
  | (intro h; cases h; done)
  | (simp only [List.length_cons, List.length_nil, sizeLine_eq]; omega)
  | (simp only [List.length_map, List.length_cons, List.length_nil] at *; omega)
  | decide
  | (apply add_le; exfalso; exfalso; simp [sizeLine_eq]; done))
local macro_rules | `(tactic| trivial) => `(tactic| first
  | exact AllI.of _
  | exact AllI.nil
  | exact AllI.one _
  | (apply AllI.cut; trivial)
  | (apply AllI.app; trivial; trivial)
  | (apply AllI.set; trivial))
local macro_rules | `(tactic| exfalso) => `(tactic| first
  | assumption
  | exact one_le
  | (apply cut_le; exfalso)
  | (apply app_le; exfalso; exfalso)
  | (apply set_le; exfalso)
  | (apply map_le; exfalso))
local macro_rules | `(tactic| symm_saturate) => `(tactic| first
  | exact .inl ⟨by omega, by omega⟩
  | exact .inr ⟨by omega, by omega⟩)
local macro_rules | `(tactic| nofun) => `(tactic| first
  | assumption
  | (apply ixN_of; omega; (first | omega | (simp only [List.length_append, List.length_cons, List.length_nil]; omega)))
  | (apply ixN_of; (simp only [List.length_append, List.length_cons, List.length_nil]; omega); (simp only [List.length_append, List.length_cons, List.length_nil]; omega)))
local macro_rules | `(tactic| rfl') => `(tactic| first
  | assumption
  | rfl)
namespace DD
open PySem PySem.Spec PyProof.Rows L2 KO SX
section
variable {P : Program} {w : World} {K : PySem.W.Frag} {mg : Str → Option Value} {base : Heap}
def spAsked (C : Addr) : Sp := fun vs H Q _ => ∃ (a m sl : Addr) (far T n sh : Int) (sps : List Sp4) (ts : List Int) (xs : List V), vs = [.ref a, .int T, .int n, .ref sl, .ref m, .int far, .int sh] ∧ NetAt C H a T n sps ∧ H m = some (.lst (ts.map V.int)) ∧ ts.length ≤ 1000 ∧ 0 ≤ n ∧ n ≤ 12 ∧ 2 ≤ T ∧ T ≤ 60 ∧ (∀ s ∈ sps, gSp T n s) ∧ sps.length ≤ 24 ∧
  H sl = some (.lst xs) ∧ TqA 2 H xs (sps.map dSp) ∧ 0 ≤ far ∧ ∀ H', Same H H' → Q (.bl true) H'

theorem scLasked : FnScope ["_law_net", "_law_length_here", "_law_many_here", "_law_spans", "_law_times_here", "_law_far", "_law_shape", "_law_handed", "_law_frozen"] ["_law_net", "_law_length_here", "_law_many_here", "_law_spans", "_law_times_here", "_law_far", "_law_shape"] (defScope sLasked) := ⟨rfl, rfl, rfl, by decide +kernel, rfl, by decide +kernel, by decide +kernel⟩
theorem ok_Lasked (T : Tx K mg) : FnOk P w K mg base CX0 10 T.f_law_asked T.d_law_asked ["_law_net", "_law_length_here", "_law_many_here", "_law_spans", "_law_times_here", "_law_far", "_law_shape"] (spAsked T.C_Net) := by
  have G_law_times_good := ((ok_Ltimesgood (P := P) (w := w) (base := base) T).mono (k := 9) (by decide))
  have G_law_same := ((ok_same (P := P) (w := w) (base := base) T 2).mono (k := 9) (by decide))
  refine T.F_law_asked.ok scLasked (fun vs H Q E h => ?_) (fun cdv A outer s H vs Q E hr h => ?_)
  · obtain ⟨a, m, sl, far, T0, n, sh, sps, ts, xs, rfl, hN, hm, hz, hn, hn2, hT, hT2, hg, hz2, hsl, hx, hf, q⟩ := h
    rfl
  · obtain ⟨a, m, sl, far, T0, n, sh, sps, ts, xs, rfl, hN, hm, hz, hn, hn2, hT, hT2, hg, hz2, hsl, hx, hf, q⟩ := h
    refine ⟨_, pss_cons (ps_set (i := 7) scLasked.nd rfl (.inl rfl) (pe_callTy (T := "list") call_list_of (by rfl) T.z_list (by decide +kernel) (pa_cons (pv 4) pa_nil)))
      (pss_cons (ps_if (pt_cmpR op_eq (pv 6) pe_int (nomark _)) (pss_cons (ps_set (i := 8) scLasked.nd rfl (.inl rfl) (pe_callTy (T := "tuple") call_tuple_of (by rfl) T.z_tuple (by decide +kernel) (pa_cons (pv 4) pa_nil)))
      (pss_one (ps_ret (pe_call G_law_times_good hr (by rfl) T.g_law_times_good T.F_law_times_good.kp T.b_law_times_good .nil pass0 (pa_cons (pv 0) (pa_cons (pv 1) (pa_cons (pv 2) (pa_cons (pv 3) (pa_cons (pv 8) (pa_cons (pv 5) pa_nil)))))))))) (pss_nil))
      (pss_one (ps_ret (pe_and (pe_call G_law_times_good hr (by rfl) T.g_law_times_good T.F_law_times_good.kp T.b_law_times_good .nil pass0 (pa_cons (pv 0) (pa_cons (pv 1) (pa_cons (pv 2) (pa_cons (pv 3) (pa_cons (pv 7) (pa_cons (pv 5) pa_nil))))))) (pe_one (pe_call G_law_same hr (by rfl) T.g_law_same T.F_law_same.kp T.b_law_same .nil pass0 (pa_cons (pv 7) (pa_cons (pv 4) pa_nil)))))))), ?_⟩
    refine ⟨_, rfl, _, _, rfl, .inl (SqL.of hm), fun b nb => ?_⟩
    have s0 := same_upd (o := .lst (ts.map V.int)) nb
    have hb0 : (upd H b (.lst (ts.map V.int))) b = some (.lst (ts.map V.int)) := upd_same
    generalize upd H b (.lst (ts.map V.int)) = H0 at s0 hb0 ⊢
    refine ⟨_, rfl, rfl, _, rfl, iteDs (fun c => ?_) (fun c => ?_)⟩
    · refine ⟨_, rfl, _, _, rfl, .inl ⟨SqL.of (s0 _ _ hm), fun t nt => ?_⟩⟩
      have s1 := SX.Same.put (o := .tup (ts.map V.int)) s0 (L2.Same.free s0 nt)
      exact ⟨_, rfl, _, rfl, _, rfl, _, rfl, _, rfl, _, rfl, a, t, sl, far, T0, n, sps, ts, xs, rfl, hN.same s1, .inr upd_same, hz, hn, hn2, hT, hT2, hg, hz2, s1 _ _ hsl, hx.keep (TK.same s1), hf, fun H2 s2 => q _ (s1.trans s2)⟩
    · refine ⟨_, rfl, _, rfl, _, rfl, _, rfl, _, rfl, _, rfl, a, b, sl, far, T0, n, sps, ts, xs, rfl, hN.same s0, .inl hb0, hz, hn, hn2, hT, hT2, hg, hz2, s0 _ _ hsl, hx.keep (TK.same s0), hf, fun H2 s2 => ⟨_, rfl, iteT ?_⟩⟩
      have ba : b ≠ a := fun z => by
        obtain ⟨dx, t, ys, h1, _⟩ := hN
        rw [← z, nb] at h1
        cases h1
      have ma : m ≠ a := fun z => by
        obtain ⟨dx, t, ys, h1, _⟩ := hN
        rw [← z, hm] at h1
        cases h1
      exact ⟨_, rfl, _, rfl, a, _, _, _, rfl, DqA.lst (n := 1) DqA.ints ba (s2 _ _ hb0) (by rw [List.length_map]; exact hz), DqA.lst (n := 1) DqA.ints ma (s2 _ _ (s0 _ _ hm)) (by rw [List.length_map]; exact hz), q _ (s0.trans s2)⟩
end
end DD
end
section
open PySem PySem.Spec PyProof.Rows L2 KO SX
local macro_rules | `(tactic| ac_rfl) => `(tactic| with_reducible first
  | assumption
  | exact upd_same
  | (apply upd_get; ac_rfl; assumption)
  | (apply Run.get; assumption; ac_rfl; ac_rfl)
  | (apply Same.get; assumption; ac_rfl)
  | (apply SqL.of; ac_rfl)
  | (apply SqT.of; ac_rfl)
  | (apply Or.inl; apply SqL.of; ac_rfl)
  | (apply Or.inr; apply SqT.of; ac_rfl)
  | (apply Pool.ne'; assumption; ac_rfl)
  | (apply Pool.te'; assumption; ac_rfl)
  | (apply Pool.ie'; assumption; ac_rfl)
  | (apply Pool.run; assumption)
  | (apply Pool.upd; ac_rfl; ac_rfl)
  | (apply Pool.same'; assumption; ac_rfl))
local macro_rules | `(tactic| infer_instance) => `(tactic| with_reducible first
  | assumption
  | (apply Run.upd'; assumption; infer_instance)
  | (apply Run.put; infer_instance; (apply Run.free'; assumption; infer_instance); ac_rfl)
  | (apply Run.flip; assumption; infer_instance)
  | (apply Run.add'; assumption; infer_instance)
  | (apply Run.nil; ac_rfl))
local macro_rules | `(tactic| and_intros) => `(tactic| first
  | omega
  | (refine ⟨by omega, by omega, fun _ => by omega⟩)
  | rfl
  | (intro h; injection h; omega)
  | (apply congrArg V.int; omega)
  | (intro h; cases h; done)
  | (simp only [List.length_cons, List.length_nil, sizeLine_eq]; omega)
  | (simp only [List.length_map, List.length_cons, List.length_nil] at *; omega)
  | decide
  | (apply add_le; exfalso; exfalso; simp [sizeLine_eq]; done))
local macro_rules | `(tactic| trivial) => `(tactic| first
  | exact AllI.of _
  | exact AllI.nil
  | exact AllI.one _
  | (apply AllI.cut; trivial)
  | (apply AllI.app; trivial; trivial)
  | (apply AllI.set; trivial))
local macro_rules | `(tactic| exfalso) => `(tactic| first
  | assumption
  | exact one_le
  | (apply cut_le; exfalso)
  | (apply app_le; exfalso; exfalso)
  | (apply set_le; exfalso)
  | (apply map_le; exfalso))
local macro_rules | `(tactic| symm_saturate) => `(tactic| first
  | exact .inl ⟨by omega, by omega⟩
  | exact .inr ⟨by omega, by omega⟩)
local macro_rules | `(tactic| nofun) => `(tactic| first
  | assumption
  | (apply ixN_of; omega; (first | omega | (simp only [List.length_append, List.length_cons, List.length_nil]; omega)))
  | (apply ixN_of; (simp only [List.length_append, List.length_cons, List.length_nil]; omega); (simp only [List.length_append, List.length_cons, List.length_nil]; omega)))
local macro_rules | `(tactic| rfl') => `(tactic| first
  | assumption
  | rfl)
namespace DD
open PySem PySem.Spec PyProof.Rows L2 KO SX
section
variable {P : Program} {w : World} {K : PySem.W.Frag} {mg : Str → Option Value} {base : Heap}
def spLaw (K : PySem.W.Frag) : Sp := fun vs H Q _ => ∃ (a : Addr) (ns : List Int), vs = [.ref a] ∧ SqL K H a (ns.map V.int) ∧ ns.length ≤ 63 ∧ ∀ H', Q (.bl true) H'
theorem SqL.but {K : PySem.W.Frag} {H H' : Hp} {a p : Addr} {xs : List V} (h : SqL K H a xs) (k : But p H H') (hp : H p = none) : SqL K H' a xs := by
  rcases h with (h | ⟨o, h⟩) | h
  · exact .inl (.inl (k _ _ (ne_of_none h hp) h))
  · exact .inl (.inr ⟨o, k _ _ (ne_of_none h hp) h⟩)
  · exact .inr h
theorem lm_le {ms : List Int} (h : ms.length ≤ 12) : (ms.map V.int).length ≤ 12 := by rw [List.length_map]; exact h
theorem lm_z {ms : List Int} {c : Int} (h : ms.length < 2 → c = 0) : (ms.map V.int).length < 2 → c = 0 := by rw [List.length_map]; exact h
theorem make_same {H : Hp} {x dx : Addr} {o o' : HO} (nx : H x = none) (ndx : H dx = none) : Same H (upd (upd H dx o) x o') := fun b u e => by
  rw [upd_ne (ne_of_none e nx)]
  exact upd_get e ndx

theorem scLaw : FnScope ["_law_script", "_law_pool_here", "_law_length_here", "_law_many_here", "_law_minutes", "_law_count_here", "_law_spans", "_law_net", "_law_times_here", "_law_shape", "_law_far", "_law_row", "_law_k"] ["_law_script"] (defScope sLaw) := ⟨rfl, rfl, rfl, by decide +kernel, rfl, by decide +kernel, by decide +kernel⟩
theorem ok_law (T : Tx K mg) : FnOk P w K mg base CX0 12 T.flaw T.dlaw ["_law_script"] (spLaw K) := by
  have G_law_pool := ((ok_pool (P := P) (w := w) (base := base) T).mono (k := 11) (by decide))
  have G_law_take := ((ok_take (P := P) (w := w) (base := base) T).mono (k := 11) (by decide))
  have G_law_same := ((ok_same (P := P) (w := w) (base := base) T 3).mono (k := 11) (by decide))
  have GNet_init := (ok_NetInit (P := P) (w := w) (base := base) T)
  have G_law_length := ((ok_Llength (P := P) (w := w) (base := base) T).mono (k := 11) (by decide))
  have G_law_many := ((ok_Lmany (P := P) (w := w) (base := base) T).mono (k := 11) (by decide))
  have G_law_times := ((ok_Ltimes (P := P) (w := w) (base := base) T).mono (k := 11) (by decide))
  have G_law_count := ((ok_Lcount (P := P) (w := w) (base := base) T).mono (k := 11) (by decide))
  have G_law_any_spans := ((ok_Lanyspans (P := P) (w := w) (base := base) T).mono (k := 11) (by decide))
  have G_law_kept_spans := ((ok_Lkeptspans (P := P) (w := w) (base := base) T).mono (k := 11) (by decide))
  have G_law_spoilt := ((ok_Lspoilt (P := P) (w := w) (base := base) T).mono (k := 11) (by decide))
  have G_law_asked := ((ok_Lasked (P := P) (w := w) (base := base) T).mono (k := 11) (by decide))
  refine T.Flaw.ok scLaw (fun vs H Q E h => ?_) (fun cdv A outer s H vs Q E hr h => ?_)
  · obtain ⟨sa, ss, rfl, hS, hss, q⟩ := h
    rfl
  · obtain ⟨sa, ss, rfl, hS, hss, q⟩ := h
    have hNet : Room 4 _ := hr.mono (by decide)
    refine ⟨_, pss_cons (ps_set (i := 1) scLaw.nd rfl (.inr rfl) (pe_call G_law_pool hr (by rfl) T.g_law_pool T.F_law_pool.kp T.b_law_pool .nil pass0 (pa_cons (pv 0) (pa_cons pe_int pa_nil))))
      (pss_cons (ps_set (i := 2) scLaw.nd rfl (.inr rfl) (pe_call G_law_length hr (by rfl) T.g_law_length T.F_law_length.kp T.b_law_length .nil pass0 (pa_cons (pv 1) pa_nil)))
      (pss_cons (ps_set (i := 3) scLaw.nd rfl (.inl rfl) (pe_call G_law_many hr (by rfl) T.g_law_many T.F_law_many.kp T.b_law_many .nil pass0 (pa_cons (pv 1) pa_nil)))
      (pss_cons (ps_set (i := 4) scLaw.nd rfl (.inl rfl) (pe_call G_law_times hr (by rfl) T.g_law_times T.F_law_times.kp T.b_law_times .nil pass0 (pa_cons (pv 1) (pa_cons (pv 2) (pa_cons (pv 3) pa_nil)))))
      (pss_cons (ps_set (i := 5) scLaw.nd rfl (.inl rfl) (pe_call G_law_count hr (by rfl) T.g_law_count T.F_law_count.kp T.b_law_count .nil pass0 (pa_cons (pv 1) (pa_cons (pv 3) pa_nil))))
      (pss_cons (ps_if (pt_cmpR op_eq (pe_call G_law_take hr (by rfl) T.g_law_take T.F_law_take.kp T.b_law_take .nil pass0 (pa_cons (pv 1) (pa_cons pe_int pa_nil))) pe_int (nomark _)) (pss_one (ps_set (i := 6) scLaw.nd rfl (.inl rfl) (pe_call G_law_kept_spans hr (by rfl) T.g_law_kept_spans T.F_law_kept_spans.kp T.b_law_kept_spans .nil pass0 (pa_cons (pv 1) (pa_cons (pv 2) (pa_cons (pv 4) (pa_cons (pv 5) pa_nil))))))) (pss_one (ps_set (i := 6) scLaw.nd rfl (.inl rfl) (pe_call G_law_any_spans hr (by rfl) T.g_law_any_spans T.F_law_any_spans.kp T.b_law_any_spans .nil pass0 (pa_cons (pv 1) (pa_cons (pv 2) (pa_cons (pv 3) (pa_cons (pv 5) pa_nil))))))))
      (pss_cons (ps_set (i := 7) scLaw.nd rfl (.inl rfl) (pe_make T.M_Net GNet_init hNet (by rfl) T.g_Net T.bNet_init .nil pass0 (pa_cons (pv 2) (pa_cons (pv 3) (pa_cons (pe_callTy (T := "list") call_list_of (by rfl) T.z_list (by decide +kernel) (pa_cons (pv 6) pa_nil)) pa_nil)))))
      (pss_cons (ps_set (i := 1) scLaw.nd rfl (.inr rfl) (pe_call G_law_pool hr (by rfl) T.g_law_pool T.F_law_pool.kp T.b_law_pool .nil pass0 (pa_cons (pv 0) (pa_cons pe_int pa_nil))))
      (pss_cons (ps_set (i := 8) scLaw.nd rfl (.inl rfl) (pe_callTy (T := "list") call_list_of (by rfl) T.z_list (by decide +kernel) (pa_cons (pv 4) pa_nil)))
      (pss_cons (ps_if (pt_cmpR op_eq (pe_call G_law_take hr (by rfl) T.g_law_take T.F_law_take.kp T.b_law_take .nil pass0 (pa_cons (pv 1) (pa_cons pe_int pa_nil))) pe_int (nomark _)) (pss_one (ps_setLc (i := 8) (own := [("_law_k", 12)]) (g := gName 12) rfl scLaw.nd rfl rfl (sw_true rfl rfl rfl (by decide +kernel)) (pi_range1 (by rfl) T.z_range (pa_cons (pv 3) pa_nil)) (blkOk_by (own := [("_law_k", 12)]) (N := ["_law_script", "_law_pool_here", "_law_length_here", "_law_many_here", "_law_minutes", "_law_count_here", "_law_spans", "_law_net", "_law_times_here", "_law_shape", "_law_far", "_law_row", "_law_k"]) (sc := defScope sLaw) (by decide +kernel)) (fun _ _ _ _ _ => pg_name (i := 12) scLaw.nd rfl (.inl rfl)) (fun _ _ _ _ _ => pts_nil) (fun _ _ _ _ _ => (pe_op op_fdiv (pe_call G_law_take hr (by rfl) T.g_law_take T.F_law_take.kp T.b_law_take .nil pass0 (pa_cons (pv 1) (pa_cons (pe_op op_mul pe_int (pv 2)) pa_nil))) pe_int)))) (pss_nil))
      (pss_cons (ps_set (i := 8) scLaw.nd rfl (.inl rfl) (pe_call G_law_spoilt hr (by rfl) T.g_law_spoilt T.F_law_spoilt.kp T.b_law_spoilt .nil pass0 (pa_cons (pv 1) (pa_cons (pv 2) (pa_cons (pv 8) pa_nil)))))
      (pss_cons (ps_set (i := 9) scLaw.nd rfl (.inl rfl) (pe_call G_law_take hr (by rfl) T.g_law_take T.F_law_take.kp T.b_law_take .nil pass0 (pa_cons (pv 1) (pa_cons pe_int pa_nil))))
      (pss_cons (ps_set (i := 10) scLaw.nd rfl (.inl rfl) (pe_ix ix_list (pe_lst (pa_cons pe_int (pa_cons pe_int (pa_cons pe_int (pa_cons pe_int (pa_cons (pe_op op_pow pe_int pe_int) pa_nil)))))) (pe_call G_law_take hr (by rfl) T.g_law_take T.F_law_take.kp T.b_law_take .nil pass0 (pa_cons (pv 1) (pa_cons pe_int pa_nil))) (fun _ _ => rfl)))
      (pss_cons (ps_for PassesOwn.never rfl (pi_list (pe_lst (pa_cons (pv 4) (pa_cons (pv 8) (pa_cons (pv 4) pa_nil))))) (pg_name (i := 11) scLaw.nd rfl (.inl rfl))
      (pss_one (ps_if (pt_not (pt_val (pe_call G_law_asked hr (by rfl) T.g_law_asked T.F_law_asked.kp T.b_law_asked .nil pass0 (pa_cons (pv 7) (pa_cons (pv 2) (pa_cons (pv 3) (pa_cons (pv 6) (pa_cons (pv 11) (pa_cons (pv 10) (pa_cons (pv 9) pa_nil)))))))))) (pss_one ps_never) (pss_nil))))
      (pss_one (ps_ret (pe_call G_law_same hr (by rfl) T.g_law_same T.F_law_same.kp T.b_law_same .nil pass0 (pa_cons (pe_fld (pv 7) rfl) (pa_cons (pe_callTy (T := "tuple") call_tuple_of (by rfl) T.z_tuple (by decide +kernel) (pa_cons (pv 6) pa_nil)) pa_nil)))))))))))))))))), ?_⟩
    refine ⟨_, rfl, sa, ss, 0, rfl, hS, Nat.zero_le _, fun H0 p np s0 P0 => ?_⟩
    refine ⟨_, rfl, _, rfl, (by ac_rfl), fun H1 r1 q1 R1 => ?_⟩
    have P1 := R1.2
    obtain ⟨l1, u1⟩ := q1
    refine ⟨_, rfl, _, rfl, (by ac_rfl), fun H2 r2 q2 R2 => ?_⟩
    have P2 := R2.2
    obtain ⟨l2, u2⟩ := q2
    refine ⟨_, rfl, _, rfl, _, rfl, _, _, _, rfl, (by ac_rfl), (by and_intros), (by and_intros), (by and_intros), (by and_intros), fun H3 m ms nm hm zm bm R3 => ?_⟩
    have P3 := R3.2
    refine ⟨_, rfl, _, rfl, _, _, rfl, (by ac_rfl), fun H4 r4 q4 R4 => ?_⟩
    have P4 := R4.2
    obtain ⟨l4, u4, zc⟩ := q4
    refine ⟨_, rfl, _, _, rfl, (by ac_rfl), by and_intros, by and_intros, fun H5 r5 l5 u5 R5 => ?_⟩
    have P5 := R5.2
    refine ⟨rfl, _, rfl, iteDs (fun c6 => ?_) (fun c6 => ?_)⟩
    · skip
      refine ⟨_, rfl, _, rfl, _, rfl, _, rfl, _, _, _, _, _, ms, rfl, (by ac_rfl), (by ac_rfl), (by ac_rfl), rfl, lm_le (by omega), bm, (by and_intros), (by and_intros), (by and_intros), (by and_intros), lm_z (fun h => zc (by omega)), fun H7 sl nsl S => ?_⟩
      rw [List.length_map, zm] at S
      obtain ⟨xs, sps, hsl, hx, hl, hg, RS⟩ := S
      have PS := RS.2
      have hmS : H7 m = some (.lst (ms.map V.int)) := by ac_rfl
      have R0N : Run p H0 H7 := by infer_instance
      have hxl : xs.length = sps.length := by rw [hx.1, List.length_map]
      refine ⟨_, rfl, _, rfl, _, rfl, _, _, rfl, .inl (SqL.of hsl), fun cp ncp => fun x dx nx ndx ne => ?_⟩
      have sk := (same_upd (o := .lst xs) ncp).trans (make_same (o := .own x) (o' := .ins T.C_Net dx []) nx ndx)
      refine ⟨x, dx, cp, r1, r2, xs, sps, rfl, upd_same, (make_same nx ndx) _ _ upd_same, hx.keep (TK.same sk), by omega, hg, by omega, by omega, by omega, by omega, fun HN tN kN hxN htN => ⟨rfl, ?_⟩⟩
      obtain ⟨NN, sN⟩ := net_new nx ndx kN hxN htN (hx.keep (TK.same (same_upd ncp)))
      have sN' := (same_upd (o := .lst xs) ncp).trans sN
      have RN : Run p H0 HN := R0N.add sN'
      have hslN := sN' _ _ hsl
      have hxN' := hx.keep (TK.same sN')
      have hmN := sN' _ _ hmS
      clear kN hxN htN sk
      refine ⟨_, rfl, sa, ss, 1, rfl, SqL.but hS (But.trans (But.of s0) RN.1) np, by decide, fun H20 p2 np2 s20 P20 => ?_⟩
      have NN20 := NN.same s20
      have hsl20 := s20 _ _ hslN
      have hx20 := hxN'.keep (TK.same s20)
      have hm20 := s20 _ _ hmN
      have mp2 : m ≠ p2 := ne_of_none hmN np2
      have slp2 : sl ≠ p2 := ne_of_none hslN np2
      refine ⟨_, rfl, _, _, rfl, (by ac_rfl), fun a8 n8 => ?_⟩
      refine ⟨_, rfl, _, _, rfl, (by ac_rfl), by and_intros, by and_intros, fun H9 r9 l9 u9 R9 => ?_⟩
      have P9 := R9.2
      refine ⟨rfl, _, rfl, iteDs (fun c10 => ?_) (fun c10 => ?_)⟩
      · skip
        refine ⟨_, rfl, _, rfl, (by and_intros), (by and_intros), fun D nD => lc_range (lo := 0) (n := r2.toNat) (fun j H' => ∃ ns : List Int, ns.length = j ∧ H' D = some (.lst (ns.map V.int)) ∧ Run p2 H9 H') ⟨[], rfl, upd_same, (Run.nil (by ac_rfl)).upd nD⟩ ?_ ?_⟩
        · rintro j H' hj ⟨ns', hl', hD', R0'⟩
          have P0' := R0'.2
          have Dp : D ≠ p2 := Pool.ne (by ac_rfl : Pool H9 p2) nD
          refine ⟨rfl, keepT ?_⟩
          refine ⟨_, rfl, _, rfl, _, _, rfl, rfl, (by symm_saturate), _, _, rfl, (by ac_rfl), by and_intros, by and_intros, fun H11 r11 l11 u11 R11 => ?_⟩
          have P11 := R11.2
          refine ⟨_, _, rfl, rfl, ⟨by and_intros, by and_intros⟩, ?_⟩
          obtain ⟨acc, e1, e2, e3⟩ := ints_more (r := r11 / 7) Dp hD' (by omega) R11
          exact ⟨acc, e1, e2, ns' ++ [r11 / 7], by simp [hl'], e3, (R0'.trans R11).put nD Dp⟩
        · rintro H' ⟨ns', hl', hD', R0'⟩
          have P0' := R0'.2
          have hl2 : ns'.length ≤ 12 := by omega
          have Dp : D ≠ p2 := Pool.ne (by ac_rfl : Pool H9 p2) nD
          refine ⟨_, rfl, _, rfl, _, rfl, _, _, _, _, rfl, (by ac_rfl), (by ac_rfl), (by ac_rfl), (by and_intros), (by and_intros), (by and_intros), fun H12 tm I12 => ?_⟩
          obtain ⟨ts, ntm, htm, ztm, R12⟩ := I12
          have P12 := R12.2
          refine ⟨_, rfl, _, _, rfl, (by ac_rfl), by and_intros, by and_intros, fun H13 r13 l13 u13 R13 => ?_⟩
          have P13 := R13.2
          refine ⟨_, _, rfl, rfl, ⟨by decide, by decide, by decide⟩, (by and_intros), fun a14 n14 => ?_⟩
          refine ⟨_, rfl, _, _, rfl, (by ac_rfl), by and_intros, by and_intros, fun H15 r15 l15 u15 R15 => ?_⟩
          have P15 := R15.2
          refine rixL_ints (ns := [0, 0, 1, 24, 10 ^ 8]) (by ac_rfl) (by rfl) l15 (by and_intros) fun w15 m15 => ?_
          simp only [List.mem_cons, List.not_mem_nil, or_false] at m15
          refine ⟨_, rfl, _, rfl, _, rfl, by and_intros, fun rl nrl => ?_⟩
          have RA : Run p2 H20 (upd H15 rl (.lst [.ref m, .ref tm, .ref m])) := by infer_instance
          have NA := NN20.run P20 RA
          have hslA : (upd H15 rl (.lst [.ref m, .ref tm, .ref m])) sl = some (.lst xs) := by ac_rfl
          have hmA : (upd H15 rl (.lst [.ref m, .ref tm, .ref m])) m = some (.lst (ms.map V.int)) := by ac_rfl
          have htmA : (upd H15 rl (.lst [.ref m, .ref tm, .ref m])) tm = some (.lst (ts.map V.int)) := by ac_rfl
          have hxA := hx20.keep (TK.run P20 RA)
          have hrl : (upd H15 rl (.lst [.ref m, .ref tm, .ref m])) rl = some (.lst [.ref m, .ref tm, .ref m]) := upd_same
          generalize upd H15 rl (.lst [.ref m, .ref tm, .ref m]) = HA at RA NA hslA hmA htmA hxA hrl ⊢
          refine ⟨rl, rfl, ⟨_, SqL.of hrl⟩, for_list (K := K) (a := rl) (xs := [.ref m, .ref tm, .ref m]) (fun j σ H' => (∃ v11 v12, σ = [some (.ref sa), some (.ref p2), some (.int r1), some (.int r2), some (.ref m), some (.int r4), some (.ref sl), some (.ref x), some (.ref tm), some (.int r13), some (.int w15), v11, v12]) ∧ Same HA H') ⟨⟨_, _, rfl⟩, Same.refl _⟩ (fun j σ H' _ h => SqL.of (h.2 _ _ hrl)) ?_ ?_⟩
          · rintro j y σ H' hy ⟨⟨v11, v12, rfl⟩, s3⟩
            obtain ⟨b, tb, rfl, hb, hzb⟩ : ∃ (b : Addr) (tb : List Int), y = .ref b ∧ HA b = some (.lst (tb.map V.int)) ∧ tb.length ≤ 1000 := by
              have hy2 := List.mem_of_getElem? hy
              simp only [List.mem_cons, List.not_mem_nil, or_false] at hy2
              rcases hy2 with h | h | h
              · exact ⟨m, ms, h, hmA, by omega⟩
              · exact ⟨tm, ts, h, htmA, by omega⟩
              · exact ⟨m, ms, h, hmA, by omega⟩
            have hw : 0 ≤ w15 := by rcases m15 with h | h | h | h | h <;> omega
            refine ⟨_, rfl, _, rfl, _, rfl, _, rfl, _, rfl, _, rfl, _, rfl, x, b, sl, w15, r1, r2, r13, sps, tb, xs, rfl, NA.same s3, s3 _ _ hb, hzb, by omega, by omega, by omega, by omega, hg, by omega, s3 _ _ hslA, hxA.keep (TK.same s3), hw, fun H2 s4 => ⟨_, rfl, iteF ⟨⟨_, _, rfl⟩, s3.trans s4⟩⟩⟩
          rintro σ HF ⟨⟨v11, v12, rfl⟩, s3⟩
          have NF := NA.same s3
          obtain ⟨ndx, tnt, nxs, hnx, hnt, hnq⟩ := NF
          have hslF := s3 _ _ hslA
          have hxF := hxA.keep (TK.same s3)
          refine ⟨_, rfl, _, _, _, _, _, rfl, (by ac_rfl), T.cl_Net, T.na_Net_spans, (by rfl), _, rfl, _, _, rfl, .inl ⟨(by ac_rfl), fun a16 n16 => ?_⟩⟩
          have st := same_upd (o := .tup xs) n16
          have hl1 : (sps.map dSp).length ≤ 1000 := by rw [List.length_map]; omega
          have w1 : Tq 3 HF (.ref tnt) (.tuple (sps.map dSp)) := TqA.tup hnq hnt hl1
          have w2 : Tq 3 (upd HF a16 (.tup xs)) (.ref a16) (.tuple (sps.map dSp)) := TqA.tup (hxF.keep (TK.new n16)) upd_same hl1
          have np := net_np (NA.same (s3.trans st))
          exact ⟨x, _, _, _, rfl, Tq.dq' np (w1.keep (TK.new n16)), Tq.dq' np w2, q _⟩
      · skip
        refine ⟨_, rfl, _, rfl, _, rfl, _, _, _, _, rfl, (by ac_rfl), (by ac_rfl), (by ac_rfl), (by and_intros), (by and_intros), (by and_intros), fun H18 tm I18 => ?_⟩
        obtain ⟨ts, ntm, htm, ztm, R18⟩ := I18
        have P18 := R18.2
        refine ⟨_, rfl, _, _, rfl, (by ac_rfl), by and_intros, by and_intros, fun H19 r19 l19 u19 R19 => ?_⟩
        have P19 := R19.2
        refine ⟨_, _, rfl, rfl, ⟨by decide, by decide, by decide⟩, (by and_intros), fun a20 n20 => ?_⟩
        refine ⟨_, rfl, _, _, rfl, (by ac_rfl), by and_intros, by and_intros, fun H21 r21 l21 u21 R21 => ?_⟩
        have P21 := R21.2
        refine rixL_ints (ns := [0, 0, 1, 24, 10 ^ 8]) (by ac_rfl) (by rfl) l21 (by and_intros) fun w21 m21 => ?_
        simp only [List.mem_cons, List.not_mem_nil, or_false] at m21
        refine ⟨_, rfl, _, rfl, _, rfl, by and_intros, fun rl nrl => ?_⟩
        have RA : Run p2 H20 (upd H21 rl (.lst [.ref m, .ref tm, .ref m])) := by infer_instance
        have NA := NN20.run P20 RA
        have hslA : (upd H21 rl (.lst [.ref m, .ref tm, .ref m])) sl = some (.lst xs) := by ac_rfl
        have hmA : (upd H21 rl (.lst [.ref m, .ref tm, .ref m])) m = some (.lst (ms.map V.int)) := by ac_rfl
        have htmA : (upd H21 rl (.lst [.ref m, .ref tm, .ref m])) tm = some (.lst (ts.map V.int)) := by ac_rfl
        have hxA := hx20.keep (TK.run P20 RA)
        have hrl : (upd H21 rl (.lst [.ref m, .ref tm, .ref m])) rl = some (.lst [.ref m, .ref tm, .ref m]) := upd_same
        generalize upd H21 rl (.lst [.ref m, .ref tm, .ref m]) = HA at RA NA hslA hmA htmA hxA hrl ⊢
        refine ⟨rl, rfl, ⟨_, SqL.of hrl⟩, for_list (K := K) (a := rl) (xs := [.ref m, .ref tm, .ref m]) (fun j σ H' => (∃ v11 v12, σ = [some (.ref sa), some (.ref p2), some (.int r1), some (.int r2), some (.ref m), some (.int r4), some (.ref sl), some (.ref x), some (.ref tm), some (.int r19), some (.int w21), v11, v12]) ∧ Same HA H') ⟨⟨_, _, rfl⟩, Same.refl _⟩ (fun j σ H' _ h => SqL.of (h.2 _ _ hrl)) ?_ ?_⟩
        · rintro j y σ H' hy ⟨⟨v11, v12, rfl⟩, s3⟩
          obtain ⟨b, tb, rfl, hb, hzb⟩ : ∃ (b : Addr) (tb : List Int), y = .ref b ∧ HA b = some (.lst (tb.map V.int)) ∧ tb.length ≤ 1000 := by
            have hy2 := List.mem_of_getElem? hy
            simp only [List.mem_cons, List.not_mem_nil, or_false] at hy2
            rcases hy2 with h | h | h
            · exact ⟨m, ms, h, hmA, by omega⟩
            · exact ⟨tm, ts, h, htmA, by omega⟩
            · exact ⟨m, ms, h, hmA, by omega⟩
          have hw : 0 ≤ w21 := by rcases m21 with h | h | h | h | h <;> omega
          refine ⟨_, rfl, _, rfl, _, rfl, _, rfl, _, rfl, _, rfl, _, rfl, x, b, sl, w21, r1, r2, r19, sps, tb, xs, rfl, NA.same s3, s3 _ _ hb, hzb, by omega, by omega, by omega, by omega, hg, by omega, s3 _ _ hslA, hxA.keep (TK.same s3), hw, fun H2 s4 => ⟨_, rfl, iteF ⟨⟨_, _, rfl⟩, s3.trans s4⟩⟩⟩
        rintro σ HF ⟨⟨v11, v12, rfl⟩, s3⟩
        have NF := NA.same s3
        obtain ⟨ndx, tnt, nxs, hnx, hnt, hnq⟩ := NF
        have hslF := s3 _ _ hslA
        have hxF := hxA.keep (TK.same s3)
        refine ⟨_, rfl, _, _, _, _, _, rfl, (by ac_rfl), T.cl_Net, T.na_Net_spans, (by rfl), _, rfl, _, _, rfl, .inl ⟨(by ac_rfl), fun a22 n22 => ?_⟩⟩
        have st := same_upd (o := .tup xs) n22
        have hl1 : (sps.map dSp).length ≤ 1000 := by rw [List.length_map]; omega
        have w1 : Tq 3 HF (.ref tnt) (.tuple (sps.map dSp)) := TqA.tup hnq hnt hl1
        have w2 : Tq 3 (upd HF a22 (.tup xs)) (.ref a22) (.tuple (sps.map dSp)) := TqA.tup (hxF.keep (TK.new n22)) upd_same hl1
        have np := net_np (NA.same (s3.trans st))
        exact ⟨x, _, _, _, rfl, Tq.dq' np (w1.keep (TK.new n22)), Tq.dq' np w2, q _⟩
    · skip
      refine ⟨_, rfl, _, rfl, _, rfl, _, rfl, _, _, _, _, rfl, (by ac_rfl), (by and_intros), (by and_intros), (by and_intros), (by and_intros), (by and_intros), (by and_intros), zc, fun H24 sl nsl S => ?_⟩
      obtain ⟨xs, sps, hsl, hx, hl, hg, RS⟩ := S
      have PS := RS.2
      have hmS : H24 m = some (.lst (ms.map V.int)) := by ac_rfl
      have R0N : Run p H0 H24 := by infer_instance
      have hxl : xs.length = sps.length := by rw [hx.1, List.length_map]
      refine ⟨_, rfl, _, rfl, _, rfl, _, _, rfl, .inl (SqL.of hsl), fun cp ncp => fun x dx nx ndx ne => ?_⟩
      have sk := (same_upd (o := .lst xs) ncp).trans (make_same (o := .own x) (o' := .ins T.C_Net dx []) nx ndx)
      refine ⟨x, dx, cp, r1, r2, xs, sps, rfl, upd_same, (make_same nx ndx) _ _ upd_same, hx.keep (TK.same sk), by omega, hg, by omega, by omega, by omega, by omega, fun HN tN kN hxN htN => ⟨rfl, ?_⟩⟩
      obtain ⟨NN, sN⟩ := net_new nx ndx kN hxN htN (hx.keep (TK.same (same_upd ncp)))
      have sN' := (same_upd (o := .lst xs) ncp).trans sN
      have RN : Run p H0 HN := R0N.add sN'
      have hslN := sN' _ _ hsl
      have hxN' := hx.keep (TK.same sN')
      have hmN := sN' _ _ hmS
      clear kN hxN htN sk
      refine ⟨_, rfl, sa, ss, 1, rfl, SqL.but hS (But.trans (But.of s0) RN.1) np, by decide, fun H20 p2 np2 s20 P20 => ?_⟩
      have NN20 := NN.same s20
      have hsl20 := s20 _ _ hslN
      have hx20 := hxN'.keep (TK.same s20)
      have hm20 := s20 _ _ hmN
      have mp2 : m ≠ p2 := ne_of_none hmN np2
      have slp2 : sl ≠ p2 := ne_of_none hslN np2
      refine ⟨_, rfl, _, _, rfl, (by ac_rfl), fun a25 n25 => ?_⟩
      refine ⟨_, rfl, _, _, rfl, (by ac_rfl), by and_intros, by and_intros, fun H26 r26 l26 u26 R26 => ?_⟩
      have P26 := R26.2
      refine ⟨rfl, _, rfl, iteDs (fun c27 => ?_) (fun c27 => ?_)⟩
      · skip
        refine ⟨_, rfl, _, rfl, (by and_intros), (by and_intros), fun D nD => lc_range (lo := 0) (n := r2.toNat) (fun j H' => ∃ ns : List Int, ns.length = j ∧ H' D = some (.lst (ns.map V.int)) ∧ Run p2 H26 H') ⟨[], rfl, upd_same, (Run.nil (by ac_rfl)).upd nD⟩ ?_ ?_⟩
        · rintro j H' hj ⟨ns', hl', hD', R0'⟩
          have P0' := R0'.2
          have Dp : D ≠ p2 := Pool.ne (by ac_rfl : Pool H26 p2) nD
          refine ⟨rfl, keepT ?_⟩
          refine ⟨_, rfl, _, rfl, _, _, rfl, rfl, (by symm_saturate), _, _, rfl, (by ac_rfl), by and_intros, by and_intros, fun H28 r28 l28 u28 R28 => ?_⟩
          have P28 := R28.2
          refine ⟨_, _, rfl, rfl, ⟨by and_intros, by and_intros⟩, ?_⟩
          obtain ⟨acc, e1, e2, e3⟩ := ints_more (r := r28 / 7) Dp hD' (by omega) R28
          exact ⟨acc, e1, e2, ns' ++ [r28 / 7], by simp [hl'], e3, (R0'.trans R28).put nD Dp⟩
        · rintro H' ⟨ns', hl', hD', R0'⟩
          have P0' := R0'.2
          have hl2 : ns'.length ≤ 12 := by omega
          have Dp : D ≠ p2 := Pool.ne (by ac_rfl : Pool H26 p2) nD
          refine ⟨_, rfl, _, rfl, _, rfl, _, _, _, _, rfl, (by ac_rfl), (by ac_rfl), (by ac_rfl), (by and_intros), (by and_intros), (by and_intros), fun H29 tm I29 => ?_⟩
          obtain ⟨ts, ntm, htm, ztm, R29⟩ := I29
          have P29 := R29.2
          refine ⟨_, rfl, _, _, rfl, (by ac_rfl), by and_intros, by and_intros, fun H30 r30 l30 u30 R30 => ?_⟩
          have P30 := R30.2
          refine ⟨_, _, rfl, rfl, ⟨by decide, by decide, by decide⟩, (by and_intros), fun a31 n31 => ?_⟩
          refine ⟨_, rfl, _, _, rfl, (by ac_rfl), by and_intros, by and_intros, fun H32 r32 l32 u32 R32 => ?_⟩
          have P32 := R32.2
          refine rixL_ints (ns := [0, 0, 1, 24, 10 ^ 8]) (by ac_rfl) (by rfl) l32 (by and_intros) fun w32 m32 => ?_
          simp only [List.mem_cons, List.not_mem_nil, or_false] at m32
          refine ⟨_, rfl, _, rfl, _, rfl, by and_intros, fun rl nrl => ?_⟩
          have RA : Run p2 H20 (upd H32 rl (.lst [.ref m, .ref tm, .ref m])) := by infer_instance
          have NA := NN20.run P20 RA
          have hslA : (upd H32 rl (.lst [.ref m, .ref tm, .ref m])) sl = some (.lst xs) := by ac_rfl
          have hmA : (upd H32 rl (.lst [.ref m, .ref tm, .ref m])) m = some (.lst (ms.map V.int)) := by ac_rfl
          have htmA : (upd H32 rl (.lst [.ref m, .ref tm, .ref m])) tm = some (.lst (ts.map V.int)) := by ac_rfl
          have hxA := hx20.keep (TK.run P20 RA)
          have hrl : (upd H32 rl (.lst [.ref m, .ref tm, .ref m])) rl = some (.lst [.ref m, .ref tm, .ref m]) := upd_same
          generalize upd H32 rl (.lst [.ref m, .ref tm, .ref m]) = HA at RA NA hslA hmA htmA hxA hrl ⊢
          refine ⟨rl, rfl, ⟨_, SqL.of hrl⟩, for_list (K := K) (a := rl) (xs := [.ref m, .ref tm, .ref m]) (fun j σ H' => (∃ v11 v12, σ = [some (.ref sa), some (.ref p2), some (.int r1), some (.int r2), some (.ref m), some (.int r4), some (.ref sl), some (.ref x), some (.ref tm), some (.int r30), some (.int w32), v11, v12]) ∧ Same HA H') ⟨⟨_, _, rfl⟩, Same.refl _⟩ (fun j σ H' _ h => SqL.of (h.2 _ _ hrl)) ?_ ?_⟩
          · rintro j y σ H' hy ⟨⟨v11, v12, rfl⟩, s3⟩
            obtain ⟨b, tb, rfl, hb, hzb⟩ : ∃ (b : Addr) (tb : List Int), y = .ref b ∧ HA b = some (.lst (tb.map V.int)) ∧ tb.length ≤ 1000 := by
              have hy2 := List.mem_of_getElem? hy
              simp only [List.mem_cons, List.not_mem_nil, or_false] at hy2
              rcases hy2 with h | h | h
              · exact ⟨m, ms, h, hmA, by omega⟩
              · exact ⟨tm, ts, h, htmA, by omega⟩
              · exact ⟨m, ms, h, hmA, by omega⟩
            have hw : 0 ≤ w32 := by rcases m32 with h | h | h | h | h <;> omega
            refine ⟨_, rfl, _, rfl, _, rfl, _, rfl, _, rfl, _, rfl, _, rfl, x, b, sl, w32, r1, r2, r30, sps, tb, xs, rfl, NA.same s3, s3 _ _ hb, hzb, by omega, by omega, by omega, by omega, hg, by omega, s3 _ _ hslA, hxA.keep (TK.same s3), hw, fun H2 s4 => ⟨_, rfl, iteF ⟨⟨_, _, rfl⟩, s3.trans s4⟩⟩⟩
          rintro σ HF ⟨⟨v11, v12, rfl⟩, s3⟩
          have NF := NA.same s3
          obtain ⟨ndx, tnt, nxs, hnx, hnt, hnq⟩ := NF
          have hslF := s3 _ _ hslA
          have hxF := hxA.keep (TK.same s3)
          refine ⟨_, rfl, _, _, _, _, _, rfl, (by ac_rfl), T.cl_Net, T.na_Net_spans, (by rfl), _, rfl, _, _, rfl, .inl ⟨(by ac_rfl), fun a33 n33 => ?_⟩⟩
          have st := same_upd (o := .tup xs) n33
          have hl1 : (sps.map dSp).length ≤ 1000 := by rw [List.length_map]; omega
          have w1 : Tq 3 HF (.ref tnt) (.tuple (sps.map dSp)) := TqA.tup hnq hnt hl1
          have w2 : Tq 3 (upd HF a33 (.tup xs)) (.ref a33) (.tuple (sps.map dSp)) := TqA.tup (hxF.keep (TK.new n33)) upd_same hl1
          have np := net_np (NA.same (s3.trans st))
          exact ⟨x, _, _, _, rfl, Tq.dq' np (w1.keep (TK.new n33)), Tq.dq' np w2, q _⟩
      · skip
        refine ⟨_, rfl, _, rfl, _, rfl, _, _, _, _, rfl, (by ac_rfl), (by ac_rfl), (by ac_rfl), (by and_intros), (by and_intros), (by and_intros), fun H35 tm I35 => ?_⟩
        obtain ⟨ts, ntm, htm, ztm, R35⟩ := I35
        have P35 := R35.2
        refine ⟨_, rfl, _, _, rfl, (by ac_rfl), by and_intros, by and_intros, fun H36 r36 l36 u36 R36 => ?_⟩
        have P36 := R36.2
        refine ⟨_, _, rfl, rfl, ⟨by decide, by decide, by decide⟩, (by and_intros), fun a37 n37 => ?_⟩
        refine ⟨_, rfl, _, _, rfl, (by ac_rfl), by and_intros, by and_intros, fun H38 r38 l38 u38 R38 => ?_⟩
        have P38 := R38.2
        refine rixL_ints (ns := [0, 0, 1, 24, 10 ^ 8]) (by ac_rfl) (by rfl) l38 (by and_intros) fun w38 m38 => ?_
        simp only [List.mem_cons, List.not_mem_nil, or_false] at m38
        refine ⟨_, rfl, _, rfl, _, rfl, by and_intros, fun rl nrl => ?_⟩
        have RA : Run p2 H20 (upd H38 rl (.lst [.ref m, .ref tm, .ref m])) := by infer_instance
        have NA := NN20.run P20 RA
        have hslA : (upd H38 rl (.lst [.ref m, .ref tm, .ref m])) sl = some (.lst xs) := by ac_rfl
        have hmA : (upd H38 rl (.lst [.ref m, .ref tm, .ref m])) m = some (.lst (ms.map V.int)) := by ac_rfl
        have htmA : (upd H38 rl (.lst [.ref m, .ref tm, .ref m])) tm = some (.lst (ts.map V.int)) := by ac_rfl
        have hxA := hx20.keep (TK.run P20 RA)
        have hrl : (upd H38 rl (.lst [.ref m, .ref tm, .ref m])) rl = some (.lst [.ref m, .ref tm, .ref m]) := upd_same
        generalize upd H38 rl (.lst [.ref m, .ref tm, .ref m]) = HA at RA NA hslA hmA htmA hxA hrl ⊢
        refine ⟨rl, rfl, ⟨_, SqL.of hrl⟩, for_list (K := K) (a := rl) (xs := [.ref m, .ref tm, .ref m]) (fun j σ H' => (∃ v11 v12, σ = [some (.ref sa), some (.ref p2), some (.int r1), some (.int r2), some (.ref m), some (.int r4), some (.ref sl), some (.ref x), some (.ref tm), some (.int r36), some (.int w38), v11, v12]) ∧ Same HA H') ⟨⟨_, _, rfl⟩, Same.refl _⟩ (fun j σ H' _ h => SqL.of (h.2 _ _ hrl)) ?_ ?_⟩
        · rintro j y σ H' hy ⟨⟨v11, v12, rfl⟩, s3⟩
          obtain ⟨b, tb, rfl, hb, hzb⟩ : ∃ (b : Addr) (tb : List Int), y = .ref b ∧ HA b = some (.lst (tb.map V.int)) ∧ tb.length ≤ 1000 := by
            have hy2 := List.mem_of_getElem? hy
            simp only [List.mem_cons, List.not_mem_nil, or_false] at hy2
            rcases hy2 with h | h | h
            · exact ⟨m, ms, h, hmA, by omega⟩
            · exact ⟨tm, ts, h, htmA, by omega⟩
            · exact ⟨m, ms, h, hmA, by omega⟩
          have hw : 0 ≤ w38 := by rcases m38 with h | h | h | h | h <;> omega
          refine ⟨_, rfl, _, rfl, _, rfl, _, rfl, _, rfl, _, rfl, _, rfl, x, b, sl, w38, r1, r2, r36, sps, tb, xs, rfl, NA.same s3, s3 _ _ hb, hzb, by omega, by omega, by omega, by omega, hg, by omega, s3 _ _ hslA, hxA.keep (TK.same s3), hw, fun H2 s4 => ⟨_, rfl, iteF ⟨⟨_, _, rfl⟩, s3.trans s4⟩⟩⟩
        rintro σ HF ⟨⟨v11, v12, rfl⟩, s3⟩
        have NF := NA.same s3
        obtain ⟨ndx, tnt, nxs, hnx, hnt, hnq⟩ := NF
        have hslF := s3 _ _ hslA
        have hxF := hxA.keep (TK.same s3)
        refine ⟨_, rfl, _, _, _, _, _, rfl, (by ac_rfl), T.cl_Net, T.na_Net_spans, (by rfl), _, rfl, _, _, rfl, .inl ⟨(by ac_rfl), fun a39 n39 => ?_⟩⟩
        have st := same_upd (o := .tup xs) n39
        have hl1 : (sps.map dSp).length ≤ 1000 := by rw [List.length_map]; omega
        have w1 : Tq 3 HF (.ref tnt) (.tuple (sps.map dSp)) := TqA.tup hnq hnt hl1
        have w2 : Tq 3 (upd HF a39 (.tup xs)) (.ref a39) (.tuple (sps.map dSp)) := TqA.tup (hxF.keep (TK.new n39)) upd_same hl1
        have np := net_np (NA.same (s3.trans st))
        exact ⟨x, _, _, _, rfl, Tq.dq' np (w1.keep (TK.new n39)), Tq.dq' np w2, q _⟩
end
end DD
end
namespace DD
open PySem L2 SX
theorem all_mk {l : PySem.W.OpenLaw} {w : World} {K : PySem.W.Frag} {h : Heap} {mg : Str → Option Value} {fa : Addr} (X : K.In h) (G : h.Ns mainGlobals mg) (hfa : mg "law" = some (.ref fa)) {nm_BadNet q_BadNet : Str} {N_BadNet : Addr} {bs_BadNet : List Value} {sn_BadNet : List Str} {sub_BadNet : List Value} {ab_BadNet : Bool} {col_BadNet : Option Bool} {dd_BadNet : Option Addr} {m0_BadNet m1_BadNet m2_BadNet m3_BadNet m5_BadNet : Option Value} {nm_BadTimes q_BadTimes : Str} {N_BadTimes : Addr} {bs_BadTimes : List Value} {sn_BadTimes : List Str} {sub_BadTimes : List Value} {ab_BadTimes : Bool} {col_BadTimes : Option Bool} {dd_BadTimes : Option Addr} {m0_BadTimes m1_BadTimes m2_BadTimes m3_BadTimes m5_BadTimes : Option Value} {nm_UnknownSpan q_UnknownSpan : Str} {N_UnknownSpan : Addr} {bs_UnknownSpan : List Value} {sn_UnknownSpan : List Str} {sub_UnknownSpan : List Value} {ab_UnknownSpan : Bool} {col_UnknownSpan : Option Bool} {dd_UnknownSpan : Option Addr} {m0_UnknownSpan m1_UnknownSpan m2_UnknownSpan m3_UnknownSpan m5_UnknownSpan : Option Value} {f0 f1 f2 f3 f4 f5 f6 f7 f8 f9 f10 f11 f12 f13 f14 f15 f16 f17 f18 f19 f20 f21 f22 f23 f24 f25 f26 f27 f28 f29 f30 f31 CNet CDepotError CBadNet CBadTimes CUnknownSpan : Addr} {od0 an0 od1 an1 od2 an2 od3 an3 od4 an4 od5 an5 od6 an6 od7 an7 od8 an8 od9 an9 od10 an10 od11 an11 od12 an12 od13 an13 od14 an14 od15 an15 od16 an16 od17 an17 od18 an18 od19 an19 od20 an20 od21 an21 od22 an22 od23 an23 od24 an24 od25 an25 od26 an26 od27 an27 od28 an28 od29 an29 od30 an30 od31 an31 : Option Addr} {sl0 sl1 sl2 sl3 sl4 sl5 sl6 sl7 sl8 sl9 sl10 sl11 sl12 sl13 sl14 sl15 sl16 sl17 sl18 sl19 sl20 sl21 sl22 sl23 sl24 sl25 sl26 sl27 sl28 sl29 sl30 sl31 : Array (Option Value)} {oc0 kV0 dc0 pm0 cd0 ct0 oc1 kV1 dc1 pm1 cd1 ct1 oc2 kV2 dc2 pm2 cd2 ct2 oc3 kV3 dc3 pm3 cd3 ct3 oc4 kV4 dc4 pm4 cd4 ct4 oc5 kV5 dc5 pm5 cd5 ct5 oc6 kV6 dc6 pm6 cd6 ct6 oc7 kV7 dc7 pm7 cd7 ct7 oc8 kV8 dc8 pm8 cd8 ct8 oc9 kV9 dc9 pm9 cd9 ct9 oc10 kV10 dc10 pm10 cd10 ct10 oc11 kV11 dc11 pm11 cd11 ct11 oc12 kV12 dc12 pm12 cd12 ct12 oc13 kV13 dc13 pm13 cd13 ct13 oc14 kV14 dc14 pm14 cd14 ct14 oc15 kV15 dc15 pm15 cd15 ct15 oc16 kV16 dc16 pm16 cd16 ct16 oc17 kV17 dc17 pm17 cd17 ct17 oc18 kV18 dc18 pm18 cd18 ct18 oc19 kV19 dc19 pm19 cd19 ct19 oc20 kV20 dc20 pm20 cd20 ct20 oc21 kV21 dc21 pm21 cd21 ct21 oc22 kV22 dc22 pm22 cd22 ct22 oc23 kV23 dc23 pm23 cd23 ct23 oc24 kV24 dc24 pm24 cd24 ct24 oc25 kV25 dc25 pm25 cd25 ct25 oc26 kV26 dc26 pm26 cd26 ct26 oc27 kV27 dc27 pm27 cd27 ct27 oc28 kV28 dc28 pm28 cd28 ct28 oc29 kV29 dc29 pm29 cd29 ct29 oc30 kV30 dc30 pm30 cd30 ct30 oc31 kV31 dc31 pm31 cd31 ct31 : Value} {u_LEAST_ROUND u_MOST_ROUND u_MOST_EVENTS u_MOST_SPANS u_MOST_ON_SPAN : Tok}
    (k_LEAST_ROUND : PySem.W.nsIn K mainGlobals "LEAST_ROUND" = some (some (.int 2 u_LEAST_ROUND)))
    (k_MOST_ROUND : PySem.W.nsIn K mainGlobals "MOST_ROUND" = some (some (.int 60 u_MOST_ROUND)))
    (k_MOST_EVENTS : PySem.W.nsIn K mainGlobals "MOST_EVENTS" = some (some (.int 12 u_MOST_EVENTS)))
    (k_MOST_SPANS : PySem.W.nsIn K mainGlobals "MOST_SPANS" = some (some (.int 24 u_MOST_SPANS)))
    (k_MOST_ON_SPAN : PySem.W.nsIn K mainGlobals "MOST_ON_SPAN" = some (some (.int 999 u_MOST_ON_SPAN)))
    (z_ValueError : PySem.W.nsIn K mainGlobals "ValueError" = some none)
    (z_abs : PySem.W.nsIn K mainGlobals "abs" = some none)
    (z_bool : PySem.W.nsIn K mainGlobals "bool" = some none)
    (z_enumerate : PySem.W.nsIn K mainGlobals "enumerate" = some none)
    (z_int : PySem.W.nsIn K mainGlobals "int" = some none)
    (z_isinstance : PySem.W.nsIn K mainGlobals "isinstance" = some none)
    (z_len : PySem.W.nsIn K mainGlobals "len" = some none)
    (z_list : PySem.W.nsIn K mainGlobals "list" = some none)
    (z_max : PySem.W.nsIn K mainGlobals "max" = some none)
    (z_min : PySem.W.nsIn K mainGlobals "min" = some none)
    (z_range : PySem.W.nsIn K mainGlobals "range" = some none)
    (z_str : PySem.W.nsIn K mainGlobals "str" = some none)
    (z_tuple : PySem.W.nsIn K mainGlobals "tuple" = some none)
    (a_Net : PySem.W.nsIn K mainGlobals "Net" = some (some (.ref CNet)))
    (pg_Net : PySem.W.plainGet K CNet Str.empty = true)
    (hd_Net : PySem.W.hasDictIn K CNet = true)
    (po_Net : PySem.W.plainOver K CNet = true)
    (sa_Net : PySem.W.findIn K (.ref CNet) "__setattr__" = some (some (.builtin "object.__setattr__")))
    (mk_Net : PySem.W.makesIn K CNet = true)
    (kc_Net : PySem.W.keepIn K (.ref CNet) = true)
    (na_Net_round_length : PySem.W.findIn K (.ref CNet) "round_length" = some none)
    (na_Net_events : PySem.W.findIn K (.ref CNet) "events" = some none)
    (na_Net_spans : PySem.W.findIn K (.ref CNet) "spans" = some none)
    (a_DepotError : PySem.W.nsIn K mainGlobals "DepotError" = some (some (.ref CDepotError)))
    (a_BadNet : PySem.W.nsIn K mainGlobals "BadNet" = some (some (.ref CBadNet)))
    (a_BadTimes : PySem.W.nsIn K mainGlobals "BadTimes" = some (some (.ref CBadTimes)))
    (a_UnknownSpan : PySem.W.nsIn K mainGlobals "UnknownSpan" = some (some (.ref CUnknownSpan)))
    (a0 : PySem.W.findIn K (.ref CBadNet) "__init__" = some (some (.ref f0)))
    (i0 : PySem.W.typeIn K (.ref f0) = some (.type "function"))
    (l0 : K.lookup f0 = some ⟨oc0, od0, .func (PySem.W.fnOf "__init__" "BadNet.__init__" (defArgs sBadNetInit) (defBody sBadNetInit) (defScope sBadNetInit) .none kV0 dc0 pm0 an0 cd0 ct0), sl0⟩)
    (c0 : PySem.W.codeIn K cd0 "BadNet.__init__" = true)
    (k0 : PySem.W.keepIn K (.ref f0) = true)
    (a1 : PySem.W.findIn K (.ref CBadTimes) "__init__" = some (some (.ref f1)))
    (i1 : PySem.W.typeIn K (.ref f1) = some (.type "function"))
    (l1 : K.lookup f1 = some ⟨oc1, od1, .func (PySem.W.fnOf "__init__" "BadTimes.__init__" (defArgs sBadTimesInit) (defBody sBadTimesInit) (defScope sBadTimesInit) .none kV1 dc1 pm1 an1 cd1 ct1), sl1⟩)
    (c1 : PySem.W.codeIn K cd1 "BadTimes.__init__" = true)
    (k1 : PySem.W.keepIn K (.ref f1) = true)
    (a2 : PySem.W.findIn K (.ref CUnknownSpan) "__init__" = some (some (.ref f2)))
    (i2 : PySem.W.typeIn K (.ref f2) = some (.type "function"))
    (l2 : K.lookup f2 = some ⟨oc2, od2, .func (PySem.W.fnOf "__init__" "UnknownSpan.__init__" (defArgs sUnknownSpanInit) (defBody sUnknownSpanInit) (defScope sUnknownSpanInit) .none kV2 dc2 pm2 an2 cd2 ct2), sl2⟩)
    (c2 : PySem.W.codeIn K cd2 "UnknownSpan.__init__" = true)
    (k2 : PySem.W.keepIn K (.ref f2) = true)
    (a3 : PySem.W.nsIn K mainGlobals "check_times" = some (some (.ref f3)))
    (l3 : K.lookup f3 = some ⟨oc3, od3, .func (PySem.W.fnOf "check_times" "check_times" (defArgs schecktimes) (defBody schecktimes) (defScope schecktimes) .none kV3 dc3 pm3 an3 cd3 ct3), sl3⟩)
    (c3 : PySem.W.codeIn K cd3 "check_times" = true)
    (k3 : PySem.W.keepIn K (.ref f3) = true)
    (a4 : PySem.W.nsIn K mainGlobals "minutes_on" = some (some (.ref f4)))
    (l4 : K.lookup f4 = some ⟨oc4, od4, .func (PySem.W.fnOf "minutes_on" "minutes_on" (defArgs sminuteson) (defBody sminuteson) (defScope sminuteson) .none kV4 dc4 pm4 an4 cd4 ct4), sl4⟩)
    (c4 : PySem.W.codeIn K cd4 "minutes_on" = true)
    (k4 : PySem.W.keepIn K (.ref f4) = true)
    (a5 : PySem.W.nsIn K mainGlobals "passed" = some (some (.ref f5)))
    (l5 : K.lookup f5 = some ⟨oc5, od5, .func (PySem.W.fnOf "passed" "passed" (defArgs spassed) (defBody spassed) (defScope spassed) .none kV5 dc5 pm5 an5 cd5 ct5), sl5⟩)
    (c5 : PySem.W.codeIn K cd5 "passed" = true)
    (k5 : PySem.W.keepIn K (.ref f5) = true)
    (a6 : PySem.W.nsIn K mainGlobals "broken" = some (some (.ref f6)))
    (l6 : K.lookup f6 = some ⟨oc6, od6, .func (PySem.W.fnOf "broken" "broken" (defArgs sbroken) (defBody sbroken) (defScope sbroken) .none kV6 dc6 pm6 an6 cd6 ct6), sl6⟩)
    (c6 : PySem.W.codeIn K cd6 "broken" = true)
    (k6 : PySem.W.keepIn K (.ref f6) = true)
    (a7 : PySem.W.nsIn K mainGlobals "is_span" = some (some (.ref f7)))
    (l7 : K.lookup f7 = some ⟨oc7, od7, .func (PySem.W.fnOf "is_span" "is_span" (defArgs sisspan) (defBody sisspan) (defScope sisspan) .none kV7 dc7 pm7 an7 cd7 ct7), sl7⟩)
    (c7 : PySem.W.codeIn K cd7 "is_span" = true)
    (k7 : PySem.W.keepIn K (.ref f7) = true)
    (a8 : PySem.W.nsIn K mainGlobals "check_net" = some (some (.ref f8)))
    (l8 : K.lookup f8 = some ⟨oc8, od8, .func (PySem.W.fnOf "check_net" "check_net" (defArgs schecknet) (defBody schecknet) (defScope schecknet) .none kV8 dc8 pm8 an8 cd8 ct8), sl8⟩)
    (c8 : PySem.W.codeIn K cd8 "check_net" = true)
    (k8 : PySem.W.keepIn K (.ref f8) = true)
    (a9 : PySem.W.findIn K (.ref CNet) "__init__" = some (some (.ref f9)))
    (i9 : PySem.W.isFn K (.ref f9) = true)
    (l9 : K.lookup f9 = some ⟨oc9, od9, .func (PySem.W.fnOf "__init__" "Net.__init__" (defArgs sNetInit) (defBody sNetInit) (defScope sNetInit) .none kV9 dc9 pm9 an9 cd9 ct9), sl9⟩)
    (c9 : PySem.W.codeIn K cd9 "Net.__init__" = true)
    (k9 : PySem.W.keepIn K (.ref f9) = true)
    (a10 : PySem.W.findIn K (.ref CNet) "__eq__" = some (some (.ref f10)))
    (i10 : PySem.W.isFn K (.ref f10) = true)
    (l10 : K.lookup f10 = some ⟨oc10, od10, .func (PySem.W.fnOf "__eq__" "Net.__eq__" (defArgs sNetEq) (defBody sNetEq) (defScope sNetEq) .none kV10 dc10 pm10 an10 cd10 ct10), sl10⟩)
    (c10 : PySem.W.codeIn K cd10 "Net.__eq__" = true)
    (k10 : PySem.W.keepIn K (.ref f10) = true)
    (a11 : PySem.W.nsIn K mainGlobals "_law_cell" = some (some (.ref f11)))
    (l11 : K.lookup f11 = some ⟨oc11, od11, .func (PySem.W.fnOf "_law_cell" "_law_cell" (defArgs sLcell) (defBody sLcell) (defScope sLcell) .none kV11 dc11 pm11 an11 cd11 ct11), sl11⟩)
    (c11 : PySem.W.codeIn K cd11 "_law_cell" = true)
    (k11 : PySem.W.keepIn K (.ref f11) = true)
    (a12 : PySem.W.nsIn K mainGlobals "_law_pool" = some (some (.ref f12)))
    (l12 : K.lookup f12 = some ⟨oc12, od12, .func (PySem.W.fnOf "_law_pool" "_law_pool" (defArgs sLpool) (defBody sLpool) (defScope sLpool) .none kV12 dc12 pm12 an12 cd12 ct12), sl12⟩)
    (c12 : PySem.W.codeIn K cd12 "_law_pool" = true)
    (k12 : PySem.W.keepIn K (.ref f12) = true)
    (a13 : PySem.W.nsIn K mainGlobals "_law_take" = some (some (.ref f13)))
    (l13 : K.lookup f13 = some ⟨oc13, od13, .func (PySem.W.fnOf "_law_take" "_law_take" (defArgs sLtake) (defBody sLtake) (defScope sLtake) .none kV13 dc13 pm13 an13 cd13 ct13), sl13⟩)
    (c13 : PySem.W.codeIn K cd13 "_law_take" = true)
    (k13 : PySem.W.keepIn K (.ref f13) = true)
    (a14 : PySem.W.nsIn K mainGlobals "_law_same" = some (some (.ref f14)))
    (l14 : K.lookup f14 = some ⟨oc14, od14, .func (PySem.W.fnOf "_law_same" "_law_same" (defArgs sLsame) (defBody sLsame) (defScope sLsame) .none kV14 dc14 pm14 an14 cd14 ct14), sl14⟩)
    (c14 : PySem.W.codeIn K cd14 "_law_same" = true)
    (k14 : PySem.W.keepIn K (.ref f14) = true)
    (a15 : PySem.W.nsIn K mainGlobals "_law_length" = some (some (.ref f15)))
    (l15 : K.lookup f15 = some ⟨oc15, od15, .func (PySem.W.fnOf "_law_length" "_law_length" (defArgs sLlength) (defBody sLlength) (defScope sLlength) .none kV15 dc15 pm15 an15 cd15 ct15), sl15⟩)
    (c15 : PySem.W.codeIn K cd15 "_law_length" = true)
    (k15 : PySem.W.keepIn K (.ref f15) = true)
    (a16 : PySem.W.nsIn K mainGlobals "_law_many" = some (some (.ref f16)))
    (l16 : K.lookup f16 = some ⟨oc16, od16, .func (PySem.W.fnOf "_law_many" "_law_many" (defArgs sLmany) (defBody sLmany) (defScope sLmany) .none kV16 dc16 pm16 an16 cd16 ct16), sl16⟩)
    (c16 : PySem.W.codeIn K cd16 "_law_many" = true)
    (k16 : PySem.W.keepIn K (.ref f16) = true)
    (a17 : PySem.W.nsIn K mainGlobals "_law_count" = some (some (.ref f17)))
    (l17 : K.lookup f17 = some ⟨oc17, od17, .func (PySem.W.fnOf "_law_count" "_law_count" (defArgs sLcount) (defBody sLcount) (defScope sLcount) .none kV17 dc17 pm17 an17 cd17 ct17), sl17⟩)
    (c17 : PySem.W.codeIn K cd17 "_law_count" = true)
    (k17 : PySem.W.keepIn K (.ref f17) = true)
    (a18 : PySem.W.nsIn K mainGlobals "_law_any_spans" = some (some (.ref f18)))
    (l18 : K.lookup f18 = some ⟨oc18, od18, .func (PySem.W.fnOf "_law_any_spans" "_law_any_spans" (defArgs sLanyspans) (defBody sLanyspans) (defScope sLanyspans) .none kV18 dc18 pm18 an18 cd18 ct18), sl18⟩)
    (c18 : PySem.W.codeIn K cd18 "_law_any_spans" = true)
    (k18 : PySem.W.keepIn K (.ref f18) = true)
    (a19 : PySem.W.nsIn K mainGlobals "_law_times" = some (some (.ref f19)))
    (l19 : K.lookup f19 = some ⟨oc19, od19, .func (PySem.W.fnOf "_law_times" "_law_times" (defArgs sLtimes) (defBody sLtimes) (defScope sLtimes) .none kV19 dc19 pm19 an19 cd19 ct19), sl19⟩)
    (c19 : PySem.W.codeIn K cd19 "_law_times" = true)
    (k19 : PySem.W.keepIn K (.ref f19) = true)
    (a20 : PySem.W.nsIn K mainGlobals "_law_kept_spans" = some (some (.ref f20)))
    (l20 : K.lookup f20 = some ⟨oc20, od20, .func (PySem.W.fnOf "_law_kept_spans" "_law_kept_spans" (defArgs sLkeptspans) (defBody sLkeptspans) (defScope sLkeptspans) .none kV20 dc20 pm20 an20 cd20 ct20), sl20⟩)
    (c20 : PySem.W.codeIn K cd20 "_law_kept_spans" = true)
    (k20 : PySem.W.keepIn K (.ref f20) = true)
    (a21 : PySem.W.nsIn K mainGlobals "_law_spoilt" = some (some (.ref f21)))
    (l21 : K.lookup f21 = some ⟨oc21, od21, .func (PySem.W.fnOf "_law_spoilt" "_law_spoilt" (defArgs sLspoilt) (defBody sLspoilt) (defScope sLspoilt) .none kV21 dc21 pm21 an21 cd21 ct21), sl21⟩)
    (c21 : PySem.W.codeIn K cd21 "_law_spoilt" = true)
    (k21 : PySem.W.keepIn K (.ref f21) = true)
    (a22 : PySem.W.nsIn K mainGlobals "_law_wrong" = some (some (.ref f22)))
    (l22 : K.lookup f22 = some ⟨oc22, od22, .func (PySem.W.fnOf "_law_wrong" "_law_wrong" (defArgs sLwrong) (defBody sLwrong) (defScope sLwrong) .none kV22 dc22 pm22 an22 cd22 ct22), sl22⟩)
    (c22 : PySem.W.codeIn K cd22 "_law_wrong" = true)
    (k22 : PySem.W.keepIn K (.ref f22) = true)
    (a23 : PySem.W.nsIn K mainGlobals "_law_gone" = some (some (.ref f23)))
    (l23 : K.lookup f23 = some ⟨oc23, od23, .func (PySem.W.fnOf "_law_gone" "_law_gone" (defArgs sLgone) (defBody sLgone) (defScope sLgone) .none kV23 dc23 pm23 an23 cd23 ct23), sl23⟩)
    (c23 : PySem.W.codeIn K cd23 "_law_gone" = true)
    (k23 : PySem.W.keepIn K (.ref f23) = true)
    (a24 : PySem.W.nsIn K mainGlobals "_law_check_told" = some (some (.ref f24)))
    (l24 : K.lookup f24 = some ⟨oc24, od24, .func (PySem.W.fnOf "_law_check_told" "_law_check_told" (defArgs sLchecktold) (defBody sLchecktold) (defScope sLchecktold) .none kV24 dc24 pm24 an24 cd24 ct24), sl24⟩)
    (c24 : PySem.W.codeIn K cd24 "_law_check_told" = true)
    (k24 : PySem.W.keepIn K (.ref f24) = true)
    (a25 : PySem.W.nsIn K mainGlobals "_law_broken_told" = some (some (.ref f25)))
    (l25 : K.lookup f25 = some ⟨oc25, od25, .func (PySem.W.fnOf "_law_broken_told" "_law_broken_told" (defArgs sLbrokentold) (defBody sLbrokentold) (defScope sLbrokentold) .none kV25 dc25 pm25 an25 cd25 ct25), sl25⟩)
    (c25 : PySem.W.codeIn K cd25 "_law_broken_told" = true)
    (k25 : PySem.W.keepIn K (.ref f25) = true)
    (a26 : PySem.W.nsIn K mainGlobals "_law_passed_told" = some (some (.ref f26)))
    (l26 : K.lookup f26 = some ⟨oc26, od26, .func (PySem.W.fnOf "_law_passed_told" "_law_passed_told" (defArgs sLpassedtold) (defBody sLpassedtold) (defScope sLpassedtold) .none kV26 dc26 pm26 an26 cd26 ct26), sl26⟩)
    (c26 : PySem.W.codeIn K cd26 "_law_passed_told" = true)
    (k26 : PySem.W.keepIn K (.ref f26) = true)
    (a27 : PySem.W.nsIn K mainGlobals "_law_passed_good" = some (some (.ref f27)))
    (l27 : K.lookup f27 = some ⟨oc27, od27, .func (PySem.W.fnOf "_law_passed_good" "_law_passed_good" (defArgs sLpassedgood) (defBody sLpassedgood) (defScope sLpassedgood) .none kV27 dc27 pm27 an27 cd27 ct27), sl27⟩)
    (c27 : PySem.W.codeIn K cd27 "_law_passed_good" = true)
    (k27 : PySem.W.keepIn K (.ref f27) = true)
    (a28 : PySem.W.nsIn K mainGlobals "_law_refused_good" = some (some (.ref f28)))
    (l28 : K.lookup f28 = some ⟨oc28, od28, .func (PySem.W.fnOf "_law_refused_good" "_law_refused_good" (defArgs sLrefusedgood) (defBody sLrefusedgood) (defScope sLrefusedgood) .none kV28 dc28 pm28 an28 cd28 ct28), sl28⟩)
    (c28 : PySem.W.codeIn K cd28 "_law_refused_good" = true)
    (k28 : PySem.W.keepIn K (.ref f28) = true)
    (a29 : PySem.W.nsIn K mainGlobals "_law_times_good" = some (some (.ref f29)))
    (l29 : K.lookup f29 = some ⟨oc29, od29, .func (PySem.W.fnOf "_law_times_good" "_law_times_good" (defArgs sLtimesgood) (defBody sLtimesgood) (defScope sLtimesgood) .none kV29 dc29 pm29 an29 cd29 ct29), sl29⟩)
    (c29 : PySem.W.codeIn K cd29 "_law_times_good" = true)
    (k29 : PySem.W.keepIn K (.ref f29) = true)
    (a30 : PySem.W.nsIn K mainGlobals "_law_asked" = some (some (.ref f30)))
    (l30 : K.lookup f30 = some ⟨oc30, od30, .func (PySem.W.fnOf "_law_asked" "_law_asked" (defArgs sLasked) (defBody sLasked) (defScope sLasked) .none kV30 dc30 pm30 an30 cd30 ct30), sl30⟩)
    (c30 : PySem.W.codeIn K cd30 "_law_asked" = true)
    (k30 : PySem.W.keepIn K (.ref f30) = true)
    (a31 : PySem.W.nsIn K mainGlobals "law" = some (some (.ref f31)))
    (l31 : K.lookup f31 = some ⟨oc31, od31, .func (PySem.W.fnOf "law" "law" (defArgs sLaw) (defBody sLaw) (defScope sLaw) .none kV31 dc31 pm31 an31 cd31 ct31), sl31⟩)
    (c31 : PySem.W.codeIn K cd31 "law" = true)
    (k31 : PySem.W.keepIn K (.ref f31) = true)
    (h_ty_DepotError : PySem.W.typeIn K (.ref CDepotError) = some (.type "type"))
    (h_bs_DepotError : PySem.W.subIn K (.ref CDepotError) (.type "BaseException") = some true)
    (h_hd_DepotError : PySem.W.hasDictIn K CDepotError = true)
    (h_ty_BadNet : PySem.W.typeIn K (.ref CBadNet) = some (.type "type"))
    (h_bs_BadNet : PySem.W.subIn K (.ref CBadNet) (.type "BaseException") = some true)
    (h_hd_BadNet : PySem.W.hasDictIn K CBadNet = true)
    (h_ty_BadTimes : PySem.W.typeIn K (.ref CBadTimes) = some (.type "type"))
    (h_bs_BadTimes : PySem.W.subIn K (.ref CBadTimes) (.type "BaseException") = some true)
    (h_hd_BadTimes : PySem.W.hasDictIn K CBadTimes = true)
    (h_ty_UnknownSpan : PySem.W.typeIn K (.ref CUnknownSpan) = some (.type "type"))
    (h_bs_UnknownSpan : PySem.W.subIn K (.ref CUnknownSpan) (.type "BaseException") = some true)
    (h_hd_UnknownSpan : PySem.W.hasDictIn K CUnknownSpan = true)
    (h_kp_BadNet : PySem.W.keepIn K (.ref CBadNet) = true)
    (h_ga_BadNet : PySem.W.findIn K (.ref CBadNet) "__getattribute__" = some (some (.builtin "BaseException.__getattribute__")))
    (h_gg_BadNet : PySem.W.findIn K (.ref CBadNet) "__getattr__" = some none)
    (h_cl_BadNet : PySem.W.findIn K (.ref CBadNet) "__class__" = some (some (.builtin "object.__class__")))
    (h_mr_BadNet : PySem.W.mroIn K CBadNet (.type "object") = some true)
    (h_sb_BadNet_ValueError : PySem.W.subIn K (.ref CBadNet) (.type "ValueError") = some true)
    (h_sb_BadNet_BadTimes : PySem.W.subIn K (.ref CBadNet) (.ref CBadTimes) = some false)
    (h_sb_BadNet_DepotError : PySem.W.subIn K (.ref CBadNet) (.ref CDepotError) = some true)
    (h_sb_BadNet_UnknownSpan : PySem.W.subIn K (.ref CBadNet) (.ref CUnknownSpan) = some false)
    (h_no_BadNet_part : PySem.W.findIn K (.ref CBadNet) "part" = some none)
    (h_no_BadNet_place : PySem.W.findIn K (.ref CBadNet) "place" = some none)
    (h_sa_BadNet : PySem.W.findIn K (.ref CBadNet) "__setattr__" = some (some (.builtin "object.__setattr__")))
    (h_kp_BadTimes : PySem.W.keepIn K (.ref CBadTimes) = true)
    (h_ga_BadTimes : PySem.W.findIn K (.ref CBadTimes) "__getattribute__" = some (some (.builtin "BaseException.__getattribute__")))
    (h_gg_BadTimes : PySem.W.findIn K (.ref CBadTimes) "__getattr__" = some none)
    (h_cl_BadTimes : PySem.W.findIn K (.ref CBadTimes) "__class__" = some (some (.builtin "object.__class__")))
    (h_mr_BadTimes : PySem.W.mroIn K CBadTimes (.type "object") = some true)
    (h_sb_BadTimes_ValueError : PySem.W.subIn K (.ref CBadTimes) (.type "ValueError") = some true)
    (h_sb_BadTimes_BadTimes : PySem.W.subIn K (.ref CBadTimes) (.ref CBadTimes) = some true)
    (h_sb_BadTimes_DepotError : PySem.W.subIn K (.ref CBadTimes) (.ref CDepotError) = some true)
    (h_sb_BadTimes_UnknownSpan : PySem.W.subIn K (.ref CBadTimes) (.ref CUnknownSpan) = some false)
    (h_no_BadTimes_place : PySem.W.findIn K (.ref CBadTimes) "place" = some none)
    (h_sa_BadTimes : PySem.W.findIn K (.ref CBadTimes) "__setattr__" = some (some (.builtin "object.__setattr__")))
    (h_kp_UnknownSpan : PySem.W.keepIn K (.ref CUnknownSpan) = true)
    (h_ga_UnknownSpan : PySem.W.findIn K (.ref CUnknownSpan) "__getattribute__" = some (some (.builtin "BaseException.__getattribute__")))
    (h_gg_UnknownSpan : PySem.W.findIn K (.ref CUnknownSpan) "__getattr__" = some none)
    (h_cl_UnknownSpan : PySem.W.findIn K (.ref CUnknownSpan) "__class__" = some (some (.builtin "object.__class__")))
    (h_mr_UnknownSpan : PySem.W.mroIn K CUnknownSpan (.type "object") = some true)
    (h_sb_UnknownSpan_ValueError : PySem.W.subIn K (.ref CUnknownSpan) (.type "ValueError") = some true)
    (h_sb_UnknownSpan_BadTimes : PySem.W.subIn K (.ref CUnknownSpan) (.ref CBadTimes) = some false)
    (h_sb_UnknownSpan_DepotError : PySem.W.subIn K (.ref CUnknownSpan) (.ref CDepotError) = some true)
    (h_sb_UnknownSpan_UnknownSpan : PySem.W.subIn K (.ref CUnknownSpan) (.ref CUnknownSpan) = some true)
    (h_no_UnknownSpan_number : PySem.W.findIn K (.ref CUnknownSpan) "number" = some none)
    (h_sa_UnknownSpan : PySem.W.findIn K (.ref CUnknownSpan) "__setattr__" = some (some (.builtin "object.__setattr__")))
    (h_sp_class : PySem.W.specialIn K (.builtin "object.__class__") "__get__" = some (some (.builtin "getset_descriptor.__get__")))
    (h_tk_class : PySem.W.takesIn K (.builtin "object.__class__") = some true)
    (h_ic_Net : PySem.W.findIn K (.ref CNet) "__class__" = some (some (.builtin "object.__class__")))
    (h_mr_Net : PySem.W.mroIn K CNet (.type "object") = some true)
    (xl_BadNet : K.lookup CBadNet = some (excClassObj nm_BadNet q_BadNet CBadNet N_BadNet bs_BadNet [.ref CDepotError, .type "ValueError", .type "Exception", .type "BaseException", .type "object"] true sn_BadNet sub_BadNet ab_BadNet col_BadNet dd_BadNet m0_BadNet m1_BadNet m2_BadNet m3_BadNet m5_BadNet "ValueError.__new__"))
    (xl_BadTimes : K.lookup CBadTimes = some (excClassObj nm_BadTimes q_BadTimes CBadTimes N_BadTimes bs_BadTimes [.ref CDepotError, .type "ValueError", .type "Exception", .type "BaseException", .type "object"] true sn_BadTimes sub_BadTimes ab_BadTimes col_BadTimes dd_BadTimes m0_BadTimes m1_BadTimes m2_BadTimes m3_BadTimes m5_BadTimes "ValueError.__new__"))
    (xl_UnknownSpan : K.lookup CUnknownSpan = some (excClassObj nm_UnknownSpan q_UnknownSpan CUnknownSpan N_UnknownSpan bs_UnknownSpan [.ref CDepotError, .type "ValueError", .type "Exception", .type "BaseException", .type "object"] true sn_UnknownSpan sub_UnknownSpan ab_UnknownSpan col_UnknownSpan dd_UnknownSpan m0_UnknownSpan m1_UnknownSpan m2_UnknownSpan m3_UnknownSpan m5_UnknownSpan "ValueError.__new__")) :
    ∃ fd : FuncData, (∀ (s : Shared) (v : Value), BindsTo s fd ⟨[v], []⟩ [("_law_script", v)]) ∧ ∀ base : Heap, K.In base → base.Ns mainGlobals mg → FnOk l.prog w K mg base CX0 12 fa fd ["_law_script"] (spLaw K) := by
  have e := hfa.symm.trans (PySem.W.mg_of X G a31)
  cases e
  have F0 := fun_mk (st := sBadNetInit) l0 c0 k0
  have b0 := F0.binds (ps := ["self", "part", "place"]) fun _ _ _ _ _ _ us hl => match us, hl with | [_, _, _], _ => rfl
  have F1 := fun_mk (st := sBadTimesInit) l1 c1 k1
  have b1 := F1.binds (ps := ["self", "place"]) fun _ _ _ _ _ _ us hl => match us, hl with | [_, _], _ => rfl
  have F2 := fun_mk (st := sUnknownSpanInit) l2 c2 k2
  have b2 := F2.binds (ps := ["self", "number"]) fun _ _ _ _ _ _ us hl => match us, hl with | [_, _], _ => rfl
  have F3 := fun_mk (st := schecktimes) l3 c3 k3
  have b3 := F3.binds (ps := ["net", "times"]) fun _ _ _ _ _ _ us hl => match us, hl with | [_, _], _ => rfl
  have F4 := fun_mk (st := sminuteson) l4 c4 k4
  have b4 := F4.binds (ps := ["net", "times", "number"]) fun _ _ _ _ _ _ us hl => match us, hl with | [_, _, _], _ => rfl
  have F5 := fun_mk (st := spassed) l5 c5 k5
  have b5 := F5.binds (ps := ["net", "times", "number"]) fun _ _ _ _ _ _ us hl => match us, hl with | [_, _, _], _ => rfl
  have F6 := fun_mk (st := sbroken) l6 c6 k6
  have b6 := F6.binds (ps := ["net", "times"]) fun _ _ _ _ _ _ us hl => match us, hl with | [_, _], _ => rfl
  have F7 := fun_mk (st := sisspan) l7 c7 k7
  have b7 := F7.binds (ps := ["span", "round_length", "events"]) fun _ _ _ _ _ _ us hl => match us, hl with | [_, _, _], _ => rfl
  have F8 := fun_mk (st := schecknet) l8 c8 k8
  have b8 := F8.binds (ps := ["round_length", "events", "spans"]) fun _ _ _ _ _ _ us hl => match us, hl with | [_, _, _], _ => rfl
  have F9 := fun_mk (st := sNetInit) l9 c9 k9
  have b9 := F9.binds (ps := ["self", "round_length", "events", "spans"]) fun _ _ _ _ _ _ us hl => match us, hl with | [_, _, _, _], _ => rfl
  have F10 := fun_mk (st := sNetEq) l10 c10 k10
  have b10 := F10.binds (ps := ["self", "other"]) fun _ _ _ _ _ _ us hl => match us, hl with | [_, _], _ => rfl
  have F11 := fun_mk (st := sLcell) l11 c11 k11
  have b11 := F11.binds (ps := ["_law_script", "_law_k"]) fun _ _ _ _ _ _ us hl => match us, hl with | [_, _], _ => rfl
  have F12 := fun_mk (st := sLpool) l12 c12 k12
  have b12 := F12.binds (ps := ["_law_script", "_law_k"]) fun _ _ _ _ _ _ us hl => match us, hl with | [_, _], _ => rfl
  have F13 := fun_mk (st := sLtake) l13 c13 k13
  have b13 := F13.binds (ps := ["_law_pool_here", "_law_many_here"]) fun _ _ _ _ _ _ us hl => match us, hl with | [_, _], _ => rfl
  have F14 := fun_mk (st := sLsame) l14 c14 k14
  have b14 := F14.binds (ps := ["_law_got", "_law_due"]) fun _ _ _ _ _ _ us hl => match us, hl with | [_, _], _ => rfl
  have F15 := fun_mk (st := sLlength) l15 c15 k15
  have b15 := F15.binds (ps := ["_law_pool_here"]) fun _ _ _ _ _ _ us hl => match us, hl with | [_], _ => rfl
  have F16 := fun_mk (st := sLmany) l16 c16 k16
  have b16 := F16.binds (ps := ["_law_pool_here"]) fun _ _ _ _ _ _ us hl => match us, hl with | [_], _ => rfl
  have F17 := fun_mk (st := sLcount) l17 c17 k17
  have b17 := F17.binds (ps := ["_law_pool_here", "_law_many_here"]) fun _ _ _ _ _ _ us hl => match us, hl with | [_, _], _ => rfl
  have F18 := fun_mk (st := sLanyspans) l18 c18 k18
  have b18 := F18.binds (ps := ["_law_pool_here", "_law_length_here", "_law_many_here", "_law_count_here"]) fun _ _ _ _ _ _ us hl => match us, hl with | [_, _, _, _], _ => rfl
  have F19 := fun_mk (st := sLtimes) l19 c19 k19
  have b19 := F19.binds (ps := ["_law_pool_here", "_law_length_here", "_law_many_here"]) fun _ _ _ _ _ _ us hl => match us, hl with | [_, _, _], _ => rfl
  have F20 := fun_mk (st := sLkeptspans) l20 c20 k20
  have b20 := F20.binds (ps := ["_law_pool_here", "_law_length_here", "_law_minutes", "_law_count_here"]) fun _ _ _ _ _ _ us hl => match us, hl with | [_, _, _, _], _ => rfl
  have F21 := fun_mk (st := sLspoilt) l21 c21 k21
  have b21 := F21.binds (ps := ["_law_pool_here", "_law_length_here", "_law_times_here"]) fun _ _ _ _ _ _ us hl => match us, hl with | [_, _, _], _ => rfl
  have F22 := fun_mk (st := sLwrong) l22 c22 k22
  have b22 := F22.binds (ps := ["_law_length_here", "_law_many_here", "_law_times_here"]) fun _ _ _ _ _ _ us hl => match us, hl with | [_, _, _], _ => rfl
  have F23 := fun_mk (st := sLgone) l23 c23 k23
  have b23 := F23.binds (ps := ["_law_length_here", "_law_span", "_law_times_here"]) fun _ _ _ _ _ _ us hl => match us, hl with | [_, _, _], _ => rfl
  have F24 := fun_mk (st := sLchecktold) l24 c24 k24
  have b24 := F24.binds (ps := ["_law_net", "_law_times_here"]) fun _ _ _ _ _ _ us hl => match us, hl with | [_, _], _ => rfl
  have F25 := fun_mk (st := sLbrokentold) l25 c25 k25
  have b25 := F25.binds (ps := ["_law_net", "_law_times_here"]) fun _ _ _ _ _ _ us hl => match us, hl with | [_, _], _ => rfl
  have F26 := fun_mk (st := sLpassedtold) l26 c26 k26
  have b26 := F26.binds (ps := ["_law_net", "_law_times_here", "_law_number"]) fun _ _ _ _ _ _ us hl => match us, hl with | [_, _, _], _ => rfl
  have F27 := fun_mk (st := sLpassedgood) l27 c27 k27
  have b27 := F27.binds (ps := ["_law_net", "_law_handed", "_law_spans", "_law_gone_here", "_law_far"]) fun _ _ _ _ _ _ us hl => match us, hl with | [_, _, _, _, _], _ => rfl
  have F28 := fun_mk (st := sLrefusedgood) l28 c28 k28
  have b28 := F28.binds (ps := ["_law_net", "_law_handed", "_law_count_here", "_law_far", "_law_place"]) fun _ _ _ _ _ _ us hl => match us, hl with | [_, _, _, _, _], _ => rfl
  have F29 := fun_mk (st := sLtimesgood) l29 c29 k29
  have b29 := F29.binds (ps := ["_law_net", "_law_length_here", "_law_many_here", "_law_spans", "_law_handed", "_law_far"]) fun _ _ _ _ _ _ us hl => match us, hl with | [_, _, _, _, _, _], _ => rfl
  have F30 := fun_mk (st := sLasked) l30 c30 k30
  have b30 := F30.binds (ps := ["_law_net", "_law_length_here", "_law_many_here", "_law_spans", "_law_times_here", "_law_far", "_law_shape"]) fun _ _ _ _ _ _ us hl => match us, hl with | [_, _, _, _, _, _, _], _ => rfl
  have F31 := fun_mk (st := sLaw) l31 c31 k31
  have b31 := F31.binds (ps := ["_law_script"]) fun _ _ _ _ _ _ us hl => match us, hl with | [_], _ => rfl
  let T : Tx K mg := { t_LEAST_ROUND := _, c_LEAST_ROUND := PySem.W.mg_of X G k_LEAST_ROUND, t_MOST_ROUND := _, c_MOST_ROUND := PySem.W.mg_of X G k_MOST_ROUND, t_MOST_EVENTS := _, c_MOST_EVENTS := PySem.W.mg_of X G k_MOST_EVENTS, t_MOST_SPANS := _, c_MOST_SPANS := PySem.W.mg_of X G k_MOST_SPANS, t_MOST_ON_SPAN := _, c_MOST_ON_SPAN := PySem.W.mg_of X G k_MOST_ON_SPAN, z_ValueError := PySem.W.mg_none_of X G z_ValueError, z_abs := PySem.W.mg_none_of X G z_abs, z_bool := PySem.W.mg_none_of X G z_bool, z_enumerate := PySem.W.mg_none_of X G z_enumerate, z_int := PySem.W.mg_none_of X G z_int, z_isinstance := PySem.W.mg_none_of X G z_isinstance, z_len := PySem.W.mg_none_of X G z_len, z_list := PySem.W.mg_none_of X G z_list, z_max := PySem.W.mg_none_of X G z_max, z_min := PySem.W.mg_none_of X G z_min, z_range := PySem.W.mg_none_of X G z_range, z_str := PySem.W.mg_none_of X G z_str, z_tuple := PySem.W.mg_none_of X G z_tuple, C_Net := CNet, g_Net := PySem.W.mg_of X G a_Net, cl_Net := ⟨pg_Net, hd_Net, po_Net, sa_Net⟩, na_Net_round_length := na_Net_round_length, na_Net_events := na_Net_events, na_Net_spans := na_Net_spans, fBadNet_init := f0, dBadNet_init := _, FBadNet_init := F0, bBadNet_init := b0, fBadTimes_init := f1, dBadTimes_init := _, FBadTimes_init := F1, bBadTimes_init := b1, fUnknownSpan_init := f2, dUnknownSpan_init := _, FUnknownSpan_init := F2, bUnknownSpan_init := b2, fcheck_times := f3, dcheck_times := _, Fcheck_times := F3, bcheck_times := b3, gcheck_times := PySem.W.mg_of X G a3, fminutes_on := f4, dminutes_on := _, Fminutes_on := F4, bminutes_on := b4, gminutes_on := PySem.W.mg_of X G a4, fpassed := f5, dpassed := _, Fpassed := F5, bpassed := b5, gpassed := PySem.W.mg_of X G a5, fbroken := f6, dbroken := _, Fbroken := F6, bbroken := b6, gbroken := PySem.W.mg_of X G a6, fis_span := f7, dis_span := _, Fis_span := F7, bis_span := b7, gis_span := PySem.W.mg_of X G a7, fcheck_net := f8, dcheck_net := _, Fcheck_net := F8, bcheck_net := b8, gcheck_net := PySem.W.mg_of X G a8, fNet_init := f9, dNet_init := _, FNet_init := F9, bNet_init := b9, M_Net := ⟨mk_Net, a9, i9, kc_Net⟩, fNet_eq := f10, dNet_eq := _, FNet_eq := F10, bNet_eq := b10, m_Net_eq := ⟨a10, i10, k10⟩, f_law_cell := f11, d_law_cell := _, F_law_cell := F11, b_law_cell := b11, g_law_cell := PySem.W.mg_of X G a11, f_law_pool := f12, d_law_pool := _, F_law_pool := F12, b_law_pool := b12, g_law_pool := PySem.W.mg_of X G a12, f_law_take := f13, d_law_take := _, F_law_take := F13, b_law_take := b13, g_law_take := PySem.W.mg_of X G a13, f_law_same := f14, d_law_same := _, F_law_same := F14, b_law_same := b14, g_law_same := PySem.W.mg_of X G a14, f_law_length := f15, d_law_length := _, F_law_length := F15, b_law_length := b15, g_law_length := PySem.W.mg_of X G a15, f_law_many := f16, d_law_many := _, F_law_many := F16, b_law_many := b16, g_law_many := PySem.W.mg_of X G a16, f_law_count := f17, d_law_count := _, F_law_count := F17, b_law_count := b17, g_law_count := PySem.W.mg_of X G a17, f_law_any_spans := f18, d_law_any_spans := _, F_law_any_spans := F18, b_law_any_spans := b18, g_law_any_spans := PySem.W.mg_of X G a18, f_law_times := f19, d_law_times := _, F_law_times := F19, b_law_times := b19, g_law_times := PySem.W.mg_of X G a19, f_law_kept_spans := f20, d_law_kept_spans := _, F_law_kept_spans := F20, b_law_kept_spans := b20, g_law_kept_spans := PySem.W.mg_of X G a20, f_law_spoilt := f21, d_law_spoilt := _, F_law_spoilt := F21, b_law_spoilt := b21, g_law_spoilt := PySem.W.mg_of X G a21, f_law_wrong := f22, d_law_wrong := _, F_law_wrong := F22, b_law_wrong := b22, g_law_wrong := PySem.W.mg_of X G a22, f_law_gone := f23, d_law_gone := _, F_law_gone := F23, b_law_gone := b23, g_law_gone := PySem.W.mg_of X G a23, f_law_check_told := f24, d_law_check_told := _, F_law_check_told := F24, b_law_check_told := b24, g_law_check_told := PySem.W.mg_of X G a24, f_law_broken_told := f25, d_law_broken_told := _, F_law_broken_told := F25, b_law_broken_told := b25, g_law_broken_told := PySem.W.mg_of X G a25, f_law_passed_told := f26, d_law_passed_told := _, F_law_passed_told := F26, b_law_passed_told := b26, g_law_passed_told := PySem.W.mg_of X G a26, f_law_passed_good := f27, d_law_passed_good := _, F_law_passed_good := F27, b_law_passed_good := b27, g_law_passed_good := PySem.W.mg_of X G a27, f_law_refused_good := f28, d_law_refused_good := _, F_law_refused_good := F28, b_law_refused_good := b28, g_law_refused_good := PySem.W.mg_of X G a28, f_law_times_good := f29, d_law_times_good := _, F_law_times_good := F29, b_law_times_good := b29, g_law_times_good := PySem.W.mg_of X G a29, f_law_asked := f30, d_law_asked := _, F_law_asked := F30, b_law_asked := b30, g_law_asked := PySem.W.mg_of X G a30, flaw := fa, dlaw := _, Flaw := F31, blaw := b31, glaw := PySem.W.mg_of X G a31, C_DepotError := CDepotError, g_DepotError := PySem.W.mg_of X G a_DepotError, C_BadNet := CBadNet, g_BadNet := PySem.W.mg_of X G a_BadNet, C_BadTimes := CBadTimes, g_BadTimes := PySem.W.mg_of X G a_BadTimes, C_UnknownSpan := CUnknownSpan, g_UnknownSpan := PySem.W.mg_of X G a_UnknownSpan, ty_DepotError := h_ty_DepotError, bs_DepotError := h_bs_DepotError, hd_DepotError := h_hd_DepotError, ty_BadNet := h_ty_BadNet, bs_BadNet := h_bs_BadNet, hd_BadNet := h_hd_BadNet, ty_BadTimes := h_ty_BadTimes, bs_BadTimes := h_bs_BadTimes, hd_BadTimes := h_hd_BadTimes, ty_UnknownSpan := h_ty_UnknownSpan, bs_UnknownSpan := h_bs_UnknownSpan, hd_UnknownSpan := h_hd_UnknownSpan, kp_BadNet := h_kp_BadNet, ga_BadNet := h_ga_BadNet, gg_BadNet := h_gg_BadNet, cl_BadNet := h_cl_BadNet, mr_BadNet := h_mr_BadNet, sb_BadNet_ValueError := h_sb_BadNet_ValueError, sb_BadNet_BadTimes := h_sb_BadNet_BadTimes, sb_BadNet_DepotError := h_sb_BadNet_DepotError, sb_BadNet_UnknownSpan := h_sb_BadNet_UnknownSpan, no_BadNet_part := h_no_BadNet_part, no_BadNet_place := h_no_BadNet_place, sa_BadNet := h_sa_BadNet, kp_BadTimes := h_kp_BadTimes, ga_BadTimes := h_ga_BadTimes, gg_BadTimes := h_gg_BadTimes, cl_BadTimes := h_cl_BadTimes, mr_BadTimes := h_mr_BadTimes, sb_BadTimes_ValueError := h_sb_BadTimes_ValueError, sb_BadTimes_BadTimes := h_sb_BadTimes_BadTimes, sb_BadTimes_DepotError := h_sb_BadTimes_DepotError, sb_BadTimes_UnknownSpan := h_sb_BadTimes_UnknownSpan, no_BadTimes_place := h_no_BadTimes_place, sa_BadTimes := h_sa_BadTimes, kp_UnknownSpan := h_kp_UnknownSpan, ga_UnknownSpan := h_ga_UnknownSpan, gg_UnknownSpan := h_gg_UnknownSpan, cl_UnknownSpan := h_cl_UnknownSpan, mr_UnknownSpan := h_mr_UnknownSpan, sb_UnknownSpan_ValueError := h_sb_UnknownSpan_ValueError, sb_UnknownSpan_BadTimes := h_sb_UnknownSpan_BadTimes, sb_UnknownSpan_DepotError := h_sb_UnknownSpan_DepotError, sb_UnknownSpan_UnknownSpan := h_sb_UnknownSpan_UnknownSpan, no_UnknownSpan_number := h_no_UnknownSpan_number, sa_UnknownSpan := h_sa_UnknownSpan, sp_class := h_sp_class, tk_class := h_tk_class, ic_Net := h_ic_Net, mr_Net := h_mr_Net, ox_BadNet := ⟨⟨nm_BadNet, q_BadNet, N_BadNet, bs_BadNet, _, sn_BadNet, sub_BadNet, ab_BadNet, col_BadNet, dd_BadNet, m0_BadNet, m1_BadNet, m2_BadNet, m3_BadNet, m5_BadNet, xl_BadNet, by rfl⟩, h_sa_BadNet, h_bs_BadNet, h_ty_BadNet, h_kp_BadNet⟩, ni_BadNet := a0, ti_BadNet := i0, ox_BadTimes := ⟨⟨nm_BadTimes, q_BadTimes, N_BadTimes, bs_BadTimes, _, sn_BadTimes, sub_BadTimes, ab_BadTimes, col_BadTimes, dd_BadTimes, m0_BadTimes, m1_BadTimes, m2_BadTimes, m3_BadTimes, m5_BadTimes, xl_BadTimes, by rfl⟩, h_sa_BadTimes, h_bs_BadTimes, h_ty_BadTimes, h_kp_BadTimes⟩, ni_BadTimes := a1, ti_BadTimes := i1, ox_UnknownSpan := ⟨⟨nm_UnknownSpan, q_UnknownSpan, N_UnknownSpan, bs_UnknownSpan, _, sn_UnknownSpan, sub_UnknownSpan, ab_UnknownSpan, col_UnknownSpan, dd_UnknownSpan, m0_UnknownSpan, m1_UnknownSpan, m2_UnknownSpan, m3_UnknownSpan, m5_UnknownSpan, xl_UnknownSpan, by rfl⟩, h_sa_UnknownSpan, h_bs_UnknownSpan, h_ty_UnknownSpan, h_kp_UnknownSpan⟩, ni_UnknownSpan := a2, ti_UnknownSpan := i2 }
  exact ⟨_, fun s v => .of_eq rfl, fun base _ _ => ok_law T⟩
end DD
open PySem PySem.W PyProof.Rows
set_option maxRecDepth 100000 in
set_option maxHeartbeats 0 in
theorem PySem.Challenge.cw_depotday_k14_minutes_that_pass_holds : PySem.Challenge.rw_depotday_k14_minutes_that_pass.Holds := by
  w_on; o_law; k_head; (case hw => w_witness2)
  k_fill
  refine L2.walk_of (l := PySem.Challenge.rw_depotday_k14_minutes_that_pass) (n := 63) (k := 12) (x := "_law_script") (CX := fun _ => L2.CX0) (sp := fun w => DD.spLaw _) rfl (by decide) rfl ⟨rfl, by decide, by decide⟩ (fun w h Y => PySem.W.kIn_of Y) ?F (fun _ _ a ns hl _ hS => ⟨a, ns, rfl, hS, hl, fun _ => rfl⟩) (fun _ _ _ _ _ h => h)
  case F =>
    intro w mg fa h KX G hmg
    refine' DD.all_mk KX G hmg ?k_LEAST_ROUND ?k_MOST_ROUND ?k_MOST_EVENTS ?k_MOST_SPANS ?k_MOST_ON_SPAN ?z_ValueError ?z_abs ?z_bool ?z_enumerate ?z_int ?z_isinstance ?z_len ?z_list ?z_max ?z_min ?z_range ?z_str ?z_tuple ?a_Net ?pg_Net ?hd_Net ?po_Net ?sa_Net ?mk_Net ?kc_Net ?na_Net_round_length ?na_Net_events ?na_Net_spans ?a_DepotError ?a_BadNet ?a_BadTimes ?a_UnknownSpan ?a0 ?i0 ?l0 ?c0 ?k0 ?a1 ?i1 ?l1 ?c1 ?k1 ?a2 ?i2 ?l2 ?c2 ?k2 ?a3 ?l3 ?c3 ?k3 ?a4 ?l4 ?c4 ?k4 ?a5 ?l5 ?c5 ?k5 ?a6 ?l6 ?c6 ?k6 ?a7 ?l7 ?c7 ?k7 ?a8 ?l8 ?c8 ?k8 ?a9 ?i9 ?l9 ?c9 ?k9 ?a10 ?i10 ?l10 ?c10 ?k10 ?a11 ?l11 ?c11 ?k11 ?a12 ?l12 ?c12 ?k12 ?a13 ?l13 ?c13 ?k13 ?a14 ?l14 ?c14 ?k14 ?a15 ?l15 ?c15 ?k15 ?a16 ?l16 ?c16 ?k16 ?a17 ?l17 ?c17 ?k17 ?a18 ?l18 ?c18 ?k18 ?a19 ?l19 ?c19 ?k19 ?a20 ?l20 ?c20 ?k20 ?a21 ?l21 ?c21 ?k21 ?a22 ?l22 ?c22 ?k22 ?a23 ?l23 ?c23 ?k23 ?a24 ?l24 ?c24 ?k24 ?a25 ?l25 ?c25 ?k25 ?a26 ?l26 ?c26 ?k26 ?a27 ?l27 ?c27 ?k27 ?a28 ?l28 ?c28 ?k28 ?a29 ?l29 ?c29 ?k29 ?a30 ?l30 ?c30 ?k30 ?a31 ?l31 ?c31 ?k31 ?h_ty_DepotError ?h_bs_DepotError ?h_hd_DepotError ?h_ty_BadNet ?h_bs_BadNet ?h_hd_BadNet ?h_ty_BadTimes ?h_bs_BadTimes ?h_hd_BadTimes ?h_ty_UnknownSpan ?h_bs_UnknownSpan ?h_hd_UnknownSpan ?h_kp_BadNet ?h_ga_BadNet ?h_gg_BadNet ?h_cl_BadNet ?h_mr_BadNet ?h_sb_BadNet_ValueError ?h_sb_BadNet_BadTimes ?h_sb_BadNet_DepotError ?h_sb_BadNet_UnknownSpan ?h_no_BadNet_part ?h_no_BadNet_place ?h_sa_BadNet ?h_kp_BadTimes ?h_ga_BadTimes ?h_gg_BadTimes ?h_cl_BadTimes ?h_mr_BadTimes ?h_sb_BadTimes_ValueError ?h_sb_BadTimes_BadTimes ?h_sb_BadTimes_DepotError ?h_sb_BadTimes_UnknownSpan ?h_no_BadTimes_place ?h_sa_BadTimes ?h_kp_UnknownSpan ?h_ga_UnknownSpan ?h_gg_UnknownSpan ?h_cl_UnknownSpan ?h_mr_UnknownSpan ?h_sb_UnknownSpan_ValueError ?h_sb_UnknownSpan_BadTimes ?h_sb_UnknownSpan_DepotError ?h_sb_UnknownSpan_UnknownSpan ?h_no_UnknownSpan_number ?h_sa_UnknownSpan ?h_sp_class ?h_tk_class ?h_ic_Net ?h_mr_Net ?xl_BadNet ?xl_BadTimes ?xl_UnknownSpan
    (case k_LEAST_ROUND => k_is)
    (case k_MOST_ROUND => k_is)
    (case k_MOST_EVENTS => k_is)
    (case k_MOST_SPANS => k_is)
    (case k_MOST_ON_SPAN => k_is)
    (case z_ValueError => k_is)
    (case z_abs => k_is)
    (case z_bool => k_is)
    (case z_enumerate => k_is)
    (case z_int => k_is)
    (case z_isinstance => k_is)
    (case z_len => k_is)
    (case z_list => k_is)
    (case z_max => k_is)
    (case z_min => k_is)
    (case z_range => k_is)
    (case z_str => k_is)
    (case z_tuple => k_is)
    (case a_Net => k_is)
    (case pg_Net => k_is)
    (case hd_Net => k_is)
    (case po_Net => k_is)
    (case sa_Net => k_is)
    (case mk_Net => k_is)
    (case kc_Net => k_is)
    (case na_Net_round_length => k_is)
    (case na_Net_events => k_is)
    (case na_Net_spans => k_is)
    (case a_DepotError => k_is)
    (case a_BadNet => k_is)
    (case a_BadTimes => k_is)
    (case a_UnknownSpan => k_is)
    (case a0 => k_is)
    (case i0 => k_is)
    (case l0 => k_is)
    (case c0 => k_is)
    (case k0 => k_is)
    (case a1 => k_is)
    (case i1 => k_is)
    (case l1 => k_is)
    (case c1 => k_is)
    (case k1 => k_is)
    (case a2 => k_is)
    (case i2 => k_is)
    (case l2 => k_is)
    (case c2 => k_is)
    (case k2 => k_is)
    (case a3 => k_is)
    (case l3 => k_is)
    (case c3 => k_is)
    (case k3 => k_is)
    (case a4 => k_is)
    (case l4 => k_is)
    (case c4 => k_is)
    (case k4 => k_is)
    (case a5 => k_is)
    (case l5 => k_is)
    (case c5 => k_is)
    (case k5 => k_is)
    (case a6 => k_is)
    (case l6 => k_is)
    (case c6 => k_is)
    (case k6 => k_is)
    (case a7 => k_is)
    (case l7 => k_is)
    (case c7 => k_is)
    (case k7 => k_is)
    (case a8 => k_is)
    (case l8 => k_is)
    (case c8 => k_is)
    (case k8 => k_is)
    (case a9 => k_is)
    (case i9 => k_is)
    (case l9 => k_is)
    (case c9 => k_is)
    (case k9 => k_is)
    (case a10 => k_is)
    (case i10 => k_is)
    (case l10 => k_is)
    (case c10 => k_is)
    (case k10 => k_is)
    (case a11 => k_is)
    (case l11 => k_is)
    (case c11 => k_is)
    (case k11 => k_is)
    (case a12 => k_is)
    (case l12 => k_is)
    (case c12 => k_is)
    (case k12 => k_is)
    (case a13 => k_is)
    (case l13 => k_is)
    (case c13 => k_is)
    (case k13 => k_is)
    (case a14 => k_is)
    (case l14 => k_is)
    (case c14 => k_is)
    (case k14 => k_is)
    (case a15 => k_is)
    (case l15 => k_is)
    (case c15 => k_is)
    (case k15 => k_is)
    (case a16 => k_is)
    (case l16 => k_is)
    (case c16 => k_is)
    (case k16 => k_is)
    (case a17 => k_is)
    (case l17 => k_is)
    (case c17 => k_is)
    (case k17 => k_is)
    (case a18 => k_is)
    (case l18 => k_is)
    (case c18 => k_is)
    (case k18 => k_is)
    (case a19 => k_is)
    (case l19 => k_is)
    (case c19 => k_is)
    (case k19 => k_is)
    (case a20 => k_is)
    (case l20 => k_is)
    (case c20 => k_is)
    (case k20 => k_is)
    (case a21 => k_is)
    (case l21 => k_is)
    (case c21 => k_is)
    (case k21 => k_is)
    (case a22 => k_is)
    (case l22 => k_is)
    (case c22 => k_is)
    (case k22 => k_is)
    (case a23 => k_is)
    (case l23 => k_is)
    (case c23 => k_is)
    (case k23 => k_is)
    (case a24 => k_is)
    (case l24 => k_is)
    (case c24 => k_is)
    (case k24 => k_is)
    (case a25 => k_is)
    (case l25 => k_is)
    (case c25 => k_is)
    (case k25 => k_is)
    (case a26 => k_is)
    (case l26 => k_is)
    (case c26 => k_is)
    (case k26 => k_is)
    (case a27 => k_is)
    (case l27 => k_is)
    (case c27 => k_is)
    (case k27 => k_is)
    (case a28 => k_is)
    (case l28 => k_is)
    (case c28 => k_is)
    (case k28 => k_is)
    (case a29 => k_is)
    (case l29 => k_is)
    (case c29 => k_is)
    (case k29 => k_is)
    (case a30 => k_is)
    (case l30 => k_is)
    (case c30 => k_is)
    (case k30 => k_is)
    (case a31 => k_is)
    (case l31 => k_is)
    (case c31 => k_is)
    (case k31 => k_is)
    (case h_ty_DepotError => k_is)
    (case h_bs_DepotError => k_is)
    (case h_hd_DepotError => k_is)
    (case h_ty_BadNet => k_is)
    (case h_bs_BadNet => k_is)
    (case h_hd_BadNet => k_is)
    (case h_ty_BadTimes => k_is)
    (case h_bs_BadTimes => k_is)
    (case h_hd_BadTimes => k_is)
    (case h_ty_UnknownSpan => k_is)
    (case h_bs_UnknownSpan => k_is)
    (case h_hd_UnknownSpan => k_is)
    (case h_kp_BadNet => k_is)
    (case h_ga_BadNet => k_is)
    (case h_gg_BadNet => k_is)
    (case h_cl_BadNet => k_is)
    (case h_mr_BadNet => k_is)
    (case h_sb_BadNet_ValueError => k_is)
    (case h_sb_BadNet_BadTimes => k_is)
    (case h_sb_BadNet_DepotError => k_is)
    (case h_sb_BadNet_UnknownSpan => k_is)
    (case h_no_BadNet_part => k_is)
    (case h_no_BadNet_place => k_is)
    (case h_sa_BadNet => k_is)
    (case h_kp_BadTimes => k_is)
    (case h_ga_BadTimes => k_is)
    (case h_gg_BadTimes => k_is)
    (case h_cl_BadTimes => k_is)
    (case h_mr_BadTimes => k_is)
    (case h_sb_BadTimes_ValueError => k_is)
    (case h_sb_BadTimes_BadTimes => k_is)
    (case h_sb_BadTimes_DepotError => k_is)
    (case h_sb_BadTimes_UnknownSpan => k_is)
    (case h_no_BadTimes_place => k_is)
    (case h_sa_BadTimes => k_is)
    (case h_kp_UnknownSpan => k_is)
    (case h_ga_UnknownSpan => k_is)
    (case h_gg_UnknownSpan => k_is)
    (case h_cl_UnknownSpan => k_is)
    (case h_mr_UnknownSpan => k_is)
    (case h_sb_UnknownSpan_ValueError => k_is)
    (case h_sb_UnknownSpan_BadTimes => k_is)
    (case h_sb_UnknownSpan_DepotError => k_is)
    (case h_sb_UnknownSpan_UnknownSpan => k_is)
    (case h_no_UnknownSpan_number => k_is)
    (case h_sa_UnknownSpan => k_is)
    (case h_sp_class => k_is)
    (case h_tk_class => k_is)
    (case h_ic_Net => k_is)
    (case h_mr_Net => k_is)
    (case xl_BadNet => k_is)
    (case xl_BadTimes => k_is)
    (case xl_UnknownSpan => k_is)
#print axioms PySem.Challenge.cw_depotday_k14_minutes_that_pass_holds
