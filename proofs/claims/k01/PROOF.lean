import PyProof.Rows.All
import Wide.All
import OpenK.AllK
import Wide.FinOn
import HandS.ForMost
import HandS.ForExc
import HandS.IsInst
import HandS.Conv
import HandS.NoneIn
import HandS.OwnEq
import HandS.OwnIter
import HandS.ExcIs
import HandS.More
import KE.KOpsOwn
import HandS.IterNext
import HandS.ExcOwn
import PyProof.WalksMore
import KE.KDictZip
import HandS.Rev
import PySem.Challenge.RW_depotday_k01_load_operators
set_option Elab.async false
set_option linter.all false
set_option maxRecDepth 100000
set_option maxHeartbeats 16000000
namespace KO
open PySem PySem.Spec PyProof.Rows L2
/-! ### operators that the text's own classes define -/
section
variable {X : Cx} {CX : CXT} {k : Nat} {f C : Addr} {fd : FuncData} {ps : List Str} {sp : Sp} {E : L2.St → XK}
/-- a method runs, called with values, somewhere with room -/
theorem own_run {A : Around} {pins : List (Addr × Obj)} {σ : L2.St} {H : Hp} {s : Shared} {Q : VK} {us : List Value} {vs : List V} (F : FnOk X.prog X.w X.K X.mg X.base CX k f fd ps sp) (hr : Room k A) (fr : A.frames = X.A.frames) (hb : Binds X.K fd ps [])
    (hx : PassesAt CX X σ (E σ)) (I : Inv X pins σ H s) (r : Vals vs us) (h : sp vs H Q (E σ)) : wpAny (model X.prog X.w) A (call (.ref f) us) (EP X pins σ Q) X.xe s := by
  have hl : us.length = ps.length := r.length.symm.trans (F.len _ _ _ _ h)
  have b := hb s us I.kIn (by rw [List.append_nil]; exact hl)
  rw [List.append_nil] at b
  have e := I.env0
  have e2 : Env0 X.prog X.w X.K X.mg X.base A X.stack s H := ⟨by rw [fr]; exact e.frames, e.mod, e.bs, e.bsz, e.funs, e.frf, e.hok, e.bare⟩
  refine wpAny_call (codeAny_mono (F.run A X.stack s H ⟨us, []⟩ us vs Q (E σ) hr e2 b r h) fun r s' hq => ?_)
  cases r with
  | error e => exact hx pins H s e s' I hq
  | ok fl =>
    cases fl with
    | ret u => exact I.after hq
    | next => exact hq.elim
    | brk => exact hq.elim
    | cont => exact hq.elim
theorem inst_at {pins : List (Addr × Obj)} {σ : L2.St} {H : Hp} {s : Shared} {a dx : Addr} {fs : List (Str × V)} (I : Inv X pins σ H s) (ha : H a = some (.ins C dx fs)) : ∃ ox od, PySem.W.InstAt s.heap a ox C od := by
  obtain ⟨mA, J, _⟩ := ins_get I.hok ha
  obtain ⟨od, J, _⟩ := J.look
  exact ⟨_, _, J⟩
theorem vref {a : Addr} : RelV (.ref a) (Value.ref a) := rfl
/-- len(o) -/
def rLen (C : Addr) (sp : Sp) (E : XK) : List V → Hp → VK → Prop := fun xs H Q => ∃ a dx fs, xs = [.ref a] ∧ H a = some (.ins C dx fs) ∧ sp [.ref a] H (fun v H' => ∃ n : Int, v = .int n ∧ 0 ≤ n ∧ n < 2 ^ 63 ∧ Q (.int n) H') E
theorem len_own {E : XK} (m : Meth X.K C "__len__" f) (F : FnOk X.prog X.w X.K X.mg X.base CX k f fd ps sp) (hr : Room (k + 1) X.A) (hb : Binds X.K fd ps []) (hx : ∀ σ, PassesAt CX X σ E) : CallR X (.builtin "len") (rLen C sp E) := by
  intro pins s σ H xs us Q I r h
  obtain ⟨a, dx, fs, rfl, ha, q⟩ := h
  rw [Vals.ref1 r]
  obtain ⟨ox, od, J⟩ := inst_at I ha
  obtain ⟨m', hF⟩ := I.fr
  refine PySem.W.len_K hF I.ok.mod.kin J m.at_ m.fn (wpAny_mono (own_run (E := fun _ => E) (A := X.A.in1) F hr.in1 rfl hb (hx σ) I (.cons vref .nil) q) (fun u s' hu => ?_) fun _ _ x => x)
  obtain ⟨v, H', I', rv, n, rfl, n0, n1, q'⟩ := hu
  obtain ⟨t, rfl⟩ := rv
  exact ⟨⟨n0, n1⟩, .int n, H', I'.tok _, ⟨_, rfl⟩, q'⟩
/-- x in o -/
def rInO (C : Addr) (sp : Sp) (E : XK) : R2 := fun x y H Q => ∃ a dx fs, y = .ref a ∧ H a = some (.ins C dx fs) ∧ sp [.ref a, x] H (fun v H' => ∃ b, v = .bl b ∧ Q (.bl b) H') E
theorem in_own {E : XK} (m : Meth X.K C "__contains__" f) (F : FnOk X.prog X.w X.K X.mg X.base CX k f fd ps sp) (hr : Room k X.A) (hb : Binds X.K fd ps []) (hx : ∀ σ, PassesAt CX X σ E) : OpR X (compareOp .In) (rInO C sp E) := by
  intro pins s σ H x y v u Q I rx ry h
  obtain ⟨a, dx, fs, rfl, ha, q⟩ := h
  cases ry
  obtain ⟨ox, od, J⟩ := inst_at I ha
  obtain ⟨m', hF⟩ := I.fr
  refine PySem.W.in_K hF I.ok.mod.kin J m.at_ m.fn (wpAny_mono (own_run (E := fun _ => E) F hr rfl hb (hx σ) I (.cons vref (.cons rx .nil)) q) (fun u s' hu => ?_) fun _ _ x => x)
  obtain ⟨v, H', I', rv, b, rfl, q'⟩ := hu
  cases rv
  exact wpAny_truthy_bool ⟨.bl b, H', I', rfl, q'⟩
/-- o == p, both of the class -/
def rEqO (C : Addr) (sp : Sp) (E : XK) : R2 := fun x y H Q => ∃ a dx fs b dy gs, x = .ref a ∧ y = .ref b ∧ H a = some (.ins C dx fs) ∧ H b = some (.ins C dy gs) ∧ sp [.ref a, .ref b] H (fun v H' => ∃ c, v = .bl c ∧ Q (.bl c) H') E
theorem eq_own {E : XK} (m : Meth X.K C "__eq__" f) (F : FnOk X.prog X.w X.K X.mg X.base CX k f fd ps sp) (hr : Room k X.A) (hb : Binds X.K fd ps []) (hx : ∀ σ, PassesAt CX X σ E) : OpR X (compareOp .Eq) (rEqO C sp E) := by
  intro pins s σ H x y v u Q I rx ry h
  obtain ⟨a, dx, fs, b, dy, gs, rfl, rfl, ha, hb', q⟩ := h
  cases rx
  cases ry
  obtain ⟨ox, od, J⟩ := inst_at I ha
  obtain ⟨oy, od', J'⟩ := inst_at I hb'
  obtain ⟨m', hF⟩ := I.fr
  refine PySem.W.cmp_K (op := .Eq) (tb := .ref C) hr.units0 hF I.ok.mod.kin J J'.type (by simp [PySem.W.notFirst]) m.at_ m.fn (wpAny_mono (own_run (E := fun _ => E) F hr rfl hb (hx σ) I (.cons vref (.cons vref .nil)) q) (fun u s' hu => ?_) fun _ _ x => x)
  obtain ⟨v, H', I', rv, c, rfl, q'⟩ := hu
  cases rv
  exact ⟨.bl c, H', I', rfl, q'⟩
/-- o[i], in the place of an expression: the subscript is written plainly -/
def tSubO (C : Addr) (sp : Sp) (E : L2.St → XK) (ta tb : TE) : TE := fun σ H Q => ta σ H fun x H1 => tb σ H1 fun y H2 => ∃ a dx fs, x = .ref a ∧ H2 a = some (.ins C dx fs) ∧ sp [.ref a, y] H2 Q (E σ)
theorem pe_subOwn {a b : Expr} {ta tb : TE} {pos : Pos} (m : Meth X.K C "__getitem__" f) (hfn : PySem.W.fnIn X.K f = true) (F : FnOk X.prog X.w X.K X.mg X.base CX k f fd ps sp) (hr : Room (k + 1) X.A) (hb : Binds X.K fd ps []) (hx : ∀ σ, PassesAt CX X σ (E σ))
    (ha : PE X a ta) (hb' : PE X b tb) (hs : ∀ o i, subscripted b true o i = runValue (.builtin "lifetime.subscript" ⟨[o, i], []⟩) := by intro _ _; with_unfolding_all rfl) : PE X (.Subscript a b pos) (tSubO C sp E ta tb) := by
  refine ⟨fun pins s σ H Q I h => ?_⟩
  refine Subscript_ (binT ha hb' (R := fun x y H2 => ∃ a dx fs, x = .ref a ∧ H2 a = some (.ins C dx fs) ∧ sp [.ref a, y] H2 Q (E σ)) I h fun v u s2 x y H2 I2 rx ry q => ?_)
  obtain ⟨o, dx, fs, rfl, ho, q⟩ := q
  cases rx
  obtain ⟨ox, od, J⟩ := inst_at I2 ho
  obtain ⟨m', hF⟩ := I2.fr
  exact PySem.W.sub_K hF I2.ok.mod.kin J m.at_ hfn m.fn (own_run (A := X.A.in1) F hr.in1 rfl hb (hx σ) I2 (.cons vref (.cons ry .nil)) q) (hs _ _)
/-- o[i] = v -/
def rPutO (C : Addr) (sp : Sp) (E : XK) : V → V → V → Hp → (Hp → Prop) → Prop := fun o i v H Q => ∃ a dx fs, o = .ref a ∧ H a = some (.ins C dx fs) ∧ sp [.ref a, i, v] H (fun _ H' => Q H') E
theorem put_own {E : XK} (m : Meth X.K C "__setitem__" f) (hq : PySem.W.noSeq X.K C = true) (F : FnOk X.prog X.w X.K X.mg X.base CX k f fd ps sp) (hr : Room k X.A) (hb : Binds X.K fd ps []) (hx : ∀ σ, PassesAt CX X σ E) : PSet X (rPutO C sp E) := by
  intro pins s σ H o i v ov iv u Q I ro ri rv h
  obtain ⟨a, dx, fs, rfl, ha, q⟩ := h
  cases ro
  obtain ⟨ox, od, J⟩ := inst_at I ha
  obtain ⟨m', hF⟩ := I.fr
  refine PySem.W.ksp_setItem hF I.ok.mod.kin J hq m.at_ m.fn (wpAny_mono (own_run (E := fun _ => E) F hr rfl hb (hx σ) I (.cons vref (.cons ri (.cons rv .nil))) q) (fun w s' hw => ?_) fun _ _ x => x)
  obtain ⟨v', H', I', _, q'⟩ := hw
  exact ⟨H', I', q'⟩
/-- o[i] = v in a try: what is raised is wished for at the slots -/
def tPutO (C : Addr) (sp : Sp) (E : L2.St → XK) (to ti tv : TE) : TS := fun D σ H => tv σ H fun v H1 => to σ H1 fun o H2 => ti σ H2 fun i H3 => ∃ a dx fs, o = .ref a ∧ H3 a = some (.ins C dx fs) ∧ sp [.ref a, i, v] H3 (fun _ H' => D.nx σ H') (E σ)
/-- abs(o) -/
def rAbs (C : Addr) (sp : Sp) (E : XK) : List V → Hp → VK → Prop := fun xs H Q => ∃ a dx fs, xs = [.ref a] ∧ H a = some (.ins C dx fs) ∧ sp [.ref a] H Q E
theorem abs_own {E : XK} (m : Meth X.K C "__abs__" f) (F : FnOk X.prog X.w X.K X.mg X.base CX k f fd ps sp) (hr : Room (k + 1) X.A) (hb : Binds X.K fd ps []) (hx : ∀ σ, PassesAt CX X σ E) : CallR X (.builtin "abs") (rAbs C sp E) := by
  intro pins s σ H xs us Q I r h
  obtain ⟨a, dx, fs, rfl, ha, q⟩ := h
  rw [Vals.ref1 r]
  obtain ⟨ox, od, J⟩ := inst_at I ha
  refine Calls.call_function_entry kind_abs plain_abs entry_abs (args_abs _) ?_
  unfold Builtin.«abs»
  refine wpAny_bind (m := oneArg "abs" _) (wpAny_pure ?_)
  refine wpAny_bind (m := callSpecial? (.ref a) (Str.ofString "__abs__")) (PySem.W.special_fn I.kIn J m.at_ (beq_iff_eq.mp m.fn) (wpAny_mono (own_run (E := fun _ => E) (A := X.A.in1) F hr.in1 rfl hb (hx σ) I (.cons vref .nil) q) (fun u s' hu => ?_) fun _ _ x => x))
  exact wpAny_pure ⟨_, rfl, hu⟩
/-- bool(o) -/
def rBool (C : Addr) (sp : Sp) (E : XK) : List V → Hp → VK → Prop := fun xs H Q => ∃ a dx fs, xs = [.ref a] ∧ H a = some (.ins C dx fs) ∧ sp [.ref a] H (fun v H' => ∃ b, v = .bl b ∧ Q (.bl b) H') E
theorem bool_own {E : XK} (m : Meth X.K C "__bool__" f) (F : FnOk X.prog X.w X.K X.mg X.base CX k f fd ps sp) (hr : Room (k + 2) X.A) (hb : Binds X.K fd ps []) (hx : ∀ σ, PassesAt CX X σ E) : CallR X (.type "bool") (rBool C sp E) := by
  intro pins s σ H xs us Q I r h
  obtain ⟨a, dx, fs, rfl, ha, q⟩ := h
  rw [Vals.ref1 r]
  obtain ⟨ox, od, J⟩ := inst_at I ha
  obtain ⟨m', hF⟩ := I.fr
  refine callType_newIn (S := fun A' R s' => wpAny (model X.prog X.w) A'.in1 (truthy (.ref a)) (fun b s2 => R (.ok (.ret (.bool b))) s2) (fun e s2 => R (.error e) s2) s') PySem.F.called_bool PySem.F.newNe_bool (PySem.F.typeCall_bool_1 _) (PySem.F.newCall_bool_1 _) (fun obj => PySem.F.args_object_init_2 obj _) PySem.F.entry_bool_new (.of_wp fun A' R s' hs => ?_) ?_
  · obtain ⟨hp, g, d, tk, os⟩ := s'
    have f1 := PySem.F.conv_sub_bool
    unfold Builtin.«bool.__new__»
    repeat ((fail_if_success (with_reducible show wpAny _ _ (truthy _) _ _ _)); (fail_if_success (with_reducible show wpAny _ _ (truthy _ >>= _) _ _ _)); (first | assumption | wp_step))
    show wpAny _ _ (truthy (.ref a) >>= fun b => ret (.bool b)) _ _ _
    refine wpAny_bind (wpAny_mono hs (fun b s2 h2 => ?_) fun _ _ x => x)
    exact wpAny_pure ⟨_, rfl, h2⟩
  · refine PySem.W.truthy_K hF I.ok.mod.kin J m.at_ m.fn (wpAny_mono (own_run (E := fun _ => E) (A := X.A.in1.in1) F hr.in1.in1 rfl hb (hx σ) I (.cons vref .nil) q) (fun u s' hu => ?_) fun _ _ x => x)
    obtain ⟨v, H', I', rv, b, rfl, q'⟩ := hu
    cases rv
    exact ⟨PySem.typeIs_bool _ _, .bl b, H', I', rfl, q'⟩
/-- any of a list of ints -/
def rAnyI (K : PySem.W.Frag) : List V → Hp → VK → Prop := fun vs H Q => ∃ (a : Addr) (ns : List Int), vs = [V.ref a] ∧ SqL K H a (ns.map V.int) ∧ Q (.bl (ns.any fun n => n != 0)) H
theorem truth_ints {prog : Program} {w : World} {A : Around} {ns : List Int} {its : List Value} (e : IntsAre its ns) : TruthOf prog w A (fun i v => its.toArray[i]? = some v) (fun i => (ns.map fun n => n != 0).getD i false) := fun i v s Q E hv hq => by
  have hv' : its[i]? = some v := by simpa using hv
  have hi : i < ns.length := by
    have := (List.getElem?_eq_some_iff.mp hv').1
    have := IntsAre.length e
    omega
  obtain ⟨t, ht⟩ := e.get i _ (List.getElem?_eq_getElem hi)
  have ev : v = .int ns[i] t := Option.some.inj (hv'.symm.trans ht)
  subst ev
  have hg : (ns.map fun n => n != 0).getD i false = (ns[i] != 0) := by
    rw [List.getD_eq_getElem?_getD, List.getElem?_map, List.getElem?_eq_getElem hi]
    rfl
  have hq' : Q ((ns.map fun n => n != 0).getD i false) s := hq
  rw [hg] at hq'
  exact P.truthy_int hq'
theorem cr_anyI (hc : X.calm = true) : CallR X (.builtin "any") (rAnyI X.K) := by
  intro pins s σ H vs us Q I r h
  obtain ⟨a, ns, rfl, hs, q⟩ := h
  obtain ⟨its, rv, pl, _⟩ := I.list hs
  rw [Vals.ref1 r]
  have hi := ints_of_vals rv
  refine call_any_walk (iter_any pl.isList fun s2 e2 st ne => ?_)
  subst e2
  refine ⟨_, _, _, _, _, _, _, rfl, Walks.list (A := X.A.in1) (I.ok.hd hc) _ a ne its.toArray, st, truth_ints hi, fun h' tk hk => ?_⟩
  refine ⟨.bl _, H, I.kept fun b o eo => hk b o (fun z => ?_) (Heap.get?_push_of_some _ eo), ?_, q⟩
  · exact absurd (List.mem_singleton.mp z ▸ Heap.lt_size eo) (Nat.lt_irrefl _)
  · show Value.bool _ = Value.bool _
    have e1 := any_range (ns.map fun n => n != 0)
    rw [List.length_map, List.any_map] at e1
    rw [List.size_toArray, IntsAre.length hi]
    exact congrArg Value.bool e1
end
end KO

namespace KO
open PySem PySem.Spec PyProof.Rows L2
section
variable {prog : Program} {w : World} {A : Around} {E : Value → Shared → Prop} {s : Shared} {it l : Addr} {i : Nat} {items : Array Value}
theorem pyNext_item {x : Value} {Q : Option Value → Shared → Prop} (ho : s.heap.get? it = some (GNX.itObj l i)) (hl : s.heap.IsList l items) (hx : items[i]? = some x)
    (hQ : ∀ h', h'.get? it = some (GNX.itObj l (i + 1)) → Heap.SameBut it s.heap h' → Q (some x) { s with heap := h' }) : wpAny (model prog w) A (pyNext (.ref it)) Q E s := by
  have hT : s.TypeIs (.ref it) "list_iterator" := ⟨_, ho, rfl⟩
  unfold pyNext
  refine wpAny_bind (wpAny_attempt (wpAny_callSpecial?_slot (name := Str.ofString "__next__") hT slot_listiter_next
    (wpAny_call_entry slot_listiter_next hT entry_listiter_next ?_ (args_listiter_next _))))
  exact GNX.next_item ho hl hx fun h' e sb => wpAny_pure (hQ h' e sb)
theorem pyNext_end {Q : Option Value → Shared → Prop} (hh : A.handled = none) (ho : s.heap.get? it = some (GNX.itObj l i)) (hl : s.heap.IsList l items) (hx : items[i]? = none)
    (hQ : ∀ h1 h', h1.get? it = some (GNX.itEnd i) → Heap.SameBut it s.heap h1 → (∀ b o, h1.get? b = some o → h'.get? b = some o) → Q none { s with heap := h' }) : wpAny (model prog w) A (pyNext (.ref it)) Q E s := by
  have hT : s.TypeIs (.ref it) "list_iterator" := ⟨_, ho, rfl⟩
  unfold pyNext
  refine wpAny_bind (wpAny_attempt (wpAny_callSpecial?_slot (name := Str.ofString "__next__") hT slot_listiter_next
    (wpAny_call_entry slot_listiter_next hT entry_listiter_next ?_ (args_listiter_next _))))
  refine GNX.next_end hh ho hl hx fun h1 h' e vs e1 sb k ne he hv => ?_
  refine wpAny_bind (wpAny_isInstance (T := "StopIteration") (b := true) ⟨_, he, rfl⟩ isSubtype_stop ?_)
  exact wpAny_pure (hQ h1 h' e1 sb k)
end
section
variable {X : Cx} {k kl ki : Nat} {f fi fl C : Addr} {fd fdI fdL : FuncData} {ps psI psL : List Str} {sp spI spL : Sp}
/-- a method that raises nothing runs under any wish -/
theorem own_run0 {A : Around} {pins : List (Addr × Obj)} {σ : L2.St} {H : Hp} {s : Shared} {Q : VK} {us : List Value} {vs : List V} {E' : Value → Shared → Prop} (F : FnOk X.prog X.w X.K X.mg X.base CX0 k f fd ps sp) (hr : Room k A) (fr : A.frames = X.A.frames) (hb : Binds X.K fd ps [])
    (I : Inv X pins σ H s) (r : Vals vs us) (h : sp vs H Q E0) : wpAny (model X.prog X.w) A (call (.ref f) us) (EP X pins σ Q) E' s := by
  have hl : us.length = ps.length := r.length.symm.trans (F.len _ _ _ _ h)
  have b := hb s us I.kIn (by rw [List.append_nil]; exact hl)
  rw [List.append_nil] at b
  have e := I.env0
  have e2 : Env0 X.prog X.w X.K X.mg X.base A X.stack s H := ⟨by rw [fr]; exact e.frames, e.mod, e.bs, e.bsz, e.funs, e.frf, e.hok, e.bare⟩
  refine wpAny_call (codeAny_mono (F.run A X.stack s H ⟨us, []⟩ us vs Q E0 hr e2 b r h) fun r s' hq => ?_)
  cases r with
  | error e => exact hq.elim
  | ok fl =>
    cases fl with
    | ret u => exact I.after hq
    | next => exact hq.elim
    | brk => exact hq.elim
    | cont => exact hq.elim
theorem upd3 {H : Hp} {a b : Addr} {x y z : HO} (ne : a ≠ b) : upd (upd (upd H a x) b y) a z = upd (upd H a z) b y := by
  funext c
  by_cases h1 : c = a
  · rw [h1, upd_same, upd_ne ne, upd_same]
  · rw [upd_ne h1]
    by_cases h2 : c = b
    · rw [h2, upd_same, upd_same]
    · rw [upd_ne h2, upd_ne h2, upd_ne h1, upd_ne h1]
/-- the loop of extend over a list's iterator at it, whose list at l is neither the iterator nor the one that is filled -/
theorem it_loop {A1 : Around} {pins : List (Addr × Obj)} {σ : L2.St} {R : Result → Shared → Prop} {H0 : Hp} {l it S : Addr} {zs : List V} (hh : A1.in1.handled = none) (lit : l ≠ it) (itS : it ≠ S) (lS : l ≠ S)
    (hl : H0 l = some (.lst zs)) (hn : zs.length ≤ 1000)
    (hR : ∀ s, Inv X pins σ (upd (upd H0 it (ItE it zs.length)) S (.lst zs)) s → R (.ok (.ret .none)) s) :
    ∀ k i s, zs.length - i = k → i ≤ zs.length → Inv X pins σ (upd (upd H0 it (ItO l it i)) S (.lst (zs.take i))) s → codeAny (model X.prog X.w) A1 (.builtin "list.extend.loop" ⟨[.ref S, .ref it, .none], []⟩) R s := by
  intro k
  induction k with
  | zero =>
    intro i s hk hi I
    have e : i = zs.length := by omega
    subst e
    have hit : (upd (upd H0 it (ItO l it zs.length)) S (.lst (zs.take zs.length))) it = some (ItO l it zs.length) := by rw [upd_ne itS, upd_same]
    have hl1 : (upd (upd H0 it (ItO l it zs.length)) S (.lst (zs.take zs.length))) l = some (.lst zs) := by rw [upd_ne lS, upd_ne lit]; exact hl
    obtain ⟨z, its, c, rv, hlen, el⟩ := I.lstM hl1
    refine codeAny_builtin PySem.F.entry_extend_loop ?_
    rw [Around.under_plainId PySem.F.plain_extend_loop _]
    show wpAny _ A1.in1 (pyNext (.ref it) >>= _) _ _ s
    refine wpAny_bind (pyNext_end (l := l) (i := zs.length) (items := its.toArray) hh (itO_get I hit) ⟨_, el, rfl, _, rfl⟩ (by rw [List.getElem?_toArray]; exact rv.none_of (by simp)) fun h1 h' e1 sb kk => ?_)
    refine wpAny_pure (hR _ ?_)
    have mu : Mut ((upd (upd H0 it (ItO l it zs.length)) S (.lst (zs.take zs.length))) it) := by rw [hit]; exact True.intro
    have I2 := I.write (x := it) (e := it) (h' := h') (t' := s.toks) (o := ItE it zs.length) mu (.inl rfl) (fun b o nb z => kk _ _ ((sb.2 b nb).trans z)) ⟨_, kk _ _ e1⟩ (itE_ok (kk _ _ e1))
    have eH : upd (upd (upd H0 it (ItO l it zs.length)) S (.lst (zs.take zs.length))) it (ItE it zs.length) = upd (upd H0 it (ItE it zs.length)) S (.lst zs) := by
      rw [upd3 itS, List.take_length]
    rw [eH] at I2
    exact I2
  | succ k ih =>
    intro i s hk hi I
    have hlt : i < zs.length := by omega
    have hit : (upd (upd H0 it (ItO l it i)) S (.lst (zs.take i))) it = some (ItO l it i) := by rw [upd_ne itS, upd_same]
    have hl1 : (upd (upd H0 it (ItO l it i)) S (.lst (zs.take i))) l = some (.lst zs) := by rw [upd_ne lS, upd_ne lit]; exact hl
    obtain ⟨z, its, c, rv, hlen, el⟩ := I.lstM hl1
    obtain ⟨u, hu, ru⟩ := rv.get (List.getElem?_eq_getElem hlt)
    refine codeAny_builtin PySem.F.entry_extend_loop ?_
    rw [Around.under_plainId PySem.F.plain_extend_loop _]
    show wpAny _ A1.in1 (pyNext (.ref it) >>= _) _ _ s
    refine wpAny_bind (pyNext_item (l := l) (i := i) (items := its.toArray) (itO_get I hit) ⟨_, el, rfl, _, rfl⟩ (by rw [List.getElem?_toArray]; exact hu) fun h' e1 sb => ?_)
    have mu : Mut ((upd (upd H0 it (ItO l it i)) S (.lst (zs.take i))) it) := by rw [hit]; exact True.intro
    have I2 := I.write (x := it) (e := it) (h' := h') (t' := s.toks) (o := ItO l it (i + 1)) mu (.inl rfl) (fun b o nb z => (sb.2 b nb).trans z) ⟨_, e1⟩ (itO_ok e1)
    have eH : upd (upd (upd H0 it (ItO l it i)) S (.lst (zs.take i))) it (ItO l it (i + 1)) = upd (upd H0 it (ItO l it (i + 1))) S (.lst (zs.take i)) := by
      rw [upd3 itS]
    rw [eH] at I2
    have hS : (upd (upd H0 it (ItO l it (i + 1))) S (.lst (zs.take i))) S = some (.lst (zs.take i)) := upd_same
    obtain ⟨z2, its2, c2, rv2, hlen2, e2⟩ := I2.lstM hS
    show wpAny _ A1.in1 (updateSeq S (·.push u) >>= _) _ _ _
    have hl2 := rv2.length
    rw [List.length_take] at hl2
    refine wpAny_bind (wpAny_updateSeq e2 rfl (wpAny_pure ⟨plainId_quiet PySem.F.plain_extend_loop _, ?_⟩) (by rw [List.size_toArray, sizeLine_eq]; omega) (by show (its2.toArray.push u).size ≤ sizeLine + 1; rw [Array.size_push, List.size_toArray, sizeLine_eq]; omega))
    have I3 := I2.lset (f := (·.push u)) (its' := its2 ++ [u]) (ys := zs.take i ++ [zs[i]]) (t' := s.toks) hS e2 (by simp) (rv2.append (.cons ru .nil)) (by rw [List.length_append, List.length_singleton, sizeLine_eq]; omega)
    rw [upd_upd] at I3
    refine ih (i + 1) _ (by omega) hlt ?_
    rw [List.take_add_one, List.getElem?_eq_getElem hlt]
    exact I3
/-- list(o): o has its own __iter__, which hands back a list's iterator, and its own __len__; neither raises -/
def rListO (K : PySem.W.Frag) (C : Addr) (spI spL : Sp) : List V → Hp → VK → Prop := fun xs H Q => ∃ a dx fs, xs = [.ref a] ∧ H a = some (.ins C dx fs) ∧ ∀ S, H S = none →
  spI [.ref a] (upd H S (.lst [])) (fun v H1 => ∃ (it l : Addr) (zs : List V), v = .ref it ∧ H1 it = some (ItO l it 0) ∧ H1 l = some (.lst zs) ∧ H1 S = some (.lst []) ∧ H1 a = some (.ins C dx fs) ∧ zs.length ≤ 1000 ∧ it ≠ S ∧ l ≠ it ∧ l ≠ S ∧
    spL [.ref a] H1 (fun v H2 => ∃ n : Int, v = .int n ∧ 0 ≤ n ∧ n ≤ 1000 ∧ H2 = H1 ∧ Q (.ref S) (upd (upd H1 it (ItE it zs.length)) S (.lst zs))) E0) E0
theorem listOwn (mi : Meth X.K C "__iter__" fi) (ml : Meth X.K C "__len__" fl) (FI : FnOk X.prog X.w X.K X.mg X.base CX0 k fi fdI psI spI) (bI : Binds X.K fdI psI []) (FL : FnOk X.prog X.w X.K X.mg X.base CX0 k fl fdL psL spL) (bL : Binds X.K fdL psL [])
    (hc : X.calm = true) (hr : Room (k + 3) X.A) : CallR X (.type "list") (rListO X.K C spI spL) := by
  intro pins s σ H xs us Q I r h
  obtain ⟨a, dx, fs, rfl, ha, hq⟩ := h
  rw [Vals.ref1 r]
  refine callType_codes (Q₁ := fun x s1 => x = .ref s.heap.objs.size ∧ s1 = { s with heap := s.heap.push { cls := .type "list", data := .seq #[] } }) PySem.F.called_list (PySem.F.typeCall_list_1 _) PySem.F.entry_list_init (code_list_new _ ⟨rfl, rfl⟩) fun x s1 h1 => ?_
  obtain ⟨rfl, rfl⟩ := h1
  have got : (s.heap.push { cls := .type "list", data := .seq #[] }).get? s.heap.objs.size = some { cls := .type "list", data := .seq #[] } := Heap.get?_push_size _ rfl
  refine ⟨⟨_, got, rfl⟩, PySem.F.args_list_init_2 _ _, ?_⟩
  have fr : H s.heap.objs.size = none := I.hok.fresh (Nat.le_refl _)
  have hsp := hq _ fr
  have I1 : Inv X pins σ (upd H s.heap.objs.size (.lst [])) { s with heap := s.heap.push { cls := .type "list", data := .seq #[] } } := I.lnew (its := []) (t' := s.toks) .nil (Nat.zero_le _)
  generalize s.heap.objs.size = S at got fr hsp I1 ⊢
  show wpAny _ _ (do let old ← Builtin.List.listItems (.ref S); Builtin.List.listUpdate (.ref S) (fun _ => #[]); letGo old.toList.reverse; Builtin.List.listExtendWith (.ref S) (.ref a) .none) _ _ _
  refine wpAny_bind ?_
  unfold Builtin.List.listItems
  refine wpAny_bind (wpAny_seqItems got rfl (wpAny_pure ?_))
  show wpAny _ _ (updateSeq S (fun _ => #[]) >>= fun _ => letGo (#[] : Array Value).toList.reverse >>= fun _ => Builtin.List.listExtendWith (.ref S) (.ref a) .none) _ _ _
  refine wpAny_bind (wpAny_updateSeq got rfl ?_)
  have I2 := I1.lset (f := fun _ => #[]) (its := []) (its' := []) (ys := []) (t' := s.toks) upd_same got rfl .nil (Nat.zero_le _)
  rw [upd_upd] at I2
  refine wpAny_bind (wpAny_letGo ?_)
  generalize ({ s with heap := (s.heap.push { cls := .type "list", data := .seq #[] }).update S (Obj.mapSeq fun _ => #[]) } : Shared) = s2 at I2 ⊢
  have ha2 : upd H S (.lst []) a = some (.ins C dx fs) := by rw [upd_ne (ne_of_none ha fr)]; exact ha
  have ne1 : S ≠ a := fun z => by rw [← z, fr] at ha; cases ha
  obtain ⟨ox, od, J⟩ := inst_at I2 ha2
  obtain ⟨m0, hF⟩ := I2.fr
  unfold Builtin.List.listExtendWith
  refine wpAny_bind (J.type.here ?_)
  have b1 : Builtin.List.listSameRef (.ref S) (.ref a) = false := by simp [Builtin.List.listSameRef, ne1]
  have b2 : (Value.ref C == Value.type "list") = false := rfl
  have b3 : (Value.ref C == Value.type "tuple") = false := rfl
  simp only [b1, b2, b3, Bool.or_false, Bool.false_eq_true, if_false]
  refine wpAny_bind (PySem.W.owit_iter hF I2.ok.mod.kin J mi.at_ mi.fn (wpAny_mono (own_run0 (A := X.A.in1.in1) FI (hr.mono (by omega) : Room (k + 2) X.A).in1.in1 rfl bI I2 (.cons vref .nil) hsp) (fun u s3 hu => ?_) fun _ _ x => x))
  obtain ⟨v, H3, I3, rv, it, l, zs, rfl, hit, hl, hS, ha3, hz, itS, lit, lS, hlen⟩ := hu
  cases rv
  have oit := itO_get I3 hit
  unfold PySem.W.OwitIt
  refine wpAny_specialOf (show s3.TypeIs (.ref it) "list_iterator" from ⟨_, oit, rfl⟩) slot_listiter_next.lookup ?_
  show wpAny _ _ _ _ _ s3
  obtain ⟨ox3, od3, J3⟩ := inst_at I3 ha3
  obtain ⟨m3, hF3⟩ := I3.fr
  refine wpAny_bind (wpAny_holding ?_)
  unfold Builtin.List.listLengthHint
  refine wpAny_bind (wpAny_bind (J3.type.here ((PySem.W.looks_findIn I3.kIn ml.at_).here ?_)))
  refine PySem.W.KFB.if_not rfl ?_
  refine PySem.W.KFB.if_so rfl ?_
  refine wpAny_bind (wpAny_rule ?_)
  refine wpAny_bind (wpAny_attempt (PySem.W.len_K hF3 I3.ok.mod.kin J3 ml.at_ ml.fn (wpAny_mono (own_run0 (A := X.A.in1.in1.in1) FL (hr.mono (by omega) : Room (k + 3) X.A).in1.in1.in1 rfl bL I3 (.cons vref .nil) hlen) (fun u s4 hu => ?_) fun _ _ x => x)))
  obtain ⟨v, H4, I4, rv, n, rfl, n0, n1, eH, q⟩ := hu
  subst eH
  obtain ⟨t4, rfl⟩ := rv
  refine ⟨⟨n0, by omega⟩, ?_⟩
  have I5 : Inv X pins σ H4 { s4 with toks := s4.toks + 1 } := I4.tok _
  generalize ({ s4 with toks := s4.toks + 1 } : Shared) = s5 at I5 ⊢
  refine wpAny_bind (wpAny_pure ?_)
  refine PySem.W.KFB.if_not (by unfold Builtin.List.listTooLong; rw [decide_eq_false]; rw [sizeLine_eq]; omega) ?_
  refine wpAny_pure ?_
  have eH : upd (upd H4 it (ItO l it 0)) S (.lst (zs.take 0)) = H4 := by
    funext b
    by_cases hb : b = S
    · rw [hb, upd_same, hS, List.take_zero]
    · rw [upd_ne hb]
      by_cases hb2 : b = it
      · rw [hb2, upd_same, hit]
      · rw [upd_ne hb2]
  have loop : ∀ s6 : Shared, Inv X pins σ H4 s6 → codeAny (model X.prog X.w) X.A.in1 (.builtin "list.extend.loop" ⟨[.ref S, .ref it, .none], []⟩) (wants (fun r s₂ => r = Value.none ∧ EP X pins σ Q (Value.ref S) s₂) X.xe) s6 := by
    intro s6 I6
    refine it_loop (pins := pins) (σ := σ) (H0 := H4) (by simp [I.ok.hd hc]) lit itS lS hl hz (fun s7 I7 => ⟨rfl, .ref S, _, I7, vref, q⟩) zs.length 0 s6 rfl (Nat.zero_le _) ?_
    rw [eH]
    exact I6
  cases hroom : (n != 0) with
  | false => exact wpAny_pure ⟨plainId_quiet PySem.F.plain_extend_loop _, loop s5 I5⟩
  | true =>
    refine wpAny_bind (wpAny_rule ?_)
    refine wpAny_bind ?_
    show wpAny _ _ (updateSeq S (·.push .none) >>= fun _ => updateSeq S (·.pop)) _ _ _
    obtain ⟨z, its, k3, r3, hl3, e3⟩ := I5.lstM hS
    cases r3
    refine wpAny_bind (wpAny_updateSeq e3 rfl ?_)
    have I6 := I5.lset (f := (·.push Value.none)) (its' := [Value.none]) (ys := [.non]) (t' := s5.toks) hS e3 (by simp) (.cons rfl .nil) (by rw [List.length_singleton, sizeLine_eq]; decide)
    obtain ⟨z4, its4, k4, r4, hl4, e4⟩ := I6.lstM upd_same
    obtain ⟨u4, rfl, ru4⟩ := r4.one
    refine wpAny_updateSeq e4 rfl ?_ (by show 1 ≤ sizeLine; rw [sizeLine_eq]; decide) (by show 0 ≤ sizeLine + 1; exact Nat.zero_le _)
    refine wpAny_pure ⟨plainId_quiet PySem.F.plain_extend_loop _, loop _ ?_⟩
    have I7 := I6.lset (f := (·.pop)) (its := [u4]) (its' := []) (ys := []) (t' := s5.toks) upd_same e4 (by rfl) .nil (Nat.zero_le _)
    rw [upd_upd] at I7
    have hH : upd H4 S (.lst []) = H4 := by
      funext b
      by_cases hb : b = S
      · rw [hb, upd_same, hS]
      · rw [upd_ne hb]
    rw [hH] at I7
    exact I7
end
end KO

namespace KO
open PySem PySem.Spec PyProof.Rows L2
section
variable {X : Cx} {CX : CXT} {k : Nat} {f C : Addr} {fd : FuncData} {ps : List Str} {sp : Sp} {E : L2.St → XK}
/-- X(): an own class over a built-in error, without own __init__, made with nothing -/
theorem pmk_own0 {bmB : List Value} {B newId initId : String} {x : Str} {p pos : Pos} (F : ExcBaseFacts B newId initId bmB) (q : PySem.W.excIn X.K C bmB newId = true) (gC : X.mg x = some (.ref C)) (kC : PySem.W.keepIn X.K (.ref C) = true) (r : Raises X (.ref C)) (hg : Gl X x)
    (hdb : (x == ("__debug__" : Str)) = false := by decide) : PMk X (.Call (.Name x p) [] [] pos) (fun _ H Q => Q (.ref C) none H) := by
  intro pins s σ H Q I h
  refine wpAny_Call_Name_kw (ld_glob I hg gC ?_ hdb)
  refine PySem.W.callWith_K0 I.kIn kC ?_
  obtain ⟨bm, N, nm, qn, bs, hdct, sn, sub, ab, col, dd, k0, k1, k2, k3, k5, mN, hC, hN, hni, T⟩ := exc_obj I.kIn q
  refine wpAny_call_exc_subT F T hC hN hni (fun h' e hm => ?_) (by show 0 ≤ sizeLine; exact Nat.zero_le _)
  exact mk_of I hm r h (I.hok.gone hm.new)
/-- one of two ways -/
theorem cr_or {b : Value} {r1 r2 : List V → Hp → VK → Prop} (h1 : CallR X b r1) (h2 : CallR X b r2) : CallR X b (fun xs H Q => r1 xs H Q ∨ r2 xs H Q) := by
  intro pins s σ H xs us Q I r h
  rcases h with h | h
  · exact h1 pins s σ H xs us Q I r h
  · exact h2 pins s σ H xs us Q I r h
section
variable {prog : Program} {w : World} {A : Around} {E : Value → Shared → Prop} {s : Shared} {l : Addr} {xs : Array (Int × Tok)}
theorem min_tupI {Q : Value → Shared → Prop} (hh : A.handled = none) (hl : s.heap.IsTuple l (intItems xs)) (hne : 0 < xs.size)
    (h : ∀ v h' tk, (intItems xs)[argBest (fun i j => decide (numAt xs i < numAt xs j)) (xs.size - 1)]? = some v → (∀ b o, s.heap.get? b = some o → h'.get? b = some o) → Q v { s with heap := h', toks := tk }) :
    wpAny (model prog w) A (call (.builtin "min") [.ref l]) Q E s := by
  have hlt : l < s.heap.objs.size := by obtain ⟨_, e, _⟩ := hl; exact Heap.lt_size e
  refine call_min_walk (wpAny_pyIter_tuple hl ?_)
  refine ⟨_, _, _, _, _, _, _, rfl, Walks.tuple (A := A.in1) hh _ l (Nat.ne_of_lt hlt) (intItems xs), ⟨⟨_, Heap.get?_push_size _ rfl, rfl, rfl⟩, hl.push _⟩, (fun b hb => ?_), by simpa [intItems] using hne, CmpOf.ints_lt (numAt xs) (fun _ _ => intItems_at), fun v h' tk hP hk => ?_⟩
  · show b < (s.heap.push _).objs.size
    rw [Heap.size_push]
    rcases List.mem_cons.mp hb with rfl | hb
    · exact Nat.lt_succ_self _
    · rcases List.mem_cons.mp hb with rfl | hb
      · exact Nat.lt_succ_of_lt hlt
      · cases hb
  · refine h v h' tk (by simpa [intItems] using hP) fun b o e => hk b o (fun hm => ?_) (Heap.get?_push_of_some _ e)
    rcases List.mem_cons.mp hm with e1 | hm
    · exact absurd (e1 ▸ Heap.lt_size e) (Nat.lt_irrefl _)
    · cases hm
theorem min_rawT {its : List Value} {ns : List Int} {Q : Value → Shared → Prop} (hh : A.handled = none) (hl : s.heap.IsTuple l its.toArray) (hi : IntsAre its ns) (hne : 0 < ns.length)
    (h : ∀ h' tk M t', (∀ b o, s.heap.get? b = some o → h'.get? b = some o) → M ∈ ns → (∀ a, a ∈ ns → M ≤ a) → Q (.int M t') { s with heap := h', toks := tk }) : wpAny (model prog w) A (call (.builtin "min") [.ref l]) Q E s := by
  obtain ⟨xs, e⟩ := hi.allInts.items
  have hn : numsOf (intItems xs).toList = ns := by rw [← e]; exact hi.numsOf
  rw [nums_intItems] at hn
  subst hn
  rw [e] at hl
  have hsz : 0 < xs.size := by simpa using hne
  refine min_tupI hh hl hsz fun v h' tk hv hk => ?_
  obtain ⟨t, rfl⟩ := intItems_at hv
  obtain ⟨h1, h2⟩ := argBest_lt (numAt xs) (xs.size - 1)
  refine h h' tk _ t hk ?_ fun a ha => ?_
  · rw [numAt_eq]; exact PySem.getD_mem (by rw [List.length_map, Array.length_toList]; omega)
  · obtain ⟨j, hj, rfl⟩ := mem_getD ha
    rw [List.length_map, Array.length_toList] at hj
    rw [← numAt_eq]; exact h2 j (by omega)
end
/-- min(t), t a tuple of ints -/
def rMinT (K : PySem.W.Frag) : List V → Hp → VK → Prop := fun vs H Q => ∃ (a : Addr) (ns : List Int), vs = [V.ref a] ∧ SqT K H a (ns.map V.int) ∧ 0 < ns.length ∧ ∀ m, m ∈ ns → (∀ y, y ∈ ns → m ≤ y) → Q (.int m) H
theorem cr_minT (hc : X.calm = true) : CallR X (.builtin "min") (rMinT X.K) := by
  intro pins s σ H vs us Q I r h
  obtain ⟨a, ns, rfl, hs, hne, q⟩ := h
  obtain ⟨its, rv, hl, _⟩ := I.tuple hs
  rw [Vals.ref1 r]
  exact min_rawT (I.ok.hd hc) hl rv.ints hne fun h' tk m t' hk h1 h2 => ⟨.int _, H, I.kept hk, ⟨_, rfl⟩, q m h1 h2⟩
/-- min(xs), xs a list or a tuple of ints -/
def rMinS (K : PySem.W.Frag) : List V → Hp → VK → Prop := fun vs H Q => ∃ (a : Addr) (ns : List Int), vs = [V.ref a] ∧ (SqL K H a (ns.map V.int) ∨ SqT K H a (ns.map V.int)) ∧ 0 < ns.length ∧ ∀ m, m ∈ ns → (∀ y, y ∈ ns → m ≤ y) → Q (.int m) H
theorem cr_minS (hc : X.calm = true) : CallR X (.builtin "min") (rMinS X.K) := by
  intro pins s σ H vs us Q I r h
  obtain ⟨a, ns, rfl, hs, hne, q⟩ := h
  rcases hs with hs | hs
  · exact cr_min hc pins s σ H _ us Q I r ⟨a, ns, rfl, hs, hne, q⟩
  · exact cr_minT hc pins s σ H _ us Q I r ⟨a, ns, rfl, hs, hne, q⟩
/-- isinstance(e, c), e the error that the suite holds: its class is D, it has no dict -/
def rIsX (K : PySem.W.Frag) (D a : Addr) (cls : Value) (d : Option Addr) : List V → Hp → VK → Prop := fun xs H Q => cls = .ref D ∧ d = none ∧ rIsE K D a xs H Q
theorem call_isX {a D : Addr} {oe : Obj} {cls : Value} {d : Option Addr} {pn : List (Addr × Obj)} (Ce : ExcC X.K D) (hz : Zc cls d oe) (hf : ∃ vs, oe.data = .fields vs) : CallR (X.suite a ((a, oe) :: pn)) (.builtin "isinstance") (rIsX X.K D a cls d) := by
  intro pins s σ H xs us Q I r h
  obtain ⟨rfl, rfl, h⟩ := h
  exact call_isE Ce hz hf pins s σ H xs us Q I r h
/-- o.m(e, ..): what is raised is wished for at the slots -/
def tMethX (C : Addr) (m : Str) (sp : Sp) (E : L2.St → XK) (ta : TE) (t : TA) : TE := fun σ H Q => ta σ H fun x H1 => ∃ a dx fs, x = .ref a ∧ H1 a = some (.ins C dx fs) ∧ fs.lookup m = none ∧ t σ H1 fun vs H2 => sp (x :: vs) H2 Q (E σ)
theorem pe_methX {m : Str} {o e : Expr} {es : List Expr} {ta : TE} {t : TA} {apos pos : Pos} {pl : Sem Bool} (he : PE X o ta) (c : Cls X.K C) (hm : Meth X.K C m f) (F : FnOk X.prog X.w X.K X.mg X.base CX k f fd ps sp) (hr : Room k X.A) (hb : Binds X.K fd ps []) (hx : ∀ σ, PassesAt CX X σ (E σ)) (ha : PA X (e :: es) t)
    (hst : starEach (e :: es) X.env = (false, eval e X.env) :: starEach es X.env := by rfl) (hpl : (backTo pos (starEach es X.env)).any (·.1) = false := by rfl)
    (ht : eval (.Call (.Attribute o m apos) (e :: es) [] pos) X.env = (do
      let ov ← eval o X.env
      standAt apos.atName
      let (f, first) ← holding [ov] (getMethod ov m pl)
      callWith pos f first (backTo pos (starEach (e :: es) X.env)) (backToKw pos (keywordEach [] X.env))) := by rfl) :
    PE X (.Call (.Attribute o m apos) (e :: es) [] pos) (tMethX C m sp E ta t) := by
  refine ⟨fun pins s σ H Q I h => ?_⟩
  refine PySem.W.methodCall_KW (pl := pl) (thn (he.run pins s σ H _ I h) fun u s1 ⟨x, H1, I1, rx, a, dx, fs, ex, ea, l, q⟩ => ?_) ht
  subst ex
  obtain rfl : u = Value.ref a := rx
  refine getmeth_ok I1 ea c hm l ?_
  refine PySem.W.callWith_K (first := [.ref a]) (h₀ := X.base) I.ok.mod.kin hm.kp (thn (ha.run pos pins s1 σ H1 _ I1 q) fun us s2 ⟨vs, H2, I2, r, q2⟩ => ⟨I2.kIn, ?_⟩) hst hpl
  exact run_fnS (us := .ref a :: us) (vs := .ref a :: vs) F hr hb (hx σ) I2 (.cons rfl r) q2
/-- C(e, ..): what is raised is wished for at the slots -/
def tMakeX (C : Addr) (sp : Sp) (E : L2.St → XK) (t : TA) : TE := fun σ H Q => t σ H fun vs H1 => ∀ x dx, H1 x = none → H1 dx = none → dx ≠ x →
  sp (.ref x :: vs) (upd (upd H1 dx (.own x)) x (.ins C dx [])) (fun v H2 => v = .non ∧ Q (.ref x) H2) (E σ)
theorem run_makeX {pins : List (Addr × Obj)} {σ : L2.St} {H : Hp} {s : Shared} {Q : VK} {us : List Value} {vs : List V} (M : Mk X.K C f) (F : FnOk X.prog X.w X.K X.mg X.base CX k f fd ps sp) (hr : Room (k + 1) X.A) (hb : Binds X.K fd ps [])
    (hx : PassesAt CX X σ (E σ)) (I : Inv X pins σ H s) (r : Vals vs us)
    (h : ∀ x dx, H x = none → H dx = none → dx ≠ x → sp (.ref x :: vs) (upd (upd H dx (.own x)) x (.ins C dx [])) (fun v H2 => v = .non ∧ Q (.ref x) H2) (E σ)) :
    wpAny (model X.prog X.w) X.A (call (.ref C) us) (EP X pins σ Q) X.xe s := by
  have hq := h (s.heap.objs.size + 1) s.heap.objs.size (I.hok.fresh (Nat.le_succ _)) (I.hok.fresh (Nat.le_refl _)) (Nat.ne_of_lt (Nat.lt_succ_self _))
  have I2 := Inv.made (C := C) I
  have r2 : Vals (V.ref (s.heap.objs.size + 1) :: vs) (Value.ref (s.heap.objs.size + 1) :: us) := .cons rfl r
  have hl : (Value.ref (s.heap.objs.size + 1) :: us ++ []).length = ps.length := by
    have e := r2.length
    rw [F.len _ _ _ _ hq] at e
    rw [List.append_nil]
    exact e.symm
  rw [List.append_nil] at hl
  refine wpAny_call (make_map (f := f) I.kIn M.makes M.init (beq_iff_eq.mp M.fn) (codeAny_mono (F.run _ X.stack _ _ ⟨Value.ref (s.heap.objs.size + 1) :: us, []⟩ (Value.ref (s.heap.objs.size + 1) :: us) _ _ (E σ) (hr.make C us [])
    (I2.env0.make C us []) (by have b := hb _ (Value.ref (s.heap.objs.size + 1) :: us) I2.kIn (by rw [List.append_nil]; exact hl); rw [List.append_nil] at b; exact b) r2 hq) fun r s' hq' => ?_))
  cases r with
  | error e => exact hx pins _ _ e s' I2 hq'
  | ok fl =>
    cases fl with
    | ret u =>
      obtain ⟨v, H', I3, rv, ev, q3⟩ := I2.after hq'
      subst ev
      exact ⟨rv, ⟨V.ref (s.heap.objs.size + 1), H', I3, rfl, q3⟩⟩
    | next => exact False.elim hq'
    | brk => exact False.elim hq'
    | cont => exact False.elim hq'
theorem pe_makeX {x : Str} {p pos : Pos} {e : Expr} {es : List Expr} {t : TA} (M : Mk X.K C f) (F : FnOk X.prog X.w X.K X.mg X.base CX k f fd ps sp) (hr : Room (k + 1) X.A) (hg : Gl X x) (hm : X.mg x = some (.ref C)) (hb : Binds X.K fd ps []) (hx : ∀ σ, PassesAt CX X σ (E σ))
    (ha : PA X (e :: es) t) (hdb : (x == ("__debug__" : Str)) = false := by decide) (he : starEach (e :: es) X.env = (false, eval e X.env) :: starEach es X.env := by rfl) (hpl : (backTo pos (starEach es X.env)).any (·.1) = false := by rfl) :
    PE X (.Call (.Name x p) (e :: es) [] pos) (tMakeX C sp E t) := by
  refine ⟨fun pins s σ H Q I h => ?_⟩
  refine wpAny_Call_Name_kw (ld_glob I hg hm ?_ hdb)
  refine PySem.W.callWith_K (h₀ := X.base) I.ok.mod.kin M.kp (thn (ha.run pos pins s σ H _ I h) fun us s1 ⟨vs, H1, I1, r, q⟩ => ⟨I1.kIn, ?_⟩) he hpl
  exact run_makeX M F hr hb (hx σ) I1 r q
/-- o[i] = v: what is raised is wished for at the slots -/
theorem pg_putX {o i : Expr} {to ti : TE} {pos : Pos} (m : Meth X.K C "__setitem__" f) (hq : PySem.W.noSeq X.K C = true) (F : FnOk X.prog X.w X.K X.mg X.base CX k f fd ps sp) (hr : Room k X.A) (hb : Binds X.K fd ps []) (hx : ∀ σ, PassesAt CX X σ (E σ)) (ho : PE X o to) (hi : PE X i ti)
    (ha : ∀ v, assign (.Subscript o i pos) X.env v = (do
      let ov ← holding [v] (eval o X.env)
      let iv ← holding [v, ov] (eval i X.env)
      standAt pos
      holding [v, ov, iv] (setItem ov iv v)
      release [v, ov, iv] []) := by intro _; rfl) : PG X (.Subscript o i pos) (fun v σ H Q => to σ H fun o H1 => ti σ H1 fun i H2 => ∃ a dx fs, o = .ref a ∧ H2 a = some (.ins C dx fs) ∧ sp [.ref a, i, v] H2 (fun _ H3 => Q σ H3) (E σ)) := by
  refine ⟨fun pins s σ H v u Q I r h => ?_⟩
  rw [ha]
  refine wpAny_bind (wpAny_holding (thn (ho.run pins s σ H _ I h) fun ov s1 ⟨x, H1, I1, r1, q1⟩ => ?_))
  refine wpAny_bind (wpAny_holding (thn (hi.run pins s1 σ H1 _ I1 q1) fun iv s2 ⟨y, H2, I2, r2, q2⟩ => ?_))
  obtain ⟨a, dx, fs, rfl, ea, q⟩ := q2
  cases r1
  obtain ⟨ox, od, J⟩ := inst_at I2 ea
  obtain ⟨m', hF⟩ := I2.fr
  refine wpAny_bind (wpAny_standAt (wpAny_bind (wpAny_holding (PySem.W.ksp_setItem hF I2.ok.mod.kin J hq m.at_ m.fn (wpAny_mono (own_run F hr rfl hb (hx σ) I2 (.cons vref (.cons r2 (.cons r .nil))) q) (fun w s' hw => ?_) fun _ _ x => x)))))
  obtain ⟨v', H', I', _, q'⟩ := hw
  exact wpAny_release ⟨σ, H', I', q'⟩
end
end KO

namespace KO
open PySem PySem.Spec PyProof.Rows L2
/-- the state of a zip that a list is filled from, behind i pairs -/
def ZSt (z TI TO i1 i2 a b S : Addr) (h : Heap) (i : Nat) : Prop := IsPair h TI (.ref i1) (.ref i2) ∧ h.IsListIter i1 a i ∧ h.IsListIter i2 b i ∧ (∃ o, h.get? TO = some o) ∧
  ((IsZip h z TI TO .none ∧ ∃ u v, IsPair h TO u v) ∨ ∃ T f oT, IsZipHeld h z TI TO T f ∧ h.get? T = some oT ∧ T ≠ z ∧ T ≠ i1 ∧ T ≠ i2 ∧ T ≠ S)
section
variable {X : Cx} {pins : List (Addr × Obj)} {σ : L2.St}
theorem ZSt.other {z TI TO i1 i2 a b S : Addr} {h h' : Heap} {i : Nat} (st : ZSt z TI TO i1 i2 a b S h i) (n : ∀ c ∈ [z, TI, TO, i1, i2], c ≠ S) (k : ∀ c o, c ≠ S → h.get? c = some o → h'.get? c = some o) : ZSt z TI TO i1 i2 a b S h' i := by
  obtain ⟨p1, p2, p3, ⟨o, p4⟩, p5⟩ := st
  refine ⟨k _ _ (n TI (by simp)) p1, p2.at fun o e => k _ o (n i1 (by simp)) e, p3.at fun o e => k _ o (n i2 (by simp)) e, ⟨o, k _ _ (n TO (by simp)) p4⟩, ?_⟩
  rcases p5 with ⟨q1, u, v, q2⟩ | ⟨T, f, oT, q1, q2, q3, q4, q5, q6⟩
  · exact .inl ⟨k _ _ (n z (by simp)) q1, u, v, k _ _ (n TO (by simp)) q2⟩
  · exact .inr ⟨T, f, oT, k _ _ (n z (by simp)) q1, k _ _ q6 q2, q3, q4, q5, q6⟩
/-- pair by pair at the addresses ts -/
def ZPr (H : Hp) (xs ys : List V) (ts : List Addr) : Prop := ∀ (j : Nat) (t : Addr), ts[j]? = some t → ∃ x y, xs[j]? = some x ∧ ys[j]? = some y ∧ H t = some (.tup [x, y])
theorem ZPr.but {H H' : Hp} {xs ys : List V} {ts : List Addr} {S : Addr} {zs : List V} (p : ZPr H xs ys ts) (hS : H S = some (.lst zs)) (k : ∀ c o, c ≠ S → H c = some o → H' c = some o) : ZPr H' xs ys ts := fun j t hj => by
  obtain ⟨x, y, h1, h2, h3⟩ := p j t hj
  exact ⟨x, y, h1, h2, k _ _ (ne_of h3 hS (by intro z; cases z)) h3⟩
theorem zip_loop {A1 : Around} {R : Result → Shared → Prop} {H0 : Hp} {z TI TO i1 i2 a b S : Addr} {xs ys : List V} (hh : A1.in1.handled = none) (D : ZipApart z TI TO i1 i2 a b) (hS0 : ∀ c ∈ [z, TI, TO, i1, i2], c ≠ S) (aS : a ≠ S) (bS : b ≠ S) (hl : xs.length = ys.length) (hn : xs.length ≤ 1000)
    (hR : ∀ s H ts, Inv X pins σ H s → ts.length = xs.length → ZPr H xs ys ts → H S = some (.lst (ts.map V.ref)) → (∀ c o, c ≠ S → H0 c = some o → H c = some o) → R (.ok (.ret .none)) s) :
    ∀ k i s H ts, xs.length - i = k → i ≤ xs.length → Inv X pins σ H s → (∀ c ∈ [z, TI, TO, i1, i2], FpOk X pins H c) → SqL X.K H a xs → SqL X.K H b ys → H S = some (.lst (ts.map V.ref)) → ts.length = i → ZPr H xs ys ts → (∀ c o, c ≠ S → H0 c = some o → H c = some o) →
      ZSt z TI TO i1 i2 a b S s.heap i → codeAny (model X.prog X.w) A1 (.builtin "list.extend.loop" ⟨[.ref S, .ref z, .none], []⟩) R s := by
  intro k
  induction k with
  | zero =>
    intro i s H ts hk hi I hf qa qb hS ht pr fr st
    have e : i = xs.length := by omega
    subst e
    obtain ⟨its, rv, p1, _⟩ := I.list qa
    obtain ⟨its2, rv2, p2, _⟩ := I.list qb
    obtain ⟨hTI, h1, h2, ⟨oO, hO⟩, hz⟩ := st
    refine codeAny_builtin PySem.F.entry_extend_loop ?_
    rw [Around.under_plainId PySem.F.plain_extend_loop _]
    show wpAny _ A1.in1 (pyNext (.ref z) >>= _) _ _ s
    have hend : its.toArray[xs.length]? = none := by
      rw [List.getElem?_toArray]
      exact rv.none_of (by simp)
    rcases hz with ⟨hz, u, v, hTO⟩ | ⟨T, f, oT, hz, hT, r1, r2, r3, r4⟩
    · refine wpAny_bind (wpAny_pyNext_zip_end hh D hz hTI hTO h1 h2 p1.isList p2.isList (.inl hend) fun h' hk => wpAny_pure (hR _ H ts ?_ ht pr hS fr))
      exact I.turnedL (t' := s.toks) (ch := [z, TI, TO, i1, i2]) (fun c o hb q => hk c o (fun q' => hb (by simp [q'])) (fun q' => hb (by simp [q'])) (fun q' => hb (by simp [q'])) (fun q' => hb (by simp [q'])) q) hf
    · refine wpAny_bind (wpAny_pyNext_zip_end_held hh D hz hT hTI h1 h2 p1.isList p2.isList (.inl hend) fun h' hk => wpAny_pure (hR _ H ts ?_ ht pr hS fr))
      exact I.turnedL (t' := s.toks) (ch := [z, TI, TO, i1, i2]) (fun c o hb q => hk c o (fun q' => hb (by simp [q'])) (fun q' => hb (by simp [q'])) (fun q' => hb (by simp [q'])) q) hf
  | succ k ih =>
    intro i s H ts hk hi I hf qa qb hS ht pr fr st
    have hlt : i < xs.length := by omega
    obtain ⟨its, rv, p1, _⟩ := I.list qa
    obtain ⟨its2, rv2, p2, _⟩ := I.list qb
    obtain ⟨hTI, h1, h2, ⟨oO, hO⟩, hz⟩ := st
    have hx : xs[i]? = some xs[i] := List.getElem?_eq_getElem hlt
    have hy : ys[i]? = some ys[i] := List.getElem?_eq_getElem (by omega)
    obtain ⟨u, hu, ru⟩ := rv.get hx
    obtain ⟨u2, hu2, ru2⟩ := rv2.get hy
    have nT : H s.heap.objs.size = none := I.hok.fresh (Nat.le_refl _)
    obtain ⟨_, itsS, cS, rS, hlS, eS⟩ := I.lstM hS
    have lS : S < s.heap.objs.size := Heap.lt_size eS
    have lz : z < s.heap.objs.size := by rcases hz with ⟨hz, _⟩ | ⟨T, f, oT, hz, _⟩ <;> exact Heap.lt_size hz
    have lTI : TI < s.heap.objs.size := Heap.lt_size hTI
    have lTO : TO < s.heap.objs.size := Heap.lt_size hO
    have l1 : i1 < s.heap.objs.size := by obtain ⟨_, e, _⟩ := h1; exact Heap.lt_size e
    have l2 : i2 < s.heap.objs.size := by obtain ⟨_, e, _⟩ := h2; exact Heap.lt_size e
    -- behind the pair
    have step : ∀ h', (∀ c o, c ∉ [z, TI, TO, i1, i2] → s.heap.get? c = some o → h'.get? c = some o) → IsPair h' s.heap.objs.size u u2 → ZSt z TI TO i1 i2 a b S h' (i + 1) →
        wpAny (model X.prog X.w) A1.in1 (updateSeq S (·.push (.ref s.heap.objs.size)) >>= fun _ => again (.builtin "list.extend.loop" ⟨[.ref S, .ref z, .none], []⟩)) (fun fin s' => match fin with | .done f => R (.ok f) s' | .again c' => c'.quiet = true ∧ codeAny (model X.prog X.w) A1 c' R s') (fun e s' => R (.error e) s') { s with heap := h' } := by
      intro h' kk hT st'
      have new : ObjOk X.prog X.w (upd H s.heap.objs.size (.tup [xs[i], ys[i]])) h' s.heap.objs.size (.tup [xs[i], ys[i]]) := ⟨by show 2 ≤ sizeLine; decide, [u, u2], .cons ru (.cons ru2 .nil), ⟨_, hT, rfl, _, rfl⟩⟩
      have I1 : Inv X pins σ (upd H s.heap.objs.size (.tup [xs[i], ys[i]])) { s with heap := h' } := I.turnedNew (t' := s.toks) (ch := [z, TI, TO, i1, i2]) kk hf (Nat.le_refl _) new
      have nST : s.heap.objs.size ≠ S := Nat.ne_of_gt lS
      have hS1 : (upd H s.heap.objs.size (.tup [xs[i], ys[i]])) S = some (.lst (ts.map V.ref)) := by rw [upd_ne (Ne.symm nST)]; exact hS
      obtain ⟨_, its3, c3, r3, hl3, e3⟩ := I1.lstM hS1
      have hlen3 := r3.length
      rw [List.length_map, ht] at hlen3
      refine wpAny_bind (wpAny_updateSeq e3 rfl (wpAny_pure ⟨plainId_quiet PySem.F.plain_extend_loop _, ?_⟩) (by rw [List.size_toArray, sizeLine_eq]; omega) (by show (its3.toArray.push (.ref s.heap.objs.size)).size ≤ sizeLine + 1; rw [Array.size_push, List.size_toArray, sizeLine_eq]; omega))
      have I3 := I1.lset (f := (·.push (.ref s.heap.objs.size))) (its' := its3 ++ [.ref s.heap.objs.size]) (ys := (ts ++ [s.heap.objs.size]).map V.ref) (t' := s.toks) hS1 e3 (by simp) (by rw [List.map_append]; exact r3.append (.cons rfl .nil)) (by rw [List.length_map, List.length_append, ht, sizeLine_eq]; show i + 1 ≤ _; omega)
      have kO : ∀ c o, c ≠ S → H c = some o → (upd (upd H s.heap.objs.size (.tup [xs[i], ys[i]])) S (.lst ((ts ++ [s.heap.objs.size]).map V.ref))) c = some o := fun c o nc hc => by
        rw [upd_ne nc, upd_ne (ne_of_none hc nT)]
        exact hc
      have ext2 : Ext H (upd H s.heap.objs.size (.tup [xs[i], ys[i]])) := Ext.upd nT
      have qk : ∀ {c : Addr} {zs : List V}, c ≠ S → SqL X.K H c zs → SqL X.K (upd (upd H s.heap.objs.size (.tup [xs[i], ys[i]])) S (.lst ((ts ++ [s.heap.objs.size]).map V.ref))) c zs := fun {c zs} nc q => by
        rcases q with (q | ⟨o, q⟩) | q
        · exact .inl (.inl (kO _ _ nc q))
        · exact .inl (.inr ⟨o, kO _ _ nc q⟩)
        · exact .inr q
      have sz : ∀ c ∈ [z, TI, TO, i1, i2], c < s.heap.objs.size := fun c hc => by
        have e' : c = z ∨ c = TI ∨ c = TO ∨ c = i1 ∨ c = i2 := by simpa using hc
        rcases e' with q | q | q | q | q
        · rw [q]; exact lz
        · rw [q]; exact lTI
        · rw [q]; exact lTO
        · rw [q]; exact l1
        · rw [q]; exact l2
      refine ih (i + 1) _ _ (ts ++ [s.heap.objs.size]) (by omega) hlt I3 (fun c hc => ?_) (qk aS qa) (qk bS qb) upd_same (by rw [List.length_append, ht]; rfl) ?_ (fun c o nc h0 => kO _ _ nc (fr c o nc h0)) (st'.other hS0 fun c o nc e => (Heap.get?_update_other _ _ (Ne.symm nc)).trans e)
      · obtain ⟨f0, f1⟩ := hf c hc
        refine ⟨?_, f1⟩
        rw [upd_ne (hS0 c hc), upd_ne (Nat.ne_of_lt (sz c hc))]
        exact f0
      · intro j t hj
        by_cases hji : j < ts.length
        · rw [List.getElem?_append_left hji] at hj
          obtain ⟨x, y, g1, g2, g3⟩ := pr j t hj
          exact ⟨x, y, g1, g2, kO _ _ (ne_of g3 hS (by intro z; cases z)) g3⟩
        · rw [List.getElem?_append_right (by omega)] at hj
          obtain ⟨hj1, hj2⟩ := List.getElem?_eq_some_iff.mp hj
          have ej : j = i := by
            have : j - ts.length < 1 := hj1
            omega
          subst ej
          have et : s.heap.objs.size = t := by
            rw [← hj2]
            simp
          rw [← et]
          exact ⟨_, _, hx, hy, by rw [upd_ne nST, upd_same]⟩
    refine codeAny_builtin PySem.F.entry_extend_loop ?_
    rw [Around.under_plainId PySem.F.plain_extend_loop _]
    show wpAny _ A1.in1 (pyNext (.ref z) >>= _) _ _ s
    have hu' : its.toArray[i]? = some u := by rw [List.getElem?_toArray]; exact hu
    have hu2' : its2.toArray[i]? = some u2 := by rw [List.getElem?_toArray]; exact hu2
    have nT1 : s.heap.objs.size ≠ i1 := Nat.ne_of_gt l1
    have nT2 : s.heap.objs.size ≠ i2 := Nat.ne_of_gt l2
    have nTz : s.heap.objs.size ≠ z := Nat.ne_of_gt lz
    have nTS : s.heap.objs.size ≠ S := Nat.ne_of_gt lS
    rcases hz with ⟨hz, v, v2, hTO⟩ | ⟨T, f, oT, hz, hT, r1, r2, r3, r4⟩
    · refine wpAny_bind (wpAny_pyNext_zip_item D hz hTI hTO h1 h2 p1.isList p2.isList hu' hu2' fun h' z' TO' h1' h2' hTT hsz hk => ?_)
      exact step h' (fun c o hb q => hk c o (fun q' => hb (by simp [q'])) (fun q' => hb (by simp [q'])) (fun q' => hb (by simp [q'])) (fun q' => hb (by simp [q'])) q) hTT
        ⟨hk _ _ D.TIz D.TITO D.TIi1 D.TIi2 hTI, h1', h2', ⟨_, TO'⟩, .inr ⟨_, false, _, z', hTT, nTz, nT1, nT2, nTS⟩⟩
    · refine wpAny_bind (wpAny_pyNext_zip_item_held D hz hT hTI h1 h2 p1.isList p2.isList hu' hu2' fun h' z' h1' h2' hTT hsz hk => ?_)
      exact step h' (fun c o hb q => hk c o (fun q' => hb (by simp [q'])) (fun q' => hb (by simp [q'])) (fun q' => hb (by simp [q'])) q) hTT
        ⟨hk _ _ D.TIz D.TIi1 D.TIi2 hTI, h1', h2', ⟨_, hk _ _ D.TOz D.TOi1 D.TOi2 hO⟩, .inr ⟨T, true, oT, z', hk _ _ r1 r2 r3 hT, r1, r2, r3, r4⟩⟩
/-- list(zip(a, b)), two lists of one length: a new list of new pairs -/
def tListZip (K : PySem.W.Frag) (ta : TA) : TE := fun σ H Q => ta σ H fun vs H1 => ∃ a b xs ys, vs = [.ref a, .ref b] ∧ SqL K H1 a xs ∧ SqL K H1 b ys ∧ xs.length = ys.length ∧ xs.length ≤ 1000 ∧
  ∀ l H2 ts, H1 l = none → Same H1 H2 → H2 l = some (.lst (ts.map V.ref)) → ts.length = xs.length → ZPr H2 xs ys ts → Q (.ref l) H2
theorem zip_nolen : typeLookup (.type "zip") "__len__" = pure none := am_miss_of_fast (by decide +kernel)
theorem zip_nohint : typeLookup (.type "zip") "__length_hint__" = pure none := am_miss_of_fast (by decide +kernel)
theorem pe_listZip {e e2 : Expr} {ta : TA} {p p2 pos pos2 : Pos} (hc : X.calm = true) (hg : Gl X "list") (hm : X.mg "list" = none) (hg2 : Gl X "zip") (hm2 : X.mg "zip" = none) (ha : PA X [e, e2] ta)
    (hs : starEach [e, e2] X.env = (false, eval e X.env) :: starEach [e2] X.env := by rfl) (hpl : (backTo pos2 (starEach [e2] X.env)).any (·.1) = false := by rfl)
    (hs2 : starEach [.Call (.Name "zip" p2) [e, e2] [] pos2] X.env = (false, eval (.Call (.Name "zip" p2) [e, e2] [] pos2) X.env) :: starEach [] X.env := by rfl) :
    PE X (.Call (.Name "list" p) [.Call (.Name "zip" p2) [e, e2] [] pos2] [] pos) (tListZip X.K ta) := by
  refine ⟨fun pins s σ H Q I h => ?_⟩
  refine Call_ (ld_blt I hg hm PyProof.Rows.boot_list (PyProof.Rows.callWith_type1 (args_cons (Call_ (ld_blt I hg2 hm2 PyProof.Rows.boot_zip (PyProof.Rows.callWith_type1 (thn (ha.run pos2 pins s σ H _ I h) fun us s1 ⟨vs, H1, I1, r1, q1⟩ => ?_) hs hpl))) hs2) hs2 rfl))
  obtain ⟨a, b, xs, ys, rfl, qa, qb, hl, hn, q⟩ := q1
  obtain ⟨u1, u2, rfl, ra, rb⟩ := vals2 r1
  cases ra
  cases rb
  obtain ⟨its, rv, p1, _⟩ := I1.list qa
  obtain ⟨its2, rv2, p2', _⟩ := I1.list qb
  have la : a < s1.heap.objs.size := p1.lt
  have lb : b < s1.heap.objs.size := p2'.lt
  refine call_zip_2 p1.isList p2'.isList fun h' hz hTI hTO h1 h2 hsz hk => args_nil ?_
  have I2 : Inv X pins σ H1 { s1 with heap := h' } := I1.kept (t' := s1.toks) hk
  have D := PySem.W.ktu_apart s1.heap.objs.size a b la lb
  have hf : ∀ c ∈ [s1.heap.objs.size + 4, s1.heap.objs.size + 2, s1.heap.objs.size + 3, s1.heap.objs.size, s1.heap.objs.size + 1], FpOk X pins H1 c := fun c hcm => by
    have e' : c = s1.heap.objs.size + 4 ∨ c = s1.heap.objs.size + 2 ∨ c = s1.heap.objs.size + 3 ∨ c = s1.heap.objs.size ∨ c = s1.heap.objs.size + 1 := by simpa using hcm
    have hle : s1.heap.objs.size ≤ c := by omega
    exact I1.fpOk hle (I1.hok.fresh hle)
  have hlt : ∀ c ∈ [s1.heap.objs.size + 4, s1.heap.objs.size + 2, s1.heap.objs.size + 3, s1.heap.objs.size, s1.heap.objs.size + 1], c < h'.objs.size := fun c hcm => by
    have e' : c = s1.heap.objs.size + 4 ∨ c = s1.heap.objs.size + 2 ∨ c = s1.heap.objs.size + 3 ∨ c = s1.heap.objs.size ∨ c = s1.heap.objs.size + 1 := by simpa using hcm
    rw [hsz]
    omega
  have la' : a < h'.objs.size := Nat.lt_of_lt_of_le la (by rw [hsz]; exact Nat.le_add_right _ _)
  have lb' : b < h'.objs.size := Nat.lt_of_lt_of_le lb (by rw [hsz]; exact Nat.le_add_right _ _)
  generalize s1.heap.objs.size + 4 = z at hz D hf hlt ⊢
  generalize s1.heap.objs.size + 2 = TI at hz hTI D hf hlt
  generalize s1.heap.objs.size + 3 = TO at hz hTO D hf hlt
  generalize s1.heap.objs.size + 1 = i2 at hTI h2 D hf hlt
  generalize s1.heap.objs.size = i1 at hTI h1 D hf hlt
  refine callType_codes (Q₁ := fun x s3 => x = .ref h'.objs.size ∧ s3 = { s1 with heap := h'.push { cls := .type "list", data := .seq #[] } }) PySem.F.called_list (PySem.F.typeCall_list_1 _) PySem.F.entry_list_init (code_list_new _ ⟨rfl, rfl⟩) fun x s3 hx => ?_
  obtain ⟨rfl, rfl⟩ := hx
  have got : (h'.push { cls := .type "list", data := .seq #[] }).get? h'.objs.size = some { cls := .type "list", data := .seq #[] } := Heap.get?_push_size _ rfl
  refine ⟨⟨_, got, rfl⟩, PySem.F.args_list_init_2 _ _, ?_⟩
  have fr : H1 h'.objs.size = none := I2.hok.fresh (Nat.le_refl _)
  have I3 : Inv X pins σ (upd H1 h'.objs.size (.lst [])) { s1 with heap := h'.push { cls := .type "list", data := .seq #[] } } := I2.lnew (its := []) (t' := s1.toks) .nil (Nat.zero_le _)
  have nS : ∀ c ∈ [z, TI, TO, i1, i2], c ≠ h'.objs.size := fun c hc => Nat.ne_of_lt (hlt c hc)
  have aS : a ≠ h'.objs.size := Nat.ne_of_lt la'
  have bS : b ≠ h'.objs.size := Nat.ne_of_lt lb'
  have st0 : ZSt z TI TO i1 i2 a b h'.objs.size h' 0 := ⟨hTI, h1, h2, ⟨_, hTO⟩, .inl ⟨hz, _, _, hTO⟩⟩
  have st1 : ZSt z TI TO i1 i2 a b h'.objs.size (h'.push { cls := .type "list", data := .seq #[] }) 0 := st0.other nS fun c o _ e => Heap.get?_push_of_some _ e
  generalize h'.objs.size = S at got fr I3 nS aS bS st1 ⊢
  show wpAny _ _ (do let old ← Builtin.List.listItems (.ref S); Builtin.List.listUpdate (.ref S) (fun _ => #[]); letGo old.toList.reverse; Builtin.List.listExtendWith (.ref S) (.ref z) .none) _ _ _
  refine wpAny_bind ?_
  unfold Builtin.List.listItems
  refine wpAny_bind (wpAny_seqItems got rfl (wpAny_pure ?_))
  show wpAny _ _ (updateSeq S (fun _ => #[]) >>= fun _ => letGo (#[] : Array Value).toList.reverse >>= fun _ => Builtin.List.listExtendWith (.ref S) (.ref z) .none) _ _ _
  refine wpAny_bind (wpAny_updateSeq got rfl ?_)
  have I4 := I3.lset (f := fun _ => #[]) (its := []) (its' := []) (ys := []) (t' := s1.toks) upd_same got rfl .nil (Nat.zero_le _)
  rw [upd_upd] at I4
  refine wpAny_bind (wpAny_letGo ?_)
  have st2 : ZSt z TI TO i1 i2 a b S ((h'.push { cls := .type "list", data := .seq #[] }).update S (Obj.mapSeq fun _ => #[])) 0 := st1.other nS fun c o nc e => (Heap.get?_update_other _ _ (Ne.symm nc)).trans e
  generalize hs4 : ({ s1 with heap := (h'.push { cls := .type "list", data := .seq #[] }).update S (Obj.mapSeq fun _ => #[]) } : Shared) = s4 at I4 ⊢
  have st4 : ZSt z TI TO i1 i2 a b S s4.heap 0 := by
    rw [← hs4]
    exact st2
  have hz4 : IsZip s4.heap z TI TO .none := by
    rw [← hs4]
    exact (Heap.get?_update_other _ _ (Ne.symm (nS z (by simp)))).trans (Heap.get?_push_of_some _ hz)
  have hT : s4.TypeIs (.ref z) "zip" := ⟨_, hz4, rfl⟩
  clear hs4 st2 st1 got I3
  unfold Builtin.List.listExtendWith
  refine wpAny_bind (wpAny_typeOf hT ?_)
  have b1 : Builtin.List.listSameRef (.ref S) (.ref z) = false := by simp [Builtin.List.listSameRef, (nS z (by simp)).symm]
  have b2 : (Value.type "zip" == Value.type "list") = false := rfl
  have b3 : (Value.type "zip" == Value.type "tuple") = false := rfl
  simp only [b1, b2, b3, Bool.or_false, Bool.false_eq_true, if_false]
  refine wpAny_bind (wpAny_pyIter_zip hz4 ?_)
  refine wpAny_bind (wpAny_holding ?_)
  unfold Builtin.List.listLengthHint
  refine wpAny_bind (wpAny_specialOf hT zip_nolen ?_)
  show wpAny _ _ (specialOf (Value.ref z) (Str.ofString "__length_hint__") >>= _) _ _ _
  refine wpAny_bind (wpAny_specialOf hT zip_nohint ?_)
  refine wpAny_pure ?_
  show wpAny _ _ (rule "list.extend.makes-room" >>= fun _ => Builtin.List.listTouch (.ref S) >>= fun _ => again (.builtin "list.extend.loop" ⟨[.ref S, .ref z, .none], []⟩)) _ _ _
  refine wpAny_bind (wpAny_rule ?_)
  refine wpAny_bind ?_
  show wpAny _ _ (updateSeq S (·.push .none) >>= fun _ => updateSeq S (·.pop)) _ _ _
  have hSl : (upd H1 S (.lst [])) S = some (.lst []) := upd_same
  obtain ⟨_, it3, k3, r3, hl3, e3⟩ := I4.lstM hSl
  cases r3
  refine wpAny_bind (wpAny_updateSeq e3 rfl ?_)
  have I6 := I4.lset (f := (·.push Value.none)) (its' := [Value.none]) (ys := [.non]) (t' := s4.toks) hSl e3 (by simp) (.cons rfl .nil) (by rw [List.length_singleton, sizeLine_eq]; decide)
  have st6 := st4.other nS (h' := (s4.heap.update S (Obj.mapSeq (·.push Value.none)))) fun c o nc e => (Heap.get?_update_other _ _ (Ne.symm nc)).trans e
  obtain ⟨_, it4, k4, r4, hl4, e4⟩ := I6.lstM upd_same
  obtain ⟨u4, rfl, ru4⟩ := r4.one
  refine wpAny_updateSeq e4 rfl ?_ (by show 1 ≤ sizeLine; rw [sizeLine_eq]; decide) (by show 0 ≤ sizeLine + 1; exact Nat.zero_le _)
  have I7 := I6.lset (f := (·.pop)) (its := [u4]) (its' := []) (ys := []) (t' := s4.toks) upd_same e4 (by rfl) .nil (Nat.zero_le _)
  rw [upd_upd, upd_upd] at I7
  have st7 := st6.other nS (h' := ((s4.heap.update S (Obj.mapSeq (·.push Value.none))).update S (Obj.mapSeq (·.pop)))) fun c o nc e => (Heap.get?_update_other _ _ (Ne.symm nc)).trans e
  have qk : ∀ {c : Addr} {zs : List V}, SqL X.K H1 c zs → SqL X.K (upd H1 S (.lst [])) c zs := fun {c zs} q => SqL.ext q (Ext.upd fr)
  refine wpAny_pure ⟨plainId_quiet PySem.F.plain_extend_loop _, zip_loop (pins := pins) (σ := σ) (H0 := H1) (by simp [I1.ok.hd hc]) D nS aS bS hl hn (fun s7 H7 ts I7 e7 p7 h7 f7 => ⟨rfl, .ref S, H7, I7, vref, q S H7 ts fr (fun c o hc0 => f7 c o (ne_of_none hc0 fr) hc0) h7 e7 p7⟩) xs.length 0 _ _ [] rfl (Nat.zero_le _) I7 (fun c hc => ?_) (qk qa) (qk qb) upd_same rfl (fun j t hj => by cases j <;> cases hj) (fun c o nc h0 => by rw [upd_ne nc]; exact h0) st7⟩
  obtain ⟨f0, f1⟩ := hf c hc
  exact ⟨by rw [upd_ne (nS c hc)]; exact f0, f1⟩
/-- o op p, both of the class: an object comes back -/
def rBinO (C : Addr) (sp : Sp) (E : XK) : R2 := fun x y H Q => ∃ a dx fs b dy gs, x = .ref a ∧ y = .ref b ∧ H a = some (.ins C dx fs) ∧ H b = some (.ins C dy gs) ∧ sp [.ref a, .ref b] H (fun v H' => ∃ r, v = .ref r ∧ Q (.ref r) H') E
theorem bin_own {CX : CXT} {k : Nat} {f C : Addr} {fd : FuncData} {ps : List Str} {sp : Sp} {E : XK} {op : Operator} {name : Str} (hn : PySem.dunder op.info.2 = name) (m : Meth X.K C name f) (sf : PySem.W.selfFirst X.K C = true) (F : FnOk X.prog X.w X.K X.mg X.base CX k f fd ps sp) (hr : Room k X.A) (hb : Binds X.K fd ps []) (hx : ∀ σ, PassesAt CX X σ E) : OpR X (binaryOp op) (rBinO C sp E) := by
  subst hn
  intro pins s σ H x y v u Q I rx ry h
  obtain ⟨a, dx, fs, b, dy, gs, rfl, rfl, ha, hb', q⟩ := h
  cases rx
  cases ry
  obtain ⟨ox, od, J⟩ := inst_at I ha
  obtain ⟨oy, od', J'⟩ := inst_at I hb'
  obtain ⟨m', hF⟩ := I.fr
  refine PySem.W.binop_K hF I.ok.mod.kin J J'.type sf m.at_ m.fn (wpAny_mono (own_run (E := fun _ => E) F hr rfl hb (hx σ) I (.cons vref (.cons vref .nil)) q) (fun u s' hu => ?_) fun _ _ x => x)
  obtain ⟨v, H', I', rv, r, rfl, q'⟩ := hu
  cases rv
  exact ⟨.ref r, H', I', vref, q'⟩
end
end KO

namespace D1
open PySem L2
/-! the text by its places -/
def topS (i : Nat) : Stmt := PySem.Challenge.pw_depotday_k01_load_operators.main.body.getD i (.Pass ⟨0, 0, 0, 0⟩)
abbrev sClen : Stmt := topS 8
abbrev sClst : Stmt := topS 9
abbrev sInit : Stmt := inClass (topS 10) 0
abbrev sCmin : Stmt := inClass (topS 10) 3
abbrev sPrs : Stmt := inClass (topS 10) 4
abbrev sLen : Stmt := inClass (topS 10) 5
abbrev sGet : Stmt := inClass (topS 10) 7
abbrev sPut : Stmt := inClass (topS 10) 9
abbrev sBoo : Stmt := inClass (topS 10) 11
abbrev sEq : Stmt := inClass (topS 10) 13
abbrev sAdd : Stmt := inClass (topS 10) 14
abbrev sSub : Stmt := inClass (topS 10) 16
abbrev sOr : Stmt := inClass (topS 10) 17
abbrev sAnd : Stmt := inClass (topS 10) 18
abbrev sXor : Stmt := inClass (topS 10) 19
abbrev sWth : Stmt := inClass (topS 10) 20
abbrev sCell : Stmt := topS 12
abbrev sPool : Stmt := topS 13
abbrev sTake : Stmt := topS 14
abbrev sSame : Stmt := topS 15
abbrev sSize : Stmt := topS 16
abbrev sCount : Stmt := topS 17
abbrev sIsl : Stmt := topS 18
abbrev sBes : Stmt := topS 19
abbrev sDue : Stmt := topS 20
abbrev sMade : Stmt := topS 21
abbrev sRf : Stmt := topS 22
abbrev sSgn : Stmt := topS 23
abbrev sRul : Stmt := topS 24
abbrev sLaw : Stmt := topS 25
/-- what the top has written, as the walks ask for it -/
structure Tx (K : PySem.W.Frag) (mg : Str → Option Value) where
  t_MOST_LENGTH : Tok
  c_MOST_LENGTH : mg "MOST_LENGTH" = some (.int 60 t_MOST_LENGTH)
  z_len : mg "len" = none
  z_min : mg "min" = none
  z_max : mg "max" = none
  z_list : mg "list" = none
  z_zip : mg "zip" = none
  z_any : mg "any" = none
  z_all : mg "all" = none
  z_abs : mg "abs" = none
  z_int : mg "int" = none
  z_bool : mg "bool" = none
  z_str : mg "str" = none
  z_isinstance : mg "isinstance" = none
  z_tuple : mg "tuple" = none
  z_range : mg "range" = none
  z_ValueError : mg "ValueError" = none
  C_Load : Addr
  g_Load : mg "Load" = some (.ref C_Load)
  cl_Load : Cls K C_Load
  na_Load__counts : NoAttr K C_Load "_counts"
  fcheck_length : Addr
  dcheck_length : FuncData
  Fcheck_length : Fun K "check_length" "check_length" sClen fcheck_length dcheck_length
  bcheck_length : Binds K dcheck_length ["length"] []
  gcheck_length : mg "check_length" = some (.ref fcheck_length)
  fcheck_least : Addr
  dcheck_least : FuncData
  Fcheck_least : Fun K "check_least" "check_least" sClst fcheck_least dcheck_least
  bcheck_least : Binds K dcheck_least ["number", "least"] []
  gcheck_least : mg "check_least" = some (.ref fcheck_least)
  fLoad_init : Addr
  dLoad_init : FuncData
  FLoad_init : Fun K "__init__" "Load.__init__" sInit fLoad_init dLoad_init
  bLoad_init : Binds K dLoad_init ["self", "counts"] []
  M_Load : Mk K C_Load fLoad_init
  fLoad_check_minute : Addr
  dLoad_check_minute : FuncData
  FLoad_check_minute : Fun K "_check_minute" "Load._check_minute" sCmin fLoad_check_minute dLoad_check_minute
  bLoad_check_minute : Binds K dLoad_check_minute ["self", "minute"] []
  m_Load_check_minute : Meth K C_Load "_check_minute" fLoad_check_minute
  fLoad_pairs : Addr
  dLoad_pairs : FuncData
  FLoad_pairs : Fun K "_pairs" "Load._pairs" sPrs fLoad_pairs dLoad_pairs
  bLoad_pairs : Binds K dLoad_pairs ["self", "other"] []
  m_Load_pairs : Meth K C_Load "_pairs" fLoad_pairs
  fLoad_len : Addr
  dLoad_len : FuncData
  FLoad_len : Fun K "__len__" "Load.__len__" sLen fLoad_len dLoad_len
  bLoad_len : Binds K dLoad_len ["self"] []
  m_Load_len : Meth K C_Load "__len__" fLoad_len
  fLoad_getitem : Addr
  dLoad_getitem : FuncData
  FLoad_getitem : Fun K "__getitem__" "Load.__getitem__" sGet fLoad_getitem dLoad_getitem
  bLoad_getitem : Binds K dLoad_getitem ["self", "at"] []
  m_Load_getitem : Meth K C_Load "__getitem__" fLoad_getitem
  fLoad_put : Addr
  dLoad_put : FuncData
  FLoad_put : Fun K "put" "Load.put" sPut fLoad_put dLoad_put
  bLoad_put : Binds K dLoad_put ["self", "minute", "count"] []
  m_Load_put : Meth K C_Load "put" fLoad_put
  fLoad_bool : Addr
  dLoad_bool : FuncData
  FLoad_bool : Fun K "__bool__" "Load.__bool__" sBoo fLoad_bool dLoad_bool
  bLoad_bool : Binds K dLoad_bool ["self"] []
  m_Load_bool : Meth K C_Load "__bool__" fLoad_bool
  fLoad_eq : Addr
  dLoad_eq : FuncData
  FLoad_eq : Fun K "__eq__" "Load.__eq__" sEq fLoad_eq dLoad_eq
  bLoad_eq : Binds K dLoad_eq ["self", "other"] []
  m_Load_eq : Meth K C_Load "__eq__" fLoad_eq
  fLoad_add : Addr
  dLoad_add : FuncData
  FLoad_add : Fun K "__add__" "Load.__add__" sAdd fLoad_add dLoad_add
  bLoad_add : Binds K dLoad_add ["self", "other"] []
  m_Load_add : Meth K C_Load "__add__" fLoad_add
  fLoad_sub : Addr
  dLoad_sub : FuncData
  FLoad_sub : Fun K "__sub__" "Load.__sub__" sSub fLoad_sub dLoad_sub
  bLoad_sub : Binds K dLoad_sub ["self", "other"] []
  m_Load_sub : Meth K C_Load "__sub__" fLoad_sub
  fLoad_or : Addr
  dLoad_or : FuncData
  FLoad_or : Fun K "__or__" "Load.__or__" sOr fLoad_or dLoad_or
  bLoad_or : Binds K dLoad_or ["self", "other"] []
  m_Load_or : Meth K C_Load "__or__" fLoad_or
  fLoad_and : Addr
  dLoad_and : FuncData
  FLoad_and : Fun K "__and__" "Load.__and__" sAnd fLoad_and dLoad_and
  bLoad_and : Binds K dLoad_and ["self", "other"] []
  m_Load_and : Meth K C_Load "__and__" fLoad_and
  fLoad_xor : Addr
  dLoad_xor : FuncData
  FLoad_xor : Fun K "__xor__" "Load.__xor__" sXor fLoad_xor dLoad_xor
  bLoad_xor : Binds K dLoad_xor ["self", "other"] []
  m_Load_xor : Meth K C_Load "__xor__" fLoad_xor
  fLoad_within : Addr
  dLoad_within : FuncData
  FLoad_within : Fun K "within" "Load.within" sWth fLoad_within dLoad_within
  bLoad_within : Binds K dLoad_within ["self", "other"] []
  m_Load_within : Meth K C_Load "within" fLoad_within
  f_law_cell : Addr
  d_law_cell : FuncData
  F_law_cell : Fun K "_law_cell" "_law_cell" sCell f_law_cell d_law_cell
  b_law_cell : Binds K d_law_cell ["_law_script", "_law_k"] []
  g_law_cell : mg "_law_cell" = some (.ref f_law_cell)
  f_law_pool : Addr
  d_law_pool : FuncData
  F_law_pool : Fun K "_law_pool" "_law_pool" sPool f_law_pool d_law_pool
  b_law_pool : Binds K d_law_pool ["_law_script", "_law_k"] []
  g_law_pool : mg "_law_pool" = some (.ref f_law_pool)
  f_law_take : Addr
  d_law_take : FuncData
  F_law_take : Fun K "_law_take" "_law_take" sTake f_law_take d_law_take
  b_law_take : Binds K d_law_take ["_law_pool_here", "_law_many"] []
  g_law_take : mg "_law_take" = some (.ref f_law_take)
  f_law_same : Addr
  d_law_same : FuncData
  F_law_same : Fun K "_law_same" "_law_same" sSame f_law_same d_law_same
  b_law_same : Binds K d_law_same ["_law_got", "_law_due_here"] []
  g_law_same : mg "_law_same" = some (.ref f_law_same)
  f_law_size : Addr
  d_law_size : FuncData
  F_law_size : Fun K "_law_size" "_law_size" sSize f_law_size d_law_size
  b_law_size : Binds K d_law_size ["_law_pool_here"] []
  g_law_size : mg "_law_size" = some (.ref f_law_size)
  f_law_count : Addr
  d_law_count : FuncData
  F_law_count : Fun K "_law_count" "_law_count" sCount f_law_count d_law_count
  b_law_count : Binds K d_law_count ["_law_pool_here"] []
  g_law_count : mg "_law_count" = some (.ref f_law_count)
  f_law_is_load : Addr
  d_law_is_load : FuncData
  F_law_is_load : Fun K "_law_is_load" "_law_is_load" sIsl f_law_is_load d_law_is_load
  b_law_is_load : Binds K d_law_is_load ["_law_got", "_law_counts"] []
  g_law_is_load : mg "_law_is_load" = some (.ref f_law_is_load)
  f_law_beside : Addr
  d_law_beside : FuncData
  F_law_beside : Fun K "_law_beside" "_law_beside" sBes f_law_beside d_law_beside
  b_law_beside : Binds K d_law_beside ["_law_pool_here", "_law_counts"] []
  g_law_beside : mg "_law_beside" = some (.ref f_law_beside)
  f_law_due : Addr
  d_law_due : FuncData
  F_law_due : Fun K "_law_due" "_law_due" sDue f_law_due d_law_due
  b_law_due : Binds K d_law_due ["_law_way", "_law_first", "_law_second"] []
  g_law_due : mg "_law_due" = some (.ref f_law_due)
  f_law_made : Addr
  d_law_made : FuncData
  F_law_made : Fun K "_law_made" "_law_made" sMade f_law_made d_law_made
  b_law_made : Binds K d_law_made ["_law_way", "_law_one", "_law_two"] []
  g_law_made : mg "_law_made" = some (.ref f_law_made)
  f_law_refuses : Addr
  d_law_refuses : FuncData
  F_law_refuses : Fun K "_law_refuses" "_law_refuses" sRf f_law_refuses d_law_refuses
  b_law_refuses : Binds K d_law_refuses ["_law_way", "_law_one", "_law_two"] []
  g_law_refuses : mg "_law_refuses" = some (.ref f_law_refuses)
  f_law_signs : Addr
  d_law_signs : FuncData
  F_law_signs : Fun K "_law_signs" "_law_signs" sSgn f_law_signs d_law_signs
  b_law_signs : Binds K d_law_signs ["_law_one", "_law_first", "_law_two", "_law_second"] []
  g_law_signs : mg "_law_signs" = some (.ref f_law_signs)
  f_law_rules : Addr
  d_law_rules : FuncData
  F_law_rules : Fun K "_law_rules" "_law_rules" sRul f_law_rules d_law_rules
  b_law_rules : Binds K d_law_rules ["_law_one", "_law_two", "_law_three"] []
  g_law_rules : mg "_law_rules" = some (.ref f_law_rules)
  flaw : Addr
  dlaw : FuncData
  Flaw : Fun K "law" "law" sLaw flaw dlaw
  blaw : Binds K dlaw ["_law_script"] []
  glaw : mg "law" = some (.ref flaw)
  C_DepotError : Addr
  g_DepotError : mg "DepotError" = some (.ref C_DepotError)
  C_BadLoad : Addr
  g_BadLoad : mg "BadLoad" = some (.ref C_BadLoad)
  C_BadRounds : Addr
  g_BadRounds : mg "BadRounds" = some (.ref C_BadRounds)
  xo_BadLoad : PySem.W.excIn K C_BadLoad [.type "ValueError", .type "Exception", .type "BaseException", .type "object"] "ValueError.__new__" = true
  kp_BadLoad : PySem.W.keepIn K (.ref C_BadLoad) = true
  ty_DepotError : PySem.W.typeIn K (.ref C_DepotError) = some (.type "type")
  bs_DepotError : PySem.W.subIn K (.ref C_DepotError) (.type "BaseException") = some true
  hd_DepotError : PySem.W.hasDictIn K C_DepotError = true
  ty_BadLoad : PySem.W.typeIn K (.ref C_BadLoad) = some (.type "type")
  bs_BadLoad : PySem.W.subIn K (.ref C_BadLoad) (.type "BaseException") = some true
  hd_BadLoad : PySem.W.hasDictIn K C_BadLoad = true
  ty_BadRounds : PySem.W.typeIn K (.ref C_BadRounds) = some (.type "type")
  bs_BadRounds : PySem.W.subIn K (.ref C_BadRounds) (.type "BaseException") = some true
  hd_BadRounds : PySem.W.hasDictIn K C_BadRounds = true
  sb_BadLoad_DepotError : PySem.W.subIn K (.ref C_BadLoad) (.ref C_DepotError) = some true
  sb_BadLoad_BadRounds : PySem.W.subIn K (.ref C_BadLoad) (.ref C_BadRounds) = some false
  sb_BadLoad_self : PySem.W.subIn K (.ref C_BadLoad) (.ref C_BadLoad) = some true
  sb_BadLoad_ValueError : PySem.W.subIn K (.ref C_BadLoad) (.type "ValueError") = some true
  ga_BadLoad : PySem.W.findIn K (.ref C_BadLoad) "__getattribute__" = some (some (.builtin "BaseException.__getattribute__"))
  gg_BadLoad : PySem.W.findIn K (.ref C_BadLoad) "__getattr__" = some none
  cl_BadLoad : PySem.W.findIn K (.ref C_BadLoad) "__class__" = some (some (.builtin "object.__class__"))
  sp_class : PySem.W.specialIn K (.builtin "object.__class__") "__get__" = some (some (.builtin "getset_descriptor.__get__"))
  tk_class : PySem.W.takesIn K (.builtin "object.__class__") = some true
  mr_BadLoad : PySem.W.mroIn K C_BadLoad (.type "object") = some true
  sf_Load : PySem.W.selfFirst K C_Load = true
  ic_Load : PySem.W.findIn K (.ref C_Load) "__class__" = some (some (.builtin "object.__class__"))
  mr_Load : PySem.W.mroIn K C_Load (.type "object") = some true
  fn_Load_getitem : PySem.W.fnIn K fLoad_getitem = true
end D1

namespace D1
open PySem PySem.Spec PyProof.Rows L2
/-! ### small words -/
theorem iteD {c A B : Prop} [Decidable c] (hc : ¬ c) (h : B) : if decide c = true then A else B := by
  rw [decide_eq_false hc]
  exact iteF h
theorem iteDT {c A B : Prop} [Decidable c] (hc : c) (h : A) : if decide c = true then A else B := by
  rw [decide_eq_true hc]
  exact iteT h
theorem iteND {c A B : Prop} [Decidable c] (hc : c) (h : B) : if (!decide c) = true then A else B := iteNS hc h
theorem iteDs {c A B : Prop} [Decidable c] (h1 : c → A) (h2 : ¬ c → B) : if decide c = true then A else B := by
  by_cases h : c
  · exact iteDT h (h1 h)
  · exact iteD h (h2 h)
/-- a op b op c op d, three comparisons -/
def tChain3 (r r' r'' : R2) (ta tb tc td : TE) : TE := fun σ H Q => ta σ H fun x H1 => tb σ H1 fun y H2 => r x y H2 fun z H3 => ∃ k, z = .bl k ∧
  (if k = true then tc σ H3 fun y' H4 => r' y y' H4 fun z' H5 => ∃ k', z' = .bl k' ∧ (if k' = true then td σ H5 fun y'' H6 => r'' y' y'' H6 Q else Q (.bl false) H5) else Q (.bl false) H3)
theorem pe_chain3 {X : Cx} {a b c d : Expr} {pos : Pos} {ta tb tc td : TE} {op op' op2 : CmpOp} {r r' r'' : R2} (ho : OpR X (compareOp op) r) (ho' : OpR X (compareOp op') r') (ho2 : OpR X (compareOp op2) r'')
    (ha : PE X a ta) (hb : PE X b tb) (hc : PE X c tc) (hd : PE X d td) (hm : lastMarks [op, op', op2] [b, c, d] = false := by with_unfolding_all rfl) : PE X (.Compare a [op, op', op2] [b, c, d] pos) (tChain3 r r' r'' ta tb tc td) := by
  refine ⟨fun pins s σ H Q I h => ?_⟩
  refine Compare_chain (thn (ha.run pins s σ H _ I h) fun v s1 ⟨x, H1, I1, r1, q1⟩ => chain_link (thn (hb.run pins s1 σ H1 _ I1 q1) fun u s2 ⟨y, H2, I2, r2, q2⟩ =>
    thn (ho pins s2 σ H2 x y v u _ I2 r1 r2 q2) fun d s3 ⟨z, H3, I3, r3, k, e, q3⟩ => ?_)) hm
  subst e
  cases r3
  refine wpAny_truthy_bool ?_
  cases k with
  | false => exact ite_ff ⟨.bl false, H3, I3, rfl, q3⟩
  | true =>
    refine ite_tt (chain_link (thn (hc.run pins s3 σ H3 _ I3 q3) fun u' s4 ⟨y', H4, I4, r4, q4⟩ => thn (ho' pins s4 σ H4 y y' u u' _ I4 r2 r4 q4) fun d' s5 ⟨z', H5, I5, r5, k', e', q5⟩ => ?_))
    subst e'
    cases r5
    refine wpAny_truthy_bool ?_
    cases k' with
    | false => exact ite_ff ⟨.bl false, H5, I5, rfl, q5⟩
    | true => exact ite_tt (chain_last (thn (hd.run pins s5 σ H5 _ I5 q5) fun w' s6 ⟨y2, H6, I6, r6, q6⟩ => ho2 pins s6 σ H6 y' y2 u' w' Q I6 r4 r6 q6))
/-- isinstance of a built-in class -/
theorem isi {K : PySem.W.Frag} {H : Hp} {x : V} {a b : String} {r : Bool} {Q : VK} (h : TyX K H x (.type a)) (k : kitB a b = some r) (q : Q (.bl r) H) : rIsi K [x, .ty b] H Q :=
  ⟨x, .ty b, _, _, r, rfl, .ty b, h, kit_ty k, q⟩
/-! ### heaps -/
def But (p : Addr) (H H' : Hp) : Prop := ∀ b o, b ≠ p → H b = some o → H' b = some o
theorem But.refl (p : Addr) (H : Hp) : But p H H := fun _ _ _ h => h
theorem But.trans {p : Addr} {H H1 H2 : Hp} (a : But p H H1) (b : But p H1 H2) : But p H H2 := fun c o n h => b c o n (a c o n h)
theorem But.of {p : Addr} {H H' : Hp} (s : Same H H') : But p H H' := fun b o _ h => s b o h
theorem But.put {p : Addr} {H : Hp} {o : HO} : But p H (upd H p o) := fun b u n h => by
  rw [upd_ne n]
  exact h
theorem same_upd {H : Hp} {p : Addr} {o : HO} (h : H p = none) : Same H (upd H p o) := fun b x e => by
  rw [upd_ne (ne_of_none e h)]
  exact e
/-- a fresh object was changed -/
theorem Same.put {H H' : Hp} {p : Addr} {o : HO} (s : Same H H') (h : H p = none) : Same H (upd H' p o) := fun b x e => by
  rw [upd_ne (ne_of_none e h)]
  exact s b x e
theorem But.put' {q : Addr} {H H' : Hp} {p : Addr} {o : HO} (s : But q H H') (h : H p = none) : But q H (upd H' p o) := fun b x n e => by
  rw [upd_ne (ne_of_none e h)]
  exact s b x n e
/-- what is free behind was free before, but for the pool -/
theorem But.free {p : Addr} {H H' : Hp} (e : But p H H') {l : Addr} (hl : l ≠ p) (h : H' l = none) : H l = none := by
  cases q : H l with
  | none => rfl
  | some o =>
    rw [e l o hl q] at h
    cases h
def Pool (H : Hp) (p : Addr) : Prop := ∃ x f c : Int, H p = some (.lst [.int x, .int f, .int c])
theorem Pool.ne {H : Hp} {p l : Addr} (h : Pool H p) (hl : H l = none) : l ≠ p := fun e => by
  obtain ⟨x, f, c, h⟩ := h
  rw [e, h] at hl
  cases hl
theorem Pool.same {H H' : Hp} {p : Addr} (h : Pool H p) (s : Same H H') : Pool H' p := by
  obtain ⟨x, f, c, h⟩ := h
  exact ⟨x, f, c, s _ _ h⟩
theorem Pool.upd {H : Hp} {p l : Addr} {o : HO} (h : Pool H p) (hl : l ≠ p) : Pool (upd H l o) p := by
  obtain ⟨x, f, c, h⟩ := h
  exact ⟨x, f, c, by rw [upd_ne hl.symm]; exact h⟩
section
variable {P : Program} {w : World} {K : PySem.W.Frag} {mg : Str → Option Value} {base : Heap}
/-! ### cell, pool, take -/
def spCell (K : PySem.W.Frag) : Sp := fun vs H Q _ => ∃ (a : Addr) (ns : List Int) (k : Nat), vs = [.ref a, .int k] ∧ SqL K H a (ns.map V.int) ∧ ∀ i : Int, Q (.int i) H
theorem scCell : FnScope ["_law_script", "_law_k"] ["_law_script", "_law_k"] (defScope sCell) := ⟨rfl, rfl, rfl, by decide +kernel, rfl, by decide +kernel, by decide +kernel⟩
theorem ok_cell (T : Tx K mg) : FnOk P w K mg base CX0 1 T.f_law_cell T.d_law_cell ["_law_script", "_law_k"] (spCell K) := by
  refine T.F_law_cell.ok scCell (fun vs H Q E h => ?_) (fun cdv A outer s H vs Q E hr h => ?_)
  · obtain ⟨a, ns, k, rfl, _⟩ := h
    rfl
  · obtain ⟨a, ns, k, rfl, hS, q⟩ := h
    refine ⟨_, pss_cons (ps_if (pt_cmpR op_lt (pv 1) (pe_callB call_len_seq (by rfl) T.z_len (by decide +kernel) (pa_cons (pv 0) pa_nil)) (nomark _)) (pss_one (ps_ret (pe_callB call_abs (by rfl) T.z_abs (by decide +kernel) (pa_cons (pe_ix ix_list (pv 0) (pv 1) (fun _ _ => rfl)) pa_nil)))) (pss_nil))
      (pss_one (ps_ret pe_int)), ?_⟩
    refine ⟨_, rfl, _, rfl, a, _, rfl, .inl hS, _, _, rfl, rfl, _, rfl, iteDs (fun h => ?_) (fun _ => q _)⟩
    have hk : k < ns.length := by
      rw [List.length_map] at h
      omega
    refine ⟨_, rfl, _, rfl, a, _, _, .int ns[k], rfl, rfl, hS, atI_nat (by rw [List.getElem?_map, List.getElem?_eq_getElem hk]; rfl), _, rfl, q _⟩
def spPool (K : PySem.W.Frag) : Sp := fun vs H Q _ => ∃ (a : Addr) (ns : List Int) (k : Nat), vs = [.ref a, .int k] ∧ SqL K H a (ns.map V.int) ∧ k ≤ 1000 ∧ ∀ H' p, H p = none → Same H H' → Pool H' p → Q (.ref p) H'
theorem scPool : FnScope ["_law_script", "_law_k", "_law_cell_here"] ["_law_script", "_law_k"] (defScope sPool) := ⟨rfl, rfl, rfl, by decide +kernel, rfl, by decide +kernel, by decide +kernel⟩
theorem ok_pool (T : Tx K mg) : FnOk P w K mg base CX0 2 T.f_law_pool T.d_law_pool ["_law_script", "_law_k"] (spPool K) := by
  have G_law_cell := ok_cell (P := P) (w := w) (base := base) T
  refine T.F_law_pool.ok scPool (fun vs H Q E h => ?_) (fun cdv A outer s H vs Q E hr h => ?_)
  · obtain ⟨a, ns, k, rfl, _⟩ := h
    rfl
  · obtain ⟨a, ns, k, rfl, hS, hk, q⟩ := h
    refine ⟨_, pss_cons (ps_set (i := 2) scPool.nd rfl (.inl rfl) (pe_call G_law_cell hr (by rfl) T.g_law_cell T.F_law_cell.kp T.b_law_cell .nil pass0 (pa_cons (pv 0) (pa_cons (pv 1) pa_nil))))
      (pss_one (ps_ret (pe_lst (pa_cons (pv 2) (pa_cons (pe_callTy call_int1 (by rfl) T.z_int (by decide +kernel) (pa_cons (pe_cmpR op_ge (pv 2) (pe_op op_pow pe_int pe_int) (nomark _)) pa_nil)) (pa_cons (pe_op op_mul pe_int (pv 1)) pa_nil)))))), ?_⟩
    refine ⟨_, rfl, _, rfl, a, ns, k, rfl, hS, fun i => ?_⟩
    refine ⟨_, rfl, _, rfl, _, _, rfl, rfl, ⟨by decide, by decide, by decide⟩, _, _, rfl, rfl, .inr ⟨_, rfl, _, rfl, _, _, rfl, rfl, .inl ⟨by decide, by decide⟩, (by show 3 ≤ sizeLine; decide), fun p hp => ?_⟩⟩
    exact q _ p hp (same_upd hp) ⟨_, _, _, upd_same⟩
def spTake : Sp := fun vs H Q _ => ∃ (p : Addr) (m : Int), vs = [.ref p, .int m] ∧ Pool H p ∧ 0 < m ∧ m < 1073741824 ∧ ∀ H' r, 0 ≤ r → r < m → Pool H' p → (∀ b, b ≠ p → H' b = H b) → Q (.int r) H'
theorem scTake : FnScope ["_law_pool_here", "_law_many", "_law_drawn", "_law_mixed"] ["_law_pool_here", "_law_many"] (defScope sTake) := ⟨rfl, rfl, rfl, by decide +kernel, rfl, by decide +kernel, by decide +kernel⟩
theorem mulOk {i j : Int} (h : 0 ≤ j) (h2 : j < 1000000) : CMul i j := .inr ⟨by omega, by omega⟩
/-- a remainder as a letter -/
theorem rmod {i j : Int} {R : Int → Prop} (hj : 0 < j) (q : ∀ r : Int, 0 ≤ r → r < j → R r) : ∃ r : Int, i % j = r ∧ 0 ≤ r ∧ r < j ∧ R r :=
  ⟨i % j, rfl, Int.emod_nonneg _ (by omega), Int.emod_lt_of_pos _ hj, q _ (Int.emod_nonneg _ (by omega)) (Int.emod_lt_of_pos _ hj)⟩
theorem emod_b (i : Int) {j : Int} (hj : 0 < j) : 0 ≤ i % j ∧ i % j < j := ⟨Int.emod_nonneg _ (by omega), Int.emod_lt_of_pos _ hj⟩
theorem ok_take (T : Tx K mg) : FnOk P w K mg base CX0 1 T.f_law_take T.d_law_take ["_law_pool_here", "_law_many"] spTake := by
  refine T.F_law_take.ok scTake (fun vs H Q E h => ?_) (fun cdv A outer s H vs Q E hr h => ?_)
  · obtain ⟨p, m, rfl, _⟩ := h
    rfl
  · obtain ⟨p, m, rfl, ⟨x, f, c, hp⟩, hm, hm2, q⟩ := h
    refine ⟨_, pss_cons (ps_if (PW.pt (pw_and (pt_cmpR op_eq (pe_ix ix_list (pv 0) pe_int (fun _ _ => rfl)) pe_int (nomark _)) (pw_and1 (pt_cmpR op_gt (pe_ix ix_list (pv 0) pe_int (fun _ _ => rfl)) pe_int (nomark _))))) (pss_cons (ps_set (i := 2) scTake.nd rfl (.inl rfl) (pe_op op_mod (pe_callTy call_int1 (by rfl) T.z_int (by decide +kernel) (pa_cons (pe_ix ix_list (pv 0) pe_int (fun _ _ => rfl)) pa_nil)) (pv 1)))
      (pss_cons (ps_asg (pe_op op_fdiv (pe_ix ix_list (pv 0) pe_int (fun _ _ => rfl)) (pv 1)) (pg_sub (pv 0) pe_int set_list))
      (pss_one (ps_ret (pv 2))))) (pss_nil))
      (pss_cons (ps_asg (pe_op op_add (pe_ix ix_list (pv 0) pe_int (fun _ _ => rfl)) pe_int) (pg_sub (pv 0) pe_int set_list))
      (pss_cons (ps_set (i := 3) scTake.nd rfl (.inl rfl) (pe_op op_mod (pe_callTy call_int1 (by rfl) T.z_int (by decide +kernel) (pa_cons (pe_op op_add (pe_op op_mul (pe_op op_add (pe_ix ix_list (pv 0) pe_int (fun _ _ => rfl)) pe_int) pe_int) (pe_op op_mul (pe_ix ix_list (pv 0) pe_int (fun _ _ => rfl)) pe_int)) pa_nil)) pe_int))
      (pss_cons (ps_set (i := 3) scTake.nd rfl (.inl rfl) (pe_op op_mod (pe_callTy call_int1 (by rfl) T.z_int (by decide +kernel) (pa_cons (pe_op op_add (pe_op op_mul (pv 3) pe_int) (pe_op op_mul (pe_ix ix_list (pv 0) pe_int (fun _ _ => rfl)) pe_int)) pa_nil)) pe_int))
      (pss_cons (ps_if (pt_cmpR op_gt (pe_ix ix_list (pv 0) pe_int (fun _ _ => rfl)) pe_int (nomark _)) (pss_one (ps_set (i := 3) scTake.nd rfl (.inl rfl) (pe_op op_mod (pe_callTy call_int1 (by rfl) T.z_int (by decide +kernel) (pa_cons (pe_op op_mul (pe_op op_fdiv (pv 3) pe_int) (pe_op op_add (pe_op op_add (pe_op op_fdiv (pv 3) pe_int) (pe_ix ix_list (pv 0) pe_int (fun _ _ => rfl))) pe_int)) pa_nil)) pe_int))) (pss_nil))
      (pss_one (ps_ret (pe_op op_mod (pe_callTy call_int1 (by rfl) T.z_int (by decide +kernel) (pa_cons (pe_op op_fdiv (pv 3) pe_int) pa_nil)) (pv 1)))))))), ?_⟩
    have hL := SqL.of (K := K) hp
    -- pool[1] == 1 and pool[0] > 1
    refine ⟨_, rfl, p, _, _, _, rfl, rfl, hL, rfl, rfl, _, rfl, ?_⟩
    refine iteDs (fun h1 => ⟨_, rfl, p, _, _, _, rfl, rfl, hL, rfl, _, _, rfl, rfl, _, rfl, iteDs (fun h2 => ?c) (fun _ => ?t1)⟩) (fun _ => ?t2)
    case c =>
      refine ⟨_, rfl, p, _, _, _, rfl, rfl, hL, rfl, .inl ⟨_, rfl, _, rfl, _, _, rfl, rfl, hm, ?_⟩⟩
      have hb := emod_b x hm
      refine ⟨_, rfl, p, _, _, _, rfl, rfl, hL, rfl, _, rfl, _, _, rfl, rfl, ⟨hm, hm2⟩, _, rfl, p, _, _, _, rfl, rfl, hp, rfl, ?_⟩
      exact ⟨_, rfl, q _ _ hb.1 hb.2 ⟨_, _, _, upd_same⟩ fun b hb => upd_ne hb⟩
    all_goals
      refine ⟨_, rfl, p, _, _, _, rfl, rfl, hL, rfl, _, _, rfl, rfl, _, rfl, p, _, _, _, rfl, rfl, hp, rfl, ?_⟩
      have hp1 : (upd H p (.lst (([.int x, .int f, .int c] : List V).set 2 (.int (c + 1))))) p = some (.lst [.int x, .int f, .int (c + 1)]) := upd_same
      have hL1 := SqL.of (K := K) hp1
      refine ⟨_, rfl, p, _, _, _, rfl, rfl, hL1, rfl, _, _, rfl, rfl, _, _, rfl, rfl, mulOk (by decide) (by decide), _, rfl, p, _, _, _, rfl, rfl, hL1, rfl, _, _, rfl, rfl, mulOk (by decide) (by decide), _, _, rfl, rfl, .inl ⟨_, rfl, _, _, rfl, rfl, (show (0 : Int) < 2147483629 by decide), ?_⟩⟩
      refine ⟨_, rfl, _, _, rfl, rfl, mulOk (by decide) (by decide), _, rfl, p, _, _, _, rfl, rfl, hL1, rfl, _, _, rfl, rfl, mulOk (by decide) (by decide), _, _, rfl, rfl, .inl ⟨_, rfl, _, _, rfl, rfl, (show (0 : Int) < 2147483587 by decide), ?_⟩⟩
      refine ⟨_, rfl, p, _, _, _, rfl, rfl, hL1, rfl, _, _, rfl, rfl, _, rfl, iteDs (fun _ => ?_) (fun _ => ?_)⟩
      · refine ⟨_, rfl, _, _, rfl, rfl, ⟨by decide, by decide⟩, _, rfl, _, _, rfl, rfl, ⟨by decide, by decide⟩, _, rfl, p, _, _, _, rfl, rfl, hL1, rfl, _, _, rfl, rfl, _, _, rfl, rfl, _, _, rfl, rfl, .inl ⟨by omega, by omega⟩, .inl ⟨_, rfl, _, _, rfl, rfl, (show (0 : Int) < 2147483563 by decide), ?_⟩⟩
        refine ⟨_, rfl, _, _, rfl, rfl, ⟨by decide, by decide⟩, .inl ⟨_, rfl, _, rfl, _, _, rfl, rfl, hm, ?_⟩⟩
        exact q _ _ (emod_b _ hm).1 (emod_b _ hm).2 ⟨_, _, _, hp1⟩ fun b hb => upd_ne hb
      · refine ⟨_, rfl, _, _, rfl, rfl, ⟨by decide, by decide⟩, .inl ⟨_, rfl, _, rfl, _, _, rfl, rfl, hm, ?_⟩⟩
        exact q _ _ (emod_b _ hm).1 (emod_b _ hm).2 ⟨_, _, _, hp1⟩ fun b hb => upd_ne hb
end
end D1

namespace D1
open PySem PySem.Spec PyProof.Rows L2
section
variable {P : Program} {w : World} {K : PySem.W.Frag} {mg : Str → Option Value} {base : Heap}
/-! ### the same datum twice -/
/-- both show one datum of depth below n; scalars are ints -/
def Rp : Nat → Hp → V → V → Prop
  | 0, _, _, _ => False
  | n + 1, H, u, v => (∃ i : Int, u = .int i ∧ v = .int i) ∨ ∃ (a b : Addr) (xs ys : List V), u = .ref a ∧ v = .ref b ∧ ((H a = some (.lst xs) ∧ H b = some (.lst ys)) ∨ (H a = some (.tup xs) ∧ H b = some (.tup ys))) ∧
      xs.length = ys.length ∧ xs.length ≤ 1000 ∧ ∀ (i : Nat) (x y : V), xs[i]? = some x → ys[i]? = some y → Rp n H x y
theorem Rp.same {H H' : Hp} (s : Same H H') : ∀ {n : Nat} {u v : V}, Rp n H u v → Rp n H' u v
  | 0, _, _, h => h.elim
  | n + 1, _, _, .inl h => .inl h
  | n + 1, _, _, .inr ⟨a, b, xs, ys, e1, e2, h, hl, hz, hr⟩ => .inr ⟨a, b, xs, ys, e1, e2, h.elim (fun q => .inl ⟨s _ _ q.1, s _ _ q.2⟩) (fun q => .inr ⟨s _ _ q.1, s _ _ q.2⟩), hl, hz, fun i x y hx hy => Rp.same s (hr i x y hx hy)⟩
def spSame (n : Nat) : Sp := fun vs H Q _ => ∃ u v : V, vs = [u, v] ∧ Rp n H u v ∧ Q (.bl true) H
theorem scSame : FnScope ["_law_got", "_law_due_here", "_law_k"] ["_law_got", "_law_due_here"] (defScope sSame) := ⟨rfl, rfl, rfl, by decide +kernel, rfl, by decide +kernel, by decide +kernel⟩
theorem ok_same (T : Tx K mg) : ∀ n : Nat, FnOk P w K mg base CX0 n T.f_law_same T.d_law_same ["_law_got", "_law_due_here"] (spSame n)
  | 0 => ⟨fun vs H Q E ⟨u, v, _, h, _⟩ => h.elim, fun A outer s H args us vs Q E _ _ _ _ ⟨u, v, _, h, _⟩ => h.elim⟩
  | n + 1 => by
    have G_law_same := ok_same T n
    refine T.F_law_same.ok scSame (fun vs H Q E h => ?_) (fun cdv A outer s H vs Q E hr h => ?_)
    · obtain ⟨u, v, rfl, _⟩ := h
      rfl
    · obtain ⟨u, v, rfl, hR, q⟩ := h
      rcases hR with ⟨i, rfl, rfl⟩ | ⟨a, b, xs, ys, rfl, rfl, hab, hl, hz, hr2⟩
      · refine ⟨_, pss_cons (ps_if (PW.pt (pw_or (pt_val (pe_callB call_isi (by rfl) T.z_isinstance (by decide +kernel) (pa_cons (pv 0) (pa_cons (pe_bltn (v := .ty "bool") (by rfl) T.z_bool (by decide +kernel) rfl) pa_nil)))) (pw_or1 (pt_val (pe_callB call_isi (by rfl) T.z_isinstance (by decide +kernel) (pa_cons (pv 1) (pa_cons (pe_bltn (v := .ty "bool") (by rfl) T.z_bool (by decide +kernel) rfl) pa_nil))))))) (pss_one ps_never) (pss_nil))
          (pss_cons (ps_if (PW.pt (pw_or (pt_cmpR op_isN (pv 0) pe_non (nomark _)) (pw_or1 (pt_cmpR op_isN (pv 1) pe_non (nomark _))))) (pss_one ps_never) (pss_nil))
          (pss_cons (ps_if (pt_val (pe_callB call_isi (by rfl) T.z_isinstance (by decide +kernel) (pa_cons (pv 1) (pa_cons (pe_bltn (v := .ty "int") (by rfl) T.z_int (by decide +kernel) rfl) pa_nil)))) (pss_one (ps_ret (pe_and (pe_callB call_isi (by rfl) T.z_isinstance (by decide +kernel) (pa_cons (pv 0) (pa_cons (pe_bltn (v := .ty "int") (by rfl) T.z_int (by decide +kernel) rfl) pa_nil))) (pe_one (pe_cmpR op_eq (pv 0) (pv 1) (nomark _)))))) (pss_nil))
          (pss_cons ps_never (pss_cons ps_never (pss_cons ps_never (pss_cons ps_never (pss_cons ps_never (pss_one ps_never)))))))), ?_⟩
        refine ⟨_, rfl, _, _, _, _, _, rfl, .ty _, (.base (.int i)), kit_ty (by decide +kernel), ⟨_, rfl, iteF ⟨_, rfl, _, _, _, _, _, rfl, .ty _, (.base (.int i)), kit_ty (by decide +kernel), ⟨_, rfl, iteF ?_⟩⟩⟩⟩
        refine ⟨_, rfl, rfl, _, rfl, iteD (by intro z; cases z) ⟨_, rfl, rfl, _, rfl, iteD (by intro z; cases z) ?_⟩⟩
        refine ⟨_, rfl, _, _, _, _, _, rfl, .ty _, (.base (.int i)), kit_ty (by decide +kernel), ⟨_, rfl, iteT ⟨_, rfl, _, _, _, _, _, rfl, .ty _, (.base (.int i)), kit_ty (by decide +kernel), ⟨_, rfl, iteT ⟨_, rfl, _, rfl, rfl, ?_⟩⟩⟩⟩⟩
        rw [decide_eq_true rfl]
        exact q
      · refine ⟨_, pss_cons (ps_if (PW.pt (pw_or (pt_val (pe_callB call_isi (by rfl) T.z_isinstance (by decide +kernel) (pa_cons (pv 0) (pa_cons (pe_bltn (v := .ty "bool") (by rfl) T.z_bool (by decide +kernel) rfl) pa_nil)))) (pw_or1 (pt_val (pe_callB call_isi (by rfl) T.z_isinstance (by decide +kernel) (pa_cons (pv 1) (pa_cons (pe_bltn (v := .ty "bool") (by rfl) T.z_bool (by decide +kernel) rfl) pa_nil))))))) (pss_one ps_never) (pss_nil))
          (pss_cons (ps_if (PW.pt (pw_or (pt_cmpR op_isN (pv 0) pe_non (nomark _)) (pw_or1 (pt_cmpR op_isN (pv 1) pe_non (nomark _))))) (pss_one ps_never) (pss_nil))
          (pss_cons (ps_if (pt_val (pe_callB call_isi (by rfl) T.z_isinstance (by decide +kernel) (pa_cons (pv 1) (pa_cons (pe_bltn (v := .ty "int") (by rfl) T.z_int (by decide +kernel) rfl) pa_nil)))) (pss_one ps_never) (pss_nil))
          (pss_cons (ps_if (pt_val (pe_callB call_isi (by rfl) T.z_isinstance (by decide +kernel) (pa_cons (pv 1) (pa_cons (pe_bltn (v := .ty "str") (by rfl) T.z_str (by decide +kernel) rfl) pa_nil)))) (pss_one ps_never) (pss_nil))
          (pss_cons (ps_if (PW.pt (pw_and (pt_val (pe_callB call_isi (by rfl) T.z_isinstance (by decide +kernel) (pa_cons (pv 1) (pa_cons (pe_bltn (v := .ty "list") (by rfl) T.z_list (by decide +kernel) rfl) pa_nil)))) (pw_and1 (pt_not (pt_val (pe_callB call_isi (by rfl) T.z_isinstance (by decide +kernel) (pa_cons (pv 0) (pa_cons (pe_bltn (v := .ty "list") (by rfl) T.z_list (by decide +kernel) rfl) pa_nil)))))))) (pss_one ps_never) (pss_nil))
          (pss_cons (ps_if (PW.pt (pw_and (pt_val (pe_callB call_isi (by rfl) T.z_isinstance (by decide +kernel) (pa_cons (pv 1) (pa_cons (pe_bltn (v := .ty "tuple") (by rfl) T.z_tuple (by decide +kernel) rfl) pa_nil)))) (pw_and1 (pt_not (pt_val (pe_callB call_isi (by rfl) T.z_isinstance (by decide +kernel) (pa_cons (pv 0) (pa_cons (pe_bltn (v := .ty "tuple") (by rfl) T.z_tuple (by decide +kernel) rfl) pa_nil)))))))) (pss_one ps_never) (pss_nil))
          (pss_cons (ps_if (pt_cmpR op_ne (pe_callB call_len_seq (by rfl) T.z_len (by decide +kernel) (pa_cons (pv 0) pa_nil)) (pe_callB call_len_seq (by rfl) T.z_len (by decide +kernel) (pa_cons (pv 1) pa_nil)) (nomark _)) (pss_one ps_never) (pss_nil))
          (pss_cons (ps_for PassesOwn.never rfl (pi_range1 (by rfl) T.z_range (pa_cons (pe_callB call_len_seq (by rfl) T.z_len (by decide +kernel) (pa_cons (pv 1) pa_nil)) pa_nil)) (pg_name (i := 2) scSame.nd rfl (.inl rfl))
            (pss_one (ps_if (pt_not (pt_val (pe_call G_law_same hr (by rfl) T.g_law_same T.F_law_same.kp T.b_law_same .nil pass0 (pa_cons (pe_ix ix_seq (pv 0) (pv 2) (fun _ _ => rfl)) (pa_cons (pe_ix ix_seq (pv 1) (pv 2) (fun _ _ => rfl)) pa_nil))))) (pss_one ps_never) (pss_nil))))
          (pss_one (ps_ret pe_bl))))))))), ?_⟩
        obtain ⟨t, ta, tb, kb, ks⟩ : ∃ t : String, TyX K H (.ref a) (.type t) ∧ TyX K H (.ref b) (.type t) ∧ (kitB t "bool" = some false ∧ kitB t "int" = some false ∧ kitB t "str" = some false) ∧ ((kitB t "list" = some true ∧ kitB t "tuple" = some false) ∨ (kitB t "list" = some false ∧ kitB t "tuple" = some true)) := by
          rcases hab with ⟨h1, h2⟩ | ⟨h1, h2⟩
          · exact ⟨"list", .base (.lst h1), .base (.lst h2), ⟨by decide +kernel, by decide +kernel, by decide +kernel⟩, .inl ⟨by decide +kernel, by decide +kernel⟩⟩
          · exact ⟨"tuple", .base (.tup h1), .base (.tup h2), ⟨by decide +kernel, by decide +kernel, by decide +kernel⟩, .inr ⟨by decide +kernel, by decide +kernel⟩⟩
        have sa : SqL K H a xs ∨ SqT K H a xs := hab.elim (fun q => .inl (SqL.of q.1)) (fun q => .inr (SqT.of q.1))
        have sb : SqL K H b ys ∨ SqT K H b ys := hab.elim (fun q => .inl (SqL.of q.2)) (fun q => .inr (SqT.of q.2))
        refine ⟨_, rfl, _, _, _, _, _, rfl, .ty _, ta, kit_ty kb.1, ⟨_, rfl, iteF ⟨_, rfl, _, _, _, _, _, rfl, .ty _, tb, kit_ty kb.1, ⟨_, rfl, iteF ?_⟩⟩⟩⟩
        refine ⟨_, rfl, rfl, _, rfl, iteD (by intro z; cases z) ⟨_, rfl, rfl, _, rfl, iteD (by intro z; cases z) ?_⟩⟩
        refine ⟨_, rfl, _, _, _, _, _, rfl, .ty _, tb, kit_ty kb.2.1, ⟨_, rfl, iteF ⟨_, rfl, _, _, _, _, _, rfl, .ty _, tb, kit_ty kb.2.2, ⟨_, rfl, iteF ?_⟩⟩⟩⟩
        have fin : ∀ {i : Nat} {z : Int} {x y : V}, z = (i : Int) → xs[i]? = some x → ys[i]? = some y → rIx K (.ref a) (.int z) H (fun x' H' => x' = x ∧ H' = H) ∧ rIx K (.ref b) (.int z) H (fun x' H' => x' = y ∧ H' = H) := fun {i z x y} ez hx hy => by
          rcases hab with ⟨h1, h2⟩ | ⟨h1, h2⟩
          · exact ⟨.inl ⟨a, xs, _, x, rfl, rfl, SqL.of h1, at_of ez hx, rfl, rfl⟩, .inl ⟨b, ys, _, y, rfl, rfl, SqL.of h2, at_of ez hy, rfl, rfl⟩⟩
          · exact ⟨.inr (.inl ⟨a, xs, _, x, rfl, rfl, SqT.of h1, at_of ez hx, rfl, rfl⟩), .inr (.inl ⟨b, ys, _, y, rfl, rfl, SqT.of h2, at_of ez hy, rfl, rfl⟩)⟩
        have im : ∀ {x : V} {y : V} {z : V} {Q' : VK}, Q' z H → rIx K x y H (fun x' H' => x' = z ∧ H' = H) → rIx K x y H Q' := fun {x y z Q'} k h => by
          rcases h with ⟨p, zs, i, v, e1, e2, e3, e4, rfl, _⟩ | ⟨p, zs, i, v, e1, e2, e3, e4, rfl, _⟩ | ⟨s, i, c, e1, e2, e3, e4, e5, _⟩
          · exact .inl ⟨p, zs, i, v, e1, e2, e3, e4, k⟩
          · exact .inr (.inl ⟨p, zs, i, v, e1, e2, e3, e4, k⟩)
          · exact .inr (.inr ⟨s, i, c, e1, e2, e3, e4, by rw [e5]; exact k⟩)
        rcases ks with ⟨k1, k2⟩ | ⟨k1, k2⟩
        · refine ⟨_, rfl, _, _, _, _, _, rfl, .ty _, tb, kit_ty k1, _, rfl, iteT ⟨_, rfl, _, _, _, _, _, rfl, .ty _, ta, kit_ty k1, _, rfl, iteF ?_⟩⟩
          refine ⟨_, rfl, _, _, _, _, _, rfl, .ty _, tb, kit_ty k2, _, rfl, iteF (iteF ?_)⟩
          refine ⟨_, rfl, a, _, rfl, sa, _, rfl, b, _, rfl, sb, rfl, _, rfl, iteND (by rw [hl]) ?_⟩
          refine ⟨_, rfl, b, _, rfl, sb, _, rfl, by omega, by omega, for_range (lo := 0) (n := ys.length) (fun _ σ H' => (∃ v, σ = [some (.ref a), some (.ref b), v]) ∧ H' = H) ⟨⟨none, rfl⟩, rfl⟩ ?_ ?_⟩
          · rintro i σ H' hi ⟨⟨v, rfl⟩, rfl⟩
            have hx := List.getElem?_eq_getElem (l := xs) (i := i) (by omega)
            have hy := List.getElem?_eq_getElem (l := ys) (i := i) (by omega)
            have e0 : (0 : Int) + (i : Int) = (i : Int) := by omega
            refine ⟨_, rfl, _, rfl, im ?_ (fin e0 hx hy).1⟩
            refine ⟨_, rfl, _, rfl, im ?_ (fin e0 hx hy).2⟩
            exact ⟨_, _, rfl, hr2 i _ _ hx hy, _, rfl, iteF ⟨⟨_, rfl⟩, rfl⟩⟩
          · rintro σ H' ⟨⟨v, rfl⟩, rfl⟩
            exact q
        · refine ⟨_, rfl, _, _, _, _, _, rfl, .ty _, tb, kit_ty k1, _, rfl, iteF (iteF ?_)⟩
          refine ⟨_, rfl, _, _, _, _, _, rfl, .ty _, tb, kit_ty k2, _, rfl, iteT ⟨_, rfl, _, _, _, _, _, rfl, .ty _, ta, kit_ty k2, _, rfl, iteF ?_⟩⟩
          refine ⟨_, rfl, a, _, rfl, sa, _, rfl, b, _, rfl, sb, rfl, _, rfl, iteND (by rw [hl]) ?_⟩
          refine ⟨_, rfl, b, _, rfl, sb, _, rfl, by omega, by omega, for_range (lo := 0) (n := ys.length) (fun _ σ H' => (∃ v, σ = [some (.ref a), some (.ref b), v]) ∧ H' = H) ⟨⟨none, rfl⟩, rfl⟩ ?_ ?_⟩
          · rintro i σ H' hi ⟨⟨v, rfl⟩, rfl⟩
            have hx := List.getElem?_eq_getElem (l := xs) (i := i) (by omega)
            have hy := List.getElem?_eq_getElem (l := ys) (i := i) (by omega)
            have e0 : (0 : Int) + (i : Int) = (i : Int) := by omega
            refine ⟨_, rfl, _, rfl, im ?_ (fin e0 hx hy).1⟩
            refine ⟨_, rfl, _, rfl, im ?_ (fin e0 hx hy).2⟩
            exact ⟨_, _, rfl, hr2 i _ _ hx hy, _, rfl, iteF ⟨⟨_, rfl⟩, rfl⟩⟩
          · rintro σ H' ⟨⟨v, rfl⟩, rfl⟩
            exact q
end
end D1

namespace D1
open PySem PySem.Spec PyProof.Rows L2 KO
theorem iteNDT {c A B : Prop} [Decidable c] (hc : ¬ c) (h : A) : if (!decide c) = true then A else B := by
  rw [decide_eq_false hc]
  exact iteT h
theorem iteNDs {c A B : Prop} [Decidable c] (h1 : ¬ c → A) (h2 : c → B) : if (!decide c) = true then A else B := by
  by_cases h : c
  · exact iteND h (h2 h)
  · exact iteNDT h (h1 h)
theorem pss_never {X : Cx} {l : List Stmt} : PSs X l (fun _ _ _ => False) := ⟨fun _ _ _ _ _ _ h => h.elim⟩
/-! ### lists of ints as data -/
theorem dp_ints {K : PySem.W.Frag} {H : Hp} : ∀ ns : List Int, DpAll K H (ns.map V.int) (ns.map PyData.int)
  | [] => .nil
  | n :: ns => .cons (.int n) (dp_ints ns)
theorem dp_list {K : PySem.W.Frag} {H : Hp} {a : Addr} {ns : List Int} (h : SqL K H a (ns.map V.int)) : Dp K H (.ref a) (.list (ns.map PyData.int)) := .lst h (dp_ints ns)
theorem can_ints : ∀ ns : List Int, PyData.canLayAll0 (ns.map PyData.int) = true
  | [] => by simp [PyData.canLayAll0]
  | n :: ns => by simp [PyData.canLayAll0, PyData.canLay0, can_ints ns]
theorem dep_ints : ∀ ns : List Int, PyData.depthAll (ns.map PyData.int) = 0
  | [] => by simp [PyData.depthAll]
  | n :: ns => by simp [PyData.depthAll, PyData.depth, dep_ints ns]
theorem sh_ints (ns : List Int) : SeqAt.shaped (.list (ns.map PyData.int)) = true := by
  unfold SeqAt.shaped
  simp [PyData.canLay0, PyData.depth, can_ints, dep_ints]
theorem eqv_all : ∀ ns ms : List Int, PyData.eqvAll (ns.map PyData.int) (ms.map PyData.int) = decide (ns = ms)
  | [], [] => by simp [PyData.eqvAll]
  | [], m :: ms => by simp [PyData.eqvAll]
  | n :: ns, [] => by simp [PyData.eqvAll]
  | n :: ns, m :: ms => by
    show (PyData.eqv (.int n) (.int m) && PyData.eqvAll (ns.map PyData.int) (ms.map PyData.int)) = _
    rw [eqv_all ns ms]
    show (n == m && decide (ns = ms)) = _
    by_cases h : n = m
    · subst h
      simp
    · simp [h]
theorem eqv_ints (ns ms : List Int) : PyData.eqv (.list (ns.map PyData.int)) (.list (ms.map PyData.int)) = decide (ns = ms) := by
  show PyData.eqvAll _ _ = _
  exact eqv_all ns ms
theorem rq_ints {K : PySem.W.Frag} {H : Hp} {a b : Addr} {ns ms : List Int} {Q : VK} (ha : SqL K H a (ns.map V.int)) (hb : SqL K H b (ms.map V.int)) (q : Q (.bl (decide (ns = ms))) H) : rEqD K (.ref a) (.ref b) H Q := by
  refine ⟨_, _, dp_list ha, dp_list hb, sh_ints _, sh_ints _, ?_⟩
  rw [eqv_ints]
  exact q
/-! ### a load as it stands -/
section
variable {P : Program} {w : World} {K : PySem.W.Frag} {mg : Str → Option Value} {base : Heap}
/-- at a an instance of C that shows ns; the list is at l -/
def Ld (C : Addr) (H : Hp) (a l : Addr) (ns : List Int) : Prop := ∃ dx, H a = some (.ins C dx [("_counts", .ref l)]) ∧ H l = some (.lst (ns.map V.int))
theorem Ld.same {C : Addr} {H H' : Hp} {a l : Addr} {ns : List Int} (h : Ld C H a l ns) (s : Same H H') : Ld C H' a l ns := let ⟨dx, h1, h2⟩ := h; ⟨dx, s _ _ h1, s _ _ h2⟩
theorem look_c {l : Addr} : List.lookup ("_counts" : Str) [(("_counts" : Str), V.ref l)] = some (V.ref l) := by simp [List.lookup]
/-! ### the checks -/
def spClen (C : Addr) : Sp := fun vs H Q E => ∃ n : Int, vs = [.int n] ∧ (1 ≤ n ∧ n ≤ 60 → Q .non H) ∧ (¬ (1 ≤ n ∧ n ≤ 60) → E (.ref C) none H)
theorem scClen : FnScope ["length"] ["length"] (defScope sClen) := ⟨rfl, rfl, rfl, by decide +kernel, rfl, by decide +kernel, by decide +kernel⟩
theorem ok_clen (T : Tx K mg) : FnOk P w K mg base (L2.CX P w) 1 T.fcheck_length T.dcheck_length ["length"] (spClen T.C_BadLoad) := by
  refine T.Fcheck_length.okX scClen (fun vs H Q E h => ?_) (fun cdv A outer s H vs Q E hr h => ?_)
  · obtain ⟨n, rfl, _⟩ := h
    rfl
  · obtain ⟨n, rfl, q1, q2⟩ := h
    refine ⟨_, pss_one (ps_if (pt_not (pt_chain op_le op_le pe_int (pv 0) (pe_glob (v := .int 60) rfl T.c_MOST_LENGTH ⟨_, rfl⟩))) (pss_one (ps_raise rfl (takes_of rfl rfl rfl rfl) (pmk_own0 PySem.F.excBase_ValueError T.xo_BadLoad T.g_BadLoad T.kp_BadLoad (raises_own T.bs_BadLoad T.ty_BadLoad) (by rfl)))) (pss_nil)), ?_⟩
    refine ⟨_, rfl, _, _, rfl, rfl, _, rfl, ?_⟩
    refine iteDs (fun h1 => ⟨_, _, rfl, rfl, _, rfl, ?_⟩) (fun h1 => ⟨_, rfl, ?_⟩)
    · by_cases h2 : n ≤ 60
      · exact iteND h2 (q1 ⟨h1, h2⟩)
      · refine iteNDT h2 (q2 fun h => h2 h.2)
    · exact q2 fun h => h1 h.1
def spClst (C : Addr) : Sp := fun vs H Q E => ∃ n m : Int, vs = [.int n, .int m] ∧ (m ≤ n → Q .non H) ∧ (n < m → E (.ref C) none H)
theorem scClst : FnScope ["number", "least"] ["number", "least"] (defScope sClst) := ⟨rfl, rfl, rfl, by decide +kernel, rfl, by decide +kernel, by decide +kernel⟩
theorem ok_clst (T : Tx K mg) : FnOk P w K mg base (L2.CX P w) 1 T.fcheck_least T.dcheck_least ["number", "least"] (spClst T.C_BadLoad) := by
  refine T.Fcheck_least.okX scClst (fun vs H Q E h => ?_) (fun cdv A outer s H vs Q E hr h => ?_)
  · obtain ⟨n, m, rfl, _⟩ := h
    rfl
  · obtain ⟨n, m, rfl, q1, q2⟩ := h
    refine ⟨_, pss_one (ps_if (pt_cmpR op_lt (pv 0) (pv 1) (nomark _)) (pss_one (ps_raise rfl (takes_of rfl rfl rfl rfl) (pmk_own0 PySem.F.excBase_ValueError T.xo_BadLoad T.g_BadLoad T.kp_BadLoad (raises_own T.bs_BadLoad T.ty_BadLoad) (by rfl)))) (pss_nil)), ?_⟩
    refine ⟨_, rfl, _, rfl, _, _, rfl, rfl, _, rfl, ?_⟩
    exact iteDs (fun h1 => q2 h1) (fun h1 => q1 (by omega))
/-! ### the methods that only look -/
def spLen (C : Addr) : Sp := fun vs H Q _ => ∃ a l ns, vs = [.ref a] ∧ Ld C H a l ns ∧ Q (.int ns.length) H
theorem scLen : FnScope ["self"] ["self"] (defScope sLen) := ⟨rfl, rfl, rfl, by decide +kernel, rfl, by decide +kernel, by decide +kernel⟩
theorem ok_len (T : Tx K mg) : FnOk P w K mg base CX0 1 T.fLoad_len T.dLoad_len ["self"] (spLen T.C_Load) := by
  refine T.FLoad_len.ok scLen (fun vs H Q E h => ?_) (fun cdv A outer s H vs Q E hr h => ?_)
  · obtain ⟨a, l, ns, rfl, _⟩ := h
    rfl
  · obtain ⟨a, l, ns, rfl, ⟨dx, ha, hl⟩, q⟩ := h
    refine ⟨_, pss_one (ps_ret (pe_callB call_len_seq (by rfl) T.z_len (by decide +kernel) (pa_cons (pe_fld (pv 0) rfl) pa_nil))), ?_⟩
    refine ⟨_, rfl, a, T.C_Load, dx, _, _, rfl, ha, T.cl_Load, T.na_Load__counts, look_c, l, _, rfl, .inl (SqL.of hl), ?_⟩
    rw [List.length_map]
    exact q
/-- the count at a minute -/
def inL (ns : List Int) (i : Int) : Prop := 0 ≤ i ∧ i < ns.length
theorem at_of {ns : List Int} {i c : Int} (h : inL ns i) (hc : ns[i.toNat]? = some c) : atI (ns.map V.int) i = some (.int c) := by
  obtain ⟨n, rfl⟩ := Int.eq_ofNat_of_zero_le h.1
  exact atI_nat (by rw [List.getElem?_map]; rw [show ((n : Int).toNat) = n from rfl] at hc; rw [hc]; rfl)
theorem in_get {ns : List Int} {i : Int} (h : inL ns i) : ∃ c, ns[i.toNat]? = some c := by
  obtain ⟨h1, h2⟩ := h
  exact ⟨_, List.getElem?_eq_getElem (by omega)⟩
def spBoo (C : Addr) : Sp := fun vs H Q _ => ∃ a l ns, vs = [.ref a] ∧ Ld C H a l ns ∧ Q (.bl (ns.any fun n => n != 0)) H
theorem scBoo : FnScope ["self"] ["self"] (defScope sBoo) := ⟨rfl, rfl, rfl, by decide +kernel, rfl, by decide +kernel, by decide +kernel⟩
theorem ok_boo (T : Tx K mg) : FnOk P w K mg base CX0 1 T.fLoad_bool T.dLoad_bool ["self"] (spBoo T.C_Load) := by
  refine T.FLoad_bool.ok scBoo (fun vs H Q E h => ?_) (fun cdv A outer s H vs Q E hr h => ?_)
  · obtain ⟨a, l, ns, rfl, _⟩ := h
    rfl
  · obtain ⟨a, l, ns, rfl, ⟨dx, ha, hl⟩, q⟩ := h
    refine ⟨_, pss_one (ps_ret (pe_callB (cr_anyI rfl) (by rfl) T.z_any (by decide +kernel) (pa_cons (pe_fld (pv 0) rfl) pa_nil))), ?_⟩
    exact ⟨_, rfl, a, T.C_Load, dx, _, _, rfl, ha, T.cl_Load, T.na_Load__counts, look_c, l, _, rfl, SqL.of hl, q⟩
def spEq (C : Addr) : Sp := fun vs H Q _ => ∃ a l ns b m ms, vs = [.ref a, .ref b] ∧ Ld C H a l ns ∧ Ld C H b m ms ∧ Q (.bl (decide (ns = ms))) H
theorem scEq : FnScope ["self", "other"] ["self", "other"] (defScope sEq) := ⟨rfl, rfl, rfl, by decide +kernel, rfl, by decide +kernel, by decide +kernel⟩
theorem ok_eq (T : Tx K mg) : FnOk P w K mg base CX0 1 T.fLoad_eq T.dLoad_eq ["self", "other"] (spEq T.C_Load) := by
  refine T.FLoad_eq.ok scEq (fun vs H Q E h => ?_) (fun cdv A outer s H vs Q E hr h => ?_)
  · obtain ⟨a, l, ns, b, m, ms, rfl, _⟩ := h
    rfl
  · obtain ⟨a, l, ns, b, m, ms, rfl, ⟨dx, ha, hl⟩, ⟨dy, hb, hm⟩, q⟩ := h
    refine ⟨_, pss_one (ps_ret (pe_and (pe_callB call_isi (by rfl) T.z_isinstance (by decide +kernel) (pa_cons (pv 1) (pa_cons (pe_glob (v := .ref T.C_Load) rfl T.g_Load rfl) pa_nil))) (pe_one (pe_cmpR (op_eqD hr.units) (pe_fld (pv 0) rfl) (pe_fld (pv 1) rfl) (nomark _))))), ?_⟩
    refine ⟨_, rfl, _, .ref T.C_Load, .ref T.C_Load, .ref T.C_Load, true, rfl, .own _, .base (.ins hb T.cl_Load T.ic_Load T.sp_class T.tk_class T.mr_Load), by unfold PySem.W.kitOne; simp, _, rfl, iteT ?_⟩
    refine ⟨_, rfl, a, T.C_Load, dx, _, _, rfl, ha, T.cl_Load, T.na_Load__counts, look_c, _, rfl, b, T.C_Load, dy, _, _, rfl, hb, T.cl_Load, T.na_Load__counts, look_c, ?_⟩
    exact rq_ints (SqL.of hl) (SqL.of hm) q
end
end D1

namespace D1
open PySem PySem.Spec PyProof.Rows L2 KO
theorem ixN_nat' {n j : Nat} (hj : j < n) : ixN n (j : Int) = some j := by
  unfold ixN
  rw [if_pos (by omega), if_pos (by omega)]
  rfl
section
variable {P : Program} {w : World} {K : PySem.W.Frag} {mg : Str → Option Value} {base : Heap}
/-! ### the methods that refuse -/
def spCmin (C B : Addr) : Sp := fun vs H Q E => ∃ (a l : Addr) (ns : List Int) (i : Int), vs = [.ref a, .int i] ∧ Ld C H a l ns ∧ (inL ns i → Q .non H) ∧ (¬ inL ns i → E (.ref B) none H)
theorem scCmin : FnScope ["self", "minute"] ["self", "minute"] (defScope sCmin) := ⟨rfl, rfl, rfl, by decide +kernel, rfl, by decide +kernel, by decide +kernel⟩
theorem ok_cmin (T : Tx K mg) : FnOk P w K mg base (L2.CX P w) 1 T.fLoad_check_minute T.dLoad_check_minute ["self", "minute"] (spCmin T.C_Load T.C_BadLoad) := by
  refine T.FLoad_check_minute.okX scCmin (fun vs H Q E h => ?_) (fun cdv A outer s H vs Q E hr h => ?_)
  · obtain ⟨a, l, ns, i, rfl, _⟩ := h
    rfl
  · obtain ⟨a, l, ns, i, rfl, ⟨dx, ha, hl⟩, q1, q2⟩ := h
    refine ⟨_, pss_one (ps_if (pt_not (pt_chain op_le op_lt pe_int (pv 1) (pe_callB call_len_seq (by rfl) T.z_len (by decide +kernel) (pa_cons (pe_fld (pv 0) rfl) pa_nil)))) (pss_one (ps_raise rfl (takes_of rfl rfl rfl rfl) (pmk_own0 PySem.F.excBase_ValueError T.xo_BadLoad T.g_BadLoad T.kp_BadLoad (raises_own T.bs_BadLoad T.ty_BadLoad) (by rfl)))) (pss_nil)), ?_⟩
    refine ⟨_, rfl, _, _, rfl, rfl, _, rfl, ?_⟩
    refine iteDs (fun h1 => ?_) (fun h1 => ⟨_, rfl, q2 fun h => h1 h.1⟩)
    refine ⟨_, rfl, a, T.C_Load, dx, _, _, rfl, ha, T.cl_Load, T.na_Load__counts, look_c, l, _, rfl, .inl (SqL.of hl), _, _, rfl, rfl, _, rfl, ?_⟩
    rw [List.length_map]
    exact iteNDs (fun h2 => q2 fun h => h2 h.2) (fun h2 => q1 ⟨h1, h2⟩)
def spGet (C B : Addr) : Sp := fun vs H Q E => ∃ (a l : Addr) (ns : List Int) (i : Int), vs = [.ref a, .int i] ∧ Ld C H a l ns ∧ (inL ns i → ∀ c, ns[i.toNat]? = some c → Q (.int c) H) ∧ (¬ inL ns i → E (.ref B) none H)
theorem scGet : FnScope ["self", "at"] ["self", "at"] (defScope sGet) := ⟨rfl, rfl, rfl, by decide +kernel, rfl, by decide +kernel, by decide +kernel⟩
theorem ok_get (T : Tx K mg) : FnOk P w K mg base (L2.CX P w) 2 T.fLoad_getitem T.dLoad_getitem ["self", "at"] (spGet T.C_Load T.C_BadLoad) := by
  have G := ok_cmin (P := P) (w := w) (base := base) T
  refine T.FLoad_getitem.okX scGet (fun vs H Q E h => ?_) (fun cdv A outer s H vs Q E hr h => ?_)
  · obtain ⟨a, l, ns, i, rfl, _⟩ := h
    rfl
  · obtain ⟨a, l, ns, i, rfl, L, q1, q2⟩ := h
    refine ⟨_, pss_cons (ps_expr (pe_meth (pv 0) T.cl_Load T.m_Load_check_minute G hr T.bLoad_check_minute .nil (passes_call (takes_of rfl rfl rfl rfl) (fun _ _ _ _ h => h)) (pa_cons (pv 1) pa_nil)))
      (pss_one (ps_ret (pe_ix ix_list (pe_fld (pv 0) rfl) (pv 1) (fun _ _ => rfl)))), ?_⟩
    obtain ⟨dx, ha, hl⟩ := id L
    refine ⟨_, rfl, a, dx, _, rfl, ha, rfl, _, rfl, a, l, ns, i, rfl, L, fun h1 => ?_, q2⟩
    obtain ⟨c, hc⟩ := in_get h1
    exact ⟨_, rfl, a, T.C_Load, dx, _, _, rfl, ha, T.cl_Load, T.na_Load__counts, look_c, _, rfl, l, _, _, _, rfl, rfl, SqL.of hl, at_of h1 hc, q1 h1 c hc⟩
def spPut (C B : Addr) : Sp := fun vs H Q E => ∃ (a l : Addr) (ns : List Int) (i c : Int), vs = [.ref a, .int i, .int c] ∧ Ld C H a l ns ∧ (inL ns i ∧ 0 ≤ c → Q .non (upd H l (.lst ((ns.set i.toNat c).map V.int)))) ∧ (¬ (inL ns i ∧ 0 ≤ c) → E (.ref B) none H)
theorem scPut : FnScope ["self", "minute", "count"] ["self", "minute", "count"] (defScope sPut) := ⟨rfl, rfl, rfl, by decide +kernel, rfl, by decide +kernel, by decide +kernel⟩
theorem ok_put (T : Tx K mg) : FnOk P w K mg base (L2.CX P w) 2 T.fLoad_put T.dLoad_put ["self", "minute", "count"] (spPut T.C_Load T.C_BadLoad) := by
  have G := ok_cmin (P := P) (w := w) (base := base) T
  have Gcheck_least := ok_clst (P := P) (w := w) (base := base) T
  refine T.FLoad_put.okX scPut (fun vs H Q E h => ?_) (fun cdv A outer s H vs Q E hr h => ?_)
  · obtain ⟨a, l, ns, i, c, rfl, _⟩ := h
    rfl
  · obtain ⟨a, l, ns, i, c, rfl, L, q1, q2⟩ := h
    refine ⟨_, pss_cons (ps_expr (pe_meth (pv 0) T.cl_Load T.m_Load_check_minute G hr T.bLoad_check_minute .nil (passes_call (takes_of rfl rfl rfl rfl) (fun _ _ _ _ h => h)) (pa_cons (pv 1) pa_nil)))
      (pss_cons (ps_expr (pe_call Gcheck_least hr (by rfl) T.gcheck_least T.Fcheck_least.kp T.bcheck_least .nil (passes_call (takes_of rfl rfl rfl rfl) (fun _ _ _ _ h => h)) (pa_cons (pv 2) (pa_cons pe_int pa_nil))))
      (pss_one (ps_asg (pv 2) (pg_sub (pe_fld (pv 0) rfl) (pv 1) set_list)))), ?_⟩
    obtain ⟨dx, ha, hl⟩ := id L
    refine ⟨_, rfl, a, dx, _, rfl, ha, rfl, _, rfl, a, l, ns, i, rfl, L, fun h1 => ?_, fun h1 => q2 fun h => h1 h.1⟩
    refine ⟨_, rfl, c, 0, rfl, fun h2 => ?_, fun h2 => q2 fun h => by have := h.2; omega⟩
    have hq := q1 ⟨h1, h2⟩
    rw [List.map_set] at hq
    obtain ⟨h3, h4⟩ := id h1
    refine ⟨_, rfl, _, rfl, a, T.C_Load, dx, _, _, rfl, ha, T.cl_Load, T.na_Load__counts, look_c, _, rfl, l, _, _, i.toNat, rfl, rfl, hl, ?_, hq⟩
    rw [List.length_map]
    obtain ⟨n, rfl⟩ := Int.eq_ofNat_of_zero_le h3
    exact ixN_nat' (by omega)
def good (ns : List Int) : Prop := (1 ≤ ns.length ∧ ns.length ≤ 60) ∧ ∀ n ∈ ns, 0 ≤ n
def spInit (K : PySem.W.Frag) (C B : Addr) : Sp := fun vs H Q E => ∃ (x dx c : Addr) (ns : List Int), vs = [.ref x, .ref c] ∧ H x = some (.ins C dx []) ∧ (SqL K H c (ns.map V.int) ∨ SqT K H c (ns.map V.int)) ∧
  (good ns → ∀ l, H l = none → Q .non (upd (upd H l (.lst (ns.map V.int))) x (.ins C dx [("_counts", .ref l)]))) ∧ (¬ good ns → E (.ref B) none H)
theorem scInit : FnScope ["self", "counts"] ["self", "counts"] (defScope sInit) := ⟨rfl, rfl, rfl, by decide +kernel, rfl, by decide +kernel, by decide +kernel⟩
theorem ok_init (T : Tx K mg) : FnOk P w K mg base (L2.CX P w) 2 T.fLoad_init T.dLoad_init ["self", "counts"] (spInit K T.C_Load T.C_BadLoad) := by
  have Gcheck_length := ok_clen (P := P) (w := w) (base := base) T
  have Gcheck_least := ok_clst (P := P) (w := w) (base := base) T
  refine T.FLoad_init.okX scInit (fun vs H Q E h => ?_) (fun cdv A outer s H vs Q E hr h => ?_)
  · obtain ⟨x, dx, c, ns, rfl, _⟩ := h
    rfl
  · obtain ⟨x, dx, c, ns, rfl, hx, hc, q1, q2⟩ := h
    refine ⟨_, pss_cons (ps_expr (pe_call Gcheck_length hr (by rfl) T.gcheck_length T.Fcheck_length.kp T.bcheck_length .nil (passes_call (takes_of rfl rfl rfl rfl) (fun _ _ _ _ h => h)) (pa_cons (pe_callB call_len_seq (by rfl) T.z_len (by decide +kernel) (pa_cons (pv 1) pa_nil)) pa_nil)))
      (pss_cons (ps_expr (pe_call Gcheck_least hr (by rfl) T.gcheck_least T.Fcheck_least.kp T.bcheck_least .nil (passes_call (takes_of rfl rfl rfl rfl) (fun _ _ _ _ h => h)) (pa_cons (pe_callB (cr_minS rfl) (by rfl) T.z_min (by decide +kernel) (pa_cons (pv 1) pa_nil)) (pa_cons pe_int pa_nil))))
      (pss_one (ps_fld (pv 0) (pe_callTy (T := "list") call_list_of (by rfl) T.z_list (by decide +kernel) (pa_cons (pv 1) pa_nil)) rfl))), ?_⟩
    refine ⟨_, rfl, c, _, rfl, hc, ns.length, ?_, fun h1 => ?_, fun h1 => q2 fun h => h1 ⟨by have := h.1.1; omega, by have := h.1.2; omega⟩⟩
    · rw [List.length_map]
      rfl
    refine ⟨_, rfl, c, ns, rfl, hc, by omega, fun m hm hle => ⟨m, 0, rfl, fun h2 => ?_, fun h2 => q2 fun h => ?_⟩⟩
    · have hg : good ns := ⟨⟨by omega, by omega⟩, fun n hn => by have := hle n hn; omega⟩
      refine ⟨_, rfl, c, _, rfl, hc, fun l hl => ⟨_, rfl, x, T.C_Load, dx, [], rfl, ?_, T.cl_Load, T.na_Load__counts, (by show 0 < 1000; decide), q1 hg l hl⟩⟩
      rw [upd_ne (ne_of_none hx hl)]
      exact hx
    · have := h.2 m hm
      omega
end
end D1

namespace D1
open PySem PySem.Spec PyProof.Rows L2 KO
theorem Pool.eq {H H' : Hp} {p l : Addr} (h : ∀ b, b ≠ p → H' b = H b) (hl : l ≠ p) {o : HO} (e : H l = some o) : H' l = some o := by
  rw [h l hl]
  exact e
theorem But.eq {H H' : Hp} {p : Addr} (h : ∀ b, b ≠ p → H' b = H b) : But p H H' := fun b o n e => by
  rw [h b n]
  exact e
/-- but for p nothing is changed, and nothing is new -/
def Eqp (p : Addr) (H H' : Hp) : Prop := ∀ b, b ≠ p → H' b = H b
theorem Eqp.refl (p : Addr) (H : Hp) : Eqp p H H := fun _ _ => rfl
theorem Eqp.trans {p : Addr} {H H1 H2 : Hp} (a : Eqp p H H1) (b : Eqp p H1 H2) : Eqp p H H2 := fun c h => (b c h).trans (a c h)
section
variable {P : Program} {w : World} {K : PySem.W.Frag} {mg : Str → Option Value} {base : Heap}
/-! ### draws -/
def spSize : Sp := fun vs H Q _ => ∃ p : Addr, vs = [.ref p] ∧ Pool H p ∧ ∀ H' (n : Int), 1 ≤ n → n ≤ 60 → Pool H' p → Eqp p H H' → Q (.int n) H'
theorem scSize : FnScope ["_law_pool_here"] ["_law_pool_here"] (defScope sSize) := ⟨rfl, rfl, rfl, by decide +kernel, rfl, by decide +kernel, by decide +kernel⟩
theorem ok_size (T : Tx K mg) : FnOk P w K mg base CX0 2 T.f_law_size T.d_law_size ["_law_pool_here"] spSize := by
  have G_law_take := ok_take (P := P) (w := w) (base := base) T
  refine T.F_law_size.ok scSize (fun vs H Q E h => ?_) (fun cdv A outer s H vs Q E hr h => ?_)
  · obtain ⟨p, rfl, _⟩ := h
    rfl
  · obtain ⟨p, rfl, hp, q⟩ := h
    refine ⟨_, pss_cons (ps_if (pt_cmpR op_eq (pe_call G_law_take hr (by rfl) T.g_law_take T.F_law_take.kp T.b_law_take .nil pass0 (pa_cons (pv 0) (pa_cons pe_int pa_nil))) pe_int (nomark _)) (pss_one (ps_ret (pe_op op_add pe_int (pe_call G_law_take hr (by rfl) T.g_law_take T.F_law_take.kp T.b_law_take .nil pass0 (pa_cons (pv 0) (pa_cons pe_int pa_nil)))))) (pss_nil))
      (pss_one (ps_ret (pe_op op_add pe_int (pe_call G_law_take hr (by rfl) T.g_law_take T.F_law_take.kp T.b_law_take .nil pass0 (pa_cons (pv 0) (pa_cons pe_int pa_nil)))))), ?_⟩
    refine ⟨_, rfl, p, _, rfl, hp, by decide, by decide, fun H1 r _ _ hp1 k1 => ⟨rfl, _, rfl, iteDs (fun _ => ?_) (fun _ => ?_)⟩⟩
    · refine ⟨_, rfl, p, _, rfl, hp1, by decide, by decide, fun H2 r2 h0 h1 hp2 k2 => ⟨_, _, rfl, rfl, ?_⟩⟩
      exact q _ _ (by omega) (by omega) hp2 (Eqp.trans k1 k2)
    · refine ⟨_, rfl, p, _, rfl, hp1, by decide, by decide, fun H2 r2 h0 h1 hp2 k2 => ⟨_, _, rfl, rfl, ?_⟩⟩
      exact q _ _ (by omega) (by omega) hp2 (Eqp.trans k1 k2)
def spCount : Sp := fun vs H Q _ => ∃ p : Addr, vs = [.ref p] ∧ Pool H p ∧ ∀ H' (n : Int), 0 ≤ n → Pool H' p → Eqp p H H' → Q (.int n) H'
theorem scCount : FnScope ["_law_pool_here"] ["_law_pool_here"] (defScope sCount) := ⟨rfl, rfl, rfl, by decide +kernel, rfl, by decide +kernel, by decide +kernel⟩
theorem ok_count (T : Tx K mg) : FnOk P w K mg base CX0 2 T.f_law_count T.d_law_count ["_law_pool_here"] spCount := by
  have G_law_take := ok_take (P := P) (w := w) (base := base) T
  refine T.F_law_count.ok scCount (fun vs H Q E h => ?_) (fun cdv A outer s H vs Q E hr h => ?_)
  · obtain ⟨p, rfl, _⟩ := h
    rfl
  · obtain ⟨p, rfl, hp, q⟩ := h
    refine ⟨_, pss_cons (ps_if (pt_cmpR op_eq (pe_call G_law_take hr (by rfl) T.g_law_take T.F_law_take.kp T.b_law_take .nil pass0 (pa_cons (pv 0) (pa_cons pe_int pa_nil))) pe_int (nomark _)) (pss_one (ps_ret (pe_call G_law_take hr (by rfl) T.g_law_take T.F_law_take.kp T.b_law_take .nil pass0 (pa_cons (pv 0) (pa_cons (pe_op op_add (pe_op op_pow pe_int pe_int) pe_int) pa_nil))))) (pss_nil))
      (pss_one (ps_ret (pe_call G_law_take hr (by rfl) T.g_law_take T.F_law_take.kp T.b_law_take .nil pass0 (pa_cons (pv 0) (pa_cons pe_int pa_nil))))), ?_⟩
    refine ⟨_, rfl, p, _, rfl, hp, by decide, by decide, fun H1 r _ _ hp1 k1 => ⟨rfl, _, rfl, iteDs (fun _ => ?_) (fun _ => ?_)⟩⟩
    · refine ⟨_, rfl, _, _, rfl, rfl, ⟨by decide, by decide, by decide⟩, _, _, rfl, rfl, p, _, rfl, hp1, by decide, by decide, fun H2 r2 h0 h1 hp2 k2 => ?_⟩
      exact q _ _ (by omega) hp2 (Eqp.trans k1 k2)
    · refine ⟨_, rfl, p, _, rfl, hp1, by decide, by decide, fun H2 r2 h0 h1 hp2 k2 => ?_⟩
      exact q _ _ (by omega) hp2 (Eqp.trans k1 k2)
/-! ### the same answer twice -/
def spSameB : Sp := fun vs H Q _ => ∃ x : Bool, vs = [.bl x, .bl x] ∧ Q (.bl true) H
theorem ok_sameB (T : Tx K mg) : FnOk P w K mg base CX0 1 T.f_law_same T.d_law_same ["_law_got", "_law_due_here"] spSameB := by
  refine T.F_law_same.ok scSame (fun vs H Q E h => ?_) (fun cdv A outer s H vs Q E hr h => ?_)
  · obtain ⟨x, rfl, _⟩ := h
    rfl
  · obtain ⟨x, rfl, q⟩ := h
    refine ⟨_, pss_cons (ps_if (PW.pt (pw_or (pt_val (pe_callB call_isi (by rfl) T.z_isinstance (by decide +kernel) (pa_cons (pv 0) (pa_cons (pe_bltn (v := .ty "bool") (by rfl) T.z_bool (by decide +kernel) rfl) pa_nil)))) (pw_or1 (pt_val (pe_callB call_isi (by rfl) T.z_isinstance (by decide +kernel) (pa_cons (pv 1) (pa_cons (pe_bltn (v := .ty "bool") (by rfl) T.z_bool (by decide +kernel) rfl) pa_nil)))))))
      (pss_one (ps_ret (pe_and (pe_callB call_isi (by rfl) T.z_isinstance (by decide +kernel) (pa_cons (pv 0) (pa_cons (pe_bltn (v := .ty "bool") (by rfl) T.z_bool (by decide +kernel) rfl) pa_nil))) (pe_and (pe_callB call_isi (by rfl) T.z_isinstance (by decide +kernel) (pa_cons (pv 1) (pa_cons (pe_bltn (v := .ty "bool") (by rfl) T.z_bool (by decide +kernel) rfl) pa_nil))) (pe_one (pe_cmpR op_eq (pv 0) (pv 1) (nomark _))))))) (pss_nil)) pss_never, ?_⟩
    refine ⟨_, rfl, _, _, _, _, _, rfl, .ty _, (.base (.bl x)), kit_ty (by decide +kernel), ⟨_, rfl, iteT (iteT ?_)⟩⟩
    refine ⟨_, rfl, _, _, _, _, _, rfl, .ty _, (.base (.bl x)), kit_ty (by decide +kernel), ⟨_, rfl, iteT ⟨_, rfl, _, _, _, _, _, rfl, .ty _, (.base (.bl x)), kit_ty (by decide +kernel), ⟨_, rfl, iteT ⟨_, rfl, _, rfl, rfl, ?_⟩⟩⟩⟩⟩
    rw [decide_eq_true rfl]
    exact q
theorem rp_ints {H : Hp} {a b : Addr} {ns : List Int} (ha : H a = some (.lst (ns.map V.int))) (hb : H b = some (.lst (ns.map V.int))) (hn : ns.length ≤ 1000) : Rp 2 H (.ref a) (.ref b) := by
  refine .inr ⟨a, b, _, _, rfl, rfl, .inl ⟨ha, hb⟩, rfl, by rw [List.length_map]; exact hn, fun i x y hx hy => ?_⟩
  have e : x = y := Option.some.inj (hx.symm.trans hy)
  subst e
  rw [List.getElem?_map] at hx
  cases h : ns[i]? with
  | none => rw [h] at hx; cases hx
  | some z => rw [h] at hx; exact .inl ⟨z, (Option.some.inj hx).symm, (Option.some.inj hx).symm⟩
end
theorem at0 {X : Cx} {σ : L2.St} : PassesAt CX0 X σ E0 := fun _ _ _ _ _ _ h => h.elim
theorem atL {X : Cx} {σ : L2.St} : PassesAt (L2.CX X.prog X.w) X σ E0 := fun pins H s e s' I c => passL pins σ H s e s' I c
theorem kit_own {K : PySem.W.Frag} {C : Addr} : PySem.W.kitOne K (.ref C) (.ref C) = some true := by
  unfold PySem.W.kitOne
  simp
theorem kit_oty {K : PySem.W.Frag} {C : Addr} {t : String} {b : Bool} (h : PySem.W.kitMeta t = true) (s : PySem.W.subIn K (.ref C) (.type t) = some b) : PySem.W.kitOne K (.ref C) (.type t) = some b := by
  unfold PySem.W.kitOne PySem.W.kitCls
  rw [if_neg (by simp)]
  dsimp only
  rw [if_pos h]
  exact s
theorem kit_no {K : PySem.W.Frag} {C D : Addr} (ss : PySem.W.subIn K (.ref C) (.ref C) = some true) (s : PySem.W.subIn K (.ref C) (.ref D) = some false) (hd : PySem.W.hasDictIn K D = true) (ty : PySem.W.typeIn K (.ref D) = some (.type "type")) : PySem.W.kitOne K (.ref C) (.ref D) = some false := by
  have ne : C ≠ D := fun e => by
    rw [← e, ss] at s
    cases s
  obtain ⟨cd, hc, _⟩ := PySem.W.any_some hd
  unfold PySem.W.kitOne PySem.W.kitCls
  rw [if_neg (by simpa using ne)]
  dsimp only
  rw [hc, ty]
  simpa using s
section
variable {P : Program} {w : World} {K : PySem.W.Frag} {mg : Str → Option Value} {base : Heap}
theorem excC (T : Tx K mg) : ExcC K T.C_BadLoad := ⟨T.ga_BadLoad, T.gg_BadLoad, T.bs_BadLoad, T.hd_BadLoad, T.cl_BadLoad, T.sp_class, T.tk_class, T.mr_BadLoad⟩
theorem exmB (T : Tx K mg) : PySem.W.exmOne K (.ref T.C_BadLoad) (.ref T.C_DepotError) = some true := PySem.W.exm_ref T.bs_DepotError T.hd_DepotError T.ty_DepotError T.sb_BadLoad_DepotError
theorem kit1 (T : Tx K mg) : PySem.W.kitOne K (.ref T.C_BadLoad) (.type "ValueError") = some true := kit_oty (by decide +kernel) T.sb_BadLoad_ValueError
theorem kit2 (T : Tx K mg) : PySem.W.kitOne K (.ref T.C_BadLoad) (.ref T.C_BadRounds) = some false := kit_no T.sb_BadLoad_self T.sb_BadLoad_BadRounds T.hd_BadRounds T.ty_BadRounds
theorem Same.eqp {p : Addr} {H H1 H2 : Hp} (s : Same H H1) (e : Eqp p H1 H2) (hp : H p = none) : Same H H2 := fun b o h => by
  rw [e b (ne_of_none h hp)]
  exact s b o h
theorem make_read {C B c x dx : Addr} {ns : List Int} {H : Hp} {R : Hp → Prop} {E : XK} (nx : H x = none) (ndx : H dx = none) (ne : dx ≠ x) (hc : SqL K H c (ns.map V.int) ∨ SqT K H c (ns.map V.int)) (hg : good ns) (q : ∀ l H', H l = none → x ≠ l → Same H H' → Ld C H' x l ns → R H') :
    spInit K C B [.ref x, .ref c] (upd (upd H dx (.own x)) x (.ins C dx [])) (fun v H2 => v = .non ∧ R H2) E := by
  have s1 : Same H (upd (upd H dx (.own x)) x (.ins C dx [])) := Same.put (same_upd ndx) nx
  refine ⟨x, dx, c, ns, rfl, upd_same, hc.imp (fun h => SqL.ext h s1) (fun h => SqT.ext h s1), fun _ l nl => ⟨rfl, ?_⟩, fun h => (h hg).elim⟩
  have nlx : l ≠ x := fun e => by
    rw [e, upd_same] at nl
    cases nl
  have nl0 : H l = none := by
    rw [upd_ne nlx] at nl
    by_cases e : l = dx
    · rw [e]
      exact ndx
    · rw [upd_ne e] at nl
      exact nl
  refine q l _ nl0 (Ne.symm nlx) (Same.put (Same.put s1 nl0) nx) ⟨dx, upd_same, ?_⟩
  rw [upd_ne nlx, upd_same]
theorem Ld.at {C : Addr} {H : Hp} {a l : Addr} {ns : List Int} (h : Ld C H a l ns) : H l = some (.lst (ns.map V.int)) := let ⟨_, _, h⟩ := h; h
theorem eq_read {C : Addr} {H : Hp} {a l b m : Addr} {ns ms : List Int} {Q : VK} {E : XK} (L : Ld C H a l ns) (M : Ld C H b m ms) (q : Q (.bl (decide (ns = ms))) H) : rEqO C (spEq C) E (.ref a) (.ref b) H Q := by
  obtain ⟨dx, h1, h2⟩ := id L
  obtain ⟨dy, g1, g2⟩ := id M
  exact ⟨a, dx, _, b, dy, _, rfl, rfl, h1, g1, a, l, ns, b, m, ms, rfl, L, M, _, rfl, q⟩
theorem keepT {σ : L2.St} {H : Hp} {te : TE} {R : V → Hp → Prop} {N : Hp → Prop} (h : te σ H R) : tYes σ H fun b H3 => if b = true then te σ H3 R else N H3 := by
  show if true = true then te σ H R else N H
  exact iteT h
end
end D1

namespace D1
open PySem PySem.Spec PyProof.Rows L2 KO
theorem pg_tupK {X : Cx} {K : PySem.W.Frag} {pos : Pos} {es : List Expr} {k : Nat} {t : TGs} {n : Nat} (hK : X.K = K) (hc : X.calm = true) (h : PGs X es t) (hn : (assignEach es X.env).length = n := by rfl) (hst : (assignEach es X.env).findIdx? (·.1) = none := by rfl) : PG X (.Tuple es k pos) (gTup K n t) := by
  subst hK
  exact pg_tup hc h hn hst
def gAdd (i j : Int) : Int := i + j
def gSub (i j : Int) : Int := if i - j > 0 then i - j else 0
def gOr (i j : Int) : Int := if j > i then j else i
def gAnd (i j : Int) : Int := if j < i then j else i
def gXor (i j : Int) : Int := if i - j < 0 then -(i - j) else i - j
section
variable {P : Program} {w : World} {K : PySem.W.Frag} {mg : Str → Option Value} {base : Heap}
/-! ### pairs -/
def spPrs (C B : Addr) : Sp := fun vs H Q E => ∃ (a l b m : Addr) (ns ms : List Int), vs = [.ref a, .ref b] ∧ Ld C H a l ns ∧ Ld C H b m ms ∧ ns.length ≤ 1000 ∧
  (ns.length = ms.length → ∀ r H' ts, H r = none → Same H H' → H' r = some (.lst (ts.map V.ref)) → ts.length = ns.length → ZPr H' (ns.map V.int) (ms.map V.int) ts → Q (.ref r) H') ∧ (ns.length ≠ ms.length → E (.ref B) none H)
theorem scPrs : FnScope ["self", "other"] ["self", "other"] (defScope sPrs) := ⟨rfl, rfl, rfl, by decide +kernel, rfl, by decide +kernel, by decide +kernel⟩
theorem ok_prs (T : Tx K mg) : FnOk P w K mg base (L2.CX P w) 1 T.fLoad_pairs T.dLoad_pairs ["self", "other"] (spPrs T.C_Load T.C_BadLoad) := by
  refine T.FLoad_pairs.okX scPrs (fun vs H Q E h => ?_) (fun cdv A outer s H vs Q E hr h => ?_)
  · obtain ⟨a, l, b, m, ns, ms, rfl, _⟩ := h
    rfl
  · obtain ⟨a, l, b, m, ns, ms, rfl, ⟨dx, ha, hl⟩, ⟨dy, hb, hm⟩, hn, q1, q2⟩ := h
    refine ⟨_, pss_cons (ps_if (pt_cmpR op_ne (pe_callB call_len_seq (by rfl) T.z_len (by decide +kernel) (pa_cons (pe_fld (pv 0) rfl) pa_nil)) (pe_callB call_len_seq (by rfl) T.z_len (by decide +kernel) (pa_cons (pe_fld (pv 1) rfl) pa_nil)) (nomark _)) (pss_one (ps_raise rfl (takes_of rfl rfl rfl rfl) (pmk_own0 PySem.F.excBase_ValueError T.xo_BadLoad T.g_BadLoad T.kp_BadLoad (raises_own T.bs_BadLoad T.ty_BadLoad) (by rfl)))) pss_nil)
      (pss_one (ps_ret (pe_listZip rfl (by rfl) T.z_list (by rfl) T.z_zip (pa_cons (pe_fld (pv 0) rfl) (pa_cons (pe_fld (pv 1) rfl) pa_nil))))), ?_⟩
    refine ⟨_, rfl, a, T.C_Load, dx, _, _, rfl, ha, T.cl_Load, T.na_Load__counts, look_c, l, _, rfl, .inl (SqL.of hl), _, rfl, b, T.C_Load, dy, _, _, rfl, hb, T.cl_Load, T.na_Load__counts, look_c, m, _, rfl, .inl (SqL.of hm), rfl, _, rfl, iteNDs (fun h => q2 fun e => h (by rw [List.length_map, List.length_map, e])) (fun h => ?_)⟩
    have e : ns.length = ms.length := by
      have := V.int.inj h
      rw [List.length_map, List.length_map] at this
      omega
    refine ⟨_, rfl, a, T.C_Load, dx, _, _, rfl, ha, T.cl_Load, T.na_Load__counts, look_c, _, rfl, b, T.C_Load, dy, _, _, rfl, hb, T.cl_Load, T.na_Load__counts, look_c, l, m, _, _, rfl, SqL.of hl, SqL.of hm, by rw [List.length_map, List.length_map, e], by rw [List.length_map]; exact hn, fun r H' ts n0 s1 h1 e1 z1 => q1 e r H' ts n0 s1 h1 (by rw [e1, List.length_map]) z1⟩
/-! ### the signs -/
def spBin (C B : Addr) (g : Int → Int → Int) : Sp := fun vs H Q E => ∃ (a l b m : Addr) (ns ms : List Int), vs = [.ref a, .ref b] ∧ Ld C H a l ns ∧ Ld C H b m ms ∧ good ns ∧ good ms ∧
  (ns.length = ms.length → ∀ x k H', Same H H' → H x = none → H k = none → Ld C H' x k (List.zipWith g ns ms) → Q (.ref x) H') ∧ (ns.length ≠ ms.length → E (.ref B) none H)
theorem zip_take {g : Int → Int → Int} {ns ms : List Int} {j : Nat} {n m : Int} (hn : ns[j]? = some n) (hm : ms[j]? = some m) : (List.zipWith g ns ms).take (j + 1) = (List.zipWith g ns ms).take j ++ [g n m] := by
  rw [List.take_add_one, List.getElem?_zipWith, hn, hm]
  rfl
theorem zip_good {g : Int → Int → Int} (hg : ∀ i j, 0 ≤ i → 0 ≤ j → 0 ≤ g i j) {ns ms : List Int} (a : good ns) (b : good ms) (e : ns.length = ms.length) : good (List.zipWith g ns ms) := by
  refine ⟨by rw [List.length_zipWith]; have := a.1; omega, fun z hz => ?_⟩
  obtain ⟨i, hi⟩ := List.getElem?_of_mem hz
  rw [List.getElem?_zipWith] at hi
  cases h1 : ns[i]? with
  | none =>
    rw [h1] at hi
    cases hi
  | some n =>
    cases h2 : ms[i]? with
    | none =>
      rw [h1, h2] at hi
      cases hi
    | some m =>
      rw [h1, h2] at hi
      have e2 : g n m = z := Option.some.inj hi
      rw [← e2]
      exact hg n m (a.2 n (List.mem_of_getElem? h1)) (b.2 m (List.mem_of_getElem? h2))
theorem int_of {ns : List Int} {j : Nat} {x : V} (h : (ns.map V.int)[j]? = some x) : ∃ n, ns[j]? = some n ∧ x = .int n := by
  rw [List.getElem?_map] at h
  cases e : ns[j]? with
  | none =>
    rw [e] at h
    cases h
  | some n =>
    rw [e] at h
    exact ⟨n, rfl, (Option.some.inj h).symm⟩
theorem scAdd : FnScope ["self", "other", "mine", "theirs"] ["self", "other"] (defScope sAdd) := ⟨rfl, rfl, rfl, by decide +kernel, rfl, by decide +kernel, by decide +kernel⟩
theorem ok_add (T : Tx K mg) : FnOk P w K mg base (L2.CX P w) 4 T.fLoad_add T.dLoad_add ["self", "other"] (spBin T.C_Load T.C_BadLoad gAdd) := by
  have Gp := ok_prs (P := P) (w := w) (base := base) T
  have Gi := ok_init (P := P) (w := w) (base := base) T
  refine T.FLoad_add.okX scAdd (fun vs H Q E h => ?_) (fun cdv A outer s H vs Q E hr h => ?_)
  · obtain ⟨a, l, b, m, ns, ms, rfl, _⟩ := h
    rfl
  · obtain ⟨a, l, b, m, ns, ms, rfl, L, M, gn, gm, q1, q2⟩ := h
    obtain ⟨dx, ha, hl⟩ := id L
    have h1 : Room 1 _ := hr.mono (by decide)
    have szn := gn.1.2
    refine ⟨_, pss_one (ps_ret (pe_make T.M_Load Gi hr (by rfl) T.g_Load T.bLoad_init .nil (passes_call (takes_of rfl rfl rfl rfl) (fun _ _ _ _ h => h)) (pa_cons (pe_lc (own := [("mine", 2), ("theirs", 3)]) (g := gTup K 2 (gCons (gName 2) (gCons (gName 3) gNil))) rfl scAdd.nd (pi_list (pe_meth (pv 0) T.cl_Load T.m_Load_pairs Gp h1 T.bLoad_pairs .nil (passes_call (takes_of rfl rfl rfl rfl) (fun _ _ _ _ h => h)) (pa_cons (pv 1) pa_nil))) (blkOk_by (own := [("mine", 2), ("theirs", 3)]) (N := ["self", "other", "mine", "theirs"]) (sc := defScope sAdd) (by decide +kernel)) (fun _ _ _ _ _ => pg_tupK (K := K) rfl rfl (pgs_cons (pg_name (i := 2) scAdd.nd rfl (.inl rfl)) (pgs_cons (pg_name (i := 3) scAdd.nd rfl (.inl rfl)) pgs_nil))) (fun _ _ _ _ _ => pts_nil) (fun _ _ _ _ _ => (pe_op op_add (pv 2) (pv 3)))) pa_nil))), ?_⟩
    refine ⟨_, rfl, a, dx, _, rfl, ha, rfl, _, rfl, a, l, b, m, ns, ms, rfl, L, M, by omega, fun e => ?_, q2⟩
    intro r H1 ts nr s1 h1 et zp
    refine ⟨r, rfl, ⟨_, SqL.of h1⟩, fun D nD => ?_⟩
    refine lc_list (K := K) (a := r) (xs := ts.map V.ref) (fun j H' => Same H1 H' ∧ H' D = some (.lst (((List.zipWith gAdd ns ms).take j).map V.int))) ⟨same_upd nD, upd_same⟩ (fun j H' _ h => SqL.of (h.1 _ _ h1)) ?_ ?_
    · rintro j y H' hy ⟨sj, hD⟩
      obtain ⟨t, ht, rfl⟩ : ∃ t, ts[j]? = some t ∧ y = V.ref t := by
        rw [List.getElem?_map] at hy
        cases e : ts[j]? with
        | none =>
          rw [e] at hy
          cases hy
        | some t =>
          rw [e] at hy
          exact ⟨t, rfl, (Option.some.inj hy).symm⟩
      obtain ⟨x, y, hx, hy, htt⟩ := zp j t ht
      obtain ⟨n, hn, rfl⟩ := int_of hx
      obtain ⟨z, hz, rfl⟩ := int_of hy
      refine ⟨t, _, rfl, SqT.of (sj _ _ htt), rfl, _, _, rfl, _, _, rfl, rfl, rfl, keepT ?_⟩
      refine ⟨_, rfl, _, rfl, _, _, rfl, rfl, ?_⟩
      refine ⟨_, hD, ?_, Same.put sj nD, ?_⟩
      · rw [List.length_map, List.length_take, sizeLine_eq, List.length_zipWith]
        omega
      · rw [upd_same, zip_take hn hz, List.map_append]
        rfl
    · rintro H' ⟨sj, hD⟩
      rw [List.take_of_length_le (by rw [List.length_zipWith, List.length_map]; omega)] at hD
      intro x dx nx ndx nex
      refine make_read nx ndx nex (.inl (SqL.of hD)) (zip_good (by intro i j hi hj; unfold gAdd; omega) gn gm e) fun k H'' nk xk sk Lk => ?_
      exact q1 e x k H'' ((s1.trans sj).trans sk) ((s1.trans sj).free nx) ((s1.trans sj).free nk) Lk
theorem scSub : FnScope ["self", "other", "mine", "theirs"] ["self", "other"] (defScope sSub) := ⟨rfl, rfl, rfl, by decide +kernel, rfl, by decide +kernel, by decide +kernel⟩
theorem ok_sub (T : Tx K mg) : FnOk P w K mg base (L2.CX P w) 4 T.fLoad_sub T.dLoad_sub ["self", "other"] (spBin T.C_Load T.C_BadLoad gSub) := by
  have Gp := ok_prs (P := P) (w := w) (base := base) T
  have Gi := ok_init (P := P) (w := w) (base := base) T
  refine T.FLoad_sub.okX scSub (fun vs H Q E h => ?_) (fun cdv A outer s H vs Q E hr h => ?_)
  · obtain ⟨a, l, b, m, ns, ms, rfl, _⟩ := h
    rfl
  · obtain ⟨a, l, b, m, ns, ms, rfl, L, M, gn, gm, q1, q2⟩ := h
    obtain ⟨dx, ha, hl⟩ := id L
    have h1 : Room 1 _ := hr.mono (by decide)
    have szn := gn.1.2
    refine ⟨_, pss_one (ps_ret (pe_make T.M_Load Gi hr (by rfl) T.g_Load T.bLoad_init .nil (passes_call (takes_of rfl rfl rfl rfl) (fun _ _ _ _ h => h)) (pa_cons (pe_lc (own := [("mine", 2), ("theirs", 3)]) (g := gTup K 2 (gCons (gName 2) (gCons (gName 3) gNil))) rfl scSub.nd (pi_list (pe_meth (pv 0) T.cl_Load T.m_Load_pairs Gp h1 T.bLoad_pairs .nil (passes_call (takes_of rfl rfl rfl rfl) (fun _ _ _ _ h => h)) (pa_cons (pv 1) pa_nil))) (blkOk_by (own := [("mine", 2), ("theirs", 3)]) (N := ["self", "other", "mine", "theirs"]) (sc := defScope sSub) (by decide +kernel)) (fun _ _ _ _ _ => pg_tupK (K := K) rfl rfl (pgs_cons (pg_name (i := 2) scSub.nd rfl (.inl rfl)) (pgs_cons (pg_name (i := 3) scSub.nd rfl (.inl rfl)) pgs_nil))) (fun _ _ _ _ _ => pts_nil) (fun _ _ _ _ _ => (pe_callB (call_max2 rfl) (by rfl) T.z_max (by decide +kernel) (pa_cons pe_int (pa_cons (pe_op op_sub (pv 2) (pv 3)) pa_nil))))) pa_nil))), ?_⟩
    refine ⟨_, rfl, a, dx, _, rfl, ha, rfl, _, rfl, a, l, b, m, ns, ms, rfl, L, M, by omega, fun e => ?_, q2⟩
    intro r H1 ts nr s1 h1 et zp
    refine ⟨r, rfl, ⟨_, SqL.of h1⟩, fun D nD => ?_⟩
    refine lc_list (K := K) (a := r) (xs := ts.map V.ref) (fun j H' => Same H1 H' ∧ H' D = some (.lst (((List.zipWith gSub ns ms).take j).map V.int))) ⟨same_upd nD, upd_same⟩ (fun j H' _ h => SqL.of (h.1 _ _ h1)) ?_ ?_
    · rintro j y H' hy ⟨sj, hD⟩
      obtain ⟨t, ht, rfl⟩ : ∃ t, ts[j]? = some t ∧ y = V.ref t := by
        rw [List.getElem?_map] at hy
        cases e : ts[j]? with
        | none =>
          rw [e] at hy
          cases hy
        | some t =>
          rw [e] at hy
          exact ⟨t, rfl, (Option.some.inj hy).symm⟩
      obtain ⟨x, y, hx, hy, htt⟩ := zp j t ht
      obtain ⟨n, hn, rfl⟩ := int_of hx
      obtain ⟨z, hz, rfl⟩ := int_of hy
      refine ⟨t, _, rfl, SqT.of (sj _ _ htt), rfl, _, _, rfl, _, _, rfl, rfl, rfl, keepT ?_⟩
      refine ⟨_, rfl, _, rfl, _, _, rfl, rfl, 0, _, rfl, ?_⟩
      refine ⟨_, hD, ?_, Same.put sj nD, ?_⟩
      · rw [List.length_map, List.length_take, sizeLine_eq, List.length_zipWith]
        omega
      · rw [upd_same, zip_take hn hz, List.map_append]
        rfl
    · rintro H' ⟨sj, hD⟩
      rw [List.take_of_length_le (by rw [List.length_zipWith, List.length_map]; omega)] at hD
      intro x dx nx ndx nex
      refine make_read nx ndx nex (.inl (SqL.of hD)) (zip_good (by intro i j hi hj; unfold gSub; split <;> omega) gn gm e) fun k H'' nk xk sk Lk => ?_
      exact q1 e x k H'' ((s1.trans sj).trans sk) ((s1.trans sj).free nx) ((s1.trans sj).free nk) Lk
theorem scOr : FnScope ["self", "other", "mine", "theirs"] ["self", "other"] (defScope sOr) := ⟨rfl, rfl, rfl, by decide +kernel, rfl, by decide +kernel, by decide +kernel⟩
theorem ok_or (T : Tx K mg) : FnOk P w K mg base (L2.CX P w) 4 T.fLoad_or T.dLoad_or ["self", "other"] (spBin T.C_Load T.C_BadLoad gOr) := by
  have Gp := ok_prs (P := P) (w := w) (base := base) T
  have Gi := ok_init (P := P) (w := w) (base := base) T
  refine T.FLoad_or.okX scOr (fun vs H Q E h => ?_) (fun cdv A outer s H vs Q E hr h => ?_)
  · obtain ⟨a, l, b, m, ns, ms, rfl, _⟩ := h
    rfl
  · obtain ⟨a, l, b, m, ns, ms, rfl, L, M, gn, gm, q1, q2⟩ := h
    obtain ⟨dx, ha, hl⟩ := id L
    have h1 : Room 1 _ := hr.mono (by decide)
    have szn := gn.1.2
    refine ⟨_, pss_one (ps_ret (pe_make T.M_Load Gi hr (by rfl) T.g_Load T.bLoad_init .nil (passes_call (takes_of rfl rfl rfl rfl) (fun _ _ _ _ h => h)) (pa_cons (pe_lc (own := [("mine", 2), ("theirs", 3)]) (g := gTup K 2 (gCons (gName 2) (gCons (gName 3) gNil))) rfl scOr.nd (pi_list (pe_meth (pv 0) T.cl_Load T.m_Load_pairs Gp h1 T.bLoad_pairs .nil (passes_call (takes_of rfl rfl rfl rfl) (fun _ _ _ _ h => h)) (pa_cons (pv 1) pa_nil))) (blkOk_by (own := [("mine", 2), ("theirs", 3)]) (N := ["self", "other", "mine", "theirs"]) (sc := defScope sOr) (by decide +kernel)) (fun _ _ _ _ _ => pg_tupK (K := K) rfl rfl (pgs_cons (pg_name (i := 2) scOr.nd rfl (.inl rfl)) (pgs_cons (pg_name (i := 3) scOr.nd rfl (.inl rfl)) pgs_nil))) (fun _ _ _ _ _ => pts_nil) (fun _ _ _ _ _ => (pe_callB (call_max2 rfl) (by rfl) T.z_max (by decide +kernel) (pa_cons (pv 2) (pa_cons (pv 3) pa_nil))))) pa_nil))), ?_⟩
    refine ⟨_, rfl, a, dx, _, rfl, ha, rfl, _, rfl, a, l, b, m, ns, ms, rfl, L, M, by omega, fun e => ?_, q2⟩
    intro r H1 ts nr s1 h1 et zp
    refine ⟨r, rfl, ⟨_, SqL.of h1⟩, fun D nD => ?_⟩
    refine lc_list (K := K) (a := r) (xs := ts.map V.ref) (fun j H' => Same H1 H' ∧ H' D = some (.lst (((List.zipWith gOr ns ms).take j).map V.int))) ⟨same_upd nD, upd_same⟩ (fun j H' _ h => SqL.of (h.1 _ _ h1)) ?_ ?_
    · rintro j y H' hy ⟨sj, hD⟩
      obtain ⟨t, ht, rfl⟩ : ∃ t, ts[j]? = some t ∧ y = V.ref t := by
        rw [List.getElem?_map] at hy
        cases e : ts[j]? with
        | none =>
          rw [e] at hy
          cases hy
        | some t =>
          rw [e] at hy
          exact ⟨t, rfl, (Option.some.inj hy).symm⟩
      obtain ⟨x, y, hx, hy, htt⟩ := zp j t ht
      obtain ⟨n, hn, rfl⟩ := int_of hx
      obtain ⟨z, hz, rfl⟩ := int_of hy
      refine ⟨t, _, rfl, SqT.of (sj _ _ htt), rfl, _, _, rfl, _, _, rfl, rfl, rfl, keepT ?_⟩
      refine ⟨_, rfl, _, rfl, _, _, rfl, ?_⟩
      refine ⟨_, hD, ?_, Same.put sj nD, ?_⟩
      · rw [List.length_map, List.length_take, sizeLine_eq, List.length_zipWith]
        omega
      · rw [upd_same, zip_take hn hz, List.map_append]
        rfl
    · rintro H' ⟨sj, hD⟩
      rw [List.take_of_length_le (by rw [List.length_zipWith, List.length_map]; omega)] at hD
      intro x dx nx ndx nex
      refine make_read nx ndx nex (.inl (SqL.of hD)) (zip_good (by intro i j hi hj; unfold gOr; split <;> omega) gn gm e) fun k H'' nk xk sk Lk => ?_
      exact q1 e x k H'' ((s1.trans sj).trans sk) ((s1.trans sj).free nx) ((s1.trans sj).free nk) Lk
theorem scAnd : FnScope ["self", "other", "mine", "theirs"] ["self", "other"] (defScope sAnd) := ⟨rfl, rfl, rfl, by decide +kernel, rfl, by decide +kernel, by decide +kernel⟩
theorem ok_and (T : Tx K mg) : FnOk P w K mg base (L2.CX P w) 4 T.fLoad_and T.dLoad_and ["self", "other"] (spBin T.C_Load T.C_BadLoad gAnd) := by
  have Gp := ok_prs (P := P) (w := w) (base := base) T
  have Gi := ok_init (P := P) (w := w) (base := base) T
  refine T.FLoad_and.okX scAnd (fun vs H Q E h => ?_) (fun cdv A outer s H vs Q E hr h => ?_)
  · obtain ⟨a, l, b, m, ns, ms, rfl, _⟩ := h
    rfl
  · obtain ⟨a, l, b, m, ns, ms, rfl, L, M, gn, gm, q1, q2⟩ := h
    obtain ⟨dx, ha, hl⟩ := id L
    have h1 : Room 1 _ := hr.mono (by decide)
    have szn := gn.1.2
    refine ⟨_, pss_one (ps_ret (pe_make T.M_Load Gi hr (by rfl) T.g_Load T.bLoad_init .nil (passes_call (takes_of rfl rfl rfl rfl) (fun _ _ _ _ h => h)) (pa_cons (pe_lc (own := [("mine", 2), ("theirs", 3)]) (g := gTup K 2 (gCons (gName 2) (gCons (gName 3) gNil))) rfl scAnd.nd (pi_list (pe_meth (pv 0) T.cl_Load T.m_Load_pairs Gp h1 T.bLoad_pairs .nil (passes_call (takes_of rfl rfl rfl rfl) (fun _ _ _ _ h => h)) (pa_cons (pv 1) pa_nil))) (blkOk_by (own := [("mine", 2), ("theirs", 3)]) (N := ["self", "other", "mine", "theirs"]) (sc := defScope sAnd) (by decide +kernel)) (fun _ _ _ _ _ => pg_tupK (K := K) rfl rfl (pgs_cons (pg_name (i := 2) scAnd.nd rfl (.inl rfl)) (pgs_cons (pg_name (i := 3) scAnd.nd rfl (.inl rfl)) pgs_nil))) (fun _ _ _ _ _ => pts_nil) (fun _ _ _ _ _ => (pe_callB (call_min2 rfl) (by rfl) T.z_min (by decide +kernel) (pa_cons (pv 2) (pa_cons (pv 3) pa_nil))))) pa_nil))), ?_⟩
    refine ⟨_, rfl, a, dx, _, rfl, ha, rfl, _, rfl, a, l, b, m, ns, ms, rfl, L, M, by omega, fun e => ?_, q2⟩
    intro r H1 ts nr s1 h1 et zp
    refine ⟨r, rfl, ⟨_, SqL.of h1⟩, fun D nD => ?_⟩
    refine lc_list (K := K) (a := r) (xs := ts.map V.ref) (fun j H' => Same H1 H' ∧ H' D = some (.lst (((List.zipWith gAnd ns ms).take j).map V.int))) ⟨same_upd nD, upd_same⟩ (fun j H' _ h => SqL.of (h.1 _ _ h1)) ?_ ?_
    · rintro j y H' hy ⟨sj, hD⟩
      obtain ⟨t, ht, rfl⟩ : ∃ t, ts[j]? = some t ∧ y = V.ref t := by
        rw [List.getElem?_map] at hy
        cases e : ts[j]? with
        | none =>
          rw [e] at hy
          cases hy
        | some t =>
          rw [e] at hy
          exact ⟨t, rfl, (Option.some.inj hy).symm⟩
      obtain ⟨x, y, hx, hy, htt⟩ := zp j t ht
      obtain ⟨n, hn, rfl⟩ := int_of hx
      obtain ⟨z, hz, rfl⟩ := int_of hy
      refine ⟨t, _, rfl, SqT.of (sj _ _ htt), rfl, _, _, rfl, _, _, rfl, rfl, rfl, keepT ?_⟩
      refine ⟨_, rfl, _, rfl, _, _, rfl, ?_⟩
      refine ⟨_, hD, ?_, Same.put sj nD, ?_⟩
      · rw [List.length_map, List.length_take, sizeLine_eq, List.length_zipWith]
        omega
      · rw [upd_same, zip_take hn hz, List.map_append]
        rfl
    · rintro H' ⟨sj, hD⟩
      rw [List.take_of_length_le (by rw [List.length_zipWith, List.length_map]; omega)] at hD
      intro x dx nx ndx nex
      refine make_read nx ndx nex (.inl (SqL.of hD)) (zip_good (by intro i j hi hj; unfold gAnd; split <;> omega) gn gm e) fun k H'' nk xk sk Lk => ?_
      exact q1 e x k H'' ((s1.trans sj).trans sk) ((s1.trans sj).free nx) ((s1.trans sj).free nk) Lk
theorem scXor : FnScope ["self", "other", "mine", "theirs"] ["self", "other"] (defScope sXor) := ⟨rfl, rfl, rfl, by decide +kernel, rfl, by decide +kernel, by decide +kernel⟩
theorem ok_xor (T : Tx K mg) : FnOk P w K mg base (L2.CX P w) 4 T.fLoad_xor T.dLoad_xor ["self", "other"] (spBin T.C_Load T.C_BadLoad gXor) := by
  have Gp := ok_prs (P := P) (w := w) (base := base) T
  have Gi := ok_init (P := P) (w := w) (base := base) T
  refine T.FLoad_xor.okX scXor (fun vs H Q E h => ?_) (fun cdv A outer s H vs Q E hr h => ?_)
  · obtain ⟨a, l, b, m, ns, ms, rfl, _⟩ := h
    rfl
  · obtain ⟨a, l, b, m, ns, ms, rfl, L, M, gn, gm, q1, q2⟩ := h
    obtain ⟨dx, ha, hl⟩ := id L
    have h1 : Room 1 _ := hr.mono (by decide)
    have szn := gn.1.2
    refine ⟨_, pss_one (ps_ret (pe_make T.M_Load Gi hr (by rfl) T.g_Load T.bLoad_init .nil (passes_call (takes_of rfl rfl rfl rfl) (fun _ _ _ _ h => h)) (pa_cons (pe_lc (own := [("mine", 2), ("theirs", 3)]) (g := gTup K 2 (gCons (gName 2) (gCons (gName 3) gNil))) rfl scXor.nd (pi_list (pe_meth (pv 0) T.cl_Load T.m_Load_pairs Gp h1 T.bLoad_pairs .nil (passes_call (takes_of rfl rfl rfl rfl) (fun _ _ _ _ h => h)) (pa_cons (pv 1) pa_nil))) (blkOk_by (own := [("mine", 2), ("theirs", 3)]) (N := ["self", "other", "mine", "theirs"]) (sc := defScope sXor) (by decide +kernel)) (fun _ _ _ _ _ => pg_tupK (K := K) rfl rfl (pgs_cons (pg_name (i := 2) scXor.nd rfl (.inl rfl)) (pgs_cons (pg_name (i := 3) scXor.nd rfl (.inl rfl)) pgs_nil))) (fun _ _ _ _ _ => pts_nil) (fun _ _ _ _ _ => (pe_callB call_abs (by rfl) T.z_abs (by decide +kernel) (pa_cons (pe_op op_sub (pv 2) (pv 3)) pa_nil)))) pa_nil))), ?_⟩
    refine ⟨_, rfl, a, dx, _, rfl, ha, rfl, _, rfl, a, l, b, m, ns, ms, rfl, L, M, by omega, fun e => ?_, q2⟩
    intro r H1 ts nr s1 h1 et zp
    refine ⟨r, rfl, ⟨_, SqL.of h1⟩, fun D nD => ?_⟩
    refine lc_list (K := K) (a := r) (xs := ts.map V.ref) (fun j H' => Same H1 H' ∧ H' D = some (.lst (((List.zipWith gXor ns ms).take j).map V.int))) ⟨same_upd nD, upd_same⟩ (fun j H' _ h => SqL.of (h.1 _ _ h1)) ?_ ?_
    · rintro j y H' hy ⟨sj, hD⟩
      obtain ⟨t, ht, rfl⟩ : ∃ t, ts[j]? = some t ∧ y = V.ref t := by
        rw [List.getElem?_map] at hy
        cases e : ts[j]? with
        | none =>
          rw [e] at hy
          cases hy
        | some t =>
          rw [e] at hy
          exact ⟨t, rfl, (Option.some.inj hy).symm⟩
      obtain ⟨x, y, hx, hy, htt⟩ := zp j t ht
      obtain ⟨n, hn, rfl⟩ := int_of hx
      obtain ⟨z, hz, rfl⟩ := int_of hy
      refine ⟨t, _, rfl, SqT.of (sj _ _ htt), rfl, _, _, rfl, _, _, rfl, rfl, rfl, keepT ?_⟩
      refine ⟨_, rfl, _, rfl, _, _, rfl, rfl, _, rfl, ?_⟩
      refine ⟨_, hD, ?_, Same.put sj nD, ?_⟩
      · rw [List.length_map, List.length_take, sizeLine_eq, List.length_zipWith]
        omega
      · rw [upd_same, zip_take hn hz, List.map_append]
        rfl
    · rintro H' ⟨sj, hD⟩
      rw [List.take_of_length_le (by rw [List.length_zipWith, List.length_map]; omega)] at hD
      intro x dx nx ndx nex
      refine make_read nx ndx nex (.inl (SqL.of hD)) (zip_good (by intro i j hi hj; unfold gXor; split <;> omega) gn gm e) fun k H'' nk xk sk Lk => ?_
      exact q1 e x k H'' ((s1.trans sj).trans sk) ((s1.trans sj).free nx) ((s1.trans sj).free nk) Lk
def spWth (C B : Addr) : Sp := fun vs H Q E => ∃ (a l b m : Addr) (ns ms : List Int), vs = [.ref a, .ref b] ∧ Ld C H a l ns ∧ Ld C H b m ms ∧ good ns ∧ good ms ∧
  (ns.length = ms.length → ∀ H', Same H H' → Q (.bl ((List.zipWith (fun i j : Int => decide (i ≤ j)) ns ms).all id)) H') ∧ (ns.length ≠ ms.length → E (.ref B) none H)
theorem zipb_take {g : Int → Int → Bool} {ns ms : List Int} {j : Nat} {n m : Int} (hn : ns[j]? = some n) (hm : ms[j]? = some m) : (List.zipWith g ns ms).take (j + 1) = (List.zipWith g ns ms).take j ++ [g n m] := by
  rw [List.take_add_one, List.getElem?_zipWith, hn, hm]
  rfl
theorem scWth : FnScope ["self", "other", "mine", "theirs"] ["self", "other"] (defScope sWth) := ⟨rfl, rfl, rfl, by decide +kernel, rfl, by decide +kernel, by decide +kernel⟩
theorem ok_within (T : Tx K mg) : FnOk P w K mg base (L2.CX P w) 4 T.fLoad_within T.dLoad_within ["self", "other"] (spWth T.C_Load T.C_BadLoad) := by
  have Gp := ok_prs (P := P) (w := w) (base := base) T
  refine T.FLoad_within.okX scWth (fun vs H Q E h => ?_) (fun cdv A outer s H vs Q E hr h => ?_)
  · obtain ⟨a, l, b, m, ns, ms, rfl, _⟩ := h
    rfl
  · obtain ⟨a, l, b, m, ns, ms, rfl, L, M, gn, gm, q1, q2⟩ := h
    obtain ⟨dx, ha, hl⟩ := id L
    have h1 : Room 1 _ := hr.mono (by decide)
    have szn := gn.1.2
    refine ⟨_, pss_one (ps_ret (pe_callB (cr_all rfl) (by rfl) T.z_all (by decide +kernel) (pa_cons (pe_lc (own := [("mine", 2), ("theirs", 3)]) (g := gTup K 2 (gCons (gName 2) (gCons (gName 3) gNil))) rfl scWth.nd (pi_list (pe_meth (pv 0) T.cl_Load T.m_Load_pairs Gp h1 T.bLoad_pairs .nil (passes_call (takes_of rfl rfl rfl rfl) (fun _ _ _ _ h => h)) (pa_cons (pv 1) pa_nil))) (blkOk_by (own := [("mine", 2), ("theirs", 3)]) (N := ["self", "other", "mine", "theirs"]) (sc := defScope sWth) (by decide +kernel)) (fun _ _ _ _ _ => pg_tupK (K := K) rfl rfl (pgs_cons (pg_name (i := 2) scWth.nd rfl (.inl rfl)) (pgs_cons (pg_name (i := 3) scWth.nd rfl (.inl rfl)) pgs_nil))) (fun _ _ _ _ _ => pts_nil) (fun _ _ _ _ _ => (pe_cmpR op_le (pv 2) (pv 3) (nomark _)))) pa_nil))), ?_⟩
    refine ⟨_, rfl, a, dx, _, rfl, ha, rfl, _, rfl, a, l, b, m, ns, ms, rfl, L, M, by omega, fun e => ?_, q2⟩
    intro r H1 ts nr s1 h1 et zp
    refine ⟨r, rfl, ⟨_, SqL.of h1⟩, fun D nD => ?_⟩
    refine lc_list (K := K) (a := r) (xs := ts.map V.ref) (fun j H' => Same H1 H' ∧ H' D = some (.lst (((List.zipWith (fun i j : Int => decide (i ≤ j)) ns ms).take j).map V.bl))) ⟨same_upd nD, upd_same⟩ (fun j H' _ h => SqL.of (h.1 _ _ h1)) ?_ ?_
    · rintro j y H' hy ⟨sj, hD⟩
      obtain ⟨t, ht, rfl⟩ : ∃ t, ts[j]? = some t ∧ y = V.ref t := by
        rw [List.getElem?_map] at hy
        cases e : ts[j]? with
        | none =>
          rw [e] at hy
          cases hy
        | some t =>
          rw [e] at hy
          exact ⟨t, rfl, (Option.some.inj hy).symm⟩
      obtain ⟨x, y, hx, hy, htt⟩ := zp j t ht
      obtain ⟨n, hn, rfl⟩ := int_of hx
      obtain ⟨z, hz, rfl⟩ := int_of hy
      refine ⟨t, _, rfl, SqT.of (sj _ _ htt), rfl, _, _, rfl, _, _, rfl, rfl, rfl, keepT ?_⟩
      refine ⟨_, rfl, _, rfl, _, _, rfl, rfl, ?_⟩
      refine ⟨_, hD, ?_, Same.put sj nD, ?_⟩
      · rw [List.length_map, List.length_take, sizeLine_eq, List.length_zipWith]
        omega
      · rw [upd_same, zipb_take hn hz, List.map_append]
        rfl
    · rintro H' ⟨sj, hD⟩
      rw [List.take_of_length_le (by rw [List.length_zipWith, List.length_map]; omega)] at hD
      exact ⟨D, _, rfl, SqL.of hD, q1 e H' (s1.trans sj)⟩
end
end D1

namespace D1
open PySem PySem.Spec PyProof.Rows L2 KO
theorem ix_listK {X : Cx} {K : PySem.W.Frag} (h : X.K = K) : IxR X (rIxL K) := by
  subst h
  exact ix_list
section
variable {P : Program} {w : World} {K : PySem.W.Frag} {mg : Str → Option Value} {base : Heap}
/-! ### a load shows a list -/
def spIsl (C : Addr) : Sp := fun vs H Q _ => ∃ (x k c : Addr) (ns : List Int), vs = [.ref x, .ref c] ∧ Ld C H x k ns ∧ H c = some (.lst (ns.map V.int)) ∧ ns.length ≤ 60 ∧ Q (.bl true) H
theorem scIsl : FnScope ["_law_got", "_law_counts", "_law_k"] ["_law_got", "_law_counts"] (defScope sIsl) := ⟨rfl, rfl, rfl, by decide +kernel, rfl, by decide +kernel, by decide +kernel⟩
theorem ok_isl (T : Tx K mg) : FnOk P w K mg base CX0 5 T.f_law_is_load T.d_law_is_load ["_law_got", "_law_counts"] (spIsl T.C_Load) := by
  have Glen := ok_len (P := P) (w := w) (base := base) T
  have Gget := ok_get (P := P) (w := w) (base := base) T
  have Gs := (ok_same (P := P) (w := w) (base := base) T 2).mono (k := 4) (by decide)
  refine T.F_law_is_load.ok scIsl (fun vs H Q E h => ?_) (fun cdv A outer s H vs Q E hr h => ?_)
  · obtain ⟨x, k, c, ns, rfl, _⟩ := h
    rfl
  · obtain ⟨x, k, c, ns, rfl, Lx, hc, hn, q⟩ := h
    obtain ⟨dx, hx, hk⟩ := id Lx
    have h2 : Room 2 _ := hr.mono (by decide)
    have h3 : Room 3 _ := hr.mono (by decide)
    refine ⟨_, pss_cons (ps_if (PW.pt (pw_or (pt_not (pt_val (pe_callB call_isi (by rfl) T.z_isinstance (by decide +kernel) (pa_cons (pv 0) (pa_cons (pe_glob (v := .ref T.C_Load) rfl T.g_Load rfl) pa_nil))))) (pw_or1 (pt_cmpR op_ne (pe_callB (len_own T.m_Load_len Glen h2 T.bLoad_len (fun σ => at0)) (by rfl) T.z_len (by decide +kernel) (pa_cons (pv 0) pa_nil)) (pe_callB call_len_seq (by rfl) T.z_len (by decide +kernel) (pa_cons (pv 1) pa_nil)) (nomark _))))) (pss_one ps_never) pss_nil)
      (pss_cons (ps_for PassesOwn.never rfl (pi_range1 (by rfl) T.z_range (pa_cons (pe_callB call_len_seq (by rfl) T.z_len (by decide +kernel) (pa_cons (pv 1) pa_nil)) pa_nil)) (pg_name (i := 2) scIsl.nd rfl (.inl rfl))
        (pss_one (ps_if (pt_not (pt_val (pe_call Gs hr (by rfl) T.g_law_same T.F_law_same.kp T.b_law_same .nil pass0 (pa_cons (pe_subOwn (E := fun _ => E0) T.m_Load_getitem T.fn_Load_getitem Gget h3 T.bLoad_getitem (fun σ => atL) (pv 0) (pv 2)) (pa_cons (pe_ix ix_list (pv 1) (pv 2) (fun _ _ => rfl)) pa_nil))))) (pss_one ps_never) pss_nil)))
      (pss_one (ps_ret pe_bl))), ?_⟩
    refine ⟨_, rfl, _, .ref T.C_Load, .ref T.C_Load, .ref T.C_Load, true, rfl, .own _, .base (.ins hx T.cl_Load T.ic_Load T.sp_class T.tk_class T.mr_Load), kit_own, _, rfl, iteF ?_⟩
    refine ⟨_, rfl, x, dx, _, rfl, hx, x, k, ns, rfl, Lx, ns.length, rfl, by omega, by omega, _, rfl, c, _, rfl, .inl (SqL.of hc), rfl, _, rfl, iteND (by rw [List.length_map]) ?_⟩
    refine ⟨_, rfl, c, _, rfl, .inl (SqL.of hc), _, rfl, by omega, by rw [List.length_map]; omega, for_range (lo := 0) (n := (((ns.map V.int).length : Nat) : Int).toNat) (fun _ σ H' => (∃ v2, σ = [some (.ref x), some (.ref c), v2]) ∧ H' = H) ⟨⟨none, rfl⟩, rfl⟩ ?_ ?_⟩
    · rintro i σ H' hi ⟨⟨v2, rfl⟩, rfl⟩
      have hin : inL ns (0 + (i : Int)) := ⟨by omega, by rw [List.length_map] at hi; omega⟩
      obtain ⟨z, hz⟩ := in_get hin
      refine ⟨_, rfl, _, rfl, x, dx, _, rfl, hx, x, k, ns, _, rfl, Lx, fun _ z' hz' => ?_, fun h => (h hin).elim⟩
      obtain rfl : z = z' := Option.some.inj (hz.symm.trans hz')
      exact ⟨_, rfl, _, rfl, c, _, _, _, rfl, rfl, SqL.of hc, at_of hin hz, _, _, rfl, .inl ⟨z, rfl, rfl⟩, _, rfl, iteF ⟨⟨_, rfl⟩, rfl⟩⟩
    · rintro σ H' ⟨⟨v2, rfl⟩, rfl⟩
      exact q
/-! ### a list beside another -/
def spBes : Sp := fun vs H Q _ => ∃ (p c : Addr) (ns : List Int), vs = [.ref p, .ref c] ∧ Pool H p ∧ H c = some (.lst (ns.map V.int)) ∧ c ≠ p ∧ good ns ∧
  ∀ l H' ms, H l = none → Pool H' p → But p H H' → H' l = some (.lst (ms.map V.int)) → good ms → ms.length = ns.length → Q (.ref l) H'
theorem scBes : FnScope ["_law_pool_here", "_law_counts", "_law_k", "_law_count_here"] ["_law_pool_here", "_law_counts"] (defScope sBes) := ⟨rfl, rfl, rfl, by decide +kernel, rfl, by decide +kernel, by decide +kernel⟩
theorem ok_bes (T : Tx K mg) : FnOk P w K mg base CX0 3 T.f_law_beside T.d_law_beside ["_law_pool_here", "_law_counts"] spBes := by
  have G_law_take := (ok_take (P := P) (w := w) (base := base) T).mono (k := 2) (by decide)
  have G_law_count := (ok_count (P := P) (w := w) (base := base) T).mono (k := 2) (by decide)
  refine T.F_law_beside.ok scBes (fun vs H Q E h => ?_) (fun cdv A outer s H vs Q E hr h => ?_)
  · obtain ⟨p, c, ns, rfl, _⟩ := h
    rfl
  · obtain ⟨p, c, ns, rfl, hp, hc, cp, hg, q⟩ := h
    refine ⟨_, pss_cons (ps_if (pt_cmpR op_eq (pe_call G_law_take hr (by rfl) T.g_law_take T.F_law_take.kp T.b_law_take .nil pass0 (pa_cons (pv 0) (pa_cons pe_int pa_nil))) pe_int (nomark _)) (pss_one (ps_ret (pe_lc (own := [("_law_count_here", 3)]) (g := gName 3) rfl scBes.nd (pi_list (pv 1)) (blkOk_by (own := [("_law_count_here", 3)]) (N := ["_law_pool_here", "_law_counts", "_law_k", "_law_count_here"]) (sc := defScope sBes) (by decide +kernel)) (fun _ _ _ _ _ => pg_name (i := 3) scBes.nd rfl (.inl rfl)) (fun _ _ _ _ _ => pts_nil) (fun _ _ _ _ _ => (pe_callB (call_min2 rfl) (by rfl) T.z_min (by decide +kernel) (pa_cons (pe_op op_pow pe_int pe_int) (pa_cons (pe_op op_add (pv 3) (pe_call G_law_take hr (by rfl) T.g_law_take T.F_law_take.kp T.b_law_take .nil pass0 (pa_cons (pv 0) (pa_cons pe_int pa_nil)))) pa_nil))))))) (pss_nil))
      (pss_one (ps_ret (pe_lc (own := [("_law_k", 2)]) (g := gName 2) rfl scBes.nd (pi_range1 (by rfl) T.z_range (pa_cons (pe_callB call_len_seq (by rfl) T.z_len (by decide +kernel) (pa_cons (pv 1) pa_nil)) pa_nil)) (blkOk_by (own := [("_law_k", 2)]) (N := ["_law_pool_here", "_law_counts", "_law_k", "_law_count_here"]) (sc := defScope sBes) (by decide +kernel)) (fun _ _ _ _ _ => pg_name (i := 2) scBes.nd rfl (.inl rfl)) (fun _ _ _ _ _ => pts_nil) (fun _ _ _ _ _ => (pe_call G_law_count hr (by rfl) T.g_law_count T.F_law_count.kp T.b_law_count .nil pass0 (pa_cons (pv 0) pa_nil)))))), ?_⟩
    have szn := hg.1.2
    refine ⟨_, rfl, p, _, rfl, hp, by decide, by decide, fun H1 r _ _ p1 e1 => ⟨rfl, _, rfl, iteDs (fun _ => ?_) (fun _ => ?_)⟩⟩
    · have hc1 := Pool.eq e1 cp hc
      refine ⟨_, rfl, c, rfl, ⟨_, SqL.of hc1⟩, fun D nD => ?_⟩
      have Dp := p1.ne nD
      have b1 : But p H H1 := But.eq e1
      have nD0 : H D = none := b1.free Dp nD
      refine lc_list (K := K) (a := c) (xs := ns.map V.int) (fun j H' => ∃ ms : List Int, ms.length = j ∧ (∀ m ∈ ms, 0 ≤ m) ∧ H' D = some (.lst (ms.map V.int)) ∧ Pool H' p ∧ But p H H' ∧ H' c = some (.lst (ns.map V.int))) ⟨[], rfl, by simp, upd_same, p1.upd Dp, b1.put' nD0, same_upd nD _ _ hc1⟩ (fun j H' _ ⟨_, _, _, _, _, _, h⟩ => SqL.of h) ?_ ?_
      · rintro j y H' hy ⟨ms, em, hm, hD, p2, b2, hc2⟩
        obtain ⟨z, hz, rfl⟩ := int_of hy
        have z0 := hg.2 z (List.mem_of_getElem? hz)
        have hj : j < ns.length := (List.getElem?_eq_some_iff.mp hz).1
        refine ⟨rfl, keepT ?_⟩
        refine ⟨_, _, rfl, rfl, ⟨by decide, by decide, by decide⟩, _, rfl, _, rfl, p, _, rfl, p2, by decide, by decide, fun H3 r2 h0 h1 p3 e3 => ⟨_, _, rfl, rfl, _, _, rfl, ?_⟩⟩
        have hD3 := Pool.eq e3 Dp hD
        refine ⟨_, hD3, by rw [List.length_map, sizeLine_eq]; omega, ms ++ [if z + r2 < 10 ^ 9 then z + r2 else 10 ^ 9], by rw [List.length_append, em]; rfl, fun m h => ?_, by rw [upd_same, List.map_append]; rfl, p3.upd Dp, (b2.trans (But.eq e3)).put' nD0, ?_⟩
        · rcases List.mem_append.mp h with h | h
          · exact hm m h
          · rw [List.mem_singleton.mp h]
            split <;> omega
        · rw [upd_ne (fun e => by rw [e, nD] at hc1; cases hc1)]
          exact Pool.eq e3 cp hc2
      · rintro H' ⟨ms, em, hm, hD, p2, b2, hc2⟩
        rw [List.length_map] at em
        exact q D H' ms nD0 p2 b2 hD ⟨by have := hg.1; omega, hm⟩ em
    · have hc1 := Pool.eq e1 cp hc
      refine ⟨_, rfl, c, _, rfl, .inl (SqL.of hc1), _, rfl, by omega, by rw [List.length_map]; omega, fun D nD => ?_⟩
      have Dp := p1.ne nD
      have b1 : But p H H1 := But.eq e1
      have nD0 : H D = none := b1.free Dp nD
      refine lc_range (lo := 0) (n := (((ns.map V.int).length : Nat) : Int).toNat) (fun j H' => ∃ ms : List Int, ms.length = j ∧ (∀ m ∈ ms, 0 ≤ m) ∧ H' D = some (.lst (ms.map V.int)) ∧ Pool H' p ∧ But p H H') ⟨[], rfl, by simp, upd_same, p1.upd Dp, b1.put' nD0⟩ ?_ ?_
      · rintro j H' hj ⟨ms, em, hm, hD, p2, b2⟩
        rw [List.length_map] at hj
        refine ⟨rfl, keepT ?_⟩
        refine ⟨_, rfl, p, rfl, p2, fun H3 z z0 p3 e3 => ?_⟩
        have hD3 := Pool.eq e3 Dp hD
        refine ⟨_, hD3, by rw [List.length_map, sizeLine_eq]; omega, ms ++ [z], by rw [List.length_append, em]; rfl, fun m h => ?_, by rw [upd_same, List.map_append]; rfl, p3.upd Dp, (b2.trans (But.eq e3)).put' nD0⟩
        rcases List.mem_append.mp h with h | h
        · exact hm m h
        · rw [List.mem_singleton.mp h]
          exact z0
      · rintro H' ⟨ms, em, hm, hD, p2, b2⟩
        rw [List.length_map] at em
        have em' : ms.length = ns.length := by omega
        exact q D H' ms nD0 p2 b2 hD ⟨by have := hg.1; omega, hm⟩ em'
/-! ### what is due -/
def gw (v : Int) : Int → Int → Int := if v = 0 then gAdd else if v = 1 then gSub else if v = 2 then gOr else if v = 3 then gAnd else gXor
def spDue (K : PySem.W.Frag) : Sp := fun vs H Q _ => ∃ (v : Int) (c d : Addr) (ns ms : List Int), vs = [.int v, .ref c, .ref d] ∧ H c = some (.lst (ns.map V.int)) ∧ H d = some (.lst (ms.map V.int)) ∧ ns.length = ms.length ∧ ns.length ≤ 60 ∧
  ∀ l H', H l = none → Same H H' → H' l = some (.lst ((List.zipWith (gw v) ns ms).map V.int)) → Q (.ref l) H'
theorem scDue : FnScope ["_law_way", "_law_first", "_law_second", "_law_size_here", "_law_k"] ["_law_way", "_law_first", "_law_second"] (defScope sDue) := ⟨rfl, rfl, rfl, by decide +kernel, rfl, by decide +kernel, by decide +kernel⟩
theorem ok_due (T : Tx K mg) : FnOk P w K mg base CX0 1 T.f_law_due T.d_law_due ["_law_way", "_law_first", "_law_second"] (spDue K) := by
  refine T.F_law_due.ok scDue (fun vs H Q E h => ?_) (fun cdv A outer s H vs Q E hr h => ?_)
  · obtain ⟨v, c, d, ns, ms, rfl, _⟩ := h
    rfl
  · obtain ⟨v, c, d, ns, ms, rfl, hc, hd, e, szn, q⟩ := h
    refine ⟨_, pss_cons (ps_set (i := 3) scDue.nd rfl (.inl rfl) (pe_callB call_len_seq (by rfl) T.z_len (by decide +kernel) (pa_cons (pv 1) pa_nil)))
      (pss_cons (ps_if (pt_cmpR op_eq (pv 0) pe_int (nomark _)) (pss_one (ps_ret (pe_lc (own := [("_law_k", 4)]) (g := gName 4) rfl scDue.nd (pi_range1 (by rfl) T.z_range (pa_cons (pv 3) pa_nil)) (blkOk_by (own := [("_law_k", 4)]) (N := ["_law_way", "_law_first", "_law_second", "_law_size_here", "_law_k"]) (sc := defScope sDue) (by decide +kernel)) (fun _ _ _ _ _ => pg_name (i := 4) scDue.nd rfl (.inl rfl)) (fun _ _ _ _ _ => pts_nil) (fun _ _ _ _ _ => (pe_op op_add (pe_ix (ix_listK (K := K) rfl) (pv 1) (pv 4) (fun _ _ => rfl)) (pe_ix (ix_listK (K := K) rfl) (pv 2) (pv 4) (fun _ _ => rfl))))))) (pss_nil))
      (pss_cons (ps_if (pt_cmpR op_eq (pv 0) pe_int (nomark _)) (pss_one (ps_ret (pe_lc (own := [("_law_k", 4)]) (g := gName 4) rfl scDue.nd (pi_range1 (by rfl) T.z_range (pa_cons (pv 3) pa_nil)) (blkOk_by (own := [("_law_k", 4)]) (N := ["_law_way", "_law_first", "_law_second", "_law_size_here", "_law_k"]) (sc := defScope sDue) (by decide +kernel)) (fun _ _ _ _ _ => pg_name (i := 4) scDue.nd rfl (.inl rfl)) (fun _ _ _ _ _ => pts_nil) (fun _ _ _ _ _ => (pe_op op_sub (pe_ix (ix_listK (K := K) rfl) (pv 1) (pv 4) (fun _ _ => rfl)) (pe_callB (call_min2 rfl) (by rfl) T.z_min (by decide +kernel) (pa_cons (pe_ix (ix_listK (K := K) rfl) (pv 1) (pv 4) (fun _ _ => rfl)) (pa_cons (pe_ix (ix_listK (K := K) rfl) (pv 2) (pv 4) (fun _ _ => rfl)) pa_nil)))))))) (pss_nil))
      (pss_cons (ps_if (pt_cmpR op_eq (pv 0) pe_int (nomark _)) (pss_one (ps_ret (pe_lc (own := [("_law_k", 4)]) (g := gName 4) rfl scDue.nd (pi_range1 (by rfl) T.z_range (pa_cons (pv 3) pa_nil)) (blkOk_by (own := [("_law_k", 4)]) (N := ["_law_way", "_law_first", "_law_second", "_law_size_here", "_law_k"]) (sc := defScope sDue) (by decide +kernel)) (fun _ _ _ _ _ => pg_name (i := 4) scDue.nd rfl (.inl rfl)) (fun _ _ _ _ _ => pts_nil) (fun _ _ _ _ _ => (pe_callB (call_max2 rfl) (by rfl) T.z_max (by decide +kernel) (pa_cons (pe_ix (ix_listK (K := K) rfl) (pv 1) (pv 4) (fun _ _ => rfl)) (pa_cons (pe_ix (ix_listK (K := K) rfl) (pv 2) (pv 4) (fun _ _ => rfl)) pa_nil))))))) (pss_nil))
      (pss_cons (ps_if (pt_cmpR op_eq (pv 0) pe_int (nomark _)) (pss_one (ps_ret (pe_lc (own := [("_law_k", 4)]) (g := gName 4) rfl scDue.nd (pi_range1 (by rfl) T.z_range (pa_cons (pv 3) pa_nil)) (blkOk_by (own := [("_law_k", 4)]) (N := ["_law_way", "_law_first", "_law_second", "_law_size_here", "_law_k"]) (sc := defScope sDue) (by decide +kernel)) (fun _ _ _ _ _ => pg_name (i := 4) scDue.nd rfl (.inl rfl)) (fun _ _ _ _ _ => pts_nil) (fun _ _ _ _ _ => (pe_callB (call_min2 rfl) (by rfl) T.z_min (by decide +kernel) (pa_cons (pe_ix (ix_listK (K := K) rfl) (pv 1) (pv 4) (fun _ _ => rfl)) (pa_cons (pe_ix (ix_listK (K := K) rfl) (pv 2) (pv 4) (fun _ _ => rfl)) pa_nil))))))) (pss_nil))
      (pss_one (ps_ret (pe_lc (own := [("_law_k", 4)]) (g := gName 4) rfl scDue.nd (pi_range1 (by rfl) T.z_range (pa_cons (pv 3) pa_nil)) (blkOk_by (own := [("_law_k", 4)]) (N := ["_law_way", "_law_first", "_law_second", "_law_size_here", "_law_k"]) (sc := defScope sDue) (by decide +kernel)) (fun _ _ _ _ _ => pg_name (i := 4) scDue.nd rfl (.inl rfl)) (fun _ _ _ _ _ => pts_nil) (fun _ _ _ _ _ => (pe_op op_sub (pe_callB (call_max2 rfl) (by rfl) T.z_max (by decide +kernel) (pa_cons (pe_ix (ix_listK (K := K) rfl) (pv 1) (pv 4) (fun _ _ => rfl)) (pa_cons (pe_ix (ix_listK (K := K) rfl) (pv 2) (pv 4) (fun _ _ => rfl)) pa_nil))) (pe_callB (call_min2 rfl) (by rfl) T.z_min (by decide +kernel) (pa_cons (pe_ix (ix_listK (K := K) rfl) (pv 1) (pv 4) (fun _ _ => rfl)) (pa_cons (pe_ix (ix_listK (K := K) rfl) (pv 2) (pv 4) (fun _ _ => rfl)) pa_nil)))))))))))), ?_⟩
    refine ⟨_, rfl, c, _, rfl, .inl (SqL.of hc), ?_⟩
    refine ⟨_, rfl, rfl, _, rfl, iteDs (fun w0 => ?_) (fun w0 => ⟨_, rfl, rfl, _, rfl, iteDs (fun w1 => ?_) (fun w1 => ⟨_, rfl, rfl, _, rfl, iteDs (fun w2 => ?_) (fun w2 => ⟨_, rfl, rfl, _, rfl, iteDs (fun w3 => ?_) (fun w3 => ?_)⟩)⟩)⟩)⟩
    · have vv : v = 0 := V.int.inj w0
      refine ⟨_, rfl, _, rfl, by rw [List.length_map]; omega, by rw [List.length_map]; omega, fun D nD => ?_⟩
      refine lc_range (lo := 0) (n := (((ns.map V.int).length : Nat) : Int).toNat) (fun j H' => Same H H' ∧ H' D = some (.lst (((List.zipWith (gw v) ns ms).take j).map V.int))) ⟨same_upd nD, upd_same⟩ ?_ ?_
      · rintro j H' hj ⟨sj, hD⟩
        rw [List.length_map] at hj
        have hin : inL ns (0 + (j : Int)) := ⟨by omega, by omega⟩
        have him : inL ms (0 + (j : Int)) := ⟨by omega, by omega⟩
        obtain ⟨n, hn⟩ := in_get hin
        obtain ⟨m, hm⟩ := in_get him
        have ej : (0 + (j : Int)).toNat = j := by omega
        have hn' : ns[j]? = some n := by rw [ej] at hn; exact hn
        have hm' : ms[j]? = some m := by rw [ej] at hm; exact hm
        have eg : gw v n m = n + m := by
          subst vv; rfl
        refine ⟨rfl, keepT ?_⟩
        refine ⟨_, rfl, _, rfl, c, _, _, _, rfl, rfl, SqL.of (sj _ _ hc), at_of hin hn, _, rfl, _, rfl, d, _, _, _, rfl, rfl, SqL.of (sj _ _ hd), at_of him hm, _, _, rfl, rfl, ?_⟩
        refine ⟨_, hD, ?_, Same.put sj nD, ?_⟩
        · rw [List.length_map, List.length_take, sizeLine_eq, List.length_zipWith]
          omega
        · rw [upd_same, zip_take hn' hm', List.map_append, eg]
          rfl
      · rintro H' ⟨sj, hD⟩
        rw [List.take_of_length_le (by rw [List.length_zipWith, List.length_map]; omega)] at hD
        exact q D H' nD sj hD
    · have vv : v = 1 := V.int.inj w1
      refine ⟨_, rfl, _, rfl, by rw [List.length_map]; omega, by rw [List.length_map]; omega, fun D nD => ?_⟩
      refine lc_range (lo := 0) (n := (((ns.map V.int).length : Nat) : Int).toNat) (fun j H' => Same H H' ∧ H' D = some (.lst (((List.zipWith (gw v) ns ms).take j).map V.int))) ⟨same_upd nD, upd_same⟩ ?_ ?_
      · rintro j H' hj ⟨sj, hD⟩
        rw [List.length_map] at hj
        have hin : inL ns (0 + (j : Int)) := ⟨by omega, by omega⟩
        have him : inL ms (0 + (j : Int)) := ⟨by omega, by omega⟩
        obtain ⟨n, hn⟩ := in_get hin
        obtain ⟨m, hm⟩ := in_get him
        have ej : (0 + (j : Int)).toNat = j := by omega
        have hn' : ns[j]? = some n := by rw [ej] at hn; exact hn
        have hm' : ms[j]? = some m := by rw [ej] at hm; exact hm
        have eg : gw v n m = n - (if m < n then m else n) := by
          subst vv; show gSub n m = _; unfold gSub; split <;> split <;> omega
        refine ⟨rfl, keepT ?_⟩
        refine ⟨_, rfl, _, rfl, c, _, _, _, rfl, rfl, SqL.of (sj _ _ hc), at_of hin hn, _, rfl, _, rfl, c, _, _, _, rfl, rfl, SqL.of (sj _ _ hc), at_of hin hn, _, rfl, _, rfl, d, _, _, _, rfl, rfl, SqL.of (sj _ _ hd), at_of him hm, _, _, rfl, _, _, rfl, rfl, ?_⟩
        refine ⟨_, hD, ?_, Same.put sj nD, ?_⟩
        · rw [List.length_map, List.length_take, sizeLine_eq, List.length_zipWith]
          omega
        · rw [upd_same, zip_take hn' hm', List.map_append, eg]
          rfl
      · rintro H' ⟨sj, hD⟩
        rw [List.take_of_length_le (by rw [List.length_zipWith, List.length_map]; omega)] at hD
        exact q D H' nD sj hD
    · have vv : v = 2 := V.int.inj w2
      refine ⟨_, rfl, _, rfl, by rw [List.length_map]; omega, by rw [List.length_map]; omega, fun D nD => ?_⟩
      refine lc_range (lo := 0) (n := (((ns.map V.int).length : Nat) : Int).toNat) (fun j H' => Same H H' ∧ H' D = some (.lst (((List.zipWith (gw v) ns ms).take j).map V.int))) ⟨same_upd nD, upd_same⟩ ?_ ?_
      · rintro j H' hj ⟨sj, hD⟩
        rw [List.length_map] at hj
        have hin : inL ns (0 + (j : Int)) := ⟨by omega, by omega⟩
        have him : inL ms (0 + (j : Int)) := ⟨by omega, by omega⟩
        obtain ⟨n, hn⟩ := in_get hin
        obtain ⟨m, hm⟩ := in_get him
        have ej : (0 + (j : Int)).toNat = j := by omega
        have hn' : ns[j]? = some n := by rw [ej] at hn; exact hn
        have hm' : ms[j]? = some m := by rw [ej] at hm; exact hm
        have eg : gw v n m = if m > n then m else n := by
          subst vv; rfl
        refine ⟨rfl, keepT ?_⟩
        refine ⟨_, rfl, _, rfl, c, _, _, _, rfl, rfl, SqL.of (sj _ _ hc), at_of hin hn, _, rfl, _, rfl, d, _, _, _, rfl, rfl, SqL.of (sj _ _ hd), at_of him hm, _, _, rfl, ?_⟩
        refine ⟨_, hD, ?_, Same.put sj nD, ?_⟩
        · rw [List.length_map, List.length_take, sizeLine_eq, List.length_zipWith]
          omega
        · rw [upd_same, zip_take hn' hm', List.map_append, eg]
          rfl
      · rintro H' ⟨sj, hD⟩
        rw [List.take_of_length_le (by rw [List.length_zipWith, List.length_map]; omega)] at hD
        exact q D H' nD sj hD
    · have vv : v = 3 := V.int.inj w3
      refine ⟨_, rfl, _, rfl, by rw [List.length_map]; omega, by rw [List.length_map]; omega, fun D nD => ?_⟩
      refine lc_range (lo := 0) (n := (((ns.map V.int).length : Nat) : Int).toNat) (fun j H' => Same H H' ∧ H' D = some (.lst (((List.zipWith (gw v) ns ms).take j).map V.int))) ⟨same_upd nD, upd_same⟩ ?_ ?_
      · rintro j H' hj ⟨sj, hD⟩
        rw [List.length_map] at hj
        have hin : inL ns (0 + (j : Int)) := ⟨by omega, by omega⟩
        have him : inL ms (0 + (j : Int)) := ⟨by omega, by omega⟩
        obtain ⟨n, hn⟩ := in_get hin
        obtain ⟨m, hm⟩ := in_get him
        have ej : (0 + (j : Int)).toNat = j := by omega
        have hn' : ns[j]? = some n := by rw [ej] at hn; exact hn
        have hm' : ms[j]? = some m := by rw [ej] at hm; exact hm
        have eg : gw v n m = if m < n then m else n := by
          subst vv; rfl
        refine ⟨rfl, keepT ?_⟩
        refine ⟨_, rfl, _, rfl, c, _, _, _, rfl, rfl, SqL.of (sj _ _ hc), at_of hin hn, _, rfl, _, rfl, d, _, _, _, rfl, rfl, SqL.of (sj _ _ hd), at_of him hm, _, _, rfl, ?_⟩
        refine ⟨_, hD, ?_, Same.put sj nD, ?_⟩
        · rw [List.length_map, List.length_take, sizeLine_eq, List.length_zipWith]
          omega
        · rw [upd_same, zip_take hn' hm', List.map_append, eg]
          rfl
      · rintro H' ⟨sj, hD⟩
        rw [List.take_of_length_le (by rw [List.length_zipWith, List.length_map]; omega)] at hD
        exact q D H' nD sj hD
    · have vt := True.intro
      refine ⟨_, rfl, _, rfl, by rw [List.length_map]; omega, by rw [List.length_map]; omega, fun D nD => ?_⟩
      refine lc_range (lo := 0) (n := (((ns.map V.int).length : Nat) : Int).toNat) (fun j H' => Same H H' ∧ H' D = some (.lst (((List.zipWith (gw v) ns ms).take j).map V.int))) ⟨same_upd nD, upd_same⟩ ?_ ?_
      · rintro j H' hj ⟨sj, hD⟩
        rw [List.length_map] at hj
        have hin : inL ns (0 + (j : Int)) := ⟨by omega, by omega⟩
        have him : inL ms (0 + (j : Int)) := ⟨by omega, by omega⟩
        obtain ⟨n, hn⟩ := in_get hin
        obtain ⟨m, hm⟩ := in_get him
        have ej : (0 + (j : Int)).toNat = j := by omega
        have hn' : ns[j]? = some n := by rw [ej] at hn; exact hn
        have hm' : ms[j]? = some m := by rw [ej] at hm; exact hm
        have eg : gw v n m = (if m > n then m else n) - (if m < n then m else n) := by
          have v0 : v ≠ 0 := fun h => w0 (by rw [h]); have v1 : v ≠ 1 := fun h => w1 (by rw [h]); have v2 : v ≠ 2 := fun h => w2 (by rw [h]); have v3 : v ≠ 3 := fun h => w3 (by rw [h]); unfold gw; rw [if_neg v0, if_neg v1, if_neg v2, if_neg v3]; unfold gXor; split <;> split <;> split <;> omega
        refine ⟨rfl, keepT ?_⟩
        refine ⟨_, rfl, _, rfl, c, _, _, _, rfl, rfl, SqL.of (sj _ _ hc), at_of hin hn, _, rfl, _, rfl, d, _, _, _, rfl, rfl, SqL.of (sj _ _ hd), at_of him hm, _, _, rfl, _, rfl, _, rfl, c, _, _, _, rfl, rfl, SqL.of (sj _ _ hc), at_of hin hn, _, rfl, _, rfl, d, _, _, _, rfl, rfl, SqL.of (sj _ _ hd), at_of him hm, _, _, rfl, _, _, rfl, rfl, ?_⟩
        refine ⟨_, hD, ?_, Same.put sj nD, ?_⟩
        · rw [List.length_map, List.length_take, sizeLine_eq, List.length_zipWith]
          omega
        · rw [upd_same, zip_take hn' hm', List.map_append, eg]
          rfl
      · rintro H' ⟨sj, hD⟩
        rw [List.take_of_length_le (by rw [List.length_zipWith, List.length_map]; omega)] at hD
        exact q D H' nD sj hD
end
end D1

namespace D1
open PySem PySem.Spec PyProof.Rows L2 KO
section
variable {P : Program} {w : World} {K : PySem.W.Frag} {mg : Str → Option Value} {base : Heap}
/-! ### a sign by its number -/
def wth (ns ms : List Int) : Bool := (List.zipWith (fun i j : Int => decide (i ≤ j)) ns ms).all id
def spMade (C B : Addr) : Sp := fun vs H Q E => ∃ (v : Int) (a l b m : Addr) (ns ms : List Int), vs = [.int v, .ref a, .ref b] ∧ Ld C H a l ns ∧ Ld C H b m ms ∧ good ns ∧ good ms ∧ 0 ≤ v ∧ v ≤ 5 ∧
  (ns.length = ms.length → (v < 5 → ∀ x k H', Same H H' → H x = none → H k = none → Ld C H' x k (List.zipWith (gw v) ns ms) → Q (.ref x) H') ∧ (v = 5 → ∀ H', Same H H' → Q (.bl (wth ns ms)) H')) ∧ (ns.length ≠ ms.length → E (.ref B) none H)
theorem scMade : FnScope ["_law_way", "_law_one", "_law_two"] ["_law_way", "_law_one", "_law_two"] (defScope sMade) := ⟨rfl, rfl, rfl, by decide +kernel, rfl, by decide +kernel, by decide +kernel⟩
theorem ok_made (T : Tx K mg) : FnOk P w K mg base (L2.CX P w) 6 T.f_law_made T.d_law_made ["_law_way", "_law_one", "_law_two"] (spMade T.C_Load T.C_BadLoad) := by
  have Gadd := ok_add (P := P) (w := w) (base := base) T
  have Gsub := ok_sub (P := P) (w := w) (base := base) T
  have Gor := ok_or (P := P) (w := w) (base := base) T
  have Gand := ok_and (P := P) (w := w) (base := base) T
  have Gxor := ok_xor (P := P) (w := w) (base := base) T
  have Gw := ok_within (P := P) (w := w) (base := base) T
  refine T.F_law_made.okX scMade (fun vs H Q E h => ?_) (fun cdv A outer s H vs Q E hr h => ?_)
  · obtain ⟨v, a, l, b, m, ns, ms, rfl, _⟩ := h
    rfl
  · obtain ⟨v, a, l, b, m, ns, ms, rfl, Lx, Mx, gn, gm, v0, v5, q1, q2⟩ := h
    have hr4 : Room 4 _ := hr.mono (by decide)
    refine ⟨_, pss_cons (ps_if (pt_cmpR op_eq (pv 0) pe_int (nomark _)) (pss_one (ps_ret (pe_op (bin_own (E := E) (name := "__add__") (by decide +kernel) T.m_Load_add T.sf_Load Gadd hr4 T.bLoad_add (fun σ pins H s e s2 I c => passes_call (takes_of rfl rfl rfl rfl) (fun _ _ _ _ h => h) pins σ H s e s2 I c)) (pv 1) (pv 2)))) pss_nil)
      (pss_cons (ps_if (pt_cmpR op_eq (pv 0) pe_int (nomark _)) (pss_one (ps_ret (pe_op (bin_own (E := E) (name := "__sub__") (by decide +kernel) T.m_Load_sub T.sf_Load Gsub hr4 T.bLoad_sub (fun σ pins H s e s2 I c => passes_call (takes_of rfl rfl rfl rfl) (fun _ _ _ _ h => h) pins σ H s e s2 I c)) (pv 1) (pv 2)))) pss_nil)
      (pss_cons (ps_if (pt_cmpR op_eq (pv 0) pe_int (nomark _)) (pss_one (ps_ret (pe_op (bin_own (E := E) (name := "__or__") (by decide +kernel) T.m_Load_or T.sf_Load Gor hr4 T.bLoad_or (fun σ pins H s e s2 I c => passes_call (takes_of rfl rfl rfl rfl) (fun _ _ _ _ h => h) pins σ H s e s2 I c)) (pv 1) (pv 2)))) pss_nil)
      (pss_cons (ps_if (pt_cmpR op_eq (pv 0) pe_int (nomark _)) (pss_one (ps_ret (pe_op (bin_own (E := E) (name := "__and__") (by decide +kernel) T.m_Load_and T.sf_Load Gand hr4 T.bLoad_and (fun σ pins H s e s2 I c => passes_call (takes_of rfl rfl rfl rfl) (fun _ _ _ _ h => h) pins σ H s e s2 I c)) (pv 1) (pv 2)))) pss_nil)
      (pss_cons (ps_if (pt_cmpR op_eq (pv 0) pe_int (nomark _)) (pss_one (ps_ret (pe_op (bin_own (E := E) (name := "__xor__") (by decide +kernel) T.m_Load_xor T.sf_Load Gxor hr4 T.bLoad_xor (fun σ pins H s e s2 I c => passes_call (takes_of rfl rfl rfl rfl) (fun _ _ _ _ h => h) pins σ H s e s2 I c)) (pv 1) (pv 2)))) pss_nil)
      (pss_one (ps_ret (pe_meth (pv 1) T.cl_Load T.m_Load_within Gw hr4 T.bLoad_within .nil (passes_call (takes_of rfl rfl rfl rfl) (fun _ _ _ _ h => h)) (pa_cons (pv 2) pa_nil)))))))), ?_⟩
    obtain ⟨da, ha, _⟩ := id Lx
    obtain ⟨db, hb, _⟩ := id Mx
    refine ⟨_, rfl, rfl, _, rfl, iteDs (fun w0 => by
      have vv : v = 0 := V.int.inj w0
      subst vv
      exact ⟨_, rfl, _, rfl, a, da, _, b, db, _, rfl, rfl, ha, hb, a, l, b, m, ns, ms, rfl, Lx, Mx, gn, gm, fun e x k H' s1 x0 k0 L1 => ⟨x, rfl, (q1 e).1 (by decide) x k H' s1 x0 k0 L1⟩, q2⟩) (fun w0 => ⟨_, rfl, rfl, _, rfl, iteDs (fun w1 => by
      have vv : v = 1 := V.int.inj w1
      subst vv
      exact ⟨_, rfl, _, rfl, a, da, _, b, db, _, rfl, rfl, ha, hb, a, l, b, m, ns, ms, rfl, Lx, Mx, gn, gm, fun e x k H' s1 x0 k0 L1 => ⟨x, rfl, (q1 e).1 (by decide) x k H' s1 x0 k0 L1⟩, q2⟩) (fun w1 => ⟨_, rfl, rfl, _, rfl, iteDs (fun w2 => by
      have vv : v = 2 := V.int.inj w2
      subst vv
      exact ⟨_, rfl, _, rfl, a, da, _, b, db, _, rfl, rfl, ha, hb, a, l, b, m, ns, ms, rfl, Lx, Mx, gn, gm, fun e x k H' s1 x0 k0 L1 => ⟨x, rfl, (q1 e).1 (by decide) x k H' s1 x0 k0 L1⟩, q2⟩) (fun w2 => ⟨_, rfl, rfl, _, rfl, iteDs (fun w3 => by
      have vv : v = 3 := V.int.inj w3
      subst vv
      exact ⟨_, rfl, _, rfl, a, da, _, b, db, _, rfl, rfl, ha, hb, a, l, b, m, ns, ms, rfl, Lx, Mx, gn, gm, fun e x k H' s1 x0 k0 L1 => ⟨x, rfl, (q1 e).1 (by decide) x k H' s1 x0 k0 L1⟩, q2⟩) (fun w3 => ⟨_, rfl, rfl, _, rfl, iteDs (fun w4 => by
      have vv : v = 4 := V.int.inj w4
      subst vv
      exact ⟨_, rfl, _, rfl, a, da, _, b, db, _, rfl, rfl, ha, hb, a, l, b, m, ns, ms, rfl, Lx, Mx, gn, gm, fun e x k H' s1 x0 k0 L1 => ⟨x, rfl, (q1 e).1 (by decide) x k H' s1 x0 k0 L1⟩, q2⟩) (fun w4 => ?_)⟩)⟩)⟩)⟩)⟩
    have u0 : v ≠ 0 := fun h => w0 (by rw [h])
    have u1 : v ≠ 1 := fun h => w1 (by rw [h])
    have u2 : v ≠ 2 := fun h => w2 (by rw [h])
    have u3 : v ≠ 3 := fun h => w3 (by rw [h])
    have u4 : v ≠ 4 := fun h => w4 (by rw [h])
    exact ⟨_, rfl, a, da, _, rfl, ha, rfl, _, rfl, a, l, b, m, ns, ms, rfl, Lx, Mx, gn, gm, fun e => (q1 e).2 (by omega), q2⟩
/-! ### refused -/
def spRf (C : Addr) : Sp := fun vs H Q _ => ∃ (v : Int) (a l b m : Addr) (ns ms : List Int), vs = [.int v, .ref a, .ref b] ∧ Ld C H a l ns ∧ Ld C H b m ms ∧ good ns ∧ good ms ∧ 0 ≤ v ∧ v ≤ 5 ∧ ns.length ≠ ms.length ∧ Q (.bl true) H
theorem scRf : FnScope ["_law_way", "_law_one", "_law_two", "_law_right", "_law_got", "e"] ["_law_way", "_law_one", "_law_two"] (defScope sRf) := ⟨rfl, rfl, rfl, by decide +kernel, rfl, by decide +kernel, by decide +kernel⟩
theorem ok_rf (T : Tx K mg) : FnOk P w K mg base CX0 8 T.f_law_refuses T.d_law_refuses ["_law_way", "_law_one", "_law_two"] (spRf T.C_Load) := by
  have G := ok_made (P := P) (w := w) (base := base) T
  refine T.F_law_refuses.ok scRf (fun vs H Q E h => ?_) (fun cdv A outer s H vs Q E hr h => ?_)
  · obtain ⟨v, a, l, b, m, ns, ms, rfl, _⟩ := h
    rfl
  · obtain ⟨v, a, l, b, m, ns, ms, rfl, Lx, Mx, gn, gm, v0, v5, ne, q⟩ := h
    have h6 : Room 6 _ := hr.mono (by decide)
    refine ⟨_, pss_cons (ps_set (i := 3) scRf.nd rfl (.inl rfl) pe_bl)
      (pss_cons (ps_try_as (i := 5) (tb := fun W => tAsg (tCallS (spMade T.C_Load T.C_BadLoad) (WE W) (tCons (tVar 0) (tCons (tVar 1) (tCons (tVar 2) tNil)))) (gName 4)) (Wout := fun _ _ _ _ => False) rfl rfl scRf.nd rfl rfl ⟨rfl, by decide, .inl T.g_DepotError⟩ takes0
          (fun W pn xe tk _ => pss_one (ps_set (i := 4) scRf.nd rfl (.inl rfl) (by exact (pe_callS G h6 rfl T.g_law_made T.F_law_made.kp T.b_law_made (fun σ => passAt tk σ) (by exact (pa_cons (pv 0) (pa_cons (pv 1) (pa_cons (pv 2) pa_nil))))))))
          (fun a oe cls d pn hz hf => pss_one (ps_set (i := 3) scRf.nd rfl (.inl rfl) (pe_and (pe_callB (call_isX (excC T) hz hf) (by rfl) T.z_isinstance (by decide +kernel) (pa_cons (pv 5) (pa_cons (pe_glob (v := .ref T.C_BadLoad) rfl T.g_BadLoad rfl) pa_nil)))
            (pe_and (pe_callB (call_isX (excC T) hz hf) (by rfl) T.z_isinstance (by decide +kernel) (pa_cons (pv 5) (pa_cons (pe_bltn (v := .ty "ValueError") (by rfl) T.z_ValueError (by decide +kernel) rfl) pa_nil)))
            (pe_one (pe_not (pe_callB (call_isX (excC T) hz hf) (by rfl) T.z_isinstance (by decide +kernel) (pa_cons (pv 5) (pa_cons (pe_glob (v := .ref T.C_BadRounds) rfl T.g_BadRounds rfl) pa_nil))))))))))
      (pss_one (ps_ret (pv 3)))), ?_⟩
    refine ⟨_, rfl, _, rfl, _, rfl, v, a, l, b, m, ns, ms, rfl, Lx, Mx, gn, gm, v0, v5, fun e => (ne e).elim, fun _ => ⟨true, exmB T, fun _ a0 ha0 => ?_, fun q => Bool.noConfusion q⟩⟩
    refine ⟨_, rfl, rfl, rfl, _, _, true, rfl, fun u r => r, kit_own, true, rfl, iteT ?_⟩
    refine ⟨_, rfl, rfl, rfl, _, _, true, rfl, fun u r => r, kit1 T, true, rfl, iteT ?_⟩
    refine ⟨_, rfl, rfl, rfl, _, _, false, rfl, fun u r => r, kit2 T, false, rfl, ?_⟩
    exact ⟨_, rfl, q⟩
end
end D1

namespace D1
open PySem PySem.Spec PyProof.Rows L2 KO
/-- the places where the first has more -/
def ovr (ns ms : List Int) (j : Nat) : List Int := ((List.range j).filter fun i => decide (ns.getD i 0 > ms.getD i 0)).map fun i : Nat => (i : Int)
theorem ovr_step (ns ms : List Int) (j : Nat) : ovr ns ms (j + 1) = ovr ns ms j ++ (if ns.getD j 0 > ms.getD j 0 then [(j : Int)] else []) := by
  unfold ovr
  rw [List.range_succ, List.filter_append, List.map_append]
  congr 1
  by_cases h : ns.getD j 0 > ms.getD j 0
  · rw [if_pos h]
    simp only [List.filter_cons, decide_eq_true h, if_true, List.filter_nil, List.map_cons, List.map_nil]
  · rw [if_neg h]
    simp only [List.filter_cons, decide_eq_false h, Bool.false_eq_true, if_false, List.filter_nil, List.map_nil]
theorem ovr_len (ns ms : List Int) (j : Nat) : (ovr ns ms j).length ≤ j := by
  unfold ovr
  rw [List.length_map]
  exact Nat.le_trans (List.length_filter_le _ _) (by rw [List.length_range]; exact Nat.le_refl _)
theorem getD_of {ns : List Int} {j : Nat} {n : Int} (h : ns[j]? = some n) : ns.getD j 0 = n := by
  rw [List.getD_eq_getElem?_getD, h]
  rfl
theorem wth_ovr (ns ms : List Int) (e : ns.length = ms.length) : wth ns ms = decide (ovr ns ms ns.length = []) := by
  have iff : wth ns ms = true ↔ ovr ns ms ns.length = [] := by
    unfold wth ovr
    rw [List.all_eq_true, List.map_eq_nil_iff, List.filter_eq_nil_iff]
    constructor
    · intro h i hi
      have hi' := List.mem_range.mp hi
      have hz : (List.zipWith (fun i j : Int => decide (i ≤ j)) ns ms)[i]? = some (decide (ns[i] ≤ ms[i])) := by
        rw [List.getElem?_zipWith, List.getElem?_eq_getElem hi', List.getElem?_eq_getElem (by omega)]
      have := h _ (List.mem_of_getElem? hz)
      have h2 : ns[i] ≤ ms[i] := of_decide_eq_true this
      rw [getD_of (List.getElem?_eq_getElem hi'), getD_of (List.getElem?_eq_getElem (by omega : i < ms.length))]
      simp only [decide_eq_true_eq]
      omega
    · intro h b hb
      obtain ⟨i, hi⟩ := List.getElem?_of_mem hb
      rw [List.getElem?_zipWith] at hi
      cases h1 : ns[i]? with
      | none =>
        rw [h1] at hi
        cases hi
      | some n =>
        cases h2 : ms[i]? with
        | none =>
          rw [h1, h2] at hi
          cases hi
        | some m =>
          rw [h1, h2] at hi
          have e2 : decide (n ≤ m) = b := Option.some.inj hi
          have hlt : i < ns.length := (List.getElem?_eq_some_iff.mp h1).1
          have h3 := h i (List.mem_range.mpr hlt)
          rw [getD_of h1, getD_of h2] at h3
          simp only [decide_eq_true_eq] at h3
          rw [← e2]
          exact decide_eq_true (by omega)
  cases h : wth ns ms with
  | true => exact (decide_eq_true (iff.mp h)).symm
  | false => exact (decide_eq_false fun q => by rw [iff.mpr q] at h; cases h).symm
theorem gw_pos (v i j : Int) (hi : 0 ≤ i) (hj : 0 ≤ j) : 0 ≤ gw v i j := by
  unfold gw
  split
  · unfold gAdd; omega
  · split
    · unfold gSub; split <;> omega
    · split
      · unfold gOr; split <;> omega
      · split
        · unfold gAnd; split <;> omega
        · unfold gXor; split <;> omega
section
variable {P : Program} {w : World} {K : PySem.W.Frag} {mg : Str → Option Value} {base : Heap}
def spSgn (C : Addr) : Sp := fun vs H Q _ => ∃ (a l c b m d : Addr) (ns ms : List Int), vs = [.ref a, .ref c, .ref b, .ref d] ∧ Ld C H a l ns ∧ H c = some (.lst (ns.map V.int)) ∧ Ld C H b m ms ∧ H d = some (.lst (ms.map V.int)) ∧ good ns ∧ good ms ∧ ns.length = ms.length ∧ ∀ H', Same H H' → Q (.bl true) H'
theorem scSgn : FnScope ["_law_one", "_law_first", "_law_two", "_law_second", "_law_way", "_law_due_here", "_law_got", "_law_inside", "_law_k"] ["_law_one", "_law_first", "_law_two", "_law_second"] (defScope sSgn) := ⟨rfl, rfl, rfl, by decide +kernel, rfl, by decide +kernel, by decide +kernel⟩
theorem ok_sgn (T : Tx K mg) : FnOk P w K mg base CX0 8 T.f_law_signs T.d_law_signs ["_law_one", "_law_first", "_law_two", "_law_second"] (spSgn T.C_Load) := by
  have G_due := (ok_due (P := P) (w := w) (base := base) T).mono (k := 7) (by decide)
  have G_made := (ok_made (P := P) (w := w) (base := base) T).mono (k := 7) (by decide)
  have G_isl := (ok_isl (P := P) (w := w) (base := base) T).mono (k := 7) (by decide)
  have Gput := ok_put (P := P) (w := w) (base := base) T
  have GsB := (ok_sameB (P := P) (w := w) (base := base) T).mono (k := 7) (by decide)
  refine T.F_law_signs.ok scSgn (fun vs H Q E h => ?_) (fun cdv A outer s H vs Q E hr h => ?_)
  · obtain ⟨a, l, c, b, m, d, ns, ms, rfl, _⟩ := h
    rfl
  · obtain ⟨a, l, c, b, m, d, ns, ms, rfl, La, hc, Lb, hd, gn, gm, e, q⟩ := h
    have h2 : Room 2 _ := hr.mono (by decide)
    have szn := gn.1.2
    have n1 := gn.1.1
    refine ⟨_, pss_cons (ps_for PassesOwn.never rfl (pi_range1 (by rfl) T.z_range (pa_cons pe_int pa_nil)) (pg_name (i := 4) scSgn.nd rfl (.inl rfl))
        (pss_cons (ps_set (i := 5) scSgn.nd rfl (.inl rfl) (pe_call G_due hr (by rfl) T.g_law_due T.F_law_due.kp T.b_law_due .nil pass0 (pa_cons (pv 4) (pa_cons (pv 1) (pa_cons (pv 3) pa_nil)))))
        (pss_cons (ps_set (i := 6) scSgn.nd rfl (.inl rfl) (pe_call G_made hr (by rfl) T.g_law_made T.F_law_made.kp T.b_law_made .nil passL (pa_cons (pv 4) (pa_cons (pv 0) (pa_cons (pv 2) pa_nil)))))
        (pss_cons (ps_if (pt_not (pt_val (pe_call G_isl hr (by rfl) T.g_law_is_load T.F_law_is_load.kp T.b_law_is_load .nil pass0 (pa_cons (pv 6) (pa_cons (pv 5) pa_nil))))) (pss_one ps_never) pss_nil)
        (pss_cons (ps_expr (pe_meth (pv 6) T.cl_Load T.m_Load_put Gput h2 T.bLoad_put .nil passL (pa_cons pe_int (pa_cons (pe_callTy (T := "int") call_int1 (by rfl) T.z_int (by decide +kernel) (pa_cons (pe_cmpR op_eq (pe_ix ix_list (pv 5) pe_int (fun _ _ => rfl)) pe_int (nomark _)) pa_nil)) pa_nil))))
        (pss_one (ps_if (PW.pt (pw_or (pt_not (pt_val (pe_call G_isl hr (by rfl) T.g_law_is_load T.F_law_is_load.kp T.b_law_is_load .nil pass0 (pa_cons (pv 0) (pa_cons (pv 1) pa_nil))))) (pw_or1 (pt_not (pt_val (pe_call G_isl hr (by rfl) T.g_law_is_load T.F_law_is_load.kp T.b_law_is_load .nil pass0 (pa_cons (pv 2) (pa_cons (pv 3) pa_nil)))))))) (pss_one ps_never) pss_nil)))))))
      (pss_cons (ps_set (i := 7) scSgn.nd rfl (.inl rfl) (pe_cmpR (op_eqD hr.units) (pe_lc (own := [("_law_k", 8)]) (g := gName 8) rfl scSgn.nd (pi_range1 (by rfl) T.z_range (pa_cons (pe_callB call_len_seq (by rfl) T.z_len (by decide +kernel) (pa_cons (pv 1) pa_nil)) pa_nil)) (blkOk_by (own := [("_law_k", 8)]) (N := ["_law_one", "_law_first", "_law_two", "_law_second", "_law_way", "_law_due_here", "_law_got", "_law_inside", "_law_k"]) (sc := defScope sSgn) (by decide +kernel)) (fun _ _ _ _ _ => pg_name (i := 8) scSgn.nd rfl (.inl rfl)) (fun _ _ _ _ _ => pts_one (pt_cmpR op_gt (pe_ix (ix_listK (K := K) rfl) (pv 1) (pv 8) (fun _ _ => rfl)) (pe_ix (ix_listK (K := K) rfl) (pv 3) (pv 8) (fun _ _ => rfl)) (nomark _))) (fun _ _ _ _ _ => (pv 8))) (pe_lst pa_nil) (nomark _)))
      (pss_one (ps_ret (pe_call GsB hr (by rfl) T.g_law_same T.F_law_same.kp T.b_law_same .nil pass0 (pa_cons (pe_call G_made hr (by rfl) T.g_law_made T.F_law_made.kp T.b_law_made .nil passL (pa_cons pe_int (pa_cons (pv 0) (pa_cons (pv 2) pa_nil)))) (pa_cons (pv 7) pa_nil)))))), ?_⟩
    refine ⟨5, rfl, by decide, by decide, for_range (lo := 0) (n := (5 : Int).toNat) (fun _ σ H' => (∃ v4 v5 v6, σ = [some (.ref a), some (.ref c), some (.ref b), some (.ref d), v4, v5, v6, none, none]) ∧ Same H H') ⟨⟨none, none, none, rfl⟩, Same.refl _⟩ ?_ ?_⟩
    · rintro i σ H1 hi ⟨⟨v4, v5, v6, rfl⟩, s1⟩
      have hi5 : i < 5 := hi
      refine ⟨_, rfl, _, rfl, _, rfl, _, c, d, ns, ms, rfl, s1 _ _ hc, s1 _ _ hd, e, szn, fun D H2 nD s2 hD => ?_⟩
      have s12 := s1.trans s2
      refine ⟨_, rfl, _, rfl, _, rfl, _, a, l, b, m, ns, ms, rfl, La.same s12, Lb.same s12, gn, gm, by omega, by omega, fun _ => ⟨fun _ x k H3 s3 nx nk Lx => ?_, fun h => by omega⟩, fun h => (h e).elim⟩
      have s13 := s12.trans s3
      have hD3 := s3 _ _ hD
      have gz : good (List.zipWith (gw (0 + (i : Int))) ns ms) := zip_good (gw_pos _) gn gm e
      refine ⟨_, rfl, _, rfl, x, k, D, _, rfl, Lx, hD3, gz.1.2, _, rfl, iteF ?_⟩
      have in0 : inL (List.zipWith (gw (0 + (i : Int))) ns ms) 0 := ⟨by decide, by have := gz.1.1; omega⟩
      obtain ⟨z0, hz0⟩ := in_get in0
      obtain ⟨dx, hx, hk⟩ := id Lx
      refine ⟨_, rfl, x, dx, _, rfl, hx, rfl, ?_⟩
      refine ⟨_, rfl, D, _, _, _, rfl, rfl, SqL.of hD3, at_of in0 hz0, rfl, .inr ⟨_, rfl, ?_⟩⟩
      refine ⟨x, k, _, 0, _, rfl, Lx, fun _ => ?_, fun h => (h ⟨in0, by split <;> decide⟩).elim⟩
      have nk0 : H k = none := s12.free nk
      have s4 : Same H (upd H3 k (.lst (((List.zipWith (gw (0 + (i : Int))) ns ms).set (0 : Int).toNat (if decide (V.int z0 = V.int 0) = true then 1 else 0)).map V.int))) := Same.put s13 nk0
      refine ⟨_, rfl, _, rfl, a, l, c, ns, rfl, La.same s4, s4 _ _ hc, szn, _, rfl, iteF ?_⟩
      exact ⟨_, rfl, _, rfl, b, m, d, ms, rfl, Lb.same s4, s4 _ _ hd, by omega, _, rfl, iteF ⟨⟨_, _, _, rfl⟩, s4⟩⟩
    · rintro σ H1 ⟨⟨v4, v5, v6, rfl⟩, s1⟩
      refine ⟨_, rfl, c, _, rfl, .inl (SqL.of (s1 _ _ hc)), _, rfl, by omega, by rw [List.length_map]; omega, fun D nD => ?_⟩
      refine lc_range (lo := 0) (n := (((ns.map V.int).length : Nat) : Int).toNat) (fun j H' => Same H1 H' ∧ H' D = some (.lst ((ovr ns ms j).map V.int))) ⟨same_upd nD, upd_same⟩ ?_ ?_
      · rintro j H' hj ⟨sj, hD⟩
        rw [List.length_map] at hj
        have hin : inL ns (0 + (j : Int)) := ⟨by omega, by omega⟩
        have him : inL ms (0 + (j : Int)) := ⟨by omega, by omega⟩
        obtain ⟨n, hn⟩ := in_get hin
        obtain ⟨z, hz⟩ := in_get him
        have ej : (0 + (j : Int)).toNat = j := by omega
        have hn' : ns[j]? = some n := by rw [ej] at hn; exact hn
        have hz' : ms[j]? = some z := by rw [ej] at hz; exact hz
        have st := ovr_step ns ms j
        rw [getD_of hn', getD_of hz'] at st
        refine ⟨rfl, ?_⟩
        refine ⟨_, rfl, _, rfl, c, _, _, _, rfl, rfl, SqL.of (sj _ _ (s1 _ _ hc)), at_of hin hn, _, rfl, _, rfl, d, _, _, _, rfl, rfl, SqL.of (sj _ _ (s1 _ _ hd)), at_of him hz, _, _, rfl, rfl, _, rfl, ?_⟩
        have e0 : (0 : Int) + (j : Int) = (j : Int) := by omega
        refine iteDs (fun h => ?_) (fun h => ?_)
        · refine ⟨_, rfl, _, hD, ?_, Same.put sj nD, ?_⟩
          · rw [List.length_map, sizeLine_eq]
            have := ovr_len ns ms j
            omega
          · rw [upd_same, st, if_pos h, List.map_append, e0]
            rfl
        · refine ⟨sj, ?_⟩
          rw [st, if_neg h, List.append_nil]
          exact hD
      · rintro H' ⟨sj, hD⟩
        refine ⟨Nat.zero_le _, fun em nem => ?_⟩
        have s2 := same_upd (o := .lst []) nem
        rw [List.length_map] at hD
        refine rq_ints (ms := []) (SqL.of (s2 _ _ hD)) (SqL.of upd_same) ?_
        have s3 := (s1.trans sj).trans s2
        refine ⟨_, rfl, _, rfl, 5, a, l, b, m, ns, ms, rfl, La.same s3, Lb.same s3, gn, gm, by decide, by decide, fun _ => ⟨fun h => by omega, fun _ H4 s4 => ?_⟩, fun h => (h e).elim⟩
        refine ⟨_, rfl, wth ns ms, ?_, q _ (s3.trans s4)⟩
        rw [wth_ovr ns ms e]
        rfl
end
end D1

namespace D1
open PySem PySem.Spec PyProof.Rows L2 KO
/-! ### what the signs say of two counts -/
theorem cAdd (x y : Int) : gAdd x y = x + y := rfl
theorem cSub (x y : Int) : (gSub x y = x - y ∧ y < x) ∨ (gSub x y = 0 ∧ x ≤ y) := by
  unfold gSub
  split
  · exact .inl ⟨rfl, by omega⟩
  · exact .inr ⟨rfl, by omega⟩
theorem cOr (x y : Int) : (gOr x y = y ∧ x < y) ∨ (gOr x y = x ∧ y ≤ x) := by
  unfold gOr
  split
  · exact .inl ⟨rfl, by omega⟩
  · exact .inr ⟨rfl, by omega⟩
theorem cAnd (x y : Int) : (gAnd x y = y ∧ y < x) ∨ (gAnd x y = x ∧ x ≤ y) := by
  unfold gAnd
  split
  · exact .inl ⟨rfl, by omega⟩
  · exact .inr ⟨rfl, by omega⟩
theorem cXor (x y : Int) : (gXor x y = y - x ∧ x < y) ∨ (gXor x y = x - y ∧ y ≤ x) := by
  unfold gXor
  split
  · exact .inl ⟨by omega, by omega⟩
  · exact .inr ⟨rfl, by omega⟩
theorem pAdd (x y : Int) (hx : 0 ≤ x) (hy : 0 ≤ y) : 0 ≤ gAdd x y := by have := cAdd x y; omega
theorem pSub (x y : Int) (hx : 0 ≤ x) (hy : 0 ≤ y) : 0 ≤ gSub x y := by have := cSub x y; omega
theorem pOr (x y : Int) (hx : 0 ≤ x) (hy : 0 ≤ y) : 0 ≤ gOr x y := by have := cOr x y; omega
theorem pAnd (x y : Int) (hx : 0 ≤ x) (hy : 0 ≤ y) : 0 ≤ gAnd x y := by have := cAnd x y; omega
theorem pXor (x y : Int) (hx : 0 ≤ x) (hy : 0 ≤ y) : 0 ≤ gXor x y := by have := cXor x y; omega
/-! ### the nineteen rules, of three counts -/
theorem rl_0 (a b c : Int) (ha : 0 ≤ a) (hb : 0 ≤ b) (hc : 0 ≤ c) : (gSub (gAdd a b) b) = a := by
  have hz1 := cAdd a b
  generalize gAdd a b = z1 at *
  have hz2 := cSub z1 b
  generalize gSub z1 b = z2 at *
  omega
theorem rl_1 (a b c : Int) (ha : 0 ≤ a) (hb : 0 ≤ b) (hc : 0 ≤ c) : (gAdd (gSub a b) (gAnd a b)) = a := by
  have hz1 := cSub a b
  generalize gSub a b = z1 at *
  have hz2 := cAnd a b
  generalize gAnd a b = z2 at *
  have hz3 := cAdd z1 z2
  generalize gAdd z1 z2 = z3 at *
  omega
theorem rl_2 (a b c : Int) (ha : 0 ≤ a) (hb : 0 ≤ b) (hc : 0 ≤ c) : (gXor a b) = (gSub (gOr a b) (gAnd a b)) := by
  have hz1 := cXor a b
  generalize gXor a b = z1 at *
  have hz2 := cOr a b
  generalize gOr a b = z2 at *
  have hz3 := cAnd a b
  generalize gAnd a b = z3 at *
  have hz4 := cSub z2 z3
  generalize gSub z2 z3 = z4 at *
  omega
theorem rl_3 (a b c : Int) (ha : 0 ≤ a) (hb : 0 ≤ b) (hc : 0 ≤ c) : (gAdd (gOr a b) (gAnd a b)) = (gAdd a b) := by
  have hz1 := cOr a b
  generalize gOr a b = z1 at *
  have hz2 := cAnd a b
  generalize gAnd a b = z2 at *
  have hz3 := cAdd z1 z2
  generalize gAdd z1 z2 = z3 at *
  have hz4 := cAdd a b
  generalize gAdd a b = z4 at *
  omega
theorem rl_4 (a b c : Int) (ha : 0 ≤ a) (hb : 0 ≤ b) (hc : 0 ≤ c) : (gSub a (gAdd b c)) = (gSub (gSub a b) c) := by
  have hz1 := cAdd b c
  generalize gAdd b c = z1 at *
  have hz2 := cSub a z1
  generalize gSub a z1 = z2 at *
  have hz3 := cSub a b
  generalize gSub a b = z3 at *
  have hz4 := cSub z3 c
  generalize gSub z3 c = z4 at *
  omega
theorem rl_5 (a b c : Int) (ha : 0 ≤ a) (hb : 0 ≤ b) (hc : 0 ≤ c) : (gAnd a (gOr b c)) = (gOr (gAnd a b) (gAnd a c)) := by
  have hz1 := cOr b c
  generalize gOr b c = z1 at *
  have hz2 := cAnd a z1
  generalize gAnd a z1 = z2 at *
  have hz3 := cAnd a b
  generalize gAnd a b = z3 at *
  have hz4 := cAnd a c
  generalize gAnd a c = z4 at *
  have hz5 := cOr z3 z4
  generalize gOr z3 z4 = z5 at *
  omega
theorem rl_6 (a b c : Int) (ha : 0 ≤ a) (hb : 0 ≤ b) (hc : 0 ≤ c) : (gOr a (gAnd b c)) = (gAnd (gOr a b) (gOr a c)) := by
  have hz1 := cAnd b c
  generalize gAnd b c = z1 at *
  have hz2 := cOr a z1
  generalize gOr a z1 = z2 at *
  have hz3 := cOr a b
  generalize gOr a b = z3 at *
  have hz4 := cOr a c
  generalize gOr a c = z4 at *
  have hz5 := cAnd z3 z4
  generalize gAnd z3 z4 = z5 at *
  omega
theorem rl_7 (a b c : Int) (ha : 0 ≤ a) (hb : 0 ≤ b) (hc : 0 ≤ c) : (gAdd (gAdd a b) c) = (gAdd a (gAdd b c)) := by
  have hz1 := cAdd a b
  generalize gAdd a b = z1 at *
  have hz2 := cAdd z1 c
  generalize gAdd z1 c = z2 at *
  have hz3 := cAdd b c
  generalize gAdd b c = z3 at *
  have hz4 := cAdd a z3
  generalize gAdd a z3 = z4 at *
  omega
theorem rl_8 (a b c : Int) (ha : 0 ≤ a) (hb : 0 ≤ b) (hc : 0 ≤ c) : (gAdd a b) = (gAdd b a) := by
  have hz1 := cAdd a b
  generalize gAdd a b = z1 at *
  have hz2 := cAdd b a
  generalize gAdd b a = z2 at *
  omega
theorem rl_9 (a b c : Int) (ha : 0 ≤ a) (hb : 0 ≤ b) (hc : 0 ≤ c) : (gXor a b) = (gXor b a) := by
  have hz1 := cXor a b
  generalize gXor a b = z1 at *
  have hz2 := cXor b a
  generalize gXor b a = z2 at *
  omega
theorem rl_10 (a b c : Int) (ha : 0 ≤ a) (hb : 0 ≤ b) (hc : 0 ≤ c) : (gAdd (gSub a b) b) = (gOr a b) := by
  have hz1 := cSub a b
  generalize gSub a b = z1 at *
  have hz2 := cAdd z1 b
  generalize gAdd z1 b = z2 at *
  have hz3 := cOr a b
  generalize gOr a b = z3 at *
  omega
theorem rl_11 (a b c : Int) (ha : 0 ≤ a) (hb : 0 ≤ b) (hc : 0 ≤ c) : (gAdd (gSub a b) (gSub b a)) = (gXor a b) := by
  have hz1 := cSub a b
  generalize gSub a b = z1 at *
  have hz2 := cSub b a
  generalize gSub b a = z2 at *
  have hz3 := cAdd z1 z2
  generalize gAdd z1 z2 = z3 at *
  have hz4 := cXor a b
  generalize gXor a b = z4 at *
  omega
theorem rl_12 (a b c : Int) (ha : 0 ≤ a) (hb : 0 ≤ b) (hc : 0 ≤ c) : a ≤ (gOr a b) := by
  have hz1 := cOr a b
  generalize gOr a b = z1 at *
  omega
theorem rl_13 (a b c : Int) (ha : 0 ≤ a) (hb : 0 ≤ b) (hc : 0 ≤ c) : (gAnd a b) ≤ b := by
  have hz1 := cAnd a b
  generalize gAnd a b = z1 at *
  omega
theorem rl_14 (a b c : Int) (ha : 0 ≤ a) (hb : 0 ≤ b) (hc : 0 ≤ c) : a ≤ (gAdd a b) := by
  have hz1 := cAdd a b
  generalize gAdd a b = z1 at *
  omega
theorem rl_15 (a b c : Int) (ha : 0 ≤ a) (hb : 0 ≤ b) (hc : 0 ≤ c) : (gSub a b) ≤ a := by
  have hz1 := cSub a b
  generalize gSub a b = z1 at *
  omega
theorem rl_16 (a b c : Int) (ha : 0 ≤ a) (hb : 0 ≤ b) (hc : 0 ≤ c) : (gXor a c) ≤ (gAdd (gXor a b) (gXor b c)) := by
  have hz1 := cXor a c
  generalize gXor a c = z1 at *
  have hz2 := cXor a b
  generalize gXor a b = z2 at *
  have hz3 := cXor b c
  generalize gXor b c = z3 at *
  have hz4 := cAdd z2 z3
  generalize gAdd z2 z3 = z4 at *
  omega
theorem rl_17 (a b c : Int) (ha : 0 ≤ a) (hb : 0 ≤ b) (hc : 0 ≤ c) : (gAnd a b) ≤ (gOr a c) := by
  have hz1 := cAnd a b
  generalize gAnd a b = z1 at *
  have hz2 := cOr a c
  generalize gOr a c = z2 at *
  omega
/-! ### lists by their counts -/
def Tb (n : Nat) (f : Nat → Int) : List Int := (List.range n).map f
theorem Tb_len (n : Nat) (f : Nat → Int) : (Tb n f).length = n := by
  unfold Tb
  rw [List.length_map, List.length_range]
theorem Tb_get {n : Nat} {f : Nat → Int} {i : Nat} (h : i < n) : (Tb n f)[i]? = some (f i) := by
  unfold Tb
  rw [List.getElem?_map, List.getElem?_range h]
  rfl
theorem Tb_mem {n : Nat} {f : Nat → Int} {z : Int} (h : z ∈ Tb n f) : ∃ i, i < n ∧ z = f i := by
  unfold Tb at h
  obtain ⟨i, hi, e⟩ := List.mem_map.mp h
  exact ⟨i, List.mem_range.mp hi, e.symm⟩
theorem Tb_zip (g : Int → Int → Int) (n : Nat) (u v : Nat → Int) : List.zipWith g (Tb n u) (Tb n v) = Tb n (fun i => g (u i) (v i)) := by
  apply List.ext_getElem?
  intro i
  rw [List.getElem?_zipWith]
  by_cases h : i < n
  · rw [Tb_get h, Tb_get h, Tb_get h]
  · have hz : ∀ f : Nat → Int, (Tb n f)[i]? = none := fun f => List.getElem?_eq_none (by rw [Tb_len]; omega)
    rw [hz, hz, hz]
theorem Tb_good {n : Nat} {f : Nat → Int} (n1 : 1 ≤ n) (n60 : n ≤ 60) (p : ∀ i, 0 ≤ f i) : good (Tb n f) := ⟨by rw [Tb_len]; exact ⟨n1, n60⟩, fun z hz => by
  obtain ⟨i, _, rfl⟩ := Tb_mem hz
  exact p i⟩
theorem Tb_of {ns : List Int} (g : good ns) : ∃ f, ns = Tb ns.length f ∧ ∀ i, 0 ≤ f i := by
  refine ⟨fun i => ns.getD i 0, ?_, fun i => ?_⟩
  · apply List.ext_getElem?
    intro i
    by_cases h : i < ns.length
    · rw [Tb_get h, List.getElem?_eq_getElem h, getD_of (List.getElem?_eq_getElem h)]
    · rw [List.getElem?_eq_none (by omega), List.getElem?_eq_none (by rw [Tb_len]; omega)]
  · show 0 ≤ ns.getD i 0
    by_cases h : i < ns.length
    · rw [getD_of (List.getElem?_eq_getElem h)]
      exact g.2 _ (List.getElem_mem h)
    · rw [List.getD_eq_getElem?_getD, List.getElem?_eq_none (by omega)]
      exact Int.le_refl _
section
variable {P : Program} {w : World} {K : PySem.W.Frag} {mg : Str → Option Value} {base : Heap}
theorem tNil_intro {σ : L2.St} {H : Hp} {Q : List V → Hp → Prop} (h : Q [] H) : tNil σ H Q := h
theorem op_readT {C B a l b m : Addr} {n : Nat} {u v : Nat → Int} {g : Int → Int → Int} {H : Hp} {Q : VK} {E : XK} (n1 : 1 ≤ n) (n60 : n ≤ 60) (pg : ∀ x y : Int, 0 ≤ x → 0 ≤ y → 0 ≤ g x y) (L : Ld C H a l (Tb n u)) (M : Ld C H b m (Tb n v)) (pu : ∀ i, 0 ≤ u i) (pv : ∀ i, 0 ≤ v i)
    (q : ∀ x k H', Same H H' → Ld C H' x k (Tb n (fun i => g (u i) (v i))) → Q (.ref x) H') : rBinO C (spBin C B g) E (.ref a) (.ref b) H Q := by
  obtain ⟨dx, ha, h1⟩ := id L
  obtain ⟨dy, hb, h2⟩ := id M
  refine ⟨a, dx, _, b, dy, _, rfl, rfl, ha, hb, a, l, b, m, _, _, rfl, L, M, Tb_good n1 n60 pu, Tb_good n1 n60 pv, fun e x k H' s x0 k0 L' => ⟨x, rfl, ?_⟩, fun h => (h (by rw [Tb_len, Tb_len])).elim⟩
  rw [Tb_zip] at L'
  exact q x k H' s L'
theorem eq_readT {C a l b m : Addr} {n : Nat} {u v : Nat → Int} {H : Hp} {Q : VK} {E : XK} (L : Ld C H a l (Tb n u)) (M : Ld C H b m (Tb n v)) (h : ∀ i, u i = v i) (q : Q (.bl true) H) : rEqO C (spEq C) E (.ref a) (.ref b) H Q := by
  refine eq_read L M ?_
  rw [decide_eq_true (by rw [funext h])]
  exact q
theorem wth_T {n : Nat} {u v : Nat → Int} (h : ∀ i, u i ≤ v i) : wth (Tb n u) (Tb n v) = true := by
  unfold wth
  rw [List.all_eq_true]
  intro b hb
  obtain ⟨i, hi⟩ := List.getElem?_of_mem hb
  rw [List.getElem?_zipWith] at hi
  by_cases hl : i < n
  · rw [Tb_get hl, Tb_get hl] at hi
    have e : decide (u i ≤ v i) = b := Option.some.inj hi
    rw [← e]
    exact decide_eq_true (h i)
  · rw [List.getElem?_eq_none (by rw [Tb_len]; omega)] at hi
    cases hi
theorem wth_read {C B a l b m : Addr} {n : Nat} {u v : Nat → Int} {H : Hp} {Q : VK} {E : XK} (n1 : 1 ≤ n) (n60 : n ≤ 60) (L : Ld C H a l (Tb n u)) (M : Ld C H b m (Tb n v)) (pu : ∀ i, 0 ≤ u i) (pv : ∀ i, 0 ≤ v i)
    (q : ∀ H', Same H H' → Q (.bl (wth (Tb n u) (Tb n v))) H') : spWth C B [.ref a, .ref b] H Q E :=
  ⟨a, l, b, m, _, _, rfl, L, M, Tb_good n1 n60 pu, Tb_good n1 n60 pv, fun _ H' s => q H' s, fun h => (h (by rw [Tb_len, Tb_len])).elim⟩
theorem wth_readT {C B a l b m : Addr} {n : Nat} {u v : Nat → Int} {H : Hp} {Q : VK} {E : XK} (n1 : 1 ≤ n) (n60 : n ≤ 60) (L : Ld C H a l (Tb n u)) (M : Ld C H b m (Tb n v)) (pu : ∀ i, 0 ≤ u i) (pv : ∀ i, 0 ≤ v i) (h : ∀ i, u i ≤ v i)
    (q : ∀ H', Same H H' → Q (.bl true) H') : spWth C B [.ref a, .ref b] H Q E := by
  refine wth_read n1 n60 L M pu pv fun H' s => ?_
  rw [wth_T h]
  exact q H' s
theorem wth_any (n : Nat) (u v : Nat → Int) : wth (Tb n u) (Tb n v) = !(Tb n (fun i => gSub (u i) (v i))).any (fun z => z != 0) := by
  have key : wth (Tb n u) (Tb n v) = true ↔ ∀ i, i < n → u i ≤ v i := by
    unfold wth
    rw [List.all_eq_true]
    constructor
    · intro h i hi
      have hz : (List.zipWith (fun i j : Int => decide (i ≤ j)) (Tb n u) (Tb n v))[i]? = some (decide (u i ≤ v i)) := by
        rw [List.getElem?_zipWith, Tb_get hi, Tb_get hi]
      exact of_decide_eq_true (h _ (List.mem_of_getElem? hz))
    · intro h b hb
      obtain ⟨i, hi⟩ := List.getElem?_of_mem hb
      rw [List.getElem?_zipWith] at hi
      by_cases hl : i < n
      · rw [Tb_get hl, Tb_get hl] at hi
        have e : decide (u i ≤ v i) = b := Option.some.inj hi
        rw [← e]
        exact decide_eq_true (h i hl)
      · rw [List.getElem?_eq_none (by rw [Tb_len]; omega)] at hi
        cases hi
  have key2 : (Tb n (fun i => gSub (u i) (v i))).any (fun z => z != 0) = false ↔ ∀ i, i < n → u i ≤ v i := by
    rw [List.any_eq_false]
    constructor
    · intro h i hi
      have := h _ (List.mem_of_getElem? (Tb_get (f := fun i => gSub (u i) (v i)) hi))
      have h0 : gSub (u i) (v i) = 0 := by simpa using this
      have := cSub (u i) (v i)
      omega
    · intro h z hz
      obtain ⟨i, hi, rfl⟩ := Tb_mem hz
      have := cSub (u i) (v i)
      have := h i hi
      have h0 : gSub (u i) (v i) = 0 := by omega
      simp [h0]
  cases h : (Tb n (fun i => gSub (u i) (v i))).any (fun z => z != 0) with
  | false => exact key.mpr (key2.mp h)
  | true =>
    cases h2 : wth (Tb n u) (Tb n v) with
    | false => rfl
    | true =>
      rw [key2.mpr (key.mp h2)] at h
      cases h
def spRul (C : Addr) : Sp := fun vs H Q _ => ∃ (a l b m c k : Addr) (n : Nat) (u v r : Nat → Int), vs = [.ref a, .ref b, .ref c] ∧ Ld C H a l (Tb n u) ∧ Ld C H b m (Tb n v) ∧ Ld C H c k (Tb n r) ∧ 1 ≤ n ∧ n ≤ 60 ∧ (∀ i, 0 ≤ u i) ∧ (∀ i, 0 ≤ v i) ∧ (∀ i, 0 ≤ r i) ∧ ∀ H', Same H H' → Q (.bl true) H'
theorem scRul : FnScope ["_law_one", "_law_two", "_law_three", "_law_found", "_law_told"] ["_law_one", "_law_two", "_law_three"] (defScope sRul) := ⟨rfl, rfl, rfl, by decide +kernel, rfl, by decide +kernel, by decide +kernel⟩
theorem ok_rul (T : Tx K mg) : FnOk P w K mg base CX0 8 T.f_law_rules T.d_law_rules ["_law_one", "_law_two", "_law_three"] (spRul T.C_Load) := by
  have Gadd := ok_add (P := P) (w := w) (base := base) T
  have Gsub := ok_sub (P := P) (w := w) (base := base) T
  have Gor := ok_or (P := P) (w := w) (base := base) T
  have Gand := ok_and (P := P) (w := w) (base := base) T
  have Gxor := ok_xor (P := P) (w := w) (base := base) T
  have Gw := ok_within (P := P) (w := w) (base := base) T
  have Geq := ok_eq (P := P) (w := w) (base := base) T
  have Gboo := ok_boo (P := P) (w := w) (base := base) T
  have GsB := (ok_sameB (P := P) (w := w) (base := base) T).mono (k := 7) (by decide)
  refine T.F_law_rules.ok scRul (fun vs H Q E h => ?_) (fun cdv A outer s H vs Q E hr h => ?_)
  · obtain ⟨a, l, b, m, c, k, n, u, v, r, rfl, _⟩ := h
    rfl
  · obtain ⟨a, l, b, m, c, k, n, u, v, r, rfl, LA, LB, LC, n1, n60, pA, pB, pC, q⟩ := h
    have h1 : Room 1 _ := hr.mono (by decide)
    have h3 : Room 3 _ := hr.mono (by decide)
    have h4 : Room 4 _ := hr.mono (by decide)
    have sAll : Same H H := Same.refl _
    refine ⟨_, pss_cons (ps_set (i := 3) scRul.nd rfl (.inl rfl) (pe_lst (pa_cons (pe_cmpR (eq_own T.m_Load_eq Geq h1 T.bLoad_eq (fun σ => at0)) (pe_op (bin_own (E := E0) (name := "__sub__") (by decide +kernel) T.m_Load_sub T.sf_Load Gsub h4 T.bLoad_sub (fun σ => atL)) (pe_op (bin_own (E := E0) (name := "__add__") (by decide +kernel) T.m_Load_add T.sf_Load Gadd h4 T.bLoad_add (fun σ => atL)) (pv 0) (pv 1)) (pv 1)) (pv 0) (nomark _)) (pa_cons (pe_cmpR (eq_own T.m_Load_eq Geq h1 T.bLoad_eq (fun σ => at0)) (pe_op (bin_own (E := E0) (name := "__add__") (by decide +kernel) T.m_Load_add T.sf_Load Gadd h4 T.bLoad_add (fun σ => atL)) (pe_op (bin_own (E := E0) (name := "__sub__") (by decide +kernel) T.m_Load_sub T.sf_Load Gsub h4 T.bLoad_sub (fun σ => atL)) (pv 0) (pv 1)) (pe_op (bin_own (E := E0) (name := "__and__") (by decide +kernel) T.m_Load_and T.sf_Load Gand h4 T.bLoad_and (fun σ => atL)) (pv 0) (pv 1))) (pv 0) (nomark _)) (pa_cons (pe_cmpR (eq_own T.m_Load_eq Geq h1 T.bLoad_eq (fun σ => at0)) (pe_op (bin_own (E := E0) (name := "__xor__") (by decide +kernel) T.m_Load_xor T.sf_Load Gxor h4 T.bLoad_xor (fun σ => atL)) (pv 0) (pv 1)) (pe_op (bin_own (E := E0) (name := "__sub__") (by decide +kernel) T.m_Load_sub T.sf_Load Gsub h4 T.bLoad_sub (fun σ => atL)) (pe_op (bin_own (E := E0) (name := "__or__") (by decide +kernel) T.m_Load_or T.sf_Load Gor h4 T.bLoad_or (fun σ => atL)) (pv 0) (pv 1)) (pe_op (bin_own (E := E0) (name := "__and__") (by decide +kernel) T.m_Load_and T.sf_Load Gand h4 T.bLoad_and (fun σ => atL)) (pv 0) (pv 1))) (nomark _)) pa_nil)))))
      (pss_cons (ps_set (i := 3) scRul.nd rfl (.inl rfl) (pe_op op_cat (pv 3) (pe_lst (pa_cons (pe_cmpR (eq_own T.m_Load_eq Geq h1 T.bLoad_eq (fun σ => at0)) (pe_op (bin_own (E := E0) (name := "__add__") (by decide +kernel) T.m_Load_add T.sf_Load Gadd h4 T.bLoad_add (fun σ => atL)) (pe_op (bin_own (E := E0) (name := "__or__") (by decide +kernel) T.m_Load_or T.sf_Load Gor h4 T.bLoad_or (fun σ => atL)) (pv 0) (pv 1)) (pe_op (bin_own (E := E0) (name := "__and__") (by decide +kernel) T.m_Load_and T.sf_Load Gand h4 T.bLoad_and (fun σ => atL)) (pv 0) (pv 1))) (pe_op (bin_own (E := E0) (name := "__add__") (by decide +kernel) T.m_Load_add T.sf_Load Gadd h4 T.bLoad_add (fun σ => atL)) (pv 0) (pv 1)) (nomark _)) (pa_cons (pe_cmpR (eq_own T.m_Load_eq Geq h1 T.bLoad_eq (fun σ => at0)) (pe_op (bin_own (E := E0) (name := "__sub__") (by decide +kernel) T.m_Load_sub T.sf_Load Gsub h4 T.bLoad_sub (fun σ => atL)) (pv 0) (pe_op (bin_own (E := E0) (name := "__add__") (by decide +kernel) T.m_Load_add T.sf_Load Gadd h4 T.bLoad_add (fun σ => atL)) (pv 1) (pv 2))) (pe_op (bin_own (E := E0) (name := "__sub__") (by decide +kernel) T.m_Load_sub T.sf_Load Gsub h4 T.bLoad_sub (fun σ => atL)) (pe_op (bin_own (E := E0) (name := "__sub__") (by decide +kernel) T.m_Load_sub T.sf_Load Gsub h4 T.bLoad_sub (fun σ => atL)) (pv 0) (pv 1)) (pv 2)) (nomark _)) pa_nil)))))
      (pss_cons (ps_set (i := 3) scRul.nd rfl (.inl rfl) (pe_op op_cat (pv 3) (pe_lst (pa_cons (pe_cmpR (eq_own T.m_Load_eq Geq h1 T.bLoad_eq (fun σ => at0)) (pe_op (bin_own (E := E0) (name := "__and__") (by decide +kernel) T.m_Load_and T.sf_Load Gand h4 T.bLoad_and (fun σ => atL)) (pv 0) (pe_op (bin_own (E := E0) (name := "__or__") (by decide +kernel) T.m_Load_or T.sf_Load Gor h4 T.bLoad_or (fun σ => atL)) (pv 1) (pv 2))) (pe_op (bin_own (E := E0) (name := "__or__") (by decide +kernel) T.m_Load_or T.sf_Load Gor h4 T.bLoad_or (fun σ => atL)) (pe_op (bin_own (E := E0) (name := "__and__") (by decide +kernel) T.m_Load_and T.sf_Load Gand h4 T.bLoad_and (fun σ => atL)) (pv 0) (pv 1)) (pe_op (bin_own (E := E0) (name := "__and__") (by decide +kernel) T.m_Load_and T.sf_Load Gand h4 T.bLoad_and (fun σ => atL)) (pv 0) (pv 2))) (nomark _)) pa_nil))))
      (pss_cons (ps_set (i := 3) scRul.nd rfl (.inl rfl) (pe_op op_cat (pv 3) (pe_lst (pa_cons (pe_cmpR (eq_own T.m_Load_eq Geq h1 T.bLoad_eq (fun σ => at0)) (pe_op (bin_own (E := E0) (name := "__or__") (by decide +kernel) T.m_Load_or T.sf_Load Gor h4 T.bLoad_or (fun σ => atL)) (pv 0) (pe_op (bin_own (E := E0) (name := "__and__") (by decide +kernel) T.m_Load_and T.sf_Load Gand h4 T.bLoad_and (fun σ => atL)) (pv 1) (pv 2))) (pe_op (bin_own (E := E0) (name := "__and__") (by decide +kernel) T.m_Load_and T.sf_Load Gand h4 T.bLoad_and (fun σ => atL)) (pe_op (bin_own (E := E0) (name := "__or__") (by decide +kernel) T.m_Load_or T.sf_Load Gor h4 T.bLoad_or (fun σ => atL)) (pv 0) (pv 1)) (pe_op (bin_own (E := E0) (name := "__or__") (by decide +kernel) T.m_Load_or T.sf_Load Gor h4 T.bLoad_or (fun σ => atL)) (pv 0) (pv 2))) (nomark _)) pa_nil))))
      (pss_cons (ps_set (i := 3) scRul.nd rfl (.inl rfl) (pe_op op_cat (pv 3) (pe_lst (pa_cons (pe_cmpR (eq_own T.m_Load_eq Geq h1 T.bLoad_eq (fun σ => at0)) (pe_op (bin_own (E := E0) (name := "__add__") (by decide +kernel) T.m_Load_add T.sf_Load Gadd h4 T.bLoad_add (fun σ => atL)) (pe_op (bin_own (E := E0) (name := "__add__") (by decide +kernel) T.m_Load_add T.sf_Load Gadd h4 T.bLoad_add (fun σ => atL)) (pv 0) (pv 1)) (pv 2)) (pe_op (bin_own (E := E0) (name := "__add__") (by decide +kernel) T.m_Load_add T.sf_Load Gadd h4 T.bLoad_add (fun σ => atL)) (pv 0) (pe_op (bin_own (E := E0) (name := "__add__") (by decide +kernel) T.m_Load_add T.sf_Load Gadd h4 T.bLoad_add (fun σ => atL)) (pv 1) (pv 2))) (nomark _)) (pa_cons (pe_cmpR (eq_own T.m_Load_eq Geq h1 T.bLoad_eq (fun σ => at0)) (pe_op (bin_own (E := E0) (name := "__add__") (by decide +kernel) T.m_Load_add T.sf_Load Gadd h4 T.bLoad_add (fun σ => atL)) (pv 0) (pv 1)) (pe_op (bin_own (E := E0) (name := "__add__") (by decide +kernel) T.m_Load_add T.sf_Load Gadd h4 T.bLoad_add (fun σ => atL)) (pv 1) (pv 0)) (nomark _)) (pa_cons (pe_cmpR (eq_own T.m_Load_eq Geq h1 T.bLoad_eq (fun σ => at0)) (pe_op (bin_own (E := E0) (name := "__xor__") (by decide +kernel) T.m_Load_xor T.sf_Load Gxor h4 T.bLoad_xor (fun σ => atL)) (pv 0) (pv 1)) (pe_op (bin_own (E := E0) (name := "__xor__") (by decide +kernel) T.m_Load_xor T.sf_Load Gxor h4 T.bLoad_xor (fun σ => atL)) (pv 1) (pv 0)) (nomark _)) pa_nil))))))
      (pss_cons (ps_set (i := 3) scRul.nd rfl (.inl rfl) (pe_op op_cat (pv 3) (pe_lst (pa_cons (pe_cmpR (eq_own T.m_Load_eq Geq h1 T.bLoad_eq (fun σ => at0)) (pe_op (bin_own (E := E0) (name := "__add__") (by decide +kernel) T.m_Load_add T.sf_Load Gadd h4 T.bLoad_add (fun σ => atL)) (pe_op (bin_own (E := E0) (name := "__sub__") (by decide +kernel) T.m_Load_sub T.sf_Load Gsub h4 T.bLoad_sub (fun σ => atL)) (pv 0) (pv 1)) (pv 1)) (pe_op (bin_own (E := E0) (name := "__or__") (by decide +kernel) T.m_Load_or T.sf_Load Gor h4 T.bLoad_or (fun σ => atL)) (pv 0) (pv 1)) (nomark _)) (pa_cons (pe_cmpR (eq_own T.m_Load_eq Geq h1 T.bLoad_eq (fun σ => at0)) (pe_op (bin_own (E := E0) (name := "__add__") (by decide +kernel) T.m_Load_add T.sf_Load Gadd h4 T.bLoad_add (fun σ => atL)) (pe_op (bin_own (E := E0) (name := "__sub__") (by decide +kernel) T.m_Load_sub T.sf_Load Gsub h4 T.bLoad_sub (fun σ => atL)) (pv 0) (pv 1)) (pe_op (bin_own (E := E0) (name := "__sub__") (by decide +kernel) T.m_Load_sub T.sf_Load Gsub h4 T.bLoad_sub (fun σ => atL)) (pv 1) (pv 0))) (pe_op (bin_own (E := E0) (name := "__xor__") (by decide +kernel) T.m_Load_xor T.sf_Load Gxor h4 T.bLoad_xor (fun σ => atL)) (pv 0) (pv 1)) (nomark _)) pa_nil)))))
      (pss_cons (ps_set (i := 3) scRul.nd rfl (.inl rfl) (pe_op op_cat (pv 3) (pe_lst (pa_cons (pe_meth (pv 0) T.cl_Load T.m_Load_within Gw h4 T.bLoad_within .nil passL (pa_cons (pe_op (bin_own (E := E0) (name := "__or__") (by decide +kernel) T.m_Load_or T.sf_Load Gor h4 T.bLoad_or (fun σ => atL)) (pv 0) (pv 1)) pa_nil)) (pa_cons (pe_meth (pe_op (bin_own (E := E0) (name := "__and__") (by decide +kernel) T.m_Load_and T.sf_Load Gand h4 T.bLoad_and (fun σ => atL)) (pv 0) (pv 1)) T.cl_Load T.m_Load_within Gw h4 T.bLoad_within .nil passL (pa_cons (pv 1) pa_nil)) (pa_cons (pe_meth (pv 0) T.cl_Load T.m_Load_within Gw h4 T.bLoad_within .nil passL (pa_cons (pe_op (bin_own (E := E0) (name := "__add__") (by decide +kernel) T.m_Load_add T.sf_Load Gadd h4 T.bLoad_add (fun σ => atL)) (pv 0) (pv 1)) pa_nil)) (pa_cons (pe_meth (pe_op (bin_own (E := E0) (name := "__sub__") (by decide +kernel) T.m_Load_sub T.sf_Load Gsub h4 T.bLoad_sub (fun σ => atL)) (pv 0) (pv 1)) T.cl_Load T.m_Load_within Gw h4 T.bLoad_within .nil passL (pa_cons (pv 0) pa_nil)) pa_nil)))))))
      (pss_cons (ps_set (i := 3) scRul.nd rfl (.inl rfl) (pe_op op_cat (pv 3) (pe_lst (pa_cons (pe_meth (pe_op (bin_own (E := E0) (name := "__xor__") (by decide +kernel) T.m_Load_xor T.sf_Load Gxor h4 T.bLoad_xor (fun σ => atL)) (pv 0) (pv 2)) T.cl_Load T.m_Load_within Gw h4 T.bLoad_within .nil passL (pa_cons (pe_op (bin_own (E := E0) (name := "__add__") (by decide +kernel) T.m_Load_add T.sf_Load Gadd h4 T.bLoad_add (fun σ => atL)) (pe_op (bin_own (E := E0) (name := "__xor__") (by decide +kernel) T.m_Load_xor T.sf_Load Gxor h4 T.bLoad_xor (fun σ => atL)) (pv 0) (pv 1)) (pe_op (bin_own (E := E0) (name := "__xor__") (by decide +kernel) T.m_Load_xor T.sf_Load Gxor h4 T.bLoad_xor (fun σ => atL)) (pv 1) (pv 2))) pa_nil)) (pa_cons (pe_meth (pe_op (bin_own (E := E0) (name := "__and__") (by decide +kernel) T.m_Load_and T.sf_Load Gand h4 T.bLoad_and (fun σ => atL)) (pv 0) (pv 1)) T.cl_Load T.m_Load_within Gw h4 T.bLoad_within .nil passL (pa_cons (pe_op (bin_own (E := E0) (name := "__or__") (by decide +kernel) T.m_Load_or T.sf_Load Gor h4 T.bLoad_or (fun σ => atL)) (pv 0) (pv 2)) pa_nil)) pa_nil)))))
      (pss_cons (ps_set (i := 3) scRul.nd rfl (.inl rfl) (pe_op op_cat (pv 3) (pe_lst (pa_cons (pe_cmpR op_eq (pe_meth (pv 0) T.cl_Load T.m_Load_within Gw h4 T.bLoad_within .nil passL (pa_cons (pv 1) pa_nil)) (pe_not (pe_callTy (T := "bool") (bool_own T.m_Load_bool Gboo h3 T.bLoad_bool (fun σ => at0)) (by rfl) T.z_bool (by decide +kernel) (pa_cons (pe_op (bin_own (E := E0) (name := "__sub__") (by decide +kernel) T.m_Load_sub T.sf_Load Gsub h4 T.bLoad_sub (fun σ => atL)) (pv 0) (pv 1)) pa_nil))) (nomark _)) pa_nil))))
      (pss_one (ps_ret (pe_cmpR (op_eqD hr.units) (pe_lc (own := [("_law_told", 4)]) (g := gName 4) rfl scRul.nd (pi_list (pv 3)) (blkOk_by (own := [("_law_told", 4)]) (N := ["_law_one", "_law_two", "_law_three", "_law_found", "_law_told"]) (sc := defScope sRul) (by decide +kernel)) (fun _ _ _ _ _ => pg_name (i := 4) scRul.nd rfl (.inl rfl)) (fun _ _ _ _ _ => pts_one (pt_not (pt_val (pe_call GsB hr (by rfl) T.g_law_same T.F_law_same.kp T.b_law_same .nil pass0 (pa_cons (pv 4) (pa_cons pe_bl pa_nil)))))) (fun _ _ _ _ _ => (pv 4))) (pe_lst pa_nil) (nomark _)))))))))))), ?_⟩
    refine ⟨_, rfl, ?_⟩
    refine ⟨_, rfl, ?_⟩
    refine op_readT n1 n60 (pAdd) LA LB pA pB fun x1 k1 H1 s1 L1 => ?_
    have p1 := fun i => pAdd _ _ (pA i) (pB i)
    have LA := LA.same s1
    have LB := LB.same s1
    have LC := LC.same s1
    have sAll := sAll.trans s1
    refine ⟨_, rfl, ?_⟩
    refine op_readT n1 n60 (pSub) L1 LB p1 pB fun x2 k2 H2 s2 L2 => ?_
    have p2 := fun i => pSub _ _ (p1 i) (pB i)
    have LA := LA.same s2
    have LB := LB.same s2
    have LC := LC.same s2
    have sAll := sAll.trans s2
    refine ⟨_, rfl, ?_⟩
    refine eq_readT L2 LA (fun i => rl_0 _ _ _ (pA i) (pB i) (pC i)) ?_
    refine ⟨_, rfl, ?_⟩
    refine ⟨_, rfl, ?_⟩
    refine op_readT n1 n60 (pSub) LA LB pA pB fun x3 k3 H3 s3 L3 => ?_
    have p3 := fun i => pSub _ _ (pA i) (pB i)
    have LA := LA.same s3
    have LB := LB.same s3
    have LC := LC.same s3
    have sAll := sAll.trans s3
    refine ⟨_, rfl, ?_⟩
    refine ⟨_, rfl, ?_⟩
    refine op_readT n1 n60 (pAnd) LA LB pA pB fun x4 k4 H4 s4 L4 => ?_
    have p4 := fun i => pAnd _ _ (pA i) (pB i)
    have LA := LA.same s4
    have LB := LB.same s4
    have LC := LC.same s4
    have L3 := L3.same s4
    have sAll := sAll.trans s4
    refine op_readT n1 n60 (pAdd) L3 L4 p3 p4 fun x5 k5 H5 s5 L5 => ?_
    have p5 := fun i => pAdd _ _ (p3 i) (p4 i)
    have LA := LA.same s5
    have LB := LB.same s5
    have LC := LC.same s5
    have sAll := sAll.trans s5
    refine ⟨_, rfl, ?_⟩
    refine eq_readT L5 LA (fun i => rl_1 _ _ _ (pA i) (pB i) (pC i)) ?_
    refine ⟨_, rfl, ?_⟩
    refine ⟨_, rfl, ?_⟩
    refine op_readT n1 n60 (pXor) LA LB pA pB fun x6 k6 H6 s6 L6 => ?_
    have p6 := fun i => pXor _ _ (pA i) (pB i)
    have LA := LA.same s6
    have LB := LB.same s6
    have LC := LC.same s6
    have sAll := sAll.trans s6
    refine ⟨_, rfl, ?_⟩
    refine ⟨_, rfl, ?_⟩
    refine op_readT n1 n60 (pOr) LA LB pA pB fun x7 k7 H7 s7 L7 => ?_
    have p7 := fun i => pOr _ _ (pA i) (pB i)
    have LA := LA.same s7
    have LB := LB.same s7
    have LC := LC.same s7
    have L6 := L6.same s7
    have sAll := sAll.trans s7
    refine ⟨_, rfl, ?_⟩
    refine ⟨_, rfl, ?_⟩
    refine op_readT n1 n60 (pAnd) LA LB pA pB fun x8 k8 H8 s8 L8 => ?_
    have p8 := fun i => pAnd _ _ (pA i) (pB i)
    have LA := LA.same s8
    have LB := LB.same s8
    have LC := LC.same s8
    have L6 := L6.same s8
    have L7 := L7.same s8
    have sAll := sAll.trans s8
    refine op_readT n1 n60 (pSub) L7 L8 p7 p8 fun x9 k9 H9 s9 L9 => ?_
    have p9 := fun i => pSub _ _ (p7 i) (p8 i)
    have LA := LA.same s9
    have LB := LB.same s9
    have LC := LC.same s9
    have L6 := L6.same s9
    have sAll := sAll.trans s9
    refine eq_readT L6 L9 (fun i => rl_2 _ _ _ (pA i) (pB i) (pC i)) ?_
    refine ⟨(by show 3 ≤ sizeLine; rw [sizeLine_eq]; decide), fun e10 ne10 => ?_⟩
    have s10 := same_upd (o := .lst (List.replicate 3 (V.bl true))) ne10
    have hF := (show (upd H9 e10 (.lst (List.replicate 3 (V.bl true)))) e10 = some (.lst (List.replicate 3 (V.bl true))) from upd_same)
    have LA := LA.same s10
    have LB := LB.same s10
    have LC := LC.same s10
    have sAll := sAll.trans s10
    refine ⟨_, rfl, ?_⟩
    refine ⟨_, rfl, ?_⟩
    refine ⟨_, rfl, ?_⟩
    refine op_readT n1 n60 (pOr) LA LB pA pB fun x11 k11 H11 s11 L11 => ?_
    have p11 := fun i => pOr _ _ (pA i) (pB i)
    have LA := LA.same s11
    have LB := LB.same s11
    have LC := LC.same s11
    have hF := s11 _ _ hF
    have sAll := sAll.trans s11
    refine ⟨_, rfl, ?_⟩
    refine ⟨_, rfl, ?_⟩
    refine op_readT n1 n60 (pAnd) LA LB pA pB fun x12 k12 H12 s12 L12 => ?_
    have p12 := fun i => pAnd _ _ (pA i) (pB i)
    have LA := LA.same s12
    have LB := LB.same s12
    have LC := LC.same s12
    have L11 := L11.same s12
    have hF := s12 _ _ hF
    have sAll := sAll.trans s12
    refine op_readT n1 n60 (pAdd) L11 L12 p11 p12 fun x13 k13 H13 s13 L13 => ?_
    have p13 := fun i => pAdd _ _ (p11 i) (p12 i)
    have LA := LA.same s13
    have LB := LB.same s13
    have LC := LC.same s13
    have hF := s13 _ _ hF
    have sAll := sAll.trans s13
    refine ⟨_, rfl, ?_⟩
    refine ⟨_, rfl, ?_⟩
    refine op_readT n1 n60 (pAdd) LA LB pA pB fun x14 k14 H14 s14 L14 => ?_
    have p14 := fun i => pAdd _ _ (pA i) (pB i)
    have LA := LA.same s14
    have LB := LB.same s14
    have LC := LC.same s14
    have L13 := L13.same s14
    have hF := s14 _ _ hF
    have sAll := sAll.trans s14
    refine eq_readT L13 L14 (fun i => rl_3 _ _ _ (pA i) (pB i) (pC i)) ?_
    refine ⟨_, rfl, ?_⟩
    refine ⟨_, rfl, ?_⟩
    refine ⟨_, rfl, ?_⟩
    refine op_readT n1 n60 (pAdd) LB LC pB pC fun x15 k15 H15 s15 L15 => ?_
    have p15 := fun i => pAdd _ _ (pB i) (pC i)
    have LA := LA.same s15
    have LB := LB.same s15
    have LC := LC.same s15
    have hF := s15 _ _ hF
    have sAll := sAll.trans s15
    refine op_readT n1 n60 (pSub) LA L15 pA p15 fun x16 k16 H16 s16 L16 => ?_
    have p16 := fun i => pSub _ _ (pA i) (p15 i)
    have LA := LA.same s16
    have LB := LB.same s16
    have LC := LC.same s16
    have hF := s16 _ _ hF
    have sAll := sAll.trans s16
    refine ⟨_, rfl, ?_⟩
    refine ⟨_, rfl, ?_⟩
    refine op_readT n1 n60 (pSub) LA LB pA pB fun x17 k17 H17 s17 L17 => ?_
    have p17 := fun i => pSub _ _ (pA i) (pB i)
    have LA := LA.same s17
    have LB := LB.same s17
    have LC := LC.same s17
    have L16 := L16.same s17
    have hF := s17 _ _ hF
    have sAll := sAll.trans s17
    refine ⟨_, rfl, ?_⟩
    refine op_readT n1 n60 (pSub) L17 LC p17 pC fun x18 k18 H18 s18 L18 => ?_
    have p18 := fun i => pSub _ _ (p17 i) (pC i)
    have LA := LA.same s18
    have LB := LB.same s18
    have LC := LC.same s18
    have L16 := L16.same s18
    have hF := s18 _ _ hF
    have sAll := sAll.trans s18
    refine eq_readT L16 L18 (fun i => rl_4 _ _ _ (pA i) (pB i) (pC i)) ?_
    refine ⟨(by show 2 ≤ sizeLine; rw [sizeLine_eq]; decide), fun e19 ne19 => ?_⟩
    have s19 := same_upd (o := .lst (List.replicate 2 (V.bl true))) ne19
    refine ⟨_, e19, List.replicate 3 (V.bl true), List.replicate 2 (V.bl true), rfl, rfl, s19 _ _ hF, upd_same, (by rw [sizeLine_eq]; decide), fun g19 ng19 => ?_⟩
    have t19 := same_upd (o := .lst (List.replicate 3 (V.bl true) ++ List.replicate 2 (V.bl true))) ng19
    have hF := (show (upd (upd H18 e19 (.lst (List.replicate 2 (V.bl true)))) g19 (.lst (List.replicate 3 (V.bl true) ++ List.replicate 2 (V.bl true)))) g19 = some (.lst (List.replicate 5 (V.bl true))) from upd_same)
    have LA := LA.same s19
    have LB := LB.same s19
    have LC := LC.same s19
    have sAll := sAll.trans s19
    have LA := LA.same t19
    have LB := LB.same t19
    have LC := LC.same t19
    have sAll := sAll.trans t19
    refine ⟨_, rfl, ?_⟩
    refine ⟨_, rfl, ?_⟩
    refine ⟨_, rfl, ?_⟩
    refine ⟨_, rfl, ?_⟩
    refine op_readT n1 n60 (pOr) LB LC pB pC fun x20 k20 H20 s20 L20 => ?_
    have p20 := fun i => pOr _ _ (pB i) (pC i)
    have LA := LA.same s20
    have LB := LB.same s20
    have LC := LC.same s20
    have hF := s20 _ _ hF
    have sAll := sAll.trans s20
    refine op_readT n1 n60 (pAnd) LA L20 pA p20 fun x21 k21 H21 s21 L21 => ?_
    have p21 := fun i => pAnd _ _ (pA i) (p20 i)
    have LA := LA.same s21
    have LB := LB.same s21
    have LC := LC.same s21
    have hF := s21 _ _ hF
    have sAll := sAll.trans s21
    refine ⟨_, rfl, ?_⟩
    refine ⟨_, rfl, ?_⟩
    refine op_readT n1 n60 (pAnd) LA LB pA pB fun x22 k22 H22 s22 L22 => ?_
    have p22 := fun i => pAnd _ _ (pA i) (pB i)
    have LA := LA.same s22
    have LB := LB.same s22
    have LC := LC.same s22
    have L21 := L21.same s22
    have hF := s22 _ _ hF
    have sAll := sAll.trans s22
    refine ⟨_, rfl, ?_⟩
    refine ⟨_, rfl, ?_⟩
    refine op_readT n1 n60 (pAnd) LA LC pA pC fun x23 k23 H23 s23 L23 => ?_
    have p23 := fun i => pAnd _ _ (pA i) (pC i)
    have LA := LA.same s23
    have LB := LB.same s23
    have LC := LC.same s23
    have L21 := L21.same s23
    have L22 := L22.same s23
    have hF := s23 _ _ hF
    have sAll := sAll.trans s23
    refine op_readT n1 n60 (pOr) L22 L23 p22 p23 fun x24 k24 H24 s24 L24 => ?_
    have p24 := fun i => pOr _ _ (p22 i) (p23 i)
    have LA := LA.same s24
    have LB := LB.same s24
    have LC := LC.same s24
    have L21 := L21.same s24
    have hF := s24 _ _ hF
    have sAll := sAll.trans s24
    refine eq_readT L21 L24 (fun i => rl_5 _ _ _ (pA i) (pB i) (pC i)) ?_
    refine ⟨(by show 1 ≤ sizeLine; rw [sizeLine_eq]; decide), fun e25 ne25 => ?_⟩
    have s25 := same_upd (o := .lst (List.replicate 1 (V.bl true))) ne25
    refine ⟨_, e25, List.replicate 5 (V.bl true), List.replicate 1 (V.bl true), rfl, rfl, s25 _ _ hF, upd_same, (by rw [sizeLine_eq]; decide), fun g25 ng25 => ?_⟩
    have t25 := same_upd (o := .lst (List.replicate 5 (V.bl true) ++ List.replicate 1 (V.bl true))) ng25
    have hF := (show (upd (upd H24 e25 (.lst (List.replicate 1 (V.bl true)))) g25 (.lst (List.replicate 5 (V.bl true) ++ List.replicate 1 (V.bl true)))) g25 = some (.lst (List.replicate 6 (V.bl true))) from upd_same)
    have LA := LA.same s25
    have LB := LB.same s25
    have LC := LC.same s25
    have sAll := sAll.trans s25
    have LA := LA.same t25
    have LB := LB.same t25
    have LC := LC.same t25
    have sAll := sAll.trans t25
    refine ⟨_, rfl, ?_⟩
    refine ⟨_, rfl, ?_⟩
    refine ⟨_, rfl, ?_⟩
    refine ⟨_, rfl, ?_⟩
    refine op_readT n1 n60 (pAnd) LB LC pB pC fun x26 k26 H26 s26 L26 => ?_
    have p26 := fun i => pAnd _ _ (pB i) (pC i)
    have LA := LA.same s26
    have LB := LB.same s26
    have LC := LC.same s26
    have hF := s26 _ _ hF
    have sAll := sAll.trans s26
    refine op_readT n1 n60 (pOr) LA L26 pA p26 fun x27 k27 H27 s27 L27 => ?_
    have p27 := fun i => pOr _ _ (pA i) (p26 i)
    have LA := LA.same s27
    have LB := LB.same s27
    have LC := LC.same s27
    have hF := s27 _ _ hF
    have sAll := sAll.trans s27
    refine ⟨_, rfl, ?_⟩
    refine ⟨_, rfl, ?_⟩
    refine op_readT n1 n60 (pOr) LA LB pA pB fun x28 k28 H28 s28 L28 => ?_
    have p28 := fun i => pOr _ _ (pA i) (pB i)
    have LA := LA.same s28
    have LB := LB.same s28
    have LC := LC.same s28
    have L27 := L27.same s28
    have hF := s28 _ _ hF
    have sAll := sAll.trans s28
    refine ⟨_, rfl, ?_⟩
    refine ⟨_, rfl, ?_⟩
    refine op_readT n1 n60 (pOr) LA LC pA pC fun x29 k29 H29 s29 L29 => ?_
    have p29 := fun i => pOr _ _ (pA i) (pC i)
    have LA := LA.same s29
    have LB := LB.same s29
    have LC := LC.same s29
    have L27 := L27.same s29
    have L28 := L28.same s29
    have hF := s29 _ _ hF
    have sAll := sAll.trans s29
    refine op_readT n1 n60 (pAnd) L28 L29 p28 p29 fun x30 k30 H30 s30 L30 => ?_
    have p30 := fun i => pAnd _ _ (p28 i) (p29 i)
    have LA := LA.same s30
    have LB := LB.same s30
    have LC := LC.same s30
    have L27 := L27.same s30
    have hF := s30 _ _ hF
    have sAll := sAll.trans s30
    refine eq_readT L27 L30 (fun i => rl_6 _ _ _ (pA i) (pB i) (pC i)) ?_
    refine ⟨(by show 1 ≤ sizeLine; rw [sizeLine_eq]; decide), fun e31 ne31 => ?_⟩
    have s31 := same_upd (o := .lst (List.replicate 1 (V.bl true))) ne31
    refine ⟨_, e31, List.replicate 6 (V.bl true), List.replicate 1 (V.bl true), rfl, rfl, s31 _ _ hF, upd_same, (by rw [sizeLine_eq]; decide), fun g31 ng31 => ?_⟩
    have t31 := same_upd (o := .lst (List.replicate 6 (V.bl true) ++ List.replicate 1 (V.bl true))) ng31
    have hF := (show (upd (upd H30 e31 (.lst (List.replicate 1 (V.bl true)))) g31 (.lst (List.replicate 6 (V.bl true) ++ List.replicate 1 (V.bl true)))) g31 = some (.lst (List.replicate 7 (V.bl true))) from upd_same)
    have LA := LA.same s31
    have LB := LB.same s31
    have LC := LC.same s31
    have sAll := sAll.trans s31
    have LA := LA.same t31
    have LB := LB.same t31
    have LC := LC.same t31
    have sAll := sAll.trans t31
    refine ⟨_, rfl, ?_⟩
    refine ⟨_, rfl, ?_⟩
    refine ⟨_, rfl, ?_⟩
    refine op_readT n1 n60 (pAdd) LA LB pA pB fun x32 k32 H32 s32 L32 => ?_
    have p32 := fun i => pAdd _ _ (pA i) (pB i)
    have LA := LA.same s32
    have LB := LB.same s32
    have LC := LC.same s32
    have hF := s32 _ _ hF
    have sAll := sAll.trans s32
    refine ⟨_, rfl, ?_⟩
    refine op_readT n1 n60 (pAdd) L32 LC p32 pC fun x33 k33 H33 s33 L33 => ?_
    have p33 := fun i => pAdd _ _ (p32 i) (pC i)
    have LA := LA.same s33
    have LB := LB.same s33
    have LC := LC.same s33
    have hF := s33 _ _ hF
    have sAll := sAll.trans s33
    refine ⟨_, rfl, ?_⟩
    refine ⟨_, rfl, ?_⟩
    refine ⟨_, rfl, ?_⟩
    refine op_readT n1 n60 (pAdd) LB LC pB pC fun x34 k34 H34 s34 L34 => ?_
    have p34 := fun i => pAdd _ _ (pB i) (pC i)
    have LA := LA.same s34
    have LB := LB.same s34
    have LC := LC.same s34
    have L33 := L33.same s34
    have hF := s34 _ _ hF
    have sAll := sAll.trans s34
    refine op_readT n1 n60 (pAdd) LA L34 pA p34 fun x35 k35 H35 s35 L35 => ?_
    have p35 := fun i => pAdd _ _ (pA i) (p34 i)
    have LA := LA.same s35
    have LB := LB.same s35
    have LC := LC.same s35
    have L33 := L33.same s35
    have hF := s35 _ _ hF
    have sAll := sAll.trans s35
    refine eq_readT L33 L35 (fun i => rl_7 _ _ _ (pA i) (pB i) (pC i)) ?_
    refine ⟨_, rfl, ?_⟩
    refine ⟨_, rfl, ?_⟩
    refine op_readT n1 n60 (pAdd) LA LB pA pB fun x36 k36 H36 s36 L36 => ?_
    have p36 := fun i => pAdd _ _ (pA i) (pB i)
    have LA := LA.same s36
    have LB := LB.same s36
    have LC := LC.same s36
    have hF := s36 _ _ hF
    have sAll := sAll.trans s36
    refine ⟨_, rfl, ?_⟩
    refine ⟨_, rfl, ?_⟩
    refine op_readT n1 n60 (pAdd) LB LA pB pA fun x37 k37 H37 s37 L37 => ?_
    have p37 := fun i => pAdd _ _ (pB i) (pA i)
    have LA := LA.same s37
    have LB := LB.same s37
    have LC := LC.same s37
    have L36 := L36.same s37
    have hF := s37 _ _ hF
    have sAll := sAll.trans s37
    refine eq_readT L36 L37 (fun i => rl_8 _ _ _ (pA i) (pB i) (pC i)) ?_
    refine ⟨_, rfl, ?_⟩
    refine ⟨_, rfl, ?_⟩
    refine op_readT n1 n60 (pXor) LA LB pA pB fun x38 k38 H38 s38 L38 => ?_
    have p38 := fun i => pXor _ _ (pA i) (pB i)
    have LA := LA.same s38
    have LB := LB.same s38
    have LC := LC.same s38
    have hF := s38 _ _ hF
    have sAll := sAll.trans s38
    refine ⟨_, rfl, ?_⟩
    refine ⟨_, rfl, ?_⟩
    refine op_readT n1 n60 (pXor) LB LA pB pA fun x39 k39 H39 s39 L39 => ?_
    have p39 := fun i => pXor _ _ (pB i) (pA i)
    have LA := LA.same s39
    have LB := LB.same s39
    have LC := LC.same s39
    have L38 := L38.same s39
    have hF := s39 _ _ hF
    have sAll := sAll.trans s39
    refine eq_readT L38 L39 (fun i => rl_9 _ _ _ (pA i) (pB i) (pC i)) ?_
    refine ⟨(by show 3 ≤ sizeLine; rw [sizeLine_eq]; decide), fun e40 ne40 => ?_⟩
    have s40 := same_upd (o := .lst (List.replicate 3 (V.bl true))) ne40
    refine ⟨_, e40, List.replicate 7 (V.bl true), List.replicate 3 (V.bl true), rfl, rfl, s40 _ _ hF, upd_same, (by rw [sizeLine_eq]; decide), fun g40 ng40 => ?_⟩
    have t40 := same_upd (o := .lst (List.replicate 7 (V.bl true) ++ List.replicate 3 (V.bl true))) ng40
    have hF := (show (upd (upd H39 e40 (.lst (List.replicate 3 (V.bl true)))) g40 (.lst (List.replicate 7 (V.bl true) ++ List.replicate 3 (V.bl true)))) g40 = some (.lst (List.replicate 10 (V.bl true))) from upd_same)
    have LA := LA.same s40
    have LB := LB.same s40
    have LC := LC.same s40
    have sAll := sAll.trans s40
    have LA := LA.same t40
    have LB := LB.same t40
    have LC := LC.same t40
    have sAll := sAll.trans t40
    refine ⟨_, rfl, ?_⟩
    refine ⟨_, rfl, ?_⟩
    refine ⟨_, rfl, ?_⟩
    refine op_readT n1 n60 (pSub) LA LB pA pB fun x41 k41 H41 s41 L41 => ?_
    have p41 := fun i => pSub _ _ (pA i) (pB i)
    have LA := LA.same s41
    have LB := LB.same s41
    have LC := LC.same s41
    have hF := s41 _ _ hF
    have sAll := sAll.trans s41
    refine ⟨_, rfl, ?_⟩
    refine op_readT n1 n60 (pAdd) L41 LB p41 pB fun x42 k42 H42 s42 L42 => ?_
    have p42 := fun i => pAdd _ _ (p41 i) (pB i)
    have LA := LA.same s42
    have LB := LB.same s42
    have LC := LC.same s42
    have hF := s42 _ _ hF
    have sAll := sAll.trans s42
    refine ⟨_, rfl, ?_⟩
    refine ⟨_, rfl, ?_⟩
    refine op_readT n1 n60 (pOr) LA LB pA pB fun x43 k43 H43 s43 L43 => ?_
    have p43 := fun i => pOr _ _ (pA i) (pB i)
    have LA := LA.same s43
    have LB := LB.same s43
    have LC := LC.same s43
    have L42 := L42.same s43
    have hF := s43 _ _ hF
    have sAll := sAll.trans s43
    refine eq_readT L42 L43 (fun i => rl_10 _ _ _ (pA i) (pB i) (pC i)) ?_
    refine ⟨_, rfl, ?_⟩
    refine ⟨_, rfl, ?_⟩
    refine op_readT n1 n60 (pSub) LA LB pA pB fun x44 k44 H44 s44 L44 => ?_
    have p44 := fun i => pSub _ _ (pA i) (pB i)
    have LA := LA.same s44
    have LB := LB.same s44
    have LC := LC.same s44
    have hF := s44 _ _ hF
    have sAll := sAll.trans s44
    refine ⟨_, rfl, ?_⟩
    refine ⟨_, rfl, ?_⟩
    refine op_readT n1 n60 (pSub) LB LA pB pA fun x45 k45 H45 s45 L45 => ?_
    have p45 := fun i => pSub _ _ (pB i) (pA i)
    have LA := LA.same s45
    have LB := LB.same s45
    have LC := LC.same s45
    have L44 := L44.same s45
    have hF := s45 _ _ hF
    have sAll := sAll.trans s45
    refine op_readT n1 n60 (pAdd) L44 L45 p44 p45 fun x46 k46 H46 s46 L46 => ?_
    have p46 := fun i => pAdd _ _ (p44 i) (p45 i)
    have LA := LA.same s46
    have LB := LB.same s46
    have LC := LC.same s46
    have hF := s46 _ _ hF
    have sAll := sAll.trans s46
    refine ⟨_, rfl, ?_⟩
    refine ⟨_, rfl, ?_⟩
    refine op_readT n1 n60 (pXor) LA LB pA pB fun x47 k47 H47 s47 L47 => ?_
    have p47 := fun i => pXor _ _ (pA i) (pB i)
    have LA := LA.same s47
    have LB := LB.same s47
    have LC := LC.same s47
    have L46 := L46.same s47
    have hF := s47 _ _ hF
    have sAll := sAll.trans s47
    refine eq_readT L46 L47 (fun i => rl_11 _ _ _ (pA i) (pB i) (pC i)) ?_
    refine ⟨(by show 2 ≤ sizeLine; rw [sizeLine_eq]; decide), fun e48 ne48 => ?_⟩
    have s48 := same_upd (o := .lst (List.replicate 2 (V.bl true))) ne48
    refine ⟨_, e48, List.replicate 10 (V.bl true), List.replicate 2 (V.bl true), rfl, rfl, s48 _ _ hF, upd_same, (by rw [sizeLine_eq]; decide), fun g48 ng48 => ?_⟩
    have t48 := same_upd (o := .lst (List.replicate 10 (V.bl true) ++ List.replicate 2 (V.bl true))) ng48
    have hF := (show (upd (upd H47 e48 (.lst (List.replicate 2 (V.bl true)))) g48 (.lst (List.replicate 10 (V.bl true) ++ List.replicate 2 (V.bl true)))) g48 = some (.lst (List.replicate 12 (V.bl true))) from upd_same)
    have LA := LA.same s48
    have LB := LB.same s48
    have LC := LC.same s48
    have sAll := sAll.trans s48
    have LA := LA.same t48
    have LB := LB.same t48
    have LC := LC.same t48
    have sAll := sAll.trans t48
    refine ⟨_, rfl, ?_⟩
    refine ⟨_, rfl, ?_⟩
    obtain ⟨da49, ha49, _⟩ := id LA
    refine ⟨_, da49, _, rfl, ha49, rfl, ?_⟩
    refine ⟨_, rfl, ?_⟩
    refine ⟨_, rfl, ?_⟩
    refine op_readT n1 n60 (pOr) LA LB pA pB fun x50 k50 H50 s50 L50 => ?_
    have p50 := fun i => pOr _ _ (pA i) (pB i)
    have LA := LA.same s50
    have LB := LB.same s50
    have LC := LC.same s50
    have hF := s50 _ _ hF
    have sAll := sAll.trans s50
    refine tNil_intro ?_
    refine wth_readT n1 n60 LA L50 pA p50 (fun i => rl_12 _ _ _ (pA i) (pB i) (pC i)) fun H49 s49 => ?_
    have LA := LA.same s49
    have LB := LB.same s49
    have LC := LC.same s49
    have hF := s49 _ _ hF
    have sAll := sAll.trans s49
    refine ⟨_, rfl, ?_⟩
    refine ⟨_, rfl, ?_⟩
    refine op_readT n1 n60 (pAnd) LA LB pA pB fun x51 k51 H51 s51 L51 => ?_
    have p51 := fun i => pAnd _ _ (pA i) (pB i)
    have LA := LA.same s51
    have LB := LB.same s51
    have LC := LC.same s51
    have hF := s51 _ _ hF
    have sAll := sAll.trans s51
    obtain ⟨da52, ha52, _⟩ := id L51
    refine ⟨_, da52, _, rfl, ha52, rfl, ?_⟩
    refine ⟨_, rfl, ?_⟩
    refine tNil_intro ?_
    refine wth_readT n1 n60 L51 LB p51 pB (fun i => rl_13 _ _ _ (pA i) (pB i) (pC i)) fun H52 s52 => ?_
    have LA := LA.same s52
    have LB := LB.same s52
    have LC := LC.same s52
    have hF := s52 _ _ hF
    have sAll := sAll.trans s52
    refine ⟨_, rfl, ?_⟩
    obtain ⟨da53, ha53, _⟩ := id LA
    refine ⟨_, da53, _, rfl, ha53, rfl, ?_⟩
    refine ⟨_, rfl, ?_⟩
    refine ⟨_, rfl, ?_⟩
    refine op_readT n1 n60 (pAdd) LA LB pA pB fun x54 k54 H54 s54 L54 => ?_
    have p54 := fun i => pAdd _ _ (pA i) (pB i)
    have LA := LA.same s54
    have LB := LB.same s54
    have LC := LC.same s54
    have hF := s54 _ _ hF
    have sAll := sAll.trans s54
    refine tNil_intro ?_
    refine wth_readT n1 n60 LA L54 pA p54 (fun i => rl_14 _ _ _ (pA i) (pB i) (pC i)) fun H53 s53 => ?_
    have LA := LA.same s53
    have LB := LB.same s53
    have LC := LC.same s53
    have hF := s53 _ _ hF
    have sAll := sAll.trans s53
    refine ⟨_, rfl, ?_⟩
    refine ⟨_, rfl, ?_⟩
    refine op_readT n1 n60 (pSub) LA LB pA pB fun x55 k55 H55 s55 L55 => ?_
    have p55 := fun i => pSub _ _ (pA i) (pB i)
    have LA := LA.same s55
    have LB := LB.same s55
    have LC := LC.same s55
    have hF := s55 _ _ hF
    have sAll := sAll.trans s55
    obtain ⟨da56, ha56, _⟩ := id L55
    refine ⟨_, da56, _, rfl, ha56, rfl, ?_⟩
    refine ⟨_, rfl, ?_⟩
    refine tNil_intro ?_
    refine wth_readT n1 n60 L55 LA p55 pA (fun i => rl_15 _ _ _ (pA i) (pB i) (pC i)) fun H56 s56 => ?_
    have LA := LA.same s56
    have LB := LB.same s56
    have LC := LC.same s56
    have hF := s56 _ _ hF
    have sAll := sAll.trans s56
    refine ⟨(by show 4 ≤ sizeLine; rw [sizeLine_eq]; decide), fun e57 ne57 => ?_⟩
    have s57 := same_upd (o := .lst (List.replicate 4 (V.bl true))) ne57
    refine ⟨_, e57, List.replicate 12 (V.bl true), List.replicate 4 (V.bl true), rfl, rfl, s57 _ _ hF, upd_same, (by rw [sizeLine_eq]; decide), fun g57 ng57 => ?_⟩
    have t57 := same_upd (o := .lst (List.replicate 12 (V.bl true) ++ List.replicate 4 (V.bl true))) ng57
    have hF := (show (upd (upd H56 e57 (.lst (List.replicate 4 (V.bl true)))) g57 (.lst (List.replicate 12 (V.bl true) ++ List.replicate 4 (V.bl true)))) g57 = some (.lst (List.replicate 16 (V.bl true))) from upd_same)
    have LA := LA.same s57
    have LB := LB.same s57
    have LC := LC.same s57
    have sAll := sAll.trans s57
    have LA := LA.same t57
    have LB := LB.same t57
    have LC := LC.same t57
    have sAll := sAll.trans t57
    refine ⟨_, rfl, ?_⟩
    refine ⟨_, rfl, ?_⟩
    refine ⟨_, rfl, ?_⟩
    refine op_readT n1 n60 (pXor) LA LC pA pC fun x58 k58 H58 s58 L58 => ?_
    have p58 := fun i => pXor _ _ (pA i) (pC i)
    have LA := LA.same s58
    have LB := LB.same s58
    have LC := LC.same s58
    have hF := s58 _ _ hF
    have sAll := sAll.trans s58
    obtain ⟨da59, ha59, _⟩ := id L58
    refine ⟨_, da59, _, rfl, ha59, rfl, ?_⟩
    refine ⟨_, rfl, ?_⟩
    refine ⟨_, rfl, ?_⟩
    refine op_readT n1 n60 (pXor) LA LB pA pB fun x60 k60 H60 s60 L60 => ?_
    have p60 := fun i => pXor _ _ (pA i) (pB i)
    have LA := LA.same s60
    have LB := LB.same s60
    have LC := LC.same s60
    have L58 := L58.same s60
    have hF := s60 _ _ hF
    have sAll := sAll.trans s60
    refine ⟨_, rfl, ?_⟩
    refine ⟨_, rfl, ?_⟩
    refine op_readT n1 n60 (pXor) LB LC pB pC fun x61 k61 H61 s61 L61 => ?_
    have p61 := fun i => pXor _ _ (pB i) (pC i)
    have LA := LA.same s61
    have LB := LB.same s61
    have LC := LC.same s61
    have L58 := L58.same s61
    have L60 := L60.same s61
    have hF := s61 _ _ hF
    have sAll := sAll.trans s61
    refine op_readT n1 n60 (pAdd) L60 L61 p60 p61 fun x62 k62 H62 s62 L62 => ?_
    have p62 := fun i => pAdd _ _ (p60 i) (p61 i)
    have LA := LA.same s62
    have LB := LB.same s62
    have LC := LC.same s62
    have L58 := L58.same s62
    have hF := s62 _ _ hF
    have sAll := sAll.trans s62
    refine tNil_intro ?_
    refine wth_readT n1 n60 L58 L62 p58 p62 (fun i => rl_16 _ _ _ (pA i) (pB i) (pC i)) fun H59 s59 => ?_
    have LA := LA.same s59
    have LB := LB.same s59
    have LC := LC.same s59
    have hF := s59 _ _ hF
    have sAll := sAll.trans s59
    refine ⟨_, rfl, ?_⟩
    refine ⟨_, rfl, ?_⟩
    refine op_readT n1 n60 (pAnd) LA LB pA pB fun x63 k63 H63 s63 L63 => ?_
    have p63 := fun i => pAnd _ _ (pA i) (pB i)
    have LA := LA.same s63
    have LB := LB.same s63
    have LC := LC.same s63
    have hF := s63 _ _ hF
    have sAll := sAll.trans s63
    obtain ⟨da64, ha64, _⟩ := id L63
    refine ⟨_, da64, _, rfl, ha64, rfl, ?_⟩
    refine ⟨_, rfl, ?_⟩
    refine ⟨_, rfl, ?_⟩
    refine op_readT n1 n60 (pOr) LA LC pA pC fun x65 k65 H65 s65 L65 => ?_
    have p65 := fun i => pOr _ _ (pA i) (pC i)
    have LA := LA.same s65
    have LB := LB.same s65
    have LC := LC.same s65
    have L63 := L63.same s65
    have hF := s65 _ _ hF
    have sAll := sAll.trans s65
    refine tNil_intro ?_
    refine wth_readT n1 n60 L63 L65 p63 p65 (fun i => rl_17 _ _ _ (pA i) (pB i) (pC i)) fun H64 s64 => ?_
    have LA := LA.same s64
    have LB := LB.same s64
    have LC := LC.same s64
    have hF := s64 _ _ hF
    have sAll := sAll.trans s64
    refine ⟨(by show 2 ≤ sizeLine; rw [sizeLine_eq]; decide), fun e66 ne66 => ?_⟩
    have s66 := same_upd (o := .lst (List.replicate 2 (V.bl true))) ne66
    refine ⟨_, e66, List.replicate 16 (V.bl true), List.replicate 2 (V.bl true), rfl, rfl, s66 _ _ hF, upd_same, (by rw [sizeLine_eq]; decide), fun g66 ng66 => ?_⟩
    have t66 := same_upd (o := .lst (List.replicate 16 (V.bl true) ++ List.replicate 2 (V.bl true))) ng66
    have hF := (show (upd (upd H64 e66 (.lst (List.replicate 2 (V.bl true)))) g66 (.lst (List.replicate 16 (V.bl true) ++ List.replicate 2 (V.bl true)))) g66 = some (.lst (List.replicate 18 (V.bl true))) from upd_same)
    have LA := LA.same s66
    have LB := LB.same s66
    have LC := LC.same s66
    have sAll := sAll.trans s66
    have LA := LA.same t66
    have LB := LB.same t66
    have LC := LC.same t66
    have sAll := sAll.trans t66
    refine ⟨_, rfl, ?_⟩
    refine ⟨_, rfl, ?_⟩
    obtain ⟨da67, ha67, _⟩ := id LA
    refine ⟨_, da67, _, rfl, ha67, rfl, _, rfl, ?_⟩
    refine tNil_intro ?_
    refine wth_read n1 n60 LA LB pA pB fun H67 s67 => ?_
    have LA := LA.same s67
    have LB := LB.same s67
    have LC := LC.same s67
    have hF := s67 _ _ hF
    have sAll := sAll.trans s67
    refine ⟨_, rfl, ?_⟩
    refine ⟨_, rfl, ?_⟩
    refine op_readT n1 n60 (pSub) LA LB pA pB fun x68 k68 H68 s68 L68 => ?_
    have p68 := fun i => pSub _ _ (pA i) (pB i)
    have LA := LA.same s68
    have LB := LB.same s68
    have LC := LC.same s68
    have hF := s68 _ _ hF
    have sAll := sAll.trans s68
    obtain ⟨dx67, hx67, _⟩ := id L68
    refine ⟨_, dx67, _, rfl, hx67, _, _, _, rfl, L68, _, rfl, _, rfl, rfl, ?_⟩
    rw [decide_eq_true (congrArg V.bl (wth_any _ _ _))]
    refine ⟨(by show 1 ≤ sizeLine; rw [sizeLine_eq]; decide), fun e69 ne69 => ?_⟩
    have s69 := same_upd (o := .lst (List.replicate 1 (V.bl true))) ne69
    refine ⟨_, e69, List.replicate 18 (V.bl true), List.replicate 1 (V.bl true), rfl, rfl, s69 _ _ hF, upd_same, (by rw [sizeLine_eq]; decide), fun g69 ng69 => ?_⟩
    have t69 := same_upd (o := .lst (List.replicate 18 (V.bl true) ++ List.replicate 1 (V.bl true))) ng69
    have hF := (show (upd (upd H68 e69 (.lst (List.replicate 1 (V.bl true)))) g69 (.lst (List.replicate 18 (V.bl true) ++ List.replicate 1 (V.bl true)))) g69 = some (.lst (List.replicate 19 (V.bl true))) from upd_same)
    have LA := LA.same s69
    have LB := LB.same s69
    have LC := LC.same s69
    have sAll := sAll.trans s69
    have LA := LA.same t69
    have LB := LB.same t69
    have LC := LC.same t69
    have sAll := sAll.trans t69
    refine ⟨_, rfl, _, rfl, ⟨_, SqL.of hF⟩, fun D nD => ?_⟩
    refine lc_list (K := K) (xs := List.replicate 19 (V.bl true)) (fun j H' => Same _ H' ∧ H' D = some (.lst [])) ⟨same_upd nD, upd_same⟩ (fun j H' _ h => SqL.of (h.1 _ _ hF)) ?_ ?_
    · rintro j y H' hy ⟨sj, hD⟩
      have ey : y = .bl true := List.eq_of_mem_replicate (List.mem_of_getElem? hy)
      subst ey
      refine ⟨rfl, ?_⟩
      exact ⟨_, rfl, true, rfl, _, rfl, iteF ⟨sj, hD⟩⟩
    · rintro H' ⟨sj, hD⟩
      refine ⟨Nat.zero_le _, fun em nem => ?_⟩
      have s2 := same_upd (o := .lst []) nem
      refine rq_ints (ns := []) (ms := []) (SqL.of (s2 _ _ hD)) (SqL.of upd_same) ?_
      exact q _ ((sAll.trans sj).trans s2)
end
end D1

namespace D1
open PySem PySem.Spec PyProof.Rows L2 KO
theorem cut_to (xs : List V) (i : Nat) (h : i ≤ xs.length) : cutV xs none (some (i : Int)) = xs.take i := by
  unfold cutV
  rw [HT.sIx_none, HT.sIx_nat, Nat.min_eq_left h]
  rfl
theorem cut_from (xs : List V) (i : Nat) (h : i ≤ xs.length) : cutV xs (some (i : Int)) none = xs.drop i := by
  unfold cutV
  rw [HT.sIx_none, HT.sIx_nat, Nat.min_eq_left h, List.take_of_length_le]
  rw [List.length_drop]
  exact Nat.le_refl _
theorem Ld.eqp {C : Addr} {H H' : Hp} {a l p : Addr} {ns : List Int} (h : Ld C H a l ns) (lp : l ≠ p) (hp : Pool H p) (e : Eqp p H H') : Ld C H' a l ns := by
  obtain ⟨dx, h1, h2⟩ := h
  obtain ⟨x, f, c, h3⟩ := hp
  refine ⟨dx, ?_, ?_⟩
  · rw [e a (ne_of h1 h3 (by intro z; cases z))]
    exact h1
  · rw [e l lp]
    exact h2
theorem flat_map (cs : List Int) : ∀ k : Nat, (List.replicate k (cs.map V.int)).flatten = ((List.replicate k cs).flatten).map V.int
  | 0 => rfl
  | k + 1 => by
    rw [List.replicate_succ, List.flatten_cons, flat_map cs k, List.replicate_succ, List.flatten_cons, List.map_append]
theorem flat_len (cs : List Int) : ∀ k : Nat, (List.replicate k cs).flatten.length = k * cs.length
  | 0 => by simp
  | k + 1 => by
    rw [List.replicate_succ, List.flatten_cons, List.length_append, flat_len cs k, Nat.succ_mul, Nat.add_comm]
theorem flat_mem (cs : List Int) {z : Int} : ∀ k : Nat, z ∈ (List.replicate k cs).flatten → z ∈ cs
  | 0, h => by cases h
  | k + 1, h => by
    rw [List.replicate_succ, List.flatten_cons] at h
    exact (List.mem_append.mp h).elim id (flat_mem cs k)
section
variable {P : Program} {w : World} {K : PySem.W.Frag} {mg : Str → Option Value} {base : Heap}
def spLaw (K : PySem.W.Frag) : Sp := fun vs H Q _ => ∃ (a : Addr) (ns : List Int), vs = [.ref a] ∧ SqL K H a (ns.map V.int) ∧ ns.length ≤ 63 ∧ ∀ H', Q (.bl true) H'
theorem scLaw : FnScope ["_law_script", "_law_pool_here", "_law_size_here", "_law_first", "_law_second", "_law_third", "_law_one", "_law_two", "_law_three", "_law_longer", "_law_other", "_law_way", "_law_k"] ["_law_script"] (defScope sLaw) := ⟨rfl, rfl, rfl, by decide +kernel, rfl, by decide +kernel, by decide +kernel⟩
theorem ok_law (T : Tx K mg) : FnOk P w K mg base CX0 14 T.flaw T.dlaw ["_law_script"] (spLaw K) := by
  have G_law_pool := (ok_pool (P := P) (w := w) (base := base) T).mono (k := 12) (by decide)
  have G_law_size := (ok_size (P := P) (w := w) (base := base) T).mono (k := 12) (by decide)
  have G_law_count := (ok_count (P := P) (w := w) (base := base) T).mono (k := 12) (by decide)
  have G_law_take := (ok_take (P := P) (w := w) (base := base) T).mono (k := 12) (by decide)
  have G_law_beside := (ok_bes (P := P) (w := w) (base := base) T).mono (k := 12) (by decide)
  have G_law_signs := (ok_sgn (P := P) (w := w) (base := base) T).mono (k := 12) (by decide)
  have G_law_rules := (ok_rul (P := P) (w := w) (base := base) T).mono (k := 12) (by decide)
  have G_law_refuses := (ok_rf (P := P) (w := w) (base := base) T).mono (k := 12) (by decide)
  have G_law_is_load := (ok_isl (P := P) (w := w) (base := base) T).mono (k := 12) (by decide)
  have G_Load := (ok_init (P := P) (w := w) (base := base) T).mono (k := 11) (by decide)
  refine T.Flaw.ok scLaw (fun vs H Q E h => ?_) (fun cdv A outer s H vs Q E hr0 h => ?_)
  · obtain ⟨a, ns, rfl, _⟩ := h
    rfl
  · obtain ⟨sa, ns, rfl, hS, hlen, q⟩ := h
    have hr : Room 12 _ := hr0.mono (by decide)
    refine ⟨_, pss_cons (ps_set (i := 1) scLaw.nd rfl (.inr rfl) (pe_call G_law_pool hr (by rfl) T.g_law_pool T.F_law_pool.kp T.b_law_pool .nil pass0 (pa_cons (pv 0) (pa_cons pe_int pa_nil))))
      (pss_cons (ps_set (i := 2) scLaw.nd rfl (.inl rfl) (pe_call G_law_size hr (by rfl) T.g_law_size T.F_law_size.kp T.b_law_size .nil pass0 (pa_cons (pv 1) pa_nil)))
      (pss_cons (ps_setLc (i := 3) (own := [("_law_k", 12)]) (g := gName 12) rfl scLaw.nd rfl rfl (sw_true rfl rfl rfl (by decide +kernel)) (pi_range1 (by rfl) T.z_range (pa_cons (pv 2) pa_nil)) (blkOk_by (own := [("_law_k", 12)]) (N := ["_law_script", "_law_pool_here", "_law_size_here", "_law_first", "_law_second", "_law_third", "_law_one", "_law_two", "_law_three", "_law_longer", "_law_other", "_law_way", "_law_k"]) (sc := defScope sLaw) (by decide +kernel)) (fun _ _ _ _ _ => pg_name (i := 12) scLaw.nd rfl (.inl rfl)) (fun _ _ _ _ _ => pts_nil) (fun _ _ _ _ _ => (pe_call G_law_count hr (by rfl) T.g_law_count T.F_law_count.kp T.b_law_count .nil pass0 (pa_cons (pv 1) pa_nil))))
      (pss_cons (ps_set (i := 4) scLaw.nd rfl (.inl rfl) (pe_call G_law_beside hr (by rfl) T.g_law_beside T.F_law_beside.kp T.b_law_beside .nil pass0 (pa_cons (pv 1) (pa_cons (pv 3) pa_nil))))
      (pss_cons (ps_set (i := 5) scLaw.nd rfl (.inl rfl) (pe_call G_law_beside hr (by rfl) T.g_law_beside T.F_law_beside.kp T.b_law_beside .nil pass0 (pa_cons (pv 1) (pa_cons (pv 4) pa_nil))))
      (pss_cons (ps_set (i := 6) scLaw.nd rfl (.inl rfl) (pe_make T.M_Load G_Load hr (by rfl) T.g_Load T.bLoad_init .nil passL (pa_cons (pe_callTy (T := "list") call_list_of (by rfl) T.z_list (by decide +kernel) (pa_cons (pv 3) pa_nil)) pa_nil)))
      (pss_cons (ps_set (i := 7) scLaw.nd rfl (.inl rfl) (pe_make T.M_Load G_Load hr (by rfl) T.g_Load T.bLoad_init .nil passL (pa_cons (pe_callTy (T := "list") call_list_of (by rfl) T.z_list (by decide +kernel) (pa_cons (pv 4) pa_nil)) pa_nil)))
      (pss_cons (ps_set (i := 8) scLaw.nd rfl (.inl rfl) (pe_make T.M_Load G_Load hr (by rfl) T.g_Load T.bLoad_init .nil passL (pa_cons (pe_callTy (T := "list") call_list_of (by rfl) T.z_list (by decide +kernel) (pa_cons (pv 5) pa_nil)) pa_nil)))
      (pss_cons (ps_if (PW.pt (pw_or (pt_not (pt_val (pe_call G_law_signs hr (by rfl) T.g_law_signs T.F_law_signs.kp T.b_law_signs .nil pass0 (pa_cons (pv 6) (pa_cons (pv 3) (pa_cons (pv 7) (pa_cons (pv 4) pa_nil))))))) (pw_or1 (pt_not (pt_val (pe_call G_law_signs hr (by rfl) T.g_law_signs T.F_law_signs.kp T.b_law_signs .nil pass0 (pa_cons (pv 7) (pa_cons (pv 4) (pa_cons (pv 6) (pa_cons (pv 3) pa_nil)))))))))) (pss_one ps_never) pss_nil)
      (pss_cons (ps_if (PW.pt (pw_or (pt_not (pt_val (pe_call G_law_signs hr (by rfl) T.g_law_signs T.F_law_signs.kp T.b_law_signs .nil pass0 (pa_cons (pv 6) (pa_cons (pv 3) (pa_cons (pv 6) (pa_cons (pv 3) pa_nil))))))) (pw_or1 (pt_not (pt_val (pe_call G_law_signs hr (by rfl) T.g_law_signs T.F_law_signs.kp T.b_law_signs .nil pass0 (pa_cons (pv 7) (pa_cons (pv 4) (pa_cons (pv 8) (pa_cons (pv 5) pa_nil)))))))))) (pss_one ps_never) pss_nil)
      (pss_cons (ps_if (pt_not (pt_val (pe_call G_law_rules hr (by rfl) T.g_law_rules T.F_law_rules.kp T.b_law_rules .nil pass0 (pa_cons (pv 6) (pa_cons (pv 7) (pa_cons (pv 8) pa_nil)))))) (pss_one ps_never) pss_nil)
      (pss_cons (ps_set (i := 9) scLaw.nd rfl (.inl rfl) (pe_slice sl_list (pe_op op_rep (pv 3) pe_int) po_none (po_some (pe_op op_add pe_int (pe_op op_mod (pe_callTy (T := "int") call_int1 (by rfl) T.z_int (by decide +kernel) (pa_cons (pe_op op_add (pv 2) (pe_call G_law_take hr (by rfl) T.g_law_take T.F_law_take.kp T.b_law_take .nil pass0 (pa_cons (pv 1) (pa_cons pe_int pa_nil)))) pa_nil)) pe_int)))))
      (pss_cons (ps_set (i := 10) scLaw.nd rfl (.inl rfl) (pe_make T.M_Load G_Load hr (by rfl) T.g_Load T.bLoad_init .nil passL (pa_cons (pe_callTy (T := "list") call_list_of (by rfl) T.z_list (by decide +kernel) (pa_cons (pv 9) pa_nil)) pa_nil)))
      (pss_cons (ps_for PassesOwn.never rfl (pi_range1 (by rfl) T.z_range (pa_cons pe_int pa_nil)) (pg_name (i := 11) scLaw.nd rfl (.inl rfl)) (pss_one (ps_if (PW.pt (pw_or (pt_not (pt_val (pe_call G_law_refuses hr (by rfl) T.g_law_refuses T.F_law_refuses.kp T.b_law_refuses .nil pass0 (pa_cons (pv 11) (pa_cons (pv 6) (pa_cons (pv 10) pa_nil)))))) (pw_or1 (pt_not (pt_val (pe_call G_law_refuses hr (by rfl) T.g_law_refuses T.F_law_refuses.kp T.b_law_refuses .nil pass0 (pa_cons (pv 11) (pa_cons (pv 10) (pa_cons (pv 6) pa_nil))))))))) (pss_one ps_never) pss_nil)))
      (pss_cons (ps_if (PW.pt (pw_or (pt_not (pt_val (pe_call G_law_is_load hr (by rfl) T.g_law_is_load T.F_law_is_load.kp T.b_law_is_load .nil pass0 (pa_cons (pv 6) (pa_cons (pv 3) pa_nil))))) (pw_or1 (pt_not (pt_val (pe_call G_law_is_load hr (by rfl) T.g_law_is_load T.F_law_is_load.kp T.b_law_is_load .nil pass0 (pa_cons (pv 7) (pa_cons (pv 4) pa_nil)))))))) (pss_one ps_never) pss_nil)
      (pss_one (ps_ret (pe_and (pe_call G_law_is_load hr (by rfl) T.g_law_is_load T.F_law_is_load.kp T.b_law_is_load .nil pass0 (pa_cons (pv 8) (pa_cons (pv 5) pa_nil))) (pe_one (pe_call G_law_is_load hr (by rfl) T.g_law_is_load T.F_law_is_load.kp T.b_law_is_load .nil pass0 (pa_cons (pv 10) (pa_cons (pv 9) pa_nil))))))))))))))))))))), ?_⟩
    refine ⟨_, rfl, sa, ns, 0, rfl, hS, Nat.zero_le _, fun H1 p p0 s1 hp1 => ?_⟩
    refine ⟨_, rfl, p, rfl, hp1, fun H2 n0 n1 n60 hp2 e2 => ?_⟩
    obtain ⟨n, rfl⟩ : ∃ j : Nat, n0 = (j : Int) := ⟨n0.toNat, by omega⟩
    refine ⟨_, rfl, _, rfl, by omega, by omega, fun D nD => ?_⟩
    have Dp : D ≠ p := hp2.ne nD
    refine lc_range (lo := 0) (n := n) (fun i H' => ∃ cs : List Int, cs.length = i ∧ (∀ c ∈ cs, 0 ≤ c) ∧ H' D = some (.lst (cs.map V.int)) ∧ Pool H' p) ⟨[], rfl, by simp, upd_same, hp2.upd Dp⟩ ?_ ?_
    · rintro i H3 hi ⟨cs, ecs, hcs, hD, hp3⟩
      refine ⟨rfl, keepT ?_⟩
      refine ⟨_, rfl, p, rfl, hp3, fun H4 c c0 hp4 e4 => ?_⟩
      have hD4 : H4 D = some (.lst (cs.map V.int)) := Pool.eq e4 Dp hD
      refine ⟨_, hD4, by rw [List.length_map, sizeLine_eq]; omega, cs ++ [c], by rw [List.length_append, ecs]; rfl, fun z hz => ?_, ?_, hp4.upd Dp⟩
      · rcases List.mem_append.mp hz with h | h
        · exact hcs z h
        · rw [List.mem_singleton.mp h]
          exact c0
      · rw [upd_same, List.map_append]
        rfl
    · rintro H3 ⟨cs, ecs, hcs, hD, hp3⟩
      have hg : good cs := ⟨by omega, hcs⟩
      refine ⟨_, rfl, _, rfl, p, D, cs, rfl, hp3, hD, Dp, hg, fun l2 H4 ms n4 hp4 b4 h4 g4 e4 => ?_⟩
      have l2p := hp3.ne n4
      have hD4 := b4 _ _ Dp hD
      refine ⟨_, rfl, _, rfl, p, l2, ms, rfl, hp4, h4, l2p, g4, fun l3 H5 ks n5 hp5 b5 h5 g5 e5 => ?_⟩
      have l3p := hp4.ne n5
      have hD5 := b5 _ _ Dp hD4
      have h45 := b5 _ _ l2p h4
      -- the three loads
      refine ⟨_, rfl, D, _, rfl, .inl (SqL.of hD5), fun q1 m6 => ?_⟩
      have t6 := same_upd (o := .lst (cs.map V.int)) m6
      refine fun x1 y1 nx1 ny1 ne1 => make_read nx1 ny1 ne1 (.inl (SqL.of upd_same)) hg fun j1 H6 nj1 _ u6 L1 => ?_
      have s6 := t6.trans u6
      have j1p : j1 ≠ p := fun e => by
        obtain ⟨x, f, c, h⟩ := hp5.same t6
        rw [← e, nj1] at h
        cases h
      refine ⟨_, rfl, l2, _, rfl, .inl (SqL.of (s6 _ _ h45)), fun q2 m7 => ?_⟩
      have t7 := same_upd (o := .lst (ms.map V.int)) m7
      refine fun x2 y2 nx2 ny2 ne2 => make_read nx2 ny2 ne2 (.inl (SqL.of upd_same)) g4 fun j2 H7 nj2 _ u7 L2 => ?_
      have s7 := t7.trans u7
      have j2p : j2 ≠ p := fun e => by
        obtain ⟨x, f, c, h⟩ := (hp5.same s6).same t7
        rw [← e, nj2] at h
        cases h
      have L1 := L1.same s7
      have s57 := s6.trans s7
      refine ⟨_, rfl, l3, _, rfl, .inl (SqL.of (s57 _ _ h5)), fun q3 m8 => ?_⟩
      have t8 := same_upd (o := .lst (ks.map V.int)) m8
      refine fun x3 y3 nx3 ny3 ne3 => make_read nx3 ny3 ne3 (.inl (SqL.of upd_same)) g5 fun j3 H8 nj3 _ u8 L3 => ?_
      have s8 := t8.trans u8
      have j3p : j3 ≠ p := fun e => by
        obtain ⟨x, f, c, h⟩ := (hp5.same s57).same t8
        rw [← e, nj3] at h
        cases h
      have L1 := L1.same s8
      have L2 := L2.same s8
      have s58 := s57.trans s8
      have hD8 := s58 _ _ hD5
      have h48 := s58 _ _ h45
      have h58 := s58 _ _ h5
      have hp8 := hp5.same s58
      clear t6 u6 s6 t7 u7 s7 s57 t8 u8 s8 s58 hD5 h45 h5 hp5 m6 m7 m8
      have lm : ms.length = cs.length := e4
      have lk : ks.length = cs.length := by omega
      -- the signs
      refine ⟨_, rfl, _, rfl, _, rfl, _, rfl, x1, j1, D, x2, j2, l2, cs, ms, rfl, L1, hD8, L2, h48, hg, g4, lm.symm, fun H9 s9 => ⟨_, rfl, iteF ?_⟩⟩
      refine ⟨_, rfl, _, rfl, _, rfl, _, rfl, x2, j2, l2, x1, j1, D, ms, cs, rfl, L2.same s9, s9 _ _ h48, L1.same s9, s9 _ _ hD8, g4, hg, lm, fun H10 t10 => ⟨_, rfl, iteF ?_⟩⟩
      have s10 := s9.trans t10
      refine ⟨_, rfl, _, rfl, _, rfl, _, rfl, x1, j1, D, x1, j1, D, cs, cs, rfl, L1.same s10, s10 _ _ hD8, L1.same s10, s10 _ _ hD8, hg, hg, rfl, fun H11 t11 => ⟨_, rfl, iteF ?_⟩⟩
      have s11 := s10.trans t11
      refine ⟨_, rfl, _, rfl, _, rfl, _, rfl, x2, j2, l2, x3, j3, l3, ms, ks, rfl, L2.same s11, s11 _ _ h48, L3.same s11, s11 _ _ h58, g4, g5, by omega, fun H12 t12 => ⟨_, rfl, iteF ?_⟩⟩
      have s12 := s11.trans t12
      -- the rules
      obtain ⟨f1, ef1, pf1⟩ := Tb_of hg
      obtain ⟨f2, ef2, pf2⟩ := Tb_of g4
      obtain ⟨f3, ef3, pf3⟩ := Tb_of g5
      rw [lm] at ef2
      rw [lk] at ef3
      refine ⟨_, rfl, _, rfl, _, rfl, x1, j1, x2, j2, x3, j3, cs.length, f1, f2, f3, rfl, by rw [← ef1]; exact L1.same s12, by rw [← ef2]; exact L2.same s12, by rw [← ef3]; exact L3.same s12, hg.1.1, hg.1.2, pf1, pf2, pf3, fun H13 t13 => ⟨_, rfl, iteF ?_⟩⟩
      have s13 := s12.trans t13
      have L1 := L1.same s13
      have L2 := L2.same s13
      have L3 := L3.same s13
      have hD13 := s13 _ _ hD8
      have h413 := s13 _ _ h48
      have h513 := s13 _ _ h58
      have hp13 := hp8.same s13
      clear s9 t10 s10 t11 s11 t12 s12 t13 s13 hD8 h48 h58 hp8
      -- a load of another length
      have szc : cs.length ≤ 60 := hg.1.2
      refine ⟨_, rfl, D, 60, _, rfl, rfl, hD13, by decide, by decide, ?_, fun q6 m14 => ?_⟩
      · rw [List.length_map, sizeLine_eq]
        show cs.length * 60 ≤ _
        omega
      rw [flat_map]
      have t14 := same_upd (o := .lst (((List.replicate (60 : Int).toNat cs).flatten).map V.int)) m14
      have q6p := hp13.ne m14
      refine ⟨_, rfl, _, rfl, p, _, rfl, hp13.same t14, by decide, by decide, fun H15 t0 t00 t59 hp15 e15 => ⟨_, _, rfl, rfl, ?_⟩⟩
      have k15 : ∀ {a l : Addr} {zs : List Int}, l ≠ p → Ld T.C_Load H13 a l zs → Ld T.C_Load H15 a l zs := fun hl L => (L.same t14).eqp hl (hp13.same t14) e15
      have L1 := k15 j1p L1
      have L2 := k15 j2p L2
      have L3 := k15 j3p L3
      have hD15 := Pool.eq e15 Dp (t14 _ _ hD13)
      have h415 := Pool.eq e15 l2p (t14 _ _ h413)
      have h515 := Pool.eq e15 l3p (t14 _ _ h513)
      have hq15 : H15 q6 = some (.lst (((List.replicate (60 : Int).toNat cs).flatten).map V.int)) := Pool.eq e15 q6p upd_same
      clear k15 t14 hD13 h413 h513 hp13 e15
      have r0 : 0 ≤ ((n : Int) + t0) % 60 := Int.emod_nonneg _ (by decide)
      have r60 : ((n : Int) + t0) % 60 < 60 := Int.emod_lt_of_pos _ (by decide)
      have rne : 1 + ((n : Int) + t0) % 60 ≠ n := by omega
      refine .inl ⟨_, rfl, _, _, rfl, rfl, (show (0 : Int) < 60 by decide), _, _, rfl, rfl, _, rfl, q6, _, rfl, SqL.of hq15, fun lg mlg => ?_⟩
      obtain ⟨v, hv⟩ : ∃ j : Nat, 1 + ((n : Int) + t0) % 60 = (j : Int) := ⟨(1 + ((n : Int) + t0) % 60).toNat, by omega⟩
      have hfl := flat_len cs 60
      have ecut : cutV (((List.replicate (60 : Int).toNat cs).flatten).map V.int) none (some (1 + ((n : Int) + t0) % 60)) = (((List.replicate 60 cs).flatten).take v).map V.int := by
        rw [hv, cut_to _ _ (by rw [List.length_map]; show v ≤ (List.replicate 60 cs).flatten.length; have := hg.1.1; omega), List.map_take]
        rfl
      have t16 := same_upd (o := .lst (cutV (((List.replicate (60 : Int).toNat cs).flatten).map V.int) none (some (1 + ((n : Int) + t0) % 60)))) mlg
      have hlg : (upd H15 lg (.lst (cutV (((List.replicate (60 : Int).toNat cs).flatten).map V.int) none (some (1 + ((n : Int) + t0) % 60))))) lg = some (.lst ((((List.replicate 60 cs).flatten).take v).map V.int)) := by
        rw [upd_same, ecut]
      have gl : good (((List.replicate 60 cs).flatten).take v) := ⟨by rw [List.length_take]; have := hg.1.1; omega, fun z hz => hg.2 z (flat_mem cs 60 (List.mem_of_mem_take hz))⟩
      have lne : (((List.replicate 60 cs).flatten).take v).length ≠ cs.length := by
        rw [List.length_take]
        have := hg.1.1
        omega
      generalize ((List.replicate 60 cs).flatten).take v = ls at hlg gl lne
      dsimp only
      generalize (upd H15 lg (.lst (cutV (((List.replicate (60 : Int).toNat cs).flatten).map V.int) none (some (1 + ((n : Int) + t0) % 60))))) = H16 at t16 hlg ⊢
      refine ⟨_, rfl, lg, _, rfl, .inl (SqL.of hlg), fun q4 m17 => ?_⟩
      have t17 := same_upd (o := .lst (ls.map V.int)) m17
      refine fun x4 y4 nx4 ny4 ne4 => make_read nx4 ny4 ne4 (.inl (SqL.of upd_same)) gl fun j4 H18 nj4 _ u18 L4 => ?_
      have s18 := (t16.trans t17).trans u18
      have L1 := L1.same s18
      have L2 := L2.same s18
      have L3 := L3.same s18
      have hD18 := s18 _ _ hD15
      have h418 := s18 _ _ h415
      have h518 := s18 _ _ h515
      have hl18 := (t17.trans u18) _ _ hlg
      refine ⟨6, rfl, by decide, by decide, for_range (lo := 0) (n := (6 : Int).toNat) (fun _ σ H' => (∃ v11, σ = [some (.ref sa), some (.ref p), some (.int n), some (.ref D), some (.ref l2), some (.ref l3), some (.ref x1), some (.ref x2), some (.ref x3), some (.ref lg), some (.ref x4), v11, none]) ∧ H' = H18) ⟨⟨_, rfl⟩, rfl⟩ ?_ ?_⟩
      · rintro i σ H' hi ⟨⟨v11, rfl⟩, rfl⟩
        have hi6 : i < 6 := hi
        refine ⟨_, rfl, _, rfl, _, rfl, _, x1, j1, x4, j4, cs, ls, rfl, L1, L4, hg, gl, by omega, by omega, lne.symm, _, rfl, iteF ?_⟩
        exact ⟨_, rfl, _, rfl, _, rfl, _, x4, j4, x1, j1, ls, cs, rfl, L4, L1, gl, hg, by omega, by omega, lne, _, rfl, iteF ⟨⟨_, rfl⟩, rfl⟩⟩
      · rintro σ H' ⟨⟨v11, rfl⟩, rfl⟩
        refine ⟨_, rfl, _, rfl, x1, j1, D, cs, rfl, L1, hD18, hg.1.2, _, rfl, iteF ?_⟩
        refine ⟨_, rfl, _, rfl, x2, j2, l2, ms, rfl, L2, h418, g4.1.2, _, rfl, iteF ?_⟩
        refine ⟨_, rfl, _, rfl, x3, j3, l3, ks, rfl, L3, h518, g5.1.2, _, rfl, iteT ?_⟩
        exact ⟨_, rfl, _, rfl, x4, j4, lg, ls, rfl, L4, hl18, gl.1.2, q _⟩
end
end D1

namespace D1
open PySem L2
theorem all_mk {l : PySem.W.OpenLaw} {w : World} {K : PySem.W.Frag} {h : Heap} {mg : Str → Option Value} {fa : Addr} (X : K.In h) (G : h.Ns mainGlobals mg) (hfa : mg "law" = some (.ref fa)) {f0 f1 f2 f3 f4 f5 f6 f7 f8 f9 f10 f11 f12 f13 f14 f15 f16 f17 f18 f19 f20 f21 f22 f23 f24 f25 f26 f27 f28 f29 CLoad CDepotError CBadLoad CBadRounds : Addr} {od0 an0 od1 an1 od2 an2 od3 an3 od4 an4 od5 an5 od6 an6 od7 an7 od8 an8 od9 an9 od10 an10 od11 an11 od12 an12 od13 an13 od14 an14 od15 an15 od16 an16 od17 an17 od18 an18 od19 an19 od20 an20 od21 an21 od22 an22 od23 an23 od24 an24 od25 an25 od26 an26 od27 an27 od28 an28 od29 an29 : Option Addr} {sl0 sl1 sl2 sl3 sl4 sl5 sl6 sl7 sl8 sl9 sl10 sl11 sl12 sl13 sl14 sl15 sl16 sl17 sl18 sl19 sl20 sl21 sl22 sl23 sl24 sl25 sl26 sl27 sl28 sl29 : Array (Option Value)} {oc0 kV0 dc0 pm0 cd0 ct0 oc1 kV1 dc1 pm1 cd1 ct1 oc2 kV2 dc2 pm2 cd2 ct2 oc3 kV3 dc3 pm3 cd3 ct3 oc4 kV4 dc4 pm4 cd4 ct4 oc5 kV5 dc5 pm5 cd5 ct5 oc6 kV6 dc6 pm6 cd6 ct6 oc7 kV7 dc7 pm7 cd7 ct7 oc8 kV8 dc8 pm8 cd8 ct8 oc9 kV9 dc9 pm9 cd9 ct9 oc10 kV10 dc10 pm10 cd10 ct10 oc11 kV11 dc11 pm11 cd11 ct11 oc12 kV12 dc12 pm12 cd12 ct12 oc13 kV13 dc13 pm13 cd13 ct13 oc14 kV14 dc14 pm14 cd14 ct14 oc15 kV15 dc15 pm15 cd15 ct15 oc16 kV16 dc16 pm16 cd16 ct16 oc17 kV17 dc17 pm17 cd17 ct17 oc18 kV18 dc18 pm18 cd18 ct18 oc19 kV19 dc19 pm19 cd19 ct19 oc20 kV20 dc20 pm20 cd20 ct20 oc21 kV21 dc21 pm21 cd21 ct21 oc22 kV22 dc22 pm22 cd22 ct22 oc23 kV23 dc23 pm23 cd23 ct23 oc24 kV24 dc24 pm24 cd24 ct24 oc25 kV25 dc25 pm25 cd25 ct25 oc26 kV26 dc26 pm26 cd26 ct26 oc27 kV27 dc27 pm27 cd27 ct27 oc28 kV28 dc28 pm28 cd28 ct28 oc29 kV29 dc29 pm29 cd29 ct29 : Value} {u_MOST_LENGTH : Tok}
    (k_MOST_LENGTH : PySem.W.nsIn K mainGlobals "MOST_LENGTH" = some (some (.int 60 u_MOST_LENGTH)))
    (z_len : PySem.W.nsIn K mainGlobals "len" = some none)
    (z_min : PySem.W.nsIn K mainGlobals "min" = some none)
    (z_max : PySem.W.nsIn K mainGlobals "max" = some none)
    (z_list : PySem.W.nsIn K mainGlobals "list" = some none)
    (z_zip : PySem.W.nsIn K mainGlobals "zip" = some none)
    (z_any : PySem.W.nsIn K mainGlobals "any" = some none)
    (z_all : PySem.W.nsIn K mainGlobals "all" = some none)
    (z_abs : PySem.W.nsIn K mainGlobals "abs" = some none)
    (z_int : PySem.W.nsIn K mainGlobals "int" = some none)
    (z_bool : PySem.W.nsIn K mainGlobals "bool" = some none)
    (z_str : PySem.W.nsIn K mainGlobals "str" = some none)
    (z_isinstance : PySem.W.nsIn K mainGlobals "isinstance" = some none)
    (z_tuple : PySem.W.nsIn K mainGlobals "tuple" = some none)
    (z_range : PySem.W.nsIn K mainGlobals "range" = some none)
    (z_ValueError : PySem.W.nsIn K mainGlobals "ValueError" = some none)
    (a_Load : PySem.W.nsIn K mainGlobals "Load" = some (some (.ref CLoad)))
    (pg_Load : PySem.W.plainGet K CLoad Str.empty = true)
    (hd_Load : PySem.W.hasDictIn K CLoad = true)
    (po_Load : PySem.W.plainOver K CLoad = true)
    (sa_Load : PySem.W.findIn K (.ref CLoad) "__setattr__" = some (some (.builtin "object.__setattr__")))
    (mk_Load : PySem.W.makesIn K CLoad = true)
    (kc_Load : PySem.W.keepIn K (.ref CLoad) = true)
    (na_Load__counts : PySem.W.findIn K (.ref CLoad) "_counts" = some none)
    (a0 : PySem.W.nsIn K mainGlobals "check_length" = some (some (.ref f0)))
    (l0 : K.lookup f0 = some ⟨oc0, od0, .func (PySem.W.fnOf "check_length" "check_length" (defArgs sClen) (defBody sClen) (defScope sClen) .none kV0 dc0 pm0 an0 cd0 ct0), sl0⟩)
    (c0 : PySem.W.codeIn K cd0 "check_length" = true)
    (k0 : PySem.W.keepIn K (.ref f0) = true)
    (a1 : PySem.W.nsIn K mainGlobals "check_least" = some (some (.ref f1)))
    (l1 : K.lookup f1 = some ⟨oc1, od1, .func (PySem.W.fnOf "check_least" "check_least" (defArgs sClst) (defBody sClst) (defScope sClst) .none kV1 dc1 pm1 an1 cd1 ct1), sl1⟩)
    (c1 : PySem.W.codeIn K cd1 "check_least" = true)
    (k1 : PySem.W.keepIn K (.ref f1) = true)
    (a2 : PySem.W.findIn K (.ref CLoad) "__init__" = some (some (.ref f2)))
    (i2 : PySem.W.isFn K (.ref f2) = true)
    (l2 : K.lookup f2 = some ⟨oc2, od2, .func (PySem.W.fnOf "__init__" "Load.__init__" (defArgs sInit) (defBody sInit) (defScope sInit) .none kV2 dc2 pm2 an2 cd2 ct2), sl2⟩)
    (c2 : PySem.W.codeIn K cd2 "Load.__init__" = true)
    (k2 : PySem.W.keepIn K (.ref f2) = true)
    (a3 : PySem.W.findIn K (.ref CLoad) "_check_minute" = some (some (.ref f3)))
    (i3 : PySem.W.isFn K (.ref f3) = true)
    (l3 : K.lookup f3 = some ⟨oc3, od3, .func (PySem.W.fnOf "_check_minute" "Load._check_minute" (defArgs sCmin) (defBody sCmin) (defScope sCmin) .none kV3 dc3 pm3 an3 cd3 ct3), sl3⟩)
    (c3 : PySem.W.codeIn K cd3 "Load._check_minute" = true)
    (k3 : PySem.W.keepIn K (.ref f3) = true)
    (a4 : PySem.W.findIn K (.ref CLoad) "_pairs" = some (some (.ref f4)))
    (i4 : PySem.W.isFn K (.ref f4) = true)
    (l4 : K.lookup f4 = some ⟨oc4, od4, .func (PySem.W.fnOf "_pairs" "Load._pairs" (defArgs sPrs) (defBody sPrs) (defScope sPrs) .none kV4 dc4 pm4 an4 cd4 ct4), sl4⟩)
    (c4 : PySem.W.codeIn K cd4 "Load._pairs" = true)
    (k4 : PySem.W.keepIn K (.ref f4) = true)
    (a5 : PySem.W.findIn K (.ref CLoad) "__len__" = some (some (.ref f5)))
    (i5 : PySem.W.isFn K (.ref f5) = true)
    (l5 : K.lookup f5 = some ⟨oc5, od5, .func (PySem.W.fnOf "__len__" "Load.__len__" (defArgs sLen) (defBody sLen) (defScope sLen) .none kV5 dc5 pm5 an5 cd5 ct5), sl5⟩)
    (c5 : PySem.W.codeIn K cd5 "Load.__len__" = true)
    (k5 : PySem.W.keepIn K (.ref f5) = true)
    (a6 : PySem.W.findIn K (.ref CLoad) "__getitem__" = some (some (.ref f6)))
    (i6 : PySem.W.isFn K (.ref f6) = true)
    (l6 : K.lookup f6 = some ⟨oc6, od6, .func (PySem.W.fnOf "__getitem__" "Load.__getitem__" (defArgs sGet) (defBody sGet) (defScope sGet) .none kV6 dc6 pm6 an6 cd6 ct6), sl6⟩)
    (c6 : PySem.W.codeIn K cd6 "Load.__getitem__" = true)
    (k6 : PySem.W.keepIn K (.ref f6) = true)
    (a7 : PySem.W.findIn K (.ref CLoad) "put" = some (some (.ref f7)))
    (i7 : PySem.W.isFn K (.ref f7) = true)
    (l7 : K.lookup f7 = some ⟨oc7, od7, .func (PySem.W.fnOf "put" "Load.put" (defArgs sPut) (defBody sPut) (defScope sPut) .none kV7 dc7 pm7 an7 cd7 ct7), sl7⟩)
    (c7 : PySem.W.codeIn K cd7 "Load.put" = true)
    (k7 : PySem.W.keepIn K (.ref f7) = true)
    (a8 : PySem.W.findIn K (.ref CLoad) "__bool__" = some (some (.ref f8)))
    (i8 : PySem.W.isFn K (.ref f8) = true)
    (l8 : K.lookup f8 = some ⟨oc8, od8, .func (PySem.W.fnOf "__bool__" "Load.__bool__" (defArgs sBoo) (defBody sBoo) (defScope sBoo) .none kV8 dc8 pm8 an8 cd8 ct8), sl8⟩)
    (c8 : PySem.W.codeIn K cd8 "Load.__bool__" = true)
    (k8 : PySem.W.keepIn K (.ref f8) = true)
    (a9 : PySem.W.findIn K (.ref CLoad) "__eq__" = some (some (.ref f9)))
    (i9 : PySem.W.isFn K (.ref f9) = true)
    (l9 : K.lookup f9 = some ⟨oc9, od9, .func (PySem.W.fnOf "__eq__" "Load.__eq__" (defArgs sEq) (defBody sEq) (defScope sEq) .none kV9 dc9 pm9 an9 cd9 ct9), sl9⟩)
    (c9 : PySem.W.codeIn K cd9 "Load.__eq__" = true)
    (k9 : PySem.W.keepIn K (.ref f9) = true)
    (a10 : PySem.W.findIn K (.ref CLoad) "__add__" = some (some (.ref f10)))
    (i10 : PySem.W.isFn K (.ref f10) = true)
    (l10 : K.lookup f10 = some ⟨oc10, od10, .func (PySem.W.fnOf "__add__" "Load.__add__" (defArgs sAdd) (defBody sAdd) (defScope sAdd) .none kV10 dc10 pm10 an10 cd10 ct10), sl10⟩)
    (c10 : PySem.W.codeIn K cd10 "Load.__add__" = true)
    (k10 : PySem.W.keepIn K (.ref f10) = true)
    (a11 : PySem.W.findIn K (.ref CLoad) "__sub__" = some (some (.ref f11)))
    (i11 : PySem.W.isFn K (.ref f11) = true)
    (l11 : K.lookup f11 = some ⟨oc11, od11, .func (PySem.W.fnOf "__sub__" "Load.__sub__" (defArgs sSub) (defBody sSub) (defScope sSub) .none kV11 dc11 pm11 an11 cd11 ct11), sl11⟩)
    (c11 : PySem.W.codeIn K cd11 "Load.__sub__" = true)
    (k11 : PySem.W.keepIn K (.ref f11) = true)
    (a12 : PySem.W.findIn K (.ref CLoad) "__or__" = some (some (.ref f12)))
    (i12 : PySem.W.isFn K (.ref f12) = true)
    (l12 : K.lookup f12 = some ⟨oc12, od12, .func (PySem.W.fnOf "__or__" "Load.__or__" (defArgs sOr) (defBody sOr) (defScope sOr) .none kV12 dc12 pm12 an12 cd12 ct12), sl12⟩)
    (c12 : PySem.W.codeIn K cd12 "Load.__or__" = true)
    (k12 : PySem.W.keepIn K (.ref f12) = true)
    (a13 : PySem.W.findIn K (.ref CLoad) "__and__" = some (some (.ref f13)))
    (i13 : PySem.W.isFn K (.ref f13) = true)
    (l13 : K.lookup f13 = some ⟨oc13, od13, .func (PySem.W.fnOf "__and__" "Load.__and__" (defArgs sAnd) (defBody sAnd) (defScope sAnd) .none kV13 dc13 pm13 an13 cd13 ct13), sl13⟩)
    (c13 : PySem.W.codeIn K cd13 "Load.__and__" = true)
    (k13 : PySem.W.keepIn K (.ref f13) = true)
    (a14 : PySem.W.findIn K (.ref CLoad) "__xor__" = some (some (.ref f14)))
    (i14 : PySem.W.isFn K (.ref f14) = true)
    (l14 : K.lookup f14 = some ⟨oc14, od14, .func (PySem.W.fnOf "__xor__" "Load.__xor__" (defArgs sXor) (defBody sXor) (defScope sXor) .none kV14 dc14 pm14 an14 cd14 ct14), sl14⟩)
    (c14 : PySem.W.codeIn K cd14 "Load.__xor__" = true)
    (k14 : PySem.W.keepIn K (.ref f14) = true)
    (a15 : PySem.W.findIn K (.ref CLoad) "within" = some (some (.ref f15)))
    (i15 : PySem.W.isFn K (.ref f15) = true)
    (l15 : K.lookup f15 = some ⟨oc15, od15, .func (PySem.W.fnOf "within" "Load.within" (defArgs sWth) (defBody sWth) (defScope sWth) .none kV15 dc15 pm15 an15 cd15 ct15), sl15⟩)
    (c15 : PySem.W.codeIn K cd15 "Load.within" = true)
    (k15 : PySem.W.keepIn K (.ref f15) = true)
    (a16 : PySem.W.nsIn K mainGlobals "_law_cell" = some (some (.ref f16)))
    (l16 : K.lookup f16 = some ⟨oc16, od16, .func (PySem.W.fnOf "_law_cell" "_law_cell" (defArgs sCell) (defBody sCell) (defScope sCell) .none kV16 dc16 pm16 an16 cd16 ct16), sl16⟩)
    (c16 : PySem.W.codeIn K cd16 "_law_cell" = true)
    (k16 : PySem.W.keepIn K (.ref f16) = true)
    (a17 : PySem.W.nsIn K mainGlobals "_law_pool" = some (some (.ref f17)))
    (l17 : K.lookup f17 = some ⟨oc17, od17, .func (PySem.W.fnOf "_law_pool" "_law_pool" (defArgs sPool) (defBody sPool) (defScope sPool) .none kV17 dc17 pm17 an17 cd17 ct17), sl17⟩)
    (c17 : PySem.W.codeIn K cd17 "_law_pool" = true)
    (k17 : PySem.W.keepIn K (.ref f17) = true)
    (a18 : PySem.W.nsIn K mainGlobals "_law_take" = some (some (.ref f18)))
    (l18 : K.lookup f18 = some ⟨oc18, od18, .func (PySem.W.fnOf "_law_take" "_law_take" (defArgs sTake) (defBody sTake) (defScope sTake) .none kV18 dc18 pm18 an18 cd18 ct18), sl18⟩)
    (c18 : PySem.W.codeIn K cd18 "_law_take" = true)
    (k18 : PySem.W.keepIn K (.ref f18) = true)
    (a19 : PySem.W.nsIn K mainGlobals "_law_same" = some (some (.ref f19)))
    (l19 : K.lookup f19 = some ⟨oc19, od19, .func (PySem.W.fnOf "_law_same" "_law_same" (defArgs sSame) (defBody sSame) (defScope sSame) .none kV19 dc19 pm19 an19 cd19 ct19), sl19⟩)
    (c19 : PySem.W.codeIn K cd19 "_law_same" = true)
    (k19 : PySem.W.keepIn K (.ref f19) = true)
    (a20 : PySem.W.nsIn K mainGlobals "_law_size" = some (some (.ref f20)))
    (l20 : K.lookup f20 = some ⟨oc20, od20, .func (PySem.W.fnOf "_law_size" "_law_size" (defArgs sSize) (defBody sSize) (defScope sSize) .none kV20 dc20 pm20 an20 cd20 ct20), sl20⟩)
    (c20 : PySem.W.codeIn K cd20 "_law_size" = true)
    (k20 : PySem.W.keepIn K (.ref f20) = true)
    (a21 : PySem.W.nsIn K mainGlobals "_law_count" = some (some (.ref f21)))
    (l21 : K.lookup f21 = some ⟨oc21, od21, .func (PySem.W.fnOf "_law_count" "_law_count" (defArgs sCount) (defBody sCount) (defScope sCount) .none kV21 dc21 pm21 an21 cd21 ct21), sl21⟩)
    (c21 : PySem.W.codeIn K cd21 "_law_count" = true)
    (k21 : PySem.W.keepIn K (.ref f21) = true)
    (a22 : PySem.W.nsIn K mainGlobals "_law_is_load" = some (some (.ref f22)))
    (l22 : K.lookup f22 = some ⟨oc22, od22, .func (PySem.W.fnOf "_law_is_load" "_law_is_load" (defArgs sIsl) (defBody sIsl) (defScope sIsl) .none kV22 dc22 pm22 an22 cd22 ct22), sl22⟩)
    (c22 : PySem.W.codeIn K cd22 "_law_is_load" = true)
    (k22 : PySem.W.keepIn K (.ref f22) = true)
    (a23 : PySem.W.nsIn K mainGlobals "_law_beside" = some (some (.ref f23)))
    (l23 : K.lookup f23 = some ⟨oc23, od23, .func (PySem.W.fnOf "_law_beside" "_law_beside" (defArgs sBes) (defBody sBes) (defScope sBes) .none kV23 dc23 pm23 an23 cd23 ct23), sl23⟩)
    (c23 : PySem.W.codeIn K cd23 "_law_beside" = true)
    (k23 : PySem.W.keepIn K (.ref f23) = true)
    (a24 : PySem.W.nsIn K mainGlobals "_law_due" = some (some (.ref f24)))
    (l24 : K.lookup f24 = some ⟨oc24, od24, .func (PySem.W.fnOf "_law_due" "_law_due" (defArgs sDue) (defBody sDue) (defScope sDue) .none kV24 dc24 pm24 an24 cd24 ct24), sl24⟩)
    (c24 : PySem.W.codeIn K cd24 "_law_due" = true)
    (k24 : PySem.W.keepIn K (.ref f24) = true)
    (a25 : PySem.W.nsIn K mainGlobals "_law_made" = some (some (.ref f25)))
    (l25 : K.lookup f25 = some ⟨oc25, od25, .func (PySem.W.fnOf "_law_made" "_law_made" (defArgs sMade) (defBody sMade) (defScope sMade) .none kV25 dc25 pm25 an25 cd25 ct25), sl25⟩)
    (c25 : PySem.W.codeIn K cd25 "_law_made" = true)
    (k25 : PySem.W.keepIn K (.ref f25) = true)
    (a26 : PySem.W.nsIn K mainGlobals "_law_refuses" = some (some (.ref f26)))
    (l26 : K.lookup f26 = some ⟨oc26, od26, .func (PySem.W.fnOf "_law_refuses" "_law_refuses" (defArgs sRf) (defBody sRf) (defScope sRf) .none kV26 dc26 pm26 an26 cd26 ct26), sl26⟩)
    (c26 : PySem.W.codeIn K cd26 "_law_refuses" = true)
    (k26 : PySem.W.keepIn K (.ref f26) = true)
    (a27 : PySem.W.nsIn K mainGlobals "_law_signs" = some (some (.ref f27)))
    (l27 : K.lookup f27 = some ⟨oc27, od27, .func (PySem.W.fnOf "_law_signs" "_law_signs" (defArgs sSgn) (defBody sSgn) (defScope sSgn) .none kV27 dc27 pm27 an27 cd27 ct27), sl27⟩)
    (c27 : PySem.W.codeIn K cd27 "_law_signs" = true)
    (k27 : PySem.W.keepIn K (.ref f27) = true)
    (a28 : PySem.W.nsIn K mainGlobals "_law_rules" = some (some (.ref f28)))
    (l28 : K.lookup f28 = some ⟨oc28, od28, .func (PySem.W.fnOf "_law_rules" "_law_rules" (defArgs sRul) (defBody sRul) (defScope sRul) .none kV28 dc28 pm28 an28 cd28 ct28), sl28⟩)
    (c28 : PySem.W.codeIn K cd28 "_law_rules" = true)
    (k28 : PySem.W.keepIn K (.ref f28) = true)
    (a29 : PySem.W.nsIn K mainGlobals "law" = some (some (.ref f29)))
    (l29 : K.lookup f29 = some ⟨oc29, od29, .func (PySem.W.fnOf "law" "law" (defArgs sLaw) (defBody sLaw) (defScope sLaw) .none kV29 dc29 pm29 an29 cd29 ct29), sl29⟩)
    (c29 : PySem.W.codeIn K cd29 "law" = true)
    (k29 : PySem.W.keepIn K (.ref f29) = true)
    (a_DepotError : PySem.W.nsIn K mainGlobals "DepotError" = some (some (.ref CDepotError)))
    (a_BadLoad : PySem.W.nsIn K mainGlobals "BadLoad" = some (some (.ref CBadLoad)))
    (a_BadRounds : PySem.W.nsIn K mainGlobals "BadRounds" = some (some (.ref CBadRounds)))
    (h_xo_BadLoad : PySem.W.excIn K CBadLoad [.type "ValueError", .type "Exception", .type "BaseException", .type "object"] "ValueError.__new__" = true)
    (h_kp_BadLoad : PySem.W.keepIn K (.ref CBadLoad) = true)
    (h_ty_DepotError : PySem.W.typeIn K (.ref CDepotError) = some (.type "type"))
    (h_bs_DepotError : PySem.W.subIn K (.ref CDepotError) (.type "BaseException") = some true)
    (h_hd_DepotError : PySem.W.hasDictIn K CDepotError = true)
    (h_ty_BadLoad : PySem.W.typeIn K (.ref CBadLoad) = some (.type "type"))
    (h_bs_BadLoad : PySem.W.subIn K (.ref CBadLoad) (.type "BaseException") = some true)
    (h_hd_BadLoad : PySem.W.hasDictIn K CBadLoad = true)
    (h_ty_BadRounds : PySem.W.typeIn K (.ref CBadRounds) = some (.type "type"))
    (h_bs_BadRounds : PySem.W.subIn K (.ref CBadRounds) (.type "BaseException") = some true)
    (h_hd_BadRounds : PySem.W.hasDictIn K CBadRounds = true)
    (h_sb_BadLoad_DepotError : PySem.W.subIn K (.ref CBadLoad) (.ref CDepotError) = some true)
    (h_sb_BadLoad_BadRounds : PySem.W.subIn K (.ref CBadLoad) (.ref CBadRounds) = some false)
    (h_sb_BadLoad_self : PySem.W.subIn K (.ref CBadLoad) (.ref CBadLoad) = some true)
    (h_sb_BadLoad_ValueError : PySem.W.subIn K (.ref CBadLoad) (.type "ValueError") = some true)
    (h_ga_BadLoad : PySem.W.findIn K (.ref CBadLoad) "__getattribute__" = some (some (.builtin "BaseException.__getattribute__")))
    (h_gg_BadLoad : PySem.W.findIn K (.ref CBadLoad) "__getattr__" = some none)
    (h_cl_BadLoad : PySem.W.findIn K (.ref CBadLoad) "__class__" = some (some (.builtin "object.__class__")))
    (h_sp_class : PySem.W.specialIn K (.builtin "object.__class__") "__get__" = some (some (.builtin "getset_descriptor.__get__")))
    (h_tk_class : PySem.W.takesIn K (.builtin "object.__class__") = some true)
    (h_mr_BadLoad : PySem.W.mroIn K CBadLoad (.type "object") = some true)
    (h_sf_Load : PySem.W.selfFirst K CLoad = true)
    (h_ic_Load : PySem.W.findIn K (.ref CLoad) "__class__" = some (some (.builtin "object.__class__")))
    (h_mr_Load : PySem.W.mroIn K CLoad (.type "object") = some true)
    (h_fng : PySem.W.fnIn K f6 = true) :
    ∃ fd : FuncData, (∀ (s : Shared) (v : Value), BindsTo s fd ⟨[v], []⟩ [("_law_script", v)]) ∧ ∀ base : Heap, K.In base → base.Ns mainGlobals mg → FnOk l.prog w K mg base CX0 14 fa fd ["_law_script"] (spLaw K) := by
  have e := hfa.symm.trans (PySem.W.mg_of X G a29)
  cases e
  have F0 := fun_mk (st := sClen) l0 c0 k0
  have b0 := F0.binds (ps := ["length"]) fun _ _ _ _ _ _ us hl => match us, hl with | [_], _ => rfl
  have F1 := fun_mk (st := sClst) l1 c1 k1
  have b1 := F1.binds (ps := ["number", "least"]) fun _ _ _ _ _ _ us hl => match us, hl with | [_, _], _ => rfl
  have F2 := fun_mk (st := sInit) l2 c2 k2
  have b2 := F2.binds (ps := ["self", "counts"]) fun _ _ _ _ _ _ us hl => match us, hl with | [_, _], _ => rfl
  have F3 := fun_mk (st := sCmin) l3 c3 k3
  have b3 := F3.binds (ps := ["self", "minute"]) fun _ _ _ _ _ _ us hl => match us, hl with | [_, _], _ => rfl
  have F4 := fun_mk (st := sPrs) l4 c4 k4
  have b4 := F4.binds (ps := ["self", "other"]) fun _ _ _ _ _ _ us hl => match us, hl with | [_, _], _ => rfl
  have F5 := fun_mk (st := sLen) l5 c5 k5
  have b5 := F5.binds (ps := ["self"]) fun _ _ _ _ _ _ us hl => match us, hl with | [_], _ => rfl
  have F6 := fun_mk (st := sGet) l6 c6 k6
  have b6 := F6.binds (ps := ["self", "at"]) fun _ _ _ _ _ _ us hl => match us, hl with | [_, _], _ => rfl
  have F7 := fun_mk (st := sPut) l7 c7 k7
  have b7 := F7.binds (ps := ["self", "minute", "count"]) fun _ _ _ _ _ _ us hl => match us, hl with | [_, _, _], _ => rfl
  have F8 := fun_mk (st := sBoo) l8 c8 k8
  have b8 := F8.binds (ps := ["self"]) fun _ _ _ _ _ _ us hl => match us, hl with | [_], _ => rfl
  have F9 := fun_mk (st := sEq) l9 c9 k9
  have b9 := F9.binds (ps := ["self", "other"]) fun _ _ _ _ _ _ us hl => match us, hl with | [_, _], _ => rfl
  have F10 := fun_mk (st := sAdd) l10 c10 k10
  have b10 := F10.binds (ps := ["self", "other"]) fun _ _ _ _ _ _ us hl => match us, hl with | [_, _], _ => rfl
  have F11 := fun_mk (st := sSub) l11 c11 k11
  have b11 := F11.binds (ps := ["self", "other"]) fun _ _ _ _ _ _ us hl => match us, hl with | [_, _], _ => rfl
  have F12 := fun_mk (st := sOr) l12 c12 k12
  have b12 := F12.binds (ps := ["self", "other"]) fun _ _ _ _ _ _ us hl => match us, hl with | [_, _], _ => rfl
  have F13 := fun_mk (st := sAnd) l13 c13 k13
  have b13 := F13.binds (ps := ["self", "other"]) fun _ _ _ _ _ _ us hl => match us, hl with | [_, _], _ => rfl
  have F14 := fun_mk (st := sXor) l14 c14 k14
  have b14 := F14.binds (ps := ["self", "other"]) fun _ _ _ _ _ _ us hl => match us, hl with | [_, _], _ => rfl
  have F15 := fun_mk (st := sWth) l15 c15 k15
  have b15 := F15.binds (ps := ["self", "other"]) fun _ _ _ _ _ _ us hl => match us, hl with | [_, _], _ => rfl
  have F16 := fun_mk (st := sCell) l16 c16 k16
  have b16 := F16.binds (ps := ["_law_script", "_law_k"]) fun _ _ _ _ _ _ us hl => match us, hl with | [_, _], _ => rfl
  have F17 := fun_mk (st := sPool) l17 c17 k17
  have b17 := F17.binds (ps := ["_law_script", "_law_k"]) fun _ _ _ _ _ _ us hl => match us, hl with | [_, _], _ => rfl
  have F18 := fun_mk (st := sTake) l18 c18 k18
  have b18 := F18.binds (ps := ["_law_pool_here", "_law_many"]) fun _ _ _ _ _ _ us hl => match us, hl with | [_, _], _ => rfl
  have F19 := fun_mk (st := sSame) l19 c19 k19
  have b19 := F19.binds (ps := ["_law_got", "_law_due_here"]) fun _ _ _ _ _ _ us hl => match us, hl with | [_, _], _ => rfl
  have F20 := fun_mk (st := sSize) l20 c20 k20
  have b20 := F20.binds (ps := ["_law_pool_here"]) fun _ _ _ _ _ _ us hl => match us, hl with | [_], _ => rfl
  have F21 := fun_mk (st := sCount) l21 c21 k21
  have b21 := F21.binds (ps := ["_law_pool_here"]) fun _ _ _ _ _ _ us hl => match us, hl with | [_], _ => rfl
  have F22 := fun_mk (st := sIsl) l22 c22 k22
  have b22 := F22.binds (ps := ["_law_got", "_law_counts"]) fun _ _ _ _ _ _ us hl => match us, hl with | [_, _], _ => rfl
  have F23 := fun_mk (st := sBes) l23 c23 k23
  have b23 := F23.binds (ps := ["_law_pool_here", "_law_counts"]) fun _ _ _ _ _ _ us hl => match us, hl with | [_, _], _ => rfl
  have F24 := fun_mk (st := sDue) l24 c24 k24
  have b24 := F24.binds (ps := ["_law_way", "_law_first", "_law_second"]) fun _ _ _ _ _ _ us hl => match us, hl with | [_, _, _], _ => rfl
  have F25 := fun_mk (st := sMade) l25 c25 k25
  have b25 := F25.binds (ps := ["_law_way", "_law_one", "_law_two"]) fun _ _ _ _ _ _ us hl => match us, hl with | [_, _, _], _ => rfl
  have F26 := fun_mk (st := sRf) l26 c26 k26
  have b26 := F26.binds (ps := ["_law_way", "_law_one", "_law_two"]) fun _ _ _ _ _ _ us hl => match us, hl with | [_, _, _], _ => rfl
  have F27 := fun_mk (st := sSgn) l27 c27 k27
  have b27 := F27.binds (ps := ["_law_one", "_law_first", "_law_two", "_law_second"]) fun _ _ _ _ _ _ us hl => match us, hl with | [_, _, _, _], _ => rfl
  have F28 := fun_mk (st := sRul) l28 c28 k28
  have b28 := F28.binds (ps := ["_law_one", "_law_two", "_law_three"]) fun _ _ _ _ _ _ us hl => match us, hl with | [_, _, _], _ => rfl
  have F29 := fun_mk (st := sLaw) l29 c29 k29
  have b29 := F29.binds (ps := ["_law_script"]) fun _ _ _ _ _ _ us hl => match us, hl with | [_], _ => rfl
  let T : Tx K mg := { t_MOST_LENGTH := _, c_MOST_LENGTH := PySem.W.mg_of X G k_MOST_LENGTH, z_len := PySem.W.mg_none_of X G z_len, z_min := PySem.W.mg_none_of X G z_min, z_max := PySem.W.mg_none_of X G z_max, z_list := PySem.W.mg_none_of X G z_list, z_zip := PySem.W.mg_none_of X G z_zip, z_any := PySem.W.mg_none_of X G z_any, z_all := PySem.W.mg_none_of X G z_all, z_abs := PySem.W.mg_none_of X G z_abs, z_int := PySem.W.mg_none_of X G z_int, z_bool := PySem.W.mg_none_of X G z_bool, z_str := PySem.W.mg_none_of X G z_str, z_isinstance := PySem.W.mg_none_of X G z_isinstance, z_tuple := PySem.W.mg_none_of X G z_tuple, z_range := PySem.W.mg_none_of X G z_range, z_ValueError := PySem.W.mg_none_of X G z_ValueError, C_Load := CLoad, g_Load := PySem.W.mg_of X G a_Load, cl_Load := ⟨pg_Load, hd_Load, po_Load, sa_Load⟩, na_Load__counts := na_Load__counts, fcheck_length := f0, dcheck_length := _, Fcheck_length := F0, bcheck_length := b0, gcheck_length := PySem.W.mg_of X G a0, fcheck_least := f1, dcheck_least := _, Fcheck_least := F1, bcheck_least := b1, gcheck_least := PySem.W.mg_of X G a1, fLoad_init := f2, dLoad_init := _, FLoad_init := F2, bLoad_init := b2, M_Load := ⟨mk_Load, a2, i2, kc_Load⟩, fLoad_check_minute := f3, dLoad_check_minute := _, FLoad_check_minute := F3, bLoad_check_minute := b3, m_Load_check_minute := ⟨a3, i3, k3⟩, fLoad_pairs := f4, dLoad_pairs := _, FLoad_pairs := F4, bLoad_pairs := b4, m_Load_pairs := ⟨a4, i4, k4⟩, fLoad_len := f5, dLoad_len := _, FLoad_len := F5, bLoad_len := b5, m_Load_len := ⟨a5, i5, k5⟩, fLoad_getitem := f6, dLoad_getitem := _, FLoad_getitem := F6, bLoad_getitem := b6, m_Load_getitem := ⟨a6, i6, k6⟩, fLoad_put := f7, dLoad_put := _, FLoad_put := F7, bLoad_put := b7, m_Load_put := ⟨a7, i7, k7⟩, fLoad_bool := f8, dLoad_bool := _, FLoad_bool := F8, bLoad_bool := b8, m_Load_bool := ⟨a8, i8, k8⟩, fLoad_eq := f9, dLoad_eq := _, FLoad_eq := F9, bLoad_eq := b9, m_Load_eq := ⟨a9, i9, k9⟩, fLoad_add := f10, dLoad_add := _, FLoad_add := F10, bLoad_add := b10, m_Load_add := ⟨a10, i10, k10⟩, fLoad_sub := f11, dLoad_sub := _, FLoad_sub := F11, bLoad_sub := b11, m_Load_sub := ⟨a11, i11, k11⟩, fLoad_or := f12, dLoad_or := _, FLoad_or := F12, bLoad_or := b12, m_Load_or := ⟨a12, i12, k12⟩, fLoad_and := f13, dLoad_and := _, FLoad_and := F13, bLoad_and := b13, m_Load_and := ⟨a13, i13, k13⟩, fLoad_xor := f14, dLoad_xor := _, FLoad_xor := F14, bLoad_xor := b14, m_Load_xor := ⟨a14, i14, k14⟩, fLoad_within := f15, dLoad_within := _, FLoad_within := F15, bLoad_within := b15, m_Load_within := ⟨a15, i15, k15⟩, f_law_cell := f16, d_law_cell := _, F_law_cell := F16, b_law_cell := b16, g_law_cell := PySem.W.mg_of X G a16, f_law_pool := f17, d_law_pool := _, F_law_pool := F17, b_law_pool := b17, g_law_pool := PySem.W.mg_of X G a17, f_law_take := f18, d_law_take := _, F_law_take := F18, b_law_take := b18, g_law_take := PySem.W.mg_of X G a18, f_law_same := f19, d_law_same := _, F_law_same := F19, b_law_same := b19, g_law_same := PySem.W.mg_of X G a19, f_law_size := f20, d_law_size := _, F_law_size := F20, b_law_size := b20, g_law_size := PySem.W.mg_of X G a20, f_law_count := f21, d_law_count := _, F_law_count := F21, b_law_count := b21, g_law_count := PySem.W.mg_of X G a21, f_law_is_load := f22, d_law_is_load := _, F_law_is_load := F22, b_law_is_load := b22, g_law_is_load := PySem.W.mg_of X G a22, f_law_beside := f23, d_law_beside := _, F_law_beside := F23, b_law_beside := b23, g_law_beside := PySem.W.mg_of X G a23, f_law_due := f24, d_law_due := _, F_law_due := F24, b_law_due := b24, g_law_due := PySem.W.mg_of X G a24, f_law_made := f25, d_law_made := _, F_law_made := F25, b_law_made := b25, g_law_made := PySem.W.mg_of X G a25, f_law_refuses := f26, d_law_refuses := _, F_law_refuses := F26, b_law_refuses := b26, g_law_refuses := PySem.W.mg_of X G a26, f_law_signs := f27, d_law_signs := _, F_law_signs := F27, b_law_signs := b27, g_law_signs := PySem.W.mg_of X G a27, f_law_rules := f28, d_law_rules := _, F_law_rules := F28, b_law_rules := b28, g_law_rules := PySem.W.mg_of X G a28, flaw := fa, dlaw := _, Flaw := F29, blaw := b29, glaw := PySem.W.mg_of X G a29, C_DepotError := CDepotError, g_DepotError := PySem.W.mg_of X G a_DepotError, C_BadLoad := CBadLoad, g_BadLoad := PySem.W.mg_of X G a_BadLoad, C_BadRounds := CBadRounds, g_BadRounds := PySem.W.mg_of X G a_BadRounds, xo_BadLoad := h_xo_BadLoad, kp_BadLoad := h_kp_BadLoad, ty_DepotError := h_ty_DepotError, bs_DepotError := h_bs_DepotError, hd_DepotError := h_hd_DepotError, ty_BadLoad := h_ty_BadLoad, bs_BadLoad := h_bs_BadLoad, hd_BadLoad := h_hd_BadLoad, ty_BadRounds := h_ty_BadRounds, bs_BadRounds := h_bs_BadRounds, hd_BadRounds := h_hd_BadRounds, sb_BadLoad_DepotError := h_sb_BadLoad_DepotError, sb_BadLoad_BadRounds := h_sb_BadLoad_BadRounds, sb_BadLoad_self := h_sb_BadLoad_self, sb_BadLoad_ValueError := h_sb_BadLoad_ValueError, ga_BadLoad := h_ga_BadLoad, gg_BadLoad := h_gg_BadLoad, cl_BadLoad := h_cl_BadLoad, sp_class := h_sp_class, tk_class := h_tk_class, mr_BadLoad := h_mr_BadLoad, sf_Load := h_sf_Load, ic_Load := h_ic_Load, mr_Load := h_mr_Load, fn_Load_getitem := h_fng }
  exact ⟨_, fun s v => .of_eq rfl, fun base _ _ => ok_law T⟩
end D1
open PySem PySem.W PyProof.Rows
set_option maxRecDepth 100000 in
set_option maxHeartbeats 0 in
theorem PySem.Challenge.cw_depotday_k01_load_operators_holds : PySem.Challenge.rw_depotday_k01_load_operators.Holds := by
  w_on; o_law; k_head; (case hw => w_witness2)
  k_fill
  refine L2.walk_of (l := PySem.Challenge.rw_depotday_k01_load_operators) (n := 63) (k := 14) (x := "_law_script") (CX := fun _ => L2.CX0) (sp := fun w => D1.spLaw _) rfl (by decide) rfl ⟨rfl, by decide, by decide⟩ (fun w h Y => PySem.W.kIn_of Y) ?F (fun _ _ a ns hl _ hS => ⟨a, ns, rfl, hS, hl, fun _ => rfl⟩) (fun _ _ _ _ _ h => h)
  case F =>
    intro w mg fa h KX G hmg
    refine' D1.all_mk KX G hmg ?k_MOST_LENGTH ?z_len ?z_min ?z_max ?z_list ?z_zip ?z_any ?z_all ?z_abs ?z_int ?z_bool ?z_str ?z_isinstance ?z_tuple ?z_range ?z_ValueError ?a_Load ?pg_Load ?hd_Load ?po_Load ?sa_Load ?mk_Load ?kc_Load ?na_Load__counts ?a0 ?l0 ?c0 ?k0 ?a1 ?l1 ?c1 ?k1 ?a2 ?i2 ?l2 ?c2 ?k2 ?a3 ?i3 ?l3 ?c3 ?k3 ?a4 ?i4 ?l4 ?c4 ?k4 ?a5 ?i5 ?l5 ?c5 ?k5 ?a6 ?i6 ?l6 ?c6 ?k6 ?a7 ?i7 ?l7 ?c7 ?k7 ?a8 ?i8 ?l8 ?c8 ?k8 ?a9 ?i9 ?l9 ?c9 ?k9 ?a10 ?i10 ?l10 ?c10 ?k10 ?a11 ?i11 ?l11 ?c11 ?k11 ?a12 ?i12 ?l12 ?c12 ?k12 ?a13 ?i13 ?l13 ?c13 ?k13 ?a14 ?i14 ?l14 ?c14 ?k14 ?a15 ?i15 ?l15 ?c15 ?k15 ?a16 ?l16 ?c16 ?k16 ?a17 ?l17 ?c17 ?k17 ?a18 ?l18 ?c18 ?k18 ?a19 ?l19 ?c19 ?k19 ?a20 ?l20 ?c20 ?k20 ?a21 ?l21 ?c21 ?k21 ?a22 ?l22 ?c22 ?k22 ?a23 ?l23 ?c23 ?k23 ?a24 ?l24 ?c24 ?k24 ?a25 ?l25 ?c25 ?k25 ?a26 ?l26 ?c26 ?k26 ?a27 ?l27 ?c27 ?k27 ?a28 ?l28 ?c28 ?k28 ?a29 ?l29 ?c29 ?k29 ?a_DepotError ?a_BadLoad ?a_BadRounds ?h_xo_BadLoad ?h_kp_BadLoad ?h_ty_DepotError ?h_bs_DepotError ?h_hd_DepotError ?h_ty_BadLoad ?h_bs_BadLoad ?h_hd_BadLoad ?h_ty_BadRounds ?h_bs_BadRounds ?h_hd_BadRounds ?h_sb_BadLoad_DepotError ?h_sb_BadLoad_BadRounds ?h_sb_BadLoad_self ?h_sb_BadLoad_ValueError ?h_ga_BadLoad ?h_gg_BadLoad ?h_cl_BadLoad ?h_sp_class ?h_tk_class ?h_mr_BadLoad ?h_sf_Load ?h_ic_Load ?h_mr_Load ?h_fng
    (case k_MOST_LENGTH => k_is)
    (case z_len => k_is)
    (case z_min => k_is)
    (case z_max => k_is)
    (case z_list => k_is)
    (case z_zip => k_is)
    (case z_any => k_is)
    (case z_all => k_is)
    (case z_abs => k_is)
    (case z_int => k_is)
    (case z_bool => k_is)
    (case z_str => k_is)
    (case z_isinstance => k_is)
    (case z_tuple => k_is)
    (case z_range => k_is)
    (case z_ValueError => k_is)
    (case a_Load => k_is)
    (case pg_Load => k_is)
    (case hd_Load => k_is)
    (case po_Load => k_is)
    (case sa_Load => k_is)
    (case mk_Load => k_is)
    (case kc_Load => k_is)
    (case na_Load__counts => k_is)
    (case a0 => k_is)
    (case l0 => k_is)
    (case c0 => k_is)
    (case k0 => k_is)
    (case a1 => k_is)
    (case l1 => k_is)
    (case c1 => k_is)
    (case k1 => k_is)
    (case a2 => k_is)
    (case i2 => k_is)
    (case l2 => k_is)
    (case c2 => k_is)
    (case k2 => k_is)
    (case a3 => k_is)
    (case i3 => k_is)
    (case l3 => k_is)
    (case c3 => k_is)
    (case k3 => k_is)
    (case a4 => k_is)
    (case i4 => k_is)
    (case l4 => k_is)
    (case c4 => k_is)
    (case k4 => k_is)
    (case a5 => k_is)
    (case i5 => k_is)
    (case l5 => k_is)
    (case c5 => k_is)
    (case k5 => k_is)
    (case a6 => k_is)
    (case i6 => k_is)
    (case l6 => k_is)
    (case c6 => k_is)
    (case k6 => k_is)
    (case a7 => k_is)
    (case i7 => k_is)
    (case l7 => k_is)
    (case c7 => k_is)
    (case k7 => k_is)
    (case a8 => k_is)
    (case i8 => k_is)
    (case l8 => k_is)
    (case c8 => k_is)
    (case k8 => k_is)
    (case a9 => k_is)
    (case i9 => k_is)
    (case l9 => k_is)
    (case c9 => k_is)
    (case k9 => k_is)
    (case a10 => k_is)
    (case i10 => k_is)
    (case l10 => k_is)
    (case c10 => k_is)
    (case k10 => k_is)
    (case a11 => k_is)
    (case i11 => k_is)
    (case l11 => k_is)
    (case c11 => k_is)
    (case k11 => k_is)
    (case a12 => k_is)
    (case i12 => k_is)
    (case l12 => k_is)
    (case c12 => k_is)
    (case k12 => k_is)
    (case a13 => k_is)
    (case i13 => k_is)
    (case l13 => k_is)
    (case c13 => k_is)
    (case k13 => k_is)
    (case a14 => k_is)
    (case i14 => k_is)
    (case l14 => k_is)
    (case c14 => k_is)
    (case k14 => k_is)
    (case a15 => k_is)
    (case i15 => k_is)
    (case l15 => k_is)
    (case c15 => k_is)
    (case k15 => k_is)
    (case a16 => k_is)
    (case l16 => k_is)
    (case c16 => k_is)
    (case k16 => k_is)
    (case a17 => k_is)
    (case l17 => k_is)
    (case c17 => k_is)
    (case k17 => k_is)
    (case a18 => k_is)
    (case l18 => k_is)
    (case c18 => k_is)
    (case k18 => k_is)
    (case a19 => k_is)
    (case l19 => k_is)
    (case c19 => k_is)
    (case k19 => k_is)
    (case a20 => k_is)
    (case l20 => k_is)
    (case c20 => k_is)
    (case k20 => k_is)
    (case a21 => k_is)
    (case l21 => k_is)
    (case c21 => k_is)
    (case k21 => k_is)
    (case a22 => k_is)
    (case l22 => k_is)
    (case c22 => k_is)
    (case k22 => k_is)
    (case a23 => k_is)
    (case l23 => k_is)
    (case c23 => k_is)
    (case k23 => k_is)
    (case a24 => k_is)
    (case l24 => k_is)
    (case c24 => k_is)
    (case k24 => k_is)
    (case a25 => k_is)
    (case l25 => k_is)
    (case c25 => k_is)
    (case k25 => k_is)
    (case a26 => k_is)
    (case l26 => k_is)
    (case c26 => k_is)
    (case k26 => k_is)
    (case a27 => k_is)
    (case l27 => k_is)
    (case c27 => k_is)
    (case k27 => k_is)
    (case a28 => k_is)
    (case l28 => k_is)
    (case c28 => k_is)
    (case k28 => k_is)
    (case a29 => k_is)
    (case l29 => k_is)
    (case c29 => k_is)
    (case k29 => k_is)
    (case a_DepotError => k_is)
    (case a_BadLoad => k_is)
    (case a_BadRounds => k_is)
    (case h_xo_BadLoad => k_exc)
    (case h_kp_BadLoad => k_is)
    (case h_ty_DepotError => k_is)
    (case h_bs_DepotError => k_is)
    (case h_hd_DepotError => k_is)
    (case h_ty_BadLoad => k_is)
    (case h_bs_BadLoad => k_is)
    (case h_hd_BadLoad => k_is)
    (case h_ty_BadRounds => k_is)
    (case h_bs_BadRounds => k_is)
    (case h_hd_BadRounds => k_is)
    (case h_sb_BadLoad_DepotError => k_is)
    (case h_sb_BadLoad_BadRounds => k_is)
    (case h_sb_BadLoad_self => k_is)
    (case h_sb_BadLoad_ValueError => k_is)
    (case h_ga_BadLoad => k_is)
    (case h_gg_BadLoad => k_is)
    (case h_cl_BadLoad => k_is)
    (case h_sp_class => k_is)
    (case h_tk_class => k_is)
    (case h_mr_BadLoad => k_is)
    (case h_sf_Load => k_is)
    (case h_ic_Load => k_is)
    (case h_mr_Load => k_is)
    (case h_fng => k_is)
#print axioms PySem.Challenge.cw_depotday_k01_load_operators_holds
