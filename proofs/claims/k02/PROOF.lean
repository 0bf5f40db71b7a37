import PyProof.Rows.All
import Wide.All
import OpenK.AllK
import Wide.FinOn
import HandS.ForMost
import HandS.ForExc
import HandS.IsInst
import HandS.Conv
import HandS.NoneIn
import HandS.OwnEq
import HandS.OwnIter
import HandS.ExcIs
import HandS.More
import KE.KOpsOwn
import HandS.IterNext
import HandS.ExcOwn
import PyProof.WalksMore
import KE.KDictZip
import HandS.Rev
import PySem.Challenge.RW_depotday_k02_load_shares
set_option Elab.async false
set_option linter.all false
set_option maxRecDepth 100000
set_option maxHeartbeats 16000000
namespace KO
open PySem PySem.Spec PyProof.Rows L2
/-! ### operators that the text's own classes define -/
section
variable {X : Cx} {CX : CXT} {k : Nat} {f C : Addr} {fd : FuncData} {ps : List Str} {sp : Sp} {E : L2.St → XK}
/-- a method runs, called with values, somewhere with room -/
theorem own_run {A : Around} {pins : List (Addr × Obj)} {σ : L2.St} {H : Hp} {s : Shared} {Q : VK} {us : List Value} {vs : List V} (F : FnOk X.prog X.w X.K X.mg X.base CX k f fd ps sp) (hr : Room k A) (fr : A.frames = X.A.frames) (hb : Binds X.K fd ps [])
    (hx : PassesAt CX X σ (E σ)) (I : Inv X pins σ H s) (r : Vals vs us) (h : sp vs H Q (E σ)) : wpAny (model X.prog X.w) A (call (.ref f) us) (EP X pins σ Q) X.xe s := by
  have hl : us.length = ps.length := r.length.symm.trans (F.len _ _ _ _ h)
  have b := hb s us I.kIn (by rw [List.append_nil]; exact hl)
  rw [List.append_nil] at b
  have e := I.env0
  have e2 : Env0 X.prog X.w X.K X.mg X.base A X.stack s H := ⟨by rw [fr]; exact e.frames, e.mod, e.bs, e.bsz, e.funs, e.frf, e.hok, e.bare⟩
  refine wpAny_call (codeAny_mono (F.run A X.stack s H ⟨us, []⟩ us vs Q (E σ) hr e2 b r h) fun r s' hq => ?_)
  cases r with
  | error e => exact hx pins H s e s' I hq
  | ok fl =>
    cases fl with
    | ret u => exact I.after hq
    | next => exact hq.elim
    | brk => exact hq.elim
    | cont => exact hq.elim
theorem inst_at {pins : List (Addr × Obj)} {σ : L2.St} {H : Hp} {s : Shared} {a dx : Addr} {fs : List (Str × V)} (I : Inv X pins σ H s) (ha : H a = some (.ins C dx fs)) : ∃ ox od, PySem.W.InstAt s.heap a ox C od := by
  obtain ⟨mA, J, _⟩ := ins_get I.hok ha
  obtain ⟨od, J, _⟩ := J.look
  exact ⟨_, _, J⟩
theorem vref {a : Addr} : RelV (.ref a) (Value.ref a) := rfl
/-- len(o) -/
def rLen (C : Addr) (sp : Sp) (E : XK) : List V → Hp → VK → Prop := fun xs H Q => ∃ a dx fs, xs = [.ref a] ∧ H a = some (.ins C dx fs) ∧ sp [.ref a] H (fun v H' => ∃ n : Int, v = .int n ∧ 0 ≤ n ∧ n < 2 ^ 63 ∧ Q (.int n) H') E
theorem len_own {E : XK} (m : Meth X.K C "__len__" f) (F : FnOk X.prog X.w X.K X.mg X.base CX k f fd ps sp) (hr : Room (k + 1) X.A) (hb : Binds X.K fd ps []) (hx : ∀ σ, PassesAt CX X σ E) : CallR X (.builtin "len") (rLen C sp E) := by
  intro pins s σ H xs us Q I r h
  obtain ⟨a, dx, fs, rfl, ha, q⟩ := h
  rw [Vals.ref1 r]
  obtain ⟨ox, od, J⟩ := inst_at I ha
  obtain ⟨m', hF⟩ := I.fr
  refine PySem.W.len_K hF I.ok.mod.kin J m.at_ m.fn (wpAny_mono (own_run (E := fun _ => E) (A := X.A.in1) F hr.in1 rfl hb (hx σ) I (.cons vref .nil) q) (fun u s' hu => ?_) fun _ _ x => x)
  obtain ⟨v, H', I', rv, n, rfl, n0, n1, q'⟩ := hu
  obtain ⟨t, rfl⟩ := rv
  exact ⟨⟨n0, n1⟩, .int n, H', I'.tok _, ⟨_, rfl⟩, q'⟩
/-- x in o -/
def rInO (C : Addr) (sp : Sp) (E : XK) : R2 := fun x y H Q => ∃ a dx fs, y = .ref a ∧ H a = some (.ins C dx fs) ∧ sp [.ref a, x] H (fun v H' => ∃ b, v = .bl b ∧ Q (.bl b) H') E
theorem in_own {E : XK} (m : Meth X.K C "__contains__" f) (F : FnOk X.prog X.w X.K X.mg X.base CX k f fd ps sp) (hr : Room k X.A) (hb : Binds X.K fd ps []) (hx : ∀ σ, PassesAt CX X σ E) : OpR X (compareOp .In) (rInO C sp E) := by
  intro pins s σ H x y v u Q I rx ry h
  obtain ⟨a, dx, fs, rfl, ha, q⟩ := h
  cases ry
  obtain ⟨ox, od, J⟩ := inst_at I ha
  obtain ⟨m', hF⟩ := I.fr
  refine PySem.W.in_K hF I.ok.mod.kin J m.at_ m.fn (wpAny_mono (own_run (E := fun _ => E) F hr rfl hb (hx σ) I (.cons vref (.cons rx .nil)) q) (fun u s' hu => ?_) fun _ _ x => x)
  obtain ⟨v, H', I', rv, b, rfl, q'⟩ := hu
  cases rv
  exact wpAny_truthy_bool ⟨.bl b, H', I', rfl, q'⟩
/-- o == p, both of the class -/
def rEqO (C : Addr) (sp : Sp) (E : XK) : R2 := fun x y H Q => ∃ a dx fs b dy gs, x = .ref a ∧ y = .ref b ∧ H a = some (.ins C dx fs) ∧ H b = some (.ins C dy gs) ∧ sp [.ref a, .ref b] H (fun v H' => ∃ c, v = .bl c ∧ Q (.bl c) H') E
theorem eq_own {E : XK} (m : Meth X.K C "__eq__" f) (F : FnOk X.prog X.w X.K X.mg X.base CX k f fd ps sp) (hr : Room k X.A) (hb : Binds X.K fd ps []) (hx : ∀ σ, PassesAt CX X σ E) : OpR X (compareOp .Eq) (rEqO C sp E) := by
  intro pins s σ H x y v u Q I rx ry h
  obtain ⟨a, dx, fs, b, dy, gs, rfl, rfl, ha, hb', q⟩ := h
  cases rx
  cases ry
  obtain ⟨ox, od, J⟩ := inst_at I ha
  obtain ⟨oy, od', J'⟩ := inst_at I hb'
  obtain ⟨m', hF⟩ := I.fr
  refine PySem.W.cmp_K (op := .Eq) (tb := .ref C) hr.units0 hF I.ok.mod.kin J J'.type (by simp [PySem.W.notFirst]) m.at_ m.fn (wpAny_mono (own_run (E := fun _ => E) F hr rfl hb (hx σ) I (.cons vref (.cons vref .nil)) q) (fun u s' hu => ?_) fun _ _ x => x)
  obtain ⟨v, H', I', rv, c, rfl, q'⟩ := hu
  cases rv
  exact ⟨.bl c, H', I', rfl, q'⟩
/-- o[i], in the place of an expression: the subscript is written plainly -/
def tSubO (C : Addr) (sp : Sp) (E : L2.St → XK) (ta tb : TE) : TE := fun σ H Q => ta σ H fun x H1 => tb σ H1 fun y H2 => ∃ a dx fs, x = .ref a ∧ H2 a = some (.ins C dx fs) ∧ sp [.ref a, y] H2 Q (E σ)
theorem pe_subOwn {a b : Expr} {ta tb : TE} {pos : Pos} (m : Meth X.K C "__getitem__" f) (hfn : PySem.W.fnIn X.K f = true) (F : FnOk X.prog X.w X.K X.mg X.base CX k f fd ps sp) (hr : Room (k + 1) X.A) (hb : Binds X.K fd ps []) (hx : ∀ σ, PassesAt CX X σ (E σ))
    (ha : PE X a ta) (hb' : PE X b tb) (hs : ∀ o i, subscripted b true o i = runValue (.builtin "lifetime.subscript" ⟨[o, i], []⟩) := by intro _ _; with_unfolding_all rfl) : PE X (.Subscript a b pos) (tSubO C sp E ta tb) := by
  refine ⟨fun pins s σ H Q I h => ?_⟩
  refine Subscript_ (binT ha hb' (R := fun x y H2 => ∃ a dx fs, x = .ref a ∧ H2 a = some (.ins C dx fs) ∧ sp [.ref a, y] H2 Q (E σ)) I h fun v u s2 x y H2 I2 rx ry q => ?_)
  obtain ⟨o, dx, fs, rfl, ho, q⟩ := q
  cases rx
  obtain ⟨ox, od, J⟩ := inst_at I2 ho
  obtain ⟨m', hF⟩ := I2.fr
  exact PySem.W.sub_K hF I2.ok.mod.kin J m.at_ hfn m.fn (own_run (A := X.A.in1) F hr.in1 rfl hb (hx σ) I2 (.cons vref (.cons ry .nil)) q) (hs _ _)
/-- o[i] = v -/
def rPutO (C : Addr) (sp : Sp) (E : XK) : V → V → V → Hp → (Hp → Prop) → Prop := fun o i v H Q => ∃ a dx fs, o = .ref a ∧ H a = some (.ins C dx fs) ∧ sp [.ref a, i, v] H (fun _ H' => Q H') E
theorem put_own {E : XK} (m : Meth X.K C "__setitem__" f) (hq : PySem.W.noSeq X.K C = true) (F : FnOk X.prog X.w X.K X.mg X.base CX k f fd ps sp) (hr : Room k X.A) (hb : Binds X.K fd ps []) (hx : ∀ σ, PassesAt CX X σ E) : PSet X (rPutO C sp E) := by
  intro pins s σ H o i v ov iv u Q I ro ri rv h
  obtain ⟨a, dx, fs, rfl, ha, q⟩ := h
  cases ro
  obtain ⟨ox, od, J⟩ := inst_at I ha
  obtain ⟨m', hF⟩ := I.fr
  refine PySem.W.ksp_setItem hF I.ok.mod.kin J hq m.at_ m.fn (wpAny_mono (own_run (E := fun _ => E) F hr rfl hb (hx σ) I (.cons vref (.cons ri (.cons rv .nil))) q) (fun w s' hw => ?_) fun _ _ x => x)
  obtain ⟨v', H', I', _, q'⟩ := hw
  exact ⟨H', I', q'⟩
/-- o[i] = v in a try: what is raised is wished for at the slots -/
def tPutO (C : Addr) (sp : Sp) (E : L2.St → XK) (to ti tv : TE) : TS := fun D σ H => tv σ H fun v H1 => to σ H1 fun o H2 => ti σ H2 fun i H3 => ∃ a dx fs, o = .ref a ∧ H3 a = some (.ins C dx fs) ∧ sp [.ref a, i, v] H3 (fun _ H' => D.nx σ H') (E σ)
/-- abs(o) -/
def rAbs (C : Addr) (sp : Sp) (E : XK) : List V → Hp → VK → Prop := fun xs H Q => ∃ a dx fs, xs = [.ref a] ∧ H a = some (.ins C dx fs) ∧ sp [.ref a] H Q E
theorem abs_own {E : XK} (m : Meth X.K C "__abs__" f) (F : FnOk X.prog X.w X.K X.mg X.base CX k f fd ps sp) (hr : Room (k + 1) X.A) (hb : Binds X.K fd ps []) (hx : ∀ σ, PassesAt CX X σ E) : CallR X (.builtin "abs") (rAbs C sp E) := by
  intro pins s σ H xs us Q I r h
  obtain ⟨a, dx, fs, rfl, ha, q⟩ := h
  rw [Vals.ref1 r]
  obtain ⟨ox, od, J⟩ := inst_at I ha
  refine Calls.call_function_entry kind_abs plain_abs entry_abs (args_abs _) ?_
  unfold Builtin.«abs»
  refine wpAny_bind (m := oneArg "abs" _) (wpAny_pure ?_)
  refine wpAny_bind (m := callSpecial? (.ref a) (Str.ofString "__abs__")) (PySem.W.special_fn I.kIn J m.at_ (beq_iff_eq.mp m.fn) (wpAny_mono (own_run (E := fun _ => E) (A := X.A.in1) F hr.in1 rfl hb (hx σ) I (.cons vref .nil) q) (fun u s' hu => ?_) fun _ _ x => x))
  exact wpAny_pure ⟨_, rfl, hu⟩
/-- bool(o) -/
def rBool (C : Addr) (sp : Sp) (E : XK) : List V → Hp → VK → Prop := fun xs H Q => ∃ a dx fs, xs = [.ref a] ∧ H a = some (.ins C dx fs) ∧ sp [.ref a] H (fun v H' => ∃ b, v = .bl b ∧ Q (.bl b) H') E
theorem bool_own {E : XK} (m : Meth X.K C "__bool__" f) (F : FnOk X.prog X.w X.K X.mg X.base CX k f fd ps sp) (hr : Room (k + 2) X.A) (hb : Binds X.K fd ps []) (hx : ∀ σ, PassesAt CX X σ E) : CallR X (.type "bool") (rBool C sp E) := by
  intro pins s σ H xs us Q I r h
  obtain ⟨a, dx, fs, rfl, ha, q⟩ := h
  rw [Vals.ref1 r]
  obtain ⟨ox, od, J⟩ := inst_at I ha
  obtain ⟨m', hF⟩ := I.fr
  refine callType_newIn (S := fun A' R s' => wpAny (model X.prog X.w) A'.in1 (truthy (.ref a)) (fun b s2 => R (.ok (.ret (.bool b))) s2) (fun e s2 => R (.error e) s2) s') PySem.F.called_bool PySem.F.newNe_bool (PySem.F.typeCall_bool_1 _) (PySem.F.newCall_bool_1 _) (fun obj => PySem.F.args_object_init_2 obj _) PySem.F.entry_bool_new (.of_wp fun A' R s' hs => ?_) ?_
  · obtain ⟨hp, g, d, tk, os⟩ := s'
    have f1 := PySem.F.conv_sub_bool
    unfold Builtin.«bool.__new__»
    repeat ((fail_if_success (with_reducible show wpAny _ _ (truthy _) _ _ _)); (fail_if_success (with_reducible show wpAny _ _ (truthy _ >>= _) _ _ _)); (first | assumption | wp_step))
    show wpAny _ _ (truthy (.ref a) >>= fun b => ret (.bool b)) _ _ _
    refine wpAny_bind (wpAny_mono hs (fun b s2 h2 => ?_) fun _ _ x => x)
    exact wpAny_pure ⟨_, rfl, h2⟩
  · refine PySem.W.truthy_K hF I.ok.mod.kin J m.at_ m.fn (wpAny_mono (own_run (E := fun _ => E) (A := X.A.in1.in1) F hr.in1.in1 rfl hb (hx σ) I (.cons vref .nil) q) (fun u s' hu => ?_) fun _ _ x => x)
    obtain ⟨v, H', I', rv, b, rfl, q'⟩ := hu
    cases rv
    exact ⟨PySem.typeIs_bool _ _, .bl b, H', I', rfl, q'⟩
/-- any of a list of ints -/
def rAnyI (K : PySem.W.Frag) : List V → Hp → VK → Prop := fun vs H Q => ∃ (a : Addr) (ns : List Int), vs = [V.ref a] ∧ SqL K H a (ns.map V.int) ∧ Q (.bl (ns.any fun n => n != 0)) H
theorem truth_ints {prog : Program} {w : World} {A : Around} {ns : List Int} {its : List Value} (e : IntsAre its ns) : TruthOf prog w A (fun i v => its.toArray[i]? = some v) (fun i => (ns.map fun n => n != 0).getD i false) := fun i v s Q E hv hq => by
  have hv' : its[i]? = some v := by simpa using hv
  have hi : i < ns.length := by
    have := (List.getElem?_eq_some_iff.mp hv').1
    have := IntsAre.length e
    omega
  obtain ⟨t, ht⟩ := e.get i _ (List.getElem?_eq_getElem hi)
  have ev : v = .int ns[i] t := Option.some.inj (hv'.symm.trans ht)
  subst ev
  have hg : (ns.map fun n => n != 0).getD i false = (ns[i] != 0) := by
    rw [List.getD_eq_getElem?_getD, List.getElem?_map, List.getElem?_eq_getElem hi]
    rfl
  have hq' : Q ((ns.map fun n => n != 0).getD i false) s := hq
  rw [hg] at hq'
  exact P.truthy_int hq'
theorem cr_anyI (hc : X.calm = true) : CallR X (.builtin "any") (rAnyI X.K) := by
  intro pins s σ H vs us Q I r h
  obtain ⟨a, ns, rfl, hs, q⟩ := h
  obtain ⟨its, rv, pl, _⟩ := I.list hs
  rw [Vals.ref1 r]
  have hi := ints_of_vals rv
  refine call_any_walk (iter_any pl.isList fun s2 e2 st ne => ?_)
  subst e2
  refine ⟨_, _, _, _, _, _, _, rfl, Walks.list (A := X.A.in1) (I.ok.hd hc) _ a ne its.toArray, st, truth_ints hi, fun h' tk hk => ?_⟩
  refine ⟨.bl _, H, I.kept fun b o eo => hk b o (fun z => ?_) (Heap.get?_push_of_some _ eo), ?_, q⟩
  · exact absurd (List.mem_singleton.mp z ▸ Heap.lt_size eo) (Nat.lt_irrefl _)
  · show Value.bool _ = Value.bool _
    have e1 := any_range (ns.map fun n => n != 0)
    rw [List.length_map, List.any_map] at e1
    rw [List.size_toArray, IntsAre.length hi]
    exact congrArg Value.bool e1
end
end KO

namespace KO
open PySem PySem.Spec PyProof.Rows L2
section
variable {prog : Program} {w : World} {A : Around} {E : Value → Shared → Prop} {s : Shared} {it l : Addr} {i : Nat} {items : Array Value}
theorem pyNext_item {x : Value} {Q : Option Value → Shared → Prop} (ho : s.heap.get? it = some (GNX.itObj l i)) (hl : s.heap.IsList l items) (hx : items[i]? = some x)
    (hQ : ∀ h', h'.get? it = some (GNX.itObj l (i + 1)) → Heap.SameBut it s.heap h' → Q (some x) { s with heap := h' }) : wpAny (model prog w) A (pyNext (.ref it)) Q E s := by
  have hT : s.TypeIs (.ref it) "list_iterator" := ⟨_, ho, rfl⟩
  unfold pyNext
  refine wpAny_bind (wpAny_attempt (wpAny_callSpecial?_slot (name := Str.ofString "__next__") hT slot_listiter_next
    (wpAny_call_entry slot_listiter_next hT entry_listiter_next ?_ (args_listiter_next _))))
  exact GNX.next_item ho hl hx fun h' e sb => wpAny_pure (hQ h' e sb)
theorem pyNext_end {Q : Option Value → Shared → Prop} (hh : A.handled = none) (ho : s.heap.get? it = some (GNX.itObj l i)) (hl : s.heap.IsList l items) (hx : items[i]? = none)
    (hQ : ∀ h1 h', h1.get? it = some (GNX.itEnd i) → Heap.SameBut it s.heap h1 → (∀ b o, h1.get? b = some o → h'.get? b = some o) → Q none { s with heap := h' }) : wpAny (model prog w) A (pyNext (.ref it)) Q E s := by
  have hT : s.TypeIs (.ref it) "list_iterator" := ⟨_, ho, rfl⟩
  unfold pyNext
  refine wpAny_bind (wpAny_attempt (wpAny_callSpecial?_slot (name := Str.ofString "__next__") hT slot_listiter_next
    (wpAny_call_entry slot_listiter_next hT entry_listiter_next ?_ (args_listiter_next _))))
  refine GNX.next_end hh ho hl hx fun h1 h' e vs e1 sb k ne he hv => ?_
  refine wpAny_bind (wpAny_isInstance (T := "StopIteration") (b := true) ⟨_, he, rfl⟩ isSubtype_stop ?_)
  exact wpAny_pure (hQ h1 h' e1 sb k)
end
section
variable {X : Cx} {k kl ki : Nat} {f fi fl C : Addr} {fd fdI fdL : FuncData} {ps psI psL : List Str} {sp spI spL : Sp}
/-- a method that raises nothing runs under any wish -/
theorem own_run0 {A : Around} {pins : List (Addr × Obj)} {σ : L2.St} {H : Hp} {s : Shared} {Q : VK} {us : List Value} {vs : List V} {E' : Value → Shared → Prop} (F : FnOk X.prog X.w X.K X.mg X.base CX0 k f fd ps sp) (hr : Room k A) (fr : A.frames = X.A.frames) (hb : Binds X.K fd ps [])
    (I : Inv X pins σ H s) (r : Vals vs us) (h : sp vs H Q E0) : wpAny (model X.prog X.w) A (call (.ref f) us) (EP X pins σ Q) E' s := by
  have hl : us.length = ps.length := r.length.symm.trans (F.len _ _ _ _ h)
  have b := hb s us I.kIn (by rw [List.append_nil]; exact hl)
  rw [List.append_nil] at b
  have e := I.env0
  have e2 : Env0 X.prog X.w X.K X.mg X.base A X.stack s H := ⟨by rw [fr]; exact e.frames, e.mod, e.bs, e.bsz, e.funs, e.frf, e.hok, e.bare⟩
  refine wpAny_call (codeAny_mono (F.run A X.stack s H ⟨us, []⟩ us vs Q E0 hr e2 b r h) fun r s' hq => ?_)
  cases r with
  | error e => exact hq.elim
  | ok fl =>
    cases fl with
    | ret u => exact I.after hq
    | next => exact hq.elim
    | brk => exact hq.elim
    | cont => exact hq.elim
theorem upd3 {H : Hp} {a b : Addr} {x y z : HO} (ne : a ≠ b) : upd (upd (upd H a x) b y) a z = upd (upd H a z) b y := by
  funext c
  by_cases h1 : c = a
  · rw [h1, upd_same, upd_ne ne, upd_same]
  · rw [upd_ne h1]
    by_cases h2 : c = b
    · rw [h2, upd_same, upd_same]
    · rw [upd_ne h2, upd_ne h2, upd_ne h1, upd_ne h1]
/-- the loop of extend over a list's iterator at it, whose list at l is neither the iterator nor the one that is filled -/
theorem it_loop {A1 : Around} {pins : List (Addr × Obj)} {σ : L2.St} {R : Result → Shared → Prop} {H0 : Hp} {l it S : Addr} {zs : List V} (hh : A1.in1.handled = none) (lit : l ≠ it) (itS : it ≠ S) (lS : l ≠ S)
    (hl : H0 l = some (.lst zs)) (hn : zs.length ≤ 1000)
    (hR : ∀ s, Inv X pins σ (upd (upd H0 it (ItE it zs.length)) S (.lst zs)) s → R (.ok (.ret .none)) s) :
    ∀ k i s, zs.length - i = k → i ≤ zs.length → Inv X pins σ (upd (upd H0 it (ItO l it i)) S (.lst (zs.take i))) s → codeAny (model X.prog X.w) A1 (.builtin "list.extend.loop" ⟨[.ref S, .ref it, .none], []⟩) R s := by
  intro k
  induction k with
  | zero =>
    intro i s hk hi I
    have e : i = zs.length := by omega
    subst e
    have hit : (upd (upd H0 it (ItO l it zs.length)) S (.lst (zs.take zs.length))) it = some (ItO l it zs.length) := by rw [upd_ne itS, upd_same]
    have hl1 : (upd (upd H0 it (ItO l it zs.length)) S (.lst (zs.take zs.length))) l = some (.lst zs) := by rw [upd_ne lS, upd_ne lit]; exact hl
    obtain ⟨z, its, c, rv, hlen, el⟩ := I.lstM hl1
    refine codeAny_builtin PySem.F.entry_extend_loop ?_
    rw [Around.under_plainId PySem.F.plain_extend_loop _]
    show wpAny _ A1.in1 (pyNext (.ref it) >>= _) _ _ s
    refine wpAny_bind (pyNext_end (l := l) (i := zs.length) (items := its.toArray) hh (itO_get I hit) ⟨_, el, rfl, _, rfl⟩ (by rw [List.getElem?_toArray]; exact rv.none_of (by simp)) fun h1 h' e1 sb kk => ?_)
    refine wpAny_pure (hR _ ?_)
    have mu : Mut ((upd (upd H0 it (ItO l it zs.length)) S (.lst (zs.take zs.length))) it) := by rw [hit]; exact True.intro
    have I2 := I.write (x := it) (e := it) (h' := h') (t' := s.toks) (o := ItE it zs.length) mu (.inl rfl) (fun b o nb z => kk _ _ ((sb.2 b nb).trans z)) ⟨_, kk _ _ e1⟩ (itE_ok (kk _ _ e1))
    have eH : upd (upd (upd H0 it (ItO l it zs.length)) S (.lst (zs.take zs.length))) it (ItE it zs.length) = upd (upd H0 it (ItE it zs.length)) S (.lst zs) := by
      rw [upd3 itS, List.take_length]
    rw [eH] at I2
    exact I2
  | succ k ih =>
    intro i s hk hi I
    have hlt : i < zs.length := by omega
    have hit : (upd (upd H0 it (ItO l it i)) S (.lst (zs.take i))) it = some (ItO l it i) := by rw [upd_ne itS, upd_same]
    have hl1 : (upd (upd H0 it (ItO l it i)) S (.lst (zs.take i))) l = some (.lst zs) := by rw [upd_ne lS, upd_ne lit]; exact hl
    obtain ⟨z, its, c, rv, hlen, el⟩ := I.lstM hl1
    obtain ⟨u, hu, ru⟩ := rv.get (List.getElem?_eq_getElem hlt)
    refine codeAny_builtin PySem.F.entry_extend_loop ?_
    rw [Around.under_plainId PySem.F.plain_extend_loop _]
    show wpAny _ A1.in1 (pyNext (.ref it) >>= _) _ _ s
    refine wpAny_bind (pyNext_item (l := l) (i := i) (items := its.toArray) (itO_get I hit) ⟨_, el, rfl, _, rfl⟩ (by rw [List.getElem?_toArray]; exact hu) fun h' e1 sb => ?_)
    have mu : Mut ((upd (upd H0 it (ItO l it i)) S (.lst (zs.take i))) it) := by rw [hit]; exact True.intro
    have I2 := I.write (x := it) (e := it) (h' := h') (t' := s.toks) (o := ItO l it (i + 1)) mu (.inl rfl) (fun b o nb z => (sb.2 b nb).trans z) ⟨_, e1⟩ (itO_ok e1)
    have eH : upd (upd (upd H0 it (ItO l it i)) S (.lst (zs.take i))) it (ItO l it (i + 1)) = upd (upd H0 it (ItO l it (i + 1))) S (.lst (zs.take i)) := by
      rw [upd3 itS]
    rw [eH] at I2
    have hS : (upd (upd H0 it (ItO l it (i + 1))) S (.lst (zs.take i))) S = some (.lst (zs.take i)) := upd_same
    obtain ⟨z2, its2, c2, rv2, hlen2, e2⟩ := I2.lstM hS
    show wpAny _ A1.in1 (updateSeq S (·.push u) >>= _) _ _ _
    have hl2 := rv2.length
    rw [List.length_take] at hl2
    refine wpAny_bind (wpAny_updateSeq e2 rfl (wpAny_pure ⟨plainId_quiet PySem.F.plain_extend_loop _, ?_⟩) (by rw [List.size_toArray, sizeLine_eq]; omega) (by show (its2.toArray.push u).size ≤ sizeLine + 1; rw [Array.size_push, List.size_toArray, sizeLine_eq]; omega))
    have I3 := I2.lset (f := (·.push u)) (its' := its2 ++ [u]) (ys := zs.take i ++ [zs[i]]) (t' := s.toks) hS e2 (by simp) (rv2.append (.cons ru .nil)) (by rw [List.length_append, List.length_singleton, sizeLine_eq]; omega)
    rw [upd_upd] at I3
    refine ih (i + 1) _ (by omega) hlt ?_
    rw [List.take_add_one, List.getElem?_eq_getElem hlt]
    exact I3
/-- list(o): o has its own __iter__, which hands back a list's iterator, and its own __len__; neither raises -/
def rListO (K : PySem.W.Frag) (C : Addr) (spI spL : Sp) : List V → Hp → VK → Prop := fun xs H Q => ∃ a dx fs, xs = [.ref a] ∧ H a = some (.ins C dx fs) ∧ ∀ S, H S = none →
  spI [.ref a] (upd H S (.lst [])) (fun v H1 => ∃ (it l : Addr) (zs : List V), v = .ref it ∧ H1 it = some (ItO l it 0) ∧ H1 l = some (.lst zs) ∧ H1 S = some (.lst []) ∧ H1 a = some (.ins C dx fs) ∧ zs.length ≤ 1000 ∧ it ≠ S ∧ l ≠ it ∧ l ≠ S ∧
    spL [.ref a] H1 (fun v H2 => ∃ n : Int, v = .int n ∧ 0 ≤ n ∧ n ≤ 1000 ∧ H2 = H1 ∧ Q (.ref S) (upd (upd H1 it (ItE it zs.length)) S (.lst zs))) E0) E0
theorem listOwn (mi : Meth X.K C "__iter__" fi) (ml : Meth X.K C "__len__" fl) (FI : FnOk X.prog X.w X.K X.mg X.base CX0 k fi fdI psI spI) (bI : Binds X.K fdI psI []) (FL : FnOk X.prog X.w X.K X.mg X.base CX0 k fl fdL psL spL) (bL : Binds X.K fdL psL [])
    (hc : X.calm = true) (hr : Room (k + 3) X.A) : CallR X (.type "list") (rListO X.K C spI spL) := by
  intro pins s σ H xs us Q I r h
  obtain ⟨a, dx, fs, rfl, ha, hq⟩ := h
  rw [Vals.ref1 r]
  refine callType_codes (Q₁ := fun x s1 => x = .ref s.heap.objs.size ∧ s1 = { s with heap := s.heap.push { cls := .type "list", data := .seq #[] } }) PySem.F.called_list (PySem.F.typeCall_list_1 _) PySem.F.entry_list_init (code_list_new _ ⟨rfl, rfl⟩) fun x s1 h1 => ?_
  obtain ⟨rfl, rfl⟩ := h1
  have got : (s.heap.push { cls := .type "list", data := .seq #[] }).get? s.heap.objs.size = some { cls := .type "list", data := .seq #[] } := Heap.get?_push_size _ rfl
  refine ⟨⟨_, got, rfl⟩, PySem.F.args_list_init_2 _ _, ?_⟩
  have fr : H s.heap.objs.size = none := I.hok.fresh (Nat.le_refl _)
  have hsp := hq _ fr
  have I1 : Inv X pins σ (upd H s.heap.objs.size (.lst [])) { s with heap := s.heap.push { cls := .type "list", data := .seq #[] } } := I.lnew (its := []) (t' := s.toks) .nil (Nat.zero_le _)
  generalize s.heap.objs.size = S at got fr hsp I1 ⊢
  show wpAny _ _ (do let old ← Builtin.List.listItems (.ref S); Builtin.List.listUpdate (.ref S) (fun _ => #[]); letGo old.toList.reverse; Builtin.List.listExtendWith (.ref S) (.ref a) .none) _ _ _
  refine wpAny_bind ?_
  unfold Builtin.List.listItems
  refine wpAny_bind (wpAny_seqItems got rfl (wpAny_pure ?_))
  show wpAny _ _ (updateSeq S (fun _ => #[]) >>= fun _ => letGo (#[] : Array Value).toList.reverse >>= fun _ => Builtin.List.listExtendWith (.ref S) (.ref a) .none) _ _ _
  refine wpAny_bind (wpAny_updateSeq got rfl ?_)
  have I2 := I1.lset (f := fun _ => #[]) (its := []) (its' := []) (ys := []) (t' := s.toks) upd_same got rfl .nil (Nat.zero_le _)
  rw [upd_upd] at I2
  refine wpAny_bind (wpAny_letGo ?_)
  generalize ({ s with heap := (s.heap.push { cls := .type "list", data := .seq #[] }).update S (Obj.mapSeq fun _ => #[]) } : Shared) = s2 at I2 ⊢
  have ha2 : upd H S (.lst []) a = some (.ins C dx fs) := by rw [upd_ne (ne_of_none ha fr)]; exact ha
  have ne1 : S ≠ a := fun z => by rw [← z, fr] at ha; cases ha
  obtain ⟨ox, od, J⟩ := inst_at I2 ha2
  obtain ⟨m0, hF⟩ := I2.fr
  unfold Builtin.List.listExtendWith
  refine wpAny_bind (J.type.here ?_)
  have b1 : Builtin.List.listSameRef (.ref S) (.ref a) = false := by simp [Builtin.List.listSameRef, ne1]
  have b2 : (Value.ref C == Value.type "list") = false := rfl
  have b3 : (Value.ref C == Value.type "tuple") = false := rfl
  simp only [b1, b2, b3, Bool.or_false, Bool.false_eq_true, if_false]
  refine wpAny_bind (PySem.W.owit_iter hF I2.ok.mod.kin J mi.at_ mi.fn (wpAny_mono (own_run0 (A := X.A.in1.in1) FI (hr.mono (by omega) : Room (k + 2) X.A).in1.in1 rfl bI I2 (.cons vref .nil) hsp) (fun u s3 hu => ?_) fun _ _ x => x))
  obtain ⟨v, H3, I3, rv, it, l, zs, rfl, hit, hl, hS, ha3, hz, itS, lit, lS, hlen⟩ := hu
  cases rv
  have oit := itO_get I3 hit
  unfold PySem.W.OwitIt
  refine wpAny_specialOf (show s3.TypeIs (.ref it) "list_iterator" from ⟨_, oit, rfl⟩) slot_listiter_next.lookup ?_
  show wpAny _ _ _ _ _ s3
  obtain ⟨ox3, od3, J3⟩ := inst_at I3 ha3
  obtain ⟨m3, hF3⟩ := I3.fr
  refine wpAny_bind (wpAny_holding ?_)
  unfold Builtin.List.listLengthHint
  refine wpAny_bind (wpAny_bind (J3.type.here ((PySem.W.looks_findIn I3.kIn ml.at_).here ?_)))
  refine PySem.W.KFB.if_not rfl ?_
  refine PySem.W.KFB.if_so rfl ?_
  refine wpAny_bind (wpAny_rule ?_)
  refine wpAny_bind (wpAny_attempt (PySem.W.len_K hF3 I3.ok.mod.kin J3 ml.at_ ml.fn (wpAny_mono (own_run0 (A := X.A.in1.in1.in1) FL (hr.mono (by omega) : Room (k + 3) X.A).in1.in1.in1 rfl bL I3 (.cons vref .nil) hlen) (fun u s4 hu => ?_) fun _ _ x => x)))
  obtain ⟨v, H4, I4, rv, n, rfl, n0, n1, eH, q⟩ := hu
  subst eH
  obtain ⟨t4, rfl⟩ := rv
  refine ⟨⟨n0, by omega⟩, ?_⟩
  have I5 : Inv X pins σ H4 { s4 with toks := s4.toks + 1 } := I4.tok _
  generalize ({ s4 with toks := s4.toks + 1 } : Shared) = s5 at I5 ⊢
  refine wpAny_bind (wpAny_pure ?_)
  refine PySem.W.KFB.if_not (by unfold Builtin.List.listTooLong; rw [decide_eq_false]; rw [sizeLine_eq]; omega) ?_
  refine wpAny_pure ?_
  have eH : upd (upd H4 it (ItO l it 0)) S (.lst (zs.take 0)) = H4 := by
    funext b
    by_cases hb : b = S
    · rw [hb, upd_same, hS, List.take_zero]
    · rw [upd_ne hb]
      by_cases hb2 : b = it
      · rw [hb2, upd_same, hit]
      · rw [upd_ne hb2]
  have loop : ∀ s6 : Shared, Inv X pins σ H4 s6 → codeAny (model X.prog X.w) X.A.in1 (.builtin "list.extend.loop" ⟨[.ref S, .ref it, .none], []⟩) (wants (fun r s₂ => r = Value.none ∧ EP X pins σ Q (Value.ref S) s₂) X.xe) s6 := by
    intro s6 I6
    refine it_loop (pins := pins) (σ := σ) (H0 := H4) (by simp [I.ok.hd hc]) lit itS lS hl hz (fun s7 I7 => ⟨rfl, .ref S, _, I7, vref, q⟩) zs.length 0 s6 rfl (Nat.zero_le _) ?_
    rw [eH]
    exact I6
  cases hroom : (n != 0) with
  | false => exact wpAny_pure ⟨plainId_quiet PySem.F.plain_extend_loop _, loop s5 I5⟩
  | true =>
    refine wpAny_bind (wpAny_rule ?_)
    refine wpAny_bind ?_
    show wpAny _ _ (updateSeq S (·.push .none) >>= fun _ => updateSeq S (·.pop)) _ _ _
    obtain ⟨z, its, k3, r3, hl3, e3⟩ := I5.lstM hS
    cases r3
    refine wpAny_bind (wpAny_updateSeq e3 rfl ?_)
    have I6 := I5.lset (f := (·.push Value.none)) (its' := [Value.none]) (ys := [.non]) (t' := s5.toks) hS e3 (by simp) (.cons rfl .nil) (by rw [List.length_singleton, sizeLine_eq]; decide)
    obtain ⟨z4, its4, k4, r4, hl4, e4⟩ := I6.lstM upd_same
    obtain ⟨u4, rfl, ru4⟩ := r4.one
    refine wpAny_updateSeq e4 rfl ?_ (by show 1 ≤ sizeLine; rw [sizeLine_eq]; decide) (by show 0 ≤ sizeLine + 1; exact Nat.zero_le _)
    refine wpAny_pure ⟨plainId_quiet PySem.F.plain_extend_loop _, loop _ ?_⟩
    have I7 := I6.lset (f := (·.pop)) (its := [u4]) (its' := []) (ys := []) (t' := s5.toks) upd_same e4 (by rfl) .nil (Nat.zero_le _)
    rw [upd_upd] at I7
    have hH : upd H4 S (.lst []) = H4 := by
      funext b
      by_cases hb : b = S
      · rw [hb, upd_same, hS]
      · rw [upd_ne hb]
    rw [hH] at I7
    exact I7
end
end KO

namespace KO
open PySem PySem.Spec PyProof.Rows L2
section
variable {X : Cx} {CX : CXT} {k : Nat} {f C : Addr} {fd : FuncData} {ps : List Str} {sp : Sp} {E : L2.St → XK}
/-- X(): an own class over a built-in error, without own __init__, made with nothing -/
theorem pmk_own0 {bmB : List Value} {B newId initId : String} {x : Str} {p pos : Pos} (F : ExcBaseFacts B newId initId bmB) (q : PySem.W.excIn X.K C bmB newId = true) (gC : X.mg x = some (.ref C)) (kC : PySem.W.keepIn X.K (.ref C) = true) (r : Raises X (.ref C)) (hg : Gl X x)
    (hdb : (x == ("__debug__" : Str)) = false := by decide) : PMk X (.Call (.Name x p) [] [] pos) (fun _ H Q => Q (.ref C) none H) := by
  intro pins s σ H Q I h
  refine wpAny_Call_Name_kw (ld_glob I hg gC ?_ hdb)
  refine PySem.W.callWith_K0 I.kIn kC ?_
  obtain ⟨bm, N, nm, qn, bs, hdct, sn, sub, ab, col, dd, k0, k1, k2, k3, k5, mN, hC, hN, hni, T⟩ := exc_obj I.kIn q
  refine wpAny_call_exc_subT F T hC hN hni (fun h' e hm => ?_) (by show 0 ≤ sizeLine; exact Nat.zero_le _)
  exact mk_of I hm r h (I.hok.gone hm.new)
/-- one of two ways -/
theorem cr_or {b : Value} {r1 r2 : List V → Hp → VK → Prop} (h1 : CallR X b r1) (h2 : CallR X b r2) : CallR X b (fun xs H Q => r1 xs H Q ∨ r2 xs H Q) := by
  intro pins s σ H xs us Q I r h
  rcases h with h | h
  · exact h1 pins s σ H xs us Q I r h
  · exact h2 pins s σ H xs us Q I r h
section
variable {prog : Program} {w : World} {A : Around} {E : Value → Shared → Prop} {s : Shared} {l : Addr} {xs : Array (Int × Tok)}
theorem min_tupI {Q : Value → Shared → Prop} (hh : A.handled = none) (hl : s.heap.IsTuple l (intItems xs)) (hne : 0 < xs.size)
    (h : ∀ v h' tk, (intItems xs)[argBest (fun i j => decide (numAt xs i < numAt xs j)) (xs.size - 1)]? = some v → (∀ b o, s.heap.get? b = some o → h'.get? b = some o) → Q v { s with heap := h', toks := tk }) :
    wpAny (model prog w) A (call (.builtin "min") [.ref l]) Q E s := by
  have hlt : l < s.heap.objs.size := by obtain ⟨_, e, _⟩ := hl; exact Heap.lt_size e
  refine call_min_walk (wpAny_pyIter_tuple hl ?_)
  refine ⟨_, _, _, _, _, _, _, rfl, Walks.tuple (A := A.in1) hh _ l (Nat.ne_of_lt hlt) (intItems xs), ⟨⟨_, Heap.get?_push_size _ rfl, rfl, rfl⟩, hl.push _⟩, (fun b hb => ?_), by simpa [intItems] using hne, CmpOf.ints_lt (numAt xs) (fun _ _ => intItems_at), fun v h' tk hP hk => ?_⟩
  · show b < (s.heap.push _).objs.size
    rw [Heap.size_push]
    rcases List.mem_cons.mp hb with rfl | hb
    · exact Nat.lt_succ_self _
    · rcases List.mem_cons.mp hb with rfl | hb
      · exact Nat.lt_succ_of_lt hlt
      · cases hb
  · refine h v h' tk (by simpa [intItems] using hP) fun b o e => hk b o (fun hm => ?_) (Heap.get?_push_of_some _ e)
    rcases List.mem_cons.mp hm with e1 | hm
    · exact absurd (e1 ▸ Heap.lt_size e) (Nat.lt_irrefl _)
    · cases hm
theorem min_rawT {its : List Value} {ns : List Int} {Q : Value → Shared → Prop} (hh : A.handled = none) (hl : s.heap.IsTuple l its.toArray) (hi : IntsAre its ns) (hne : 0 < ns.length)
    (h : ∀ h' tk M t', (∀ b o, s.heap.get? b = some o → h'.get? b = some o) → M ∈ ns → (∀ a, a ∈ ns → M ≤ a) → Q (.int M t') { s with heap := h', toks := tk }) : wpAny (model prog w) A (call (.builtin "min") [.ref l]) Q E s := by
  obtain ⟨xs, e⟩ := hi.allInts.items
  have hn : numsOf (intItems xs).toList = ns := by rw [← e]; exact hi.numsOf
  rw [nums_intItems] at hn
  subst hn
  rw [e] at hl
  have hsz : 0 < xs.size := by simpa using hne
  refine min_tupI hh hl hsz fun v h' tk hv hk => ?_
  obtain ⟨t, rfl⟩ := intItems_at hv
  obtain ⟨h1, h2⟩ := argBest_lt (numAt xs) (xs.size - 1)
  refine h h' tk _ t hk ?_ fun a ha => ?_
  · rw [numAt_eq]; exact PySem.getD_mem (by rw [List.length_map, Array.length_toList]; omega)
  · obtain ⟨j, hj, rfl⟩ := mem_getD ha
    rw [List.length_map, Array.length_toList] at hj
    rw [← numAt_eq]; exact h2 j (by omega)
end
/-- min(t), t a tuple of ints -/
def rMinT (K : PySem.W.Frag) : List V → Hp → VK → Prop := fun vs H Q => ∃ (a : Addr) (ns : List Int), vs = [V.ref a] ∧ SqT K H a (ns.map V.int) ∧ 0 < ns.length ∧ ∀ m, m ∈ ns → (∀ y, y ∈ ns → m ≤ y) → Q (.int m) H
theorem cr_minT (hc : X.calm = true) : CallR X (.builtin "min") (rMinT X.K) := by
  intro pins s σ H vs us Q I r h
  obtain ⟨a, ns, rfl, hs, hne, q⟩ := h
  obtain ⟨its, rv, hl, _⟩ := I.tuple hs
  rw [Vals.ref1 r]
  exact min_rawT (I.ok.hd hc) hl rv.ints hne fun h' tk m t' hk h1 h2 => ⟨.int _, H, I.kept hk, ⟨_, rfl⟩, q m h1 h2⟩
/-- min(xs), xs a list or a tuple of ints -/
def rMinS (K : PySem.W.Frag) : List V → Hp → VK → Prop := fun vs H Q => ∃ (a : Addr) (ns : List Int), vs = [V.ref a] ∧ (SqL K H a (ns.map V.int) ∨ SqT K H a (ns.map V.int)) ∧ 0 < ns.length ∧ ∀ m, m ∈ ns → (∀ y, y ∈ ns → m ≤ y) → Q (.int m) H
theorem cr_minS (hc : X.calm = true) : CallR X (.builtin "min") (rMinS X.K) := by
  intro pins s σ H vs us Q I r h
  obtain ⟨a, ns, rfl, hs, hne, q⟩ := h
  rcases hs with hs | hs
  · exact cr_min hc pins s σ H _ us Q I r ⟨a, ns, rfl, hs, hne, q⟩
  · exact cr_minT hc pins s σ H _ us Q I r ⟨a, ns, rfl, hs, hne, q⟩
/-- isinstance(e, c), e the error that the suite holds: its class is D, it has no dict -/
def rIsX (K : PySem.W.Frag) (D a : Addr) (cls : Value) (d : Option Addr) : List V → Hp → VK → Prop := fun xs H Q => cls = .ref D ∧ d = none ∧ rIsE K D a xs H Q
theorem call_isX {a D : Addr} {oe : Obj} {cls : Value} {d : Option Addr} {pn : List (Addr × Obj)} (Ce : ExcC X.K D) (hz : Zc cls d oe) (hf : ∃ vs, oe.data = .fields vs) : CallR (X.suite a ((a, oe) :: pn)) (.builtin "isinstance") (rIsX X.K D a cls d) := by
  intro pins s σ H xs us Q I r h
  obtain ⟨rfl, rfl, h⟩ := h
  exact call_isE Ce hz hf pins s σ H xs us Q I r h
/-- o.m(e, ..): what is raised is wished for at the slots -/
def tMethX (C : Addr) (m : Str) (sp : Sp) (E : L2.St → XK) (ta : TE) (t : TA) : TE := fun σ H Q => ta σ H fun x H1 => ∃ a dx fs, x = .ref a ∧ H1 a = some (.ins C dx fs) ∧ fs.lookup m = none ∧ t σ H1 fun vs H2 => sp (x :: vs) H2 Q (E σ)
theorem pe_methX {m : Str} {o e : Expr} {es : List Expr} {ta : TE} {t : TA} {apos pos : Pos} {pl : Sem Bool} (he : PE X o ta) (c : Cls X.K C) (hm : Meth X.K C m f) (F : FnOk X.prog X.w X.K X.mg X.base CX k f fd ps sp) (hr : Room k X.A) (hb : Binds X.K fd ps []) (hx : ∀ σ, PassesAt CX X σ (E σ)) (ha : PA X (e :: es) t)
    (hst : starEach (e :: es) X.env = (false, eval e X.env) :: starEach es X.env := by rfl) (hpl : (backTo pos (starEach es X.env)).any (·.1) = false := by rfl)
    (ht : eval (.Call (.Attribute o m apos) (e :: es) [] pos) X.env = (do
      let ov ← eval o X.env
      standAt apos.atName
      let (f, first) ← holding [ov] (getMethod ov m pl)
      callWith pos f first (backTo pos (starEach (e :: es) X.env)) (backToKw pos (keywordEach [] X.env))) := by rfl) :
    PE X (.Call (.Attribute o m apos) (e :: es) [] pos) (tMethX C m sp E ta t) := by
  refine ⟨fun pins s σ H Q I h => ?_⟩
  refine PySem.W.methodCall_KW (pl := pl) (thn (he.run pins s σ H _ I h) fun u s1 ⟨x, H1, I1, rx, a, dx, fs, ex, ea, l, q⟩ => ?_) ht
  subst ex
  obtain rfl : u = Value.ref a := rx
  refine getmeth_ok I1 ea c hm l ?_
  refine PySem.W.callWith_K (first := [.ref a]) (h₀ := X.base) I.ok.mod.kin hm.kp (thn (ha.run pos pins s1 σ H1 _ I1 q) fun us s2 ⟨vs, H2, I2, r, q2⟩ => ⟨I2.kIn, ?_⟩) hst hpl
  exact run_fnS (us := .ref a :: us) (vs := .ref a :: vs) F hr hb (hx σ) I2 (.cons rfl r) q2
/-- C(e, ..): what is raised is wished for at the slots -/
def tMakeX (C : Addr) (sp : Sp) (E : L2.St → XK) (t : TA) : TE := fun σ H Q => t σ H fun vs H1 => ∀ x dx, H1 x = none → H1 dx = none → dx ≠ x →
  sp (.ref x :: vs) (upd (upd H1 dx (.own x)) x (.ins C dx [])) (fun v H2 => v = .non ∧ Q (.ref x) H2) (E σ)
theorem run_makeX {pins : List (Addr × Obj)} {σ : L2.St} {H : Hp} {s : Shared} {Q : VK} {us : List Value} {vs : List V} (M : Mk X.K C f) (F : FnOk X.prog X.w X.K X.mg X.base CX k f fd ps sp) (hr : Room (k + 1) X.A) (hb : Binds X.K fd ps [])
    (hx : PassesAt CX X σ (E σ)) (I : Inv X pins σ H s) (r : Vals vs us)
    (h : ∀ x dx, H x = none → H dx = none → dx ≠ x → sp (.ref x :: vs) (upd (upd H dx (.own x)) x (.ins C dx [])) (fun v H2 => v = .non ∧ Q (.ref x) H2) (E σ)) :
    wpAny (model X.prog X.w) X.A (call (.ref C) us) (EP X pins σ Q) X.xe s := by
  have hq := h (s.heap.objs.size + 1) s.heap.objs.size (I.hok.fresh (Nat.le_succ _)) (I.hok.fresh (Nat.le_refl _)) (Nat.ne_of_lt (Nat.lt_succ_self _))
  have I2 := Inv.made (C := C) I
  have r2 : Vals (V.ref (s.heap.objs.size + 1) :: vs) (Value.ref (s.heap.objs.size + 1) :: us) := .cons rfl r
  have hl : (Value.ref (s.heap.objs.size + 1) :: us ++ []).length = ps.length := by
    have e := r2.length
    rw [F.len _ _ _ _ hq] at e
    rw [List.append_nil]
    exact e.symm
  rw [List.append_nil] at hl
  refine wpAny_call (make_map (f := f) I.kIn M.makes M.init (beq_iff_eq.mp M.fn) (codeAny_mono (F.run _ X.stack _ _ ⟨Value.ref (s.heap.objs.size + 1) :: us, []⟩ (Value.ref (s.heap.objs.size + 1) :: us) _ _ (E σ) (hr.make C us [])
    (I2.env0.make C us []) (by have b := hb _ (Value.ref (s.heap.objs.size + 1) :: us) I2.kIn (by rw [List.append_nil]; exact hl); rw [List.append_nil] at b; exact b) r2 hq) fun r s' hq' => ?_))
  cases r with
  | error e => exact hx pins _ _ e s' I2 hq'
  | ok fl =>
    cases fl with
    | ret u =>
      obtain ⟨v, H', I3, rv, ev, q3⟩ := I2.after hq'
      subst ev
      exact ⟨rv, ⟨V.ref (s.heap.objs.size + 1), H', I3, rfl, q3⟩⟩
    | next => exact False.elim hq'
    | brk => exact False.elim hq'
    | cont => exact False.elim hq'
theorem pe_makeX {x : Str} {p pos : Pos} {e : Expr} {es : List Expr} {t : TA} (M : Mk X.K C f) (F : FnOk X.prog X.w X.K X.mg X.base CX k f fd ps sp) (hr : Room (k + 1) X.A) (hg : Gl X x) (hm : X.mg x = some (.ref C)) (hb : Binds X.K fd ps []) (hx : ∀ σ, PassesAt CX X σ (E σ))
    (ha : PA X (e :: es) t) (hdb : (x == ("__debug__" : Str)) = false := by decide) (he : starEach (e :: es) X.env = (false, eval e X.env) :: starEach es X.env := by rfl) (hpl : (backTo pos (starEach es X.env)).any (·.1) = false := by rfl) :
    PE X (.Call (.Name x p) (e :: es) [] pos) (tMakeX C sp E t) := by
  refine ⟨fun pins s σ H Q I h => ?_⟩
  refine wpAny_Call_Name_kw (ld_glob I hg hm ?_ hdb)
  refine PySem.W.callWith_K (h₀ := X.base) I.ok.mod.kin M.kp (thn (ha.run pos pins s σ H _ I h) fun us s1 ⟨vs, H1, I1, r, q⟩ => ⟨I1.kIn, ?_⟩) he hpl
  exact run_makeX M F hr hb (hx σ) I1 r q
/-- o[i] = v: what is raised is wished for at the slots -/
theorem pg_putX {o i : Expr} {to ti : TE} {pos : Pos} (m : Meth X.K C "__setitem__" f) (hq : PySem.W.noSeq X.K C = true) (F : FnOk X.prog X.w X.K X.mg X.base CX k f fd ps sp) (hr : Room k X.A) (hb : Binds X.K fd ps []) (hx : ∀ σ, PassesAt CX X σ (E σ)) (ho : PE X o to) (hi : PE X i ti)
    (ha : ∀ v, assign (.Subscript o i pos) X.env v = (do
      let ov ← holding [v] (eval o X.env)
      let iv ← holding [v, ov] (eval i X.env)
      standAt pos
      holding [v, ov, iv] (setItem ov iv v)
      release [v, ov, iv] []) := by intro _; rfl) : PG X (.Subscript o i pos) (fun v σ H Q => to σ H fun o H1 => ti σ H1 fun i H2 => ∃ a dx fs, o = .ref a ∧ H2 a = some (.ins C dx fs) ∧ sp [.ref a, i, v] H2 (fun _ H3 => Q σ H3) (E σ)) := by
  refine ⟨fun pins s σ H v u Q I r h => ?_⟩
  rw [ha]
  refine wpAny_bind (wpAny_holding (thn (ho.run pins s σ H _ I h) fun ov s1 ⟨x, H1, I1, r1, q1⟩ => ?_))
  refine wpAny_bind (wpAny_holding (thn (hi.run pins s1 σ H1 _ I1 q1) fun iv s2 ⟨y, H2, I2, r2, q2⟩ => ?_))
  obtain ⟨a, dx, fs, rfl, ea, q⟩ := q2
  cases r1
  obtain ⟨ox, od, J⟩ := inst_at I2 ea
  obtain ⟨m', hF⟩ := I2.fr
  refine wpAny_bind (wpAny_standAt (wpAny_bind (wpAny_holding (PySem.W.ksp_setItem hF I2.ok.mod.kin J hq m.at_ m.fn (wpAny_mono (own_run F hr rfl hb (hx σ) I2 (.cons vref (.cons r2 (.cons r .nil))) q) (fun w s' hw => ?_) fun _ _ x => x)))))
  obtain ⟨v', H', I', _, q'⟩ := hw
  exact wpAny_release ⟨σ, H', I', q'⟩
end
end KO

namespace KO
open PySem PySem.Spec PyProof.Rows L2
/-- the state of a zip that a list is filled from, behind i pairs -/
def ZSt (z TI TO i1 i2 a b S : Addr) (h : Heap) (i : Nat) : Prop := IsPair h TI (.ref i1) (.ref i2) ∧ h.IsListIter i1 a i ∧ h.IsListIter i2 b i ∧ (∃ o, h.get? TO = some o) ∧
  ((IsZip h z TI TO .none ∧ ∃ u v, IsPair h TO u v) ∨ ∃ T f oT, IsZipHeld h z TI TO T f ∧ h.get? T = some oT ∧ T ≠ z ∧ T ≠ i1 ∧ T ≠ i2 ∧ T ≠ S)
section
variable {X : Cx} {pins : List (Addr × Obj)} {σ : L2.St}
theorem ZSt.other {z TI TO i1 i2 a b S : Addr} {h h' : Heap} {i : Nat} (st : ZSt z TI TO i1 i2 a b S h i) (n : ∀ c ∈ [z, TI, TO, i1, i2], c ≠ S) (k : ∀ c o, c ≠ S → h.get? c = some o → h'.get? c = some o) : ZSt z TI TO i1 i2 a b S h' i := by
  obtain ⟨p1, p2, p3, ⟨o, p4⟩, p5⟩ := st
  refine ⟨k _ _ (n TI (by simp)) p1, p2.at fun o e => k _ o (n i1 (by simp)) e, p3.at fun o e => k _ o (n i2 (by simp)) e, ⟨o, k _ _ (n TO (by simp)) p4⟩, ?_⟩
  rcases p5 with ⟨q1, u, v, q2⟩ | ⟨T, f, oT, q1, q2, q3, q4, q5, q6⟩
  · exact .inl ⟨k _ _ (n z (by simp)) q1, u, v, k _ _ (n TO (by simp)) q2⟩
  · exact .inr ⟨T, f, oT, k _ _ (n z (by simp)) q1, k _ _ q6 q2, q3, q4, q5, q6⟩
/-- pair by pair at the addresses ts -/
def ZPr (H : Hp) (xs ys : List V) (ts : List Addr) : Prop := ∀ (j : Nat) (t : Addr), ts[j]? = some t → ∃ x y, xs[j]? = some x ∧ ys[j]? = some y ∧ H t = some (.tup [x, y])
theorem ZPr.but {H H' : Hp} {xs ys : List V} {ts : List Addr} {S : Addr} {zs : List V} (p : ZPr H xs ys ts) (hS : H S = some (.lst zs)) (k : ∀ c o, c ≠ S → H c = some o → H' c = some o) : ZPr H' xs ys ts := fun j t hj => by
  obtain ⟨x, y, h1, h2, h3⟩ := p j t hj
  exact ⟨x, y, h1, h2, k _ _ (ne_of h3 hS (by intro z; cases z)) h3⟩
theorem zip_loop {A1 : Around} {R : Result → Shared → Prop} {H0 : Hp} {z TI TO i1 i2 a b S : Addr} {xs ys : List V} (hh : A1.in1.handled = none) (D : ZipApart z TI TO i1 i2 a b) (hS0 : ∀ c ∈ [z, TI, TO, i1, i2], c ≠ S) (aS : a ≠ S) (bS : b ≠ S) (hl : xs.length = ys.length) (hn : xs.length ≤ 1000)
    (hR : ∀ s H ts, Inv X pins σ H s → ts.length = xs.length → ZPr H xs ys ts → H S = some (.lst (ts.map V.ref)) → (∀ c o, c ≠ S → H0 c = some o → H c = some o) → R (.ok (.ret .none)) s) :
    ∀ k i s H ts, xs.length - i = k → i ≤ xs.length → Inv X pins σ H s → (∀ c ∈ [z, TI, TO, i1, i2], FpOk X pins H c) → SqL X.K H a xs → SqL X.K H b ys → H S = some (.lst (ts.map V.ref)) → ts.length = i → ZPr H xs ys ts → (∀ c o, c ≠ S → H0 c = some o → H c = some o) →
      ZSt z TI TO i1 i2 a b S s.heap i → codeAny (model X.prog X.w) A1 (.builtin "list.extend.loop" ⟨[.ref S, .ref z, .none], []⟩) R s := by
  intro k
  induction k with
  | zero =>
    intro i s H ts hk hi I hf qa qb hS ht pr fr st
    have e : i = xs.length := by omega
    subst e
    obtain ⟨its, rv, p1, _⟩ := I.list qa
    obtain ⟨its2, rv2, p2, _⟩ := I.list qb
    obtain ⟨hTI, h1, h2, ⟨oO, hO⟩, hz⟩ := st
    refine codeAny_builtin PySem.F.entry_extend_loop ?_
    rw [Around.under_plainId PySem.F.plain_extend_loop _]
    show wpAny _ A1.in1 (pyNext (.ref z) >>= _) _ _ s
    have hend : its.toArray[xs.length]? = none := by
      rw [List.getElem?_toArray]
      exact rv.none_of (by simp)
    rcases hz with ⟨hz, u, v, hTO⟩ | ⟨T, f, oT, hz, hT, r1, r2, r3, r4⟩
    · refine wpAny_bind (wpAny_pyNext_zip_end hh D hz hTI hTO h1 h2 p1.isList p2.isList (.inl hend) fun h' hk => wpAny_pure (hR _ H ts ?_ ht pr hS fr))
      exact I.turnedL (t' := s.toks) (ch := [z, TI, TO, i1, i2]) (fun c o hb q => hk c o (fun q' => hb (by simp [q'])) (fun q' => hb (by simp [q'])) (fun q' => hb (by simp [q'])) (fun q' => hb (by simp [q'])) q) hf
    · refine wpAny_bind (wpAny_pyNext_zip_end_held hh D hz hT hTI h1 h2 p1.isList p2.isList (.inl hend) fun h' hk => wpAny_pure (hR _ H ts ?_ ht pr hS fr))
      exact I.turnedL (t' := s.toks) (ch := [z, TI, TO, i1, i2]) (fun c o hb q => hk c o (fun q' => hb (by simp [q'])) (fun q' => hb (by simp [q'])) (fun q' => hb (by simp [q'])) q) hf
  | succ k ih =>
    intro i s H ts hk hi I hf qa qb hS ht pr fr st
    have hlt : i < xs.length := by omega
    obtain ⟨its, rv, p1, _⟩ := I.list qa
    obtain ⟨its2, rv2, p2, _⟩ := I.list qb
    obtain ⟨hTI, h1, h2, ⟨oO, hO⟩, hz⟩ := st
    have hx : xs[i]? = some xs[i] := List.getElem?_eq_getElem hlt
    have hy : ys[i]? = some ys[i] := List.getElem?_eq_getElem (by omega)
    obtain ⟨u, hu, ru⟩ := rv.get hx
    obtain ⟨u2, hu2, ru2⟩ := rv2.get hy
    have nT : H s.heap.objs.size = none := I.hok.fresh (Nat.le_refl _)
    obtain ⟨_, itsS, cS, rS, hlS, eS⟩ := I.lstM hS
    have lS : S < s.heap.objs.size := Heap.lt_size eS
    have lz : z < s.heap.objs.size := by rcases hz with ⟨hz, _⟩ | ⟨T, f, oT, hz, _⟩ <;> exact Heap.lt_size hz
    have lTI : TI < s.heap.objs.size := Heap.lt_size hTI
    have lTO : TO < s.heap.objs.size := Heap.lt_size hO
    have l1 : i1 < s.heap.objs.size := by obtain ⟨_, e, _⟩ := h1; exact Heap.lt_size e
    have l2 : i2 < s.heap.objs.size := by obtain ⟨_, e, _⟩ := h2; exact Heap.lt_size e
    -- behind the pair
    have step : ∀ h', (∀ c o, c ∉ [z, TI, TO, i1, i2] → s.heap.get? c = some o → h'.get? c = some o) → IsPair h' s.heap.objs.size u u2 → ZSt z TI TO i1 i2 a b S h' (i + 1) →
        wpAny (model X.prog X.w) A1.in1 (updateSeq S (·.push (.ref s.heap.objs.size)) >>= fun _ => again (.builtin "list.extend.loop" ⟨[.ref S, .ref z, .none], []⟩)) (fun fin s' => match fin with | .done f => R (.ok f) s' | .again c' => c'.quiet = true ∧ codeAny (model X.prog X.w) A1 c' R s') (fun e s' => R (.error e) s') { s with heap := h' } := by
      intro h' kk hT st'
      have new : ObjOk X.prog X.w (upd H s.heap.objs.size (.tup [xs[i], ys[i]])) h' s.heap.objs.size (.tup [xs[i], ys[i]]) := ⟨by show 2 ≤ sizeLine; decide, [u, u2], .cons ru (.cons ru2 .nil), ⟨_, hT, rfl, _, rfl⟩⟩
      have I1 : Inv X pins σ (upd H s.heap.objs.size (.tup [xs[i], ys[i]])) { s with heap := h' } := I.turnedNew (t' := s.toks) (ch := [z, TI, TO, i1, i2]) kk hf (Nat.le_refl _) new
      have nST : s.heap.objs.size ≠ S := Nat.ne_of_gt lS
      have hS1 : (upd H s.heap.objs.size (.tup [xs[i], ys[i]])) S = some (.lst (ts.map V.ref)) := by rw [upd_ne (Ne.symm nST)]; exact hS
      obtain ⟨_, its3, c3, r3, hl3, e3⟩ := I1.lstM hS1
      have hlen3 := r3.length
      rw [List.length_map, ht] at hlen3
      refine wpAny_bind (wpAny_updateSeq e3 rfl (wpAny_pure ⟨plainId_quiet PySem.F.plain_extend_loop _, ?_⟩) (by rw [List.size_toArray, sizeLine_eq]; omega) (by show (its3.toArray.push (.ref s.heap.objs.size)).size ≤ sizeLine + 1; rw [Array.size_push, List.size_toArray, sizeLine_eq]; omega))
      have I3 := I1.lset (f := (·.push (.ref s.heap.objs.size))) (its' := its3 ++ [.ref s.heap.objs.size]) (ys := (ts ++ [s.heap.objs.size]).map V.ref) (t' := s.toks) hS1 e3 (by simp) (by rw [List.map_append]; exact r3.append (.cons rfl .nil)) (by rw [List.length_map, List.length_append, ht, sizeLine_eq]; show i + 1 ≤ _; omega)
      have kO : ∀ c o, c ≠ S → H c = some o → (upd (upd H s.heap.objs.size (.tup [xs[i], ys[i]])) S (.lst ((ts ++ [s.heap.objs.size]).map V.ref))) c = some o := fun c o nc hc => by
        rw [upd_ne nc, upd_ne (ne_of_none hc nT)]
        exact hc
      have ext2 : Ext H (upd H s.heap.objs.size (.tup [xs[i], ys[i]])) := Ext.upd nT
      have qk : ∀ {c : Addr} {zs : List V}, c ≠ S → SqL X.K H c zs → SqL X.K (upd (upd H s.heap.objs.size (.tup [xs[i], ys[i]])) S (.lst ((ts ++ [s.heap.objs.size]).map V.ref))) c zs := fun {c zs} nc q => by
        rcases q with (q | ⟨o, q⟩) | q
        · exact .inl (.inl (kO _ _ nc q))
        · exact .inl (.inr ⟨o, kO _ _ nc q⟩)
        · exact .inr q
      have sz : ∀ c ∈ [z, TI, TO, i1, i2], c < s.heap.objs.size := fun c hc => by
        have e' : c = z ∨ c = TI ∨ c = TO ∨ c = i1 ∨ c = i2 := by simpa using hc
        rcases e' with q | q | q | q | q
        · rw [q]; exact lz
        · rw [q]; exact lTI
        · rw [q]; exact lTO
        · rw [q]; exact l1
        · rw [q]; exact l2
      refine ih (i + 1) _ _ (ts ++ [s.heap.objs.size]) (by omega) hlt I3 (fun c hc => ?_) (qk aS qa) (qk bS qb) upd_same (by rw [List.length_append, ht]; rfl) ?_ (fun c o nc h0 => kO _ _ nc (fr c o nc h0)) (st'.other hS0 fun c o nc e => (Heap.get?_update_other _ _ (Ne.symm nc)).trans e)
      · obtain ⟨f0, f1⟩ := hf c hc
        refine ⟨?_, f1⟩
        rw [upd_ne (hS0 c hc), upd_ne (Nat.ne_of_lt (sz c hc))]
        exact f0
      · intro j t hj
        by_cases hji : j < ts.length
        · rw [List.getElem?_append_left hji] at hj
          obtain ⟨x, y, g1, g2, g3⟩ := pr j t hj
          exact ⟨x, y, g1, g2, kO _ _ (ne_of g3 hS (by intro z; cases z)) g3⟩
        · rw [List.getElem?_append_right (by omega)] at hj
          obtain ⟨hj1, hj2⟩ := List.getElem?_eq_some_iff.mp hj
          have ej : j = i := by
            have : j - ts.length < 1 := hj1
            omega
          subst ej
          have et : s.heap.objs.size = t := by
            rw [← hj2]
            simp
          rw [← et]
          exact ⟨_, _, hx, hy, by rw [upd_ne nST, upd_same]⟩
    refine codeAny_builtin PySem.F.entry_extend_loop ?_
    rw [Around.under_plainId PySem.F.plain_extend_loop _]
    show wpAny _ A1.in1 (pyNext (.ref z) >>= _) _ _ s
    have hu' : its.toArray[i]? = some u := by rw [List.getElem?_toArray]; exact hu
    have hu2' : its2.toArray[i]? = some u2 := by rw [List.getElem?_toArray]; exact hu2
    have nT1 : s.heap.objs.size ≠ i1 := Nat.ne_of_gt l1
    have nT2 : s.heap.objs.size ≠ i2 := Nat.ne_of_gt l2
    have nTz : s.heap.objs.size ≠ z := Nat.ne_of_gt lz
    have nTS : s.heap.objs.size ≠ S := Nat.ne_of_gt lS
    rcases hz with ⟨hz, v, v2, hTO⟩ | ⟨T, f, oT, hz, hT, r1, r2, r3, r4⟩
    · refine wpAny_bind (wpAny_pyNext_zip_item D hz hTI hTO h1 h2 p1.isList p2.isList hu' hu2' fun h' z' TO' h1' h2' hTT hsz hk => ?_)
      exact step h' (fun c o hb q => hk c o (fun q' => hb (by simp [q'])) (fun q' => hb (by simp [q'])) (fun q' => hb (by simp [q'])) (fun q' => hb (by simp [q'])) q) hTT
        ⟨hk _ _ D.TIz D.TITO D.TIi1 D.TIi2 hTI, h1', h2', ⟨_, TO'⟩, .inr ⟨_, false, _, z', hTT, nTz, nT1, nT2, nTS⟩⟩
    · refine wpAny_bind (wpAny_pyNext_zip_item_held D hz hT hTI h1 h2 p1.isList p2.isList hu' hu2' fun h' z' h1' h2' hTT hsz hk => ?_)
      exact step h' (fun c o hb q => hk c o (fun q' => hb (by simp [q'])) (fun q' => hb (by simp [q'])) (fun q' => hb (by simp [q'])) q) hTT
        ⟨hk _ _ D.TIz D.TIi1 D.TIi2 hTI, h1', h2', ⟨_, hk _ _ D.TOz D.TOi1 D.TOi2 hO⟩, .inr ⟨T, true, oT, z', hk _ _ r1 r2 r3 hT, r1, r2, r3, r4⟩⟩
/-- list(zip(a, b)), two lists of one length: a new list of new pairs -/
def tListZip (K : PySem.W.Frag) (ta : TA) : TE := fun σ H Q => ta σ H fun vs H1 => ∃ a b xs ys, vs = [.ref a, .ref b] ∧ SqL K H1 a xs ∧ SqL K H1 b ys ∧ xs.length = ys.length ∧ xs.length ≤ 1000 ∧
  ∀ l H2 ts, H1 l = none → Same H1 H2 → H2 l = some (.lst (ts.map V.ref)) → ts.length = xs.length → ZPr H2 xs ys ts → Q (.ref l) H2
theorem zip_nolen : typeLookup (.type "zip") "__len__" = pure none := am_miss_of_fast (by decide +kernel)
theorem zip_nohint : typeLookup (.type "zip") "__length_hint__" = pure none := am_miss_of_fast (by decide +kernel)
theorem pe_listZip {e e2 : Expr} {ta : TA} {p p2 pos pos2 : Pos} (hc : X.calm = true) (hg : Gl X "list") (hm : X.mg "list" = none) (hg2 : Gl X "zip") (hm2 : X.mg "zip" = none) (ha : PA X [e, e2] ta)
    (hs : starEach [e, e2] X.env = (false, eval e X.env) :: starEach [e2] X.env := by rfl) (hpl : (backTo pos2 (starEach [e2] X.env)).any (·.1) = false := by rfl)
    (hs2 : starEach [.Call (.Name "zip" p2) [e, e2] [] pos2] X.env = (false, eval (.Call (.Name "zip" p2) [e, e2] [] pos2) X.env) :: starEach [] X.env := by rfl) :
    PE X (.Call (.Name "list" p) [.Call (.Name "zip" p2) [e, e2] [] pos2] [] pos) (tListZip X.K ta) := by
  refine ⟨fun pins s σ H Q I h => ?_⟩
  refine Call_ (ld_blt I hg hm PyProof.Rows.boot_list (PyProof.Rows.callWith_type1 (args_cons (Call_ (ld_blt I hg2 hm2 PyProof.Rows.boot_zip (PyProof.Rows.callWith_type1 (thn (ha.run pos2 pins s σ H _ I h) fun us s1 ⟨vs, H1, I1, r1, q1⟩ => ?_) hs hpl))) hs2) hs2 rfl))
  obtain ⟨a, b, xs, ys, rfl, qa, qb, hl, hn, q⟩ := q1
  obtain ⟨u1, u2, rfl, ra, rb⟩ := vals2 r1
  cases ra
  cases rb
  obtain ⟨its, rv, p1, _⟩ := I1.list qa
  obtain ⟨its2, rv2, p2', _⟩ := I1.list qb
  have la : a < s1.heap.objs.size := p1.lt
  have lb : b < s1.heap.objs.size := p2'.lt
  refine call_zip_2 p1.isList p2'.isList fun h' hz hTI hTO h1 h2 hsz hk => args_nil ?_
  have I2 : Inv X pins σ H1 { s1 with heap := h' } := I1.kept (t' := s1.toks) hk
  have D := PySem.W.ktu_apart s1.heap.objs.size a b la lb
  have hf : ∀ c ∈ [s1.heap.objs.size + 4, s1.heap.objs.size + 2, s1.heap.objs.size + 3, s1.heap.objs.size, s1.heap.objs.size + 1], FpOk X pins H1 c := fun c hcm => by
    have e' : c = s1.heap.objs.size + 4 ∨ c = s1.heap.objs.size + 2 ∨ c = s1.heap.objs.size + 3 ∨ c = s1.heap.objs.size ∨ c = s1.heap.objs.size + 1 := by simpa using hcm
    have hle : s1.heap.objs.size ≤ c := by omega
    exact I1.fpOk hle (I1.hok.fresh hle)
  have hlt : ∀ c ∈ [s1.heap.objs.size + 4, s1.heap.objs.size + 2, s1.heap.objs.size + 3, s1.heap.objs.size, s1.heap.objs.size + 1], c < h'.objs.size := fun c hcm => by
    have e' : c = s1.heap.objs.size + 4 ∨ c = s1.heap.objs.size + 2 ∨ c = s1.heap.objs.size + 3 ∨ c = s1.heap.objs.size ∨ c = s1.heap.objs.size + 1 := by simpa using hcm
    rw [hsz]
    omega
  have la' : a < h'.objs.size := Nat.lt_of_lt_of_le la (by rw [hsz]; exact Nat.le_add_right _ _)
  have lb' : b < h'.objs.size := Nat.lt_of_lt_of_le lb (by rw [hsz]; exact Nat.le_add_right _ _)
  generalize s1.heap.objs.size + 4 = z at hz D hf hlt ⊢
  generalize s1.heap.objs.size + 2 = TI at hz hTI D hf hlt
  generalize s1.heap.objs.size + 3 = TO at hz hTO D hf hlt
  generalize s1.heap.objs.size + 1 = i2 at hTI h2 D hf hlt
  generalize s1.heap.objs.size = i1 at hTI h1 D hf hlt
  refine callType_codes (Q₁ := fun x s3 => x = .ref h'.objs.size ∧ s3 = { s1 with heap := h'.push { cls := .type "list", data := .seq #[] } }) PySem.F.called_list (PySem.F.typeCall_list_1 _) PySem.F.entry_list_init (code_list_new _ ⟨rfl, rfl⟩) fun x s3 hx => ?_
  obtain ⟨rfl, rfl⟩ := hx
  have got : (h'.push { cls := .type "list", data := .seq #[] }).get? h'.objs.size = some { cls := .type "list", data := .seq #[] } := Heap.get?_push_size _ rfl
  refine ⟨⟨_, got, rfl⟩, PySem.F.args_list_init_2 _ _, ?_⟩
  have fr : H1 h'.objs.size = none := I2.hok.fresh (Nat.le_refl _)
  have I3 : Inv X pins σ (upd H1 h'.objs.size (.lst [])) { s1 with heap := h'.push { cls := .type "list", data := .seq #[] } } := I2.lnew (its := []) (t' := s1.toks) .nil (Nat.zero_le _)
  have nS : ∀ c ∈ [z, TI, TO, i1, i2], c ≠ h'.objs.size := fun c hc => Nat.ne_of_lt (hlt c hc)
  have aS : a ≠ h'.objs.size := Nat.ne_of_lt la'
  have bS : b ≠ h'.objs.size := Nat.ne_of_lt lb'
  have st0 : ZSt z TI TO i1 i2 a b h'.objs.size h' 0 := ⟨hTI, h1, h2, ⟨_, hTO⟩, .inl ⟨hz, _, _, hTO⟩⟩
  have st1 : ZSt z TI TO i1 i2 a b h'.objs.size (h'.push { cls := .type "list", data := .seq #[] }) 0 := st0.other nS fun c o _ e => Heap.get?_push_of_some _ e
  generalize h'.objs.size = S at got fr I3 nS aS bS st1 ⊢
  show wpAny _ _ (do let old ← Builtin.List.listItems (.ref S); Builtin.List.listUpdate (.ref S) (fun _ => #[]); letGo old.toList.reverse; Builtin.List.listExtendWith (.ref S) (.ref z) .none) _ _ _
  refine wpAny_bind ?_
  unfold Builtin.List.listItems
  refine wpAny_bind (wpAny_seqItems got rfl (wpAny_pure ?_))
  show wpAny _ _ (updateSeq S (fun _ => #[]) >>= fun _ => letGo (#[] : Array Value).toList.reverse >>= fun _ => Builtin.List.listExtendWith (.ref S) (.ref z) .none) _ _ _
  refine wpAny_bind (wpAny_updateSeq got rfl ?_)
  have I4 := I3.lset (f := fun _ => #[]) (its := []) (its' := []) (ys := []) (t' := s1.toks) upd_same got rfl .nil (Nat.zero_le _)
  rw [upd_upd] at I4
  refine wpAny_bind (wpAny_letGo ?_)
  have st2 : ZSt z TI TO i1 i2 a b S ((h'.push { cls := .type "list", data := .seq #[] }).update S (Obj.mapSeq fun _ => #[])) 0 := st1.other nS fun c o nc e => (Heap.get?_update_other _ _ (Ne.symm nc)).trans e
  generalize hs4 : ({ s1 with heap := (h'.push { cls := .type "list", data := .seq #[] }).update S (Obj.mapSeq fun _ => #[]) } : Shared) = s4 at I4 ⊢
  have st4 : ZSt z TI TO i1 i2 a b S s4.heap 0 := by
    rw [← hs4]
    exact st2
  have hz4 : IsZip s4.heap z TI TO .none := by
    rw [← hs4]
    exact (Heap.get?_update_other _ _ (Ne.symm (nS z (by simp)))).trans (Heap.get?_push_of_some _ hz)
  have hT : s4.TypeIs (.ref z) "zip" := ⟨_, hz4, rfl⟩
  clear hs4 st2 st1 got I3
  unfold Builtin.List.listExtendWith
  refine wpAny_bind (wpAny_typeOf hT ?_)
  have b1 : Builtin.List.listSameRef (.ref S) (.ref z) = false := by simp [Builtin.List.listSameRef, (nS z (by simp)).symm]
  have b2 : (Value.type "zip" == Value.type "list") = false := rfl
  have b3 : (Value.type "zip" == Value.type "tuple") = false := rfl
  simp only [b1, b2, b3, Bool.or_false, Bool.false_eq_true, if_false]
  refine wpAny_bind (wpAny_pyIter_zip hz4 ?_)
  refine wpAny_bind (wpAny_holding ?_)
  unfold Builtin.List.listLengthHint
  refine wpAny_bind (wpAny_specialOf hT zip_nolen ?_)
  show wpAny _ _ (specialOf (Value.ref z) (Str.ofString "__length_hint__") >>= _) _ _ _
  refine wpAny_bind (wpAny_specialOf hT zip_nohint ?_)
  refine wpAny_pure ?_
  show wpAny _ _ (rule "list.extend.makes-room" >>= fun _ => Builtin.List.listTouch (.ref S) >>= fun _ => again (.builtin "list.extend.loop" ⟨[.ref S, .ref z, .none], []⟩)) _ _ _
  refine wpAny_bind (wpAny_rule ?_)
  refine wpAny_bind ?_
  show wpAny _ _ (updateSeq S (·.push .none) >>= fun _ => updateSeq S (·.pop)) _ _ _
  have hSl : (upd H1 S (.lst [])) S = some (.lst []) := upd_same
  obtain ⟨_, it3, k3, r3, hl3, e3⟩ := I4.lstM hSl
  cases r3
  refine wpAny_bind (wpAny_updateSeq e3 rfl ?_)
  have I6 := I4.lset (f := (·.push Value.none)) (its' := [Value.none]) (ys := [.non]) (t' := s4.toks) hSl e3 (by simp) (.cons rfl .nil) (by rw [List.length_singleton, sizeLine_eq]; decide)
  have st6 := st4.other nS (h' := (s4.heap.update S (Obj.mapSeq (·.push Value.none)))) fun c o nc e => (Heap.get?_update_other _ _ (Ne.symm nc)).trans e
  obtain ⟨_, it4, k4, r4, hl4, e4⟩ := I6.lstM upd_same
  obtain ⟨u4, rfl, ru4⟩ := r4.one
  refine wpAny_updateSeq e4 rfl ?_ (by show 1 ≤ sizeLine; rw [sizeLine_eq]; decide) (by show 0 ≤ sizeLine + 1; exact Nat.zero_le _)
  have I7 := I6.lset (f := (·.pop)) (its := [u4]) (its' := []) (ys := []) (t' := s4.toks) upd_same e4 (by rfl) .nil (Nat.zero_le _)
  rw [upd_upd, upd_upd] at I7
  have st7 := st6.other nS (h' := ((s4.heap.update S (Obj.mapSeq (·.push Value.none))).update S (Obj.mapSeq (·.pop)))) fun c o nc e => (Heap.get?_update_other _ _ (Ne.symm nc)).trans e
  have qk : ∀ {c : Addr} {zs : List V}, SqL X.K H1 c zs → SqL X.K (upd H1 S (.lst [])) c zs := fun {c zs} q => SqL.ext q (Ext.upd fr)
  refine wpAny_pure ⟨plainId_quiet PySem.F.plain_extend_loop _, zip_loop (pins := pins) (σ := σ) (H0 := H1) (by simp [I1.ok.hd hc]) D nS aS bS hl hn (fun s7 H7 ts I7 e7 p7 h7 f7 => ⟨rfl, .ref S, H7, I7, vref, q S H7 ts fr (fun c o hc0 => f7 c o (ne_of_none hc0 fr) hc0) h7 e7 p7⟩) xs.length 0 _ _ [] rfl (Nat.zero_le _) I7 (fun c hc => ?_) (qk qa) (qk qb) upd_same rfl (fun j t hj => by cases j <;> cases hj) (fun c o nc h0 => by rw [upd_ne nc]; exact h0) st7⟩
  obtain ⟨f0, f1⟩ := hf c hc
  exact ⟨by rw [upd_ne (nS c hc)]; exact f0, f1⟩
/-- o op p, both of the class: an object comes back -/
def rBinO (C : Addr) (sp : Sp) (E : XK) : R2 := fun x y H Q => ∃ a dx fs b dy gs, x = .ref a ∧ y = .ref b ∧ H a = some (.ins C dx fs) ∧ H b = some (.ins C dy gs) ∧ sp [.ref a, .ref b] H (fun v H' => ∃ r, v = .ref r ∧ Q (.ref r) H') E
theorem bin_own {CX : CXT} {k : Nat} {f C : Addr} {fd : FuncData} {ps : List Str} {sp : Sp} {E : XK} {op : Operator} {name : Str} (hn : PySem.dunder op.info.2 = name) (m : Meth X.K C name f) (sf : PySem.W.selfFirst X.K C = true) (F : FnOk X.prog X.w X.K X.mg X.base CX k f fd ps sp) (hr : Room k X.A) (hb : Binds X.K fd ps []) (hx : ∀ σ, PassesAt CX X σ E) : OpR X (binaryOp op) (rBinO C sp E) := by
  subst hn
  intro pins s σ H x y v u Q I rx ry h
  obtain ⟨a, dx, fs, b, dy, gs, rfl, rfl, ha, hb', q⟩ := h
  cases rx
  cases ry
  obtain ⟨ox, od, J⟩ := inst_at I ha
  obtain ⟨oy, od', J'⟩ := inst_at I hb'
  obtain ⟨m', hF⟩ := I.fr
  refine PySem.W.binop_K hF I.ok.mod.kin J J'.type sf m.at_ m.fn (wpAny_mono (own_run (E := fun _ => E) F hr rfl hb (hx σ) I (.cons vref (.cons vref .nil)) q) (fun u s' hu => ?_) fun _ _ x => x)
  obtain ⟨v, H', I', rv, r, rfl, q'⟩ := hu
  cases rv
  exact ⟨.ref r, H', I', vref, q'⟩
end
end KO

namespace KO
open PySem PySem.Spec PyProof.Rows L2 PySem.W
section
variable {prog : Program} {w : World} {A : Around} {E : Value → Shared → Prop} {s : Shared} {K : PySem.W.Frag} {x C L f g : Addr} {h₀ : Heap} {m : Str → Option Value} {ox : Obj} {od : Option Obj}
theorem int_mul_ref {i : Int} {t : Tok} {P : PySem.Fin → Shared → Prop} (hx : s.heap.get? x = some ox) (hd : ox.data = .plain) (h : P (.done (.ret .notImplemented)) s) : wpAny (model prog w) A (Builtin.«int.__mul__» ⟨[.int i t, .ref x], []⟩) P E s := by
  obtain ⟨hp, g, d, tk, os⟩ := s
  obtain ⟨oc, odd, dt, sl⟩ := ox
  dsimp only at hd
  subst hd
  repeat (any_goals (first | assumption | with_reducible refine wpAny_load hx ?_ | wp_step))
theorem rmul_K {i : Int} {t : Tok} {Q : Value → Shared → Prop} (F : Fr h₀ L s.heap m) (X₀ : K.In h₀) (I : PySem.W.InstAt s.heap x ox C od) (hd : ox.data = .plain) (hc : selfFirst K C = true)
    (hs : findIn K (.ref C) (PySem.dunder "mul") = some (some (.ref g))) (hr : findIn K (.ref C) (dunderR "mul") = some (some (.ref f))) (hf : isFn K (.ref f) = true) (hsub : subIn K (.ref C) (.type "int") = some false)
    (h : wpAny (model prog w) A (call (.ref f) [.ref x, .int i t]) (PySem.W.CmpBack Q) E s) : wpAny (model prog w) A (binaryOp .Mult (.int i t) (.ref x)) Q E s := by
  have X := X₀.keeps F.keep
  obtain ⟨cd, rest, hcd, hm⟩ := ksp_first hc
  have one := ksp_try X I hr hf h
  have hx := I.1
  obtain ⟨hh, gg, d, tt, os⟩ := s
  have hT : (⟨hh, gg, d, tt, os⟩ : Shared).TypeIs (.int i t) "int" := typeIs_int _ i t
  have L1 : Looks (model prog w) hh (typeOf (.int i t)) (.type "int") := Looks.of_pure rfl
  have L2 : Looks (model prog w) hh (typeOf (.ref x)) (.ref C) := I.type
  have L3 : Looks (model prog w) hh (fillsNumberSlot (.type "int") "mul") true := Looks.of_pure PySem.F.fills_int_mul
  have L4 : Looks (model prog w) hh (fillsNumberSlot (.ref C) "mul") true := fills_K X hcd hm hs
  have L5 : Looks (model prog w) hh (isSubtype (.ref C) (.type "int")) false := looks_subIn X hsub
  have L7 : Looks (model prog w) hh (numberSlotInPython (.type "int") "mul") false := Looks.of_pure rfl
  have hne : (Value.type "int" == Value.ref C) = false := Bool.eq_false_iff.mpr fun q => by cases beq_iff_eq.mp q
  simp only [binaryOp, show Operator.Mult.info = ("*", "mul") from rfl]
  refine wpAny_holding (wpAny_bind ?_)
  unfold binaryOp1
  refine wpAny_bind (L1.at (wpAny_bind (L2.at (wpAny_bind (L3.at ?_)))))
  simp only [hne, Bool.false_eq_true, if_false]
  ksp_lk
  unfold tryMethod
  refine wpAny_bind (wpAny_callSpecial?_slot hT PySem.F.slot_int_mul (wpAny_call_entry PySem.F.slot_int_mul hT PySem.F.entry_int_mul (int_mul_ref hx hd ⟨_, rfl, wpAny_pure ?_⟩) (PySem.F.args_int_mul_2 _ _)))
  show wpAny _ _ (tryMethod (.ref x) (dunderR "mul") (.int i t) >>= _) _ _ _
  refine wpAny_bind (wpAny_mono one (fun r s' hr' => ?_) fun _ _ e => e)
  obtain ⟨v, rfl, hq⟩ := hr'
  ksp_lk
  exact hq
end
section
variable {X : Cx} {CX : CXT} {k : Nat} {f g C : Addr} {fd : FuncData} {ps : List Str} {sp : Sp} {E : XK}
theorem vint (i : Int) (t : Tok) : RelV (.int i) (Value.int i t) := ⟨t, rfl⟩
/-- o op n, n an int: an object comes back -/
def rBinOI (C : Addr) (sp : Sp) (E : XK) : R2 := fun x y H Q => ∃ a dx fs, ∃ i : Int, x = .ref a ∧ y = .int i ∧ H a = some (.ins C dx fs) ∧ sp [.ref a, .int i] H (fun v H' => ∃ r, v = .ref r ∧ Q (.ref r) H') E
theorem bin_ownI {op : Operator} {name nameR : Str} {rc fo ro : Option Value} (hn : PySem.dunder op.info.2 = name) (hnR : dunderR op.info.2 = nameR) (m : Meth X.K C name f) (sf : PySem.W.selfFirst X.K C = true) (hr' : PySem.W.findIn X.K (.ref C) nameR = some rc) (hp : rc = none ∨ ∃ g : Addr, rc = some (.ref g))
    (h1 : PySem.W.findIn X.K (.type "int") name = some fo) (h2 : PySem.W.findIn X.K (.type "int") nameR = some ro) (hsub : PySem.W.subIn X.K (.type "int") (.ref C) = some false)
    (F : FnOk X.prog X.w X.K X.mg X.base CX k f fd ps sp) (hr : Room k X.A) (hb : Binds X.K fd ps []) (hx : ∀ σ, PassesAt CX X σ E) : OpR X (binaryOp op) (rBinOI C sp E) := by
  subst hn
  subst hnR
  intro pins s σ H x y v u Q I rx ry h
  obtain ⟨a, dx, fs, i, rfl, rfl, ha, q⟩ := h
  cases rx
  obtain ⟨t, rfl⟩ := ry
  obtain ⟨ox, od, J⟩ := inst_at I ha
  obtain ⟨m', hF⟩ := I.fr
  refine PySem.W.ksp_binT hF I.ok.mod.kin J (by rfl) sf m.at_ m.fn hr' hp h1 h2 hsub (wpAny_mono (own_run (E := fun _ => E) F hr rfl hb (hx σ) I (.cons vref (.cons (vint _ t) .nil)) q) (fun u s' hu => ?_) fun _ _ x => x)
  obtain ⟨v, H', I', rv, r, rfl, q'⟩ := hu
  cases rv
  exact ⟨.ref r, H', I', vref, q'⟩
/-- n * o, n an int: the object's own __rmul__ -/
def rMulOI (C : Addr) (sp : Sp) (E : XK) : R2 := fun x y H Q => ∃ a dx fs, ∃ i : Int, x = .int i ∧ y = .ref a ∧ H a = some (.ins C dx fs) ∧ sp [.ref a, .int i] H (fun v H' => ∃ r, v = .ref r ∧ Q (.ref r) H') E
theorem rmul_own {gm : Addr} (m0 : Meth X.K C "__mul__" gm) (m : Meth X.K C "__rmul__" f) (sf : PySem.W.selfFirst X.K C = true) (hsub : PySem.W.subIn X.K (.ref C) (.type "int") = some false)
    (F : FnOk X.prog X.w X.K X.mg X.base CX k f fd ps sp) (hr : Room k X.A) (hb : Binds X.K fd ps []) (hx : ∀ σ, PassesAt CX X σ E) : OpR X (binaryOp .Mult) (rMulOI C sp E) := by
  intro pins s σ H x y v u Q I rx ry h
  obtain ⟨a, dx, fs, i, rfl, rfl, ha, q⟩ := h
  cases ry
  obtain ⟨t, rfl⟩ := rx
  obtain ⟨mA, J0, _⟩ := ins_get I.hok ha
  obtain ⟨od, J, _⟩ := J0.look
  obtain ⟨m', hF⟩ := I.fr
  have h0 : PySem.W.findIn X.K (.ref C) (PySem.dunder "mul") = some (some (.ref gm)) := m0.at_
  have h1 : PySem.W.findIn X.K (.ref C) (dunderR "mul") = some (some (.ref f)) := m.at_
  refine rmul_K hF I.ok.mod.kin J (by rfl) sf h0 h1 m.fn hsub (wpAny_mono (own_run (E := fun _ => E) F hr rfl hb (hx σ) I (.cons vref (.cons (vint _ t) .nil)) q) (fun u s' hu => ?_) fun _ _ x => x)
  obtain ⟨v, H', I', rv, r, rfl, q'⟩ := hu
  cases rv
  exact ⟨.ref r, H', I', vref, q'⟩
end
end KO

namespace D2
open PySem L2
/-! the text by its places -/
def topS (i : Nat) : Stmt := PySem.Challenge.pw_depotday_k02_load_shares.main.body.getD i (.Pass ⟨0, 0, 0, 0⟩)
abbrev sClen : Stmt := topS 8
abbrev sClst : Stmt := topS 9
abbrev sInit : Stmt := inClass (topS 10) 0
abbrev sCmin : Stmt := inClass (topS 10) 3
abbrev sPrs : Stmt := inClass (topS 10) 4
abbrev sLen : Stmt := inClass (topS 10) 5
abbrev sGet : Stmt := inClass (topS 10) 7
abbrev sPut : Stmt := inClass (topS 10) 9
abbrev sBoo : Stmt := inClass (topS 10) 11
abbrev sEq : Stmt := inClass (topS 10) 13
abbrev sAdd : Stmt := inClass (topS 10) 14
abbrev sSub : Stmt := inClass (topS 10) 16
abbrev sAnd : Stmt := inClass (topS 10) 18
abbrev sWth : Stmt := inClass (topS 10) 20
abbrev sMul : Stmt := inClass (topS 10) 21
abbrev sRmul : Stmt := inClass (topS 10) 22
abbrev sFdv : Stmt := inClass (topS 10) 23
abbrev sMod : Stmt := inClass (topS 10) 24
abbrev sCap : Stmt := inClass (topS 10) 25
abbrev sCell : Stmt := topS 12
abbrev sPool : Stmt := topS 13
abbrev sTake : Stmt := topS 14
abbrev sSame : Stmt := topS 15
abbrev sInt : Stmt := topS 16
abbrev sSize : Stmt := topS 17
abbrev sCount : Stmt := topS 18
abbrev sIsl : Stmt := topS 19
abbrev sNum : Stmt := topS 20
abbrev sMade : Stmt := topS 21
abbrev sRf : Stmt := topS 22
abbrev sShd : Stmt := topS 23
abbrev sFsh : Stmt := topS 24
abbrev sRul : Stmt := topS 25
abbrev sLaw : Stmt := topS 26
/-- what the top has written, as the walks ask for it -/
structure Tx (K : PySem.W.Frag) (mg : Str → Option Value) where
  t_MOST_LENGTH : Tok
  c_MOST_LENGTH : mg "MOST_LENGTH" = some (.int 60 t_MOST_LENGTH)
  z_len : mg "len" = none
  z_min : mg "min" = none
  z_max : mg "max" = none
  z_list : mg "list" = none
  z_zip : mg "zip" = none
  z_any : mg "any" = none
  z_all : mg "all" = none
  z_abs : mg "abs" = none
  z_int : mg "int" = none
  z_bool : mg "bool" = none
  z_str : mg "str" = none
  z_isinstance : mg "isinstance" = none
  z_tuple : mg "tuple" = none
  z_range : mg "range" = none
  z_ValueError : mg "ValueError" = none
  C_Load : Addr
  g_Load : mg "Load" = some (.ref C_Load)
  cl_Load : Cls K C_Load
  na_Load__counts : NoAttr K C_Load "_counts"
  fcheck_length : Addr
  dcheck_length : FuncData
  Fcheck_length : Fun K "check_length" "check_length" sClen fcheck_length dcheck_length
  bcheck_length : Binds K dcheck_length ["length"] []
  gcheck_length : mg "check_length" = some (.ref fcheck_length)
  fcheck_least : Addr
  dcheck_least : FuncData
  Fcheck_least : Fun K "check_least" "check_least" sClst fcheck_least dcheck_least
  bcheck_least : Binds K dcheck_least ["number", "least"] []
  gcheck_least : mg "check_least" = some (.ref fcheck_least)
  fLoad_init : Addr
  dLoad_init : FuncData
  FLoad_init : Fun K "__init__" "Load.__init__" sInit fLoad_init dLoad_init
  bLoad_init : Binds K dLoad_init ["self", "counts"] []
  M_Load : Mk K C_Load fLoad_init
  fLoad_check_minute : Addr
  dLoad_check_minute : FuncData
  FLoad_check_minute : Fun K "_check_minute" "Load._check_minute" sCmin fLoad_check_minute dLoad_check_minute
  bLoad_check_minute : Binds K dLoad_check_minute ["self", "minute"] []
  m_Load_check_minute : Meth K C_Load "_check_minute" fLoad_check_minute
  fLoad_pairs : Addr
  dLoad_pairs : FuncData
  FLoad_pairs : Fun K "_pairs" "Load._pairs" sPrs fLoad_pairs dLoad_pairs
  bLoad_pairs : Binds K dLoad_pairs ["self", "other"] []
  m_Load_pairs : Meth K C_Load "_pairs" fLoad_pairs
  fLoad_len : Addr
  dLoad_len : FuncData
  FLoad_len : Fun K "__len__" "Load.__len__" sLen fLoad_len dLoad_len
  bLoad_len : Binds K dLoad_len ["self"] []
  m_Load_len : Meth K C_Load "__len__" fLoad_len
  fLoad_getitem : Addr
  dLoad_getitem : FuncData
  FLoad_getitem : Fun K "__getitem__" "Load.__getitem__" sGet fLoad_getitem dLoad_getitem
  bLoad_getitem : Binds K dLoad_getitem ["self", "at"] []
  m_Load_getitem : Meth K C_Load "__getitem__" fLoad_getitem
  fLoad_put : Addr
  dLoad_put : FuncData
  FLoad_put : Fun K "put" "Load.put" sPut fLoad_put dLoad_put
  bLoad_put : Binds K dLoad_put ["self", "minute", "count"] []
  m_Load_put : Meth K C_Load "put" fLoad_put
  fLoad_bool : Addr
  dLoad_bool : FuncData
  FLoad_bool : Fun K "__bool__" "Load.__bool__" sBoo fLoad_bool dLoad_bool
  bLoad_bool : Binds K dLoad_bool ["self"] []
  m_Load_bool : Meth K C_Load "__bool__" fLoad_bool
  fLoad_eq : Addr
  dLoad_eq : FuncData
  FLoad_eq : Fun K "__eq__" "Load.__eq__" sEq fLoad_eq dLoad_eq
  bLoad_eq : Binds K dLoad_eq ["self", "other"] []
  m_Load_eq : Meth K C_Load "__eq__" fLoad_eq
  fLoad_add : Addr
  dLoad_add : FuncData
  FLoad_add : Fun K "__add__" "Load.__add__" sAdd fLoad_add dLoad_add
  bLoad_add : Binds K dLoad_add ["self", "other"] []
  m_Load_add : Meth K C_Load "__add__" fLoad_add
  fLoad_sub : Addr
  dLoad_sub : FuncData
  FLoad_sub : Fun K "__sub__" "Load.__sub__" sSub fLoad_sub dLoad_sub
  bLoad_sub : Binds K dLoad_sub ["self", "other"] []
  m_Load_sub : Meth K C_Load "__sub__" fLoad_sub
  fLoad_and : Addr
  dLoad_and : FuncData
  FLoad_and : Fun K "__and__" "Load.__and__" sAnd fLoad_and dLoad_and
  bLoad_and : Binds K dLoad_and ["self", "other"] []
  m_Load_and : Meth K C_Load "__and__" fLoad_and
  fLoad_within : Addr
  dLoad_within : FuncData
  FLoad_within : Fun K "within" "Load.within" sWth fLoad_within dLoad_within
  bLoad_within : Binds K dLoad_within ["self", "other"] []
  m_Load_within : Meth K C_Load "within" fLoad_within
  fLoad_mul : Addr
  dLoad_mul : FuncData
  FLoad_mul : Fun K "__mul__" "Load.__mul__" sMul fLoad_mul dLoad_mul
  bLoad_mul : Binds K dLoad_mul ["self", "other"] []
  m_Load_mul : Meth K C_Load "__mul__" fLoad_mul
  fLoad_rmul : Addr
  dLoad_rmul : FuncData
  FLoad_rmul : Fun K "__rmul__" "Load.__rmul__" sRmul fLoad_rmul dLoad_rmul
  bLoad_rmul : Binds K dLoad_rmul ["self", "other"] []
  m_Load_rmul : Meth K C_Load "__rmul__" fLoad_rmul
  fLoad_floordiv : Addr
  dLoad_floordiv : FuncData
  FLoad_floordiv : Fun K "__floordiv__" "Load.__floordiv__" sFdv fLoad_floordiv dLoad_floordiv
  bLoad_floordiv : Binds K dLoad_floordiv ["self", "other"] []
  m_Load_floordiv : Meth K C_Load "__floordiv__" fLoad_floordiv
  fLoad_mod : Addr
  dLoad_mod : FuncData
  FLoad_mod : Fun K "__mod__" "Load.__mod__" sMod fLoad_mod dLoad_mod
  bLoad_mod : Binds K dLoad_mod ["self", "other"] []
  m_Load_mod : Meth K C_Load "__mod__" fLoad_mod
  fLoad_capped : Addr
  dLoad_capped : FuncData
  FLoad_capped : Fun K "capped" "Load.capped" sCap fLoad_capped dLoad_capped
  bLoad_capped : Binds K dLoad_capped ["self", "width"] []
  m_Load_capped : Meth K C_Load "capped" fLoad_capped
  f_law_cell : Addr
  d_law_cell : FuncData
  F_law_cell : Fun K "_law_cell" "_law_cell" sCell f_law_cell d_law_cell
  b_law_cell : Binds K d_law_cell ["_law_script", "_law_k"] []
  g_law_cell : mg "_law_cell" = some (.ref f_law_cell)
  f_law_pool : Addr
  d_law_pool : FuncData
  F_law_pool : Fun K "_law_pool" "_law_pool" sPool f_law_pool d_law_pool
  b_law_pool : Binds K d_law_pool ["_law_script", "_law_k"] []
  g_law_pool : mg "_law_pool" = some (.ref f_law_pool)
  f_law_take : Addr
  d_law_take : FuncData
  F_law_take : Fun K "_law_take" "_law_take" sTake f_law_take d_law_take
  b_law_take : Binds K d_law_take ["_law_pool_here", "_law_many"] []
  g_law_take : mg "_law_take" = some (.ref f_law_take)
  f_law_same : Addr
  d_law_same : FuncData
  F_law_same : Fun K "_law_same" "_law_same" sSame f_law_same d_law_same
  b_law_same : Binds K d_law_same ["_law_got", "_law_due"] []
  g_law_same : mg "_law_same" = some (.ref f_law_same)
  f_law_int : Addr
  d_law_int : FuncData
  F_law_int : Fun K "_law_int" "_law_int" sInt f_law_int d_law_int
  b_law_int : Binds K d_law_int ["_law_got"] []
  g_law_int : mg "_law_int" = some (.ref f_law_int)
  f_law_size : Addr
  d_law_size : FuncData
  F_law_size : Fun K "_law_size" "_law_size" sSize f_law_size d_law_size
  b_law_size : Binds K d_law_size ["_law_pool_here"] []
  g_law_size : mg "_law_size" = some (.ref f_law_size)
  f_law_count : Addr
  d_law_count : FuncData
  F_law_count : Fun K "_law_count" "_law_count" sCount f_law_count d_law_count
  b_law_count : Binds K d_law_count ["_law_pool_here"] []
  g_law_count : mg "_law_count" = some (.ref f_law_count)
  f_law_is_load : Addr
  d_law_is_load : FuncData
  F_law_is_load : Fun K "_law_is_load" "_law_is_load" sIsl f_law_is_load d_law_is_load
  b_law_is_load : Binds K d_law_is_load ["_law_got", "_law_counts"] []
  g_law_is_load : mg "_law_is_load" = some (.ref f_law_is_load)
  f_law_number : Addr
  d_law_number : FuncData
  F_law_number : Fun K "_law_number" "_law_number" sNum f_law_number d_law_number
  b_law_number : Binds K d_law_number ["_law_pool_here", "_law_limit"] []
  g_law_number : mg "_law_number" = some (.ref f_law_number)
  f_law_made : Addr
  d_law_made : FuncData
  F_law_made : Fun K "_law_made" "_law_made" sMade f_law_made d_law_made
  b_law_made : Binds K d_law_made ["_law_way", "_law_load", "_law_number_here"] []
  g_law_made : mg "_law_made" = some (.ref f_law_made)
  f_law_refuses : Addr
  d_law_refuses : FuncData
  F_law_refuses : Fun K "_law_refuses" "_law_refuses" sRf f_law_refuses d_law_refuses
  b_law_refuses : Binds K d_law_refuses ["_law_way", "_law_load", "_law_number_here"] []
  g_law_refuses : mg "_law_refuses" = some (.ref f_law_refuses)
  f_law_shared : Addr
  d_law_shared : FuncData
  F_law_shared : Fun K "_law_shared" "_law_shared" sShd f_law_shared d_law_shared
  b_law_shared : Binds K d_law_shared ["_law_load", "_law_counts", "_law_divisor"] []
  g_law_shared : mg "_law_shared" = some (.ref f_law_shared)
  f_law_fresh : Addr
  d_law_fresh : FuncData
  F_law_fresh : Fun K "_law_fresh" "_law_fresh" sFsh f_law_fresh d_law_fresh
  b_law_fresh : Binds K d_law_fresh ["_law_load", "_law_counts"] []
  g_law_fresh : mg "_law_fresh" = some (.ref f_law_fresh)
  f_law_rules : Addr
  d_law_rules : FuncData
  F_law_rules : Fun K "_law_rules" "_law_rules" sRul f_law_rules d_law_rules
  b_law_rules : Binds K d_law_rules ["_law_load", "_law_size_here", "_law_factor", "_law_more", "_law_small", "_law_divisor", "_law_breadth", "_law_other"] []
  g_law_rules : mg "_law_rules" = some (.ref f_law_rules)
  flaw : Addr
  dlaw : FuncData
  Flaw : Fun K "law" "law" sLaw flaw dlaw
  blaw : Binds K dlaw ["_law_script"] []
  glaw : mg "law" = some (.ref flaw)
  C_DepotError : Addr
  g_DepotError : mg "DepotError" = some (.ref C_DepotError)
  C_BadLoad : Addr
  g_BadLoad : mg "BadLoad" = some (.ref C_BadLoad)
  C_BadNumber : Addr
  g_BadNumber : mg "BadNumber" = some (.ref C_BadNumber)
  xo_BadLoad : PySem.W.excIn K C_BadLoad [.type "ValueError", .type "Exception", .type "BaseException", .type "object"] "ValueError.__new__" = true
  kp_BadLoad : PySem.W.keepIn K (.ref C_BadLoad) = true
  ty_DepotError : PySem.W.typeIn K (.ref C_DepotError) = some (.type "type")
  bs_DepotError : PySem.W.subIn K (.ref C_DepotError) (.type "BaseException") = some true
  hd_DepotError : PySem.W.hasDictIn K C_DepotError = true
  ty_BadLoad : PySem.W.typeIn K (.ref C_BadLoad) = some (.type "type")
  bs_BadLoad : PySem.W.subIn K (.ref C_BadLoad) (.type "BaseException") = some true
  hd_BadLoad : PySem.W.hasDictIn K C_BadLoad = true
  ty_BadNumber : PySem.W.typeIn K (.ref C_BadNumber) = some (.type "type")
  bs_BadNumber : PySem.W.subIn K (.ref C_BadNumber) (.type "BaseException") = some true
  hd_BadNumber : PySem.W.hasDictIn K C_BadNumber = true
  sb_BadLoad_DepotError : PySem.W.subIn K (.ref C_BadLoad) (.ref C_DepotError) = some true
  sb_BadLoad_BadNumber : PySem.W.subIn K (.ref C_BadLoad) (.ref C_BadNumber) = some false
  sb_BadLoad_self : PySem.W.subIn K (.ref C_BadLoad) (.ref C_BadLoad) = some true
  sb_BadLoad_ValueError : PySem.W.subIn K (.ref C_BadLoad) (.type "ValueError") = some true
  ga_BadLoad : PySem.W.findIn K (.ref C_BadLoad) "__getattribute__" = some (some (.builtin "BaseException.__getattribute__"))
  gg_BadLoad : PySem.W.findIn K (.ref C_BadLoad) "__getattr__" = some none
  cl_BadLoad : PySem.W.findIn K (.ref C_BadLoad) "__class__" = some (some (.builtin "object.__class__"))
  sp_class : PySem.W.specialIn K (.builtin "object.__class__") "__get__" = some (some (.builtin "getset_descriptor.__get__"))
  tk_class : PySem.W.takesIn K (.builtin "object.__class__") = some true
  mr_BadLoad : PySem.W.mroIn K C_BadLoad (.type "object") = some true
  sf_Load : PySem.W.selfFirst K C_Load = true
  ic_Load : PySem.W.findIn K (.ref C_Load) "__class__" = some (some (.builtin "object.__class__"))
  mr_Load : PySem.W.mroIn K C_Load (.type "object") = some true
  ti_mul : PySem.W.findIn K (.type "int") "__mul__" = some (some (.builtin "int.__mul__"))
  ti_rmul : PySem.W.findIn K (.type "int") "__rmul__" = some (some (.builtin "int.__rmul__"))
  ti_fdv : PySem.W.findIn K (.type "int") "__floordiv__" = some (some (.builtin "int.__floordiv__"))
  ti_rfdv : PySem.W.findIn K (.type "int") "__rfloordiv__" = some (some (.builtin "int.__rfloordiv__"))
  ti_mod : PySem.W.findIn K (.type "int") "__mod__" = some (some (.builtin "int.__mod__"))
  ti_rmod : PySem.W.findIn K (.type "int") "__rmod__" = some (some (.builtin "int.__rmod__"))
  nr_fdv : PySem.W.findIn K (.ref C_Load) "__rfloordiv__" = some none
  nr_mod : PySem.W.findIn K (.ref C_Load) "__rmod__" = some none
  si_Load : PySem.W.subIn K (.type "int") (.ref C_Load) = some false
  sl_Load : PySem.W.subIn K (.ref C_Load) (.type "int") = some false
  fn_Load_getitem : PySem.W.fnIn K fLoad_getitem = true
end D2

namespace D2
open PySem PySem.Spec PyProof.Rows L2
/-! ### small words -/
theorem iteD {c A B : Prop} [Decidable c] (hc : ¬ c) (h : B) : if decide c = true then A else B := by
  rw [decide_eq_false hc]
  exact iteF h
theorem iteDT {c A B : Prop} [Decidable c] (hc : c) (h : A) : if decide c = true then A else B := by
  rw [decide_eq_true hc]
  exact iteT h
theorem iteND {c A B : Prop} [Decidable c] (hc : c) (h : B) : if (!decide c) = true then A else B := iteNS hc h
theorem iteDs {c A B : Prop} [Decidable c] (h1 : c → A) (h2 : ¬ c → B) : if decide c = true then A else B := by
  by_cases h : c
  · exact iteDT h (h1 h)
  · exact iteD h (h2 h)
/-- a op b op c op d, three comparisons -/
def tChain3 (r r' r'' : R2) (ta tb tc td : TE) : TE := fun σ H Q => ta σ H fun x H1 => tb σ H1 fun y H2 => r x y H2 fun z H3 => ∃ k, z = .bl k ∧
  (if k = true then tc σ H3 fun y' H4 => r' y y' H4 fun z' H5 => ∃ k', z' = .bl k' ∧ (if k' = true then td σ H5 fun y'' H6 => r'' y' y'' H6 Q else Q (.bl false) H5) else Q (.bl false) H3)
theorem pe_chain3 {X : Cx} {a b c d : Expr} {pos : Pos} {ta tb tc td : TE} {op op' op2 : CmpOp} {r r' r'' : R2} (ho : OpR X (compareOp op) r) (ho' : OpR X (compareOp op') r') (ho2 : OpR X (compareOp op2) r'')
    (ha : PE X a ta) (hb : PE X b tb) (hc : PE X c tc) (hd : PE X d td) (hm : lastMarks [op, op', op2] [b, c, d] = false := by with_unfolding_all rfl) : PE X (.Compare a [op, op', op2] [b, c, d] pos) (tChain3 r r' r'' ta tb tc td) := by
  refine ⟨fun pins s σ H Q I h => ?_⟩
  refine Compare_chain (thn (ha.run pins s σ H _ I h) fun v s1 ⟨x, H1, I1, r1, q1⟩ => chain_link (thn (hb.run pins s1 σ H1 _ I1 q1) fun u s2 ⟨y, H2, I2, r2, q2⟩ =>
    thn (ho pins s2 σ H2 x y v u _ I2 r1 r2 q2) fun d s3 ⟨z, H3, I3, r3, k, e, q3⟩ => ?_)) hm
  subst e
  cases r3
  refine wpAny_truthy_bool ?_
  cases k with
  | false => exact ite_ff ⟨.bl false, H3, I3, rfl, q3⟩
  | true =>
    refine ite_tt (chain_link (thn (hc.run pins s3 σ H3 _ I3 q3) fun u' s4 ⟨y', H4, I4, r4, q4⟩ => thn (ho' pins s4 σ H4 y y' u u' _ I4 r2 r4 q4) fun d' s5 ⟨z', H5, I5, r5, k', e', q5⟩ => ?_))
    subst e'
    cases r5
    refine wpAny_truthy_bool ?_
    cases k' with
    | false => exact ite_ff ⟨.bl false, H5, I5, rfl, q5⟩
    | true => exact ite_tt (chain_last (thn (hd.run pins s5 σ H5 _ I5 q5) fun w' s6 ⟨y2, H6, I6, r6, q6⟩ => ho2 pins s6 σ H6 y' y2 u' w' Q I6 r4 r6 q6))
/-- isinstance of a built-in class -/
theorem isi {K : PySem.W.Frag} {H : Hp} {x : V} {a b : String} {r : Bool} {Q : VK} (h : TyX K H x (.type a)) (k : kitB a b = some r) (q : Q (.bl r) H) : rIsi K [x, .ty b] H Q :=
  ⟨x, .ty b, _, _, r, rfl, .ty b, h, kit_ty k, q⟩
/-! ### heaps -/
def But (p : Addr) (H H' : Hp) : Prop := ∀ b o, b ≠ p → H b = some o → H' b = some o
theorem But.refl (p : Addr) (H : Hp) : But p H H := fun _ _ _ h => h
theorem But.trans {p : Addr} {H H1 H2 : Hp} (a : But p H H1) (b : But p H1 H2) : But p H H2 := fun c o n h => b c o n (a c o n h)
theorem But.of {p : Addr} {H H' : Hp} (s : Same H H') : But p H H' := fun b o _ h => s b o h
theorem But.put {p : Addr} {H : Hp} {o : HO} : But p H (upd H p o) := fun b u n h => by
  rw [upd_ne n]
  exact h
theorem same_upd {H : Hp} {p : Addr} {o : HO} (h : H p = none) : Same H (upd H p o) := fun b x e => by
  rw [upd_ne (ne_of_none e h)]
  exact e
/-- a fresh object was changed -/
theorem Same.put {H H' : Hp} {p : Addr} {o : HO} (s : Same H H') (h : H p = none) : Same H (upd H' p o) := fun b x e => by
  rw [upd_ne (ne_of_none e h)]
  exact s b x e
theorem But.put' {q : Addr} {H H' : Hp} {p : Addr} {o : HO} (s : But q H H') (h : H p = none) : But q H (upd H' p o) := fun b x n e => by
  rw [upd_ne (ne_of_none e h)]
  exact s b x n e
/-- what is free behind was free before, but for the pool -/
theorem But.free {p : Addr} {H H' : Hp} (e : But p H H') {l : Addr} (hl : l ≠ p) (h : H' l = none) : H l = none := by
  cases q : H l with
  | none => rfl
  | some o =>
    rw [e l o hl q] at h
    cases h
def Pool (H : Hp) (p : Addr) : Prop := ∃ x f c : Int, H p = some (.lst [.int x, .int f, .int c])
theorem Pool.ne {H : Hp} {p l : Addr} (h : Pool H p) (hl : H l = none) : l ≠ p := fun e => by
  obtain ⟨x, f, c, h⟩ := h
  rw [e, h] at hl
  cases hl
theorem Pool.same {H H' : Hp} {p : Addr} (h : Pool H p) (s : Same H H') : Pool H' p := by
  obtain ⟨x, f, c, h⟩ := h
  exact ⟨x, f, c, s _ _ h⟩
theorem Pool.upd {H : Hp} {p l : Addr} {o : HO} (h : Pool H p) (hl : l ≠ p) : Pool (upd H l o) p := by
  obtain ⟨x, f, c, h⟩ := h
  exact ⟨x, f, c, by rw [upd_ne hl.symm]; exact h⟩
section
variable {P : Program} {w : World} {K : PySem.W.Frag} {mg : Str → Option Value} {base : Heap}
/-! ### cell, pool, take -/
def spCell (K : PySem.W.Frag) : Sp := fun vs H Q _ => ∃ (a : Addr) (ns : List Int) (k : Nat), vs = [.ref a, .int k] ∧ SqL K H a (ns.map V.int) ∧ ∀ i : Int, Q (.int i) H
theorem scCell : FnScope ["_law_script", "_law_k"] ["_law_script", "_law_k"] (defScope sCell) := ⟨rfl, rfl, rfl, by decide +kernel, rfl, by decide +kernel, by decide +kernel⟩
theorem ok_cell (T : Tx K mg) : FnOk P w K mg base CX0 1 T.f_law_cell T.d_law_cell ["_law_script", "_law_k"] (spCell K) := by
  refine T.F_law_cell.ok scCell (fun vs H Q E h => ?_) (fun cdv A outer s H vs Q E hr h => ?_)
  · obtain ⟨a, ns, k, rfl, _⟩ := h
    rfl
  · obtain ⟨a, ns, k, rfl, hS, q⟩ := h
    refine ⟨_, pss_cons (ps_if (pt_cmpR op_lt (pv 1) (pe_callB call_len_seq (by rfl) T.z_len (by decide +kernel) (pa_cons (pv 0) pa_nil)) (nomark _)) (pss_one (ps_ret (pe_callB call_abs (by rfl) T.z_abs (by decide +kernel) (pa_cons (pe_ix ix_list (pv 0) (pv 1) (fun _ _ => rfl)) pa_nil)))) (pss_nil))
      (pss_one (ps_ret pe_int)), ?_⟩
    refine ⟨_, rfl, _, rfl, a, _, rfl, .inl hS, _, _, rfl, rfl, _, rfl, iteDs (fun h => ?_) (fun _ => q _)⟩
    have hk : k < ns.length := by
      rw [List.length_map] at h
      omega
    refine ⟨_, rfl, _, rfl, a, _, _, .int ns[k], rfl, rfl, hS, atI_nat (by rw [List.getElem?_map, List.getElem?_eq_getElem hk]; rfl), _, rfl, q _⟩
def spPool (K : PySem.W.Frag) : Sp := fun vs H Q _ => ∃ (a : Addr) (ns : List Int) (k : Nat), vs = [.ref a, .int k] ∧ SqL K H a (ns.map V.int) ∧ k ≤ 1000 ∧ ∀ H' p, H p = none → Same H H' → Pool H' p → Q (.ref p) H'
theorem scPool : FnScope ["_law_script", "_law_k", "_law_cell_here"] ["_law_script", "_law_k"] (defScope sPool) := ⟨rfl, rfl, rfl, by decide +kernel, rfl, by decide +kernel, by decide +kernel⟩
theorem ok_pool (T : Tx K mg) : FnOk P w K mg base CX0 2 T.f_law_pool T.d_law_pool ["_law_script", "_law_k"] (spPool K) := by
  have G_law_cell := ok_cell (P := P) (w := w) (base := base) T
  refine T.F_law_pool.ok scPool (fun vs H Q E h => ?_) (fun cdv A outer s H vs Q E hr h => ?_)
  · obtain ⟨a, ns, k, rfl, _⟩ := h
    rfl
  · obtain ⟨a, ns, k, rfl, hS, hk, q⟩ := h
    refine ⟨_, pss_cons (ps_set (i := 2) scPool.nd rfl (.inl rfl) (pe_call G_law_cell hr (by rfl) T.g_law_cell T.F_law_cell.kp T.b_law_cell .nil pass0 (pa_cons (pv 0) (pa_cons (pv 1) pa_nil))))
      (pss_one (ps_ret (pe_lst (pa_cons (pv 2) (pa_cons (pe_callTy call_int1 (by rfl) T.z_int (by decide +kernel) (pa_cons (pe_cmpR op_ge (pv 2) (pe_op op_pow pe_int pe_int) (nomark _)) pa_nil)) (pa_cons (pe_op op_mul pe_int (pv 1)) pa_nil)))))), ?_⟩
    refine ⟨_, rfl, _, rfl, a, ns, k, rfl, hS, fun i => ?_⟩
    refine ⟨_, rfl, _, rfl, _, _, rfl, rfl, ⟨by decide, by decide, by decide⟩, _, _, rfl, rfl, .inr ⟨_, rfl, _, rfl, _, _, rfl, rfl, .inl ⟨by decide, by decide⟩, (by show 3 ≤ sizeLine; decide), fun p hp => ?_⟩⟩
    exact q _ p hp (same_upd hp) ⟨_, _, _, upd_same⟩
def spTake : Sp := fun vs H Q _ => ∃ (p : Addr) (m : Int), vs = [.ref p, .int m] ∧ Pool H p ∧ 0 < m ∧ m < 1073741824 ∧ ∀ H' r, 0 ≤ r → r < m → Pool H' p → (∀ b, b ≠ p → H' b = H b) → Q (.int r) H'
theorem scTake : FnScope ["_law_pool_here", "_law_many", "_law_drawn", "_law_mixed"] ["_law_pool_here", "_law_many"] (defScope sTake) := ⟨rfl, rfl, rfl, by decide +kernel, rfl, by decide +kernel, by decide +kernel⟩
theorem mulOk {i j : Int} (h : 0 ≤ j) (h2 : j < 1000000) : CMul i j := .inr ⟨by omega, by omega⟩
/-- a remainder as a letter -/
theorem rmod {i j : Int} {R : Int → Prop} (hj : 0 < j) (q : ∀ r : Int, 0 ≤ r → r < j → R r) : ∃ r : Int, i % j = r ∧ 0 ≤ r ∧ r < j ∧ R r :=
  ⟨i % j, rfl, Int.emod_nonneg _ (by omega), Int.emod_lt_of_pos _ hj, q _ (Int.emod_nonneg _ (by omega)) (Int.emod_lt_of_pos _ hj)⟩
theorem emod_b (i : Int) {j : Int} (hj : 0 < j) : 0 ≤ i % j ∧ i % j < j := ⟨Int.emod_nonneg _ (by omega), Int.emod_lt_of_pos _ hj⟩
theorem ok_take (T : Tx K mg) : FnOk P w K mg base CX0 1 T.f_law_take T.d_law_take ["_law_pool_here", "_law_many"] spTake := by
  refine T.F_law_take.ok scTake (fun vs H Q E h => ?_) (fun cdv A outer s H vs Q E hr h => ?_)
  · obtain ⟨p, m, rfl, _⟩ := h
    rfl
  · obtain ⟨p, m, rfl, ⟨x, f, c, hp⟩, hm, hm2, q⟩ := h
    refine ⟨_, pss_cons (ps_if (PW.pt (pw_and (pt_cmpR op_eq (pe_ix ix_list (pv 0) pe_int (fun _ _ => rfl)) pe_int (nomark _)) (pw_and1 (pt_cmpR op_gt (pe_ix ix_list (pv 0) pe_int (fun _ _ => rfl)) pe_int (nomark _))))) (pss_cons (ps_set (i := 2) scTake.nd rfl (.inl rfl) (pe_op op_mod (pe_callTy call_int1 (by rfl) T.z_int (by decide +kernel) (pa_cons (pe_ix ix_list (pv 0) pe_int (fun _ _ => rfl)) pa_nil)) (pv 1)))
      (pss_cons (ps_asg (pe_op op_fdiv (pe_ix ix_list (pv 0) pe_int (fun _ _ => rfl)) (pv 1)) (pg_sub (pv 0) pe_int set_list))
      (pss_one (ps_ret (pv 2))))) (pss_nil))
      (pss_cons (ps_asg (pe_op op_add (pe_ix ix_list (pv 0) pe_int (fun _ _ => rfl)) pe_int) (pg_sub (pv 0) pe_int set_list))
      (pss_cons (ps_set (i := 3) scTake.nd rfl (.inl rfl) (pe_op op_mod (pe_callTy call_int1 (by rfl) T.z_int (by decide +kernel) (pa_cons (pe_op op_add (pe_op op_mul (pe_op op_add (pe_ix ix_list (pv 0) pe_int (fun _ _ => rfl)) pe_int) pe_int) (pe_op op_mul (pe_ix ix_list (pv 0) pe_int (fun _ _ => rfl)) pe_int)) pa_nil)) pe_int))
      (pss_cons (ps_set (i := 3) scTake.nd rfl (.inl rfl) (pe_op op_mod (pe_callTy call_int1 (by rfl) T.z_int (by decide +kernel) (pa_cons (pe_op op_add (pe_op op_mul (pv 3) pe_int) (pe_op op_mul (pe_ix ix_list (pv 0) pe_int (fun _ _ => rfl)) pe_int)) pa_nil)) pe_int))
      (pss_cons (ps_if (pt_cmpR op_gt (pe_ix ix_list (pv 0) pe_int (fun _ _ => rfl)) pe_int (nomark _)) (pss_one (ps_set (i := 3) scTake.nd rfl (.inl rfl) (pe_op op_mod (pe_callTy call_int1 (by rfl) T.z_int (by decide +kernel) (pa_cons (pe_op op_mul (pe_op op_fdiv (pv 3) pe_int) (pe_op op_add (pe_op op_add (pe_op op_fdiv (pv 3) pe_int) (pe_ix ix_list (pv 0) pe_int (fun _ _ => rfl))) pe_int)) pa_nil)) pe_int))) (pss_nil))
      (pss_one (ps_ret (pe_op op_mod (pe_callTy call_int1 (by rfl) T.z_int (by decide +kernel) (pa_cons (pe_op op_fdiv (pv 3) pe_int) pa_nil)) (pv 1)))))))), ?_⟩
    have hL := SqL.of (K := K) hp
    -- pool[1] == 1 and pool[0] > 1
    refine ⟨_, rfl, p, _, _, _, rfl, rfl, hL, rfl, rfl, _, rfl, ?_⟩
    refine iteDs (fun h1 => ⟨_, rfl, p, _, _, _, rfl, rfl, hL, rfl, _, _, rfl, rfl, _, rfl, iteDs (fun h2 => ?c) (fun _ => ?t1)⟩) (fun _ => ?t2)
    case c =>
      refine ⟨_, rfl, p, _, _, _, rfl, rfl, hL, rfl, .inl ⟨_, rfl, _, rfl, _, _, rfl, rfl, hm, ?_⟩⟩
      have hb := emod_b x hm
      refine ⟨_, rfl, p, _, _, _, rfl, rfl, hL, rfl, _, rfl, _, _, rfl, rfl, ⟨hm, hm2⟩, _, rfl, p, _, _, _, rfl, rfl, hp, rfl, ?_⟩
      exact ⟨_, rfl, q _ _ hb.1 hb.2 ⟨_, _, _, upd_same⟩ fun b hb => upd_ne hb⟩
    all_goals
      refine ⟨_, rfl, p, _, _, _, rfl, rfl, hL, rfl, _, _, rfl, rfl, _, rfl, p, _, _, _, rfl, rfl, hp, rfl, ?_⟩
      have hp1 : (upd H p (.lst (([.int x, .int f, .int c] : List V).set 2 (.int (c + 1))))) p = some (.lst [.int x, .int f, .int (c + 1)]) := upd_same
      have hL1 := SqL.of (K := K) hp1
      refine ⟨_, rfl, p, _, _, _, rfl, rfl, hL1, rfl, _, _, rfl, rfl, _, _, rfl, rfl, mulOk (by decide) (by decide), _, rfl, p, _, _, _, rfl, rfl, hL1, rfl, _, _, rfl, rfl, mulOk (by decide) (by decide), _, _, rfl, rfl, .inl ⟨_, rfl, _, _, rfl, rfl, (show (0 : Int) < 2147483629 by decide), ?_⟩⟩
      refine ⟨_, rfl, _, _, rfl, rfl, mulOk (by decide) (by decide), _, rfl, p, _, _, _, rfl, rfl, hL1, rfl, _, _, rfl, rfl, mulOk (by decide) (by decide), _, _, rfl, rfl, .inl ⟨_, rfl, _, _, rfl, rfl, (show (0 : Int) < 2147483587 by decide), ?_⟩⟩
      refine ⟨_, rfl, p, _, _, _, rfl, rfl, hL1, rfl, _, _, rfl, rfl, _, rfl, iteDs (fun _ => ?_) (fun _ => ?_)⟩
      · refine ⟨_, rfl, _, _, rfl, rfl, ⟨by decide, by decide⟩, _, rfl, _, _, rfl, rfl, ⟨by decide, by decide⟩, _, rfl, p, _, _, _, rfl, rfl, hL1, rfl, _, _, rfl, rfl, _, _, rfl, rfl, _, _, rfl, rfl, .inl ⟨by omega, by omega⟩, .inl ⟨_, rfl, _, _, rfl, rfl, (show (0 : Int) < 2147483563 by decide), ?_⟩⟩
        refine ⟨_, rfl, _, _, rfl, rfl, ⟨by decide, by decide⟩, .inl ⟨_, rfl, _, rfl, _, _, rfl, rfl, hm, ?_⟩⟩
        exact q _ _ (emod_b _ hm).1 (emod_b _ hm).2 ⟨_, _, _, hp1⟩ fun b hb => upd_ne hb
      · refine ⟨_, rfl, _, _, rfl, rfl, ⟨by decide, by decide⟩, .inl ⟨_, rfl, _, rfl, _, _, rfl, rfl, hm, ?_⟩⟩
        exact q _ _ (emod_b _ hm).1 (emod_b _ hm).2 ⟨_, _, _, hp1⟩ fun b hb => upd_ne hb
end
end D2

namespace D2
open PySem PySem.Spec PyProof.Rows L2
section
variable {P : Program} {w : World} {K : PySem.W.Frag} {mg : Str → Option Value} {base : Heap}
/-! ### the same datum twice -/
/-- both show one datum of depth below n; scalars are ints -/
def Rp : Nat → Hp → V → V → Prop
  | 0, _, _, _ => False
  | n + 1, H, u, v => (∃ i : Int, u = .int i ∧ v = .int i) ∨ ∃ (a b : Addr) (xs ys : List V), u = .ref a ∧ v = .ref b ∧ ((H a = some (.lst xs) ∧ H b = some (.lst ys)) ∨ (H a = some (.tup xs) ∧ H b = some (.tup ys))) ∧
      xs.length = ys.length ∧ xs.length ≤ 1000 ∧ ∀ (i : Nat) (x y : V), xs[i]? = some x → ys[i]? = some y → Rp n H x y
theorem Rp.same {H H' : Hp} (s : Same H H') : ∀ {n : Nat} {u v : V}, Rp n H u v → Rp n H' u v
  | 0, _, _, h => h.elim
  | n + 1, _, _, .inl h => .inl h
  | n + 1, _, _, .inr ⟨a, b, xs, ys, e1, e2, h, hl, hz, hr⟩ => .inr ⟨a, b, xs, ys, e1, e2, h.elim (fun q => .inl ⟨s _ _ q.1, s _ _ q.2⟩) (fun q => .inr ⟨s _ _ q.1, s _ _ q.2⟩), hl, hz, fun i x y hx hy => Rp.same s (hr i x y hx hy)⟩
def spSame (n : Nat) : Sp := fun vs H Q _ => ∃ u v : V, vs = [u, v] ∧ Rp n H u v ∧ Q (.bl true) H
theorem scSame : FnScope ["_law_got", "_law_due", "_law_k"] ["_law_got", "_law_due"] (defScope sSame) := ⟨rfl, rfl, rfl, by decide +kernel, rfl, by decide +kernel, by decide +kernel⟩
theorem ok_same (T : Tx K mg) : ∀ n : Nat, FnOk P w K mg base CX0 n T.f_law_same T.d_law_same ["_law_got", "_law_due"] (spSame n)
  | 0 => ⟨fun vs H Q E ⟨u, v, _, h, _⟩ => h.elim, fun A outer s H args us vs Q E _ _ _ _ ⟨u, v, _, h, _⟩ => h.elim⟩
  | n + 1 => by
    have G_law_same := ok_same T n
    refine T.F_law_same.ok scSame (fun vs H Q E h => ?_) (fun cdv A outer s H vs Q E hr h => ?_)
    · obtain ⟨u, v, rfl, _⟩ := h
      rfl
    · obtain ⟨u, v, rfl, hR, q⟩ := h
      rcases hR with ⟨i, rfl, rfl⟩ | ⟨a, b, xs, ys, rfl, rfl, hab, hl, hz, hr2⟩
      · refine ⟨_, pss_cons (ps_if (PW.pt (pw_or (pt_val (pe_callB call_isi (by rfl) T.z_isinstance (by decide +kernel) (pa_cons (pv 0) (pa_cons (pe_bltn (v := .ty "bool") (by rfl) T.z_bool (by decide +kernel) rfl) pa_nil)))) (pw_or1 (pt_val (pe_callB call_isi (by rfl) T.z_isinstance (by decide +kernel) (pa_cons (pv 1) (pa_cons (pe_bltn (v := .ty "bool") (by rfl) T.z_bool (by decide +kernel) rfl) pa_nil))))))) (pss_one ps_never) (pss_nil))
          (pss_cons (ps_if (PW.pt (pw_or (pt_cmpR op_isN (pv 0) pe_non (nomark _)) (pw_or1 (pt_cmpR op_isN (pv 1) pe_non (nomark _))))) (pss_one ps_never) (pss_nil))
          (pss_cons (ps_if (pt_val (pe_callB call_isi (by rfl) T.z_isinstance (by decide +kernel) (pa_cons (pv 1) (pa_cons (pe_bltn (v := .ty "int") (by rfl) T.z_int (by decide +kernel) rfl) pa_nil)))) (pss_one (ps_ret (pe_and (pe_callB call_isi (by rfl) T.z_isinstance (by decide +kernel) (pa_cons (pv 0) (pa_cons (pe_bltn (v := .ty "int") (by rfl) T.z_int (by decide +kernel) rfl) pa_nil))) (pe_one (pe_cmpR op_eq (pv 0) (pv 1) (nomark _)))))) (pss_nil))
          (pss_cons ps_never (pss_cons ps_never (pss_cons ps_never (pss_cons ps_never (pss_cons ps_never (pss_one ps_never)))))))), ?_⟩
        refine ⟨_, rfl, _, _, _, _, _, rfl, .ty _, (.base (.int i)), kit_ty (by decide +kernel), ⟨_, rfl, iteF ⟨_, rfl, _, _, _, _, _, rfl, .ty _, (.base (.int i)), kit_ty (by decide +kernel), ⟨_, rfl, iteF ?_⟩⟩⟩⟩
        refine ⟨_, rfl, rfl, _, rfl, iteD (by intro z; cases z) ⟨_, rfl, rfl, _, rfl, iteD (by intro z; cases z) ?_⟩⟩
        refine ⟨_, rfl, _, _, _, _, _, rfl, .ty _, (.base (.int i)), kit_ty (by decide +kernel), ⟨_, rfl, iteT ⟨_, rfl, _, _, _, _, _, rfl, .ty _, (.base (.int i)), kit_ty (by decide +kernel), ⟨_, rfl, iteT ⟨_, rfl, _, rfl, rfl, ?_⟩⟩⟩⟩⟩
        rw [decide_eq_true rfl]
        exact q
      · refine ⟨_, pss_cons (ps_if (PW.pt (pw_or (pt_val (pe_callB call_isi (by rfl) T.z_isinstance (by decide +kernel) (pa_cons (pv 0) (pa_cons (pe_bltn (v := .ty "bool") (by rfl) T.z_bool (by decide +kernel) rfl) pa_nil)))) (pw_or1 (pt_val (pe_callB call_isi (by rfl) T.z_isinstance (by decide +kernel) (pa_cons (pv 1) (pa_cons (pe_bltn (v := .ty "bool") (by rfl) T.z_bool (by decide +kernel) rfl) pa_nil))))))) (pss_one ps_never) (pss_nil))
          (pss_cons (ps_if (PW.pt (pw_or (pt_cmpR op_isN (pv 0) pe_non (nomark _)) (pw_or1 (pt_cmpR op_isN (pv 1) pe_non (nomark _))))) (pss_one ps_never) (pss_nil))
          (pss_cons (ps_if (pt_val (pe_callB call_isi (by rfl) T.z_isinstance (by decide +kernel) (pa_cons (pv 1) (pa_cons (pe_bltn (v := .ty "int") (by rfl) T.z_int (by decide +kernel) rfl) pa_nil)))) (pss_one ps_never) (pss_nil))
          (pss_cons (ps_if (pt_val (pe_callB call_isi (by rfl) T.z_isinstance (by decide +kernel) (pa_cons (pv 1) (pa_cons (pe_bltn (v := .ty "str") (by rfl) T.z_str (by decide +kernel) rfl) pa_nil)))) (pss_one ps_never) (pss_nil))
          (pss_cons (ps_if (PW.pt (pw_and (pt_val (pe_callB call_isi (by rfl) T.z_isinstance (by decide +kernel) (pa_cons (pv 1) (pa_cons (pe_bltn (v := .ty "list") (by rfl) T.z_list (by decide +kernel) rfl) pa_nil)))) (pw_and1 (pt_not (pt_val (pe_callB call_isi (by rfl) T.z_isinstance (by decide +kernel) (pa_cons (pv 0) (pa_cons (pe_bltn (v := .ty "list") (by rfl) T.z_list (by decide +kernel) rfl) pa_nil)))))))) (pss_one ps_never) (pss_nil))
          (pss_cons (ps_if (PW.pt (pw_and (pt_val (pe_callB call_isi (by rfl) T.z_isinstance (by decide +kernel) (pa_cons (pv 1) (pa_cons (pe_bltn (v := .ty "tuple") (by rfl) T.z_tuple (by decide +kernel) rfl) pa_nil)))) (pw_and1 (pt_not (pt_val (pe_callB call_isi (by rfl) T.z_isinstance (by decide +kernel) (pa_cons (pv 0) (pa_cons (pe_bltn (v := .ty "tuple") (by rfl) T.z_tuple (by decide +kernel) rfl) pa_nil)))))))) (pss_one ps_never) (pss_nil))
          (pss_cons (ps_if (pt_cmpR op_ne (pe_callB call_len_seq (by rfl) T.z_len (by decide +kernel) (pa_cons (pv 0) pa_nil)) (pe_callB call_len_seq (by rfl) T.z_len (by decide +kernel) (pa_cons (pv 1) pa_nil)) (nomark _)) (pss_one ps_never) (pss_nil))
          (pss_cons (ps_for PassesOwn.never rfl (pi_range1 (by rfl) T.z_range (pa_cons (pe_callB call_len_seq (by rfl) T.z_len (by decide +kernel) (pa_cons (pv 1) pa_nil)) pa_nil)) (pg_name (i := 2) scSame.nd rfl (.inl rfl))
            (pss_one (ps_if (pt_not (pt_val (pe_call G_law_same hr (by rfl) T.g_law_same T.F_law_same.kp T.b_law_same .nil pass0 (pa_cons (pe_ix ix_seq (pv 0) (pv 2) (fun _ _ => rfl)) (pa_cons (pe_ix ix_seq (pv 1) (pv 2) (fun _ _ => rfl)) pa_nil))))) (pss_one ps_never) (pss_nil))))
          (pss_one (ps_ret pe_bl))))))))), ?_⟩
        obtain ⟨t, ta, tb, kb, ks⟩ : ∃ t : String, TyX K H (.ref a) (.type t) ∧ TyX K H (.ref b) (.type t) ∧ (kitB t "bool" = some false ∧ kitB t "int" = some false ∧ kitB t "str" = some false) ∧ ((kitB t "list" = some true ∧ kitB t "tuple" = some false) ∨ (kitB t "list" = some false ∧ kitB t "tuple" = some true)) := by
          rcases hab with ⟨h1, h2⟩ | ⟨h1, h2⟩
          · exact ⟨"list", .base (.lst h1), .base (.lst h2), ⟨by decide +kernel, by decide +kernel, by decide +kernel⟩, .inl ⟨by decide +kernel, by decide +kernel⟩⟩
          · exact ⟨"tuple", .base (.tup h1), .base (.tup h2), ⟨by decide +kernel, by decide +kernel, by decide +kernel⟩, .inr ⟨by decide +kernel, by decide +kernel⟩⟩
        have sa : SqL K H a xs ∨ SqT K H a xs := hab.elim (fun q => .inl (SqL.of q.1)) (fun q => .inr (SqT.of q.1))
        have sb : SqL K H b ys ∨ SqT K H b ys := hab.elim (fun q => .inl (SqL.of q.2)) (fun q => .inr (SqT.of q.2))
        refine ⟨_, rfl, _, _, _, _, _, rfl, .ty _, ta, kit_ty kb.1, ⟨_, rfl, iteF ⟨_, rfl, _, _, _, _, _, rfl, .ty _, tb, kit_ty kb.1, ⟨_, rfl, iteF ?_⟩⟩⟩⟩
        refine ⟨_, rfl, rfl, _, rfl, iteD (by intro z; cases z) ⟨_, rfl, rfl, _, rfl, iteD (by intro z; cases z) ?_⟩⟩
        refine ⟨_, rfl, _, _, _, _, _, rfl, .ty _, tb, kit_ty kb.2.1, ⟨_, rfl, iteF ⟨_, rfl, _, _, _, _, _, rfl, .ty _, tb, kit_ty kb.2.2, ⟨_, rfl, iteF ?_⟩⟩⟩⟩
        have fin : ∀ {i : Nat} {z : Int} {x y : V}, z = (i : Int) → xs[i]? = some x → ys[i]? = some y → rIx K (.ref a) (.int z) H (fun x' H' => x' = x ∧ H' = H) ∧ rIx K (.ref b) (.int z) H (fun x' H' => x' = y ∧ H' = H) := fun {i z x y} ez hx hy => by
          rcases hab with ⟨h1, h2⟩ | ⟨h1, h2⟩
          · exact ⟨.inl ⟨a, xs, _, x, rfl, rfl, SqL.of h1, at_of ez hx, rfl, rfl⟩, .inl ⟨b, ys, _, y, rfl, rfl, SqL.of h2, at_of ez hy, rfl, rfl⟩⟩
          · exact ⟨.inr (.inl ⟨a, xs, _, x, rfl, rfl, SqT.of h1, at_of ez hx, rfl, rfl⟩), .inr (.inl ⟨b, ys, _, y, rfl, rfl, SqT.of h2, at_of ez hy, rfl, rfl⟩)⟩
        have im : ∀ {x : V} {y : V} {z : V} {Q' : VK}, Q' z H → rIx K x y H (fun x' H' => x' = z ∧ H' = H) → rIx K x y H Q' := fun {x y z Q'} k h => by
          rcases h with ⟨p, zs, i, v, e1, e2, e3, e4, rfl, _⟩ | ⟨p, zs, i, v, e1, e2, e3, e4, rfl, _⟩ | ⟨s, i, c, e1, e2, e3, e4, e5, _⟩
          · exact .inl ⟨p, zs, i, v, e1, e2, e3, e4, k⟩
          · exact .inr (.inl ⟨p, zs, i, v, e1, e2, e3, e4, k⟩)
          · exact .inr (.inr ⟨s, i, c, e1, e2, e3, e4, by rw [e5]; exact k⟩)
        rcases ks with ⟨k1, k2⟩ | ⟨k1, k2⟩
        · refine ⟨_, rfl, _, _, _, _, _, rfl, .ty _, tb, kit_ty k1, _, rfl, iteT ⟨_, rfl, _, _, _, _, _, rfl, .ty _, ta, kit_ty k1, _, rfl, iteF ?_⟩⟩
          refine ⟨_, rfl, _, _, _, _, _, rfl, .ty _, tb, kit_ty k2, _, rfl, iteF (iteF ?_)⟩
          refine ⟨_, rfl, a, _, rfl, sa, _, rfl, b, _, rfl, sb, rfl, _, rfl, iteND (by rw [hl]) ?_⟩
          refine ⟨_, rfl, b, _, rfl, sb, _, rfl, by omega, by omega, for_range (lo := 0) (n := ys.length) (fun _ σ H' => (∃ v, σ = [some (.ref a), some (.ref b), v]) ∧ H' = H) ⟨⟨none, rfl⟩, rfl⟩ ?_ ?_⟩
          · rintro i σ H' hi ⟨⟨v, rfl⟩, rfl⟩
            have hx := List.getElem?_eq_getElem (l := xs) (i := i) (by omega)
            have hy := List.getElem?_eq_getElem (l := ys) (i := i) (by omega)
            have e0 : (0 : Int) + (i : Int) = (i : Int) := by omega
            refine ⟨_, rfl, _, rfl, im ?_ (fin e0 hx hy).1⟩
            refine ⟨_, rfl, _, rfl, im ?_ (fin e0 hx hy).2⟩
            exact ⟨_, _, rfl, hr2 i _ _ hx hy, _, rfl, iteF ⟨⟨_, rfl⟩, rfl⟩⟩
          · rintro σ H' ⟨⟨v, rfl⟩, rfl⟩
            exact q
        · refine ⟨_, rfl, _, _, _, _, _, rfl, .ty _, tb, kit_ty k1, _, rfl, iteF (iteF ?_)⟩
          refine ⟨_, rfl, _, _, _, _, _, rfl, .ty _, tb, kit_ty k2, _, rfl, iteT ⟨_, rfl, _, _, _, _, _, rfl, .ty _, ta, kit_ty k2, _, rfl, iteF ?_⟩⟩
          refine ⟨_, rfl, a, _, rfl, sa, _, rfl, b, _, rfl, sb, rfl, _, rfl, iteND (by rw [hl]) ?_⟩
          refine ⟨_, rfl, b, _, rfl, sb, _, rfl, by omega, by omega, for_range (lo := 0) (n := ys.length) (fun _ σ H' => (∃ v, σ = [some (.ref a), some (.ref b), v]) ∧ H' = H) ⟨⟨none, rfl⟩, rfl⟩ ?_ ?_⟩
          · rintro i σ H' hi ⟨⟨v, rfl⟩, rfl⟩
            have hx := List.getElem?_eq_getElem (l := xs) (i := i) (by omega)
            have hy := List.getElem?_eq_getElem (l := ys) (i := i) (by omega)
            have e0 : (0 : Int) + (i : Int) = (i : Int) := by omega
            refine ⟨_, rfl, _, rfl, im ?_ (fin e0 hx hy).1⟩
            refine ⟨_, rfl, _, rfl, im ?_ (fin e0 hx hy).2⟩
            exact ⟨_, _, rfl, hr2 i _ _ hx hy, _, rfl, iteF ⟨⟨_, rfl⟩, rfl⟩⟩
          · rintro σ H' ⟨⟨v, rfl⟩, rfl⟩
            exact q
end
end D2

namespace D2
open PySem PySem.Spec PyProof.Rows L2 KO
theorem iteNDT {c A B : Prop} [Decidable c] (hc : ¬ c) (h : A) : if (!decide c) = true then A else B := by
  rw [decide_eq_false hc]
  exact iteT h
theorem iteNDs {c A B : Prop} [Decidable c] (h1 : ¬ c → A) (h2 : c → B) : if (!decide c) = true then A else B := by
  by_cases h : c
  · exact iteND h (h2 h)
  · exact iteNDT h (h1 h)
theorem pss_never {X : Cx} {l : List Stmt} : PSs X l (fun _ _ _ => False) := ⟨fun _ _ _ _ _ _ h => h.elim⟩
/-! ### lists of ints as data -/
theorem dp_ints {K : PySem.W.Frag} {H : Hp} : ∀ ns : List Int, DpAll K H (ns.map V.int) (ns.map PyData.int)
  | [] => .nil
  | n :: ns => .cons (.int n) (dp_ints ns)
theorem dp_list {K : PySem.W.Frag} {H : Hp} {a : Addr} {ns : List Int} (h : SqL K H a (ns.map V.int)) : Dp K H (.ref a) (.list (ns.map PyData.int)) := .lst h (dp_ints ns)
theorem can_ints : ∀ ns : List Int, PyData.canLayAll0 (ns.map PyData.int) = true
  | [] => by simp [PyData.canLayAll0]
  | n :: ns => by simp [PyData.canLayAll0, PyData.canLay0, can_ints ns]
theorem dep_ints : ∀ ns : List Int, PyData.depthAll (ns.map PyData.int) = 0
  | [] => by simp [PyData.depthAll]
  | n :: ns => by simp [PyData.depthAll, PyData.depth, dep_ints ns]
theorem sh_ints (ns : List Int) : SeqAt.shaped (.list (ns.map PyData.int)) = true := by
  unfold SeqAt.shaped
  simp [PyData.canLay0, PyData.depth, can_ints, dep_ints]
theorem eqv_all : ∀ ns ms : List Int, PyData.eqvAll (ns.map PyData.int) (ms.map PyData.int) = decide (ns = ms)
  | [], [] => by simp [PyData.eqvAll]
  | [], m :: ms => by simp [PyData.eqvAll]
  | n :: ns, [] => by simp [PyData.eqvAll]
  | n :: ns, m :: ms => by
    show (PyData.eqv (.int n) (.int m) && PyData.eqvAll (ns.map PyData.int) (ms.map PyData.int)) = _
    rw [eqv_all ns ms]
    show (n == m && decide (ns = ms)) = _
    by_cases h : n = m
    · subst h
      simp
    · simp [h]
theorem eqv_ints (ns ms : List Int) : PyData.eqv (.list (ns.map PyData.int)) (.list (ms.map PyData.int)) = decide (ns = ms) := by
  show PyData.eqvAll _ _ = _
  exact eqv_all ns ms
theorem rq_ints {K : PySem.W.Frag} {H : Hp} {a b : Addr} {ns ms : List Int} {Q : VK} (ha : SqL K H a (ns.map V.int)) (hb : SqL K H b (ms.map V.int)) (q : Q (.bl (decide (ns = ms))) H) : rEqD K (.ref a) (.ref b) H Q := by
  refine ⟨_, _, dp_list ha, dp_list hb, sh_ints _, sh_ints _, ?_⟩
  rw [eqv_ints]
  exact q
/-! ### a load as it stands -/
section
variable {P : Program} {w : World} {K : PySem.W.Frag} {mg : Str → Option Value} {base : Heap}
/-- at a an instance of C that shows ns; the list is at l -/
def Ld (C : Addr) (H : Hp) (a l : Addr) (ns : List Int) : Prop := ∃ dx, H a = some (.ins C dx [("_counts", .ref l)]) ∧ H l = some (.lst (ns.map V.int))
theorem Ld.same {C : Addr} {H H' : Hp} {a l : Addr} {ns : List Int} (h : Ld C H a l ns) (s : Same H H') : Ld C H' a l ns := let ⟨dx, h1, h2⟩ := h; ⟨dx, s _ _ h1, s _ _ h2⟩
theorem look_c {l : Addr} : List.lookup ("_counts" : Str) [(("_counts" : Str), V.ref l)] = some (V.ref l) := by simp [List.lookup]
/-! ### the checks -/
def spClen (C : Addr) : Sp := fun vs H Q E => ∃ n : Int, vs = [.int n] ∧ (1 ≤ n ∧ n ≤ 60 → Q .non H) ∧ (¬ (1 ≤ n ∧ n ≤ 60) → E (.ref C) none H)
theorem scClen : FnScope ["length"] ["length"] (defScope sClen) := ⟨rfl, rfl, rfl, by decide +kernel, rfl, by decide +kernel, by decide +kernel⟩
theorem ok_clen (T : Tx K mg) : FnOk P w K mg base (L2.CX P w) 1 T.fcheck_length T.dcheck_length ["length"] (spClen T.C_BadLoad) := by
  refine T.Fcheck_length.okX scClen (fun vs H Q E h => ?_) (fun cdv A outer s H vs Q E hr h => ?_)
  · obtain ⟨n, rfl, _⟩ := h
    rfl
  · obtain ⟨n, rfl, q1, q2⟩ := h
    refine ⟨_, pss_one (ps_if (pt_not (pt_chain op_le op_le pe_int (pv 0) (pe_glob (v := .int 60) rfl T.c_MOST_LENGTH ⟨_, rfl⟩))) (pss_one (ps_raise rfl (takes_of rfl rfl rfl rfl) (pmk_own0 PySem.F.excBase_ValueError T.xo_BadLoad T.g_BadLoad T.kp_BadLoad (raises_own T.bs_BadLoad T.ty_BadLoad) (by rfl)))) (pss_nil)), ?_⟩
    refine ⟨_, rfl, _, _, rfl, rfl, _, rfl, ?_⟩
    refine iteDs (fun h1 => ⟨_, _, rfl, rfl, _, rfl, ?_⟩) (fun h1 => ⟨_, rfl, ?_⟩)
    · by_cases h2 : n ≤ 60
      · exact iteND h2 (q1 ⟨h1, h2⟩)
      · refine iteNDT h2 (q2 fun h => h2 h.2)
    · exact q2 fun h => h1 h.1
def spClst (C : Addr) : Sp := fun vs H Q E => ∃ n m : Int, vs = [.int n, .int m] ∧ (m ≤ n → Q .non H) ∧ (n < m → E (.ref C) none H)
theorem scClst : FnScope ["number", "least"] ["number", "least"] (defScope sClst) := ⟨rfl, rfl, rfl, by decide +kernel, rfl, by decide +kernel, by decide +kernel⟩
theorem ok_clst (T : Tx K mg) : FnOk P w K mg base (L2.CX P w) 1 T.fcheck_least T.dcheck_least ["number", "least"] (spClst T.C_BadLoad) := by
  refine T.Fcheck_least.okX scClst (fun vs H Q E h => ?_) (fun cdv A outer s H vs Q E hr h => ?_)
  · obtain ⟨n, m, rfl, _⟩ := h
    rfl
  · obtain ⟨n, m, rfl, q1, q2⟩ := h
    refine ⟨_, pss_one (ps_if (pt_cmpR op_lt (pv 0) (pv 1) (nomark _)) (pss_one (ps_raise rfl (takes_of rfl rfl rfl rfl) (pmk_own0 PySem.F.excBase_ValueError T.xo_BadLoad T.g_BadLoad T.kp_BadLoad (raises_own T.bs_BadLoad T.ty_BadLoad) (by rfl)))) (pss_nil)), ?_⟩
    refine ⟨_, rfl, _, rfl, _, _, rfl, rfl, _, rfl, ?_⟩
    exact iteDs (fun h1 => q2 h1) (fun h1 => q1 (by omega))
/-! ### the methods that only look -/
def spLen (C : Addr) : Sp := fun vs H Q _ => ∃ a l ns, vs = [.ref a] ∧ Ld C H a l ns ∧ Q (.int ns.length) H
theorem scLen : FnScope ["self"] ["self"] (defScope sLen) := ⟨rfl, rfl, rfl, by decide +kernel, rfl, by decide +kernel, by decide +kernel⟩
theorem ok_len (T : Tx K mg) : FnOk P w K mg base CX0 1 T.fLoad_len T.dLoad_len ["self"] (spLen T.C_Load) := by
  refine T.FLoad_len.ok scLen (fun vs H Q E h => ?_) (fun cdv A outer s H vs Q E hr h => ?_)
  · obtain ⟨a, l, ns, rfl, _⟩ := h
    rfl
  · obtain ⟨a, l, ns, rfl, ⟨dx, ha, hl⟩, q⟩ := h
    refine ⟨_, pss_one (ps_ret (pe_callB call_len_seq (by rfl) T.z_len (by decide +kernel) (pa_cons (pe_fld (pv 0) rfl) pa_nil))), ?_⟩
    refine ⟨_, rfl, a, T.C_Load, dx, _, _, rfl, ha, T.cl_Load, T.na_Load__counts, look_c, l, _, rfl, .inl (SqL.of hl), ?_⟩
    rw [List.length_map]
    exact q
/-- the count at a minute -/
def inL (ns : List Int) (i : Int) : Prop := 0 ≤ i ∧ i < ns.length
theorem at_of {ns : List Int} {i c : Int} (h : inL ns i) (hc : ns[i.toNat]? = some c) : atI (ns.map V.int) i = some (.int c) := by
  obtain ⟨n, rfl⟩ := Int.eq_ofNat_of_zero_le h.1
  exact atI_nat (by rw [List.getElem?_map]; rw [show ((n : Int).toNat) = n from rfl] at hc; rw [hc]; rfl)
theorem in_get {ns : List Int} {i : Int} (h : inL ns i) : ∃ c, ns[i.toNat]? = some c := by
  obtain ⟨h1, h2⟩ := h
  exact ⟨_, List.getElem?_eq_getElem (by omega)⟩
def spBoo (C : Addr) : Sp := fun vs H Q _ => ∃ a l ns, vs = [.ref a] ∧ Ld C H a l ns ∧ Q (.bl (ns.any fun n => n != 0)) H
theorem scBoo : FnScope ["self"] ["self"] (defScope sBoo) := ⟨rfl, rfl, rfl, by decide +kernel, rfl, by decide +kernel, by decide +kernel⟩
theorem ok_boo (T : Tx K mg) : FnOk P w K mg base CX0 1 T.fLoad_bool T.dLoad_bool ["self"] (spBoo T.C_Load) := by
  refine T.FLoad_bool.ok scBoo (fun vs H Q E h => ?_) (fun cdv A outer s H vs Q E hr h => ?_)
  · obtain ⟨a, l, ns, rfl, _⟩ := h
    rfl
  · obtain ⟨a, l, ns, rfl, ⟨dx, ha, hl⟩, q⟩ := h
    refine ⟨_, pss_one (ps_ret (pe_callB (cr_anyI rfl) (by rfl) T.z_any (by decide +kernel) (pa_cons (pe_fld (pv 0) rfl) pa_nil))), ?_⟩
    exact ⟨_, rfl, a, T.C_Load, dx, _, _, rfl, ha, T.cl_Load, T.na_Load__counts, look_c, l, _, rfl, SqL.of hl, q⟩
def spEq (C : Addr) : Sp := fun vs H Q _ => ∃ a l ns b m ms, vs = [.ref a, .ref b] ∧ Ld C H a l ns ∧ Ld C H b m ms ∧ Q (.bl (decide (ns = ms))) H
theorem scEq : FnScope ["self", "other"] ["self", "other"] (defScope sEq) := ⟨rfl, rfl, rfl, by decide +kernel, rfl, by decide +kernel, by decide +kernel⟩
theorem ok_eq (T : Tx K mg) : FnOk P w K mg base CX0 1 T.fLoad_eq T.dLoad_eq ["self", "other"] (spEq T.C_Load) := by
  refine T.FLoad_eq.ok scEq (fun vs H Q E h => ?_) (fun cdv A outer s H vs Q E hr h => ?_)
  · obtain ⟨a, l, ns, b, m, ms, rfl, _⟩ := h
    rfl
  · obtain ⟨a, l, ns, b, m, ms, rfl, ⟨dx, ha, hl⟩, ⟨dy, hb, hm⟩, q⟩ := h
    refine ⟨_, pss_one (ps_ret (pe_and (pe_callB call_isi (by rfl) T.z_isinstance (by decide +kernel) (pa_cons (pv 1) (pa_cons (pe_glob (v := .ref T.C_Load) rfl T.g_Load rfl) pa_nil))) (pe_one (pe_cmpR (op_eqD hr.units) (pe_fld (pv 0) rfl) (pe_fld (pv 1) rfl) (nomark _))))), ?_⟩
    refine ⟨_, rfl, _, .ref T.C_Load, .ref T.C_Load, .ref T.C_Load, true, rfl, .own _, .base (.ins hb T.cl_Load T.ic_Load T.sp_class T.tk_class T.mr_Load), by unfold PySem.W.kitOne; simp, _, rfl, iteT ?_⟩
    refine ⟨_, rfl, a, T.C_Load, dx, _, _, rfl, ha, T.cl_Load, T.na_Load__counts, look_c, _, rfl, b, T.C_Load, dy, _, _, rfl, hb, T.cl_Load, T.na_Load__counts, look_c, ?_⟩
    exact rq_ints (SqL.of hl) (SqL.of hm) q
end
end D2

namespace D2
open PySem PySem.Spec PyProof.Rows L2 KO
theorem ixN_nat' {n j : Nat} (hj : j < n) : ixN n (j : Int) = some j := by
  unfold ixN
  rw [if_pos (by omega), if_pos (by omega)]
  rfl
section
variable {P : Program} {w : World} {K : PySem.W.Frag} {mg : Str → Option Value} {base : Heap}
/-! ### the methods that refuse -/
def spCmin (C B : Addr) : Sp := fun vs H Q E => ∃ (a l : Addr) (ns : List Int) (i : Int), vs = [.ref a, .int i] ∧ Ld C H a l ns ∧ (inL ns i → Q .non H) ∧ (¬ inL ns i → E (.ref B) none H)
theorem scCmin : FnScope ["self", "minute"] ["self", "minute"] (defScope sCmin) := ⟨rfl, rfl, rfl, by decide +kernel, rfl, by decide +kernel, by decide +kernel⟩
theorem ok_cmin (T : Tx K mg) : FnOk P w K mg base (L2.CX P w) 1 T.fLoad_check_minute T.dLoad_check_minute ["self", "minute"] (spCmin T.C_Load T.C_BadLoad) := by
  refine T.FLoad_check_minute.okX scCmin (fun vs H Q E h => ?_) (fun cdv A outer s H vs Q E hr h => ?_)
  · obtain ⟨a, l, ns, i, rfl, _⟩ := h
    rfl
  · obtain ⟨a, l, ns, i, rfl, ⟨dx, ha, hl⟩, q1, q2⟩ := h
    refine ⟨_, pss_one (ps_if (pt_not (pt_chain op_le op_lt pe_int (pv 1) (pe_callB call_len_seq (by rfl) T.z_len (by decide +kernel) (pa_cons (pe_fld (pv 0) rfl) pa_nil)))) (pss_one (ps_raise rfl (takes_of rfl rfl rfl rfl) (pmk_own0 PySem.F.excBase_ValueError T.xo_BadLoad T.g_BadLoad T.kp_BadLoad (raises_own T.bs_BadLoad T.ty_BadLoad) (by rfl)))) (pss_nil)), ?_⟩
    refine ⟨_, rfl, _, _, rfl, rfl, _, rfl, ?_⟩
    refine iteDs (fun h1 => ?_) (fun h1 => ⟨_, rfl, q2 fun h => h1 h.1⟩)
    refine ⟨_, rfl, a, T.C_Load, dx, _, _, rfl, ha, T.cl_Load, T.na_Load__counts, look_c, l, _, rfl, .inl (SqL.of hl), _, _, rfl, rfl, _, rfl, ?_⟩
    rw [List.length_map]
    exact iteNDs (fun h2 => q2 fun h => h2 h.2) (fun h2 => q1 ⟨h1, h2⟩)
def spGet (C B : Addr) : Sp := fun vs H Q E => ∃ (a l : Addr) (ns : List Int) (i : Int), vs = [.ref a, .int i] ∧ Ld C H a l ns ∧ (inL ns i → ∀ c, ns[i.toNat]? = some c → Q (.int c) H) ∧ (¬ inL ns i → E (.ref B) none H)
theorem scGet : FnScope ["self", "at"] ["self", "at"] (defScope sGet) := ⟨rfl, rfl, rfl, by decide +kernel, rfl, by decide +kernel, by decide +kernel⟩
theorem ok_get (T : Tx K mg) : FnOk P w K mg base (L2.CX P w) 2 T.fLoad_getitem T.dLoad_getitem ["self", "at"] (spGet T.C_Load T.C_BadLoad) := by
  have G := ok_cmin (P := P) (w := w) (base := base) T
  refine T.FLoad_getitem.okX scGet (fun vs H Q E h => ?_) (fun cdv A outer s H vs Q E hr h => ?_)
  · obtain ⟨a, l, ns, i, rfl, _⟩ := h
    rfl
  · obtain ⟨a, l, ns, i, rfl, L, q1, q2⟩ := h
    refine ⟨_, pss_cons (ps_expr (pe_meth (pv 0) T.cl_Load T.m_Load_check_minute G hr T.bLoad_check_minute .nil (passes_call (takes_of rfl rfl rfl rfl) (fun _ _ _ _ h => h)) (pa_cons (pv 1) pa_nil)))
      (pss_one (ps_ret (pe_ix ix_list (pe_fld (pv 0) rfl) (pv 1) (fun _ _ => rfl)))), ?_⟩
    obtain ⟨dx, ha, hl⟩ := id L
    refine ⟨_, rfl, a, dx, _, rfl, ha, rfl, _, rfl, a, l, ns, i, rfl, L, fun h1 => ?_, q2⟩
    obtain ⟨c, hc⟩ := in_get h1
    exact ⟨_, rfl, a, T.C_Load, dx, _, _, rfl, ha, T.cl_Load, T.na_Load__counts, look_c, _, rfl, l, _, _, _, rfl, rfl, SqL.of hl, at_of h1 hc, q1 h1 c hc⟩
def spPut (C B : Addr) : Sp := fun vs H Q E => ∃ (a l : Addr) (ns : List Int) (i c : Int), vs = [.ref a, .int i, .int c] ∧ Ld C H a l ns ∧ (inL ns i ∧ 0 ≤ c → Q .non (upd H l (.lst ((ns.set i.toNat c).map V.int)))) ∧ (¬ (inL ns i ∧ 0 ≤ c) → E (.ref B) none H)
theorem scPut : FnScope ["self", "minute", "count"] ["self", "minute", "count"] (defScope sPut) := ⟨rfl, rfl, rfl, by decide +kernel, rfl, by decide +kernel, by decide +kernel⟩
theorem ok_put (T : Tx K mg) : FnOk P w K mg base (L2.CX P w) 2 T.fLoad_put T.dLoad_put ["self", "minute", "count"] (spPut T.C_Load T.C_BadLoad) := by
  have G := ok_cmin (P := P) (w := w) (base := base) T
  have Gcheck_least := ok_clst (P := P) (w := w) (base := base) T
  refine T.FLoad_put.okX scPut (fun vs H Q E h => ?_) (fun cdv A outer s H vs Q E hr h => ?_)
  · obtain ⟨a, l, ns, i, c, rfl, _⟩ := h
    rfl
  · obtain ⟨a, l, ns, i, c, rfl, L, q1, q2⟩ := h
    refine ⟨_, pss_cons (ps_expr (pe_meth (pv 0) T.cl_Load T.m_Load_check_minute G hr T.bLoad_check_minute .nil (passes_call (takes_of rfl rfl rfl rfl) (fun _ _ _ _ h => h)) (pa_cons (pv 1) pa_nil)))
      (pss_cons (ps_expr (pe_call Gcheck_least hr (by rfl) T.gcheck_least T.Fcheck_least.kp T.bcheck_least .nil (passes_call (takes_of rfl rfl rfl rfl) (fun _ _ _ _ h => h)) (pa_cons (pv 2) (pa_cons pe_int pa_nil))))
      (pss_one (ps_asg (pv 2) (pg_sub (pe_fld (pv 0) rfl) (pv 1) set_list)))), ?_⟩
    obtain ⟨dx, ha, hl⟩ := id L
    refine ⟨_, rfl, a, dx, _, rfl, ha, rfl, _, rfl, a, l, ns, i, rfl, L, fun h1 => ?_, fun h1 => q2 fun h => h1 h.1⟩
    refine ⟨_, rfl, c, 0, rfl, fun h2 => ?_, fun h2 => q2 fun h => by have := h.2; omega⟩
    have hq := q1 ⟨h1, h2⟩
    rw [List.map_set] at hq
    obtain ⟨h3, h4⟩ := id h1
    refine ⟨_, rfl, _, rfl, a, T.C_Load, dx, _, _, rfl, ha, T.cl_Load, T.na_Load__counts, look_c, _, rfl, l, _, _, i.toNat, rfl, rfl, hl, ?_, hq⟩
    rw [List.length_map]
    obtain ⟨n, rfl⟩ := Int.eq_ofNat_of_zero_le h3
    exact ixN_nat' (by omega)
def good (ns : List Int) : Prop := (1 ≤ ns.length ∧ ns.length ≤ 60) ∧ ∀ n ∈ ns, 0 ≤ n
def spInit (K : PySem.W.Frag) (C B : Addr) : Sp := fun vs H Q E => ∃ (x dx c : Addr) (ns : List Int), vs = [.ref x, .ref c] ∧ H x = some (.ins C dx []) ∧ (SqL K H c (ns.map V.int) ∨ SqT K H c (ns.map V.int)) ∧
  (good ns → ∀ l, H l = none → Q .non (upd (upd H l (.lst (ns.map V.int))) x (.ins C dx [("_counts", .ref l)]))) ∧ (¬ good ns → E (.ref B) none H)
theorem scInit : FnScope ["self", "counts"] ["self", "counts"] (defScope sInit) := ⟨rfl, rfl, rfl, by decide +kernel, rfl, by decide +kernel, by decide +kernel⟩
theorem ok_init (T : Tx K mg) : FnOk P w K mg base (L2.CX P w) 2 T.fLoad_init T.dLoad_init ["self", "counts"] (spInit K T.C_Load T.C_BadLoad) := by
  have Gcheck_length := ok_clen (P := P) (w := w) (base := base) T
  have Gcheck_least := ok_clst (P := P) (w := w) (base := base) T
  refine T.FLoad_init.okX scInit (fun vs H Q E h => ?_) (fun cdv A outer s H vs Q E hr h => ?_)
  · obtain ⟨x, dx, c, ns, rfl, _⟩ := h
    rfl
  · obtain ⟨x, dx, c, ns, rfl, hx, hc, q1, q2⟩ := h
    refine ⟨_, pss_cons (ps_expr (pe_call Gcheck_length hr (by rfl) T.gcheck_length T.Fcheck_length.kp T.bcheck_length .nil (passes_call (takes_of rfl rfl rfl rfl) (fun _ _ _ _ h => h)) (pa_cons (pe_callB call_len_seq (by rfl) T.z_len (by decide +kernel) (pa_cons (pv 1) pa_nil)) pa_nil)))
      (pss_cons (ps_expr (pe_call Gcheck_least hr (by rfl) T.gcheck_least T.Fcheck_least.kp T.bcheck_least .nil (passes_call (takes_of rfl rfl rfl rfl) (fun _ _ _ _ h => h)) (pa_cons (pe_callB (cr_minS rfl) (by rfl) T.z_min (by decide +kernel) (pa_cons (pv 1) pa_nil)) (pa_cons pe_int pa_nil))))
      (pss_one (ps_fld (pv 0) (pe_callTy (T := "list") call_list_of (by rfl) T.z_list (by decide +kernel) (pa_cons (pv 1) pa_nil)) rfl))), ?_⟩
    refine ⟨_, rfl, c, _, rfl, hc, ns.length, ?_, fun h1 => ?_, fun h1 => q2 fun h => h1 ⟨by have := h.1.1; omega, by have := h.1.2; omega⟩⟩
    · rw [List.length_map]
      rfl
    refine ⟨_, rfl, c, ns, rfl, hc, by omega, fun m hm hle => ⟨m, 0, rfl, fun h2 => ?_, fun h2 => q2 fun h => ?_⟩⟩
    · have hg : good ns := ⟨⟨by omega, by omega⟩, fun n hn => by have := hle n hn; omega⟩
      refine ⟨_, rfl, c, _, rfl, hc, fun l hl => ⟨_, rfl, x, T.C_Load, dx, [], rfl, ?_, T.cl_Load, T.na_Load__counts, (by show 0 < 1000; decide), q1 hg l hl⟩⟩
      rw [upd_ne (ne_of_none hx hl)]
      exact hx
    · have := h.2 m hm
      omega
end
end D2

namespace D2
open PySem PySem.Spec PyProof.Rows L2 KO
theorem Pool.eq {H H' : Hp} {p l : Addr} (h : ∀ b, b ≠ p → H' b = H b) (hl : l ≠ p) {o : HO} (e : H l = some o) : H' l = some o := by
  rw [h l hl]
  exact e
theorem But.eq {H H' : Hp} {p : Addr} (h : ∀ b, b ≠ p → H' b = H b) : But p H H' := fun b o n e => by
  rw [h b n]
  exact e
/-- but for p nothing is changed, and nothing is new -/
def Eqp (p : Addr) (H H' : Hp) : Prop := ∀ b, b ≠ p → H' b = H b
theorem Eqp.refl (p : Addr) (H : Hp) : Eqp p H H := fun _ _ => rfl
theorem Eqp.trans {p : Addr} {H H1 H2 : Hp} (a : Eqp p H H1) (b : Eqp p H1 H2) : Eqp p H H2 := fun c h => (b c h).trans (a c h)
section
variable {P : Program} {w : World} {K : PySem.W.Frag} {mg : Str → Option Value} {base : Heap}
/-! ### draws -/
def spSize : Sp := fun vs H Q _ => ∃ p : Addr, vs = [.ref p] ∧ Pool H p ∧ ∀ H' (n : Int), 1 ≤ n → n ≤ 60 → Pool H' p → Eqp p H H' → Q (.int n) H'
theorem scSize : FnScope ["_law_pool_here"] ["_law_pool_here"] (defScope sSize) := ⟨rfl, rfl, rfl, by decide +kernel, rfl, by decide +kernel, by decide +kernel⟩
theorem ok_size (T : Tx K mg) : FnOk P w K mg base CX0 2 T.f_law_size T.d_law_size ["_law_pool_here"] spSize := by
  have G_law_take := ok_take (P := P) (w := w) (base := base) T
  refine T.F_law_size.ok scSize (fun vs H Q E h => ?_) (fun cdv A outer s H vs Q E hr h => ?_)
  · obtain ⟨p, rfl, _⟩ := h
    rfl
  · obtain ⟨p, rfl, hp, q⟩ := h
    refine ⟨_, pss_cons (ps_if (pt_cmpR op_eq (pe_call G_law_take hr (by rfl) T.g_law_take T.F_law_take.kp T.b_law_take .nil pass0 (pa_cons (pv 0) (pa_cons pe_int pa_nil))) pe_int (nomark _)) (pss_one (ps_ret (pe_op op_add pe_int (pe_call G_law_take hr (by rfl) T.g_law_take T.F_law_take.kp T.b_law_take .nil pass0 (pa_cons (pv 0) (pa_cons pe_int pa_nil)))))) (pss_nil))
      (pss_one (ps_ret (pe_op op_add pe_int (pe_call G_law_take hr (by rfl) T.g_law_take T.F_law_take.kp T.b_law_take .nil pass0 (pa_cons (pv 0) (pa_cons pe_int pa_nil)))))), ?_⟩
    refine ⟨_, rfl, p, _, rfl, hp, by decide, by decide, fun H1 r _ _ hp1 k1 => ⟨rfl, _, rfl, iteDs (fun _ => ?_) (fun _ => ?_)⟩⟩
    · refine ⟨_, rfl, p, _, rfl, hp1, by decide, by decide, fun H2 r2 h0 h1 hp2 k2 => ⟨_, _, rfl, rfl, ?_⟩⟩
      exact q _ _ (by omega) (by omega) hp2 (Eqp.trans k1 k2)
    · refine ⟨_, rfl, p, _, rfl, hp1, by decide, by decide, fun H2 r2 h0 h1 hp2 k2 => ⟨_, _, rfl, rfl, ?_⟩⟩
      exact q _ _ (by omega) (by omega) hp2 (Eqp.trans k1 k2)
def spCount : Sp := fun vs H Q _ => ∃ p : Addr, vs = [.ref p] ∧ Pool H p ∧ ∀ H' (n : Int), 0 ≤ n → Pool H' p → Eqp p H H' → Q (.int n) H'
theorem scCount : FnScope ["_law_pool_here"] ["_law_pool_here"] (defScope sCount) := ⟨rfl, rfl, rfl, by decide +kernel, rfl, by decide +kernel, by decide +kernel⟩
theorem ok_count (T : Tx K mg) : FnOk P w K mg base CX0 2 T.f_law_count T.d_law_count ["_law_pool_here"] spCount := by
  have G_law_take := ok_take (P := P) (w := w) (base := base) T
  refine T.F_law_count.ok scCount (fun vs H Q E h => ?_) (fun cdv A outer s H vs Q E hr h => ?_)
  · obtain ⟨p, rfl, _⟩ := h
    rfl
  · obtain ⟨p, rfl, hp, q⟩ := h
    refine ⟨_, pss_cons (ps_if (pt_cmpR op_eq (pe_call G_law_take hr (by rfl) T.g_law_take T.F_law_take.kp T.b_law_take .nil pass0 (pa_cons (pv 0) (pa_cons pe_int pa_nil))) pe_int (nomark _)) (pss_one (ps_ret (pe_call G_law_take hr (by rfl) T.g_law_take T.F_law_take.kp T.b_law_take .nil pass0 (pa_cons (pv 0) (pa_cons (pe_op op_add (pe_op op_pow pe_int pe_int) pe_int) pa_nil))))) (pss_nil))
      (pss_one (ps_ret (pe_call G_law_take hr (by rfl) T.g_law_take T.F_law_take.kp T.b_law_take .nil pass0 (pa_cons (pv 0) (pa_cons pe_int pa_nil))))), ?_⟩
    refine ⟨_, rfl, p, _, rfl, hp, by decide, by decide, fun H1 r _ _ hp1 k1 => ⟨rfl, _, rfl, iteDs (fun _ => ?_) (fun _ => ?_)⟩⟩
    · refine ⟨_, rfl, _, _, rfl, rfl, ⟨by decide, by decide, by decide⟩, _, _, rfl, rfl, p, _, rfl, hp1, by decide, by decide, fun H2 r2 h0 h1 hp2 k2 => ?_⟩
      exact q _ _ (by omega) hp2 (Eqp.trans k1 k2)
    · refine ⟨_, rfl, p, _, rfl, hp1, by decide, by decide, fun H2 r2 h0 h1 hp2 k2 => ?_⟩
      exact q _ _ (by omega) hp2 (Eqp.trans k1 k2)
/-! ### the same answer twice -/
def spSameB : Sp := fun vs H Q _ => ∃ x : Bool, vs = [.bl x, .bl x] ∧ Q (.bl true) H
theorem ok_sameB (T : Tx K mg) : FnOk P w K mg base CX0 1 T.f_law_same T.d_law_same ["_law_got", "_law_due"] spSameB := by
  refine T.F_law_same.ok scSame (fun vs H Q E h => ?_) (fun cdv A outer s H vs Q E hr h => ?_)
  · obtain ⟨x, rfl, _⟩ := h
    rfl
  · obtain ⟨x, rfl, q⟩ := h
    refine ⟨_, pss_cons (ps_if (PW.pt (pw_or (pt_val (pe_callB call_isi (by rfl) T.z_isinstance (by decide +kernel) (pa_cons (pv 0) (pa_cons (pe_bltn (v := .ty "bool") (by rfl) T.z_bool (by decide +kernel) rfl) pa_nil)))) (pw_or1 (pt_val (pe_callB call_isi (by rfl) T.z_isinstance (by decide +kernel) (pa_cons (pv 1) (pa_cons (pe_bltn (v := .ty "bool") (by rfl) T.z_bool (by decide +kernel) rfl) pa_nil)))))))
      (pss_one (ps_ret (pe_and (pe_callB call_isi (by rfl) T.z_isinstance (by decide +kernel) (pa_cons (pv 0) (pa_cons (pe_bltn (v := .ty "bool") (by rfl) T.z_bool (by decide +kernel) rfl) pa_nil))) (pe_and (pe_callB call_isi (by rfl) T.z_isinstance (by decide +kernel) (pa_cons (pv 1) (pa_cons (pe_bltn (v := .ty "bool") (by rfl) T.z_bool (by decide +kernel) rfl) pa_nil))) (pe_one (pe_cmpR op_eq (pv 0) (pv 1) (nomark _))))))) (pss_nil)) pss_never, ?_⟩
    refine ⟨_, rfl, _, _, _, _, _, rfl, .ty _, (.base (.bl x)), kit_ty (by decide +kernel), ⟨_, rfl, iteT (iteT ?_)⟩⟩
    refine ⟨_, rfl, _, _, _, _, _, rfl, .ty _, (.base (.bl x)), kit_ty (by decide +kernel), ⟨_, rfl, iteT ⟨_, rfl, _, _, _, _, _, rfl, .ty _, (.base (.bl x)), kit_ty (by decide +kernel), ⟨_, rfl, iteT ⟨_, rfl, _, rfl, rfl, ?_⟩⟩⟩⟩⟩
    rw [decide_eq_true rfl]
    exact q
theorem rp_ints {H : Hp} {a b : Addr} {ns : List Int} (ha : H a = some (.lst (ns.map V.int))) (hb : H b = some (.lst (ns.map V.int))) (hn : ns.length ≤ 1000) : Rp 2 H (.ref a) (.ref b) := by
  refine .inr ⟨a, b, _, _, rfl, rfl, .inl ⟨ha, hb⟩, rfl, by rw [List.length_map]; exact hn, fun i x y hx hy => ?_⟩
  have e : x = y := Option.some.inj (hx.symm.trans hy)
  subst e
  rw [List.getElem?_map] at hx
  cases h : ns[i]? with
  | none => rw [h] at hx; cases hx
  | some z => rw [h] at hx; exact .inl ⟨z, (Option.some.inj hx).symm, (Option.some.inj hx).symm⟩
end
theorem at0 {X : Cx} {σ : L2.St} : PassesAt CX0 X σ E0 := fun _ _ _ _ _ _ h => h.elim
theorem atL {X : Cx} {σ : L2.St} : PassesAt (L2.CX X.prog X.w) X σ E0 := fun pins H s e s' I c => passL pins σ H s e s' I c
theorem kit_own {K : PySem.W.Frag} {C : Addr} : PySem.W.kitOne K (.ref C) (.ref C) = some true := by
  unfold PySem.W.kitOne
  simp
theorem kit_oty {K : PySem.W.Frag} {C : Addr} {t : String} {b : Bool} (h : PySem.W.kitMeta t = true) (s : PySem.W.subIn K (.ref C) (.type t) = some b) : PySem.W.kitOne K (.ref C) (.type t) = some b := by
  unfold PySem.W.kitOne PySem.W.kitCls
  rw [if_neg (by simp)]
  dsimp only
  rw [if_pos h]
  exact s
theorem kit_no {K : PySem.W.Frag} {C D : Addr} (ss : PySem.W.subIn K (.ref C) (.ref C) = some true) (s : PySem.W.subIn K (.ref C) (.ref D) = some false) (hd : PySem.W.hasDictIn K D = true) (ty : PySem.W.typeIn K (.ref D) = some (.type "type")) : PySem.W.kitOne K (.ref C) (.ref D) = some false := by
  have ne : C ≠ D := fun e => by
    rw [← e, ss] at s
    cases s
  obtain ⟨cd, hc, _⟩ := PySem.W.any_some hd
  unfold PySem.W.kitOne PySem.W.kitCls
  rw [if_neg (by simpa using ne)]
  dsimp only
  rw [hc, ty]
  simpa using s
section
variable {P : Program} {w : World} {K : PySem.W.Frag} {mg : Str → Option Value} {base : Heap}
theorem excC (T : Tx K mg) : ExcC K T.C_BadLoad := ⟨T.ga_BadLoad, T.gg_BadLoad, T.bs_BadLoad, T.hd_BadLoad, T.cl_BadLoad, T.sp_class, T.tk_class, T.mr_BadLoad⟩
theorem exmB (T : Tx K mg) : PySem.W.exmOne K (.ref T.C_BadLoad) (.ref T.C_DepotError) = some true := PySem.W.exm_ref T.bs_DepotError T.hd_DepotError T.ty_DepotError T.sb_BadLoad_DepotError
theorem kit1 (T : Tx K mg) : PySem.W.kitOne K (.ref T.C_BadLoad) (.type "ValueError") = some true := kit_oty (by decide +kernel) T.sb_BadLoad_ValueError
theorem kit2 (T : Tx K mg) : PySem.W.kitOne K (.ref T.C_BadLoad) (.ref T.C_BadNumber) = some false := kit_no T.sb_BadLoad_self T.sb_BadLoad_BadNumber T.hd_BadNumber T.ty_BadNumber
theorem Same.eqp {p : Addr} {H H1 H2 : Hp} (s : Same H H1) (e : Eqp p H1 H2) (hp : H p = none) : Same H H2 := fun b o h => by
  rw [e b (ne_of_none h hp)]
  exact s b o h
theorem make_read {C B c x dx : Addr} {ns : List Int} {H : Hp} {R : Hp → Prop} {E : XK} (nx : H x = none) (ndx : H dx = none) (ne : dx ≠ x) (hc : SqL K H c (ns.map V.int) ∨ SqT K H c (ns.map V.int)) (hg : good ns) (q : ∀ l H', H l = none → x ≠ l → Same H H' → Ld C H' x l ns → R H') :
    spInit K C B [.ref x, .ref c] (upd (upd H dx (.own x)) x (.ins C dx [])) (fun v H2 => v = .non ∧ R H2) E := by
  have s1 : Same H (upd (upd H dx (.own x)) x (.ins C dx [])) := Same.put (same_upd ndx) nx
  refine ⟨x, dx, c, ns, rfl, upd_same, hc.imp (fun h => SqL.ext h s1) (fun h => SqT.ext h s1), fun _ l nl => ⟨rfl, ?_⟩, fun h => (h hg).elim⟩
  have nlx : l ≠ x := fun e => by
    rw [e, upd_same] at nl
    cases nl
  have nl0 : H l = none := by
    rw [upd_ne nlx] at nl
    by_cases e : l = dx
    · rw [e]
      exact ndx
    · rw [upd_ne e] at nl
      exact nl
  refine q l _ nl0 (Ne.symm nlx) (Same.put (Same.put s1 nl0) nx) ⟨dx, upd_same, ?_⟩
  rw [upd_ne nlx, upd_same]
theorem Ld.at {C : Addr} {H : Hp} {a l : Addr} {ns : List Int} (h : Ld C H a l ns) : H l = some (.lst (ns.map V.int)) := let ⟨_, _, h⟩ := h; h
theorem eq_read {C : Addr} {H : Hp} {a l b m : Addr} {ns ms : List Int} {Q : VK} {E : XK} (L : Ld C H a l ns) (M : Ld C H b m ms) (q : Q (.bl (decide (ns = ms))) H) : rEqO C (spEq C) E (.ref a) (.ref b) H Q := by
  obtain ⟨dx, h1, h2⟩ := id L
  obtain ⟨dy, g1, g2⟩ := id M
  exact ⟨a, dx, _, b, dy, _, rfl, rfl, h1, g1, a, l, ns, b, m, ms, rfl, L, M, _, rfl, q⟩
theorem keepT {σ : L2.St} {H : Hp} {te : TE} {R : V → Hp → Prop} {N : Hp → Prop} (h : te σ H R) : tYes σ H fun b H3 => if b = true then te σ H3 R else N H3 := by
  show if true = true then te σ H R else N H
  exact iteT h
end
end D2

namespace D2
open PySem PySem.Spec PyProof.Rows L2 KO
theorem pg_tupK {X : Cx} {K : PySem.W.Frag} {pos : Pos} {es : List Expr} {k : Nat} {t : TGs} {n : Nat} (hK : X.K = K) (hc : X.calm = true) (h : PGs X es t) (hn : (assignEach es X.env).length = n := by rfl) (hst : (assignEach es X.env).findIdx? (·.1) = none := by rfl) : PG X (.Tuple es k pos) (gTup K n t) := by
  subst hK
  exact pg_tup hc h hn hst
def gAdd (i j : Int) : Int := i + j
def gSub (i j : Int) : Int := if i - j > 0 then i - j else 0
def gOr (i j : Int) : Int := if j > i then j else i
def gAnd (i j : Int) : Int := if j < i then j else i
def gXor (i j : Int) : Int := if i - j < 0 then -(i - j) else i - j
section
variable {P : Program} {w : World} {K : PySem.W.Frag} {mg : Str → Option Value} {base : Heap}
/-! ### pairs -/
def spPrs (C B : Addr) : Sp := fun vs H Q E => ∃ (a l b m : Addr) (ns ms : List Int), vs = [.ref a, .ref b] ∧ Ld C H a l ns ∧ Ld C H b m ms ∧ ns.length ≤ 1000 ∧
  (ns.length = ms.length → ∀ r H' ts, H r = none → Same H H' → H' r = some (.lst (ts.map V.ref)) → ts.length = ns.length → ZPr H' (ns.map V.int) (ms.map V.int) ts → Q (.ref r) H') ∧ (ns.length ≠ ms.length → E (.ref B) none H)
theorem scPrs : FnScope ["self", "other"] ["self", "other"] (defScope sPrs) := ⟨rfl, rfl, rfl, by decide +kernel, rfl, by decide +kernel, by decide +kernel⟩
theorem ok_prs (T : Tx K mg) : FnOk P w K mg base (L2.CX P w) 1 T.fLoad_pairs T.dLoad_pairs ["self", "other"] (spPrs T.C_Load T.C_BadLoad) := by
  refine T.FLoad_pairs.okX scPrs (fun vs H Q E h => ?_) (fun cdv A outer s H vs Q E hr h => ?_)
  · obtain ⟨a, l, b, m, ns, ms, rfl, _⟩ := h
    rfl
  · obtain ⟨a, l, b, m, ns, ms, rfl, ⟨dx, ha, hl⟩, ⟨dy, hb, hm⟩, hn, q1, q2⟩ := h
    refine ⟨_, pss_cons (ps_if (pt_cmpR op_ne (pe_callB call_len_seq (by rfl) T.z_len (by decide +kernel) (pa_cons (pe_fld (pv 0) rfl) pa_nil)) (pe_callB call_len_seq (by rfl) T.z_len (by decide +kernel) (pa_cons (pe_fld (pv 1) rfl) pa_nil)) (nomark _)) (pss_one (ps_raise rfl (takes_of rfl rfl rfl rfl) (pmk_own0 PySem.F.excBase_ValueError T.xo_BadLoad T.g_BadLoad T.kp_BadLoad (raises_own T.bs_BadLoad T.ty_BadLoad) (by rfl)))) pss_nil)
      (pss_one (ps_ret (pe_listZip rfl (by rfl) T.z_list (by rfl) T.z_zip (pa_cons (pe_fld (pv 0) rfl) (pa_cons (pe_fld (pv 1) rfl) pa_nil))))), ?_⟩
    refine ⟨_, rfl, a, T.C_Load, dx, _, _, rfl, ha, T.cl_Load, T.na_Load__counts, look_c, l, _, rfl, .inl (SqL.of hl), _, rfl, b, T.C_Load, dy, _, _, rfl, hb, T.cl_Load, T.na_Load__counts, look_c, m, _, rfl, .inl (SqL.of hm), rfl, _, rfl, iteNDs (fun h => q2 fun e => h (by rw [List.length_map, List.length_map, e])) (fun h => ?_)⟩
    have e : ns.length = ms.length := by
      have := V.int.inj h
      rw [List.length_map, List.length_map] at this
      omega
    refine ⟨_, rfl, a, T.C_Load, dx, _, _, rfl, ha, T.cl_Load, T.na_Load__counts, look_c, _, rfl, b, T.C_Load, dy, _, _, rfl, hb, T.cl_Load, T.na_Load__counts, look_c, l, m, _, _, rfl, SqL.of hl, SqL.of hm, by rw [List.length_map, List.length_map, e], by rw [List.length_map]; exact hn, fun r H' ts n0 s1 h1 e1 z1 => q1 e r H' ts n0 s1 h1 (by rw [e1, List.length_map]) z1⟩
/-! ### the signs -/
def spBin (C B : Addr) (g : Int → Int → Int) : Sp := fun vs H Q E => ∃ (a l b m : Addr) (ns ms : List Int), vs = [.ref a, .ref b] ∧ Ld C H a l ns ∧ Ld C H b m ms ∧ good ns ∧ good ms ∧
  (ns.length = ms.length → ∀ x k H', Same H H' → H x = none → H k = none → Ld C H' x k (List.zipWith g ns ms) → Q (.ref x) H') ∧ (ns.length ≠ ms.length → E (.ref B) none H)
theorem zip_take {g : Int → Int → Int} {ns ms : List Int} {j : Nat} {n m : Int} (hn : ns[j]? = some n) (hm : ms[j]? = some m) : (List.zipWith g ns ms).take (j + 1) = (List.zipWith g ns ms).take j ++ [g n m] := by
  rw [List.take_add_one, List.getElem?_zipWith, hn, hm]
  rfl
theorem zip_good {g : Int → Int → Int} (hg : ∀ i j, 0 ≤ i → 0 ≤ j → 0 ≤ g i j) {ns ms : List Int} (a : good ns) (b : good ms) (e : ns.length = ms.length) : good (List.zipWith g ns ms) := by
  refine ⟨by rw [List.length_zipWith]; have := a.1; omega, fun z hz => ?_⟩
  obtain ⟨i, hi⟩ := List.getElem?_of_mem hz
  rw [List.getElem?_zipWith] at hi
  cases h1 : ns[i]? with
  | none =>
    rw [h1] at hi
    cases hi
  | some n =>
    cases h2 : ms[i]? with
    | none =>
      rw [h1, h2] at hi
      cases hi
    | some m =>
      rw [h1, h2] at hi
      have e2 : g n m = z := Option.some.inj hi
      rw [← e2]
      exact hg n m (a.2 n (List.mem_of_getElem? h1)) (b.2 m (List.mem_of_getElem? h2))
theorem int_of {ns : List Int} {j : Nat} {x : V} (h : (ns.map V.int)[j]? = some x) : ∃ n, ns[j]? = some n ∧ x = .int n := by
  rw [List.getElem?_map] at h
  cases e : ns[j]? with
  | none =>
    rw [e] at h
    cases h
  | some n =>
    rw [e] at h
    exact ⟨n, rfl, (Option.some.inj h).symm⟩
theorem scAdd : FnScope ["self", "other", "mine", "theirs"] ["self", "other"] (defScope sAdd) := ⟨rfl, rfl, rfl, by decide +kernel, rfl, by decide +kernel, by decide +kernel⟩
theorem ok_add (T : Tx K mg) : FnOk P w K mg base (L2.CX P w) 4 T.fLoad_add T.dLoad_add ["self", "other"] (spBin T.C_Load T.C_BadLoad gAdd) := by
  have Gp := ok_prs (P := P) (w := w) (base := base) T
  have Gi := ok_init (P := P) (w := w) (base := base) T
  refine T.FLoad_add.okX scAdd (fun vs H Q E h => ?_) (fun cdv A outer s H vs Q E hr h => ?_)
  · obtain ⟨a, l, b, m, ns, ms, rfl, _⟩ := h
    rfl
  · obtain ⟨a, l, b, m, ns, ms, rfl, L, M, gn, gm, q1, q2⟩ := h
    obtain ⟨dx, ha, hl⟩ := id L
    have h1 : Room 1 _ := hr.mono (by decide)
    have szn := gn.1.2
    refine ⟨_, pss_one (ps_ret (pe_make T.M_Load Gi hr (by rfl) T.g_Load T.bLoad_init .nil (passes_call (takes_of rfl rfl rfl rfl) (fun _ _ _ _ h => h)) (pa_cons (pe_lc (own := [("mine", 2), ("theirs", 3)]) (g := gTup K 2 (gCons (gName 2) (gCons (gName 3) gNil))) rfl scAdd.nd (pi_list (pe_meth (pv 0) T.cl_Load T.m_Load_pairs Gp h1 T.bLoad_pairs .nil (passes_call (takes_of rfl rfl rfl rfl) (fun _ _ _ _ h => h)) (pa_cons (pv 1) pa_nil))) (blkOk_by (own := [("mine", 2), ("theirs", 3)]) (N := ["self", "other", "mine", "theirs"]) (sc := defScope sAdd) (by decide +kernel)) (fun _ _ _ _ _ => pg_tupK (K := K) rfl rfl (pgs_cons (pg_name (i := 2) scAdd.nd rfl (.inl rfl)) (pgs_cons (pg_name (i := 3) scAdd.nd rfl (.inl rfl)) pgs_nil))) (fun _ _ _ _ _ => pts_nil) (fun _ _ _ _ _ => (pe_op op_add (pv 2) (pv 3)))) pa_nil))), ?_⟩
    refine ⟨_, rfl, a, dx, _, rfl, ha, rfl, _, rfl, a, l, b, m, ns, ms, rfl, L, M, by omega, fun e => ?_, q2⟩
    intro r H1 ts nr s1 h1 et zp
    refine ⟨r, rfl, ⟨_, SqL.of h1⟩, fun D nD => ?_⟩
    refine lc_list (K := K) (a := r) (xs := ts.map V.ref) (fun j H' => Same H1 H' ∧ H' D = some (.lst (((List.zipWith gAdd ns ms).take j).map V.int))) ⟨same_upd nD, upd_same⟩ (fun j H' _ h => SqL.of (h.1 _ _ h1)) ?_ ?_
    · rintro j y H' hy ⟨sj, hD⟩
      obtain ⟨t, ht, rfl⟩ : ∃ t, ts[j]? = some t ∧ y = V.ref t := by
        rw [List.getElem?_map] at hy
        cases e : ts[j]? with
        | none =>
          rw [e] at hy
          cases hy
        | some t =>
          rw [e] at hy
          exact ⟨t, rfl, (Option.some.inj hy).symm⟩
      obtain ⟨x, y, hx, hy, htt⟩ := zp j t ht
      obtain ⟨n, hn, rfl⟩ := int_of hx
      obtain ⟨z, hz, rfl⟩ := int_of hy
      refine ⟨t, _, rfl, SqT.of (sj _ _ htt), rfl, _, _, rfl, _, _, rfl, rfl, rfl, keepT ?_⟩
      refine ⟨_, rfl, _, rfl, _, _, rfl, rfl, ?_⟩
      refine ⟨_, hD, ?_, Same.put sj nD, ?_⟩
      · rw [List.length_map, List.length_take, sizeLine_eq, List.length_zipWith]
        omega
      · rw [upd_same, zip_take hn hz, List.map_append]
        rfl
    · rintro H' ⟨sj, hD⟩
      rw [List.take_of_length_le (by rw [List.length_zipWith, List.length_map]; omega)] at hD
      intro x dx nx ndx nex
      refine make_read nx ndx nex (.inl (SqL.of hD)) (zip_good (by intro i j hi hj; unfold gAdd; omega) gn gm e) fun k H'' nk xk sk Lk => ?_
      exact q1 e x k H'' ((s1.trans sj).trans sk) ((s1.trans sj).free nx) ((s1.trans sj).free nk) Lk
theorem scSub : FnScope ["self", "other", "mine", "theirs"] ["self", "other"] (defScope sSub) := ⟨rfl, rfl, rfl, by decide +kernel, rfl, by decide +kernel, by decide +kernel⟩
theorem ok_sub (T : Tx K mg) : FnOk P w K mg base (L2.CX P w) 4 T.fLoad_sub T.dLoad_sub ["self", "other"] (spBin T.C_Load T.C_BadLoad gSub) := by
  have Gp := ok_prs (P := P) (w := w) (base := base) T
  have Gi := ok_init (P := P) (w := w) (base := base) T
  refine T.FLoad_sub.okX scSub (fun vs H Q E h => ?_) (fun cdv A outer s H vs Q E hr h => ?_)
  · obtain ⟨a, l, b, m, ns, ms, rfl, _⟩ := h
    rfl
  · obtain ⟨a, l, b, m, ns, ms, rfl, L, M, gn, gm, q1, q2⟩ := h
    obtain ⟨dx, ha, hl⟩ := id L
    have h1 : Room 1 _ := hr.mono (by decide)
    have szn := gn.1.2
    refine ⟨_, pss_one (ps_ret (pe_make T.M_Load Gi hr (by rfl) T.g_Load T.bLoad_init .nil (passes_call (takes_of rfl rfl rfl rfl) (fun _ _ _ _ h => h)) (pa_cons (pe_lc (own := [("mine", 2), ("theirs", 3)]) (g := gTup K 2 (gCons (gName 2) (gCons (gName 3) gNil))) rfl scSub.nd (pi_list (pe_meth (pv 0) T.cl_Load T.m_Load_pairs Gp h1 T.bLoad_pairs .nil (passes_call (takes_of rfl rfl rfl rfl) (fun _ _ _ _ h => h)) (pa_cons (pv 1) pa_nil))) (blkOk_by (own := [("mine", 2), ("theirs", 3)]) (N := ["self", "other", "mine", "theirs"]) (sc := defScope sSub) (by decide +kernel)) (fun _ _ _ _ _ => pg_tupK (K := K) rfl rfl (pgs_cons (pg_name (i := 2) scSub.nd rfl (.inl rfl)) (pgs_cons (pg_name (i := 3) scSub.nd rfl (.inl rfl)) pgs_nil))) (fun _ _ _ _ _ => pts_nil) (fun _ _ _ _ _ => (pe_callB (call_max2 rfl) (by rfl) T.z_max (by decide +kernel) (pa_cons pe_int (pa_cons (pe_op op_sub (pv 2) (pv 3)) pa_nil))))) pa_nil))), ?_⟩
    refine ⟨_, rfl, a, dx, _, rfl, ha, rfl, _, rfl, a, l, b, m, ns, ms, rfl, L, M, by omega, fun e => ?_, q2⟩
    intro r H1 ts nr s1 h1 et zp
    refine ⟨r, rfl, ⟨_, SqL.of h1⟩, fun D nD => ?_⟩
    refine lc_list (K := K) (a := r) (xs := ts.map V.ref) (fun j H' => Same H1 H' ∧ H' D = some (.lst (((List.zipWith gSub ns ms).take j).map V.int))) ⟨same_upd nD, upd_same⟩ (fun j H' _ h => SqL.of (h.1 _ _ h1)) ?_ ?_
    · rintro j y H' hy ⟨sj, hD⟩
      obtain ⟨t, ht, rfl⟩ : ∃ t, ts[j]? = some t ∧ y = V.ref t := by
        rw [List.getElem?_map] at hy
        cases e : ts[j]? with
        | none =>
          rw [e] at hy
          cases hy
        | some t =>
          rw [e] at hy
          exact ⟨t, rfl, (Option.some.inj hy).symm⟩
      obtain ⟨x, y, hx, hy, htt⟩ := zp j t ht
      obtain ⟨n, hn, rfl⟩ := int_of hx
      obtain ⟨z, hz, rfl⟩ := int_of hy
      refine ⟨t, _, rfl, SqT.of (sj _ _ htt), rfl, _, _, rfl, _, _, rfl, rfl, rfl, keepT ?_⟩
      refine ⟨_, rfl, _, rfl, _, _, rfl, rfl, 0, _, rfl, ?_⟩
      refine ⟨_, hD, ?_, Same.put sj nD, ?_⟩
      · rw [List.length_map, List.length_take, sizeLine_eq, List.length_zipWith]
        omega
      · rw [upd_same, zip_take hn hz, List.map_append]
        rfl
    · rintro H' ⟨sj, hD⟩
      rw [List.take_of_length_le (by rw [List.length_zipWith, List.length_map]; omega)] at hD
      intro x dx nx ndx nex
      refine make_read nx ndx nex (.inl (SqL.of hD)) (zip_good (by intro i j hi hj; unfold gSub; split <;> omega) gn gm e) fun k H'' nk xk sk Lk => ?_
      exact q1 e x k H'' ((s1.trans sj).trans sk) ((s1.trans sj).free nx) ((s1.trans sj).free nk) Lk
theorem scAnd : FnScope ["self", "other", "mine", "theirs"] ["self", "other"] (defScope sAnd) := ⟨rfl, rfl, rfl, by decide +kernel, rfl, by decide +kernel, by decide +kernel⟩
theorem ok_and (T : Tx K mg) : FnOk P w K mg base (L2.CX P w) 4 T.fLoad_and T.dLoad_and ["self", "other"] (spBin T.C_Load T.C_BadLoad gAnd) := by
  have Gp := ok_prs (P := P) (w := w) (base := base) T
  have Gi := ok_init (P := P) (w := w) (base := base) T
  refine T.FLoad_and.okX scAnd (fun vs H Q E h => ?_) (fun cdv A outer s H vs Q E hr h => ?_)
  · obtain ⟨a, l, b, m, ns, ms, rfl, _⟩ := h
    rfl
  · obtain ⟨a, l, b, m, ns, ms, rfl, L, M, gn, gm, q1, q2⟩ := h
    obtain ⟨dx, ha, hl⟩ := id L
    have h1 : Room 1 _ := hr.mono (by decide)
    have szn := gn.1.2
    refine ⟨_, pss_one (ps_ret (pe_make T.M_Load Gi hr (by rfl) T.g_Load T.bLoad_init .nil (passes_call (takes_of rfl rfl rfl rfl) (fun _ _ _ _ h => h)) (pa_cons (pe_lc (own := [("mine", 2), ("theirs", 3)]) (g := gTup K 2 (gCons (gName 2) (gCons (gName 3) gNil))) rfl scAnd.nd (pi_list (pe_meth (pv 0) T.cl_Load T.m_Load_pairs Gp h1 T.bLoad_pairs .nil (passes_call (takes_of rfl rfl rfl rfl) (fun _ _ _ _ h => h)) (pa_cons (pv 1) pa_nil))) (blkOk_by (own := [("mine", 2), ("theirs", 3)]) (N := ["self", "other", "mine", "theirs"]) (sc := defScope sAnd) (by decide +kernel)) (fun _ _ _ _ _ => pg_tupK (K := K) rfl rfl (pgs_cons (pg_name (i := 2) scAnd.nd rfl (.inl rfl)) (pgs_cons (pg_name (i := 3) scAnd.nd rfl (.inl rfl)) pgs_nil))) (fun _ _ _ _ _ => pts_nil) (fun _ _ _ _ _ => (pe_callB (call_min2 rfl) (by rfl) T.z_min (by decide +kernel) (pa_cons (pv 2) (pa_cons (pv 3) pa_nil))))) pa_nil))), ?_⟩
    refine ⟨_, rfl, a, dx, _, rfl, ha, rfl, _, rfl, a, l, b, m, ns, ms, rfl, L, M, by omega, fun e => ?_, q2⟩
    intro r H1 ts nr s1 h1 et zp
    refine ⟨r, rfl, ⟨_, SqL.of h1⟩, fun D nD => ?_⟩
    refine lc_list (K := K) (a := r) (xs := ts.map V.ref) (fun j H' => Same H1 H' ∧ H' D = some (.lst (((List.zipWith gAnd ns ms).take j).map V.int))) ⟨same_upd nD, upd_same⟩ (fun j H' _ h => SqL.of (h.1 _ _ h1)) ?_ ?_
    · rintro j y H' hy ⟨sj, hD⟩
      obtain ⟨t, ht, rfl⟩ : ∃ t, ts[j]? = some t ∧ y = V.ref t := by
        rw [List.getElem?_map] at hy
        cases e : ts[j]? with
        | none =>
          rw [e] at hy
          cases hy
        | some t =>
          rw [e] at hy
          exact ⟨t, rfl, (Option.some.inj hy).symm⟩
      obtain ⟨x, y, hx, hy, htt⟩ := zp j t ht
      obtain ⟨n, hn, rfl⟩ := int_of hx
      obtain ⟨z, hz, rfl⟩ := int_of hy
      refine ⟨t, _, rfl, SqT.of (sj _ _ htt), rfl, _, _, rfl, _, _, rfl, rfl, rfl, keepT ?_⟩
      refine ⟨_, rfl, _, rfl, _, _, rfl, ?_⟩
      refine ⟨_, hD, ?_, Same.put sj nD, ?_⟩
      · rw [List.length_map, List.length_take, sizeLine_eq, List.length_zipWith]
        omega
      · rw [upd_same, zip_take hn hz, List.map_append]
        rfl
    · rintro H' ⟨sj, hD⟩
      rw [List.take_of_length_le (by rw [List.length_zipWith, List.length_map]; omega)] at hD
      intro x dx nx ndx nex
      refine make_read nx ndx nex (.inl (SqL.of hD)) (zip_good (by intro i j hi hj; unfold gAnd; split <;> omega) gn gm e) fun k H'' nk xk sk Lk => ?_
      exact q1 e x k H'' ((s1.trans sj).trans sk) ((s1.trans sj).free nx) ((s1.trans sj).free nk) Lk
def spWth (C B : Addr) : Sp := fun vs H Q E => ∃ (a l b m : Addr) (ns ms : List Int), vs = [.ref a, .ref b] ∧ Ld C H a l ns ∧ Ld C H b m ms ∧ good ns ∧ good ms ∧
  (ns.length = ms.length → ∀ H', Same H H' → Q (.bl ((List.zipWith (fun i j : Int => decide (i ≤ j)) ns ms).all id)) H') ∧ (ns.length ≠ ms.length → E (.ref B) none H)
theorem zipb_take {g : Int → Int → Bool} {ns ms : List Int} {j : Nat} {n m : Int} (hn : ns[j]? = some n) (hm : ms[j]? = some m) : (List.zipWith g ns ms).take (j + 1) = (List.zipWith g ns ms).take j ++ [g n m] := by
  rw [List.take_add_one, List.getElem?_zipWith, hn, hm]
  rfl
theorem scWth : FnScope ["self", "other", "mine", "theirs"] ["self", "other"] (defScope sWth) := ⟨rfl, rfl, rfl, by decide +kernel, rfl, by decide +kernel, by decide +kernel⟩
theorem ok_within (T : Tx K mg) : FnOk P w K mg base (L2.CX P w) 4 T.fLoad_within T.dLoad_within ["self", "other"] (spWth T.C_Load T.C_BadLoad) := by
  have Gp := ok_prs (P := P) (w := w) (base := base) T
  refine T.FLoad_within.okX scWth (fun vs H Q E h => ?_) (fun cdv A outer s H vs Q E hr h => ?_)
  · obtain ⟨a, l, b, m, ns, ms, rfl, _⟩ := h
    rfl
  · obtain ⟨a, l, b, m, ns, ms, rfl, L, M, gn, gm, q1, q2⟩ := h
    obtain ⟨dx, ha, hl⟩ := id L
    have h1 : Room 1 _ := hr.mono (by decide)
    have szn := gn.1.2
    refine ⟨_, pss_one (ps_ret (pe_callB (cr_all rfl) (by rfl) T.z_all (by decide +kernel) (pa_cons (pe_lc (own := [("mine", 2), ("theirs", 3)]) (g := gTup K 2 (gCons (gName 2) (gCons (gName 3) gNil))) rfl scWth.nd (pi_list (pe_meth (pv 0) T.cl_Load T.m_Load_pairs Gp h1 T.bLoad_pairs .nil (passes_call (takes_of rfl rfl rfl rfl) (fun _ _ _ _ h => h)) (pa_cons (pv 1) pa_nil))) (blkOk_by (own := [("mine", 2), ("theirs", 3)]) (N := ["self", "other", "mine", "theirs"]) (sc := defScope sWth) (by decide +kernel)) (fun _ _ _ _ _ => pg_tupK (K := K) rfl rfl (pgs_cons (pg_name (i := 2) scWth.nd rfl (.inl rfl)) (pgs_cons (pg_name (i := 3) scWth.nd rfl (.inl rfl)) pgs_nil))) (fun _ _ _ _ _ => pts_nil) (fun _ _ _ _ _ => (pe_cmpR op_le (pv 2) (pv 3) (nomark _)))) pa_nil))), ?_⟩
    refine ⟨_, rfl, a, dx, _, rfl, ha, rfl, _, rfl, a, l, b, m, ns, ms, rfl, L, M, by omega, fun e => ?_, q2⟩
    intro r H1 ts nr s1 h1 et zp
    refine ⟨r, rfl, ⟨_, SqL.of h1⟩, fun D nD => ?_⟩
    refine lc_list (K := K) (a := r) (xs := ts.map V.ref) (fun j H' => Same H1 H' ∧ H' D = some (.lst (((List.zipWith (fun i j : Int => decide (i ≤ j)) ns ms).take j).map V.bl))) ⟨same_upd nD, upd_same⟩ (fun j H' _ h => SqL.of (h.1 _ _ h1)) ?_ ?_
    · rintro j y H' hy ⟨sj, hD⟩
      obtain ⟨t, ht, rfl⟩ : ∃ t, ts[j]? = some t ∧ y = V.ref t := by
        rw [List.getElem?_map] at hy
        cases e : ts[j]? with
        | none =>
          rw [e] at hy
          cases hy
        | some t =>
          rw [e] at hy
          exact ⟨t, rfl, (Option.some.inj hy).symm⟩
      obtain ⟨x, y, hx, hy, htt⟩ := zp j t ht
      obtain ⟨n, hn, rfl⟩ := int_of hx
      obtain ⟨z, hz, rfl⟩ := int_of hy
      refine ⟨t, _, rfl, SqT.of (sj _ _ htt), rfl, _, _, rfl, _, _, rfl, rfl, rfl, keepT ?_⟩
      refine ⟨_, rfl, _, rfl, _, _, rfl, rfl, ?_⟩
      refine ⟨_, hD, ?_, Same.put sj nD, ?_⟩
      · rw [List.length_map, List.length_take, sizeLine_eq, List.length_zipWith]
        omega
      · rw [upd_same, zipb_take hn hz, List.map_append]
        rfl
    · rintro H' ⟨sj, hD⟩
      rw [List.take_of_length_le (by rw [List.length_zipWith, List.length_map]; omega)] at hD
      exact ⟨D, _, rfl, SqL.of hD, q1 e H' (s1.trans sj)⟩
def gMul (i k : Int) : Int := i * k
def gFdv (i k : Int) : Int := i / k
def gMod (i k : Int) : Int := i % k
def gCap (i k : Int) : Int := if k < i then k else i
/-! ### signs with a number -/
def spOpI (C B : Addr) (lo : Int) (g : Int → Int → Int) : Sp := fun vs H Q E => ∃ (a l : Addr) (ns : List Int) (k : Int), vs = [.ref a, .int k] ∧ Ld C H a l ns ∧ good ns ∧ k < 1073741824 ∧
  (lo ≤ k → ∀ x j H', Same H H' → H x = none → H j = none → Ld C H' x j (ns.map fun n => g n k) → Q (.ref x) H') ∧ (k < lo → E (.ref B) none H)
theorem map_take {g : Int → Int} {ns : List Int} {j : Nat} {n : Int} (hn : ns[j]? = some n) : (ns.map g).take (j + 1) = (ns.map g).take j ++ [g n] := by
  rw [List.take_add_one, List.getElem?_map, hn]
  rfl
theorem map_good {g : Int → Int} (hg : ∀ i, 0 ≤ i → 0 ≤ g i) {ns : List Int} (a : good ns) : good (ns.map g) := by
  refine ⟨by rw [List.length_map]; exact a.1, fun z hz => ?_⟩
  obtain ⟨n, hn, rfl⟩ := List.mem_map.mp hz
  exact hg n (a.2 n hn)
theorem scMul : FnScope ["self", "other", "count"] ["self", "other"] (defScope sMul) := ⟨rfl, rfl, rfl, by decide +kernel, rfl, by decide +kernel, by decide +kernel⟩
theorem ok_mul (T : Tx K mg) : FnOk P w K mg base (L2.CX P w) 4 T.fLoad_mul T.dLoad_mul ["self", "other"] (spOpI T.C_Load T.C_BadLoad 0 gMul) := by
  have Gcheck_least := ok_clst (P := P) (w := w) (base := base) T
  have Gi := ok_init (P := P) (w := w) (base := base) T
  refine T.FLoad_mul.okX scMul (fun vs H Q E h => ?_) (fun cdv A outer s H vs Q E hr h => ?_)
  · obtain ⟨a, l, ns, k, rfl, _⟩ := h
    rfl
  · obtain ⟨a, l, ns, k, rfl, L, gn, kb, q1, q2⟩ := h
    obtain ⟨dx, ha, hl⟩ := id L
    have h1 : Room 1 _ := hr.mono (by decide)
    have szn := gn.1.2
    refine ⟨_, pss_cons (ps_expr (pe_call Gcheck_least h1 (by rfl) T.gcheck_least T.Fcheck_least.kp T.bcheck_least .nil (passes_call (takes_of rfl rfl rfl rfl) (fun _ _ _ _ h => h)) (pa_cons (pv 1) (pa_cons pe_int pa_nil))))
      (pss_one (ps_ret (pe_make T.M_Load Gi hr (by rfl) T.g_Load T.bLoad_init .nil (passes_call (takes_of rfl rfl rfl rfl) (fun _ _ _ _ h => h)) (pa_cons (pe_lc (own := [("count", 2)]) (g := gName 2) rfl scMul.nd (pi_list (pe_fld (pv 0) rfl)) (blkOk_by (own := [("count", 2)]) (N := ["self", "other", "count"]) (sc := defScope sMul) (by decide +kernel)) (fun _ _ _ _ _ => pg_name (i := 2) scMul.nd rfl (.inl rfl)) (fun _ _ _ _ _ => pts_nil) (fun _ _ _ _ _ => (pe_op op_mul (pv 2) (pv 1)))) pa_nil)))), ?_⟩
    refine ⟨_, rfl, k, 0, rfl, fun hk => ?_, q2⟩
    refine ⟨_, rfl, a, T.C_Load, dx, _, _, rfl, ha, T.cl_Load, T.na_Load__counts, look_c, l, rfl, ⟨_, SqL.of hl⟩, fun D nD => ?_⟩
    refine lc_list (K := K) (a := l) (xs := ns.map V.int) (fun j H' => Same H H' ∧ H' D = some (.lst (((ns.map fun n => gMul n k).take j).map V.int))) ⟨same_upd nD, upd_same⟩ (fun j H' _ h => SqL.of (h.1 _ _ hl)) ?_ ?_
    · rintro j y H' hy ⟨sj, hD⟩
      obtain ⟨n, hn, rfl⟩ := int_of hy
      refine ⟨rfl, keepT ?_⟩
      refine ⟨_, rfl, _, rfl, _, _, rfl, rfl, .inr ⟨by omega, by omega⟩, ?_⟩
      refine ⟨_, hD, ?_, Same.put sj nD, ?_⟩
      · rw [List.length_map, List.length_take, sizeLine_eq, List.length_map]
        omega
      · rw [upd_same, map_take hn, List.map_append]
        rfl
    · rintro H' ⟨sj, hD⟩
      rw [List.take_of_length_le (by rw [List.length_map, List.length_map]; exact Nat.le_refl _)] at hD
      intro x dx nx ndx nex
      refine make_read nx ndx nex (.inl (SqL.of hD)) (map_good (fun i hi => by unfold gMul; exact Int.mul_nonneg hi hk) gn) fun j H'' nj xj sj2 Lj => ?_
      exact q1 hk x j H'' (sj.trans sj2) (sj.free nx) (sj.free nj) Lj
theorem scFdv : FnScope ["self", "other", "count"] ["self", "other"] (defScope sFdv) := ⟨rfl, rfl, rfl, by decide +kernel, rfl, by decide +kernel, by decide +kernel⟩
theorem ok_fdv (T : Tx K mg) : FnOk P w K mg base (L2.CX P w) 4 T.fLoad_floordiv T.dLoad_floordiv ["self", "other"] (spOpI T.C_Load T.C_BadLoad 1 gFdv) := by
  have Gcheck_least := ok_clst (P := P) (w := w) (base := base) T
  have Gi := ok_init (P := P) (w := w) (base := base) T
  refine T.FLoad_floordiv.okX scFdv (fun vs H Q E h => ?_) (fun cdv A outer s H vs Q E hr h => ?_)
  · obtain ⟨a, l, ns, k, rfl, _⟩ := h
    rfl
  · obtain ⟨a, l, ns, k, rfl, L, gn, kb, q1, q2⟩ := h
    obtain ⟨dx, ha, hl⟩ := id L
    have h1 : Room 1 _ := hr.mono (by decide)
    have szn := gn.1.2
    refine ⟨_, pss_cons (ps_expr (pe_call Gcheck_least h1 (by rfl) T.gcheck_least T.Fcheck_least.kp T.bcheck_least .nil (passes_call (takes_of rfl rfl rfl rfl) (fun _ _ _ _ h => h)) (pa_cons (pv 1) (pa_cons pe_int pa_nil))))
      (pss_one (ps_ret (pe_make T.M_Load Gi hr (by rfl) T.g_Load T.bLoad_init .nil (passes_call (takes_of rfl rfl rfl rfl) (fun _ _ _ _ h => h)) (pa_cons (pe_lc (own := [("count", 2)]) (g := gName 2) rfl scFdv.nd (pi_list (pe_fld (pv 0) rfl)) (blkOk_by (own := [("count", 2)]) (N := ["self", "other", "count"]) (sc := defScope sFdv) (by decide +kernel)) (fun _ _ _ _ _ => pg_name (i := 2) scFdv.nd rfl (.inl rfl)) (fun _ _ _ _ _ => pts_nil) (fun _ _ _ _ _ => (pe_op op_fdiv (pv 2) (pv 1)))) pa_nil)))), ?_⟩
    refine ⟨_, rfl, k, 1, rfl, fun hk => ?_, q2⟩
    refine ⟨_, rfl, a, T.C_Load, dx, _, _, rfl, ha, T.cl_Load, T.na_Load__counts, look_c, l, rfl, ⟨_, SqL.of hl⟩, fun D nD => ?_⟩
    refine lc_list (K := K) (a := l) (xs := ns.map V.int) (fun j H' => Same H H' ∧ H' D = some (.lst (((ns.map fun n => gFdv n k).take j).map V.int))) ⟨same_upd nD, upd_same⟩ (fun j H' _ h => SqL.of (h.1 _ _ hl)) ?_ ?_
    · rintro j y H' hy ⟨sj, hD⟩
      obtain ⟨n, hn, rfl⟩ := int_of hy
      refine ⟨rfl, keepT ?_⟩
      refine ⟨_, rfl, _, rfl, _, _, rfl, rfl, ⟨by omega, by omega⟩, ?_⟩
      refine ⟨_, hD, ?_, Same.put sj nD, ?_⟩
      · rw [List.length_map, List.length_take, sizeLine_eq, List.length_map]
        omega
      · rw [upd_same, map_take hn, List.map_append]
        rfl
    · rintro H' ⟨sj, hD⟩
      rw [List.take_of_length_le (by rw [List.length_map, List.length_map]; exact Nat.le_refl _)] at hD
      intro x dx nx ndx nex
      refine make_read nx ndx nex (.inl (SqL.of hD)) (map_good (fun i hi => by unfold gFdv; exact Int.ediv_nonneg hi (by omega)) gn) fun j H'' nj xj sj2 Lj => ?_
      exact q1 hk x j H'' (sj.trans sj2) (sj.free nx) (sj.free nj) Lj
theorem scMod : FnScope ["self", "other", "count"] ["self", "other"] (defScope sMod) := ⟨rfl, rfl, rfl, by decide +kernel, rfl, by decide +kernel, by decide +kernel⟩
theorem ok_mod (T : Tx K mg) : FnOk P w K mg base (L2.CX P w) 4 T.fLoad_mod T.dLoad_mod ["self", "other"] (spOpI T.C_Load T.C_BadLoad 1 gMod) := by
  have Gcheck_least := ok_clst (P := P) (w := w) (base := base) T
  have Gi := ok_init (P := P) (w := w) (base := base) T
  refine T.FLoad_mod.okX scMod (fun vs H Q E h => ?_) (fun cdv A outer s H vs Q E hr h => ?_)
  · obtain ⟨a, l, ns, k, rfl, _⟩ := h
    rfl
  · obtain ⟨a, l, ns, k, rfl, L, gn, kb, q1, q2⟩ := h
    obtain ⟨dx, ha, hl⟩ := id L
    have h1 : Room 1 _ := hr.mono (by decide)
    have szn := gn.1.2
    refine ⟨_, pss_cons (ps_expr (pe_call Gcheck_least h1 (by rfl) T.gcheck_least T.Fcheck_least.kp T.bcheck_least .nil (passes_call (takes_of rfl rfl rfl rfl) (fun _ _ _ _ h => h)) (pa_cons (pv 1) (pa_cons pe_int pa_nil))))
      (pss_one (ps_ret (pe_make T.M_Load Gi hr (by rfl) T.g_Load T.bLoad_init .nil (passes_call (takes_of rfl rfl rfl rfl) (fun _ _ _ _ h => h)) (pa_cons (pe_lc (own := [("count", 2)]) (g := gName 2) rfl scMod.nd (pi_list (pe_fld (pv 0) rfl)) (blkOk_by (own := [("count", 2)]) (N := ["self", "other", "count"]) (sc := defScope sMod) (by decide +kernel)) (fun _ _ _ _ _ => pg_name (i := 2) scMod.nd rfl (.inl rfl)) (fun _ _ _ _ _ => pts_nil) (fun _ _ _ _ _ => (pe_op op_mod (pv 2) (pv 1)))) pa_nil)))), ?_⟩
    refine ⟨_, rfl, k, 1, rfl, fun hk => ?_, q2⟩
    refine ⟨_, rfl, a, T.C_Load, dx, _, _, rfl, ha, T.cl_Load, T.na_Load__counts, look_c, l, rfl, ⟨_, SqL.of hl⟩, fun D nD => ?_⟩
    refine lc_list (K := K) (a := l) (xs := ns.map V.int) (fun j H' => Same H H' ∧ H' D = some (.lst (((ns.map fun n => gMod n k).take j).map V.int))) ⟨same_upd nD, upd_same⟩ (fun j H' _ h => SqL.of (h.1 _ _ hl)) ?_ ?_
    · rintro j y H' hy ⟨sj, hD⟩
      obtain ⟨n, hn, rfl⟩ := int_of hy
      refine ⟨rfl, keepT ?_⟩
      refine ⟨_, rfl, _, rfl, _, _, rfl, rfl, (show 0 < k by omega), ?_⟩
      refine ⟨_, hD, ?_, Same.put sj nD, ?_⟩
      · rw [List.length_map, List.length_take, sizeLine_eq, List.length_map]
        omega
      · rw [upd_same, map_take hn, List.map_append]
        rfl
    · rintro H' ⟨sj, hD⟩
      rw [List.take_of_length_le (by rw [List.length_map, List.length_map]; exact Nat.le_refl _)] at hD
      intro x dx nx ndx nex
      refine make_read nx ndx nex (.inl (SqL.of hD)) (map_good (fun i hi => by unfold gMod; exact Int.emod_nonneg _ (by omega)) gn) fun j H'' nj xj sj2 Lj => ?_
      exact q1 hk x j H'' (sj.trans sj2) (sj.free nx) (sj.free nj) Lj
theorem scCap : FnScope ["self", "width", "count"] ["self", "width"] (defScope sCap) := ⟨rfl, rfl, rfl, by decide +kernel, rfl, by decide +kernel, by decide +kernel⟩
theorem ok_cap (T : Tx K mg) : FnOk P w K mg base (L2.CX P w) 4 T.fLoad_capped T.dLoad_capped ["self", "width"] (spOpI T.C_Load T.C_BadLoad 0 gCap) := by
  have Gcheck_least := ok_clst (P := P) (w := w) (base := base) T
  have Gi := ok_init (P := P) (w := w) (base := base) T
  refine T.FLoad_capped.okX scCap (fun vs H Q E h => ?_) (fun cdv A outer s H vs Q E hr h => ?_)
  · obtain ⟨a, l, ns, k, rfl, _⟩ := h
    rfl
  · obtain ⟨a, l, ns, k, rfl, L, gn, kb, q1, q2⟩ := h
    obtain ⟨dx, ha, hl⟩ := id L
    have h1 : Room 1 _ := hr.mono (by decide)
    have szn := gn.1.2
    refine ⟨_, pss_cons (ps_expr (pe_call Gcheck_least h1 (by rfl) T.gcheck_least T.Fcheck_least.kp T.bcheck_least .nil (passes_call (takes_of rfl rfl rfl rfl) (fun _ _ _ _ h => h)) (pa_cons (pv 1) (pa_cons pe_int pa_nil))))
      (pss_one (ps_ret (pe_make T.M_Load Gi hr (by rfl) T.g_Load T.bLoad_init .nil (passes_call (takes_of rfl rfl rfl rfl) (fun _ _ _ _ h => h)) (pa_cons (pe_lc (own := [("count", 2)]) (g := gName 2) rfl scCap.nd (pi_list (pe_fld (pv 0) rfl)) (blkOk_by (own := [("count", 2)]) (N := ["self", "width", "count"]) (sc := defScope sCap) (by decide +kernel)) (fun _ _ _ _ _ => pg_name (i := 2) scCap.nd rfl (.inl rfl)) (fun _ _ _ _ _ => pts_nil) (fun _ _ _ _ _ => (pe_callB (call_min2 rfl) (by rfl) T.z_min (by decide +kernel) (pa_cons (pv 2) (pa_cons (pv 1) pa_nil))))) pa_nil)))), ?_⟩
    refine ⟨_, rfl, k, 0, rfl, fun hk => ?_, q2⟩
    refine ⟨_, rfl, a, T.C_Load, dx, _, _, rfl, ha, T.cl_Load, T.na_Load__counts, look_c, l, rfl, ⟨_, SqL.of hl⟩, fun D nD => ?_⟩
    refine lc_list (K := K) (a := l) (xs := ns.map V.int) (fun j H' => Same H H' ∧ H' D = some (.lst (((ns.map fun n => gCap n k).take j).map V.int))) ⟨same_upd nD, upd_same⟩ (fun j H' _ h => SqL.of (h.1 _ _ hl)) ?_ ?_
    · rintro j y H' hy ⟨sj, hD⟩
      obtain ⟨n, hn, rfl⟩ := int_of hy
      refine ⟨rfl, keepT ?_⟩
      refine ⟨_, rfl, _, rfl, _, _, rfl, ?_⟩
      refine ⟨_, hD, ?_, Same.put sj nD, ?_⟩
      · rw [List.length_map, List.length_take, sizeLine_eq, List.length_map]
        omega
      · rw [upd_same, map_take hn, List.map_append]
        rfl
    · rintro H' ⟨sj, hD⟩
      rw [List.take_of_length_le (by rw [List.length_map, List.length_map]; exact Nat.le_refl _)] at hD
      intro x dx nx ndx nex
      refine make_read nx ndx nex (.inl (SqL.of hD)) (map_good (fun i hi => by unfold gCap; split <;> omega) gn) fun j H'' nj xj sj2 Lj => ?_
      exact q1 hk x j H'' (sj.trans sj2) (sj.free nx) (sj.free nj) Lj
theorem scRmul : FnScope ["self", "other"] ["self", "other"] (defScope sRmul) := ⟨rfl, rfl, rfl, by decide +kernel, rfl, by decide +kernel, by decide +kernel⟩
theorem ok_rmul (T : Tx K mg) : FnOk P w K mg base (L2.CX P w) 5 T.fLoad_rmul T.dLoad_rmul ["self", "other"] (spOpI T.C_Load T.C_BadLoad 0 gMul) := by
  have Gm := ok_mul (P := P) (w := w) (base := base) T
  refine T.FLoad_rmul.okX scRmul (fun vs H Q E h => ?_) (fun cdv A outer s H vs Q E hr h => ?_)
  · obtain ⟨a, l, ns, k, rfl, _⟩ := h
    rfl
  · obtain ⟨a, l, ns, k, rfl, L, gn, kb, q1, q2⟩ := h
    obtain ⟨dx, ha, hl⟩ := id L
    refine ⟨_, pss_one (ps_ret (pe_op (bin_ownI (E := E) (name := "__mul__") (nameR := "__rmul__") (by decide +kernel) (by decide +kernel) T.m_Load_mul T.sf_Load T.m_Load_rmul.at_ (.inr ⟨_, rfl⟩) T.ti_mul T.ti_rmul T.si_Load Gm hr T.bLoad_mul (fun σ pins H s e s2 I c => (passes_call (takes_of rfl rfl rfl rfl) (fun _ _ _ _ h => h)) pins σ H s e s2 I c)) (pv 0) (pv 1))), ?_⟩
    exact ⟨_, rfl, _, rfl, a, dx, _, k, rfl, rfl, ha, a, l, ns, k, rfl, L, gn, kb, fun hk x j H' s x0 j0 L' => ⟨x, rfl, q1 hk x j H' s x0 j0 L'⟩, q2⟩
end
end D2

namespace D2
open PySem PySem.Spec PyProof.Rows L2 KO
theorem ix_listK {X : Cx} {K : PySem.W.Frag} (h : X.K = K) : IxR X (rIxL K) := by
  subst h
  exact ix_list
section
variable {P : Program} {w : World} {K : PySem.W.Frag} {mg : Str → Option Value} {base : Heap}
/-! ### a load shows a list -/
def spIsl (C : Addr) : Sp := fun vs H Q _ => ∃ (x k c : Addr) (ns : List Int), vs = [.ref x, .ref c] ∧ Ld C H x k ns ∧ H c = some (.lst (ns.map V.int)) ∧ ns.length ≤ 60 ∧ Q (.bl true) H
theorem scIsl : FnScope ["_law_got", "_law_counts", "_law_k"] ["_law_got", "_law_counts"] (defScope sIsl) := ⟨rfl, rfl, rfl, by decide +kernel, rfl, by decide +kernel, by decide +kernel⟩
theorem ok_isl (T : Tx K mg) : FnOk P w K mg base CX0 5 T.f_law_is_load T.d_law_is_load ["_law_got", "_law_counts"] (spIsl T.C_Load) := by
  have Glen := ok_len (P := P) (w := w) (base := base) T
  have Gget := ok_get (P := P) (w := w) (base := base) T
  have Gs := (ok_same (P := P) (w := w) (base := base) T 2).mono (k := 4) (by decide)
  refine T.F_law_is_load.ok scIsl (fun vs H Q E h => ?_) (fun cdv A outer s H vs Q E hr h => ?_)
  · obtain ⟨x, k, c, ns, rfl, _⟩ := h
    rfl
  · obtain ⟨x, k, c, ns, rfl, Lx, hc, hn, q⟩ := h
    obtain ⟨dx, hx, hk⟩ := id Lx
    have h2 : Room 2 _ := hr.mono (by decide)
    have h3 : Room 3 _ := hr.mono (by decide)
    refine ⟨_, pss_cons (ps_if (PW.pt (pw_or (pt_not (pt_val (pe_callB call_isi (by rfl) T.z_isinstance (by decide +kernel) (pa_cons (pv 0) (pa_cons (pe_glob (v := .ref T.C_Load) rfl T.g_Load rfl) pa_nil))))) (pw_or1 (pt_cmpR op_ne (pe_callB (len_own T.m_Load_len Glen h2 T.bLoad_len (fun σ => at0)) (by rfl) T.z_len (by decide +kernel) (pa_cons (pv 0) pa_nil)) (pe_callB call_len_seq (by rfl) T.z_len (by decide +kernel) (pa_cons (pv 1) pa_nil)) (nomark _))))) (pss_one ps_never) pss_nil)
      (pss_cons (ps_for PassesOwn.never rfl (pi_range1 (by rfl) T.z_range (pa_cons (pe_callB call_len_seq (by rfl) T.z_len (by decide +kernel) (pa_cons (pv 1) pa_nil)) pa_nil)) (pg_name (i := 2) scIsl.nd rfl (.inl rfl))
        (pss_one (ps_if (pt_not (pt_val (pe_call Gs hr (by rfl) T.g_law_same T.F_law_same.kp T.b_law_same .nil pass0 (pa_cons (pe_subOwn (E := fun _ => E0) T.m_Load_getitem T.fn_Load_getitem Gget h3 T.bLoad_getitem (fun σ => atL) (pv 0) (pv 2)) (pa_cons (pe_ix ix_list (pv 1) (pv 2) (fun _ _ => rfl)) pa_nil))))) (pss_one ps_never) pss_nil)))
      (pss_one (ps_ret pe_bl))), ?_⟩
    refine ⟨_, rfl, _, .ref T.C_Load, .ref T.C_Load, .ref T.C_Load, true, rfl, .own _, .base (.ins hx T.cl_Load T.ic_Load T.sp_class T.tk_class T.mr_Load), kit_own, _, rfl, iteF ?_⟩
    refine ⟨_, rfl, x, dx, _, rfl, hx, x, k, ns, rfl, Lx, ns.length, rfl, by omega, by omega, _, rfl, c, _, rfl, .inl (SqL.of hc), rfl, _, rfl, iteND (by rw [List.length_map]) ?_⟩
    refine ⟨_, rfl, c, _, rfl, .inl (SqL.of hc), _, rfl, by omega, by rw [List.length_map]; omega, for_range (lo := 0) (n := (((ns.map V.int).length : Nat) : Int).toNat) (fun _ σ H' => (∃ v2, σ = [some (.ref x), some (.ref c), v2]) ∧ H' = H) ⟨⟨none, rfl⟩, rfl⟩ ?_ ?_⟩
    · rintro i σ H' hi ⟨⟨v2, rfl⟩, rfl⟩
      have hin : inL ns (0 + (i : Int)) := ⟨by omega, by rw [List.length_map] at hi; omega⟩
      obtain ⟨z, hz⟩ := in_get hin
      refine ⟨_, rfl, _, rfl, x, dx, _, rfl, hx, x, k, ns, _, rfl, Lx, fun _ z' hz' => ?_, fun h => (h hin).elim⟩
      obtain rfl : z = z' := Option.some.inj (hz.symm.trans hz')
      exact ⟨_, rfl, _, rfl, c, _, _, _, rfl, rfl, SqL.of hc, at_of hin hz, _, _, rfl, .inl ⟨z, rfl, rfl⟩, _, rfl, iteF ⟨⟨_, rfl⟩, rfl⟩⟩
    · rintro σ H' ⟨⟨v2, rfl⟩, rfl⟩
      exact q
/-! ### an int; a number -/
def spInt : Sp := fun vs H Q _ => ∃ i : Int, vs = [.int i] ∧ Q (.bl true) H
theorem scInt : FnScope ["_law_got"] ["_law_got"] (defScope sInt) := ⟨rfl, rfl, rfl, by decide +kernel, rfl, by decide +kernel, by decide +kernel⟩
theorem ok_int (T : Tx K mg) : FnOk P w K mg base CX0 1 T.f_law_int T.d_law_int ["_law_got"] spInt := by
  refine T.F_law_int.ok scInt (fun vs H Q E h => ?_) (fun cdv A outer s H vs Q E hr h => ?_)
  · obtain ⟨i, rfl, _⟩ := h
    rfl
  · obtain ⟨i, rfl, q⟩ := h
    refine ⟨_, pss_one (ps_ret (pe_and (pe_callB call_isi (by rfl) T.z_isinstance (by decide +kernel) (pa_cons (pv 0) (pa_cons (pe_bltn (v := .ty "int") (by rfl) T.z_int (by decide +kernel) rfl) pa_nil))) (pe_one (pe_not (pe_callB call_isi (by rfl) T.z_isinstance (by decide +kernel) (pa_cons (pv 0) (pa_cons (pe_bltn (v := .ty "bool") (by rfl) T.z_bool (by decide +kernel) rfl) pa_nil))))))), ?_⟩
    exact ⟨_, rfl, _, _, _, _, _, rfl, .ty _, (.base (.int i)), kit_ty (by decide +kernel), ⟨_, rfl, iteT ⟨_, rfl, _, _, _, _, false, rfl, .ty _, (.base (.int i)), kit_ty (by decide +kernel), ⟨_, rfl, q⟩⟩⟩⟩
def spNum : Sp := fun vs H Q _ => ∃ (p : Addr) (m : Int), vs = [.ref p, .int m] ∧ Pool H p ∧ 0 ≤ m ∧ m ≤ 1000 ∧ ∀ H' (n : Int), 0 ≤ n → n ≤ 1000000000 → Pool H' p → Eqp p H H' → Q (.int n) H'
theorem scNum : FnScope ["_law_pool_here", "_law_limit"] ["_law_pool_here", "_law_limit"] (defScope sNum) := ⟨rfl, rfl, rfl, by decide +kernel, rfl, by decide +kernel, by decide +kernel⟩
theorem ok_num (T : Tx K mg) : FnOk P w K mg base CX0 2 T.f_law_number T.d_law_number ["_law_pool_here", "_law_limit"] spNum := by
  have G_law_take := ok_take (P := P) (w := w) (base := base) T
  refine T.F_law_number.ok scNum (fun vs H Q E h => ?_) (fun cdv A outer s H vs Q E hr h => ?_)
  · obtain ⟨p, m, rfl, _⟩ := h
    rfl
  · obtain ⟨p, m, rfl, hp, m0, m1, q⟩ := h
    refine ⟨_, pss_cons (ps_if (pt_cmpR op_eq (pe_call G_law_take hr (by rfl) T.g_law_take T.F_law_take.kp T.b_law_take .nil pass0 (pa_cons (pv 0) (pa_cons pe_int pa_nil))) pe_int (nomark _)) (pss_one (ps_ret (pe_call G_law_take hr (by rfl) T.g_law_take T.F_law_take.kp T.b_law_take .nil pass0 (pa_cons (pv 0) (pa_cons (pe_op op_add (pe_op op_pow pe_int pe_int) pe_int) pa_nil))))) (pss_nil))
      (pss_one (ps_ret (pe_call G_law_take hr (by rfl) T.g_law_take T.F_law_take.kp T.b_law_take .nil pass0 (pa_cons (pv 0) (pa_cons (pe_op op_add (pv 1) pe_int) pa_nil))))), ?_⟩
    refine ⟨_, rfl, p, _, rfl, hp, by decide, by decide, fun H1 r _ _ hp1 k1 => ⟨rfl, _, rfl, iteDs (fun _ => ?_) (fun _ => ?_)⟩⟩
    · refine ⟨_, rfl, _, _, rfl, rfl, ⟨by decide, by decide, by decide⟩, _, _, rfl, rfl, p, _, rfl, hp1, by decide, by decide, fun H2 r2 h0 h1 hp2 k2 => ?_⟩
      have e9 : (10 : Int) ^ Int.toNat 9 = 1000000000 := by decide
      exact q _ _ (by omega) (by omega) hp2 (Eqp.trans k1 k2)
    · refine ⟨_, rfl, _, rfl, _, _, rfl, rfl, p, _, rfl, hp1, by omega, by omega, fun H2 r2 h0 h1 hp2 k2 => ?_⟩
      exact q _ _ (by omega) (by omega) hp2 (Eqp.trans k1 k2)
/-! ### a sign by its number -/
def gv (v : Int) : Int → Int → Int := if v = 0 then gMul else if v = 1 then gMul else if v = 2 then gCap else if v = 3 then gFdv else gMod
def lov (v : Int) : Int := if v = 0 then 0 else if v = 1 then 0 else if v = 2 then 0 else if v = 3 then 1 else 1
def spMade (C B : Addr) : Sp := fun vs H Q E => ∃ (v : Int) (a l : Addr) (ns : List Int) (k : Int), vs = [.int v, .ref a, .int k] ∧ Ld C H a l ns ∧ good ns ∧ k < 1073741824 ∧
  (lov v ≤ k → ∀ x j H', Same H H' → H x = none → H j = none → Ld C H' x j (ns.map fun n => gv v n k) → Q (.ref x) H') ∧ (k < lov v → E (.ref B) none H)
theorem scMade : FnScope ["_law_way", "_law_load", "_law_number_here"] ["_law_way", "_law_load", "_law_number_here"] (defScope sMade) := ⟨rfl, rfl, rfl, by decide +kernel, rfl, by decide +kernel, by decide +kernel⟩
theorem ok_made (T : Tx K mg) : FnOk P w K mg base (L2.CX P w) 6 T.f_law_made T.d_law_made ["_law_way", "_law_load", "_law_number_here"] (spMade T.C_Load T.C_BadLoad) := by
  have Gmul := ok_mul (P := P) (w := w) (base := base) T
  have Gfdv := ok_fdv (P := P) (w := w) (base := base) T
  have Gmod := ok_mod (P := P) (w := w) (base := base) T
  have Gcap := ok_cap (P := P) (w := w) (base := base) T
  have Grmul := ok_rmul (P := P) (w := w) (base := base) T
  refine T.F_law_made.okX scMade (fun vs H Q E h => ?_) (fun cdv A outer s H vs Q E hr h => ?_)
  · obtain ⟨v, a, l, ns, k, rfl, _⟩ := h
    rfl
  · obtain ⟨v, a, l, ns, k, rfl, L, gn, kb, q1, q2⟩ := h
    obtain ⟨dx, ha, hl⟩ := id L
    have h4 : Room 4 _ := hr.mono (by decide)
    have h5 : Room 5 _ := hr.mono (by decide)
    refine ⟨_, pss_cons (ps_if (pt_cmpR op_eq (pv 0) pe_int (nomark _)) (pss_one (ps_ret (pe_op (bin_ownI (E := E) (name := "__mul__") (nameR := "__rmul__") (by decide +kernel) (by decide +kernel) T.m_Load_mul T.sf_Load T.m_Load_rmul.at_ (.inr ⟨_, rfl⟩) T.ti_mul T.ti_rmul T.si_Load Gmul h4 T.bLoad_mul (fun σ pins H s e s2 I c => passes_call (takes_of rfl rfl rfl rfl) (fun _ _ _ _ h => h) pins σ H s e s2 I c)) (pv 1) (pv 2)))) pss_nil)
      (pss_cons (ps_if (pt_cmpR op_eq (pv 0) pe_int (nomark _)) (pss_one (ps_ret (pe_op (rmul_own (E := E) T.m_Load_mul T.m_Load_rmul T.sf_Load T.sl_Load Grmul h5 T.bLoad_rmul (fun σ pins H s e s2 I c => passes_call (takes_of rfl rfl rfl rfl) (fun _ _ _ _ h => h) pins σ H s e s2 I c)) (pv 2) (pv 1)))) pss_nil)
      (pss_cons (ps_if (pt_cmpR op_eq (pv 0) pe_int (nomark _)) (pss_one (ps_ret (pe_meth (pv 1) T.cl_Load T.m_Load_capped Gcap h4 T.bLoad_capped .nil (passes_call (takes_of rfl rfl rfl rfl) (fun _ _ _ _ h => h)) (pa_cons (pv 2) pa_nil)))) pss_nil)
      (pss_cons (ps_if (pt_cmpR op_eq (pv 0) pe_int (nomark _)) (pss_one (ps_ret (pe_op (bin_ownI (E := E) (name := "__floordiv__") (nameR := "__rfloordiv__") (by decide +kernel) (by decide +kernel) T.m_Load_floordiv T.sf_Load T.nr_fdv (.inl rfl) T.ti_fdv T.ti_rfdv T.si_Load Gfdv h4 T.bLoad_floordiv (fun σ pins H s e s2 I c => passes_call (takes_of rfl rfl rfl rfl) (fun _ _ _ _ h => h) pins σ H s e s2 I c)) (pv 1) (pv 2)))) pss_nil)
      (pss_one (ps_ret (pe_op (bin_ownI (E := E) (name := "__mod__") (nameR := "__rmod__") (by decide +kernel) (by decide +kernel) T.m_Load_mod T.sf_Load T.nr_mod (.inl rfl) T.ti_mod T.ti_rmod T.si_Load Gmod h4 T.bLoad_mod (fun σ pins H s e s2 I c => passes_call (takes_of rfl rfl rfl rfl) (fun _ _ _ _ h => h) pins σ H s e s2 I c)) (pv 1) (pv 2))))))), ?_⟩
    refine ⟨_, rfl, rfl, _, rfl, iteDs (fun w0 => by
      have vv : v = 0 := V.int.inj w0
      subst vv
      exact ⟨_, rfl, _, rfl, a, dx, _, k, rfl, rfl, ha, a, l, ns, k, rfl, L, gn, kb, fun hk x j H' s x0 j0 L' => ⟨x, rfl, q1 hk x j H' s x0 j0 L'⟩, q2⟩) (fun w0 => ⟨_, rfl, rfl, _, rfl, iteDs (fun w1 => by
      have vv : v = 1 := V.int.inj w1
      subst vv
      exact ⟨_, rfl, _, rfl, a, dx, _, k, rfl, rfl, ha, a, l, ns, k, rfl, L, gn, kb, fun hk x j H' s x0 j0 L' => ⟨x, rfl, q1 hk x j H' s x0 j0 L'⟩, q2⟩) (fun w1 => ⟨_, rfl, rfl, _, rfl, iteDs (fun w2 => by
      have vv : v = 2 := V.int.inj w2
      subst vv
      exact ⟨_, rfl, a, dx, _, rfl, ha, rfl, _, rfl, a, l, ns, k, rfl, L, gn, kb, fun hk x j H' s x0 j0 L' => q1 hk x j H' s x0 j0 L', q2⟩) (fun w2 => ⟨_, rfl, rfl, _, rfl, iteDs (fun w3 => by
      have vv : v = 3 := V.int.inj w3
      subst vv
      exact ⟨_, rfl, _, rfl, a, dx, _, k, rfl, rfl, ha, a, l, ns, k, rfl, L, gn, kb, fun hk x j H' s x0 j0 L' => ⟨x, rfl, q1 hk x j H' s x0 j0 L'⟩, q2⟩) (fun w3 => ?_)⟩)⟩)⟩)⟩
    have u0 : v ≠ 0 := fun h => w0 (by rw [h])
    have u1 : v ≠ 1 := fun h => w1 (by rw [h])
    have u2 : v ≠ 2 := fun h => w2 (by rw [h])
    have u3 : v ≠ 3 := fun h => w3 (by rw [h])
    have eg : gv v = gMod := by unfold gv; rw [if_neg u0, if_neg u1, if_neg u2, if_neg u3]
    have el : lov v = 1 := by unfold lov; rw [if_neg u0, if_neg u1, if_neg u2, if_neg u3]
    rw [eg, el] at q1
    rw [el] at q2
    exact ⟨_, rfl, _, rfl, a, dx, _, k, rfl, rfl, ha, a, l, ns, k, rfl, L, gn, kb, fun hk x j H' s x0 j0 L' => ⟨x, rfl, q1 hk x j H' s x0 j0 L'⟩, q2⟩
/-! ### refused -/
def spRf (C : Addr) : Sp := fun vs H Q _ => ∃ (v : Int) (a l : Addr) (ns : List Int) (k : Int), vs = [.int v, .ref a, .int k] ∧ Ld C H a l ns ∧ good ns ∧ k < lov v ∧ Q (.bl true) H
theorem scRf : FnScope ["_law_way", "_law_load", "_law_number_here", "_law_right", "_law_got", "e"] ["_law_way", "_law_load", "_law_number_here"] (defScope sRf) := ⟨rfl, rfl, rfl, by decide +kernel, rfl, by decide +kernel, by decide +kernel⟩
theorem lov_le (v : Int) : lov v ≤ 1 := by
  unfold lov
  split
  · decide
  · split
    · decide
    · split
      · decide
      · split <;> decide
theorem ok_rf (T : Tx K mg) : FnOk P w K mg base CX0 8 T.f_law_refuses T.d_law_refuses ["_law_way", "_law_load", "_law_number_here"] (spRf T.C_Load) := by
  have G := ok_made (P := P) (w := w) (base := base) T
  refine T.F_law_refuses.ok scRf (fun vs H Q E h => ?_) (fun cdv A outer s H vs Q E hr h => ?_)
  · obtain ⟨v, a, l, ns, k, rfl, _⟩ := h
    rfl
  · obtain ⟨v, a, l, ns, k, rfl, L, gn, hk, q⟩ := h
    have h6 : Room 6 _ := hr.mono (by decide)
    have := lov_le v
    refine ⟨_, pss_cons (ps_set (i := 3) scRf.nd rfl (.inl rfl) pe_bl)
      (pss_cons (ps_try_as (i := 5) (tb := fun W => tAsg (tCallS (spMade T.C_Load T.C_BadLoad) (WE W) (tCons (tVar 0) (tCons (tVar 1) (tCons (tVar 2) tNil)))) (gName 4)) (Wout := fun _ _ _ _ => False) rfl rfl scRf.nd rfl rfl ⟨rfl, by decide, .inl T.g_DepotError⟩ takes0
          (fun W pn xe tk _ => pss_one (ps_set (i := 4) scRf.nd rfl (.inl rfl) (by exact (pe_callS G h6 rfl T.g_law_made T.F_law_made.kp T.b_law_made (fun σ => passAt tk σ) (by exact (pa_cons (pv 0) (pa_cons (pv 1) (pa_cons (pv 2) pa_nil))))))))
          (fun a oe cls d pn hz hf => pss_one (ps_set (i := 3) scRf.nd rfl (.inl rfl) (pe_and (pe_callB (call_isX (excC T) hz hf) (by rfl) T.z_isinstance (by decide +kernel) (pa_cons (pv 5) (pa_cons (pe_glob (v := .ref T.C_BadLoad) rfl T.g_BadLoad rfl) pa_nil)))
            (pe_and (pe_callB (call_isX (excC T) hz hf) (by rfl) T.z_isinstance (by decide +kernel) (pa_cons (pv 5) (pa_cons (pe_bltn (v := .ty "ValueError") (by rfl) T.z_ValueError (by decide +kernel) rfl) pa_nil)))
            (pe_one (pe_not (pe_callB (call_isX (excC T) hz hf) (by rfl) T.z_isinstance (by decide +kernel) (pa_cons (pv 5) (pa_cons (pe_glob (v := .ref T.C_BadNumber) rfl T.g_BadNumber rfl) pa_nil))))))))))
      (pss_one (ps_ret (pv 3)))), ?_⟩
    refine ⟨_, rfl, _, rfl, _, rfl, v, a, l, ns, k, rfl, L, gn, by omega, fun e => by omega, fun _ => ⟨true, exmB T, fun _ a0 ha0 => ?_, fun q => Bool.noConfusion q⟩⟩
    refine ⟨_, rfl, rfl, rfl, _, _, true, rfl, fun u r => r, kit_own, true, rfl, iteT ?_⟩
    refine ⟨_, rfl, rfl, rfl, _, _, true, rfl, fun u r => r, kit1 T, true, rfl, iteT ?_⟩
    refine ⟨_, rfl, rfl, rfl, _, _, false, rfl, fun u r => r, kit2 T, false, rfl, ?_⟩
    exact ⟨_, rfl, q⟩
end
end D2

namespace D2
open PySem PySem.Spec PyProof.Rows L2 KO
section
variable {P : Program} {w : World} {K : PySem.W.Frag} {mg : Str → Option Value} {base : Heap}
/-! ### quotients and rests -/
def spShd (C : Addr) : Sp := fun vs H Q _ => ∃ (a l c : Addr) (ns : List Int) (d : Int), vs = [.ref a, .ref c, .int d] ∧ Ld C H a l ns ∧ H c = some (.lst (ns.map V.int)) ∧ good ns ∧ 1 ≤ d ∧ d < 1073741824 ∧ ∀ H', Same H H' → Q (.bl true) H'
theorem scShd : FnScope ["_law_load", "_law_counts", "_law_divisor", "_law_quotients", "_law_rests", "_law_k"] ["_law_load", "_law_counts", "_law_divisor"] (defScope sShd) := ⟨rfl, rfl, rfl, by decide +kernel, rfl, by decide +kernel, by decide +kernel⟩
theorem inL_map {ns : List Int} {g : Int → Int} {i : Int} (h : inL ns i) : inL (ns.map g) i := ⟨h.1, by rw [List.length_map]; exact h.2⟩
theorem get_map {ns : List Int} {g : Int → Int} {i : Nat} {z z2 : Int} (h : ns[i]? = some z) (h2 : (ns.map g)[i]? = some z2) : z2 = g z := by
  rw [List.getElem?_map, h] at h2
  exact (Option.some.inj h2).symm
theorem ok_shd (T : Tx K mg) : FnOk P w K mg base CX0 8 T.f_law_shared T.d_law_shared ["_law_load", "_law_counts", "_law_divisor"] (spShd T.C_Load) := by
  have Gmul := ok_mul (P := P) (w := w) (base := base) T
  have Gfdv := ok_fdv (P := P) (w := w) (base := base) T
  have Gmod := ok_mod (P := P) (w := w) (base := base) T
  have Gcap := ok_cap (P := P) (w := w) (base := base) T
  have Grmul := ok_rmul (P := P) (w := w) (base := base) T
  have Glen := ok_len (P := P) (w := w) (base := base) T
  have Gget := ok_get (P := P) (w := w) (base := base) T
  have G_int := (ok_int (P := P) (w := w) (base := base) T).mono (k := 7) (by decide)
  refine T.F_law_shared.ok scShd (fun vs H Q E h => ?_) (fun cdv A outer s H vs Q E hr h => ?_)
  · obtain ⟨a, l, c, ns, d, rfl, _⟩ := h
    rfl
  · obtain ⟨a, l, c, ns, d, rfl, L, hc, gn, d1, d2, q⟩ := h
    have h2 : Room 2 _ := hr.mono (by decide)
    have h3 : Room 3 _ := hr.mono (by decide)
    have h4 : Room 4 _ := hr.mono (by decide)
    obtain ⟨dx, ha, hl⟩ := id L
    have szn := gn.1.2
    refine ⟨_, pss_cons (ps_set (i := 3) scShd.nd rfl (.inl rfl) (pe_op (bin_ownI (E := E0) (name := "__floordiv__") (nameR := "__rfloordiv__") (by decide +kernel) (by decide +kernel) T.m_Load_floordiv T.sf_Load T.nr_fdv (.inl rfl) T.ti_fdv T.ti_rfdv T.si_Load Gfdv h4 T.bLoad_floordiv (fun σ => atL)) (pv 0) (pv 2)))
      (pss_cons (ps_set (i := 4) scShd.nd rfl (.inl rfl) (pe_op (bin_ownI (E := E0) (name := "__mod__") (nameR := "__rmod__") (by decide +kernel) (by decide +kernel) T.m_Load_mod T.sf_Load T.nr_mod (.inl rfl) T.ti_mod T.ti_rmod T.si_Load Gmod h4 T.bLoad_mod (fun σ => atL)) (pv 0) (pv 2)))
      (pss_cons (ps_if (PW.pt (pw_or (pt_not (pt_val (pe_callB call_isi (by rfl) T.z_isinstance (by decide +kernel) (pa_cons (pv 3) (pa_cons (pe_glob (v := .ref T.C_Load) rfl T.g_Load rfl) pa_nil))))) (pw_or1 (pt_not (pt_val (pe_callB call_isi (by rfl) T.z_isinstance (by decide +kernel) (pa_cons (pv 4) (pa_cons (pe_glob (v := .ref T.C_Load) rfl T.g_Load rfl) pa_nil)))))))) (pss_one ps_never) pss_nil)
      (pss_cons (ps_if (PW.pt (pw_or (pt_cmpR op_ne (pe_callB (len_own T.m_Load_len Glen h2 T.bLoad_len (fun σ => at0)) (by rfl) T.z_len (by decide +kernel) (pa_cons (pv 3) pa_nil)) (pe_callB call_len_seq (by rfl) T.z_len (by decide +kernel) (pa_cons (pv 1) pa_nil)) (nomark _)) (pw_or1 (pt_cmpR op_ne (pe_callB (len_own T.m_Load_len Glen h2 T.bLoad_len (fun σ => at0)) (by rfl) T.z_len (by decide +kernel) (pa_cons (pv 4) pa_nil)) (pe_callB call_len_seq (by rfl) T.z_len (by decide +kernel) (pa_cons (pv 1) pa_nil)) (nomark _))))) (pss_one ps_never) pss_nil)
      (pss_cons (ps_for PassesOwn.never rfl (pi_range1 (by rfl) T.z_range (pa_cons (pe_callB call_len_seq (by rfl) T.z_len (by decide +kernel) (pa_cons (pv 1) pa_nil)) pa_nil)) (pg_name (i := 5) scShd.nd rfl (.inl rfl))
        (pss_cons (ps_if (PW.pt (pw_or (pt_not (pt_val (pe_call G_int hr (by rfl) T.g_law_int T.F_law_int.kp T.b_law_int .nil pass0 (pa_cons (pe_subOwn (E := fun _ => E0) T.m_Load_getitem T.fn_Load_getitem Gget h3 T.bLoad_getitem (fun σ => atL) (pv 3) (pv 5)) pa_nil)))) (pw_or1 (pt_not (pt_val (pe_call G_int hr (by rfl) T.g_law_int T.F_law_int.kp T.b_law_int .nil pass0 (pa_cons (pe_subOwn (E := fun _ => E0) T.m_Load_getitem T.fn_Load_getitem Gget h3 T.bLoad_getitem (fun σ => atL) (pv 4) (pv 5)) pa_nil))))))) (pss_one ps_never) pss_nil)
        (pss_one (ps_if (PW.pt (pw_or (pt_cmpR op_ne (pe_op op_add (pe_op op_mul (pe_subOwn (E := fun _ => E0) T.m_Load_getitem T.fn_Load_getitem Gget h3 T.bLoad_getitem (fun σ => atL) (pv 3) (pv 5)) (pv 2)) (pe_subOwn (E := fun _ => E0) T.m_Load_getitem T.fn_Load_getitem Gget h3 T.bLoad_getitem (fun σ => atL) (pv 4) (pv 5))) (pe_ix ix_list (pv 1) (pv 5) (fun _ _ => rfl)) (nomark _)) (pw_or (pt_cmpR op_lt (pe_subOwn (E := fun _ => E0) T.m_Load_getitem T.fn_Load_getitem Gget h3 T.bLoad_getitem (fun σ => atL) (pv 4) (pv 5)) pe_int (nomark _)) (pw_or1 (pt_cmpR op_ge (pe_subOwn (E := fun _ => E0) T.m_Load_getitem T.fn_Load_getitem Gget h3 T.bLoad_getitem (fun σ => atL) (pv 4) (pv 5)) (pv 2) (nomark _)))))) (pss_one ps_never) pss_nil))))
      (pss_one (ps_ret pe_bl)))))), ?_⟩
    refine ⟨_, rfl, _, rfl, a, dx, _, d, rfl, rfl, ha, a, l, ns, d, rfl, L, gn, by omega, fun _ x j H1 s1 x0 j0 Lq => ⟨x, rfl, ?_⟩, fun h => by omega⟩
    refine ⟨_, rfl, _, rfl, a, dx, _, d, rfl, rfl, s1 _ _ ha, a, l, ns, d, rfl, L.same s1, gn, by omega, fun _ y j2 H2 s2 y0 j20 Lr => ⟨y, rfl, ?_⟩, fun h => by omega⟩
    have Lq := Lq.same s2
    have s12 := s1.trans s2
    have hc2 := s12 _ _ hc
    obtain ⟨dq, hq, _⟩ := id Lq
    obtain ⟨dr, hr2, _⟩ := id Lr
    refine ⟨_, rfl, _, .ref T.C_Load, .ref T.C_Load, .ref T.C_Load, true, rfl, .own _, .base (.ins hq T.cl_Load T.ic_Load T.sp_class T.tk_class T.mr_Load), kit_own, _, rfl, iteF ?_⟩
    refine ⟨_, rfl, _, .ref T.C_Load, .ref T.C_Load, .ref T.C_Load, true, rfl, .own _, .base (.ins hr2 T.cl_Load T.ic_Load T.sp_class T.tk_class T.mr_Load), kit_own, _, rfl, iteF ?_⟩
    refine ⟨_, rfl, x, dq, _, rfl, hq, x, j, _, rfl, Lq, _, rfl, by omega, by rw [List.length_map]; omega, _, rfl, c, _, rfl, .inl (SqL.of hc2), rfl, _, rfl, iteND (by rw [List.length_map, List.length_map]) ?_⟩
    refine ⟨_, rfl, y, dr, _, rfl, hr2, y, j2, _, rfl, Lr, _, rfl, by omega, by rw [List.length_map]; omega, _, rfl, c, _, rfl, .inl (SqL.of hc2), rfl, _, rfl, iteND (by rw [List.length_map, List.length_map]) ?_⟩
    refine ⟨_, rfl, c, _, rfl, .inl (SqL.of hc2), _, rfl, by omega, by rw [List.length_map]; omega, for_range (lo := 0) (n := (((ns.map V.int).length : Nat) : Int).toNat) (fun _ σ H' => (∃ v5, σ = [some (.ref a), some (.ref c), some (.int d), some (.ref x), some (.ref y), v5]) ∧ H' = H2) ⟨⟨none, rfl⟩, rfl⟩ ?_ ?_⟩
    · rintro i σ H' hi ⟨⟨v5, rfl⟩, rfl⟩
      have hin : inL ns (0 + (i : Int)) := ⟨by omega, by rw [List.length_map] at hi; omega⟩
      obtain ⟨z, hz⟩ := in_get hin
      refine ⟨_, rfl, _, rfl, x, dq, _, rfl, hq, x, j, _, _, rfl, Lq, fun _ z2 hz2 => ?_, fun h => (h (inL_map hin)).elim⟩
      refine ⟨z2, rfl, _, rfl, iteF ?_⟩
      refine ⟨_, rfl, _, rfl, y, dr, _, rfl, hr2, y, j2, _, _, rfl, Lr, fun _ z3 hz3 => ?_, fun h => (h (inL_map hin)).elim⟩
      refine ⟨z3, rfl, _, rfl, iteF ?_⟩
      refine ⟨_, rfl, _, rfl, x, dq, _, rfl, hq, x, j, _, _, rfl, Lq, fun _ z4 hz4 => ?_, fun h => (h (inL_map hin)).elim⟩
      refine ⟨_, rfl, _, _, rfl, rfl, .inr ⟨by omega, by omega⟩, ?_⟩
      refine ⟨_, rfl, _, rfl, y, dr, _, rfl, hr2, y, j2, _, _, rfl, Lr, fun _ z5 hz5 => ?_, fun h => (h (inL_map hin)).elim⟩
      have e4 := get_map hz hz4
      have e5 := get_map hz hz5
      have hb := emod_b z (show (0 : Int) < d by omega)
      refine ⟨_, _, rfl, rfl, _, rfl, _, rfl, c, _, _, _, rfl, rfl, SqL.of hc2, at_of hin hz, rfl, _, rfl, iteND ?_ ?_⟩
      · rw [e4, e5]
        unfold gFdv gMod
        rw [Int.mul_comm]
        exact congrArg V.int (Int.mul_ediv_add_emod z d)
      refine ⟨_, rfl, _, rfl, y, dr, _, rfl, hr2, y, j2, _, _, rfl, Lr, fun _ z6 hz6 => ?_, fun h => (h (inL_map hin)).elim⟩
      have e6 : z6 = gMod z d := get_map (g := fun n => gMod n d) hz hz6
      have e6 : z6 = z % d := e6
      refine ⟨_, _, rfl, rfl, _, rfl, iteD (by omega) ?_⟩
      refine ⟨_, rfl, _, rfl, y, dr, _, rfl, hr2, y, j2, _, _, rfl, Lr, fun _ z7 hz7 => ?_, fun h => (h (inL_map hin)).elim⟩
      have e7 : z7 = gMod z d := get_map (g := fun n => gMod n d) hz hz7
      have e7 : z7 = z % d := e7
      exact ⟨_, rfl, _, _, rfl, rfl, _, rfl, iteD (by omega) ⟨⟨_, rfl⟩, rfl⟩⟩
    · rintro σ H' ⟨⟨v5, rfl⟩, rfl⟩
      exact q _ s12
/-! ### results share nothing -/
def spFsh (C : Addr) : Sp := fun vs H Q _ => ∃ (a l c : Addr) (ns : List Int), vs = [.ref a, .ref c] ∧ Ld C H a l ns ∧ H c = some (.lst (ns.map V.int)) ∧ good ns ∧ ∀ H', Same H H' → Q (.bl true) H'
/-- a load that is new behind H0, its list not at e -/
def Shp (C : Addr) (H0 : Hp) (e : Addr) (H : Hp) (v : V) : Prop := ∃ (x j : Addr) (zs : List Int), v = .ref x ∧ Ld C H x j zs ∧ 1 ≤ zs.length ∧ H0 j = none ∧ j ≠ e
theorem Shp.same {C e : Addr} {H0 H H' : Hp} {v : V} (h : Shp C H0 e H v) (s : Same H H') : Shp C H0 e H' v := by
  obtain ⟨x, j, zs, e1, L, r⟩ := h
  exact ⟨x, j, zs, e1, L.same s, r⟩
theorem Shp.put {C e m : Addr} {H0 H : Hp} {v : V} {ys ws : List Int} (h : Shp C H0 e H v) (hm : H m = some (.lst (ys.map V.int))) (hw : 1 ≤ ws.length) : Shp C H0 e (upd H m (.lst (ws.map V.int))) v := by
  obtain ⟨x, j, zs, e1, ⟨dx, h1, h2⟩, n1, r⟩ := h
  have xm : x ≠ m := ne_of h1 hm (by intro z; cases z)
  by_cases h : j = m
  · subst h
    exact ⟨x, j, ws, e1, ⟨dx, by rw [upd_ne xm]; exact h1, upd_same⟩, hw, r⟩
  · exact ⟨x, j, zs, e1, ⟨dx, by rw [upd_ne xm]; exact h1, by rw [upd_ne h]; exact h2⟩, n1, r⟩
theorem scFsh : FnScope ["_law_load", "_law_counts", "_law_results", "_law_result"] ["_law_load", "_law_counts"] (defScope sFsh) := ⟨rfl, rfl, rfl, by decide +kernel, rfl, by decide +kernel, by decide +kernel⟩
theorem ok_fsh (T : Tx K mg) : FnOk P w K mg base CX0 8 T.f_law_fresh T.d_law_fresh ["_law_load", "_law_counts"] (spFsh T.C_Load) := by
  have Gmul := ok_mul (P := P) (w := w) (base := base) T
  have Gfdv := ok_fdv (P := P) (w := w) (base := base) T
  have Gmod := ok_mod (P := P) (w := w) (base := base) T
  have Gcap := ok_cap (P := P) (w := w) (base := base) T
  have Grmul := ok_rmul (P := P) (w := w) (base := base) T
  have Gput := ok_put (P := P) (w := w) (base := base) T
  have G_isl := (ok_isl (P := P) (w := w) (base := base) T).mono (k := 7) (by decide)
  refine T.F_law_fresh.ok scFsh (fun vs H Q E h => ?_) (fun cdv A outer s H vs Q E hr h => ?_)
  · obtain ⟨a, l, c, ns, rfl, _⟩ := h
    rfl
  · obtain ⟨a, l, c, ns, rfl, LA, hc, gn, q⟩ := h
    have h2 : Room 2 _ := hr.mono (by decide)
    have h4 : Room 4 _ := hr.mono (by decide)
    have h5 : Room 5 _ := hr.mono (by decide)
    have LA0 := LA
    obtain ⟨dx, ha, hl⟩ := id LA
    have szn := gn.1.2
    have n1 := gn.1.1
    have sAll : Same H H := Same.refl _
    have sAll0 := sAll
    refine ⟨_, pss_cons (ps_set (i := 2) scFsh.nd rfl (.inl rfl) (pe_lst (pa_cons (pe_op (bin_ownI (E := E0) (name := "__mul__") (nameR := "__rmul__") (by decide +kernel) (by decide +kernel) T.m_Load_mul T.sf_Load T.m_Load_rmul.at_ (.inr ⟨_, rfl⟩) T.ti_mul T.ti_rmul T.si_Load Gmul h4 T.bLoad_mul (fun σ => atL)) (pv 0) pe_int) (pa_cons (pe_op (rmul_own (E := E0) T.m_Load_mul T.m_Load_rmul T.sf_Load T.sl_Load Grmul h5 T.bLoad_rmul (fun σ => atL)) pe_int (pv 0)) (pa_cons (pe_op (bin_ownI (E := E0) (name := "__floordiv__") (nameR := "__rfloordiv__") (by decide +kernel) (by decide +kernel) T.m_Load_floordiv T.sf_Load T.nr_fdv (.inl rfl) T.ti_fdv T.ti_rfdv T.si_Load Gfdv h4 T.bLoad_floordiv (fun σ => atL)) (pv 0) pe_int) (pa_cons (pe_op (bin_ownI (E := E0) (name := "__mod__") (nameR := "__rmod__") (by decide +kernel) (by decide +kernel) T.m_Load_mod T.sf_Load T.nr_mod (.inl rfl) T.ti_mod T.ti_rmod T.si_Load Gmod h4 T.bLoad_mod (fun σ => atL)) (pv 0) (pe_op op_pow pe_int pe_int)) (pa_cons (pe_meth (pv 0) T.cl_Load T.m_Load_capped Gcap h4 T.bLoad_capped .nil passL (pa_cons (pe_op op_pow pe_int pe_int) pa_nil)) (pa_cons (pe_op (bin_ownI (E := E0) (name := "__mul__") (nameR := "__rmul__") (by decide +kernel) (by decide +kernel) T.m_Load_mul T.sf_Load T.m_Load_rmul.at_ (.inr ⟨_, rfl⟩) T.ti_mul T.ti_rmul T.si_Load Gmul h4 T.bLoad_mul (fun σ => atL)) (pv 0) pe_int) pa_nil))))))))
      (pss_cons (ps_for PassesOwn.never rfl (pi_list (pv 2)) (pg_name (i := 3) scFsh.nd rfl (.inl rfl))
        (pss_one (ps_expr (pe_meth (pv 3) T.cl_Load T.m_Load_put Gput h2 T.bLoad_put .nil passL (pa_cons pe_int (pa_cons (pe_callTy (T := "int") call_int1 (by rfl) T.z_int (by decide +kernel) (pa_cons (pe_cmpR op_eq (pe_ix ix_list (pv 1) pe_int (fun _ _ => rfl)) pe_int (nomark _)) pa_nil)) pa_nil))))))
      (pss_one (ps_ret (pe_call G_isl hr (by rfl) T.g_law_is_load T.F_law_is_load.kp T.b_law_is_load .nil pass0 (pa_cons (pv 0) (pa_cons (pv 1) pa_nil)))))), ?_⟩
    refine ⟨_, rfl, a, dx, _, 1, rfl, rfl, sAll _ _ ha, a, l, ns, 1, rfl, LA, gn, by decide, fun _ x1 j1 H1 s1 x01 j01 L1 => ⟨x1, rfl, ?_⟩, fun h => absurd h (by decide)⟩
    have LA := LA.same s1
    have sAll := sAll.trans s1
    have n1' : H j1 = none := sAll0.free j01
    have sAll0 := sAll
    refine ⟨_, rfl, a, dx, _, 1, rfl, rfl, sAll _ _ ha, a, l, ns, 1, rfl, LA, gn, by decide, fun _ x2 j2 H2 s2 x02 j02 L2 => ⟨x2, rfl, ?_⟩, fun h => absurd h (by decide)⟩
    have LA := LA.same s2
    have sAll := sAll.trans s2
    have n2 : H j2 = none := sAll0.free j02
    have sAll0 := sAll
    have L1 := L1.same s2
    refine ⟨_, rfl, a, dx, _, 1, rfl, rfl, sAll _ _ ha, a, l, ns, 1, rfl, LA, gn, by decide, fun _ x3 j3 H3 s3 x03 j03 L3 => ⟨x3, rfl, ?_⟩, fun h => absurd h (by decide)⟩
    have LA := LA.same s3
    have sAll := sAll.trans s3
    have n3 : H j3 = none := sAll0.free j03
    have sAll0 := sAll
    have L1 := L1.same s3
    have L2 := L2.same s3
    refine ⟨_, rfl, _, _, rfl, rfl, ⟨by decide, by decide, by decide⟩, ?_⟩
    refine ⟨a, dx, _, _, rfl, rfl, sAll _ _ ha, a, l, ns, _, rfl, LA, gn, by decide, fun _ x4 j4 H4 s4 x04 j04 L4 => ⟨x4, rfl, ?_⟩, fun h => absurd h (by decide)⟩
    have LA := LA.same s4
    have sAll := sAll.trans s4
    have n4 : H j4 = none := sAll0.free j04
    have sAll0 := sAll
    have L1 := L1.same s4
    have L2 := L2.same s4
    have L3 := L3.same s4
    refine ⟨_, rfl, a, dx, _, rfl, sAll _ _ ha, rfl, _, _, rfl, rfl, ⟨by decide, by decide, by decide⟩, ?_⟩
    refine ⟨a, l, ns, _, rfl, LA, gn, by decide, fun _ x5 j5 H5 s5 x05 j05 L5 => ?_, fun h => absurd h (by decide)⟩
    have LA := LA.same s5
    have sAll := sAll.trans s5
    have n5 : H j5 = none := sAll0.free j05
    have sAll0 := sAll
    have L1 := L1.same s5
    have L2 := L2.same s5
    have L3 := L3.same s5
    have L4 := L4.same s5
    refine ⟨_, rfl, a, dx, _, 0, rfl, rfl, sAll _ _ ha, a, l, ns, 0, rfl, LA, gn, by decide, fun _ x6 j6 H6 s6 x06 j06 L6 => ⟨x6, rfl, ?_⟩, fun h => absurd h (by decide)⟩
    have LA := LA.same s6
    have sAll := sAll.trans s6
    have n6 : H j6 = none := sAll0.free j06
    have sAll0 := sAll
    have L1 := L1.same s6
    have L2 := L2.same s6
    have L3 := L3.same s6
    have L4 := L4.same s6
    have L5 := L5.same s6
    refine ⟨(by show 6 ≤ sizeLine; decide), fun e ne => ?_⟩
    have t7 := same_upd (o := .lst [V.ref x1, V.ref x2, V.ref x3, V.ref x4, V.ref x5, V.ref x6]) ne
    have he : (upd H6 e (.lst [V.ref x1, V.ref x2, V.ref x3, V.ref x4, V.ref x5, V.ref x6])) e = some (.lst [V.ref x1, V.ref x2, V.ref x3, V.ref x4, V.ref x5, V.ref x6]) := upd_same
    have rows : ∀ v, v ∈ [V.ref x1, V.ref x2, V.ref x3, V.ref x4, V.ref x5, V.ref x6] → Shp T.C_Load H e H6 v := fun v hv => by
      rcases List.mem_cons.mp hv with rfl | hv
      · exact ⟨x1, j1, _, rfl, L1, by rw [List.length_map]; exact n1, n1', (ne_of_none L1.at ne)⟩
      rcases List.mem_cons.mp hv with rfl | hv
      · exact ⟨x2, j2, _, rfl, L2, by rw [List.length_map]; exact n1, n2, (ne_of_none L2.at ne)⟩
      rcases List.mem_cons.mp hv with rfl | hv
      · exact ⟨x3, j3, _, rfl, L3, by rw [List.length_map]; exact n1, n3, (ne_of_none L3.at ne)⟩
      rcases List.mem_cons.mp hv with rfl | hv
      · exact ⟨x4, j4, _, rfl, L4, by rw [List.length_map]; exact n1, n4, (ne_of_none L4.at ne)⟩
      rcases List.mem_cons.mp hv with rfl | hv
      · exact ⟨x5, j5, _, rfl, L5, by rw [List.length_map]; exact n1, n5, (ne_of_none L5.at ne)⟩
      rcases List.mem_cons.mp hv with rfl | hv
      · exact ⟨x6, j6, _, rfl, L6, by rw [List.length_map]; exact n1, n6, (ne_of_none L6.at ne)⟩
      cases hv
    have s7 := sAll.trans t7
    have in0 : inL ns 0 := ⟨by decide, by omega⟩
    obtain ⟨z0, hz0⟩ := in_get in0
    refine ⟨_, rfl, e, rfl, ⟨_, SqL.of he⟩, for_list (K := K) (a := e) (xs := [V.ref x1, V.ref x2, V.ref x3, V.ref x4, V.ref x5, V.ref x6]) (fun _ σ H' => (∃ v3, σ = [some (.ref a), some (.ref c), some (.ref e), v3]) ∧ Same H H' ∧ H' e = some (.lst [V.ref x1, V.ref x2, V.ref x3, V.ref x4, V.ref x5, V.ref x6]) ∧ ∀ v, v ∈ [V.ref x1, V.ref x2, V.ref x3, V.ref x4, V.ref x5, V.ref x6] → Shp T.C_Load H e H' v) ⟨⟨none, rfl⟩, s7, he, fun v hv => (rows v hv).same t7⟩ (fun i σ H' _ h => SqL.of h.2.2.1) ?_ ?_⟩
    · rintro i v σ H' hi ⟨⟨v3, rfl⟩, sm, he', sh⟩
      obtain ⟨x, j, zs, rfl, Lx, hz, nj, je⟩ := sh v (List.mem_of_getElem? hi)
      obtain ⟨dy, hx, hj⟩ := id Lx
      have inz : inL zs 0 := ⟨by decide, by omega⟩
      refine ⟨_, rfl, x, dy, _, rfl, hx, rfl, ?_⟩
      refine ⟨_, rfl, c, _, _, _, rfl, rfl, SqL.of (sm _ _ hc), at_of in0 hz0, rfl, .inr ⟨_, rfl, ?_⟩⟩
      refine ⟨x, j, zs, 0, _, rfl, Lx, fun _ => ?_, fun h => (h ⟨inz, by split <;> decide⟩).elim⟩
      refine ⟨⟨_, rfl⟩, Same.put sm nj, ?_, fun v hv => (sh v hv).put hj (by rw [List.length_set]; exact hz)⟩
      rw [upd_ne je.symm]
      exact he'
    · rintro σ H' ⟨⟨v3, rfl⟩, sm, he', sh⟩
      exact ⟨_, rfl, _, rfl, a, l, c, ns, rfl, LA0.same sm, sm _ _ hc, szn, q _ sm⟩
end
end D2

namespace D2
open PySem PySem.Spec PyProof.Rows L2 KO
/-! ### what the signs say of two counts -/
theorem cAdd (x y : Int) : gAdd x y = x + y := rfl
theorem cSub (x y : Int) : (gSub x y = x - y ∧ y < x) ∨ (gSub x y = 0 ∧ x ≤ y) := by
  unfold gSub
  split
  · exact .inl ⟨rfl, by omega⟩
  · exact .inr ⟨rfl, by omega⟩
theorem cAnd (x y : Int) : (gAnd x y = y ∧ y < x) ∨ (gAnd x y = x ∧ x ≤ y) := by
  unfold gAnd
  split
  · exact .inl ⟨rfl, by omega⟩
  · exact .inr ⟨rfl, by omega⟩
theorem pAdd (x y : Int) (hx : 0 ≤ x) (hy : 0 ≤ y) : 0 ≤ gAdd x y := by have := cAdd x y; omega
theorem pSub (x y : Int) (hx : 0 ≤ x) (hy : 0 ≤ y) : 0 ≤ gSub x y := by have := cSub x y; omega
theorem pAnd (x y : Int) (hx : 0 ≤ x) (hy : 0 ≤ y) : 0 ≤ gAnd x y := by have := cAnd x y; omega
theorem pMul (x y : Int) (hx : 0 ≤ x) (hy : 0 ≤ y) : 0 ≤ gMul x y := Int.mul_nonneg hx hy
theorem pFdv (x y : Int) (hx : 0 ≤ x) (hy : 1 ≤ y) : 0 ≤ gFdv x y := Int.ediv_nonneg hx (by omega)
theorem pMod (x y : Int) (hx : 0 ≤ x) (hy : 1 ≤ y) : 0 ≤ gMod x y := Int.emod_nonneg _ (by omega)
theorem pCap (x y : Int) (hx : 0 ≤ x) (hy : 0 ≤ y) : 0 ≤ gCap x y := by
  unfold gCap
  split <;> omega
/-- the numbers of the rules -/
structure Hh (fa mo sm di br ot : Int) : Prop where
  fa0 : 0 ≤ fa
  mo0 : 0 ≤ mo
  mo1 : mo ≤ 29
  fm : fa + mo ≤ 1000000000
  sm0 : 0 ≤ sm
  sm1 : sm ≤ 12
  di1 : 1 ≤ di
  di2 : di ≤ 1000000000
  br0 : 0 ≤ br
  br1 : br ≤ 1000000000
  ot0 : 0 ≤ ot
  ot1 : ot ≤ 1000000000
theorem rl_0 (x fa mo sm di br ot : Int) (hx : 0 ≤ x) (hb : x ≤ 1000000000) (h : Hh fa mo sm di br ot) : gMul x sm = x * sm := rfl
theorem rl_1 (x fa mo sm di br ot : Int) (hx : 0 ≤ x) (hb : x ≤ 1000000000) (h : Hh fa mo sm di br ot) : gMul x (fa + mo) = gAdd (gMul x fa) (gMul x mo) := Int.mul_add x fa mo
theorem rl_2 (x fa mo sm di br ot : Int) (hx : 0 ≤ x) (hb : x ≤ 1000000000) (h : Hh fa mo sm di br ot) : gMul (gMul x sm) mo = gMul x (sm * mo) := Int.mul_assoc x sm mo
theorem rl_3 (x fa mo sm di br ot : Int) (hx : 0 ≤ x) (hb : x ≤ 1000000000) (h : Hh fa mo sm di br ot) : gMul x 0 = 0 := Int.mul_zero x
theorem rl_4 (x fa mo sm di br ot : Int) (hx : 0 ≤ x) (hb : x ≤ 1000000000) (h : Hh fa mo sm di br ot) : gMul x 1 = x := Int.mul_one x
theorem rl_5 (x fa mo sm di br ot : Int) (hx : 0 ≤ x) (hb : x ≤ 1000000000) (h : Hh fa mo sm di br ot) : gAdd (gMul (gFdv x di) di) (gMod x di) = x := by
  show x / di * di + x % di = x
  rw [Int.mul_comm]
  exact Int.mul_ediv_add_emod x di
theorem rl_6 (x fa mo sm di br ot : Int) (hx : 0 ≤ x) (hb : x ≤ 1000000000) (h : Hh fa mo sm di br ot) : gFdv (gMul x di) di = x := Int.mul_ediv_cancel x (by have := h.di1; omega)
theorem rl_7 (x fa mo sm di br ot : Int) (hx : 0 ≤ x) (hb : x ≤ 1000000000) (h : Hh fa mo sm di br ot) : gMod (gMul x di) di = 0 := Int.mul_emod_left x di
theorem rl_8 (x fa mo sm di br ot : Int) (hx : 0 ≤ x) (hb : x ≤ 1000000000) (h : Hh fa mo sm di br ot) : gFdv x 1 = x := Int.ediv_one x
theorem rl_9 (x fa mo sm di br ot : Int) (hx : 0 ≤ x) (hb : x ≤ 1000000000) (h : Hh fa mo sm di br ot) : gCap x (10 ^ Int.toNat 9) = x := by
  have e9 : (10 : Int) ^ Int.toNat 9 = 1000000000 := by decide
  unfold gCap
  rw [e9, if_neg (by omega)]
theorem rl_10 (x fa mo sm di br ot : Int) (hx : 0 ≤ x) (hb : x ≤ 1000000000) (h : Hh fa mo sm di br ot) : gCap x br = gAnd x br := rfl
theorem rl_11 (x fa mo sm di br ot : Int) (hx : 0 ≤ x) (hb : x ≤ 1000000000) (h : Hh fa mo sm di br ot) : gAdd (gCap x br) (gSub x br) = x := by
  unfold gAdd gCap gSub
  split <;> split <;> omega
theorem rl_12 (x fa mo sm di br ot : Int) (hx : 0 ≤ x) (hb : x ≤ 1000000000) (h : Hh fa mo sm di br ot) : gCap (gCap x br) ot = gCap x (if ot < br then ot else br) := by
  unfold gCap
  by_cases h1 : br < x
  · rw [if_pos h1]
    by_cases h2 : ot < br
    · rw [if_pos h2, if_pos (by omega)]
    · rw [if_neg h2, if_pos h1]
  · rw [if_neg h1]
    by_cases h2 : ot < br
    · rw [if_pos h2]
    · rw [if_neg h2, if_neg h1, if_neg (by omega)]
theorem rl_13 (x fa mo sm di br ot : Int) (hx : 0 ≤ x) (hb : x ≤ 1000000000) (h : Hh fa mo sm di br ot) : gCap x br ≤ x := by
  unfold gCap
  split <;> omega
theorem rl_14 (x fa mo sm di br ot : Int) (hx : 0 ≤ x) (hb : x ≤ 1000000000) (h : Hh fa mo sm di br ot) : gMul x fa ≤ gMul x (fa + mo) := by
  show x * fa ≤ x * (fa + mo)
  rw [Int.mul_add]
  have := Int.mul_nonneg hx h.mo0
  omega
theorem rl_15 (x fa mo sm di br ot : Int) (hx : 0 ≤ x) (hb : x ≤ 1000000000) (h : Hh fa mo sm di br ot) : gFdv x di ≤ x := Int.ediv_le_self di hx
theorem rl_16 (x fa mo sm di br ot : Int) (hx : 0 ≤ x) (hb : x ≤ 1000000000) (h : Hh fa mo sm di br ot) : gMod x 1 = 0 := Int.emod_one x
theorem rep_ints (n : Nat) (i : Int) : (List.replicate n [V.int i]).flatten = (List.replicate n i).map V.int := by
  induction n with
  | zero => rfl
  | succ n ih =>
    rw [List.replicate_succ, List.flatten_cons, ih, List.replicate_succ, List.map_cons]
    rfl
theorem getD_of {ns : List Int} {j : Nat} {n : Int} (h : ns[j]? = some n) : ns.getD j 0 = n := by
  rw [List.getD_eq_getElem?_getD, h]
  rfl
def wth (ns ms : List Int) : Bool := (List.zipWith (fun i j : Int => decide (i ≤ j)) ns ms).all id
/-! ### lists by their counts -/
def Tb (n : Nat) (f : Nat → Int) : List Int := (List.range n).map f
theorem Tb_len (n : Nat) (f : Nat → Int) : (Tb n f).length = n := by
  unfold Tb
  rw [List.length_map, List.length_range]
theorem Tb_get {n : Nat} {f : Nat → Int} {i : Nat} (h : i < n) : (Tb n f)[i]? = some (f i) := by
  unfold Tb
  rw [List.getElem?_map, List.getElem?_range h]
  rfl
theorem Tb_mem {n : Nat} {f : Nat → Int} {z : Int} (h : z ∈ Tb n f) : ∃ i, i < n ∧ z = f i := by
  unfold Tb at h
  obtain ⟨i, hi, e⟩ := List.mem_map.mp h
  exact ⟨i, List.mem_range.mp hi, e.symm⟩
theorem Tb_zip (g : Int → Int → Int) (n : Nat) (u v : Nat → Int) : List.zipWith g (Tb n u) (Tb n v) = Tb n (fun i => g (u i) (v i)) := by
  apply List.ext_getElem?
  intro i
  rw [List.getElem?_zipWith]
  by_cases h : i < n
  · rw [Tb_get h, Tb_get h, Tb_get h]
  · have hz : ∀ f : Nat → Int, (Tb n f)[i]? = none := fun f => List.getElem?_eq_none (by rw [Tb_len]; omega)
    rw [hz, hz, hz]
theorem Tb_good {n : Nat} {f : Nat → Int} (n1 : 1 ≤ n) (n60 : n ≤ 60) (p : ∀ i, 0 ≤ f i) : good (Tb n f) := ⟨by rw [Tb_len]; exact ⟨n1, n60⟩, fun z hz => by
  obtain ⟨i, _, rfl⟩ := Tb_mem hz
  exact p i⟩
theorem Tb_of {ns : List Int} (g : good ns) : ∃ f, ns = Tb ns.length f ∧ ∀ i, 0 ≤ f i := by
  refine ⟨fun i => ns.getD i 0, ?_, fun i => ?_⟩
  · apply List.ext_getElem?
    intro i
    by_cases h : i < ns.length
    · rw [Tb_get h, List.getElem?_eq_getElem h, getD_of (List.getElem?_eq_getElem h)]
    · rw [List.getElem?_eq_none (by omega), List.getElem?_eq_none (by rw [Tb_len]; omega)]
  · show 0 ≤ ns.getD i 0
    by_cases h : i < ns.length
    · rw [getD_of (List.getElem?_eq_getElem h)]
      exact g.2 _ (List.getElem_mem h)
    · rw [List.getD_eq_getElem?_getD, List.getElem?_eq_none (by omega)]
      exact Int.le_refl _
section
variable {P : Program} {w : World} {K : PySem.W.Frag} {mg : Str → Option Value} {base : Heap}
theorem tNil_intro {σ : L2.St} {H : Hp} {Q : List V → Hp → Prop} (h : Q [] H) : tNil σ H Q := h
theorem op_readT {C B a l b m : Addr} {n : Nat} {u v : Nat → Int} {g : Int → Int → Int} {H : Hp} {Q : VK} {E : XK} (n1 : 1 ≤ n) (n60 : n ≤ 60) (pg : ∀ x y : Int, 0 ≤ x → 0 ≤ y → 0 ≤ g x y) (L : Ld C H a l (Tb n u)) (M : Ld C H b m (Tb n v)) (pu : ∀ i, 0 ≤ u i) (pv : ∀ i, 0 ≤ v i)
    (q : ∀ x k H', Same H H' → Ld C H' x k (Tb n (fun i => g (u i) (v i))) → Q (.ref x) H') : rBinO C (spBin C B g) E (.ref a) (.ref b) H Q := by
  obtain ⟨dx, ha, h1⟩ := id L
  obtain ⟨dy, hb, h2⟩ := id M
  refine ⟨a, dx, _, b, dy, _, rfl, rfl, ha, hb, a, l, b, m, _, _, rfl, L, M, Tb_good n1 n60 pu, Tb_good n1 n60 pv, fun e x k H' s x0 k0 L' => ⟨x, rfl, ?_⟩, fun h => (h (by rw [Tb_len, Tb_len])).elim⟩
  rw [Tb_zip] at L'
  exact q x k H' s L'
theorem eq_readT {C a l b m : Addr} {n : Nat} {u v : Nat → Int} {H : Hp} {Q : VK} {E : XK} (L : Ld C H a l (Tb n u)) (M : Ld C H b m (Tb n v)) (h : ∀ i, u i = v i) (q : Q (.bl true) H) : rEqO C (spEq C) E (.ref a) (.ref b) H Q := by
  refine eq_read L M ?_
  rw [decide_eq_true (by rw [funext h])]
  exact q
theorem wth_T {n : Nat} {u v : Nat → Int} (h : ∀ i, u i ≤ v i) : wth (Tb n u) (Tb n v) = true := by
  unfold wth
  rw [List.all_eq_true]
  intro b hb
  obtain ⟨i, hi⟩ := List.getElem?_of_mem hb
  rw [List.getElem?_zipWith] at hi
  by_cases hl : i < n
  · rw [Tb_get hl, Tb_get hl] at hi
    have e : decide (u i ≤ v i) = b := Option.some.inj hi
    rw [← e]
    exact decide_eq_true (h i)
  · rw [List.getElem?_eq_none (by rw [Tb_len]; omega)] at hi
    cases hi
theorem wth_read {C B a l b m : Addr} {n : Nat} {u v : Nat → Int} {H : Hp} {Q : VK} {E : XK} (n1 : 1 ≤ n) (n60 : n ≤ 60) (L : Ld C H a l (Tb n u)) (M : Ld C H b m (Tb n v)) (pu : ∀ i, 0 ≤ u i) (pv : ∀ i, 0 ≤ v i)
    (q : ∀ H', Same H H' → Q (.bl (wth (Tb n u) (Tb n v))) H') : spWth C B [.ref a, .ref b] H Q E :=
  ⟨a, l, b, m, _, _, rfl, L, M, Tb_good n1 n60 pu, Tb_good n1 n60 pv, fun _ H' s => q H' s, fun h => (h (by rw [Tb_len, Tb_len])).elim⟩
theorem wth_readT {C B a l b m : Addr} {n : Nat} {u v : Nat → Int} {H : Hp} {Q : VK} {E : XK} (n1 : 1 ≤ n) (n60 : n ≤ 60) (L : Ld C H a l (Tb n u)) (M : Ld C H b m (Tb n v)) (pu : ∀ i, 0 ≤ u i) (pv : ∀ i, 0 ≤ v i) (h : ∀ i, u i ≤ v i)
    (q : ∀ H', Same H H' → Q (.bl true) H') : spWth C B [.ref a, .ref b] H Q E := by
  refine wth_read n1 n60 L M pu pv fun H' s => ?_
  rw [wth_T h]
  exact q H' s
theorem tC_intro {v : V} {σ : L2.St} {H : Hp} {Q : VK} (h : Q v H) : tC v σ H Q := h
theorem rep_Tb (n : Nat) (b : Int) : List.replicate ((n : Int)).toNat b = Tb n (fun _ => b) := by
  apply List.ext_getElem?
  intro i
  by_cases h : i < n
  · rw [Tb_get h, List.getElem?_replicate, if_pos (by omega)]
  · rw [List.getElem?_eq_none (by rw [List.length_replicate]; omega), List.getElem?_eq_none (by rw [Tb_len]; omega)]
theorem Tb_map (g : Int → Int) (n : Nat) (u : Nat → Int) : (Tb n u).map g = Tb n (fun i => g (u i)) := by
  unfold Tb
  rw [List.map_map]
  rfl
theorem any_T {n : Nat} {u : Nat → Int} (h : ∀ i, u i = 0) : (Tb n u).any (fun z => z != 0) = false := by
  rw [List.any_eq_false]
  intro z hz
  obtain ⟨i, _, rfl⟩ := Tb_mem hz
  simp [h i]
theorem opm_readT {C B a l : Addr} {n : Nat} {u : Nat → Int} {k lo : Int} {g : Int → Int → Int} {H : Hp} {Q : VK} {E : XK} (n1 : 1 ≤ n) (n60 : n ≤ 60) (pg : ∀ x y : Int, 0 ≤ x → lo ≤ y → 0 ≤ g x y) (L : Ld C H a l (Tb n u)) (pu : ∀ i, 0 ≤ u i) (kb : k < 1073741824) (hk : lo ≤ k)
    (q : ∀ x j H', Same H H' → Ld C H' x j (Tb n (fun i => g (u i) k)) → Q (.ref x) H') : spOpI C B lo g [.ref a, .int k] H Q E := by
  refine ⟨a, l, _, k, rfl, L, Tb_good n1 n60 pu, kb, fun _ x j H' s _ _ L' => ?_, fun h => by omega⟩
  rw [Tb_map] at L'
  exact q x j H' s L'
theorem opI_readT {C B a l : Addr} {n : Nat} {u : Nat → Int} {k lo : Int} {g : Int → Int → Int} {H : Hp} {Q : VK} {E : XK} (n1 : 1 ≤ n) (n60 : n ≤ 60) (pg : ∀ x y : Int, 0 ≤ x → lo ≤ y → 0 ≤ g x y) (L : Ld C H a l (Tb n u)) (pu : ∀ i, 0 ≤ u i) (kb : k < 1073741824) (hk : lo ≤ k)
    (q : ∀ x j H', Same H H' → Ld C H' x j (Tb n (fun i => g (u i) k)) → Q (.ref x) H') : rBinOI C (spOpI C B lo g) E (.ref a) (.int k) H Q := by
  obtain ⟨dx, ha, h1⟩ := id L
  exact ⟨a, dx, _, k, rfl, rfl, ha, opm_readT n1 n60 pg L pu kb hk fun x j H' s L' => ⟨x, rfl, q x j H' s L'⟩⟩
theorem rI_readT {C B a l : Addr} {n : Nat} {u : Nat → Int} {k lo : Int} {g : Int → Int → Int} {H : Hp} {Q : VK} {E : XK} (n1 : 1 ≤ n) (n60 : n ≤ 60) (pg : ∀ x y : Int, 0 ≤ x → lo ≤ y → 0 ≤ g x y) (L : Ld C H a l (Tb n u)) (pu : ∀ i, 0 ≤ u i) (kb : k < 1073741824) (hk : lo ≤ k)
    (q : ∀ x j H', Same H H' → Ld C H' x j (Tb n (fun i => g (u i) k)) → Q (.ref x) H') : rMulOI C (spOpI C B lo g) E (.int k) (.ref a) H Q := by
  obtain ⟨dx, ha, h1⟩ := id L
  exact ⟨a, dx, _, k, rfl, rfl, ha, opm_readT n1 n60 pg L pu kb hk fun x j H' s L' => ⟨x, rfl, q x j H' s L'⟩⟩
def spRul (C : Addr) : Sp := fun vs H Q _ => ∃ (a l : Addr) (n : Nat) (u : Nat → Int) (fa mo sm di br ot : Int), vs = [.ref a, .int n, .int fa, .int mo, .int sm, .int di, .int br, .int ot] ∧ Ld C H a l (Tb n u) ∧ 1 ≤ n ∧ n ≤ 60 ∧ (∀ i, 0 ≤ u i) ∧ (∀ i, u i ≤ 1000000000) ∧ Hh fa mo sm di br ot ∧ ∀ H', Same H H' → Q (.bl true) H'
theorem scRul : FnScope ["_law_load", "_law_size_here", "_law_factor", "_law_more", "_law_small", "_law_divisor", "_law_breadth", "_law_other", "_law_flat", "_law_total", "_law_k", "_law_found", "_law_told"] ["_law_load", "_law_size_here", "_law_factor", "_law_more", "_law_small", "_law_divisor", "_law_breadth", "_law_other"] (defScope sRul) := ⟨rfl, rfl, rfl, by decide +kernel, rfl, by decide +kernel, by decide +kernel⟩
theorem ok_rul (T : Tx K mg) : FnOk P w K mg base CX0 9 T.f_law_rules T.d_law_rules ["_law_load", "_law_size_here", "_law_factor", "_law_more", "_law_small", "_law_divisor", "_law_breadth", "_law_other"] (spRul T.C_Load) := by
  have Gmul := ok_mul (P := P) (w := w) (base := base) T
  have Gfdv := ok_fdv (P := P) (w := w) (base := base) T
  have Gmod := ok_mod (P := P) (w := w) (base := base) T
  have Gcap := ok_cap (P := P) (w := w) (base := base) T
  have Grmul := ok_rmul (P := P) (w := w) (base := base) T
  have Gadd := ok_add (P := P) (w := w) (base := base) T
  have Gsub := ok_sub (P := P) (w := w) (base := base) T
  have Gand := ok_and (P := P) (w := w) (base := base) T
  have Gw := ok_within (P := P) (w := w) (base := base) T
  have Geq := ok_eq (P := P) (w := w) (base := base) T
  have Gboo := ok_boo (P := P) (w := w) (base := base) T
  have G_Load := ok_init (P := P) (w := w) (base := base) T
  have GsB := (ok_sameB (P := P) (w := w) (base := base) T).mono (k := 8) (by decide)
  refine T.F_law_rules.ok scRul (fun vs H Q E h => ?_) (fun cdv A outer s H vs Q E hr h => ?_)
  · obtain ⟨a, l, n, u, fa, mo, sm, di, br, ot, rfl, _⟩ := h
    rfl
  · obtain ⟨a, l, n, u, fa, mo, sm, di, br, ot, rfl, LA, n1, n60, pA, bA, hh, q⟩ := h
    have h1 : Room 1 _ := hr.mono (by decide)
    have h3 : Room 3 _ := hr.mono (by decide)
    have h4 : Room 4 _ := hr.mono (by decide)
    have h5 : Room 5 _ := hr.mono (by decide)
    have sAll : Same H H := Same.refl _
    obtain ⟨hfa0, hmo0, hmo1, hfm, hsm0, hsm1, hdi1, hdi2, hbr0, hbr1, hot0, hot1⟩ := id hh
    have hsmmo : 0 ≤ sm * mo := Int.mul_nonneg hsm0 hmo0
    have hsmm2 : sm * mo ≤ 12 * 29 := Int.mul_le_mul hsm1 hmo1 hmo0 (by decide)
    have e9 : (10 : Int) ^ Int.toNat 9 = 1000000000 := by decide
    refine ⟨_, pss_cons (ps_set (i := 8) scRul.nd rfl (.inl rfl) (pe_make T.M_Load G_Load h3 (by rfl) T.g_Load T.bLoad_init .nil passL (pa_cons (pe_op op_rep (pe_lst (pa_cons (pv 6) pa_nil)) (pv 1)) pa_nil)))
      (pss_cons (ps_set (i := 9) scRul.nd rfl (.inl rfl) (pe_make T.M_Load G_Load h3 (by rfl) T.g_Load T.bLoad_init .nil passL (pa_cons (pe_op op_rep (pe_lst (pa_cons pe_int pa_nil)) (pv 1)) pa_nil)))
      (pss_cons (ps_for PassesOwn.never rfl (pi_range1 (by rfl) T.z_range (pa_cons (pv 4) pa_nil)) (pg_name (i := 10) scRul.nd rfl (.inl rfl)) (pss_one (ps_set (i := 9) scRul.nd rfl (.inl rfl) (pe_op (bin_own (E := E0) (name := "__add__") (by decide +kernel) T.m_Load_add T.sf_Load Gadd h4 T.bLoad_add (fun σ => atL)) (pv 9) (pv 0)))))
      (pss_cons (ps_set (i := 11) scRul.nd rfl (.inl rfl) (pe_lst (pa_cons (pe_cmpR (eq_own T.m_Load_eq Geq h1 T.bLoad_eq (fun σ => at0)) (pe_op (bin_ownI (E := E0) (name := "__mul__") (nameR := "__rmul__") (by decide +kernel) (by decide +kernel) T.m_Load_mul T.sf_Load T.m_Load_rmul.at_ (.inr ⟨_, rfl⟩) T.ti_mul T.ti_rmul T.si_Load Gmul h4 T.bLoad_mul (fun σ => atL)) (pv 0) (pv 4)) (pv 9) (nomark _)) (pa_cons (pe_cmpR (eq_own T.m_Load_eq Geq h1 T.bLoad_eq (fun σ => at0)) (pe_op (bin_ownI (E := E0) (name := "__mul__") (nameR := "__rmul__") (by decide +kernel) (by decide +kernel) T.m_Load_mul T.sf_Load T.m_Load_rmul.at_ (.inr ⟨_, rfl⟩) T.ti_mul T.ti_rmul T.si_Load Gmul h4 T.bLoad_mul (fun σ => atL)) (pv 0) (pe_op op_add (pv 2) (pv 3))) (pe_op (bin_own (E := E0) (name := "__add__") (by decide +kernel) T.m_Load_add T.sf_Load Gadd h4 T.bLoad_add (fun σ => atL)) (pe_op (bin_ownI (E := E0) (name := "__mul__") (nameR := "__rmul__") (by decide +kernel) (by decide +kernel) T.m_Load_mul T.sf_Load T.m_Load_rmul.at_ (.inr ⟨_, rfl⟩) T.ti_mul T.ti_rmul T.si_Load Gmul h4 T.bLoad_mul (fun σ => atL)) (pv 0) (pv 2)) (pe_op (rmul_own (E := E0) T.m_Load_mul T.m_Load_rmul T.sf_Load T.sl_Load Grmul h5 T.bLoad_rmul (fun σ => atL)) (pv 3) (pv 0))) (nomark _)) pa_nil))))
      (pss_cons (ps_set (i := 11) scRul.nd rfl (.inl rfl) (pe_op op_cat (pv 11) (pe_lst (pa_cons (pe_cmpR (eq_own T.m_Load_eq Geq h1 T.bLoad_eq (fun σ => at0)) (pe_op (bin_ownI (E := E0) (name := "__mul__") (nameR := "__rmul__") (by decide +kernel) (by decide +kernel) T.m_Load_mul T.sf_Load T.m_Load_rmul.at_ (.inr ⟨_, rfl⟩) T.ti_mul T.ti_rmul T.si_Load Gmul h4 T.bLoad_mul (fun σ => atL)) (pe_op (bin_ownI (E := E0) (name := "__mul__") (nameR := "__rmul__") (by decide +kernel) (by decide +kernel) T.m_Load_mul T.sf_Load T.m_Load_rmul.at_ (.inr ⟨_, rfl⟩) T.ti_mul T.ti_rmul T.si_Load Gmul h4 T.bLoad_mul (fun σ => atL)) (pv 0) (pv 4)) (pv 3)) (pe_op (bin_ownI (E := E0) (name := "__mul__") (nameR := "__rmul__") (by decide +kernel) (by decide +kernel) T.m_Load_mul T.sf_Load T.m_Load_rmul.at_ (.inr ⟨_, rfl⟩) T.ti_mul T.ti_rmul T.si_Load Gmul h4 T.bLoad_mul (fun σ => atL)) (pv 0) (pe_op op_mul (pv 4) (pv 3))) (nomark _)) (pa_cons (pe_cmpR (eq_own T.m_Load_eq Geq h1 T.bLoad_eq (fun σ => at0)) (pe_op (bin_ownI (E := E0) (name := "__mul__") (nameR := "__rmul__") (by decide +kernel) (by decide +kernel) T.m_Load_mul T.sf_Load T.m_Load_rmul.at_ (.inr ⟨_, rfl⟩) T.ti_mul T.ti_rmul T.si_Load Gmul h4 T.bLoad_mul (fun σ => atL)) (pv 0) pe_int) (pe_make T.M_Load G_Load h3 (by rfl) T.g_Load T.bLoad_init .nil passL (pa_cons (pe_op op_rep (pe_lst (pa_cons pe_int pa_nil)) (pv 1)) pa_nil)) (nomark _)) (pa_cons (pe_cmpR (eq_own T.m_Load_eq Geq h1 T.bLoad_eq (fun σ => at0)) (pe_op (bin_ownI (E := E0) (name := "__mul__") (nameR := "__rmul__") (by decide +kernel) (by decide +kernel) T.m_Load_mul T.sf_Load T.m_Load_rmul.at_ (.inr ⟨_, rfl⟩) T.ti_mul T.ti_rmul T.si_Load Gmul h4 T.bLoad_mul (fun σ => atL)) (pv 0) pe_int) (pv 0) (nomark _)) pa_nil))))))
      (pss_cons (ps_set (i := 11) scRul.nd rfl (.inl rfl) (pe_op op_cat (pv 11) (pe_lst (pa_cons (pe_cmpR (eq_own T.m_Load_eq Geq h1 T.bLoad_eq (fun σ => at0)) (pe_op (bin_own (E := E0) (name := "__add__") (by decide +kernel) T.m_Load_add T.sf_Load Gadd h4 T.bLoad_add (fun σ => atL)) (pe_op (bin_ownI (E := E0) (name := "__mul__") (nameR := "__rmul__") (by decide +kernel) (by decide +kernel) T.m_Load_mul T.sf_Load T.m_Load_rmul.at_ (.inr ⟨_, rfl⟩) T.ti_mul T.ti_rmul T.si_Load Gmul h4 T.bLoad_mul (fun σ => atL)) (pe_op (bin_ownI (E := E0) (name := "__floordiv__") (nameR := "__rfloordiv__") (by decide +kernel) (by decide +kernel) T.m_Load_floordiv T.sf_Load T.nr_fdv (.inl rfl) T.ti_fdv T.ti_rfdv T.si_Load Gfdv h4 T.bLoad_floordiv (fun σ => atL)) (pv 0) (pv 5)) (pv 5)) (pe_op (bin_ownI (E := E0) (name := "__mod__") (nameR := "__rmod__") (by decide +kernel) (by decide +kernel) T.m_Load_mod T.sf_Load T.nr_mod (.inl rfl) T.ti_mod T.ti_rmod T.si_Load Gmod h4 T.bLoad_mod (fun σ => atL)) (pv 0) (pv 5))) (pv 0) (nomark _)) (pa_cons (pe_cmpR (eq_own T.m_Load_eq Geq h1 T.bLoad_eq (fun σ => at0)) (pe_op (bin_ownI (E := E0) (name := "__floordiv__") (nameR := "__rfloordiv__") (by decide +kernel) (by decide +kernel) T.m_Load_floordiv T.sf_Load T.nr_fdv (.inl rfl) T.ti_fdv T.ti_rfdv T.si_Load Gfdv h4 T.bLoad_floordiv (fun σ => atL)) (pe_op (bin_ownI (E := E0) (name := "__mul__") (nameR := "__rmul__") (by decide +kernel) (by decide +kernel) T.m_Load_mul T.sf_Load T.m_Load_rmul.at_ (.inr ⟨_, rfl⟩) T.ti_mul T.ti_rmul T.si_Load Gmul h4 T.bLoad_mul (fun σ => atL)) (pv 0) (pv 5)) (pv 5)) (pv 0) (nomark _)) pa_nil)))))
      (pss_cons (ps_set (i := 11) scRul.nd rfl (.inl rfl) (pe_op op_cat (pv 11) (pe_lst (pa_cons (pe_not (pe_callTy (T := "bool") (bool_own T.m_Load_bool Gboo h3 T.bLoad_bool (fun σ => at0)) (by rfl) T.z_bool (by decide +kernel) (pa_cons (pe_op (bin_ownI (E := E0) (name := "__mod__") (nameR := "__rmod__") (by decide +kernel) (by decide +kernel) T.m_Load_mod T.sf_Load T.nr_mod (.inl rfl) T.ti_mod T.ti_rmod T.si_Load Gmod h4 T.bLoad_mod (fun σ => atL)) (pe_op (bin_ownI (E := E0) (name := "__mul__") (nameR := "__rmul__") (by decide +kernel) (by decide +kernel) T.m_Load_mul T.sf_Load T.m_Load_rmul.at_ (.inr ⟨_, rfl⟩) T.ti_mul T.ti_rmul T.si_Load Gmul h4 T.bLoad_mul (fun σ => atL)) (pv 0) (pv 5)) (pv 5)) pa_nil))) (pa_cons (pe_cmpR (eq_own T.m_Load_eq Geq h1 T.bLoad_eq (fun σ => at0)) (pe_op (bin_ownI (E := E0) (name := "__floordiv__") (nameR := "__rfloordiv__") (by decide +kernel) (by decide +kernel) T.m_Load_floordiv T.sf_Load T.nr_fdv (.inl rfl) T.ti_fdv T.ti_rfdv T.si_Load Gfdv h4 T.bLoad_floordiv (fun σ => atL)) (pv 0) pe_int) (pv 0) (nomark _)) (pa_cons (pe_cmpR (eq_own T.m_Load_eq Geq h1 T.bLoad_eq (fun σ => at0)) (pe_meth (pv 0) T.cl_Load T.m_Load_capped Gcap h4 T.bLoad_capped .nil passL (pa_cons (pe_op op_pow pe_int pe_int) pa_nil)) (pv 0) (nomark _)) pa_nil))))))
      (pss_cons (ps_set (i := 11) scRul.nd rfl (.inl rfl) (pe_op op_cat (pv 11) (pe_lst (pa_cons (pe_cmpR (eq_own T.m_Load_eq Geq h1 T.bLoad_eq (fun σ => at0)) (pe_meth (pv 0) T.cl_Load T.m_Load_capped Gcap h4 T.bLoad_capped .nil passL (pa_cons (pv 6) pa_nil)) (pe_op (bin_own (E := E0) (name := "__and__") (by decide +kernel) T.m_Load_and T.sf_Load Gand h4 T.bLoad_and (fun σ => atL)) (pv 0) (pv 8)) (nomark _)) (pa_cons (pe_cmpR (eq_own T.m_Load_eq Geq h1 T.bLoad_eq (fun σ => at0)) (pe_op (bin_own (E := E0) (name := "__add__") (by decide +kernel) T.m_Load_add T.sf_Load Gadd h4 T.bLoad_add (fun σ => atL)) (pe_meth (pv 0) T.cl_Load T.m_Load_capped Gcap h4 T.bLoad_capped .nil passL (pa_cons (pv 6) pa_nil)) (pe_op (bin_own (E := E0) (name := "__sub__") (by decide +kernel) T.m_Load_sub T.sf_Load Gsub h4 T.bLoad_sub (fun σ => atL)) (pv 0) (pv 8))) (pv 0) (nomark _)) pa_nil)))))
      (pss_cons (ps_set (i := 11) scRul.nd rfl (.inl rfl) (pe_op op_cat (pv 11) (pe_lst (pa_cons (pe_cmpR (eq_own T.m_Load_eq Geq h1 T.bLoad_eq (fun σ => at0)) (pe_meth (pe_meth (pv 0) T.cl_Load T.m_Load_capped Gcap h4 T.bLoad_capped .nil passL (pa_cons (pv 6) pa_nil)) T.cl_Load T.m_Load_capped Gcap h4 T.bLoad_capped .nil passL (pa_cons (pv 7) pa_nil)) (pe_meth (pv 0) T.cl_Load T.m_Load_capped Gcap h4 T.bLoad_capped .nil passL (pa_cons (pe_callB (call_min2 rfl) (by rfl) T.z_min (by decide +kernel) (pa_cons (pv 6) (pa_cons (pv 7) pa_nil))) pa_nil)) (nomark _)) pa_nil))))
      (pss_cons (ps_set (i := 11) scRul.nd rfl (.inl rfl) (pe_op op_cat (pv 11) (pe_lst (pa_cons (pe_meth (pe_meth (pv 0) T.cl_Load T.m_Load_capped Gcap h4 T.bLoad_capped .nil passL (pa_cons (pv 6) pa_nil)) T.cl_Load T.m_Load_within Gw h4 T.bLoad_within .nil passL (pa_cons (pv 0) pa_nil)) (pa_cons (pe_meth (pe_op (bin_ownI (E := E0) (name := "__mul__") (nameR := "__rmul__") (by decide +kernel) (by decide +kernel) T.m_Load_mul T.sf_Load T.m_Load_rmul.at_ (.inr ⟨_, rfl⟩) T.ti_mul T.ti_rmul T.si_Load Gmul h4 T.bLoad_mul (fun σ => atL)) (pv 0) (pv 2)) T.cl_Load T.m_Load_within Gw h4 T.bLoad_within .nil passL (pa_cons (pe_op (bin_ownI (E := E0) (name := "__mul__") (nameR := "__rmul__") (by decide +kernel) (by decide +kernel) T.m_Load_mul T.sf_Load T.m_Load_rmul.at_ (.inr ⟨_, rfl⟩) T.ti_mul T.ti_rmul T.si_Load Gmul h4 T.bLoad_mul (fun σ => atL)) (pv 0) (pe_op op_add (pv 2) (pv 3))) pa_nil)) pa_nil)))))
      (pss_cons (ps_set (i := 11) scRul.nd rfl (.inl rfl) (pe_op op_cat (pv 11) (pe_lst (pa_cons (pe_meth (pe_op (bin_ownI (E := E0) (name := "__floordiv__") (nameR := "__rfloordiv__") (by decide +kernel) (by decide +kernel) T.m_Load_floordiv T.sf_Load T.nr_fdv (.inl rfl) T.ti_fdv T.ti_rfdv T.si_Load Gfdv h4 T.bLoad_floordiv (fun σ => atL)) (pv 0) (pv 5)) T.cl_Load T.m_Load_within Gw h4 T.bLoad_within .nil passL (pa_cons (pv 0) pa_nil)) (pa_cons (pe_not (pe_callTy (T := "bool") (bool_own T.m_Load_bool Gboo h3 T.bLoad_bool (fun σ => at0)) (by rfl) T.z_bool (by decide +kernel) (pa_cons (pe_op (bin_ownI (E := E0) (name := "__mod__") (nameR := "__rmod__") (by decide +kernel) (by decide +kernel) T.m_Load_mod T.sf_Load T.nr_mod (.inl rfl) T.ti_mod T.ti_rmod T.si_Load Gmod h4 T.bLoad_mod (fun σ => atL)) (pv 0) pe_int) pa_nil))) pa_nil)))))
      (pss_one (ps_ret (pe_cmpR (op_eqD hr.units) (pe_lc (own := [("_law_told", 12)]) (g := gName 12) rfl scRul.nd (pi_list (pv 11)) (blkOk_by (own := [("_law_told", 12)]) (N := ["_law_load", "_law_size_here", "_law_factor", "_law_more", "_law_small", "_law_divisor", "_law_breadth", "_law_other", "_law_flat", "_law_total", "_law_k", "_law_found", "_law_told"]) (sc := defScope sRul) (by decide +kernel)) (fun _ _ _ _ _ => pg_name (i := 12) scRul.nd rfl (.inl rfl)) (fun _ _ _ _ _ => pts_one (pt_not (pt_val (pe_call GsB hr (by rfl) T.g_law_same T.F_law_same.kp T.b_law_same .nil pass0 (pa_cons (pv 12) (pa_cons pe_bl pa_nil)))))) (fun _ _ _ _ _ => (pv 12))) (pe_lst pa_nil) (nomark _)))))))))))))), ?_⟩
    refine ⟨_, rfl, (by show 1 ≤ sizeLine; decide), fun b1 m1 => ⟨_, rfl, b1, _, _, rfl, rfl, upd_same, by omega, by omega, (by rw [sizeLine_eq]; show 1 * _ ≤ _; omega), fun c1 mm1 => ?_⟩⟩
    rw [rep_ints, rep_Tb]
    have t1 := (same_upd (o := .lst [V.int br]) m1).trans (same_upd (o := .lst ((Tb n (fun _ => br)).map V.int)) mm1)
    refine fun x1 y1 nx1 ny1 ne1 => make_read nx1 ny1 ne1 (.inl (SqL.of upd_same)) (Tb_good n1 n60 (fun _ => hbr0)) fun k1 H1 nk1 _ u1 LF => ?_
    have s1 := t1.trans u1
    have LA := LA.same s1
    have sAll := sAll.trans s1
    have pF : ∀ i : Nat, (0 : Int) ≤ (fun _ : Nat => br) i := fun _ => hbr0
    refine ⟨(by show 1 ≤ sizeLine; decide), fun b2 m2 => ⟨_, rfl, b2, _, _, rfl, rfl, upd_same, by omega, by omega, (by rw [sizeLine_eq]; show 1 * _ ≤ _; omega), fun c2 mm2 => ?_⟩⟩
    rw [rep_ints, rep_Tb]
    have t2 := (same_upd (o := .lst [V.int 0]) m2).trans (same_upd (o := .lst ((Tb n (fun _ => 0)).map V.int)) mm2)
    refine fun x2 y2 nx2 ny2 ne2 => make_read nx2 ny2 ne2 (.inl (SqL.of upd_same)) (Tb_good n1 n60 (fun _ => Int.le_refl 0)) fun k2 H2 nk2 _ u2 LT => ?_
    have s2 := t2.trans u2
    have LA := LA.same s2
    have LF := LF.same s2
    have sAll := sAll.trans s2
    have e00 : (fun j => u j * ((0 : Nat) : Int)) = fun _ : Nat => (0 : Int) := funext fun j => Int.mul_zero _
    refine ⟨_, rfl, _, rfl, by omega, by omega, for_range (lo := 0) (n := sm.toNat) (fun i σ H' => ∃ (v10 : Option V) (xt kt : Addr), σ = [some (.ref a), some (.int n), some (.int fa), some (.int mo), some (.int sm), some (.int di), some (.int br), some (.int ot), some (.ref x1), some (.ref xt), v10, none, none] ∧ Same H2 H' ∧ Ld T.C_Load H' xt kt (Tb n (fun j => u j * (i : Int)))) ⟨none, _, _, rfl, Same.refl _, (by rw [e00]; exact LT)⟩ ?_ ?_⟩
    · rintro i σ H' hi ⟨v10, xt, kt, rfl, sl, Lt⟩
      refine ⟨_, rfl, _, rfl, ?_⟩
      refine op_readT n1 n60 pAdd Lt (LA.same sl) (fun j => Int.mul_nonneg (pA j) (by omega)) pA fun x k H'' s'' L'' => ?_
      refine ⟨_, _, k, rfl, sl.trans s'', ?_⟩
      have e : (fun j => gAdd (u j * (i : Int)) (u j)) = fun j => u j * ((i + 1 : Nat) : Int) := funext fun j => by
        show u j * (i : Int) + u j = u j * ((i : Int) + 1)
        rw [Int.mul_add, Int.mul_one]
      rw [← e]
      exact L''
    rintro σ H0 ⟨v10, xt, kt, rfl, s0, LT⟩
    have esm : ((sm.toNat : Nat) : Int) = sm := Int.toNat_of_nonneg hsm0
    rw [esm] at LT
    have pT : ∀ i : Nat, (0 : Int) ≤ (fun j => u j * sm) i := fun i => Int.mul_nonneg (pA i) hsm0
    have LA := LA.same s0
    have LF := LF.same s0
    have sAll := sAll.trans s0
    refine ⟨_, rfl, ?_⟩
    refine ⟨_, rfl, ?_⟩
    refine opI_readT (k := sm) n1 n60 pMul LA pA (by first | decide | omega | (split <;> omega)) (by first | decide | omega | (split <;> omega)) fun x3 k3 H3 s3 L3 => ?_
    have p3 : ∀ i : Nat, (0 : Int) ≤ _ := fun i => pMul _ sm (pA i) (by first | decide | omega | (split <;> omega))
    have LA := LA.same s3
    have LF := LF.same s3
    have LT := LT.same s3
    have sAll := sAll.trans s3
    refine ⟨_, rfl, ?_⟩
    refine eq_readT L3 LT (fun i => rl_0 _ _ _ _ _ _ _ (pA i) (bA i) hh) ?_
    refine ⟨_, rfl, ?_⟩
    refine ⟨_, rfl, _, rfl, _, _, rfl, rfl, ?_⟩
    refine opI_readT (k := (fa + mo)) n1 n60 pMul LA pA (by first | decide | omega | (split <;> omega)) (by first | decide | omega | (split <;> omega)) fun x4 k4 H4 s4 L4 => ?_
    have p4 : ∀ i : Nat, (0 : Int) ≤ _ := fun i => pMul _ (fa + mo) (pA i) (by first | decide | omega | (split <;> omega))
    have LA := LA.same s4
    have LF := LF.same s4
    have LT := LT.same s4
    have sAll := sAll.trans s4
    refine ⟨_, rfl, ?_⟩
    refine ⟨_, rfl, ?_⟩
    refine opI_readT (k := fa) n1 n60 pMul LA pA (by first | decide | omega | (split <;> omega)) (by first | decide | omega | (split <;> omega)) fun x5 k5 H5 s5 L5 => ?_
    have p5 : ∀ i : Nat, (0 : Int) ≤ _ := fun i => pMul _ fa (pA i) (by first | decide | omega | (split <;> omega))
    have LA := LA.same s5
    have LF := LF.same s5
    have LT := LT.same s5
    have L4 := L4.same s5
    have sAll := sAll.trans s5
    refine ⟨_, rfl, ?_⟩
    refine ⟨_, rfl, ?_⟩
    refine rI_readT (k := mo) n1 n60 pMul LA pA (by first | decide | omega | (split <;> omega)) (by first | decide | omega | (split <;> omega)) fun x6 k6 H6 s6 L6 => ?_
    have p6 : ∀ i : Nat, (0 : Int) ≤ _ := fun i => pMul _ mo (pA i) (by first | decide | omega | (split <;> omega))
    have LA := LA.same s6
    have LF := LF.same s6
    have LT := LT.same s6
    have L4 := L4.same s6
    have L5 := L5.same s6
    have sAll := sAll.trans s6
    refine op_readT n1 n60 (pAdd) L5 L6 p5 p6 fun x7 k7 H7 s7 L7 => ?_
    have p7 := fun i => pAdd _ _ (p5 i) (p6 i)
    have LA := LA.same s7
    have LF := LF.same s7
    have LT := LT.same s7
    have L4 := L4.same s7
    have sAll := sAll.trans s7
    refine eq_readT L4 L7 (fun i => rl_1 _ _ _ _ _ _ _ (pA i) (bA i) hh) ?_
    refine ⟨(by show 2 ≤ sizeLine; rw [sizeLine_eq]; decide), fun e8 ne8 => ?_⟩
    have s8 := same_upd (o := .lst (List.replicate 2 (V.bl true))) ne8
    have hF := (show (upd H7 e8 (.lst (List.replicate 2 (V.bl true)))) e8 = some (.lst (List.replicate 2 (V.bl true))) from upd_same)
    have LA := LA.same s8
    have LF := LF.same s8
    have LT := LT.same s8
    have sAll := sAll.trans s8
    refine ⟨_, rfl, ?_⟩
    refine ⟨_, rfl, ?_⟩
    refine ⟨_, rfl, ?_⟩
    refine opI_readT (k := sm) n1 n60 pMul LA pA (by first | decide | omega | (split <;> omega)) (by first | decide | omega | (split <;> omega)) fun x9 k9 H9 s9 L9 => ?_
    have p9 : ∀ i : Nat, (0 : Int) ≤ _ := fun i => pMul _ sm (pA i) (by first | decide | omega | (split <;> omega))
    have LA := LA.same s9
    have LF := LF.same s9
    have LT := LT.same s9
    have hF := s9 _ _ hF
    have sAll := sAll.trans s9
    refine ⟨_, rfl, ?_⟩
    refine opI_readT (k := mo) n1 n60 pMul L9 p9 (by first | decide | omega | (split <;> omega)) (by first | decide | omega | (split <;> omega)) fun x10 k10 H10 s10 L10 => ?_
    have p10 : ∀ i : Nat, (0 : Int) ≤ _ := fun i => pMul _ mo (p9 i) (by first | decide | omega | (split <;> omega))
    have LA := LA.same s10
    have LF := LF.same s10
    have LT := LT.same s10
    have hF := s10 _ _ hF
    have sAll := sAll.trans s10
    refine ⟨_, rfl, ?_⟩
    refine ⟨_, rfl, _, rfl, _, _, rfl, rfl, .inr ⟨by omega, by omega⟩, ?_⟩
    refine opI_readT (k := (sm * mo)) n1 n60 pMul LA pA (by first | decide | omega | (split <;> omega)) (by first | decide | omega | (split <;> omega)) fun x11 k11 H11 s11 L11 => ?_
    have p11 : ∀ i : Nat, (0 : Int) ≤ _ := fun i => pMul _ (sm * mo) (pA i) (by first | decide | omega | (split <;> omega))
    have LA := LA.same s11
    have LF := LF.same s11
    have LT := LT.same s11
    have L10 := L10.same s11
    have hF := s11 _ _ hF
    have sAll := sAll.trans s11
    refine eq_readT L10 L11 (fun i => rl_2 _ _ _ _ _ _ _ (pA i) (bA i) hh) ?_
    refine ⟨_, rfl, ?_⟩
    refine tC_intro ?_
    refine opI_readT (k := (0 : Int)) n1 n60 pMul LA pA (by first | decide | omega | (split <;> omega)) (by first | decide | omega | (split <;> omega)) fun x12 k12 H12 s12 L12 => ?_
    have p12 : ∀ i : Nat, (0 : Int) ≤ _ := fun i => pMul _ (0 : Int) (pA i) (by first | decide | omega | (split <;> omega))
    have LA := LA.same s12
    have LF := LF.same s12
    have LT := LT.same s12
    have hF := s12 _ _ hF
    have sAll := sAll.trans s12
    refine ⟨(by show 1 ≤ sizeLine; decide), fun b13 m13 => ⟨_, rfl, b13, _, _, rfl, rfl, upd_same, by omega, by omega, (by rw [sizeLine_eq]; show 1 * _ ≤ _; omega), fun c13 mm13 => ?_⟩⟩
    rw [rep_ints, rep_Tb]
    have t13 := (same_upd (o := .lst [V.int 0]) m13).trans (same_upd (o := .lst ((Tb n (fun _ => 0)).map V.int)) mm13)
    refine fun x13 y13 nx13 ny13 ne13 => make_read nx13 ny13 ne13 (.inl (SqL.of upd_same)) (Tb_good n1 n60 (fun _ => Int.le_refl 0)) fun k13 H13 nk13 _ u13 L13 => ?_
    have s13 := t13.trans u13
    have p13 : ∀ i : Nat, (0 : Int) ≤ (fun _ : Nat => (0 : Int)) i := fun _ => Int.le_refl 0
    have LA := LA.same s13
    have LF := LF.same s13
    have LT := LT.same s13
    have L12 := L12.same s13
    have hF := s13 _ _ hF
    have sAll := sAll.trans s13
    refine eq_readT L12 L13 (fun i => rl_3 _ _ _ _ _ _ _ (pA i) (bA i) hh) ?_
    refine ⟨_, rfl, ?_⟩
    refine tC_intro ?_
    refine opI_readT (k := (1 : Int)) n1 n60 pMul LA pA (by first | decide | omega | (split <;> omega)) (by first | decide | omega | (split <;> omega)) fun x14 k14 H14 s14 L14 => ?_
    have p14 : ∀ i : Nat, (0 : Int) ≤ _ := fun i => pMul _ (1 : Int) (pA i) (by first | decide | omega | (split <;> omega))
    have LA := LA.same s14
    have LF := LF.same s14
    have LT := LT.same s14
    have hF := s14 _ _ hF
    have sAll := sAll.trans s14
    refine ⟨_, rfl, ?_⟩
    refine eq_readT L14 LA (fun i => rl_4 _ _ _ _ _ _ _ (pA i) (bA i) hh) ?_
    refine ⟨(by show 3 ≤ sizeLine; rw [sizeLine_eq]; decide), fun e15 ne15 => ?_⟩
    have s15 := same_upd (o := .lst (List.replicate 3 (V.bl true))) ne15
    refine ⟨_, e15, List.replicate 2 (V.bl true), List.replicate 3 (V.bl true), rfl, rfl, s15 _ _ hF, upd_same, (by rw [sizeLine_eq]; decide), fun g15 ng15 => ?_⟩
    have t15 := same_upd (o := .lst (List.replicate 2 (V.bl true) ++ List.replicate 3 (V.bl true))) ng15
    have hF := (show (upd (upd H14 e15 (.lst (List.replicate 3 (V.bl true)))) g15 (.lst (List.replicate 2 (V.bl true) ++ List.replicate 3 (V.bl true)))) g15 = some (.lst (List.replicate 5 (V.bl true))) from upd_same)
    have LA := LA.same s15
    have LF := LF.same s15
    have LT := LT.same s15
    have sAll := sAll.trans s15
    have LA := LA.same t15
    have LF := LF.same t15
    have LT := LT.same t15
    have sAll := sAll.trans t15
    refine ⟨_, rfl, ?_⟩
    refine ⟨_, rfl, ?_⟩
    refine ⟨_, rfl, ?_⟩
    refine opI_readT (k := di) n1 n60 pFdv LA pA (by first | decide | omega | (split <;> omega)) (by first | decide | omega | (split <;> omega)) fun x16 k16 H16 s16 L16 => ?_
    have p16 : ∀ i : Nat, (0 : Int) ≤ _ := fun i => pFdv _ di (pA i) (by first | decide | omega | (split <;> omega))
    have LA := LA.same s16
    have LF := LF.same s16
    have LT := LT.same s16
    have hF := s16 _ _ hF
    have sAll := sAll.trans s16
    refine ⟨_, rfl, ?_⟩
    refine opI_readT (k := di) n1 n60 pMul L16 p16 (by first | decide | omega | (split <;> omega)) (by first | decide | omega | (split <;> omega)) fun x17 k17 H17 s17 L17 => ?_
    have p17 : ∀ i : Nat, (0 : Int) ≤ _ := fun i => pMul _ di (p16 i) (by first | decide | omega | (split <;> omega))
    have LA := LA.same s17
    have LF := LF.same s17
    have LT := LT.same s17
    have hF := s17 _ _ hF
    have sAll := sAll.trans s17
    refine ⟨_, rfl, ?_⟩
    refine ⟨_, rfl, ?_⟩
    refine opI_readT (k := di) n1 n60 pMod LA pA (by first | decide | omega | (split <;> omega)) (by first | decide | omega | (split <;> omega)) fun x18 k18 H18 s18 L18 => ?_
    have p18 : ∀ i : Nat, (0 : Int) ≤ _ := fun i => pMod _ di (pA i) (by first | decide | omega | (split <;> omega))
    have LA := LA.same s18
    have LF := LF.same s18
    have LT := LT.same s18
    have L17 := L17.same s18
    have hF := s18 _ _ hF
    have sAll := sAll.trans s18
    refine op_readT n1 n60 (pAdd) L17 L18 p17 p18 fun x19 k19 H19 s19 L19 => ?_
    have p19 := fun i => pAdd _ _ (p17 i) (p18 i)
    have LA := LA.same s19
    have LF := LF.same s19
    have LT := LT.same s19
    have hF := s19 _ _ hF
    have sAll := sAll.trans s19
    refine ⟨_, rfl, ?_⟩
    refine eq_readT L19 LA (fun i => rl_5 _ _ _ _ _ _ _ (pA i) (bA i) hh) ?_
    refine ⟨_, rfl, ?_⟩
    refine ⟨_, rfl, ?_⟩
    refine opI_readT (k := di) n1 n60 pMul LA pA (by first | decide | omega | (split <;> omega)) (by first | decide | omega | (split <;> omega)) fun x20 k20 H20 s20 L20 => ?_
    have p20 : ∀ i : Nat, (0 : Int) ≤ _ := fun i => pMul _ di (pA i) (by first | decide | omega | (split <;> omega))
    have LA := LA.same s20
    have LF := LF.same s20
    have LT := LT.same s20
    have hF := s20 _ _ hF
    have sAll := sAll.trans s20
    refine ⟨_, rfl, ?_⟩
    refine opI_readT (k := di) n1 n60 pFdv L20 p20 (by first | decide | omega | (split <;> omega)) (by first | decide | omega | (split <;> omega)) fun x21 k21 H21 s21 L21 => ?_
    have p21 : ∀ i : Nat, (0 : Int) ≤ _ := fun i => pFdv _ di (p20 i) (by first | decide | omega | (split <;> omega))
    have LA := LA.same s21
    have LF := LF.same s21
    have LT := LT.same s21
    have hF := s21 _ _ hF
    have sAll := sAll.trans s21
    refine ⟨_, rfl, ?_⟩
    refine eq_readT L21 LA (fun i => rl_6 _ _ _ _ _ _ _ (pA i) (bA i) hh) ?_
    refine ⟨(by show 2 ≤ sizeLine; rw [sizeLine_eq]; decide), fun e22 ne22 => ?_⟩
    have s22 := same_upd (o := .lst (List.replicate 2 (V.bl true))) ne22
    refine ⟨_, e22, List.replicate 5 (V.bl true), List.replicate 2 (V.bl true), rfl, rfl, s22 _ _ hF, upd_same, (by rw [sizeLine_eq]; decide), fun g22 ng22 => ?_⟩
    have t22 := same_upd (o := .lst (List.replicate 5 (V.bl true) ++ List.replicate 2 (V.bl true))) ng22
    have hF := (show (upd (upd H21 e22 (.lst (List.replicate 2 (V.bl true)))) g22 (.lst (List.replicate 5 (V.bl true) ++ List.replicate 2 (V.bl true)))) g22 = some (.lst (List.replicate 7 (V.bl true))) from upd_same)
    have LA := LA.same s22
    have LF := LF.same s22
    have LT := LT.same s22
    have sAll := sAll.trans s22
    have LA := LA.same t22
    have LF := LF.same t22
    have LT := LT.same t22
    have sAll := sAll.trans t22
    refine ⟨_, rfl, ?_⟩
    refine ⟨_, rfl, ?_⟩
    refine ⟨_, rfl, ?_⟩
    refine opI_readT (k := di) n1 n60 pMul LA pA (by first | decide | omega | (split <;> omega)) (by first | decide | omega | (split <;> omega)) fun x23 k23 H23 s23 L23 => ?_
    have p23 : ∀ i : Nat, (0 : Int) ≤ _ := fun i => pMul _ di (pA i) (by first | decide | omega | (split <;> omega))
    have LA := LA.same s23
    have LF := LF.same s23
    have LT := LT.same s23
    have hF := s23 _ _ hF
    have sAll := sAll.trans s23
    refine ⟨_, rfl, ?_⟩
    refine opI_readT (k := di) n1 n60 pMod L23 p23 (by first | decide | omega | (split <;> omega)) (by first | decide | omega | (split <;> omega)) fun x24 k24 H24 s24 L24 => ?_
    have p24 : ∀ i : Nat, (0 : Int) ≤ _ := fun i => pMod _ di (p23 i) (by first | decide | omega | (split <;> omega))
    have LA := LA.same s24
    have LF := LF.same s24
    have LT := LT.same s24
    have hF := s24 _ _ hF
    have sAll := sAll.trans s24
    refine tNil_intro ?_
    obtain ⟨dx25, hx25, _⟩ := id L24
    refine ⟨_, dx25, _, rfl, hx25, _, _, _, rfl, L24, _, rfl, _, rfl, ?_⟩
    rw [any_T (fun i => rl_7 _ _ _ _ _ _ _ (pA i) (bA i) hh)]
    refine ⟨_, rfl, ?_⟩
    refine tC_intro ?_
    refine opI_readT (k := (1 : Int)) n1 n60 pFdv LA pA (by first | decide | omega | (split <;> omega)) (by first | decide | omega | (split <;> omega)) fun x26 k26 H26 s26 L26 => ?_
    have p26 : ∀ i : Nat, (0 : Int) ≤ _ := fun i => pFdv _ (1 : Int) (pA i) (by first | decide | omega | (split <;> omega))
    have LA := LA.same s26
    have LF := LF.same s26
    have LT := LT.same s26
    have hF := s26 _ _ hF
    have sAll := sAll.trans s26
    refine ⟨_, rfl, ?_⟩
    refine eq_readT L26 LA (fun i => rl_8 _ _ _ _ _ _ _ (pA i) (bA i) hh) ?_
    refine ⟨_, rfl, ?_⟩
    obtain ⟨da27, ha27, _⟩ := id LA
    refine ⟨_, da27, _, rfl, ha27, rfl, _, _, rfl, rfl, ⟨by decide, by decide, by decide⟩, ?_⟩
    refine tNil_intro ?_
    refine opm_readT (k := ((10 : Int) ^ Int.toNat 9)) n1 n60 pCap LA pA (by first | decide | omega | (split <;> omega)) (by first | decide | omega | (split <;> omega)) fun x27 k27 H27 s27 L27 => ?_
    have p27 : ∀ i : Nat, (0 : Int) ≤ _ := fun i => pCap _ ((10 : Int) ^ Int.toNat 9) (pA i) (by first | decide | omega | (split <;> omega))
    have LA := LA.same s27
    have LF := LF.same s27
    have LT := LT.same s27
    have hF := s27 _ _ hF
    have sAll := sAll.trans s27
    refine ⟨_, rfl, ?_⟩
    refine eq_readT L27 LA (fun i => rl_9 _ _ _ _ _ _ _ (pA i) (bA i) hh) ?_
    refine ⟨(by show 3 ≤ sizeLine; rw [sizeLine_eq]; decide), fun e28 ne28 => ?_⟩
    have s28 := same_upd (o := .lst (List.replicate 3 (V.bl true))) ne28
    refine ⟨_, e28, List.replicate 7 (V.bl true), List.replicate 3 (V.bl true), rfl, rfl, s28 _ _ hF, upd_same, (by rw [sizeLine_eq]; decide), fun g28 ng28 => ?_⟩
    have t28 := same_upd (o := .lst (List.replicate 7 (V.bl true) ++ List.replicate 3 (V.bl true))) ng28
    have hF := (show (upd (upd H27 e28 (.lst (List.replicate 3 (V.bl true)))) g28 (.lst (List.replicate 7 (V.bl true) ++ List.replicate 3 (V.bl true)))) g28 = some (.lst (List.replicate 10 (V.bl true))) from upd_same)
    have LA := LA.same s28
    have LF := LF.same s28
    have LT := LT.same s28
    have sAll := sAll.trans s28
    have LA := LA.same t28
    have LF := LF.same t28
    have LT := LT.same t28
    have sAll := sAll.trans t28
    refine ⟨_, rfl, ?_⟩
    refine ⟨_, rfl, ?_⟩
    obtain ⟨da29, ha29, _⟩ := id LA
    refine ⟨_, da29, _, rfl, ha29, rfl, _, rfl, ?_⟩
    refine tNil_intro ?_
    refine opm_readT (k := br) n1 n60 pCap LA pA (by first | decide | omega | (split <;> omega)) (by first | decide | omega | (split <;> omega)) fun x29 k29 H29 s29 L29 => ?_
    have p29 : ∀ i : Nat, (0 : Int) ≤ _ := fun i => pCap _ br (pA i) (by first | decide | omega | (split <;> omega))
    have LA := LA.same s29
    have LF := LF.same s29
    have LT := LT.same s29
    have hF := s29 _ _ hF
    have sAll := sAll.trans s29
    refine ⟨_, rfl, ?_⟩
    refine ⟨_, rfl, ?_⟩
    refine op_readT n1 n60 (pAnd) LA LF pA pF fun x30 k30 H30 s30 L30 => ?_
    have p30 := fun i => pAnd _ _ (pA i) (pF i)
    have LA := LA.same s30
    have LF := LF.same s30
    have LT := LT.same s30
    have L29 := L29.same s30
    have hF := s30 _ _ hF
    have sAll := sAll.trans s30
    refine eq_readT L29 L30 (fun i => rl_10 _ _ _ _ _ _ _ (pA i) (bA i) hh) ?_
    refine ⟨_, rfl, ?_⟩
    obtain ⟨da31, ha31, _⟩ := id LA
    refine ⟨_, da31, _, rfl, ha31, rfl, _, rfl, ?_⟩
    refine tNil_intro ?_
    refine opm_readT (k := br) n1 n60 pCap LA pA (by first | decide | omega | (split <;> omega)) (by first | decide | omega | (split <;> omega)) fun x31 k31 H31 s31 L31 => ?_
    have p31 : ∀ i : Nat, (0 : Int) ≤ _ := fun i => pCap _ br (pA i) (by first | decide | omega | (split <;> omega))
    have LA := LA.same s31
    have LF := LF.same s31
    have LT := LT.same s31
    have hF := s31 _ _ hF
    have sAll := sAll.trans s31
    refine ⟨_, rfl, ?_⟩
    refine ⟨_, rfl, ?_⟩
    refine op_readT n1 n60 (pSub) LA LF pA pF fun x32 k32 H32 s32 L32 => ?_
    have p32 := fun i => pSub _ _ (pA i) (pF i)
    have LA := LA.same s32
    have LF := LF.same s32
    have LT := LT.same s32
    have L31 := L31.same s32
    have hF := s32 _ _ hF
    have sAll := sAll.trans s32
    refine op_readT n1 n60 (pAdd) L31 L32 p31 p32 fun x33 k33 H33 s33 L33 => ?_
    have p33 := fun i => pAdd _ _ (p31 i) (p32 i)
    have LA := LA.same s33
    have LF := LF.same s33
    have LT := LT.same s33
    have hF := s33 _ _ hF
    have sAll := sAll.trans s33
    refine ⟨_, rfl, ?_⟩
    refine eq_readT L33 LA (fun i => rl_11 _ _ _ _ _ _ _ (pA i) (bA i) hh) ?_
    refine ⟨(by show 2 ≤ sizeLine; rw [sizeLine_eq]; decide), fun e34 ne34 => ?_⟩
    have s34 := same_upd (o := .lst (List.replicate 2 (V.bl true))) ne34
    refine ⟨_, e34, List.replicate 10 (V.bl true), List.replicate 2 (V.bl true), rfl, rfl, s34 _ _ hF, upd_same, (by rw [sizeLine_eq]; decide), fun g34 ng34 => ?_⟩
    have t34 := same_upd (o := .lst (List.replicate 10 (V.bl true) ++ List.replicate 2 (V.bl true))) ng34
    have hF := (show (upd (upd H33 e34 (.lst (List.replicate 2 (V.bl true)))) g34 (.lst (List.replicate 10 (V.bl true) ++ List.replicate 2 (V.bl true)))) g34 = some (.lst (List.replicate 12 (V.bl true))) from upd_same)
    have LA := LA.same s34
    have LF := LF.same s34
    have LT := LT.same s34
    have sAll := sAll.trans s34
    have LA := LA.same t34
    have LF := LF.same t34
    have LT := LT.same t34
    have sAll := sAll.trans t34
    refine ⟨_, rfl, ?_⟩
    refine ⟨_, rfl, ?_⟩
    obtain ⟨da35, ha35, _⟩ := id LA
    refine ⟨_, da35, _, rfl, ha35, rfl, _, rfl, ?_⟩
    refine tNil_intro ?_
    refine opm_readT (k := br) n1 n60 pCap LA pA (by first | decide | omega | (split <;> omega)) (by first | decide | omega | (split <;> omega)) fun x35 k35 H35 s35 L35 => ?_
    have p35 : ∀ i : Nat, (0 : Int) ≤ _ := fun i => pCap _ br (pA i) (by first | decide | omega | (split <;> omega))
    have LA := LA.same s35
    have LF := LF.same s35
    have LT := LT.same s35
    have hF := s35 _ _ hF
    have sAll := sAll.trans s35
    obtain ⟨da36, ha36, _⟩ := id L35
    refine ⟨_, da36, _, rfl, ha36, rfl, _, rfl, ?_⟩
    refine tNil_intro ?_
    refine opm_readT (k := ot) n1 n60 pCap L35 p35 (by first | decide | omega | (split <;> omega)) (by first | decide | omega | (split <;> omega)) fun x36 k36 H36 s36 L36 => ?_
    have p36 : ∀ i : Nat, (0 : Int) ≤ _ := fun i => pCap _ ot (p35 i) (by first | decide | omega | (split <;> omega))
    have LA := LA.same s36
    have LF := LF.same s36
    have LT := LT.same s36
    have hF := s36 _ _ hF
    have sAll := sAll.trans s36
    refine ⟨_, rfl, ?_⟩
    obtain ⟨da37, ha37, _⟩ := id LA
    refine ⟨_, da37, _, rfl, ha37, rfl, _, rfl, _, rfl, _, _, rfl, ?_⟩
    refine tNil_intro ?_
    refine opm_readT (k := (if ot < br then ot else br)) n1 n60 pCap LA pA (by first | decide | omega | (split <;> omega)) (by first | decide | omega | (split <;> omega)) fun x37 k37 H37 s37 L37 => ?_
    have p37 : ∀ i : Nat, (0 : Int) ≤ _ := fun i => pCap _ (if ot < br then ot else br) (pA i) (by first | decide | omega | (split <;> omega))
    have LA := LA.same s37
    have LF := LF.same s37
    have LT := LT.same s37
    have L36 := L36.same s37
    have hF := s37 _ _ hF
    have sAll := sAll.trans s37
    refine eq_readT L36 L37 (fun i => rl_12 _ _ _ _ _ _ _ (pA i) (bA i) hh) ?_
    refine ⟨(by show 1 ≤ sizeLine; rw [sizeLine_eq]; decide), fun e38 ne38 => ?_⟩
    have s38 := same_upd (o := .lst (List.replicate 1 (V.bl true))) ne38
    refine ⟨_, e38, List.replicate 12 (V.bl true), List.replicate 1 (V.bl true), rfl, rfl, s38 _ _ hF, upd_same, (by rw [sizeLine_eq]; decide), fun g38 ng38 => ?_⟩
    have t38 := same_upd (o := .lst (List.replicate 12 (V.bl true) ++ List.replicate 1 (V.bl true))) ng38
    have hF := (show (upd (upd H37 e38 (.lst (List.replicate 1 (V.bl true)))) g38 (.lst (List.replicate 12 (V.bl true) ++ List.replicate 1 (V.bl true)))) g38 = some (.lst (List.replicate 13 (V.bl true))) from upd_same)
    have LA := LA.same s38
    have LF := LF.same s38
    have LT := LT.same s38
    have sAll := sAll.trans s38
    have LA := LA.same t38
    have LF := LF.same t38
    have LT := LT.same t38
    have sAll := sAll.trans t38
    refine ⟨_, rfl, ?_⟩
    refine ⟨_, rfl, ?_⟩
    obtain ⟨da39, ha39, _⟩ := id LA
    refine ⟨_, da39, _, rfl, ha39, rfl, _, rfl, ?_⟩
    refine tNil_intro ?_
    refine opm_readT (k := br) n1 n60 pCap LA pA (by first | decide | omega | (split <;> omega)) (by first | decide | omega | (split <;> omega)) fun x39 k39 H39 s39 L39 => ?_
    have p39 : ∀ i : Nat, (0 : Int) ≤ _ := fun i => pCap _ br (pA i) (by first | decide | omega | (split <;> omega))
    have LA := LA.same s39
    have LF := LF.same s39
    have LT := LT.same s39
    have hF := s39 _ _ hF
    have sAll := sAll.trans s39
    obtain ⟨da40, ha40, _⟩ := id L39
    refine ⟨_, da40, _, rfl, ha40, rfl, ?_⟩
    refine ⟨_, rfl, ?_⟩
    refine tNil_intro ?_
    refine wth_readT n1 n60 L39 LA p39 pA (fun i => rl_13 _ _ _ _ _ _ _ (pA i) (bA i) hh) fun H40 s40 => ?_
    have LA := LA.same s40
    have LF := LF.same s40
    have LT := LT.same s40
    have hF := s40 _ _ hF
    have sAll := sAll.trans s40
    refine ⟨_, rfl, ?_⟩
    refine ⟨_, rfl, ?_⟩
    refine opI_readT (k := fa) n1 n60 pMul LA pA (by first | decide | omega | (split <;> omega)) (by first | decide | omega | (split <;> omega)) fun x41 k41 H41 s41 L41 => ?_
    have p41 : ∀ i : Nat, (0 : Int) ≤ _ := fun i => pMul _ fa (pA i) (by first | decide | omega | (split <;> omega))
    have LA := LA.same s41
    have LF := LF.same s41
    have LT := LT.same s41
    have hF := s41 _ _ hF
    have sAll := sAll.trans s41
    obtain ⟨da42, ha42, _⟩ := id L41
    refine ⟨_, da42, _, rfl, ha42, rfl, ?_⟩
    refine ⟨_, rfl, ?_⟩
    refine ⟨_, rfl, _, rfl, _, _, rfl, rfl, ?_⟩
    refine opI_readT (k := (fa + mo)) n1 n60 pMul LA pA (by first | decide | omega | (split <;> omega)) (by first | decide | omega | (split <;> omega)) fun x43 k43 H43 s43 L43 => ?_
    have p43 : ∀ i : Nat, (0 : Int) ≤ _ := fun i => pMul _ (fa + mo) (pA i) (by first | decide | omega | (split <;> omega))
    have LA := LA.same s43
    have LF := LF.same s43
    have LT := LT.same s43
    have L41 := L41.same s43
    have hF := s43 _ _ hF
    have sAll := sAll.trans s43
    refine tNil_intro ?_
    refine wth_readT n1 n60 L41 L43 p41 p43 (fun i => rl_14 _ _ _ _ _ _ _ (pA i) (bA i) hh) fun H42 s42 => ?_
    have LA := LA.same s42
    have LF := LF.same s42
    have LT := LT.same s42
    have hF := s42 _ _ hF
    have sAll := sAll.trans s42
    refine ⟨(by show 2 ≤ sizeLine; rw [sizeLine_eq]; decide), fun e44 ne44 => ?_⟩
    have s44 := same_upd (o := .lst (List.replicate 2 (V.bl true))) ne44
    refine ⟨_, e44, List.replicate 13 (V.bl true), List.replicate 2 (V.bl true), rfl, rfl, s44 _ _ hF, upd_same, (by rw [sizeLine_eq]; decide), fun g44 ng44 => ?_⟩
    have t44 := same_upd (o := .lst (List.replicate 13 (V.bl true) ++ List.replicate 2 (V.bl true))) ng44
    have hF := (show (upd (upd H42 e44 (.lst (List.replicate 2 (V.bl true)))) g44 (.lst (List.replicate 13 (V.bl true) ++ List.replicate 2 (V.bl true)))) g44 = some (.lst (List.replicate 15 (V.bl true))) from upd_same)
    have LA := LA.same s44
    have LF := LF.same s44
    have LT := LT.same s44
    have sAll := sAll.trans s44
    have LA := LA.same t44
    have LF := LF.same t44
    have LT := LT.same t44
    have sAll := sAll.trans t44
    refine ⟨_, rfl, ?_⟩
    refine ⟨_, rfl, ?_⟩
    refine ⟨_, rfl, ?_⟩
    refine opI_readT (k := di) n1 n60 pFdv LA pA (by first | decide | omega | (split <;> omega)) (by first | decide | omega | (split <;> omega)) fun x45 k45 H45 s45 L45 => ?_
    have p45 : ∀ i : Nat, (0 : Int) ≤ _ := fun i => pFdv _ di (pA i) (by first | decide | omega | (split <;> omega))
    have LA := LA.same s45
    have LF := LF.same s45
    have LT := LT.same s45
    have hF := s45 _ _ hF
    have sAll := sAll.trans s45
    obtain ⟨da46, ha46, _⟩ := id L45
    refine ⟨_, da46, _, rfl, ha46, rfl, ?_⟩
    refine ⟨_, rfl, ?_⟩
    refine tNil_intro ?_
    refine wth_readT n1 n60 L45 LA p45 pA (fun i => rl_15 _ _ _ _ _ _ _ (pA i) (bA i) hh) fun H46 s46 => ?_
    have LA := LA.same s46
    have LF := LF.same s46
    have LT := LT.same s46
    have hF := s46 _ _ hF
    have sAll := sAll.trans s46
    refine ⟨_, rfl, ?_⟩
    refine tC_intro ?_
    refine opI_readT (k := (1 : Int)) n1 n60 pMod LA pA (by first | decide | omega | (split <;> omega)) (by first | decide | omega | (split <;> omega)) fun x47 k47 H47 s47 L47 => ?_
    have p47 : ∀ i : Nat, (0 : Int) ≤ _ := fun i => pMod _ (1 : Int) (pA i) (by first | decide | omega | (split <;> omega))
    have LA := LA.same s47
    have LF := LF.same s47
    have LT := LT.same s47
    have hF := s47 _ _ hF
    have sAll := sAll.trans s47
    refine tNil_intro ?_
    obtain ⟨dx48, hx48, _⟩ := id L47
    refine ⟨_, dx48, _, rfl, hx48, _, _, _, rfl, L47, _, rfl, _, rfl, ?_⟩
    rw [any_T (fun i => rl_16 _ _ _ _ _ _ _ (pA i) (bA i) hh)]
    refine ⟨(by show 2 ≤ sizeLine; rw [sizeLine_eq]; decide), fun e49 ne49 => ?_⟩
    have s49 := same_upd (o := .lst (List.replicate 2 (V.bl true))) ne49
    refine ⟨_, e49, List.replicate 15 (V.bl true), List.replicate 2 (V.bl true), rfl, rfl, s49 _ _ hF, upd_same, (by rw [sizeLine_eq]; decide), fun g49 ng49 => ?_⟩
    have t49 := same_upd (o := .lst (List.replicate 15 (V.bl true) ++ List.replicate 2 (V.bl true))) ng49
    have hF := (show (upd (upd H47 e49 (.lst (List.replicate 2 (V.bl true)))) g49 (.lst (List.replicate 15 (V.bl true) ++ List.replicate 2 (V.bl true)))) g49 = some (.lst (List.replicate 17 (V.bl true))) from upd_same)
    have LA := LA.same s49
    have LF := LF.same s49
    have LT := LT.same s49
    have sAll := sAll.trans s49
    have LA := LA.same t49
    have LF := LF.same t49
    have LT := LT.same t49
    have sAll := sAll.trans t49
    refine ⟨_, rfl, _, rfl, ⟨_, SqL.of hF⟩, fun D nD => ?_⟩
    refine lc_list (K := K) (xs := List.replicate 17 (V.bl true)) (fun j H' => Same _ H' ∧ H' D = some (.lst [])) ⟨same_upd nD, upd_same⟩ (fun j H' _ h => SqL.of (h.1 _ _ hF)) ?_ ?_
    · rintro j y H' hy ⟨sj, hD⟩
      have ey : y = .bl true := List.eq_of_mem_replicate (List.mem_of_getElem? hy)
      subst ey
      refine ⟨rfl, ?_⟩
      exact ⟨_, rfl, true, rfl, _, rfl, iteF ⟨sj, hD⟩⟩
    · rintro H' ⟨sj, hD⟩
      refine ⟨Nat.zero_le _, fun em nem => ?_⟩
      have s2 := same_upd (o := .lst []) nem
      refine rq_ints (ns := []) (ms := []) (SqL.of (s2 _ _ hD)) (SqL.of upd_same) ?_
      exact q _ ((sAll.trans sj).trans s2)
end
end D2

namespace D2
open PySem PySem.Spec PyProof.Rows L2 KO
theorem Ld.eqp {C : Addr} {H H' : Hp} {a l p : Addr} {ns : List Int} (h : Ld C H a l ns) (lp : l ≠ p) (hp : Pool H p) (e : Eqp p H H') : Ld C H' a l ns := by
  obtain ⟨dx, h1, h2⟩ := h
  obtain ⟨x, f, c, h3⟩ := hp
  refine ⟨dx, ?_, ?_⟩
  · rw [e a (ne_of h1 h3 (by intro z; cases z))]
    exact h1
  · rw [e l lp]
    exact h2
section
variable {P : Program} {w : World} {K : PySem.W.Frag} {mg : Str → Option Value} {base : Heap}
def spCount2 : Sp := fun vs H Q _ => ∃ p : Addr, vs = [.ref p] ∧ Pool H p ∧ ∀ H' (n : Int), 0 ≤ n → n ≤ 1000000000 → Pool H' p → Eqp p H H' → Q (.int n) H'
theorem scCount2 : FnScope ["_law_pool_here"] ["_law_pool_here"] (defScope sCount) := ⟨rfl, rfl, rfl, by decide +kernel, rfl, by decide +kernel, by decide +kernel⟩
theorem ok_count2 (T : Tx K mg) : FnOk P w K mg base CX0 2 T.f_law_count T.d_law_count ["_law_pool_here"] spCount2 := by
  have G_law_take := ok_take (P := P) (w := w) (base := base) T
  refine T.F_law_count.ok scCount2 (fun vs H Q E h => ?_) (fun cdv A outer s H vs Q E hr h => ?_)
  · obtain ⟨p, rfl, _⟩ := h
    rfl
  · obtain ⟨p, rfl, hp, q⟩ := h
    refine ⟨_, pss_cons (ps_if (pt_cmpR op_eq (pe_call G_law_take hr (by rfl) T.g_law_take T.F_law_take.kp T.b_law_take .nil pass0 (pa_cons (pv 0) (pa_cons pe_int pa_nil))) pe_int (nomark _)) (pss_one (ps_ret (pe_call G_law_take hr (by rfl) T.g_law_take T.F_law_take.kp T.b_law_take .nil pass0 (pa_cons (pv 0) (pa_cons (pe_op op_add (pe_op op_pow pe_int pe_int) pe_int) pa_nil))))) (pss_nil))
      (pss_one (ps_ret (pe_call G_law_take hr (by rfl) T.g_law_take T.F_law_take.kp T.b_law_take .nil pass0 (pa_cons (pv 0) (pa_cons pe_int pa_nil))))), ?_⟩
    refine ⟨_, rfl, p, _, rfl, hp, by decide, by decide, fun H1 r _ _ hp1 k1 => ⟨rfl, _, rfl, iteDs (fun _ => ?_) (fun _ => ?_)⟩⟩
    · refine ⟨_, rfl, _, _, rfl, rfl, ⟨by decide, by decide, by decide⟩, _, _, rfl, rfl, p, _, rfl, hp1, by decide, by decide, fun H2 r2 h0 h1 hp2 k2 => ?_⟩
      have e9 : (10 : Int) ^ Int.toNat 9 = 1000000000 := by decide
      exact q _ _ (by omega) (by omega) hp2 (Eqp.trans k1 k2)
    · refine ⟨_, rfl, p, _, rfl, hp1, by decide, by decide, fun H2 r2 h0 h1 hp2 k2 => ?_⟩
      have e9 : (10 : Int) ^ Int.toNat 9 = 1000000000 := by decide
      exact q _ _ (by omega) (by omega) hp2 (Eqp.trans k1 k2)
def spLaw (K : PySem.W.Frag) : Sp := fun vs H Q _ => ∃ (a : Addr) (ns : List Int), vs = [.ref a] ∧ SqL K H a (ns.map V.int) ∧ ns.length ≤ 63 ∧ ∀ H', Q (.bl true) H'
theorem scLaw : FnScope ["_law_script", "_law_pool_here", "_law_size_here", "_law_k", "_law_counts", "_law_load", "_law_factor", "_law_more", "_law_small", "_law_divisor", "_law_breadth", "_law_other", "_law_low", "_law_due", "_law_way", "_law_count_here"] ["_law_script"] (defScope sLaw) := ⟨rfl, rfl, rfl, by decide +kernel, rfl, by decide +kernel, by decide +kernel⟩
theorem ok_law (T : Tx K mg) : FnOk P w K mg base CX0 14 T.flaw T.dlaw ["_law_script"] (spLaw K) := by
  have G_law_pool := (ok_pool (P := P) (w := w) (base := base) T).mono (k := 12) (by decide)
  have G_law_size := (ok_size (P := P) (w := w) (base := base) T).mono (k := 12) (by decide)
  have G_law_count := (ok_count2 (P := P) (w := w) (base := base) T).mono (k := 12) (by decide)
  have G_law_take := (ok_take (P := P) (w := w) (base := base) T).mono (k := 12) (by decide)
  have G_law_number := (ok_num (P := P) (w := w) (base := base) T).mono (k := 12) (by decide)
  have G_law_shared := (ok_shd (P := P) (w := w) (base := base) T).mono (k := 12) (by decide)
  have G_law_fresh := (ok_fsh (P := P) (w := w) (base := base) T).mono (k := 12) (by decide)
  have G_law_rules := (ok_rul (P := P) (w := w) (base := base) T).mono (k := 12) (by decide)
  have G_law_refuses := (ok_rf (P := P) (w := w) (base := base) T).mono (k := 12) (by decide)
  have G_law_made := (ok_made (P := P) (w := w) (base := base) T).mono (k := 12) (by decide)
  have G_law_is_load := (ok_isl (P := P) (w := w) (base := base) T).mono (k := 12) (by decide)
  have Gmul := ok_mul (P := P) (w := w) (base := base) T
  have Gcap := ok_cap (P := P) (w := w) (base := base) T
  have Grmul := ok_rmul (P := P) (w := w) (base := base) T
  have G_Load := ok_init (P := P) (w := w) (base := base) T
  refine T.Flaw.ok scLaw (fun vs H Q E h => ?_) (fun cdv A outer s H vs Q E hr0 h => ?_)
  · obtain ⟨a, ns, rfl, _⟩ := h
    rfl
  · obtain ⟨sa, ns, rfl, hS, hlen, q⟩ := h
    have hr : Room 12 _ := hr0.mono (by decide)
    have h3 : Room 3 _ := hr0.mono (by decide)
    have h4 : Room 4 _ := hr0.mono (by decide)
    have h5 : Room 5 _ := hr0.mono (by decide)
    refine ⟨_, pss_cons (ps_set (i := 1) scLaw.nd rfl (.inr rfl) (pe_call G_law_pool hr (by rfl) T.g_law_pool T.F_law_pool.kp T.b_law_pool .nil pass0 (pa_cons (pv 0) (pa_cons pe_int pa_nil))))
      (pss_cons (ps_set (i := 2) scLaw.nd rfl (.inl rfl) (pe_call G_law_size hr (by rfl) T.g_law_size T.F_law_size.kp T.b_law_size .nil pass0 (pa_cons (pv 1) pa_nil)))
      (pss_cons (ps_setLc (i := 4) (own := [("_law_k", 3)]) (g := gName 3) rfl scLaw.nd rfl rfl (sw_true rfl rfl rfl (by decide +kernel)) (pi_range1 (by rfl) T.z_range (pa_cons (pv 2) pa_nil)) (blkOk_by (own := [("_law_k", 3)]) (N := ["_law_script", "_law_pool_here", "_law_size_here", "_law_k", "_law_counts", "_law_load", "_law_factor", "_law_more", "_law_small", "_law_divisor", "_law_breadth", "_law_other", "_law_low", "_law_due", "_law_way", "_law_count_here"]) (sc := defScope sLaw) (by decide +kernel)) (fun _ _ _ _ _ => pg_name (i := 3) scLaw.nd rfl (.inl rfl)) (fun _ _ _ _ _ => pts_nil) (fun _ _ _ _ _ => (pe_call G_law_count hr (by rfl) T.g_law_count T.F_law_count.kp T.b_law_count .nil pass0 (pa_cons (pv 1) pa_nil))))
      (pss_cons (ps_set (i := 5) scLaw.nd rfl (.inl rfl) (pe_make T.M_Load G_Load h3 (by rfl) T.g_Load T.bLoad_init .nil passL (pa_cons (pe_callTy (T := "list") call_list_of (by rfl) T.z_list (by decide +kernel) (pa_cons (pv 4) pa_nil)) pa_nil)))
      (pss_cons (ps_set (i := 1) scLaw.nd rfl (.inr rfl) (pe_call G_law_pool hr (by rfl) T.g_law_pool T.F_law_pool.kp T.b_law_pool .nil pass0 (pa_cons (pv 0) (pa_cons pe_int pa_nil))))
      (pss_cons (ps_set (i := 6) scLaw.nd rfl (.inl rfl) (pe_call G_law_number hr (by rfl) T.g_law_number T.F_law_number.kp T.b_law_number .nil pass0 (pa_cons (pv 1) (pa_cons pe_int pa_nil))))
      (pss_cons (ps_set (i := 7) scLaw.nd rfl (.inl rfl) (pe_call G_law_take hr (by rfl) T.g_law_take T.F_law_take.kp T.b_law_take .nil pass0 (pa_cons (pv 1) (pa_cons pe_int pa_nil))))
      (pss_cons (ps_set (i := 6) scLaw.nd rfl (.inl rfl) (pe_callB (call_min2 rfl) (by rfl) T.z_min (by decide +kernel) (pa_cons (pv 6) (pa_cons (pe_op op_sub (pe_op op_pow pe_int pe_int) (pv 7)) pa_nil))))
      (pss_cons (ps_set (i := 8) scLaw.nd rfl (.inl rfl) (pe_call G_law_take hr (by rfl) T.g_law_take T.F_law_take.kp T.b_law_take .nil pass0 (pa_cons (pv 1) (pa_cons pe_int pa_nil))))
      (pss_cons (ps_set (i := 9) scLaw.nd rfl (.inl rfl) (pe_callB (call_max2 rfl) (by rfl) T.z_max (by decide +kernel) (pa_cons pe_int (pa_cons (pe_call G_law_number hr (by rfl) T.g_law_number T.F_law_number.kp T.b_law_number .nil pass0 (pa_cons (pv 1) (pa_cons pe_int pa_nil))) pa_nil))))
      (pss_cons (ps_set (i := 10) scLaw.nd rfl (.inl rfl) (pe_call G_law_number hr (by rfl) T.g_law_number T.F_law_number.kp T.b_law_number .nil pass0 (pa_cons (pv 1) (pa_cons pe_int pa_nil))))
      (pss_cons (ps_set (i := 11) scLaw.nd rfl (.inl rfl) (pe_call G_law_number hr (by rfl) T.g_law_number T.F_law_number.kp T.b_law_number .nil pass0 (pa_cons (pv 1) (pa_cons pe_int pa_nil))))
      (pss_cons (ps_set (i := 12) scLaw.nd rfl (.inl rfl) (pe_op op_sub (pe_un un_neg pe_int) (pe_call G_law_take hr (by rfl) T.g_law_take T.F_law_take.kp T.b_law_take .nil pass0 (pa_cons (pv 1) (pa_cons (pe_op op_pow pe_int pe_int) pa_nil)))))
      (pss_cons (ps_for PassesOwn.never rfl (pi_list (pe_lst (pa_cons (pv 6) (pa_cons (pv 7) (pa_cons (pv 8) pa_nil))))) (pg_name (i := 3) scLaw.nd rfl (.inr rfl)) (pss_cons (ps_setLc (i := 13) (own := [("_law_count_here", 15)]) (g := gName 15) rfl scLaw.nd rfl rfl (sw_true rfl rfl rfl (by decide +kernel)) (pi_list (pv 4)) (blkOk_by (own := [("_law_count_here", 15)]) (N := ["_law_script", "_law_pool_here", "_law_size_here", "_law_k", "_law_counts", "_law_load", "_law_factor", "_law_more", "_law_small", "_law_divisor", "_law_breadth", "_law_other", "_law_low", "_law_due", "_law_way", "_law_count_here"]) (sc := defScope sLaw) (by decide +kernel)) (fun _ _ _ _ _ => pg_name (i := 15) scLaw.nd rfl (.inl rfl)) (fun _ _ _ _ _ => pts_nil) (fun _ _ _ _ _ => (pe_op op_mul (pv 15) (pv 3)))) (pss_one (ps_if (PW.pt (pw_or (pt_not (pt_val (pe_call G_law_is_load hr (by rfl) T.g_law_is_load T.F_law_is_load.kp T.b_law_is_load .nil pass0 (pa_cons (pe_op (bin_ownI (E := E0) (name := "__mul__") (nameR := "__rmul__") (by decide +kernel) (by decide +kernel) T.m_Load_mul T.sf_Load T.m_Load_rmul.at_ (.inr ⟨_, rfl⟩) T.ti_mul T.ti_rmul T.si_Load Gmul h4 T.bLoad_mul (fun σ => atL)) (pv 5) (pv 3)) (pa_cons (pv 13) pa_nil))))) (pw_or1 (pt_not (pt_val (pe_call G_law_is_load hr (by rfl) T.g_law_is_load T.F_law_is_load.kp T.b_law_is_load .nil pass0 (pa_cons (pe_op (rmul_own (E := E0) T.m_Load_mul T.m_Load_rmul T.sf_Load T.sl_Load Grmul h5 T.bLoad_rmul (fun σ => atL)) (pv 3) (pv 5)) (pa_cons (pv 13) pa_nil)))))))) (pss_one ps_never) pss_nil))))
      (pss_cons (ps_for PassesOwn.never rfl (pi_list (pe_lst (pa_cons (pv 10) (pa_cons (pv 11) pa_nil)))) (pg_name (i := 3) scLaw.nd rfl (.inr rfl)) (pss_one (ps_if (pt_not (pt_val (pe_call G_law_is_load hr (by rfl) T.g_law_is_load T.F_law_is_load.kp T.b_law_is_load .nil pass0 (pa_cons (pe_meth (pv 5) T.cl_Load T.m_Load_capped Gcap h4 T.bLoad_capped .nil passL (pa_cons (pv 3) pa_nil)) (pa_cons (pe_lc (own := [("_law_count_here", 15)]) (g := gName 15) rfl scLaw.nd (pi_list (pv 4)) (blkOk_by (own := [("_law_count_here", 15)]) (N := ["_law_script", "_law_pool_here", "_law_size_here", "_law_k", "_law_counts", "_law_load", "_law_factor", "_law_more", "_law_small", "_law_divisor", "_law_breadth", "_law_other", "_law_low", "_law_due", "_law_way", "_law_count_here"]) (sc := defScope sLaw) (by decide +kernel)) (fun _ _ _ _ _ => pg_name (i := 15) scLaw.nd rfl (.inl rfl)) (fun _ _ _ _ _ => pts_nil) (fun _ _ _ _ _ => (pe_callB (call_min2 rfl) (by rfl) T.z_min (by decide +kernel) (pa_cons (pv 15) (pa_cons (pv 3) pa_nil))))) pa_nil))))) (pss_one ps_never) pss_nil)))
      (pss_cons (ps_if (PW.pt (pw_or (pt_not (pt_val (pe_call G_law_shared hr (by rfl) T.g_law_shared T.F_law_shared.kp T.b_law_shared .nil pass0 (pa_cons (pv 5) (pa_cons (pv 4) (pa_cons (pv 9) pa_nil)))))) (pw_or1 (pt_not (pt_val (pe_call G_law_shared hr (by rfl) T.g_law_shared T.F_law_shared.kp T.b_law_shared .nil pass0 (pa_cons (pv 5) (pa_cons (pv 4) (pa_cons (pe_op op_add pe_int (pv 8)) pa_nil))))))))) (pss_one ps_never) pss_nil)
      (pss_cons (ps_if (PW.pt (pw_or (pt_not (pt_val (pe_call G_law_fresh hr (by rfl) T.g_law_fresh T.F_law_fresh.kp T.b_law_fresh .nil pass0 (pa_cons (pv 5) (pa_cons (pv 4) pa_nil))))) (pw_or1 (pt_not (pt_val (pe_call G_law_rules hr (by rfl) T.g_law_rules T.F_law_rules.kp T.b_law_rules .nil pass0 (pa_cons (pv 5) (pa_cons (pv 2) (pa_cons (pv 6) (pa_cons (pv 7) (pa_cons (pv 8) (pa_cons (pv 9) (pa_cons (pv 10) (pa_cons (pv 11) pa_nil)))))))))))))) (pss_one ps_never) pss_nil)
      (pss_cons (ps_for PassesOwn.never rfl (pi_range1 (by rfl) T.z_range (pa_cons pe_int pa_nil)) (pg_name (i := 14) scLaw.nd rfl (.inl rfl)) (pss_cons (ps_if (PW.pt (pw_or (pt_not (pt_val (pe_call G_law_refuses hr (by rfl) T.g_law_refuses T.F_law_refuses.kp T.b_law_refuses .nil pass0 (pa_cons (pv 14) (pa_cons (pv 5) (pa_cons (pe_un un_neg pe_int) pa_nil)))))) (pw_or1 (pt_not (pt_val (pe_call G_law_refuses hr (by rfl) T.g_law_refuses T.F_law_refuses.kp T.b_law_refuses .nil pass0 (pa_cons (pv 14) (pa_cons (pv 5) (pa_cons (pv 12) pa_nil))))))))) (pss_one ps_never) pss_nil) (pss_cons (ps_if (PW.pt (pw_and (pt_cmpR op_gt (pv 14) pe_int (nomark _)) (pw_and1 (pt_not (pt_val (pe_call G_law_refuses hr (by rfl) T.g_law_refuses T.F_law_refuses.kp T.b_law_refuses .nil pass0 (pa_cons (pv 14) (pa_cons (pv 5) (pa_cons pe_int pa_nil))))))))) (pss_one ps_never) pss_nil) (pss_one (ps_if (PW.pt (pw_and (pt_cmpR op_lt (pv 14) pe_int (nomark _)) (pw_and1 (pt_not (pt_val (pe_call G_law_is_load hr (by rfl) T.g_law_is_load T.F_law_is_load.kp T.b_law_is_load .nil pass0 (pa_cons (pe_call G_law_made hr (by rfl) T.g_law_made T.F_law_made.kp T.b_law_made .nil passL (pa_cons (pv 14) (pa_cons (pv 5) (pa_cons pe_int pa_nil)))) (pa_cons (pe_op op_rep (pe_lst (pa_cons pe_int pa_nil)) (pv 2)) pa_nil)))))))) (pss_one ps_never) pss_nil)))))
      (pss_one (ps_ret (pe_call G_law_is_load hr (by rfl) T.g_law_is_load T.F_law_is_load.kp T.b_law_is_load .nil pass0 (pa_cons (pv 5) (pa_cons (pv 4) pa_nil)))))))))))))))))))))), ?_⟩
    refine ⟨_, rfl, sa, ns, 0, rfl, hS, Nat.zero_le _, fun H1 p p0 s1 hp1 => ?_⟩
    refine ⟨_, rfl, p, rfl, hp1, fun H2 n0 n1 n60 hp2 e2 => ?_⟩
    obtain ⟨n, rfl⟩ : ∃ j : Nat, n0 = (j : Int) := ⟨n0.toNat, by omega⟩
    have s2 := Same.eqp s1 e2 p0
    refine ⟨_, rfl, _, rfl, by omega, by omega, fun D nD => ?_⟩
    have Dp : D ≠ p := hp2.ne nD
    refine lc_range (lo := 0) (n := n) (fun i H' => ∃ cs : List Int, cs.length = i ∧ (∀ c ∈ cs, 0 ≤ c ∧ c ≤ 1000000000) ∧ H' D = some (.lst (cs.map V.int)) ∧ Pool H' p ∧ Same H H') ⟨[], rfl, by simp, upd_same, hp2.upd Dp, Same.put s2 (s2.free nD)⟩ ?_ ?_
    · rintro i H3 hi ⟨cs, ecs, hcs, hD, hp3, s3⟩
      refine ⟨rfl, keepT ?_⟩
      refine ⟨_, rfl, p, rfl, hp3, fun H4 c c0 c9 hp4 e4 => ?_⟩
      have hD4 : H4 D = some (.lst (cs.map V.int)) := Pool.eq e4 Dp hD
      refine ⟨_, hD4, by rw [List.length_map, sizeLine_eq]; omega, cs ++ [c], by rw [List.length_append, ecs]; rfl, fun z hz => ?_, ?_, hp4.upd Dp, Same.put (Same.eqp s3 e4 p0) (s2.free nD)⟩
      · rcases List.mem_append.mp hz with h | h
        · exact hcs z h
        · rw [List.mem_singleton.mp h]
          exact ⟨c0, c9⟩
      · rw [upd_same, List.map_append]
        rfl
    · rintro H3 ⟨cs, ecs, hcs, hD, hp3, s3⟩
      have hg : good cs := ⟨by omega, fun z hz => (hcs z hz).1⟩
      refine ⟨_, rfl, D, _, rfl, .inl (SqL.of hD), fun q1 m4 => ?_⟩
      have t4 := same_upd (o := .lst (cs.map V.int)) m4
      refine fun x1 y1 nx1 ny1 ne1 => make_read nx1 ny1 ne1 (.inl (SqL.of upd_same)) hg fun j1 H5 nj1 _ u5 L1 => ?_
      have s35 := t4.trans u5
      have s5 := s3.trans s35
      have hD5 := s35 _ _ hD
      -- the second pool and the numbers
      refine ⟨_, rfl, sa, ns, 1, rfl, Same.seq s5 hS, by decide, fun H6 p2 p20 s6 hp6 => ?_⟩
      have jat := L1.at
      have L1 := L1.same s6
      have hD6 := s6 _ _ hD5
      have jp : j1 ≠ p2 := ne_of_none jat p20
      have Dp2 : D ≠ p2 := ne_of_none hD5 p20
      refine ⟨_, rfl, p2, 12, rfl, hp6, by decide, by decide, fun H7 f f0 f9 p7 e7 => ?_⟩
      refine ⟨_, rfl, p2, 30, rfl, p7, by decide, by decide, fun H8 mo mo0 mo30 p8 e8 => ?_⟩
      have e9 : (10 : Int) ^ Int.toNat 9 = 1000000000 := by decide
      obtain ⟨fa, hfa, fa0, fm⟩ : ∃ fa : Int, fa = (if (10 : Int) ^ Int.toNat 9 - mo < f then (10 : Int) ^ Int.toNat 9 - mo else f) ∧ 0 ≤ fa ∧ fa + mo ≤ 1000000000 := ⟨_, rfl, by rw [e9]; split <;> omega, by rw [e9]; split <;> omega⟩
      refine ⟨_, rfl, _, _, rfl, rfl, ⟨by decide, by decide, by decide⟩, _, rfl, _, _, rfl, rfl, _, _, rfl, ?_⟩
      dsimp only
      rw [← hfa]
      clear hfa
      refine ⟨_, rfl, p2, 13, rfl, p8, by decide, by decide, fun H9 sm sm0 sm13 p9 e9' => ?_⟩
      refine ⟨_, rfl, p2, 12, rfl, p9, by decide, by decide, fun H10 d d0 d9 p10 e10 => ⟨_, _, rfl, ?_⟩⟩
      obtain ⟨di, hdi, di1, di2⟩ : ∃ di : Int, di = (if d > 1 then d else 1) ∧ 1 ≤ di ∧ di ≤ 1000000000 := ⟨_, rfl, by split <;> omega, by split <;> omega⟩
      rw [← hdi]
      clear hdi
      refine ⟨_, rfl, p2, 5, rfl, p10, by decide, by decide, fun H11 br br0 br9 p11 e11 => ?_⟩
      refine ⟨_, rfl, p2, 5, rfl, p11, by decide, by decide, fun H12 ot ot0 ot9 p12 e12 => ?_⟩
      refine ⟨_, rfl, _, rfl, _, _, rfl, rfl, ⟨by decide, by decide, by decide⟩, p2, _, rfl, p12, by decide, by decide, fun H13 lw0 lw00 lw9 p13 e13 => ⟨_, _, rfl, rfl, ?_⟩⟩
      have ee : Eqp p2 H6 H13 := ((((((Eqp.trans e7 e8).trans e9').trans e10).trans e11).trans e12).trans e13)
      have L1 := L1.eqp jp hp6 ee
      have hD13 := Pool.eq ee Dp2 hD6
      obtain ⟨dx, hx, _⟩ := id L1
      obtain ⟨lw, hlw, lwn⟩ : ∃ lw : Int, lw = -1 - lw0 ∧ lw ≤ -1 := ⟨_, rfl, by omega⟩
      dsimp only
      rw [← hlw]
      clear hlw e7 e8 e9' e10 e11 e12 e13 ee p7 p8 p9 p10 p11 p12
      have szc : cs.length ≤ 60 := by omega
      -- load * k, k * load
      refine ⟨_, rfl, _, rfl, _, rfl, (by show 3 ≤ sizeLine; decide), fun ra nra => ?_⟩
      have t14 := same_upd (o := .lst [V.int fa, V.int mo, V.int sm]) nra
      have hra : (upd H13 ra (.lst [V.int fa, V.int mo, V.int sm])) ra = some (.lst [V.int fa, V.int mo, V.int sm]) := upd_same
      generalize upd H13 ra (.lst [V.int fa, V.int mo, V.int sm]) = H14 at t14 hra ⊢
      have L1 := L1.same t14
      have hD14 := t14 _ _ hD13
      have hx := t14 _ _ hx
      refine ⟨ra, rfl, ⟨_, SqL.of hra⟩, for_list (K := K) (a := ra) (xs := [V.int fa, V.int mo, V.int sm]) (fun _ σ H' => (∃ v3 v13 v14 v15, σ = [some (.ref sa), some (.ref p2), some (.int n), v3, some (.ref D), some (.ref x1), some (.int fa), some (.int mo), some (.int sm), some (.int di), some (.int br), some (.int ot), some (.int lw), v13, v14, v15]) ∧ Same H14 H') ⟨⟨_, _, _, _, rfl⟩, Same.refl _⟩ (fun i σ H' _ h => SqL.of (h.2 _ _ hra)) ?_ ?_⟩
      · rintro i v σ H' hi ⟨⟨v3, v13, v14, v15, rfl⟩, sm'⟩
        obtain ⟨k, rfl, k0, k9⟩ : ∃ k : Int, v = .int k ∧ 0 ≤ k ∧ k ≤ 1000000000 := by
          rcases List.mem_cons.mp (List.mem_of_getElem? hi) with rfl | hv
          · exact ⟨fa, rfl, fa0, by omega⟩
          rcases List.mem_cons.mp hv with rfl | hv
          · exact ⟨mo, rfl, mo0, by omega⟩
          rcases List.mem_cons.mp hv with rfl | hv
          · exact ⟨sm, rfl, sm0, by omega⟩
          cases hv
        refine ⟨_, rfl, D, rfl, ⟨_, SqL.of (sm' _ _ hD14)⟩, fun E0' nE => ?_⟩
        refine lc_list (K := K) (a := D) (xs := cs.map V.int) (fun j H'' => Same H' H'' ∧ H'' E0' = some (.lst (((cs.map fun n => gMul n k).take j).map V.int))) ⟨same_upd nE, upd_same⟩ (fun j H'' _ h => SqL.of (h.1 _ _ (sm' _ _ hD14))) ?_ ?_
        · rintro j y H'' hy ⟨sj, hE⟩
          obtain ⟨z, hz, rfl⟩ := int_of hy
          refine ⟨rfl, keepT ?_⟩
          refine ⟨_, rfl, _, rfl, _, _, rfl, rfl, .inr ⟨by omega, by omega⟩, ?_⟩
          refine ⟨_, hE, ?_, Same.put sj nE, ?_⟩
          · rw [List.length_map, List.length_take, sizeLine_eq, List.length_map]
            omega
          · rw [upd_same, map_take (g := fun n => gMul n k) hz, List.map_append]
            rfl
        · rintro H'' ⟨sj, hE⟩
          rw [List.take_of_length_le (by rw [List.length_map, List.length_map]; exact Nat.le_refl _)] at hE
          have s2 := sm'.trans sj
          refine ⟨_, rfl, _, rfl, x1, dx, _, k, rfl, rfl, s2 _ _ hx, x1, j1, cs, k, rfl, L1.same s2, hg, by omega, fun _ x j Ha sa' _ _ La => ⟨x, rfl, ?_⟩, fun h => by omega⟩
          refine ⟨_, rfl, x, j, E0', _, rfl, La, sa' _ _ hE, by rw [List.length_map]; exact szc, _, rfl, iteF ?_⟩
          have s3 := s2.trans sa'
          refine ⟨_, rfl, _, rfl, x1, dx, _, k, rfl, rfl, s3 _ _ hx, x1, j1, cs, k, rfl, L1.same s3, hg, by omega, fun _ x' j' Hb sb' _ _ Lb => ⟨x', rfl, ?_⟩, fun h => by omega⟩
          exact ⟨_, rfl, x', j', E0', _, rfl, Lb, sb' _ _ (sa' _ _ hE), by rw [List.length_map]; exact szc, _, rfl, iteF ⟨⟨_, _, _, _, rfl⟩, s3.trans sb'⟩⟩
      · rintro σ H15 ⟨⟨v3, v13, v14, v15, rfl⟩, s15⟩
        have L1 := L1.same s15
        have hD15 := s15 _ _ hD14
        have hx := s15 _ _ hx
        refine ⟨_, rfl, _, rfl, (by show 2 ≤ sizeLine; decide), fun rb nrb => ?_⟩
        have t16 := same_upd (o := .lst [V.int br, V.int ot]) nrb
        have hrb : (upd H15 rb (.lst [V.int br, V.int ot])) rb = some (.lst [V.int br, V.int ot]) := upd_same
        generalize upd H15 rb (.lst [V.int br, V.int ot]) = H16 at t16 hrb ⊢
        have L1 := L1.same t16
        have hD16 := t16 _ _ hD15
        have hx := t16 _ _ hx
        refine ⟨rb, rfl, ⟨_, SqL.of hrb⟩, for_list (K := K) (a := rb) (xs := [V.int br, V.int ot]) (fun _ σ H' => (∃ v3 v13 v14 v15, σ = [some (.ref sa), some (.ref p2), some (.int n), v3, some (.ref D), some (.ref x1), some (.int fa), some (.int mo), some (.int sm), some (.int di), some (.int br), some (.int ot), some (.int lw), v13, v14, v15]) ∧ Same H16 H') ⟨⟨_, _, _, _, rfl⟩, Same.refl _⟩ (fun i σ H' _ h => SqL.of (h.2 _ _ hrb)) ?_ ?_⟩
        · rintro i v σ H' hi ⟨⟨v3, v13, v14, v15, rfl⟩, sm'⟩
          obtain ⟨k, rfl, k0, k9⟩ : ∃ k : Int, v = .int k ∧ 0 ≤ k ∧ k ≤ 1000000000 := by
            rcases List.mem_cons.mp (List.mem_of_getElem? hi) with rfl | hv
            · exact ⟨br, rfl, br0, br9⟩
            rcases List.mem_cons.mp hv with rfl | hv
            · exact ⟨ot, rfl, ot0, ot9⟩
            cases hv
          refine ⟨_, rfl, x1, dx, _, rfl, sm' _ _ hx, rfl, _, rfl, x1, j1, cs, k, rfl, L1.same sm', hg, by omega, fun _ x j Ha sa' _ _ La => ?_, fun h => by omega⟩
          have s2 := sm'.trans sa'
          refine ⟨_, rfl, D, rfl, ⟨_, SqL.of (s2 _ _ hD16)⟩, fun E0' nE => ?_⟩
          refine lc_list (K := K) (a := D) (xs := cs.map V.int) (fun j H'' => Same Ha H'' ∧ H'' E0' = some (.lst (((cs.map fun n => gCap n k).take j).map V.int))) ⟨same_upd nE, upd_same⟩ (fun j H'' _ h => SqL.of (h.1 _ _ (s2 _ _ hD16))) ?_ ?_
          · rintro j' y H'' hy ⟨sj, hE⟩
            obtain ⟨z, hz, rfl⟩ := int_of hy
            refine ⟨rfl, keepT ?_⟩
            refine ⟨_, rfl, _, rfl, _, _, rfl, ?_⟩
            refine ⟨_, hE, ?_, Same.put sj nE, ?_⟩
            · rw [List.length_map, List.length_take, sizeLine_eq, List.length_map]
              omega
            · rw [upd_same, map_take (g := fun n => gCap n k) hz, List.map_append]
              rfl
          · rintro H'' ⟨sj, hE⟩
            rw [List.take_of_length_le (by rw [List.length_map, List.length_map]; exact Nat.le_refl _)] at hE
            exact ⟨x, j, E0', _, rfl, La.same sj, hE, by rw [List.length_map]; exact szc, _, rfl, iteF ⟨⟨_, _, _, _, rfl⟩, s2.trans sj⟩⟩
        · rintro σ H17 ⟨⟨v3, v13, v14, v15, rfl⟩, s17⟩
          have L1 := L1.same s17
          have hD17 := s17 _ _ hD16
          refine ⟨_, rfl, _, rfl, _, rfl, x1, j1, D, cs, di, rfl, L1, hD17, hg, di1, by omega, fun H18 s18 => ⟨_, rfl, iteF ?_⟩⟩
          refine ⟨_, rfl, _, rfl, _, rfl, _, _, rfl, rfl, x1, j1, D, cs, _, rfl, L1.same s18, s18 _ _ hD17, hg, (show 1 ≤ 1 + sm by omega), (show 1 + sm < 1073741824 by omega), fun H19 t19 => ⟨_, rfl, iteF ?_⟩⟩
          have s19 := s18.trans t19
          refine ⟨_, rfl, _, rfl, x1, j1, D, cs, rfl, L1.same s19, s19 _ _ hD17, hg, fun H20 t20 => ⟨_, rfl, iteF ?_⟩⟩
          have s20 := s19.trans t20
          obtain ⟨fu, efu, fu0, fu9⟩ : ∃ fu : Nat → Int, cs = Tb n fu ∧ (∀ i, 0 ≤ fu i) ∧ ∀ i, fu i ≤ 1000000000 := by
            obtain ⟨fu, e, p⟩ := Tb_of hg
            rw [ecs] at e
            refine ⟨fun i => if i < n then fu i else 0, ?_, fun i => (show 0 ≤ (if i < n then fu i else 0) by split; exact p i; exact Int.le_refl 0), fun i => ?_⟩
            · rw [e]
              unfold Tb
              refine List.map_congr_left fun i hi => ?_
              rw [if_pos (List.mem_range.mp hi)]
            · show (if i < n then fu i else 0) ≤ _
              split
              · rename_i hi
                exact (hcs (fu i) (by rw [e]; exact List.mem_of_getElem? (Tb_get hi))).2
              · decide
          refine ⟨_, rfl, _, rfl, _, rfl, _, rfl, _, rfl, _, rfl, _, rfl, _, rfl, x1, j1, n, fu, fa, mo, sm, di, br, ot, rfl, by rw [← efu]; exact L1.same s20, by omega, by omega, fu0, fu9, ⟨fa0, mo0, by omega, fm, sm0, by omega, di1, di2, br0, br9, ot0, ot9⟩, fun H21 t21 => ⟨_, rfl, iteF ?_⟩⟩
          have s21 := s20.trans t21
          have L1 := L1.same s21
          have hD21 := s21 _ _ hD17
          have lge : ∀ v : Int, 0 ≤ lov v := fun v => by
            unfold lov
            split
            · decide
            · split
              · decide
              · split
                · decide
                · split <;> decide
          refine ⟨5, rfl, by decide, by decide, for_range (lo := 0) (n := (5 : Int).toNat) (fun _ σ H' => (∃ v3 v13 v14 v15, σ = [some (.ref sa), some (.ref p2), some (.int n), v3, some (.ref D), some (.ref x1), some (.int fa), some (.int mo), some (.int sm), some (.int di), some (.int br), some (.int ot), some (.int lw), v13, v14, v15]) ∧ Same H21 H') ⟨⟨_, _, _, _, rfl⟩, Same.refl _⟩ ?_ ?_⟩
          · rintro i σ H' hi ⟨⟨v3, v13, v14, v15, rfl⟩, sw⟩
            have hi5 : i < 5 := hi
            have l0 := lge (0 + (i : Int))
            have Lw := L1.same sw
            refine ⟨_, rfl, _, rfl, _, rfl, _, x1, j1, cs, _, rfl, Lw, hg, (show (-1 : Int) < lov (0 + (i : Int)) by omega), _, rfl, iteF ?_⟩
            refine ⟨_, rfl, _, rfl, _, rfl, _, x1, j1, cs, _, rfl, Lw, hg, (show lw < lov (0 + (i : Int)) by omega), _, rfl, iteF ?_⟩
            have part : ∀ X : Prop, X → X := fun _ h => h
            refine ⟨_, rfl, _, _, rfl, rfl, _, rfl, iteDs (fun w2 => ?_) (fun w2 => iteF ?_)⟩
            · have l1 : lov (0 + (i : Int)) = 1 := by
                unfold lov
                rw [if_neg (by omega), if_neg (by omega), if_neg (by omega)]
                split <;> rfl
              refine ⟨_, rfl, _, rfl, _, x1, j1, cs, 0, rfl, Lw, hg, by rw [l1]; decide, _, rfl, iteF ?_⟩
              exact ⟨_, rfl, _, _, rfl, rfl, _, rfl, iteD (by omega) (iteF ⟨⟨_, _, _, _, rfl⟩, sw⟩)⟩
            · refine ⟨_, rfl, _, _, rfl, rfl, _, rfl, iteDs (fun w3 => ?_) (fun w3 => iteF ⟨⟨_, _, _, _, rfl⟩, sw⟩)⟩
              have l1 : lov (0 + (i : Int)) = 0 := by
                have h : (0 + (i : Int)) = 0 ∨ (0 + (i : Int)) = 1 ∨ (0 + (i : Int)) = 2 := by omega
                rcases h with h | h | h <;> rw [h] <;> decide
              refine ⟨_, rfl, _, rfl, _, x1, j1, cs, 0, rfl, Lw, hg, by decide, fun _ x j Ha sa' _ _ La => ?_, fun h => by omega⟩
              have ez : (cs.map fun n => gv (0 + (i : Int)) n 0) = List.replicate ((n : Int)).toNat 0 := by
                apply List.eq_replicate_iff.mpr
                refine ⟨by rw [List.length_map]; omega, fun z hz => ?_⟩
                obtain ⟨y, hy, rfl⟩ := List.mem_map.mp hz
                have y0 := hg.2 y hy
                have h : (0 + (i : Int)) = 0 ∨ (0 + (i : Int)) = 1 ∨ (0 + (i : Int)) = 2 := by omega
                rcases h with h | h | h <;> rw [h]
                · exact Int.mul_zero y
                · exact Int.mul_zero y
                · show (if (0 : Int) < y then 0 else y) = 0
                  split <;> omega
              rw [ez] at La
              refine ⟨(by show 1 ≤ sizeLine; decide), fun b m => ⟨_, rfl, b, _, _, rfl, rfl, upd_same, by omega, by omega, (by rw [sizeLine_eq]; show 1 * _ ≤ _; omega), fun c mm => ?_⟩⟩
              rw [rep_ints]
              have tt := (same_upd (o := .lst [V.int 0]) m).trans (same_upd (o := .lst ((List.replicate ((n : Int)).toNat 0).map V.int)) mm)
              exact ⟨x, j, c, _, rfl, La.same tt, upd_same, by rw [List.length_replicate]; omega, _, rfl, iteF ⟨⟨_, _, _, _, rfl⟩, (sw.trans sa').trans tt⟩⟩
          · rintro σ H22 ⟨⟨v3, v13, v14, v15, rfl⟩, s22⟩
            exact ⟨_, rfl, _, rfl, x1, j1, D, cs, rfl, L1.same s22, s22 _ _ hD21, szc, q _⟩
end
end D2

namespace D2
open PySem L2
theorem all_mk {l : PySem.W.OpenLaw} {w : World} {K : PySem.W.Frag} {h : Heap} {mg : Str → Option Value} {fa : Addr} (X : K.In h) (G : h.Ns mainGlobals mg) (hfa : mg "law" = some (.ref fa)) {f0 f1 f2 f3 f4 f5 f6 f7 f8 f9 f10 f11 f12 f13 f14 f15 f16 f17 f18 f19 f20 f21 f22 f23 f24 f25 f26 f27 f28 f29 f30 f31 f32 f33 CLoad CDepotError CBadLoad CBadNumber : Addr} {od0 an0 od1 an1 od2 an2 od3 an3 od4 an4 od5 an5 od6 an6 od7 an7 od8 an8 od9 an9 od10 an10 od11 an11 od12 an12 od13 an13 od14 an14 od15 an15 od16 an16 od17 an17 od18 an18 od19 an19 od20 an20 od21 an21 od22 an22 od23 an23 od24 an24 od25 an25 od26 an26 od27 an27 od28 an28 od29 an29 od30 an30 od31 an31 od32 an32 od33 an33 : Option Addr} {sl0 sl1 sl2 sl3 sl4 sl5 sl6 sl7 sl8 sl9 sl10 sl11 sl12 sl13 sl14 sl15 sl16 sl17 sl18 sl19 sl20 sl21 sl22 sl23 sl24 sl25 sl26 sl27 sl28 sl29 sl30 sl31 sl32 sl33 : Array (Option Value)} {oc0 kV0 dc0 pm0 cd0 ct0 oc1 kV1 dc1 pm1 cd1 ct1 oc2 kV2 dc2 pm2 cd2 ct2 oc3 kV3 dc3 pm3 cd3 ct3 oc4 kV4 dc4 pm4 cd4 ct4 oc5 kV5 dc5 pm5 cd5 ct5 oc6 kV6 dc6 pm6 cd6 ct6 oc7 kV7 dc7 pm7 cd7 ct7 oc8 kV8 dc8 pm8 cd8 ct8 oc9 kV9 dc9 pm9 cd9 ct9 oc10 kV10 dc10 pm10 cd10 ct10 oc11 kV11 dc11 pm11 cd11 ct11 oc12 kV12 dc12 pm12 cd12 ct12 oc13 kV13 dc13 pm13 cd13 ct13 oc14 kV14 dc14 pm14 cd14 ct14 oc15 kV15 dc15 pm15 cd15 ct15 oc16 kV16 dc16 pm16 cd16 ct16 oc17 kV17 dc17 pm17 cd17 ct17 oc18 kV18 dc18 pm18 cd18 ct18 oc19 kV19 dc19 pm19 cd19 ct19 oc20 kV20 dc20 pm20 cd20 ct20 oc21 kV21 dc21 pm21 cd21 ct21 oc22 kV22 dc22 pm22 cd22 ct22 oc23 kV23 dc23 pm23 cd23 ct23 oc24 kV24 dc24 pm24 cd24 ct24 oc25 kV25 dc25 pm25 cd25 ct25 oc26 kV26 dc26 pm26 cd26 ct26 oc27 kV27 dc27 pm27 cd27 ct27 oc28 kV28 dc28 pm28 cd28 ct28 oc29 kV29 dc29 pm29 cd29 ct29 oc30 kV30 dc30 pm30 cd30 ct30 oc31 kV31 dc31 pm31 cd31 ct31 oc32 kV32 dc32 pm32 cd32 ct32 oc33 kV33 dc33 pm33 cd33 ct33 : Value} {u_MOST_LENGTH : Tok}
    (k_MOST_LENGTH : PySem.W.nsIn K mainGlobals "MOST_LENGTH" = some (some (.int 60 u_MOST_LENGTH)))
    (z_len : PySem.W.nsIn K mainGlobals "len" = some none)
    (z_min : PySem.W.nsIn K mainGlobals "min" = some none)
    (z_max : PySem.W.nsIn K mainGlobals "max" = some none)
    (z_list : PySem.W.nsIn K mainGlobals "list" = some none)
    (z_zip : PySem.W.nsIn K mainGlobals "zip" = some none)
    (z_any : PySem.W.nsIn K mainGlobals "any" = some none)
    (z_all : PySem.W.nsIn K mainGlobals "all" = some none)
    (z_abs : PySem.W.nsIn K mainGlobals "abs" = some none)
    (z_int : PySem.W.nsIn K mainGlobals "int" = some none)
    (z_bool : PySem.W.nsIn K mainGlobals "bool" = some none)
    (z_str : PySem.W.nsIn K mainGlobals "str" = some none)
    (z_isinstance : PySem.W.nsIn K mainGlobals "isinstance" = some none)
    (z_tuple : PySem.W.nsIn K mainGlobals "tuple" = some none)
    (z_range : PySem.W.nsIn K mainGlobals "range" = some none)
    (z_ValueError : PySem.W.nsIn K mainGlobals "ValueError" = some none)
    (a_Load : PySem.W.nsIn K mainGlobals "Load" = some (some (.ref CLoad)))
    (pg_Load : PySem.W.plainGet K CLoad Str.empty = true)
    (hd_Load : PySem.W.hasDictIn K CLoad = true)
    (po_Load : PySem.W.plainOver K CLoad = true)
    (sa_Load : PySem.W.findIn K (.ref CLoad) "__setattr__" = some (some (.builtin "object.__setattr__")))
    (mk_Load : PySem.W.makesIn K CLoad = true)
    (kc_Load : PySem.W.keepIn K (.ref CLoad) = true)
    (na_Load__counts : PySem.W.findIn K (.ref CLoad) "_counts" = some none)
    (a0 : PySem.W.nsIn K mainGlobals "check_length" = some (some (.ref f0)))
    (l0 : K.lookup f0 = some ⟨oc0, od0, .func (PySem.W.fnOf "check_length" "check_length" (defArgs sClen) (defBody sClen) (defScope sClen) .none kV0 dc0 pm0 an0 cd0 ct0), sl0⟩)
    (c0 : PySem.W.codeIn K cd0 "check_length" = true)
    (k0 : PySem.W.keepIn K (.ref f0) = true)
    (a1 : PySem.W.nsIn K mainGlobals "check_least" = some (some (.ref f1)))
    (l1 : K.lookup f1 = some ⟨oc1, od1, .func (PySem.W.fnOf "check_least" "check_least" (defArgs sClst) (defBody sClst) (defScope sClst) .none kV1 dc1 pm1 an1 cd1 ct1), sl1⟩)
    (c1 : PySem.W.codeIn K cd1 "check_least" = true)
    (k1 : PySem.W.keepIn K (.ref f1) = true)
    (a2 : PySem.W.findIn K (.ref CLoad) "__init__" = some (some (.ref f2)))
    (i2 : PySem.W.isFn K (.ref f2) = true)
    (l2 : K.lookup f2 = some ⟨oc2, od2, .func (PySem.W.fnOf "__init__" "Load.__init__" (defArgs sInit) (defBody sInit) (defScope sInit) .none kV2 dc2 pm2 an2 cd2 ct2), sl2⟩)
    (c2 : PySem.W.codeIn K cd2 "Load.__init__" = true)
    (k2 : PySem.W.keepIn K (.ref f2) = true)
    (a3 : PySem.W.findIn K (.ref CLoad) "_check_minute" = some (some (.ref f3)))
    (i3 : PySem.W.isFn K (.ref f3) = true)
    (l3 : K.lookup f3 = some ⟨oc3, od3, .func (PySem.W.fnOf "_check_minute" "Load._check_minute" (defArgs sCmin) (defBody sCmin) (defScope sCmin) .none kV3 dc3 pm3 an3 cd3 ct3), sl3⟩)
    (c3 : PySem.W.codeIn K cd3 "Load._check_minute" = true)
    (k3 : PySem.W.keepIn K (.ref f3) = true)
    (a4 : PySem.W.findIn K (.ref CLoad) "_pairs" = some (some (.ref f4)))
    (i4 : PySem.W.isFn K (.ref f4) = true)
    (l4 : K.lookup f4 = some ⟨oc4, od4, .func (PySem.W.fnOf "_pairs" "Load._pairs" (defArgs sPrs) (defBody sPrs) (defScope sPrs) .none kV4 dc4 pm4 an4 cd4 ct4), sl4⟩)
    (c4 : PySem.W.codeIn K cd4 "Load._pairs" = true)
    (k4 : PySem.W.keepIn K (.ref f4) = true)
    (a5 : PySem.W.findIn K (.ref CLoad) "__len__" = some (some (.ref f5)))
    (i5 : PySem.W.isFn K (.ref f5) = true)
    (l5 : K.lookup f5 = some ⟨oc5, od5, .func (PySem.W.fnOf "__len__" "Load.__len__" (defArgs sLen) (defBody sLen) (defScope sLen) .none kV5 dc5 pm5 an5 cd5 ct5), sl5⟩)
    (c5 : PySem.W.codeIn K cd5 "Load.__len__" = true)
    (k5 : PySem.W.keepIn K (.ref f5) = true)
    (a6 : PySem.W.findIn K (.ref CLoad) "__getitem__" = some (some (.ref f6)))
    (i6 : PySem.W.isFn K (.ref f6) = true)
    (l6 : K.lookup f6 = some ⟨oc6, od6, .func (PySem.W.fnOf "__getitem__" "Load.__getitem__" (defArgs sGet) (defBody sGet) (defScope sGet) .none kV6 dc6 pm6 an6 cd6 ct6), sl6⟩)
    (c6 : PySem.W.codeIn K cd6 "Load.__getitem__" = true)
    (k6 : PySem.W.keepIn K (.ref f6) = true)
    (a7 : PySem.W.findIn K (.ref CLoad) "put" = some (some (.ref f7)))
    (i7 : PySem.W.isFn K (.ref f7) = true)
    (l7 : K.lookup f7 = some ⟨oc7, od7, .func (PySem.W.fnOf "put" "Load.put" (defArgs sPut) (defBody sPut) (defScope sPut) .none kV7 dc7 pm7 an7 cd7 ct7), sl7⟩)
    (c7 : PySem.W.codeIn K cd7 "Load.put" = true)
    (k7 : PySem.W.keepIn K (.ref f7) = true)
    (a8 : PySem.W.findIn K (.ref CLoad) "__bool__" = some (some (.ref f8)))
    (i8 : PySem.W.isFn K (.ref f8) = true)
    (l8 : K.lookup f8 = some ⟨oc8, od8, .func (PySem.W.fnOf "__bool__" "Load.__bool__" (defArgs sBoo) (defBody sBoo) (defScope sBoo) .none kV8 dc8 pm8 an8 cd8 ct8), sl8⟩)
    (c8 : PySem.W.codeIn K cd8 "Load.__bool__" = true)
    (k8 : PySem.W.keepIn K (.ref f8) = true)
    (a9 : PySem.W.findIn K (.ref CLoad) "__eq__" = some (some (.ref f9)))
    (i9 : PySem.W.isFn K (.ref f9) = true)
    (l9 : K.lookup f9 = some ⟨oc9, od9, .func (PySem.W.fnOf "__eq__" "Load.__eq__" (defArgs sEq) (defBody sEq) (defScope sEq) .none kV9 dc9 pm9 an9 cd9 ct9), sl9⟩)
    (c9 : PySem.W.codeIn K cd9 "Load.__eq__" = true)
    (k9 : PySem.W.keepIn K (.ref f9) = true)
    (a10 : PySem.W.findIn K (.ref CLoad) "__add__" = some (some (.ref f10)))
    (i10 : PySem.W.isFn K (.ref f10) = true)
    (l10 : K.lookup f10 = some ⟨oc10, od10, .func (PySem.W.fnOf "__add__" "Load.__add__" (defArgs sAdd) (defBody sAdd) (defScope sAdd) .none kV10 dc10 pm10 an10 cd10 ct10), sl10⟩)
    (c10 : PySem.W.codeIn K cd10 "Load.__add__" = true)
    (k10 : PySem.W.keepIn K (.ref f10) = true)
    (a11 : PySem.W.findIn K (.ref CLoad) "__sub__" = some (some (.ref f11)))
    (i11 : PySem.W.isFn K (.ref f11) = true)
    (l11 : K.lookup f11 = some ⟨oc11, od11, .func (PySem.W.fnOf "__sub__" "Load.__sub__" (defArgs sSub) (defBody sSub) (defScope sSub) .none kV11 dc11 pm11 an11 cd11 ct11), sl11⟩)
    (c11 : PySem.W.codeIn K cd11 "Load.__sub__" = true)
    (k11 : PySem.W.keepIn K (.ref f11) = true)
    (a12 : PySem.W.findIn K (.ref CLoad) "__and__" = some (some (.ref f12)))
    (i12 : PySem.W.isFn K (.ref f12) = true)
    (l12 : K.lookup f12 = some ⟨oc12, od12, .func (PySem.W.fnOf "__and__" "Load.__and__" (defArgs sAnd) (defBody sAnd) (defScope sAnd) .none kV12 dc12 pm12 an12 cd12 ct12), sl12⟩)
    (c12 : PySem.W.codeIn K cd12 "Load.__and__" = true)
    (k12 : PySem.W.keepIn K (.ref f12) = true)
    (a13 : PySem.W.findIn K (.ref CLoad) "within" = some (some (.ref f13)))
    (i13 : PySem.W.isFn K (.ref f13) = true)
    (l13 : K.lookup f13 = some ⟨oc13, od13, .func (PySem.W.fnOf "within" "Load.within" (defArgs sWth) (defBody sWth) (defScope sWth) .none kV13 dc13 pm13 an13 cd13 ct13), sl13⟩)
    (c13 : PySem.W.codeIn K cd13 "Load.within" = true)
    (k13 : PySem.W.keepIn K (.ref f13) = true)
    (a14 : PySem.W.findIn K (.ref CLoad) "__mul__" = some (some (.ref f14)))
    (i14 : PySem.W.isFn K (.ref f14) = true)
    (l14 : K.lookup f14 = some ⟨oc14, od14, .func (PySem.W.fnOf "__mul__" "Load.__mul__" (defArgs sMul) (defBody sMul) (defScope sMul) .none kV14 dc14 pm14 an14 cd14 ct14), sl14⟩)
    (c14 : PySem.W.codeIn K cd14 "Load.__mul__" = true)
    (k14 : PySem.W.keepIn K (.ref f14) = true)
    (a15 : PySem.W.findIn K (.ref CLoad) "__rmul__" = some (some (.ref f15)))
    (i15 : PySem.W.isFn K (.ref f15) = true)
    (l15 : K.lookup f15 = some ⟨oc15, od15, .func (PySem.W.fnOf "__rmul__" "Load.__rmul__" (defArgs sRmul) (defBody sRmul) (defScope sRmul) .none kV15 dc15 pm15 an15 cd15 ct15), sl15⟩)
    (c15 : PySem.W.codeIn K cd15 "Load.__rmul__" = true)
    (k15 : PySem.W.keepIn K (.ref f15) = true)
    (a16 : PySem.W.findIn K (.ref CLoad) "__floordiv__" = some (some (.ref f16)))
    (i16 : PySem.W.isFn K (.ref f16) = true)
    (l16 : K.lookup f16 = some ⟨oc16, od16, .func (PySem.W.fnOf "__floordiv__" "Load.__floordiv__" (defArgs sFdv) (defBody sFdv) (defScope sFdv) .none kV16 dc16 pm16 an16 cd16 ct16), sl16⟩)
    (c16 : PySem.W.codeIn K cd16 "Load.__floordiv__" = true)
    (k16 : PySem.W.keepIn K (.ref f16) = true)
    (a17 : PySem.W.findIn K (.ref CLoad) "__mod__" = some (some (.ref f17)))
    (i17 : PySem.W.isFn K (.ref f17) = true)
    (l17 : K.lookup f17 = some ⟨oc17, od17, .func (PySem.W.fnOf "__mod__" "Load.__mod__" (defArgs sMod) (defBody sMod) (defScope sMod) .none kV17 dc17 pm17 an17 cd17 ct17), sl17⟩)
    (c17 : PySem.W.codeIn K cd17 "Load.__mod__" = true)
    (k17 : PySem.W.keepIn K (.ref f17) = true)
    (a18 : PySem.W.findIn K (.ref CLoad) "capped" = some (some (.ref f18)))
    (i18 : PySem.W.isFn K (.ref f18) = true)
    (l18 : K.lookup f18 = some ⟨oc18, od18, .func (PySem.W.fnOf "capped" "Load.capped" (defArgs sCap) (defBody sCap) (defScope sCap) .none kV18 dc18 pm18 an18 cd18 ct18), sl18⟩)
    (c18 : PySem.W.codeIn K cd18 "Load.capped" = true)
    (k18 : PySem.W.keepIn K (.ref f18) = true)
    (a19 : PySem.W.nsIn K mainGlobals "_law_cell" = some (some (.ref f19)))
    (l19 : K.lookup f19 = some ⟨oc19, od19, .func (PySem.W.fnOf "_law_cell" "_law_cell" (defArgs sCell) (defBody sCell) (defScope sCell) .none kV19 dc19 pm19 an19 cd19 ct19), sl19⟩)
    (c19 : PySem.W.codeIn K cd19 "_law_cell" = true)
    (k19 : PySem.W.keepIn K (.ref f19) = true)
    (a20 : PySem.W.nsIn K mainGlobals "_law_pool" = some (some (.ref f20)))
    (l20 : K.lookup f20 = some ⟨oc20, od20, .func (PySem.W.fnOf "_law_pool" "_law_pool" (defArgs sPool) (defBody sPool) (defScope sPool) .none kV20 dc20 pm20 an20 cd20 ct20), sl20⟩)
    (c20 : PySem.W.codeIn K cd20 "_law_pool" = true)
    (k20 : PySem.W.keepIn K (.ref f20) = true)
    (a21 : PySem.W.nsIn K mainGlobals "_law_take" = some (some (.ref f21)))
    (l21 : K.lookup f21 = some ⟨oc21, od21, .func (PySem.W.fnOf "_law_take" "_law_take" (defArgs sTake) (defBody sTake) (defScope sTake) .none kV21 dc21 pm21 an21 cd21 ct21), sl21⟩)
    (c21 : PySem.W.codeIn K cd21 "_law_take" = true)
    (k21 : PySem.W.keepIn K (.ref f21) = true)
    (a22 : PySem.W.nsIn K mainGlobals "_law_same" = some (some (.ref f22)))
    (l22 : K.lookup f22 = some ⟨oc22, od22, .func (PySem.W.fnOf "_law_same" "_law_same" (defArgs sSame) (defBody sSame) (defScope sSame) .none kV22 dc22 pm22 an22 cd22 ct22), sl22⟩)
    (c22 : PySem.W.codeIn K cd22 "_law_same" = true)
    (k22 : PySem.W.keepIn K (.ref f22) = true)
    (a23 : PySem.W.nsIn K mainGlobals "_law_int" = some (some (.ref f23)))
    (l23 : K.lookup f23 = some ⟨oc23, od23, .func (PySem.W.fnOf "_law_int" "_law_int" (defArgs sInt) (defBody sInt) (defScope sInt) .none kV23 dc23 pm23 an23 cd23 ct23), sl23⟩)
    (c23 : PySem.W.codeIn K cd23 "_law_int" = true)
    (k23 : PySem.W.keepIn K (.ref f23) = true)
    (a24 : PySem.W.nsIn K mainGlobals "_law_size" = some (some (.ref f24)))
    (l24 : K.lookup f24 = some ⟨oc24, od24, .func (PySem.W.fnOf "_law_size" "_law_size" (defArgs sSize) (defBody sSize) (defScope sSize) .none kV24 dc24 pm24 an24 cd24 ct24), sl24⟩)
    (c24 : PySem.W.codeIn K cd24 "_law_size" = true)
    (k24 : PySem.W.keepIn K (.ref f24) = true)
    (a25 : PySem.W.nsIn K mainGlobals "_law_count" = some (some (.ref f25)))
    (l25 : K.lookup f25 = some ⟨oc25, od25, .func (PySem.W.fnOf "_law_count" "_law_count" (defArgs sCount) (defBody sCount) (defScope sCount) .none kV25 dc25 pm25 an25 cd25 ct25), sl25⟩)
    (c25 : PySem.W.codeIn K cd25 "_law_count" = true)
    (k25 : PySem.W.keepIn K (.ref f25) = true)
    (a26 : PySem.W.nsIn K mainGlobals "_law_is_load" = some (some (.ref f26)))
    (l26 : K.lookup f26 = some ⟨oc26, od26, .func (PySem.W.fnOf "_law_is_load" "_law_is_load" (defArgs sIsl) (defBody sIsl) (defScope sIsl) .none kV26 dc26 pm26 an26 cd26 ct26), sl26⟩)
    (c26 : PySem.W.codeIn K cd26 "_law_is_load" = true)
    (k26 : PySem.W.keepIn K (.ref f26) = true)
    (a27 : PySem.W.nsIn K mainGlobals "_law_number" = some (some (.ref f27)))
    (l27 : K.lookup f27 = some ⟨oc27, od27, .func (PySem.W.fnOf "_law_number" "_law_number" (defArgs sNum) (defBody sNum) (defScope sNum) .none kV27 dc27 pm27 an27 cd27 ct27), sl27⟩)
    (c27 : PySem.W.codeIn K cd27 "_law_number" = true)
    (k27 : PySem.W.keepIn K (.ref f27) = true)
    (a28 : PySem.W.nsIn K mainGlobals "_law_made" = some (some (.ref f28)))
    (l28 : K.lookup f28 = some ⟨oc28, od28, .func (PySem.W.fnOf "_law_made" "_law_made" (defArgs sMade) (defBody sMade) (defScope sMade) .none kV28 dc28 pm28 an28 cd28 ct28), sl28⟩)
    (c28 : PySem.W.codeIn K cd28 "_law_made" = true)
    (k28 : PySem.W.keepIn K (.ref f28) = true)
    (a29 : PySem.W.nsIn K mainGlobals "_law_refuses" = some (some (.ref f29)))
    (l29 : K.lookup f29 = some ⟨oc29, od29, .func (PySem.W.fnOf "_law_refuses" "_law_refuses" (defArgs sRf) (defBody sRf) (defScope sRf) .none kV29 dc29 pm29 an29 cd29 ct29), sl29⟩)
    (c29 : PySem.W.codeIn K cd29 "_law_refuses" = true)
    (k29 : PySem.W.keepIn K (.ref f29) = true)
    (a30 : PySem.W.nsIn K mainGlobals "_law_shared" = some (some (.ref f30)))
    (l30 : K.lookup f30 = some ⟨oc30, od30, .func (PySem.W.fnOf "_law_shared" "_law_shared" (defArgs sShd) (defBody sShd) (defScope sShd) .none kV30 dc30 pm30 an30 cd30 ct30), sl30⟩)
    (c30 : PySem.W.codeIn K cd30 "_law_shared" = true)
    (k30 : PySem.W.keepIn K (.ref f30) = true)
    (a31 : PySem.W.nsIn K mainGlobals "_law_fresh" = some (some (.ref f31)))
    (l31 : K.lookup f31 = some ⟨oc31, od31, .func (PySem.W.fnOf "_law_fresh" "_law_fresh" (defArgs sFsh) (defBody sFsh) (defScope sFsh) .none kV31 dc31 pm31 an31 cd31 ct31), sl31⟩)
    (c31 : PySem.W.codeIn K cd31 "_law_fresh" = true)
    (k31 : PySem.W.keepIn K (.ref f31) = true)
    (a32 : PySem.W.nsIn K mainGlobals "_law_rules" = some (some (.ref f32)))
    (l32 : K.lookup f32 = some ⟨oc32, od32, .func (PySem.W.fnOf "_law_rules" "_law_rules" (defArgs sRul) (defBody sRul) (defScope sRul) .none kV32 dc32 pm32 an32 cd32 ct32), sl32⟩)
    (c32 : PySem.W.codeIn K cd32 "_law_rules" = true)
    (k32 : PySem.W.keepIn K (.ref f32) = true)
    (a33 : PySem.W.nsIn K mainGlobals "law" = some (some (.ref f33)))
    (l33 : K.lookup f33 = some ⟨oc33, od33, .func (PySem.W.fnOf "law" "law" (defArgs sLaw) (defBody sLaw) (defScope sLaw) .none kV33 dc33 pm33 an33 cd33 ct33), sl33⟩)
    (c33 : PySem.W.codeIn K cd33 "law" = true)
    (k33 : PySem.W.keepIn K (.ref f33) = true)
    (a_DepotError : PySem.W.nsIn K mainGlobals "DepotError" = some (some (.ref CDepotError)))
    (a_BadLoad : PySem.W.nsIn K mainGlobals "BadLoad" = some (some (.ref CBadLoad)))
    (a_BadNumber : PySem.W.nsIn K mainGlobals "BadNumber" = some (some (.ref CBadNumber)))
    (h_xo_BadLoad : PySem.W.excIn K CBadLoad [.type "ValueError", .type "Exception", .type "BaseException", .type "object"] "ValueError.__new__" = true)
    (h_kp_BadLoad : PySem.W.keepIn K (.ref CBadLoad) = true)
    (h_ty_DepotError : PySem.W.typeIn K (.ref CDepotError) = some (.type "type"))
    (h_bs_DepotError : PySem.W.subIn K (.ref CDepotError) (.type "BaseException") = some true)
    (h_hd_DepotError : PySem.W.hasDictIn K CDepotError = true)
    (h_ty_BadLoad : PySem.W.typeIn K (.ref CBadLoad) = some (.type "type"))
    (h_bs_BadLoad : PySem.W.subIn K (.ref CBadLoad) (.type "BaseException") = some true)
    (h_hd_BadLoad : PySem.W.hasDictIn K CBadLoad = true)
    (h_ty_BadNumber : PySem.W.typeIn K (.ref CBadNumber) = some (.type "type"))
    (h_bs_BadNumber : PySem.W.subIn K (.ref CBadNumber) (.type "BaseException") = some true)
    (h_hd_BadNumber : PySem.W.hasDictIn K CBadNumber = true)
    (h_sb_BadLoad_DepotError : PySem.W.subIn K (.ref CBadLoad) (.ref CDepotError) = some true)
    (h_sb_BadLoad_BadNumber : PySem.W.subIn K (.ref CBadLoad) (.ref CBadNumber) = some false)
    (h_sb_BadLoad_self : PySem.W.subIn K (.ref CBadLoad) (.ref CBadLoad) = some true)
    (h_sb_BadLoad_ValueError : PySem.W.subIn K (.ref CBadLoad) (.type "ValueError") = some true)
    (h_ga_BadLoad : PySem.W.findIn K (.ref CBadLoad) "__getattribute__" = some (some (.builtin "BaseException.__getattribute__")))
    (h_gg_BadLoad : PySem.W.findIn K (.ref CBadLoad) "__getattr__" = some none)
    (h_cl_BadLoad : PySem.W.findIn K (.ref CBadLoad) "__class__" = some (some (.builtin "object.__class__")))
    (h_sp_class : PySem.W.specialIn K (.builtin "object.__class__") "__get__" = some (some (.builtin "getset_descriptor.__get__")))
    (h_tk_class : PySem.W.takesIn K (.builtin "object.__class__") = some true)
    (h_mr_BadLoad : PySem.W.mroIn K CBadLoad (.type "object") = some true)
    (h_sf_Load : PySem.W.selfFirst K CLoad = true)
    (h_ic_Load : PySem.W.findIn K (.ref CLoad) "__class__" = some (some (.builtin "object.__class__")))
    (h_mr_Load : PySem.W.mroIn K CLoad (.type "object") = some true)
    (h_ti_mul : PySem.W.findIn K (.type "int") "__mul__" = some (some (.builtin "int.__mul__")))
    (h_ti_rmul : PySem.W.findIn K (.type "int") "__rmul__" = some (some (.builtin "int.__rmul__")))
    (h_ti_fdv : PySem.W.findIn K (.type "int") "__floordiv__" = some (some (.builtin "int.__floordiv__")))
    (h_ti_rfdv : PySem.W.findIn K (.type "int") "__rfloordiv__" = some (some (.builtin "int.__rfloordiv__")))
    (h_ti_mod : PySem.W.findIn K (.type "int") "__mod__" = some (some (.builtin "int.__mod__")))
    (h_ti_rmod : PySem.W.findIn K (.type "int") "__rmod__" = some (some (.builtin "int.__rmod__")))
    (h_nr_fdv : PySem.W.findIn K (.ref CLoad) "__rfloordiv__" = some none)
    (h_nr_mod : PySem.W.findIn K (.ref CLoad) "__rmod__" = some none)
    (h_si_Load : PySem.W.subIn K (.type "int") (.ref CLoad) = some false)
    (h_sl_Load : PySem.W.subIn K (.ref CLoad) (.type "int") = some false)
    (h_fng : PySem.W.fnIn K f6 = true) :
    ∃ fd : FuncData, (∀ (s : Shared) (v : Value), BindsTo s fd ⟨[v], []⟩ [("_law_script", v)]) ∧ ∀ base : Heap, K.In base → base.Ns mainGlobals mg → FnOk l.prog w K mg base CX0 14 fa fd ["_law_script"] (spLaw K) := by
  have e := hfa.symm.trans (PySem.W.mg_of X G a33)
  cases e
  have F0 := fun_mk (st := sClen) l0 c0 k0
  have b0 := F0.binds (ps := ["length"]) fun _ _ _ _ _ _ us hl => match us, hl with | [_], _ => rfl
  have F1 := fun_mk (st := sClst) l1 c1 k1
  have b1 := F1.binds (ps := ["number", "least"]) fun _ _ _ _ _ _ us hl => match us, hl with | [_, _], _ => rfl
  have F2 := fun_mk (st := sInit) l2 c2 k2
  have b2 := F2.binds (ps := ["self", "counts"]) fun _ _ _ _ _ _ us hl => match us, hl with | [_, _], _ => rfl
  have F3 := fun_mk (st := sCmin) l3 c3 k3
  have b3 := F3.binds (ps := ["self", "minute"]) fun _ _ _ _ _ _ us hl => match us, hl with | [_, _], _ => rfl
  have F4 := fun_mk (st := sPrs) l4 c4 k4
  have b4 := F4.binds (ps := ["self", "other"]) fun _ _ _ _ _ _ us hl => match us, hl with | [_, _], _ => rfl
  have F5 := fun_mk (st := sLen) l5 c5 k5
  have b5 := F5.binds (ps := ["self"]) fun _ _ _ _ _ _ us hl => match us, hl with | [_], _ => rfl
  have F6 := fun_mk (st := sGet) l6 c6 k6
  have b6 := F6.binds (ps := ["self", "at"]) fun _ _ _ _ _ _ us hl => match us, hl with | [_, _], _ => rfl
  have F7 := fun_mk (st := sPut) l7 c7 k7
  have b7 := F7.binds (ps := ["self", "minute", "count"]) fun _ _ _ _ _ _ us hl => match us, hl with | [_, _, _], _ => rfl
  have F8 := fun_mk (st := sBoo) l8 c8 k8
  have b8 := F8.binds (ps := ["self"]) fun _ _ _ _ _ _ us hl => match us, hl with | [_], _ => rfl
  have F9 := fun_mk (st := sEq) l9 c9 k9
  have b9 := F9.binds (ps := ["self", "other"]) fun _ _ _ _ _ _ us hl => match us, hl with | [_, _], _ => rfl
  have F10 := fun_mk (st := sAdd) l10 c10 k10
  have b10 := F10.binds (ps := ["self", "other"]) fun _ _ _ _ _ _ us hl => match us, hl with | [_, _], _ => rfl
  have F11 := fun_mk (st := sSub) l11 c11 k11
  have b11 := F11.binds (ps := ["self", "other"]) fun _ _ _ _ _ _ us hl => match us, hl with | [_, _], _ => rfl
  have F12 := fun_mk (st := sAnd) l12 c12 k12
  have b12 := F12.binds (ps := ["self", "other"]) fun _ _ _ _ _ _ us hl => match us, hl with | [_, _], _ => rfl
  have F13 := fun_mk (st := sWth) l13 c13 k13
  have b13 := F13.binds (ps := ["self", "other"]) fun _ _ _ _ _ _ us hl => match us, hl with | [_, _], _ => rfl
  have F14 := fun_mk (st := sMul) l14 c14 k14
  have b14 := F14.binds (ps := ["self", "other"]) fun _ _ _ _ _ _ us hl => match us, hl with | [_, _], _ => rfl
  have F15 := fun_mk (st := sRmul) l15 c15 k15
  have b15 := F15.binds (ps := ["self", "other"]) fun _ _ _ _ _ _ us hl => match us, hl with | [_, _], _ => rfl
  have F16 := fun_mk (st := sFdv) l16 c16 k16
  have b16 := F16.binds (ps := ["self", "other"]) fun _ _ _ _ _ _ us hl => match us, hl with | [_, _], _ => rfl
  have F17 := fun_mk (st := sMod) l17 c17 k17
  have b17 := F17.binds (ps := ["self", "other"]) fun _ _ _ _ _ _ us hl => match us, hl with | [_, _], _ => rfl
  have F18 := fun_mk (st := sCap) l18 c18 k18
  have b18 := F18.binds (ps := ["self", "width"]) fun _ _ _ _ _ _ us hl => match us, hl with | [_, _], _ => rfl
  have F19 := fun_mk (st := sCell) l19 c19 k19
  have b19 := F19.binds (ps := ["_law_script", "_law_k"]) fun _ _ _ _ _ _ us hl => match us, hl with | [_, _], _ => rfl
  have F20 := fun_mk (st := sPool) l20 c20 k20
  have b20 := F20.binds (ps := ["_law_script", "_law_k"]) fun _ _ _ _ _ _ us hl => match us, hl with | [_, _], _ => rfl
  have F21 := fun_mk (st := sTake) l21 c21 k21
  have b21 := F21.binds (ps := ["_law_pool_here", "_law_many"]) fun _ _ _ _ _ _ us hl => match us, hl with | [_, _], _ => rfl
  have F22 := fun_mk (st := sSame) l22 c22 k22
  have b22 := F22.binds (ps := ["_law_got", "_law_due"]) fun _ _ _ _ _ _ us hl => match us, hl with | [_, _], _ => rfl
  have F23 := fun_mk (st := sInt) l23 c23 k23
  have b23 := F23.binds (ps := ["_law_got"]) fun _ _ _ _ _ _ us hl => match us, hl with | [_], _ => rfl
  have F24 := fun_mk (st := sSize) l24 c24 k24
  have b24 := F24.binds (ps := ["_law_pool_here"]) fun _ _ _ _ _ _ us hl => match us, hl with | [_], _ => rfl
  have F25 := fun_mk (st := sCount) l25 c25 k25
  have b25 := F25.binds (ps := ["_law_pool_here"]) fun _ _ _ _ _ _ us hl => match us, hl with | [_], _ => rfl
  have F26 := fun_mk (st := sIsl) l26 c26 k26
  have b26 := F26.binds (ps := ["_law_got", "_law_counts"]) fun _ _ _ _ _ _ us hl => match us, hl with | [_, _], _ => rfl
  have F27 := fun_mk (st := sNum) l27 c27 k27
  have b27 := F27.binds (ps := ["_law_pool_here", "_law_limit"]) fun _ _ _ _ _ _ us hl => match us, hl with | [_, _], _ => rfl
  have F28 := fun_mk (st := sMade) l28 c28 k28
  have b28 := F28.binds (ps := ["_law_way", "_law_load", "_law_number_here"]) fun _ _ _ _ _ _ us hl => match us, hl with | [_, _, _], _ => rfl
  have F29 := fun_mk (st := sRf) l29 c29 k29
  have b29 := F29.binds (ps := ["_law_way", "_law_load", "_law_number_here"]) fun _ _ _ _ _ _ us hl => match us, hl with | [_, _, _], _ => rfl
  have F30 := fun_mk (st := sShd) l30 c30 k30
  have b30 := F30.binds (ps := ["_law_load", "_law_counts", "_law_divisor"]) fun _ _ _ _ _ _ us hl => match us, hl with | [_, _, _], _ => rfl
  have F31 := fun_mk (st := sFsh) l31 c31 k31
  have b31 := F31.binds (ps := ["_law_load", "_law_counts"]) fun _ _ _ _ _ _ us hl => match us, hl with | [_, _], _ => rfl
  have F32 := fun_mk (st := sRul) l32 c32 k32
  have b32 := F32.binds (ps := ["_law_load", "_law_size_here", "_law_factor", "_law_more", "_law_small", "_law_divisor", "_law_breadth", "_law_other"]) fun _ _ _ _ _ _ us hl => match us, hl with | [_, _, _, _, _, _, _, _], _ => rfl
  have F33 := fun_mk (st := sLaw) l33 c33 k33
  have b33 := F33.binds (ps := ["_law_script"]) fun _ _ _ _ _ _ us hl => match us, hl with | [_], _ => rfl
  let T : Tx K mg := { t_MOST_LENGTH := _, c_MOST_LENGTH := PySem.W.mg_of X G k_MOST_LENGTH, z_len := PySem.W.mg_none_of X G z_len, z_min := PySem.W.mg_none_of X G z_min, z_max := PySem.W.mg_none_of X G z_max, z_list := PySem.W.mg_none_of X G z_list, z_zip := PySem.W.mg_none_of X G z_zip, z_any := PySem.W.mg_none_of X G z_any, z_all := PySem.W.mg_none_of X G z_all, z_abs := PySem.W.mg_none_of X G z_abs, z_int := PySem.W.mg_none_of X G z_int, z_bool := PySem.W.mg_none_of X G z_bool, z_str := PySem.W.mg_none_of X G z_str, z_isinstance := PySem.W.mg_none_of X G z_isinstance, z_tuple := PySem.W.mg_none_of X G z_tuple, z_range := PySem.W.mg_none_of X G z_range, z_ValueError := PySem.W.mg_none_of X G z_ValueError, C_Load := CLoad, g_Load := PySem.W.mg_of X G a_Load, cl_Load := ⟨pg_Load, hd_Load, po_Load, sa_Load⟩, na_Load__counts := na_Load__counts, fcheck_length := f0, dcheck_length := _, Fcheck_length := F0, bcheck_length := b0, gcheck_length := PySem.W.mg_of X G a0, fcheck_least := f1, dcheck_least := _, Fcheck_least := F1, bcheck_least := b1, gcheck_least := PySem.W.mg_of X G a1, fLoad_init := f2, dLoad_init := _, FLoad_init := F2, bLoad_init := b2, M_Load := ⟨mk_Load, a2, i2, kc_Load⟩, fLoad_check_minute := f3, dLoad_check_minute := _, FLoad_check_minute := F3, bLoad_check_minute := b3, m_Load_check_minute := ⟨a3, i3, k3⟩, fLoad_pairs := f4, dLoad_pairs := _, FLoad_pairs := F4, bLoad_pairs := b4, m_Load_pairs := ⟨a4, i4, k4⟩, fLoad_len := f5, dLoad_len := _, FLoad_len := F5, bLoad_len := b5, m_Load_len := ⟨a5, i5, k5⟩, fLoad_getitem := f6, dLoad_getitem := _, FLoad_getitem := F6, bLoad_getitem := b6, m_Load_getitem := ⟨a6, i6, k6⟩, fLoad_put := f7, dLoad_put := _, FLoad_put := F7, bLoad_put := b7, m_Load_put := ⟨a7, i7, k7⟩, fLoad_bool := f8, dLoad_bool := _, FLoad_bool := F8, bLoad_bool := b8, m_Load_bool := ⟨a8, i8, k8⟩, fLoad_eq := f9, dLoad_eq := _, FLoad_eq := F9, bLoad_eq := b9, m_Load_eq := ⟨a9, i9, k9⟩, fLoad_add := f10, dLoad_add := _, FLoad_add := F10, bLoad_add := b10, m_Load_add := ⟨a10, i10, k10⟩, fLoad_sub := f11, dLoad_sub := _, FLoad_sub := F11, bLoad_sub := b11, m_Load_sub := ⟨a11, i11, k11⟩, fLoad_and := f12, dLoad_and := _, FLoad_and := F12, bLoad_and := b12, m_Load_and := ⟨a12, i12, k12⟩, fLoad_within := f13, dLoad_within := _, FLoad_within := F13, bLoad_within := b13, m_Load_within := ⟨a13, i13, k13⟩, fLoad_mul := f14, dLoad_mul := _, FLoad_mul := F14, bLoad_mul := b14, m_Load_mul := ⟨a14, i14, k14⟩, fLoad_rmul := f15, dLoad_rmul := _, FLoad_rmul := F15, bLoad_rmul := b15, m_Load_rmul := ⟨a15, i15, k15⟩, fLoad_floordiv := f16, dLoad_floordiv := _, FLoad_floordiv := F16, bLoad_floordiv := b16, m_Load_floordiv := ⟨a16, i16, k16⟩, fLoad_mod := f17, dLoad_mod := _, FLoad_mod := F17, bLoad_mod := b17, m_Load_mod := ⟨a17, i17, k17⟩, fLoad_capped := f18, dLoad_capped := _, FLoad_capped := F18, bLoad_capped := b18, m_Load_capped := ⟨a18, i18, k18⟩, f_law_cell := f19, d_law_cell := _, F_law_cell := F19, b_law_cell := b19, g_law_cell := PySem.W.mg_of X G a19, f_law_pool := f20, d_law_pool := _, F_law_pool := F20, b_law_pool := b20, g_law_pool := PySem.W.mg_of X G a20, f_law_take := f21, d_law_take := _, F_law_take := F21, b_law_take := b21, g_law_take := PySem.W.mg_of X G a21, f_law_same := f22, d_law_same := _, F_law_same := F22, b_law_same := b22, g_law_same := PySem.W.mg_of X G a22, f_law_int := f23, d_law_int := _, F_law_int := F23, b_law_int := b23, g_law_int := PySem.W.mg_of X G a23, f_law_size := f24, d_law_size := _, F_law_size := F24, b_law_size := b24, g_law_size := PySem.W.mg_of X G a24, f_law_count := f25, d_law_count := _, F_law_count := F25, b_law_count := b25, g_law_count := PySem.W.mg_of X G a25, f_law_is_load := f26, d_law_is_load := _, F_law_is_load := F26, b_law_is_load := b26, g_law_is_load := PySem.W.mg_of X G a26, f_law_number := f27, d_law_number := _, F_law_number := F27, b_law_number := b27, g_law_number := PySem.W.mg_of X G a27, f_law_made := f28, d_law_made := _, F_law_made := F28, b_law_made := b28, g_law_made := PySem.W.mg_of X G a28, f_law_refuses := f29, d_law_refuses := _, F_law_refuses := F29, b_law_refuses := b29, g_law_refuses := PySem.W.mg_of X G a29, f_law_shared := f30, d_law_shared := _, F_law_shared := F30, b_law_shared := b30, g_law_shared := PySem.W.mg_of X G a30, f_law_fresh := f31, d_law_fresh := _, F_law_fresh := F31, b_law_fresh := b31, g_law_fresh := PySem.W.mg_of X G a31, f_law_rules := f32, d_law_rules := _, F_law_rules := F32, b_law_rules := b32, g_law_rules := PySem.W.mg_of X G a32, flaw := fa, dlaw := _, Flaw := F33, blaw := b33, glaw := PySem.W.mg_of X G a33, C_DepotError := CDepotError, g_DepotError := PySem.W.mg_of X G a_DepotError, C_BadLoad := CBadLoad, g_BadLoad := PySem.W.mg_of X G a_BadLoad, C_BadNumber := CBadNumber, g_BadNumber := PySem.W.mg_of X G a_BadNumber, xo_BadLoad := h_xo_BadLoad, kp_BadLoad := h_kp_BadLoad, ty_DepotError := h_ty_DepotError, bs_DepotError := h_bs_DepotError, hd_DepotError := h_hd_DepotError, ty_BadLoad := h_ty_BadLoad, bs_BadLoad := h_bs_BadLoad, hd_BadLoad := h_hd_BadLoad, ty_BadNumber := h_ty_BadNumber, bs_BadNumber := h_bs_BadNumber, hd_BadNumber := h_hd_BadNumber, sb_BadLoad_DepotError := h_sb_BadLoad_DepotError, sb_BadLoad_BadNumber := h_sb_BadLoad_BadNumber, sb_BadLoad_self := h_sb_BadLoad_self, sb_BadLoad_ValueError := h_sb_BadLoad_ValueError, ga_BadLoad := h_ga_BadLoad, gg_BadLoad := h_gg_BadLoad, cl_BadLoad := h_cl_BadLoad, sp_class := h_sp_class, tk_class := h_tk_class, mr_BadLoad := h_mr_BadLoad, sf_Load := h_sf_Load, ic_Load := h_ic_Load, mr_Load := h_mr_Load, ti_mul := h_ti_mul, ti_rmul := h_ti_rmul, ti_fdv := h_ti_fdv, ti_rfdv := h_ti_rfdv, ti_mod := h_ti_mod, ti_rmod := h_ti_rmod, nr_fdv := h_nr_fdv, nr_mod := h_nr_mod, si_Load := h_si_Load, sl_Load := h_sl_Load, fn_Load_getitem := h_fng }
  exact ⟨_, fun s v => .of_eq rfl, fun base _ _ => ok_law T⟩
end D2
open PySem PySem.W PyProof.Rows
set_option maxRecDepth 100000 in
set_option maxHeartbeats 0 in
theorem PySem.Challenge.cw_depotday_k02_load_shares_holds : PySem.Challenge.rw_depotday_k02_load_shares.Holds := by
  w_on; o_law; k_head; (case hw => w_witness2)
  k_fill
  refine L2.walk_of (l := PySem.Challenge.rw_depotday_k02_load_shares) (n := 63) (k := 14) (x := "_law_script") (CX := fun _ => L2.CX0) (sp := fun w => D2.spLaw _) rfl (by decide) rfl ⟨rfl, by decide, by decide⟩ (fun w h Y => PySem.W.kIn_of Y) ?F (fun _ _ a ns hl _ hS => ⟨a, ns, rfl, hS, hl, fun _ => rfl⟩) (fun _ _ _ _ _ h => h)
  case F =>
    intro w mg fa h KX G hmg
    refine' D2.all_mk KX G hmg ?k_MOST_LENGTH ?z_len ?z_min ?z_max ?z_list ?z_zip ?z_any ?z_all ?z_abs ?z_int ?z_bool ?z_str ?z_isinstance ?z_tuple ?z_range ?z_ValueError ?a_Load ?pg_Load ?hd_Load ?po_Load ?sa_Load ?mk_Load ?kc_Load ?na_Load__counts ?a0 ?l0 ?c0 ?k0 ?a1 ?l1 ?c1 ?k1 ?a2 ?i2 ?l2 ?c2 ?k2 ?a3 ?i3 ?l3 ?c3 ?k3 ?a4 ?i4 ?l4 ?c4 ?k4 ?a5 ?i5 ?l5 ?c5 ?k5 ?a6 ?i6 ?l6 ?c6 ?k6 ?a7 ?i7 ?l7 ?c7 ?k7 ?a8 ?i8 ?l8 ?c8 ?k8 ?a9 ?i9 ?l9 ?c9 ?k9 ?a10 ?i10 ?l10 ?c10 ?k10 ?a11 ?i11 ?l11 ?c11 ?k11 ?a12 ?i12 ?l12 ?c12 ?k12 ?a13 ?i13 ?l13 ?c13 ?k13 ?a14 ?i14 ?l14 ?c14 ?k14 ?a15 ?i15 ?l15 ?c15 ?k15 ?a16 ?i16 ?l16 ?c16 ?k16 ?a17 ?i17 ?l17 ?c17 ?k17 ?a18 ?i18 ?l18 ?c18 ?k18 ?a19 ?l19 ?c19 ?k19 ?a20 ?l20 ?c20 ?k20 ?a21 ?l21 ?c21 ?k21 ?a22 ?l22 ?c22 ?k22 ?a23 ?l23 ?c23 ?k23 ?a24 ?l24 ?c24 ?k24 ?a25 ?l25 ?c25 ?k25 ?a26 ?l26 ?c26 ?k26 ?a27 ?l27 ?c27 ?k27 ?a28 ?l28 ?c28 ?k28 ?a29 ?l29 ?c29 ?k29 ?a30 ?l30 ?c30 ?k30 ?a31 ?l31 ?c31 ?k31 ?a32 ?l32 ?c32 ?k32 ?a33 ?l33 ?c33 ?k33 ?a_DepotError ?a_BadLoad ?a_BadNumber ?h_xo_BadLoad ?h_kp_BadLoad ?h_ty_DepotError ?h_bs_DepotError ?h_hd_DepotError ?h_ty_BadLoad ?h_bs_BadLoad ?h_hd_BadLoad ?h_ty_BadNumber ?h_bs_BadNumber ?h_hd_BadNumber ?h_sb_BadLoad_DepotError ?h_sb_BadLoad_BadNumber ?h_sb_BadLoad_self ?h_sb_BadLoad_ValueError ?h_ga_BadLoad ?h_gg_BadLoad ?h_cl_BadLoad ?h_sp_class ?h_tk_class ?h_mr_BadLoad ?h_sf_Load ?h_ic_Load ?h_mr_Load ?h_ti_mul ?h_ti_rmul ?h_ti_fdv ?h_ti_rfdv ?h_ti_mod ?h_ti_rmod ?h_nr_fdv ?h_nr_mod ?h_si_Load ?h_sl_Load ?h_fng
    (case k_MOST_LENGTH => k_is)
    (case z_len => k_is)
    (case z_min => k_is)
    (case z_max => k_is)
    (case z_list => k_is)
    (case z_zip => k_is)
    (case z_any => k_is)
    (case z_all => k_is)
    (case z_abs => k_is)
    (case z_int => k_is)
    (case z_bool => k_is)
    (case z_str => k_is)
    (case z_isinstance => k_is)
    (case z_tuple => k_is)
    (case z_range => k_is)
    (case z_ValueError => k_is)
    (case a_Load => k_is)
    (case pg_Load => k_is)
    (case hd_Load => k_is)
    (case po_Load => k_is)
    (case sa_Load => k_is)
    (case mk_Load => k_is)
    (case kc_Load => k_is)
    (case na_Load__counts => k_is)
    (case a0 => k_is)
    (case l0 => k_is)
    (case c0 => k_is)
    (case k0 => k_is)
    (case a1 => k_is)
    (case l1 => k_is)
    (case c1 => k_is)
    (case k1 => k_is)
    (case a2 => k_is)
    (case i2 => k_is)
    (case l2 => k_is)
    (case c2 => k_is)
    (case k2 => k_is)
    (case a3 => k_is)
    (case i3 => k_is)
    (case l3 => k_is)
    (case c3 => k_is)
    (case k3 => k_is)
    (case a4 => k_is)
    (case i4 => k_is)
    (case l4 => k_is)
    (case c4 => k_is)
    (case k4 => k_is)
    (case a5 => k_is)
    (case i5 => k_is)
    (case l5 => k_is)
    (case c5 => k_is)
    (case k5 => k_is)
    (case a6 => k_is)
    (case i6 => k_is)
    (case l6 => k_is)
    (case c6 => k_is)
    (case k6 => k_is)
    (case a7 => k_is)
    (case i7 => k_is)
    (case l7 => k_is)
    (case c7 => k_is)
    (case k7 => k_is)
    (case a8 => k_is)
    (case i8 => k_is)
    (case l8 => k_is)
    (case c8 => k_is)
    (case k8 => k_is)
    (case a9 => k_is)
    (case i9 => k_is)
    (case l9 => k_is)
    (case c9 => k_is)
    (case k9 => k_is)
    (case a10 => k_is)
    (case i10 => k_is)
    (case l10 => k_is)
    (case c10 => k_is)
    (case k10 => k_is)
    (case a11 => k_is)
    (case i11 => k_is)
    (case l11 => k_is)
    (case c11 => k_is)
    (case k11 => k_is)
    (case a12 => k_is)
    (case i12 => k_is)
    (case l12 => k_is)
    (case c12 => k_is)
    (case k12 => k_is)
    (case a13 => k_is)
    (case i13 => k_is)
    (case l13 => k_is)
    (case c13 => k_is)
    (case k13 => k_is)
    (case a14 => k_is)
    (case i14 => k_is)
    (case l14 => k_is)
    (case c14 => k_is)
    (case k14 => k_is)
    (case a15 => k_is)
    (case i15 => k_is)
    (case l15 => k_is)
    (case c15 => k_is)
    (case k15 => k_is)
    (case a16 => k_is)
    (case i16 => k_is)
    (case l16 => k_is)
    (case c16 => k_is)
    (case k16 => k_is)
    (case a17 => k_is)
    (case i17 => k_is)
    (case l17 => k_is)
    (case c17 => k_is)
    (case k17 => k_is)
    (case a18 => k_is)
    (case i18 => k_is)
    (case l18 => k_is)
    (case c18 => k_is)
    (case k18 => k_is)
    (case a19 => k_is)
    (case l19 => k_is)
    (case c19 => k_is)
    (case k19 => k_is)
    (case a20 => k_is)
    (case l20 => k_is)
    (case c20 => k_is)
    (case k20 => k_is)
    (case a21 => k_is)
    (case l21 => k_is)
    (case c21 => k_is)
    (case k21 => k_is)
    (case a22 => k_is)
    (case l22 => k_is)
    (case c22 => k_is)
    (case k22 => k_is)
    (case a23 => k_is)
    (case l23 => k_is)
    (case c23 => k_is)
    (case k23 => k_is)
    (case a24 => k_is)
    (case l24 => k_is)
    (case c24 => k_is)
    (case k24 => k_is)
    (case a25 => k_is)
    (case l25 => k_is)
    (case c25 => k_is)
    (case k25 => k_is)
    (case a26 => k_is)
    (case l26 => k_is)
    (case c26 => k_is)
    (case k26 => k_is)
    (case a27 => k_is)
    (case l27 => k_is)
    (case c27 => k_is)
    (case k27 => k_is)
    (case a28 => k_is)
    (case l28 => k_is)
    (case c28 => k_is)
    (case k28 => k_is)
    (case a29 => k_is)
    (case l29 => k_is)
    (case c29 => k_is)
    (case k29 => k_is)
    (case a30 => k_is)
    (case l30 => k_is)
    (case c30 => k_is)
    (case k30 => k_is)
    (case a31 => k_is)
    (case l31 => k_is)
    (case c31 => k_is)
    (case k31 => k_is)
    (case a32 => k_is)
    (case l32 => k_is)
    (case c32 => k_is)
    (case k32 => k_is)
    (case a33 => k_is)
    (case l33 => k_is)
    (case c33 => k_is)
    (case k33 => k_is)
    (case a_DepotError => k_is)
    (case a_BadLoad => k_is)
    (case a_BadNumber => k_is)
    (case h_xo_BadLoad => k_exc)
    (case h_kp_BadLoad => k_is)
    (case h_ty_DepotError => k_is)
    (case h_bs_DepotError => k_is)
    (case h_hd_DepotError => k_is)
    (case h_ty_BadLoad => k_is)
    (case h_bs_BadLoad => k_is)
    (case h_hd_BadLoad => k_is)
    (case h_ty_BadNumber => k_is)
    (case h_bs_BadNumber => k_is)
    (case h_hd_BadNumber => k_is)
    (case h_sb_BadLoad_DepotError => k_is)
    (case h_sb_BadLoad_BadNumber => k_is)
    (case h_sb_BadLoad_self => k_is)
    (case h_sb_BadLoad_ValueError => k_is)
    (case h_ga_BadLoad => k_is)
    (case h_gg_BadLoad => k_is)
    (case h_cl_BadLoad => k_is)
    (case h_sp_class => k_is)
    (case h_tk_class => k_is)
    (case h_mr_BadLoad => k_is)
    (case h_sf_Load => k_is)
    (case h_ic_Load => k_is)
    (case h_mr_Load => k_is)
    (case h_ti_mul => k_is)
    (case h_ti_rmul => k_is)
    (case h_ti_fdv => k_is)
    (case h_ti_rfdv => k_is)
    (case h_ti_mod => k_is)
    (case h_ti_rmod => k_is)
    (case h_nr_fdv => k_is)
    (case h_nr_mod => k_is)
    (case h_si_Load => k_is)
    (case h_sl_Load => k_is)
    (case h_fng => k_is)
#print axioms PySem.Challenge.cw_depotday_k02_load_shares_holds
