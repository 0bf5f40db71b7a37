import PyProof.Rows.All
import Wide.All
import OpenK.AllK
import Wide.FinOn
import HandS.ForMost
import HandS.ForExc
import HandS.IsInst
import HandS.Conv
import HandS.NoneIn
import HandS.OwnEq
import HandS.OwnIter
import HandS.ExcIs
import HandS.More
import KE.KOpsOwn
import HandS.IterNext
import HandS.ExcOwn
import PyProof.WalksMore
import KE.KDictZip
import HandS.Rev
import HandS.ExcInit
import HandS.ExcField
import HandS.FStr
import HandS.Codes
import HandS.Wide
import KE.KExcIs
import KE.GoesMore
import PyProof.EnumMake
import HandS.TryMany
import HandS.Exc
import HandS.Walk
import HandS.Style
import HandS.Text
import HandS.RaiseMore
import HandS.TupAny
import HandS.Deep
import KE.KCallOwn
import HandS.Defaults
import HandS.Strs
import HandS.Star
import HandS.SetIn
import HandS.SetFor
import HandS.TupSets
import KE.SortData
import KE.DataMinMax
import KE.DataFind
import KE.DataCmp
import KE.GoesEnum
import HandS.WordsDict
import HandS.Gcd
import HandS.ClsMeth
import PySem.Challenge.RW_depotday_k04_load_of_stretches
set_option Elab.async false
set_option linter.all false
set_option maxRecDepth 100000
set_option synthInstance.maxSize 400
set_option maxHeartbeats 8000000
namespace KO
open PySem PySem.Spec PyProof.Rows L2
section
variable {X : Cx} {CX : CXT} {k : Nat} {f C : Addr} {fd : FuncData} {ps : List Str} {sp : Sp} {E : L2.St → XK}
theorem own_run {A : Around} {pins : List (Addr × Obj)} {σ : L2.St} {H : Hp} {s : Shared} {Q : VK} {us : List Value} {vs : List V} (F : FnOk X.prog X.w X.K X.mg X.base CX k f fd ps sp) (hr : Room k A) (fr : A.frames = X.A.frames) (hb : Binds X.K fd ps [])
    (hx : PassesAt CX X σ (E σ)) (I : Inv X pins σ H s) (r : Vals vs us) (h : sp vs H Q (E σ)) : wpAny (model X.prog X.w) A (call (.ref f) us) (EP X pins σ Q) X.xe s := by
  have hl : us.length = ps.length := r.length.symm.trans (F.len _ _ _ _ h)
  have b := hb s us I.kIn (by rw [List.append_nil]; exact hl)
  rw [List.append_nil] at b
  have e := I.env0
  have e2 : Env0 X.prog X.w X.K X.mg X.base A X.stack s H := ⟨by rw [fr]; exact e.frames, e.mod, e.bs, e.bsz, e.funs, e.frf, e.hok, e.bare⟩
  refine wpAny_call (codeAny_mono (F.run A X.stack s H ⟨us, []⟩ us vs Q (E σ) hr e2 b r h) fun r s' hq => ?_)
  cases r with
  | error e => exact hx pins H s e s' I hq
  | ok fl =>
    cases fl with
    | ret u => exact I.after hq
    | next => exact hq.elim
    | brk => exact hq.elim
    | cont => exact hq.elim
theorem inst_at {pins : List (Addr × Obj)} {σ : L2.St} {H : Hp} {s : Shared} {a dx : Addr} {fs : List (Str × V)} (I : Inv X pins σ H s) (ha : H a = some (.ins C dx fs)) : ∃ ox od, PySem.W.InstAt s.heap a ox C od := by
  obtain ⟨mA, J, _⟩ := ins_get I.hok ha
  obtain ⟨od, J, _⟩ := J.look
  exact ⟨_, _, J⟩
theorem vref {a : Addr} : RelV (.ref a) (Value.ref a) := rfl
def rLen (C : Addr) (sp : Sp) (E : XK) : List V → Hp → VK → Prop := fun xs H Q => ∃ a dx fs, xs = [.ref a] ∧ H a = some (.ins C dx fs) ∧ sp [.ref a] H (fun v H' => ∃ n : Int, v = .int n ∧ 0 ≤ n ∧ n < 2 ^ 63 ∧ Q (.int n) H') E
theorem len_own {E : XK} (m : Meth X.K C "__len__" f) (F : FnOk X.prog X.w X.K X.mg X.base CX k f fd ps sp) (hr : Room (k + 1) X.A) (hb : Binds X.K fd ps []) (hx : ∀ σ, PassesAt CX X σ E) : CallR X (.builtin "len") (rLen C sp E) := by
  intro pins s σ H xs us Q I r h
  obtain ⟨a, dx, fs, rfl, ha, q⟩ := h
  rw [Vals.ref1 r]
  obtain ⟨ox, od, J⟩ := inst_at I ha
  obtain ⟨m', hF⟩ := I.fr
  refine PySem.W.len_K hF I.ok.mod.kin J m.at_ m.fn (wpAny_mono (own_run (E := fun _ => E) (A := X.A.in1) F hr.in1 rfl hb (hx σ) I (.cons vref .nil) q) (fun u s' hu => ?_) fun _ _ x => x)
  obtain ⟨v, H', I', rv, n, rfl, n0, n1, q'⟩ := hu
  obtain ⟨t, rfl⟩ := rv
  exact ⟨⟨n0, n1⟩, .int n, H', I'.tok _, ⟨_, rfl⟩, q'⟩
def rEqO (C : Addr) (sp : Sp) (E : XK) : R2 := fun x y H Q => ∃ a dx fs b dy gs, x = .ref a ∧ y = .ref b ∧ H a = some (.ins C dx fs) ∧ H b = some (.ins C dy gs) ∧ sp [.ref a, .ref b] H (fun v H' => ∃ c, v = .bl c ∧ Q (.bl c) H') E
theorem eq_own {E : XK} (m : Meth X.K C "__eq__" f) (F : FnOk X.prog X.w X.K X.mg X.base CX k f fd ps sp) (hr : Room k X.A) (hb : Binds X.K fd ps []) (hx : ∀ σ, PassesAt CX X σ E) : OpR X (compareOp .Eq) (rEqO C sp E) := by
  intro pins s σ H x y v u Q I rx ry h
  obtain ⟨a, dx, fs, b, dy, gs, rfl, rfl, ha, hb', q⟩ := h
  cases rx
  cases ry
  obtain ⟨ox, od, J⟩ := inst_at I ha
  obtain ⟨oy, od', J'⟩ := inst_at I hb'
  obtain ⟨m', hF⟩ := I.fr
  refine PySem.W.cmp_K (op := .Eq) (tb := .ref C) hr.units0 hF I.ok.mod.kin J J'.type (by simp [PySem.W.notFirst]) m.at_ m.fn (wpAny_mono (own_run (E := fun _ => E) F hr rfl hb (hx σ) I (.cons vref (.cons vref .nil)) q) (fun u s' hu => ?_) fun _ _ x => x)
  obtain ⟨v, H', I', rv, c, rfl, q'⟩ := hu
  cases rv
  exact ⟨.bl c, H', I', rfl, q'⟩
def tSubO (C : Addr) (sp : Sp) (E : L2.St → XK) (ta tb : TE) : TE := fun σ H Q => ta σ H fun x H1 => tb σ H1 fun y H2 => ∃ a dx fs, x = .ref a ∧ H2 a = some (.ins C dx fs) ∧ sp [.ref a, y] H2 Q (E σ)
theorem pe_subOwn {a b : Expr} {ta tb : TE} {pos : Pos} (m : Meth X.K C "__getitem__" f) (hfn : PySem.W.fnIn X.K f = true) (F : FnOk X.prog X.w X.K X.mg X.base CX k f fd ps sp) (hr : Room (k + 1) X.A) (hb : Binds X.K fd ps []) (hx : ∀ σ, PassesAt CX X σ (E σ))
    (ha : PE X a ta) (hb' : PE X b tb) (hs : ∀ o i, subscripted b true o i = runValue (.builtin "lifetime.subscript" ⟨[o, i], []⟩) := by intro _ _; with_unfolding_all rfl) : PE X (.Subscript a b pos) (tSubO C sp E ta tb) := by
  refine ⟨fun pins s σ H Q I h => ?_⟩
  refine Subscript_ (binT ha hb' (R := fun x y H2 => ∃ a dx fs, x = .ref a ∧ H2 a = some (.ins C dx fs) ∧ sp [.ref a, y] H2 Q (E σ)) I h fun v u s2 x y H2 I2 rx ry q => ?_)
  obtain ⟨o, dx, fs, rfl, ho, q⟩ := q
  cases rx
  obtain ⟨ox, od, J⟩ := inst_at I2 ho
  obtain ⟨m', hF⟩ := I2.fr
  exact PySem.W.sub_K hF I2.ok.mod.kin J m.at_ hfn m.fn (own_run (A := X.A.in1) F hr.in1 rfl hb (hx σ) I2 (.cons vref (.cons ry .nil)) q) (hs _ _)
def rAbs (C : Addr) (sp : Sp) (E : XK) : List V → Hp → VK → Prop := fun xs H Q => ∃ a dx fs, xs = [.ref a] ∧ H a = some (.ins C dx fs) ∧ sp [.ref a] H Q E
theorem abs_own {E : XK} (m : Meth X.K C "__abs__" f) (F : FnOk X.prog X.w X.K X.mg X.base CX k f fd ps sp) (hr : Room (k + 1) X.A) (hb : Binds X.K fd ps []) (hx : ∀ σ, PassesAt CX X σ E) : CallR X (.builtin "abs") (rAbs C sp E) := by
  intro pins s σ H xs us Q I r h
  obtain ⟨a, dx, fs, rfl, ha, q⟩ := h
  rw [Vals.ref1 r]
  obtain ⟨ox, od, J⟩ := inst_at I ha
  refine Calls.call_function_entry kind_abs plain_abs entry_abs (args_abs _) ?_
  unfold Builtin.«abs»
  refine wpAny_bind (m := oneArg "abs" _) (wpAny_pure ?_)
  refine wpAny_bind (m := callSpecial? (.ref a) (Str.ofString "__abs__")) (PySem.W.special_fn I.kIn J m.at_ (beq_iff_eq.mp m.fn) (wpAny_mono (own_run (E := fun _ => E) (A := X.A.in1) F hr.in1 rfl hb (hx σ) I (.cons vref .nil) q) (fun u s' hu => ?_) fun _ _ x => x))
  exact wpAny_pure ⟨_, rfl, hu⟩
end
end KO
namespace KO
open PySem PySem.Spec PyProof.Rows L2
section
variable {prog : Program} {w : World} {A : Around} {E : Value → Shared → Prop} {s : Shared} {it l : Addr} {i : Nat} {items : Array Value}
end
section
variable {X : Cx} {k kl ki : Nat} {f fi fl C : Addr} {fd fdI fdL : FuncData} {ps psI psL : List Str} {sp spI spL : Sp}
end
end KO
namespace KO
open PySem PySem.Spec PyProof.Rows L2
section
variable {X : Cx} {CX : CXT} {k : Nat} {f C : Addr} {fd : FuncData} {ps : List Str} {sp : Sp} {E : L2.St → XK}
theorem pmk_own0 {bmB : List Value} {B newId initId : String} {x : Str} {p pos : Pos} (F : ExcBaseFacts B newId initId bmB) (q : PySem.W.excIn X.K C bmB newId = true) (gC : X.mg x = some (.ref C)) (kC : PySem.W.keepIn X.K (.ref C) = true) (r : Raises X (.ref C)) (hg : Gl X x)
    (hdb : (x == ("__debug__" : Str)) = false := by decide) : PMk X (.Call (.Name x p) [] [] pos) (fun _ H Q => Q (.ref C) none H) := by
  intro pins s σ H Q I h
  refine wpAny_Call_Name_kw (ld_glob I hg gC ?_ hdb)
  refine PySem.W.callWith_K0 I.kIn kC ?_
  obtain ⟨bm, N, nm, qn, bs, hdct, sn, sub, ab, col, dd, k0, k1, k2, k3, k5, mN, hC, hN, hni, T⟩ := exc_obj I.kIn q
  refine wpAny_call_exc_subT F T hC hN hni (fun h' e hm => ?_) (by show 0 ≤ sizeLine; exact Nat.zero_le _)
  exact mk_of I hm r h (I.hok.gone hm.new)
section
variable {prog : Program} {w : World} {A : Around} {E : Value → Shared → Prop} {s : Shared} {l : Addr} {xs : Array (Int × Tok)}
end
def rIsX (K : PySem.W.Frag) (D a : Addr) (cls : Value) (d : Option Addr) : List V → Hp → VK → Prop := fun xs H Q => cls = .ref D ∧ d = none ∧ rIsE K D a xs H Q
theorem call_isX {a D : Addr} {oe : Obj} {cls : Value} {d : Option Addr} {pn : List (Addr × Obj)} (Ce : ExcC X.K D) (hz : Zc cls d oe) (hf : ∃ vs, oe.data = .fields vs) : CallR (X.suite a ((a, oe) :: pn)) (.builtin "isinstance") (rIsX X.K D a cls d) := by
  intro pins s σ H xs us Q I r h
  obtain ⟨rfl, rfl, h⟩ := h
  exact call_isE Ce hz hf pins s σ H xs us Q I r h
def tMethX (C : Addr) (m : Str) (sp : Sp) (E : L2.St → XK) (ta : TE) (t : TA) : TE := fun σ H Q => ta σ H fun x H1 => ∃ a dx fs, x = .ref a ∧ H1 a = some (.ins C dx fs) ∧ fs.lookup m = none ∧ t σ H1 fun vs H2 => sp (x :: vs) H2 Q (E σ)
theorem pe_methX {m : Str} {o e : Expr} {es : List Expr} {ta : TE} {t : TA} {apos pos : Pos} {pl : Sem Bool} (he : PE X o ta) (c : Cls X.K C) (hm : Meth X.K C m f) (F : FnOk X.prog X.w X.K X.mg X.base CX k f fd ps sp) (hr : Room k X.A) (hb : Binds X.K fd ps []) (hx : ∀ σ, PassesAt CX X σ (E σ)) (ha : PA X (e :: es) t)
    (hst : starEach (e :: es) X.env = (false, eval e X.env) :: starEach es X.env := by rfl) (hpl : (backTo pos (starEach es X.env)).any (·.1) = false := by rfl)
    (ht : eval (.Call (.Attribute o m apos) (e :: es) [] pos) X.env = (do
      let ov ← eval o X.env
      standAt apos.atName
      let (f, first) ← holding [ov] (getMethod ov m pl)
      callWith pos f first (backTo pos (starEach (e :: es) X.env)) (backToKw pos (keywordEach [] X.env))) := by rfl) :
    PE X (.Call (.Attribute o m apos) (e :: es) [] pos) (tMethX C m sp E ta t) := by
  refine ⟨fun pins s σ H Q I h => ?_⟩
  refine PySem.W.methodCall_KW (pl := pl) (thn (he.run pins s σ H _ I h) fun u s1 ⟨x, H1, I1, rx, a, dx, fs, ex, ea, l, q⟩ => ?_) ht
  subst ex
  obtain rfl : u = Value.ref a := rx
  refine getmeth_ok I1 ea c hm l ?_
  refine PySem.W.callWith_K (first := [.ref a]) (h₀ := X.base) I.ok.mod.kin hm.kp (thn (ha.run pos pins s1 σ H1 _ I1 q) fun us s2 ⟨vs, H2, I2, r, q2⟩ => ⟨I2.kIn, ?_⟩) hst hpl
  exact run_fnS (us := .ref a :: us) (vs := .ref a :: vs) F hr hb (hx σ) I2 (.cons rfl r) q2
def tMakeX (C : Addr) (sp : Sp) (E : L2.St → XK) (t : TA) : TE := fun σ H Q => t σ H fun vs H1 => ∀ x dx, H1 x = none → H1 dx = none → dx ≠ x →
  sp (.ref x :: vs) (upd (upd H1 dx (.own x)) x (.ins C dx [])) (fun v H2 => v = .non ∧ Q (.ref x) H2) (E σ)
theorem run_makeX {pins : List (Addr × Obj)} {σ : L2.St} {H : Hp} {s : Shared} {Q : VK} {us : List Value} {vs : List V} (M : Mk X.K C f) (F : FnOk X.prog X.w X.K X.mg X.base CX k f fd ps sp) (hr : Room (k + 1) X.A) (hb : Binds X.K fd ps [])
    (hx : PassesAt CX X σ (E σ)) (I : Inv X pins σ H s) (r : Vals vs us)
    (h : ∀ x dx, H x = none → H dx = none → dx ≠ x → sp (.ref x :: vs) (upd (upd H dx (.own x)) x (.ins C dx [])) (fun v H2 => v = .non ∧ Q (.ref x) H2) (E σ)) :
    wpAny (model X.prog X.w) X.A (call (.ref C) us) (EP X pins σ Q) X.xe s := by
  have hq := h (s.heap.objs.size + 1) s.heap.objs.size (I.hok.fresh (Nat.le_succ _)) (I.hok.fresh (Nat.le_refl _)) (Nat.ne_of_lt (Nat.lt_succ_self _))
  have I2 := Inv.made (C := C) I
  have r2 : Vals (V.ref (s.heap.objs.size + 1) :: vs) (Value.ref (s.heap.objs.size + 1) :: us) := .cons rfl r
  have hl : (Value.ref (s.heap.objs.size + 1) :: us ++ []).length = ps.length := by
    have e := r2.length
    rw [F.len _ _ _ _ hq] at e
    rw [List.append_nil]
    exact e.symm
  rw [List.append_nil] at hl
  refine wpAny_call (make_map (f := f) I.kIn M.makes M.init (beq_iff_eq.mp M.fn) (codeAny_mono (F.run _ X.stack _ _ ⟨Value.ref (s.heap.objs.size + 1) :: us, []⟩ (Value.ref (s.heap.objs.size + 1) :: us) _ _ (E σ) (hr.make C us [])
    (I2.env0.make C us []) (by have b := hb _ (Value.ref (s.heap.objs.size + 1) :: us) I2.kIn (by rw [List.append_nil]; exact hl); rw [List.append_nil] at b; exact b) r2 hq) fun r s' hq' => ?_))
  cases r with
  | error e => exact hx pins _ _ e s' I2 hq'
  | ok fl =>
    cases fl with
    | ret u =>
      obtain ⟨v, H', I3, rv, ev, q3⟩ := I2.after hq'
      subst ev
      exact ⟨rv, ⟨V.ref (s.heap.objs.size + 1), H', I3, rfl, q3⟩⟩
    | next => exact False.elim hq'
    | brk => exact False.elim hq'
    | cont => exact False.elim hq'
theorem pe_makeX {x : Str} {p pos : Pos} {e : Expr} {es : List Expr} {t : TA} (M : Mk X.K C f) (F : FnOk X.prog X.w X.K X.mg X.base CX k f fd ps sp) (hr : Room (k + 1) X.A) (hg : Gl X x) (hm : X.mg x = some (.ref C)) (hb : Binds X.K fd ps []) (hx : ∀ σ, PassesAt CX X σ (E σ))
    (ha : PA X (e :: es) t) (hdb : (x == ("__debug__" : Str)) = false := by decide) (he : starEach (e :: es) X.env = (false, eval e X.env) :: starEach es X.env := by rfl) (hpl : (backTo pos (starEach es X.env)).any (·.1) = false := by rfl) :
    PE X (.Call (.Name x p) (e :: es) [] pos) (tMakeX C sp E t) := by
  refine ⟨fun pins s σ H Q I h => ?_⟩
  refine wpAny_Call_Name_kw (ld_glob I hg hm ?_ hdb)
  refine PySem.W.callWith_K (h₀ := X.base) I.ok.mod.kin M.kp (thn (ha.run pos pins s σ H _ I h) fun us s1 ⟨vs, H1, I1, r, q⟩ => ⟨I1.kIn, ?_⟩) he hpl
  exact run_makeX M F hr hb (hx σ) I1 r q
end
end KO
namespace KO
open PySem PySem.Spec PyProof.Rows L2
def ZSt (z TI TO i1 i2 a b S : Addr) (h : Heap) (i : Nat) : Prop := IsPair h TI (.ref i1) (.ref i2) ∧ h.IsListIter i1 a i ∧ h.IsListIter i2 b i ∧ (∃ o, h.get? TO = some o) ∧
  ((IsZip h z TI TO .none ∧ ∃ u v, IsPair h TO u v) ∨ ∃ T f oT, IsZipHeld h z TI TO T f ∧ h.get? T = some oT ∧ T ≠ z ∧ T ≠ i1 ∧ T ≠ i2 ∧ T ≠ S)
section
variable {X : Cx} {pins : List (Addr × Obj)} {σ : L2.St}
theorem ZSt.other {z TI TO i1 i2 a b S : Addr} {h h' : Heap} {i : Nat} (st : ZSt z TI TO i1 i2 a b S h i) (n : ∀ c ∈ [z, TI, TO, i1, i2], c ≠ S) (k : ∀ c o, c ≠ S → h.get? c = some o → h'.get? c = some o) : ZSt z TI TO i1 i2 a b S h' i := by
  obtain ⟨p1, p2, p3, ⟨o, p4⟩, p5⟩ := st
  refine ⟨k _ _ (n TI (by simp)) p1, p2.at fun o e => k _ o (n i1 (by simp)) e, p3.at fun o e => k _ o (n i2 (by simp)) e, ⟨o, k _ _ (n TO (by simp)) p4⟩, ?_⟩
  rcases p5 with ⟨q1, u, v, q2⟩ | ⟨T, f, oT, q1, q2, q3, q4, q5, q6⟩
  · exact .inl ⟨k _ _ (n z (by simp)) q1, u, v, k _ _ (n TO (by simp)) q2⟩
  · exact .inr ⟨T, f, oT, k _ _ (n z (by simp)) q1, k _ _ q6 q2, q3, q4, q5, q6⟩
def ZPr (H : Hp) (xs ys : List V) (ts : List Addr) : Prop := ∀ (j : Nat) (t : Addr), ts[j]? = some t → ∃ x y, xs[j]? = some x ∧ ys[j]? = some y ∧ H t = some (.tup [x, y])
theorem zip_nolen : typeLookup (.type "zip") "__len__" = pure none := am_miss_of_fast (by decide +kernel)
theorem zip_nohint : typeLookup (.type "zip") "__length_hint__" = pure none := am_miss_of_fast (by decide +kernel)
end
end KO
namespace KO
open PySem PySem.Spec PyProof.Rows L2 PySem.W
section
variable {prog : Program} {w : World} {A : Around} {E : Value → Shared → Prop} {s : Shared} {K : PySem.W.Frag} {x C L f g : Addr} {h₀ : Heap} {m : Str → Option Value} {ox : Obj} {od : Option Obj}
end
section
variable {X : Cx} {CX : CXT} {k : Nat} {f g C : Addr} {fd : FuncData} {ps : List Str} {sp : Sp} {E : XK}
theorem vint (i : Int) (t : Tok) : RelV (.int i) (Value.int i t) := ⟨t, rfl⟩
def rBinOI (C : Addr) (sp : Sp) (E : XK) : R2 := fun x y H Q => ∃ a dx fs, ∃ i : Int, x = .ref a ∧ y = .int i ∧ H a = some (.ins C dx fs) ∧ sp [.ref a, .int i] H (fun v H' => ∃ r, v = .ref r ∧ Q (.ref r) H') E
theorem bin_ownI {op : Operator} {name nameR : Str} {rc fo ro : Option Value} (hn : PySem.dunder op.info.2 = name) (hnR : dunderR op.info.2 = nameR) (m : Meth X.K C name f) (sf : PySem.W.selfFirst X.K C = true) (hr' : PySem.W.findIn X.K (.ref C) nameR = some rc) (hp : rc = none ∨ ∃ g : Addr, rc = some (.ref g))
    (h1 : PySem.W.findIn X.K (.type "int") name = some fo) (h2 : PySem.W.findIn X.K (.type "int") nameR = some ro) (hsub : PySem.W.subIn X.K (.type "int") (.ref C) = some false)
    (F : FnOk X.prog X.w X.K X.mg X.base CX k f fd ps sp) (hr : Room k X.A) (hb : Binds X.K fd ps []) (hx : ∀ σ, PassesAt CX X σ E) : OpR X (binaryOp op) (rBinOI C sp E) := by
  subst hn
  subst hnR
  intro pins s σ H x y v u Q I rx ry h
  obtain ⟨a, dx, fs, i, rfl, rfl, ha, q⟩ := h
  cases rx
  obtain ⟨t, rfl⟩ := ry
  obtain ⟨ox, od, J⟩ := inst_at I ha
  obtain ⟨m', hF⟩ := I.fr
  refine PySem.W.ksp_binT hF I.ok.mod.kin J (by rfl) sf m.at_ m.fn hr' hp h1 h2 hsub (wpAny_mono (own_run (E := fun _ => E) F hr rfl hb (hx σ) I (.cons vref (.cons (vint _ t) .nil)) q) (fun u s' hu => ?_) fun _ _ x => x)
  obtain ⟨v, H', I', rv, r, rfl, q'⟩ := hu
  cases rv
  exact ⟨.ref r, H', I', vref, q'⟩
end
end KO
namespace SX
open PySem PySem.Spec PyProof.Rows L2 KO
theorem iteD {c A B : Prop} [Decidable c] (hc : ¬ c) (h : B) : if decide c = true then A else B := by
  rw [decide_eq_false hc]
  exact iteF h
theorem iteDT {c A B : Prop} [Decidable c] (hc : c) (h : A) : if decide c = true then A else B := by
  rw [decide_eq_true hc]
  exact iteT h
theorem iteND {c A B : Prop} [Decidable c] (hc : c) (h : B) : if (!decide c) = true then A else B := iteNS hc h
theorem iteDs {c A B : Prop} [Decidable c] (h1 : c → A) (h2 : ¬ c → B) : if decide c = true then A else B := by
  by_cases h : c
  · exact iteDT h (h1 h)
  · exact iteD h (h2 h)
def But (p : Addr) (H H' : Hp) : Prop := ∀ b o, b ≠ p → H b = some o → H' b = some o
theorem But.refl (p : Addr) (H : Hp) : But p H H := fun _ _ _ h => h
theorem But.trans {p : Addr} {H H1 H2 : Hp} (a : But p H H1) (b : But p H1 H2) : But p H H2 := fun c o n h => b c o n (a c o n h)
theorem But.of {p : Addr} {H H' : Hp} (s : Same H H') : But p H H' := fun b o _ h => s b o h
theorem But.put {p : Addr} {H : Hp} {o : HO} : But p H (upd H p o) := fun b u n h => by
  rw [upd_ne n]
  exact h
theorem same_upd {H : Hp} {p : Addr} {o : HO} (h : H p = none) : Same H (upd H p o) := fun b x e => by
  rw [upd_ne (ne_of_none e h)]
  exact e
theorem Same.put {H H' : Hp} {p : Addr} {o : HO} (s : Same H H') (h : H p = none) : Same H (upd H' p o) := fun b x e => by
  rw [upd_ne (ne_of_none e h)]
  exact s b x e
theorem But.free {p : Addr} {H H' : Hp} (e : But p H H') {l : Addr} (hl : l ≠ p) (h : H' l = none) : H l = none := by
  cases q : H l with
  | none => rfl
  | some o =>
    rw [e l o hl q] at h
    cases h
def Pool (H : Hp) (p : Addr) : Prop := ∃ x f c : Int, H p = some (.lst [.int x, .int f, .int c])
theorem Pool.ne {H : Hp} {p l : Addr} (h : Pool H p) (hl : H l = none) : l ≠ p := fun e => by
  obtain ⟨x, f, c, h⟩ := h
  rw [e, h] at hl
  cases hl
theorem Pool.upd {H : Hp} {p l : Addr} {o : HO} (h : Pool H p) (hl : l ≠ p) : Pool (upd H l o) p := by
  obtain ⟨x, f, c, h⟩ := h
  exact ⟨x, f, c, by rw [upd_ne hl.symm]; exact h⟩

def Eqp (p : Addr) (H H' : Hp) : Prop := ∀ b, b ≠ p → H' b = H b
theorem Eqp.refl (p : Addr) (H : Hp) : Eqp p H H := fun _ _ => rfl
theorem Eqp.trans {p : Addr} {H H1 H2 : Hp} (a : Eqp p H H1) (b : Eqp p H1 H2) : Eqp p H H2 := fun c h => (b c h).trans (a c h)
def Run (p : Addr) (H H' : Hp) : Prop := But p H H' ∧ Pool H' p
theorem Run.trans {p : Addr} {H H1 H2 : Hp} (a : Run p H H1) (b : Run p H1 H2) : Run p H H2 := ⟨a.1.trans b.1, b.2⟩
theorem Run.get {p a : Addr} {H H' : Hp} {o : HO} (r : Run p H H') (h : H a = some o) (n : a ≠ p) : H' a = some o := r.1 _ _ n h
theorem upd_get {H : Hp} {p a : Addr} {u o : HO} (h : H a = some o) (hp : H p = none) : upd H p u a = some o := by
  rw [upd_ne (ne_of_none h hp)]; exact h
theorem Pool.tne {H : Hp} {p a : Addr} {xs : List V} (h : Pool H p) (ha : H a = some (.tup xs)) : a ≠ p := by
  obtain ⟨x, f, c, h⟩ := h
  exact ne_of ha h (by intro z; cases z)
section
variable {X : Cx} {CX : CXT} {k : Nat}
def rIsD (K : PySem.W.Frag) (D a : Addr) (cls : Value) (d : Option Addr) : List V → Hp → VK → Prop := fun xs H Q => cls = .ref D ∧ ∃ (dd : Addr) (fs : List (Str × V)), d = some dd ∧ H dd = some (.xd fs) ∧ rIsE K D a xs H Q
theorem call_isD {a D : Addr} {oe : Obj} {cls : Value} {d : Option Addr} {pn : List (Addr × Obj)} (C : ExcC X.K D) (hz : Zc cls d oe) (hf : ∃ vs, oe.data = .fields vs) : CallR (X.suite a ((a, oe) :: pn)) (.builtin "isinstance") (rIsD X.K D a cls d) := by
  intro pins s σ H xs us Q I r h
  obtain ⟨rfl, dd, fs, rfl, hdd, c, cv, b, rfl, hcv, e, q⟩ := h
  cases r with
  | cons rx rr =>
    cases rr with
    | cons rt rr =>
      cases rr
      cases rx
      have ec := hcv _ rt
      subst ec
      obtain ⟨hget, _⟩ := I.pin (a, oe) (List.mem_append.mpr (.inl List.mem_cons_self))
      obtain ⟨vs, hv⟩ := hf
      have hx : ObjOk X.prog X.w H s.heap dd (.xd fs) := I.hok dd _ hdd
      obtain ⟨mA, hns, hr⟩ := hx
      obtain ⟨od, ho, hl⟩ := lookIn_ns hns
      have J : PySem.W.InstAt s.heap a oe D (some od) := ⟨hget, hz.1, by unfold PySem.W.notCls; rw [hv] <;> rfl, by rw [hz.2]; exact ho⟩
      obtain ⟨cd, hc, _⟩ := PySem.W.any_some C.hd
      exact PySem.W.kia_one (PySem.W.kitx_exc (by rw [hc]; rfl) C.hg C.hk C.hs C.ha C.hn C.ht C.hm) I.kIn J e (fun z => nomatch z) fun tk => ⟨.bl b, H, I.kept (t' := tk) fun _ _ z => z, rfl, q⟩
variable {x : Str} {C fI : Addr} {fd : FuncData} {f g : Str} {e e2 : Expr} {te tf : TE} {p pos : Pos} {ps : List Str}
theorem PMk.imp {e : Expr} {t u : L2.St → Hp → XK → Prop} (h : PMk X e t) (i : ∀ σ H Q, u σ H Q → t σ H Q) : PMk X e u := fun pins s σ H Q I q => h pins s σ H Q I (i σ H Q q)
end
end SX
namespace SX
open PySem PySem.Spec PyProof.Rows L2 KO
theorem Run.upd {p a : Addr} {H H1 : Hp} {o : HO} (r : Run p H H1) (n : H1 a = none) : Run p H (upd H1 a o) :=
  ⟨fun b x h e => upd_get (r.1 b x h e) n, r.2.upd (r.2.ne n)⟩
theorem Run.nil {p : Addr} {H : Hp} (h : Pool H p) : Run p H H := ⟨But.refl p H, h⟩
theorem Run.put {p a : Addr} {H H1 : Hp} {o : HO} (r : Run p H H1) (n : H a = none) (ne : a ≠ p) : Run p H (L2.upd H1 a o) :=
  ⟨fun b x h e => by rw [upd_ne (ne_of_none e n)]; exact r.1 b x h e, r.2.upd ne⟩
theorem Run.free {p a : Addr} {H H1 : Hp} (r : Run p H H1) (n : H1 a = none) : H a = none := r.1.free (r.2.ne n) n
end SX
namespace SX
open PySem PySem.Spec PyProof.Rows L2 KO
theorem Same.get {H H' : Hp} {a : Addr} {o : HO} (s : Same H H') (h : H a = some o) : H' a = some o := s _ _ h
end SX
namespace SX
open PySem PySem.Spec PyProof.Rows L2 KO
theorem Pool.run {p : Addr} {H H' : Hp} (r : Run p H H') : Pool H' p := r.2
end SX
namespace SX
open PySem PySem.Spec PyProof.Rows L2 KO
end SX
namespace SX
open PySem PySem.Spec PyProof.Rows L2 KO
def Dq (p : Addr) : Nat → Hp → V → PyData → Prop
  | 0, _, _, _ => False
  | n + 1, H, v, d => match d with
    | .none => v = .non
    | .bool b => v = .bl b
    | .int i => v = .int i
    | .str s => v = .str s
    | .list ds => ∃ (a : Addr) (xs : List V), v = .ref a ∧ a ≠ p ∧ H a = some (.lst xs) ∧ xs.length = ds.length ∧ ds.length ≤ 1000 ∧ ∀ (i : Nat) (x : V) (e : PyData), xs[i]? = some x → ds[i]? = some e → Dq p n H x e
    | .tuple ds => ∃ (a : Addr) (xs : List V), v = .ref a ∧ a ≠ p ∧ H a = some (.tup xs) ∧ xs.length = ds.length ∧ ds.length ≤ 1000 ∧ ∀ (i : Nat) (x : V) (e : PyData), xs[i]? = some x → ds[i]? = some e → Dq p n H x e
    | .dict _ => False
variable {p : Addr} {H H' : Hp}
theorem Dq.keep (k : ∀ b o, b ≠ p → H b = some o → H' b = some o) : ∀ {n : Nat} {v : V} {d : PyData}, Dq p n H v d → Dq p n H' v d
  | 0, _, _, h => h.elim
  | n + 1, v, d, h => by
    cases d with
    | none => exact h
    | bool b => exact h
    | int i => exact h
    | str s => exact h
    | dict kv => exact h
    | list ds =>
      obtain ⟨a, xs, e, ne, ha, hl, hz, r⟩ := h
      exact ⟨a, xs, e, ne, k _ _ ne ha, hl, hz, fun i x e h1 h2 => Dq.keep k (r i x e h1 h2)⟩
    | tuple ds =>
      obtain ⟨a, xs, e, ne, ha, hl, hz, r⟩ := h
      exact ⟨a, xs, e, ne, k _ _ ne ha, hl, hz, fun i x e h1 h2 => Dq.keep k (r i x e h1 h2)⟩
theorem Dq.run {n : Nat} {v : V} {d : PyData} (h : Dq p n H v d) (s : Run p H H') : Dq p n H' v d := h.keep s.1
theorem Dq.up : ∀ {n : Nat} {v : V} {d : PyData}, Dq p n H v d → Dq p (n + 1) H v d
  | 0, _, _, h => h.elim
  | n + 1, v, d, h => by
    cases d with
    | none => exact h
    | bool b => exact h
    | int i => exact h
    | str s => exact h
    | dict kv => exact h
    | list ds =>
      obtain ⟨a, xs, e, ne, ha, hl, hz, r⟩ := h
      exact ⟨a, xs, e, ne, ha, hl, hz, fun i x e h1 h2 => Dq.up (r i x e h1 h2)⟩
    | tuple ds =>
      obtain ⟨a, xs, e, ne, ha, hl, hz, r⟩ := h
      exact ⟨a, xs, e, ne, ha, hl, hz, fun i x e h1 h2 => Dq.up (r i x e h1 h2)⟩
theorem Dq.le {n m : Nat} (hm : n ≤ m) {v : V} {d : PyData} (h : Dq p n H v d) : Dq p m H v d := by
  obtain ⟨k, rfl⟩ := Nat.exists_eq_add_of_le hm
  clear hm
  induction k with
  | zero => exact h
  | succ k ih => exact ih.up
theorem DpAll.of {K : PySem.W.Frag} : ∀ {xs : List V} {ds : List PyData}, xs.length = ds.length → (∀ (i : Nat) (x : V) (e : PyData), xs[i]? = some x → ds[i]? = some e → Dp K H x e) → DpAll K H xs ds
  | [], [], _, _ => .nil
  | [], _ :: _, h, _ => by simp at h
  | _ :: _, [], h, _ => by simp at h
  | x :: xs, d :: ds, h, r => .cons (r 0 x d rfl rfl) (DpAll.of (by simpa using h) fun i y e h1 h2 => r (i + 1) y e (by simpa using h1) (by simpa using h2))
theorem Dq.dp {K : PySem.W.Frag} : ∀ {n : Nat} {v : V} {d : PyData}, Dq p n H v d → Dp K H v d
  | 0, _, _, h => h.elim
  | n + 1, v, d, h => by
    cases d with
    | none => obtain rfl : v = _ := h; exact .non
    | bool b => obtain rfl : v = _ := h; exact .bl b
    | int i => obtain rfl : v = _ := h; exact .int i
    | str s => obtain rfl : v = _ := h; exact .str s
    | dict kv => exact h.elim
    | list ds =>
      obtain ⟨a, xs, rfl, ne, ha, hl, hz, r⟩ := h
      exact .lst (SqL.of ha) (DpAll.of hl fun i x e h1 h2 => (r i x e h1 h2).dp)
    | tuple ds =>
      obtain ⟨a, xs, rfl, ne, ha, hl, hz, r⟩ := h
      exact .tup (SqT.of ha) (DpAll.of hl fun i x e h1 h2 => (r i x e h1 h2).dp)
def DqA (p : Addr) (n : Nat) (H : Hp) (xs : List V) (ds : List PyData) : Prop := xs.length = ds.length ∧ ∀ (i : Nat) (x : V) (e : PyData), xs[i]? = some x → ds[i]? = some e → Dq p n H x e
theorem DqA.nil {n : Nat} : DqA p n H [] [] := ⟨rfl, fun i x e h => by simp at h⟩
theorem DqA.cons {n : Nat} {x : V} {xs : List V} {d : PyData} {ds : List PyData} (h : Dq p n H x d) (r : DqA p n H xs ds) : DqA p n H (x :: xs) (d :: ds) := ⟨by simp [r.1], fun i y e h1 h2 => by
  cases i with
  | zero =>
    simp at h1 h2
    subst h1 h2
    exact h
  | succ i => exact r.2 i y e (by simpa using h1) (by simpa using h2)⟩
theorem DqA.keep {n : Nat} (k : ∀ b o, b ≠ p → H b = some o → H' b = some o) {xs : List V} {ds : List PyData} (h : DqA p n H xs ds) : DqA p n H' xs ds := ⟨h.1, fun i x e h1 h2 => (h.2 i x e h1 h2).keep k⟩
theorem DqA.run {n : Nat} {xs : List V} {ds : List PyData} (h : DqA p n H xs ds) (s : Run p H H') : DqA p n H' xs ds := h.keep s.1
theorem DqA.append {n : Nat} {xs ys : List V} {ds es : List PyData} (h : DqA p n H xs ds) (r : DqA p n H ys es) : DqA p n H (xs ++ ys) (ds ++ es) := by
  refine ⟨by simp [h.1, r.1], fun i x e h1 h2 => ?_⟩
  by_cases hi : i < xs.length
  · rw [List.getElem?_append_left hi] at h1
    rw [List.getElem?_append_left (by rw [← h.1]; exact hi)] at h2
    exact h.2 i x e h1 h2
  · rw [List.getElem?_append_right (by omega)] at h1
    rw [List.getElem?_append_right (by rw [← h.1]; omega), ← h.1] at h2
    exact r.2 _ x e h1 h2
theorem DqA.lst {n : Nat} {a : Addr} {xs : List V} {ds : List PyData} (r : DqA p n H xs ds) (ne : a ≠ p) (ha : H a = some (.lst xs)) (hz : ds.length ≤ 1000) : Dq p (n + 1) H (.ref a) (.list ds) := ⟨a, xs, rfl, ne, ha, r.1, hz, r.2⟩
theorem DqA.tup {n : Nat} {a : Addr} {xs : List V} {ds : List PyData} (r : DqA p n H xs ds) (ne : a ≠ p) (ha : H a = some (.tup xs)) (hz : ds.length ≤ 1000) : Dq p (n + 1) H (.ref a) (.tuple ds) := ⟨a, xs, rfl, ne, ha, r.1, hz, r.2⟩
variable {K : PySem.W.Frag}
theorem at_of' {α : Type} {xs : List α} {i : Int} {j : Nat} {x : α} (e : i = (j : Int)) (h : xs[j]? = some x) : atI xs i = some x := by
  subst e
  exact atI_nat h
end SX
namespace SX
open PySem PySem.Spec PyProof.Rows L2 KO
end SX
namespace SX
open PySem PySem.Spec PyProof.Rows L2 KO
def Tq : Nat → Hp → V → PyData → Prop
  | 0, _, _, _ => False
  | n + 1, H, v, d => match d with
    | .none => v = .non
    | .bool b => v = .bl b
    | .int i => v = .int i
    | .str s => v = .str s
    | .list _ => False
    | .tuple ds => ∃ (a : Addr) (xs : List V), v = .ref a ∧ H a = some (.tup xs) ∧ xs.length = ds.length ∧ ds.length ≤ 1000 ∧ ∀ (i : Nat) (x : V) (e : PyData), xs[i]? = some x → ds[i]? = some e → Tq n H x e
    | .dict _ => False
def TK (H H' : Hp) : Prop := ∀ b xs, H b = some (.tup xs) → H' b = some (.tup xs)
theorem TK.refl (H : Hp) : TK H H := fun _ _ h => h
theorem TK.trans {H H1 H2 : Hp} (a : TK H H1) (b : TK H1 H2) : TK H H2 := fun c xs h => b c xs (a c xs h)
theorem TK.run {p : Addr} {H H' : Hp} (hp : Pool H p) (r : Run p H H') : TK H H' := fun b xs h => r.1 b _ (hp.tne h) h
theorem TK.new {H : Hp} {a : Addr} {o : HO} (n : H a = none) : TK H (upd H a o) := fun b xs h => upd_get h n
theorem TK.put {H : Hp} {a : Addr} {ys : List V} {o : HO} (n : H a = some (.lst ys)) : TK H (upd H a o) := fun b xs h => by
  rw [upd_ne (ne_of h n (by intro z; cases z))]
  exact h
variable {p : Addr} {H H' : Hp}
theorem Tq.keep (k : TK H H') : ∀ {n : Nat} {v : V} {d : PyData}, Tq n H v d → Tq n H' v d
  | 0, _, _, h => h.elim
  | n + 1, v, d, h => by
    cases d with
    | none => exact h
    | bool b => exact h
    | int i => exact h
    | str s => exact h
    | dict kv => exact h
    | list ds => exact h
    | tuple ds =>
      obtain ⟨a, xs, e, ha, hl, hz, r⟩ := h
      exact ⟨a, xs, e, k _ _ ha, hl, hz, fun i x e h1 h2 => Tq.keep k (r i x e h1 h2)⟩
theorem Tq.up : ∀ {n : Nat} {v : V} {d : PyData}, Tq n H v d → Tq (n + 1) H v d
  | 0, _, _, h => h.elim
  | n + 1, v, d, h => by
    cases d with
    | none => exact h
    | bool b => exact h
    | int i => exact h
    | str s => exact h
    | dict kv => exact h
    | list ds => exact h
    | tuple ds =>
      obtain ⟨a, xs, e, ha, hl, hz, r⟩ := h
      exact ⟨a, xs, e, ha, hl, hz, fun i x e h1 h2 => Tq.up (r i x e h1 h2)⟩
theorem Tq.dq {ys : List V} (hp : H p = some (.lst ys)) : ∀ {n : Nat} {v : V} {d : PyData}, Tq n H v d → Dq p n H v d
  | 0, _, _, h => h.elim
  | n + 1, v, d, h => by
    cases d with
    | none => exact h
    | bool b => exact h
    | int i => exact h
    | str s => exact h
    | dict kv => exact h
    | list ds => exact h.elim
    | tuple ds =>
      obtain ⟨a, xs, e, ha, hl, hz, r⟩ := h
      exact ⟨a, xs, e, ne_of ha hp (by intro z; cases z), ha, hl, hz, fun i x e h1 h2 => Tq.dq hp (r i x e h1 h2)⟩
def TqA (n : Nat) (H : Hp) (xs : List V) (ds : List PyData) : Prop := xs.length = ds.length ∧ ∀ (i : Nat) (x : V) (e : PyData), xs[i]? = some x → ds[i]? = some e → Tq n H x e
theorem TqA.keep {n : Nat} {xs : List V} {ds : List PyData} (k : TK H H') (h : TqA n H xs ds) : TqA n H' xs ds := ⟨h.1, fun i x e h1 h2 => (h.2 i x e h1 h2).keep k⟩
theorem TqA.nil {n : Nat} : TqA n H [] [] := ⟨rfl, fun i x e h => by simp at h⟩
theorem TqA.cons {n : Nat} {x : V} {xs : List V} {d : PyData} {ds : List PyData} (h : Tq n H x d) (r : TqA n H xs ds) : TqA n H (x :: xs) (d :: ds) := ⟨by simp [r.1], fun i y e h1 h2 => by
  cases i with
  | zero =>
    simp at h1 h2
    subst h1 h2
    exact h
  | succ i => exact r.2 i y e (by simpa using h1) (by simpa using h2)⟩
theorem TqA.append {n : Nat} {xs ys : List V} {ds es : List PyData} (h : TqA n H xs ds) (r : TqA n H ys es) : TqA n H (xs ++ ys) (ds ++ es) := by
  refine ⟨by simp [h.1, r.1], fun i x e h1 h2 => ?_⟩
  by_cases hi : i < xs.length
  · rw [List.getElem?_append_left hi] at h1
    rw [List.getElem?_append_left (by rw [← h.1]; exact hi)] at h2
    exact h.2 i x e h1 h2
  · rw [List.getElem?_append_right (by omega)] at h1
    rw [List.getElem?_append_right (by rw [← h.1]; omega), ← h.1] at h2
    exact r.2 _ x e h1 h2
theorem TqA.dqa {n : Nat} {xs ys : List V} {ds : List PyData} (hp : H p = some (.lst ys)) (h : TqA n H xs ds) : DqA p n H xs ds := ⟨h.1, fun i x e h1 h2 => (h.2 i x e h1 h2).dq hp⟩
theorem TqA.tup {n : Nat} {a : Addr} {xs : List V} {ds : List PyData} (r : TqA n H xs ds) (ha : H a = some (.tup xs)) (hz : ds.length ≤ 1000) : Tq (n + 1) H (.ref a) (.tuple ds) := ⟨a, xs, rfl, ha, r.1, hz, r.2⟩
theorem TqA.lst {n : Nat} {a : Addr} {xs ys : List V} {ds : List PyData} (r : TqA n H xs ds) (hp : H p = some (.lst ys)) (ne : a ≠ p) (ha : H a = some (.lst xs)) (hz : ds.length ≤ 1000) : Dq p (n + 1) H (.ref a) (.list ds) := (r.dqa hp).lst ne ha hz
theorem TqA.get {n i : Nat} {xs : List V} {ds : List PyData} {d : PyData} (h : TqA n H xs ds) (hd : ds[i]? = some d) : ∃ x, xs[i]? = some x ∧ Tq n H x d := by
  have hi : i < ds.length := (List.getElem?_eq_some_iff.mp hd).1
  have hx := List.getElem?_eq_getElem (l := xs) (i := i) (by rw [h.1]; exact hi)
  exact ⟨_, hx, h.2 i _ d hx hd⟩
theorem TqA.get' {n i : Nat} {xs : List V} {ds : List PyData} {x : V} (h : TqA n H xs ds) (hx : xs[i]? = some x) : ∃ d, ds[i]? = some d ∧ Tq n H x d := by
  have hi : i < xs.length := (List.getElem?_eq_some_iff.mp hx).1
  have hd := List.getElem?_eq_getElem (l := ds) (i := i) (by rw [← h.1]; exact hi)
  exact ⟨_, hd, h.2 i _ _ hx hd⟩
section
variable {K : PySem.W.Frag} {p D : Addr} {H1 : Hp} {g : TG} {tt : TT} {te : TE} {vs : List Nat} {σ : L2.St} {Qd : Hp → Prop} {m : Nat}
def Fill (p D : Addr) (H1 H' : Hp) (m : Nat) (ds : List PyData) : Prop := ∃ xs, H' D = some (.lst xs) ∧ TqA m H' xs ds ∧ Run p H1 H'
theorem Fill.start (hD : H1 D = none) (hp : Pool H1 p) : Fill p D H1 (upd H1 D (.lst [])) m [] := ⟨[], upd_same, .nil, (Run.nil hp).upd hD⟩
theorem Fill.none {H' H4 : Hp} {ds : List PyData} (hD : H1 D = none) (hp : Pool H1 p) (f : Fill p D H1 H' m ds) (r : Run p H' H4) : Fill p D H1 H4 m ds := by
  obtain ⟨xs, h1, h2, h3⟩ := f
  exact ⟨xs, r.1 _ _ (hp.ne hD) h1, h2.keep (TK.run h3.2 r), h3.trans r⟩
end
end SX
namespace SX
open PySem PySem.Spec PyProof.Rows L2 KO
end SX
namespace SX
open PySem PySem.Spec PyProof.Rows L2 KO
abbrev Sp4 := Int × Int × Int × Int
def dSp (s : Sp4) : PyData := .tuple [.int s.1, .int s.2.1, .int s.2.2.1, .int s.2.2.2]
def gSp (T n : Int) (s : Sp4) : Prop := 0 ≤ s.1 ∧ s.1 < n ∧ 0 ≤ s.2.1 ∧ s.2.1 < n ∧ s.1 ≠ s.2.1 ∧ 0 ≤ s.2.2.1 ∧ s.2.2.1 ≤ s.2.2.2 ∧ s.2.2.2 ≤ s.2.2.1 + T - 1 ∧ s.2.2.2 ≤ 999
theorem TqA.set {n : Nat} {H : Hp} {xs : List V} {ds : List PyData} (h : TqA n H xs ds) {x : V} {d : PyData} (hx : Tq n H x d) (j : Nat) : TqA n H (xs.set j x) (ds.set j d) := by
  refine ⟨by simp [h.1], fun i y e h1 h2 => ?_⟩
  rw [List.getElem?_set] at h1 h2
  by_cases hij : j = i
  · subst hij
    rw [if_pos rfl] at h1 h2
    split at h1
    · rename_i hl
      rw [if_pos (by rw [← h.1]; exact hl)] at h2
      cases h1
      cases h2
      exact hx
    · cases h1
  · rw [if_neg hij] at h1 h2
    exact h.2 i y e h1 h2
end SX
namespace SX
open PySem PySem.Spec PyProof.Rows L2 KO
def spSpans (H H' : Hp) (p a : Addr) (T n c : Int) : Prop := ∃ (xs : List V) (sps : List Sp4), H' a = some (.lst xs) ∧ TqA 2 H' xs (sps.map dSp) ∧ (sps.length : Int) = c ∧ (∀ s ∈ sps, gSp T n s) ∧ Run p H H'
theorem spSpans.run {H H1 H2 : Hp} {p a : Addr} {T n c : Int} (ne : a ≠ p) (h : spSpans H H1 p a T n c) (r : Run p H1 H2) : spSpans H H2 p a T n c := by
  obtain ⟨xs, sps, h1, h2, h3, h4, h5⟩ := h
  exact ⟨xs, sps, r.1 _ _ ne h1, h2.keep (TK.run h5.2 r), h3, h4, h5.trans r⟩
end SX
namespace SX
end SX
namespace SX
open PySem PySem.Spec PyProof.Rows L2 KO
end SX
namespace SX
open PySem PySem.Spec PyProof.Rows L2 KO
def NetAt (C : Addr) (H : Hp) (a : Addr) (T n : Int) (sps : List Sp4) : Prop := ∃ (dx t : Addr) (xs : List V), H a = some (.ins C dx [("round_length", .int T), ("events", .int n), ("spans", .ref t)]) ∧ H t = some (.tup xs) ∧ TqA 2 H xs (sps.map dSp)
theorem NetAt.keep {C : Addr} {H H' : Hp} {a : Addr} {T n : Int} {sps : List Sp4} (k : ∀ b o, (∀ xs, o ≠ .lst xs) → H b = some o → H' b = some o) (h : NetAt C H a T n sps) : NetAt C H' a T n sps := by
  obtain ⟨dx, t, xs, h1, h2, h3⟩ := h
  exact ⟨dx, t, xs, k _ _ (fun _ z => nomatch z) h1, k _ _ (fun _ z => nomatch z) h2, h3.keep fun b ys e => k _ _ (fun _ z => nomatch z) e⟩
theorem NetAt.run {C p : Addr} {H H' : Hp} {a : Addr} {T n : Int} {sps : List Sp4} (hp : Pool H p) (r : Run p H H') (h : NetAt C H a T n sps) : NetAt C H' a T n sps :=
  h.keep fun b o nl e => r.1 b o (fun z => by
    obtain ⟨x, f, c, q⟩ := hp
    rw [z, q] at e
    exact nl _ (Option.some.inj e).symm) e
end SX
namespace SX
open PySem PySem.Spec PyProof.Rows L2 KO
end SX
namespace SX
open PySem PySem.Spec PyProof.Rows L2 KO
section
variable {X : Cx} {K : PySem.W.Frag}
theorem pg_tupK {pos : Pos} {es : List Expr} {k : Nat} {t : TGs} {n : Nat} (hK : X.K = K) (hc : X.calm = true) (h : PGs X es t) (hn : (assignEach es X.env).length = n := by rfl) (hst : (assignEach es X.env).findIdx? (·.1) = none := by rfl) : PG X (.Tuple es k pos) (gTup K n t) := by
  subst hK
  exact pg_tup hc h hn hst
end
end SX
namespace SXT
open PySem PySem.Spec PyProof.Rows
open Sem (wp)
open AutoSeq1 (wpAny_loadPart')
section
variable {prog : Program} {w : World} {A : Around} {E : Value → Shared → Prop} {s : Shared}
end
end SXT
namespace L2
open PySem PySem.Spec PyProof.Rows
section
variable {K : PySem.W.Frag} {a : Addr} {xs : List V} {g : TG} {tb : TS} {D : Ends} {σ : St} {H : Hp}
end
section
variable {K : PySem.W.Frag} {a : Addr} {xs : List V} {g : TG} {tt : TT} {te : TE} {vs : List Nat} {σ : St} {H1 : Hp} {D : Addr} {Qd : Hp → Prop}
end
end L2
namespace SX
open PySem PySem.Spec PyProof.Rows L2 KO
section
variable {K : PySem.W.Frag} {H : Hp} {p : Addr} {xs : List V} {r : Int} {Q : VK}
end
def AllI (xs : List V) : Prop := ∀ x ∈ xs, ∃ i : Int, x = .int i
theorem AllI.get : ∀ {xs : List V}, AllI xs → ∃ ns : List Int, xs = ns.map V.int
  | [], _ => ⟨[], rfl⟩
  | x :: xs, h => by
    obtain ⟨i, rfl⟩ := h _ List.mem_cons_self
    obtain ⟨ns, rfl⟩ := AllI.get (xs := xs) fun y hy => h y (List.mem_cons_of_mem _ hy)
    exact ⟨i :: ns, rfl⟩
theorem AllI.of (ns : List Int) : AllI (ns.map V.int) := fun x hx => by
  obtain ⟨i, _, rfl⟩ := List.mem_map.mp hx
  exact ⟨i, rfl⟩
theorem AllI.nil : AllI [] := fun x hx => by cases hx
theorem AllI.one (i : Int) : AllI [.int i] := AllI.of [i]
theorem AllI.app {xs ys : List V} (a : AllI xs) (b : AllI ys) : AllI (xs ++ ys) := fun x hx => (List.mem_append.mp hx).elim (a x) (b x)
theorem AllI.set {xs : List V} (a : AllI xs) (j : Nat) (i : Int) : AllI (xs.set j (.int i)) := fun x hx => (List.mem_or_eq_of_mem_set hx).elim (a x) fun e => ⟨i, e⟩
def NewI (H H' : Hp) (p b : Addr) (k : Nat) : Prop := ∃ ns : List Int, H b = none ∧ H' b = some (.lst (ns.map V.int)) ∧ ns.length ≤ k ∧ Run p H H'
theorem NewI.of {H H' : Hp} {p b : Addr} {k : Nat} {xs : List V} (n : H b = none) (h : H' b = some (.lst xs)) (a : AllI xs) (hk : xs.length ≤ k) (r : Run p H H') : NewI H H' p b k := by
  obtain ⟨ns, rfl⟩ := a.get
  exact ⟨ns, n, h, by rw [List.length_map] at hk; exact hk, r⟩
end SX
namespace SX
open PySem PySem.Spec PyProof.Rows L2 KO
end SX
namespace SX
open PySem PySem.Spec PyProof.Rows L2 KO
end SX
namespace SX
open PySem PySem.Spec PyProof.Rows L2 KO
end SX
namespace SX
open PySem PySem.Spec PyProof.Rows L2 KO
end SX
namespace L2
open PySem PySem.Spec PyProof.Rows
def wManyA (K : PySem.W.Frag) (Wout : WX) (D : Ends) : List (Value × Nat × (Addr → Value → Option Addr → TS)) → WX
  | [] => Wout
  | (c, i, ts) :: r => fun cls d σ H => ∃ b, PySem.W.exmOne K cls c = some b ∧ (b = true → ∀ a, H a = none → ts a cls d { nx := fun σ' H' => D.nx (σ'.set i none) H', rt := D.rt, bk := fun σ' H' => D.bk (σ'.set i none) H', ct := fun σ' H' => D.ct (σ'.set i none) H' } (σ.set i (some (.ref a))) H) ∧ (b = false → wManyA K Wout D r cls d σ H)
inductive HdsOkA (X : Cx) : List ExceptHandler → List (Value × Nat × (Addr → Value → Option Addr → TS)) → Prop
  | nil : HdsOkA X [] []
  | cons {x n : Str} {c : Value} {i : Nat} {ts : Addr → Value → Option Addr → TS} {b₀ : Stmt} {suite : List Stmt} {np pos' : Pos} {hds : List ExceptHandler} {l : List (Value × Nat × (Addr → Value → Option Addr → TS))} (hi : X.N[i]? = some n) (hln : X.env.kindOf n = some .local) (hc : Names X x c)
      (hsu : ∀ (a : Addr) (oe : Obj) (cls : Value) (d : Option Addr) (pn : List (Addr × Obj)), Zc cls d oe → (∃ vs, oe.data = .fields vs) → PSs (X.suite a ((a, oe) :: pn)) (b₀ :: suite) (ts a cls d)) (r : HdsOkA X hds l) :
      HdsOkA X (.ExceptHandler (some (.Name x np)) (some n) (b₀ :: suite) pos' :: hds) ((c, i, ts) :: l)
section
variable {X : Cx} {body : List Stmt} {h₀ : ExceptHandler} {hds : List ExceptHandler} {l : List (Value × Nat × (Addr → Value → Option Addr → TS))} {pos : Pos} {tb : WX → TS} {Wout : WX}
end
end L2
namespace SX
open PySem PySem.Spec PyProof.Rows L2 KO
theorem kit_oty {K : PySem.W.Frag} {C : Addr} {t : String} {b : Bool} (h : PySem.W.kitMeta t = true) (s : PySem.W.subIn K (.ref C) (.type t) = some b) : PySem.W.kitOne K (.ref C) (.type t) = some b := by
  unfold PySem.W.kitOne PySem.W.kitCls
  rw [if_neg (by simp)]
  dsimp only
  rw [if_pos h]
  exact s
theorem kit_ref {K : PySem.W.Frag} {C D : Addr} {b : Bool} (ss : PySem.W.subIn K (.ref C) (.ref C) = some true) (s : PySem.W.subIn K (.ref C) (.ref D) = some b) (hd : PySem.W.hasDictIn K D = true) (ty : PySem.W.typeIn K (.ref D) = some (.type "type")) : PySem.W.kitOne K (.ref C) (.ref D) = some b := by
  obtain ⟨cd, hc, _⟩ := PySem.W.any_some hd
  unfold PySem.W.kitOne PySem.W.kitCls
  by_cases e : C = D
  · subst e
    rw [ss] at s
    cases s
    simp
  · rw [if_neg (by simpa using e)]
    dsimp only
    rw [hc, ty]
    simpa using s
end SX
namespace SX
open PySem PySem.Spec PyProof.Rows L2 KO
end SX
namespace RF
open PySem PySem.Spec PyProof.Rows L2 KO SX

structure Ex where
  cls : Str
  fs : List (Str × PyData)
structure Mo (α : Type) where
  run : (α → Prop) → (Ex → Prop) → Prop
  mono : ∀ {Q Q' : α → Prop} {E E' : Ex → Prop}, (∀ x, Q x → Q' x) → (∀ x, E x → E' x) → run Q E → run Q' E'
namespace Mo
variable {α β : Type}
protected def pure (a : α) : Mo α := ⟨fun Q _ => Q a, fun h _ q => h _ q⟩
protected def bind (m : Mo α) (k : α → Mo β) : Mo β := ⟨fun Q E => m.run (fun x => (k x).run Q E) E, fun h e q => m.mono (fun x => (k x).mono h e) e q⟩
def throw (e : Ex) : Mo α := ⟨fun _ E => E e, fun _ e q => e _ q⟩
def stuck : Mo α := ⟨fun _ _ => False, fun _ _ q => q⟩
def get (o : Option α) : Mo α := ⟨fun Q _ => ∃ a, o = some a ∧ Q a, fun h _ q => by obtain ⟨a, e, q⟩ := q; exact ⟨a, e, h _ q⟩⟩
def req (p : Prop) : Mo Unit := ⟨fun Q _ => p ∧ Q (), fun h _ q => ⟨q.1, h _ q.2⟩⟩
def any (p : α → Prop) : Mo α := ⟨fun Q _ => ∀ a, p a → Q a, fun h _ q a x => h _ (q a x)⟩
def calm (m : Mo α) : Mo α := ⟨fun Q _ => m.run Q fun _ => False, fun h _ q => m.mono h (fun _ z => z) q⟩
instance : Monad Mo where
  pure := Mo.pure
  bind := Mo.bind
@[simp] theorem run_pure {a : α} {Q : α → Prop} {E : Ex → Prop} : (pure a : Mo α).run Q E = Q a := rfl
@[simp] theorem run_bind {m : Mo α} {k : α → Mo β} {Q : β → Prop} {E : Ex → Prop} : (m >>= k).run Q E = m.run (fun x => (k x).run Q E) E := rfl
@[simp] theorem run_map {m : Mo α} {f : α → β} {Q : β → Prop} {E : Ex → Prop} : (f <$> m).run Q E = m.run (fun x => Q (f x)) E := rfl
@[simp] theorem run_throw {e : Ex} {Q : α → Prop} {E : Ex → Prop} : (throw e : Mo α).run Q E = E e := rfl
@[simp] theorem run_stuck {Q : α → Prop} {E : Ex → Prop} : (stuck : Mo α).run Q E = False := rfl
@[simp] theorem run_get {o : Option α} {Q : α → Prop} {E : Ex → Prop} : (get o).run Q E = ∃ a, o = some a ∧ Q a := rfl
@[simp] theorem run_req {p : Prop} {Q : Unit → Prop} {E : Ex → Prop} : (req p).run Q E = (p ∧ Q ()) := rfl
@[simp] theorem run_any {p : α → Prop} {Q : α → Prop} {E : Ex → Prop} : (any p).run Q E = ∀ a, p a → Q a := rfl
@[simp] theorem run_calm {m : Mo α} {Q : α → Prop} {E : Ex → Prop} : (calm m).run Q E = m.run Q fun _ => False := rfl
@[simp] theorem run_ite {c : Prop} [Decidable c] {a b : Mo α} {Q : α → Prop} {E : Ex → Prop} : (if c then a else b).run Q E = if c then a.run Q E else b.run Q E := by split <;> rfl
end Mo

structure Pr where
  r : V → Hp → Prop
  mono : ∀ {v : V} {F F' : Hp}, Same F F' → r v F → r v F'
structure Po where
  r : HO → Hp → Prop
  mono : ∀ {o : HO} {F F' : Hp}, Same F F' → r o F → r o F'
inductive En where
  | un
  | fz (p : Pr)
  | ow (l : Bool) (a : Addr) (q : Po)
  | lk (f : Bool) (h : Hp) (p : Pr)
abbrev Ctx := List En
def En.own? : En → Option Addr
  | .ow _ a _ => some a
  | _ => none
def owns (Γ : Ctx) : List Addr := Γ.filterMap En.own?
theorem mem_owns {Γ : Ctx} {i : Nat} {l : Bool} {a : Addr} {q : Po} (h : Γ[i]? = some (.ow l a q)) : a ∈ owns Γ := List.mem_filterMap.mpr ⟨_, List.mem_of_getElem? h, rfl⟩
theorem of_owns {Γ : Ctx} {a : Addr} (h : a ∈ owns Γ) : ∃ (i : Nat) (l : Bool) (q : Po), Γ[i]? = some (.ow l a q) := by
  obtain ⟨e, he, q⟩ := List.mem_filterMap.mp h
  obtain ⟨i, hi⟩ := List.getElem?_of_mem he
  cases e with
  | un => cases q
  | fz p => cases q
  | ow l b p => cases q; exact ⟨i, l, p, hi⟩
  | lk f h p => cases q

structure Go (M : List Addr) (F H F' H' : Hp) : Prop where
  fs : Same F F'
  le : Same F' H'
  hs : ∀ b o, b ∉ M → H b = some o → H' b = some o
  fr : ∀ b o, H b = some o → F b = none → F' b = none
  th : ∀ b o, H b = some o → ∃ o', H' b = some o'
section
variable {M M' : List Addr} {F F' F1 F2 H H' H1 H2 : Hp}
theorem Go.refl (h : Same F H) : Go M F H F H := ⟨Same.refl _, h, fun _ _ _ e => e, fun _ _ _ e => e, fun _ o e => ⟨o, e⟩⟩
theorem Go.trans (a : Go M F H F1 H1) (b : Go M' F1 H1 F2 H2) (s : ∀ x ∈ M', x ∈ M ∨ H x = none) : Go M F H F2 H2 where
  fs := a.fs.trans b.fs
  le := b.le
  hs := fun x o n e => by
    refine b.hs x o (fun m => ?_) (a.hs x o n e)
    rcases s x m with h | h
    · exact n h
    · rw [h] at e; cases e
  fr := fun x o e f => by
    obtain ⟨o', e'⟩ := a.th x o e
    exact b.fr x o' e' (a.fr x o e f)
  th := fun x o e => by
    obtain ⟨o', e'⟩ := a.th x o e
    exact b.th x o' e'
theorem Go.mono (a : Go M F H F1 H1) (s : ∀ x ∈ M, x ∈ M' ∨ H x = none) : Go M' F H F1 H1 where
  fs := a.fs
  le := a.le
  hs := fun x o n e => by
    refine a.hs x o (fun m => ?_) e
    rcases s x m with h | h
    · exact n h
    · rw [h] at e; cases e
  fr := a.fr
  th := a.th
theorem Go.new {p : Addr} {o : HO} (s : Same F H) (h : H p = none) : Go M F H (upd F p o) (upd H p o) where
  fs := fun b x e => upd_get e (s.free h)
  le := fun b x e => by
    by_cases hb : b = p
    · subst hb; rw [upd_same] at e ⊢; exact e
    · rw [upd_ne hb] at e ⊢; exact s _ _ e
  hs := fun b x _ e => upd_get e h
  fr := fun b x e f => by rw [upd_ne (ne_of_none e h)]; exact f
  th := fun b x e => ⟨x, upd_get e h⟩
theorem Go.newO {p : Addr} {o : HO} (s : Same F H) (h : H p = none) : Go M F H F (upd H p o) where
  fs := Same.refl _
  le := fun b x e => upd_get (s _ _ e) h
  hs := fun b x _ e => upd_get e h
  fr := fun b x e f => f
  th := fun b x e => ⟨x, upd_get e h⟩
theorem Go.put {p : Addr} {o u : HO} (s : Same F H) (h : F p = none) (hp : H p = some u) : Go [p] F H F (upd H p o) where
  fs := Same.refl _
  le := fun b x e => by rw [upd_ne (ne_of_none e h)]; exact s _ _ e
  hs := fun b x n e => by rw [upd_ne (by simpa using n)]; exact e
  fr := fun b x e f => f
  th := fun b x e => by
    by_cases hb : b = p
    · subst hb; exact ⟨o, upd_same⟩
    · exact ⟨x, by rw [upd_ne hb]; exact e⟩
theorem Go.freeze {p : Addr} {o : HO} (a : Go M F H F1 H1) (s : Same F H) (hp : H1 p = some o) (h : H p = none) : Go M F H (upd F1 p o) H1 where
  fs := fun b x e => by
    rw [upd_ne (ne_of_none (s _ _ e) h)]
    exact a.fs b x e
  le := fun b x e => by
    by_cases hb : b = p
    · subst hb; rw [upd_same] at e; rw [hp]; exact e
    · rw [upd_ne hb] at e; exact a.le _ _ e
  hs := a.hs
  fr := fun b x e f => by rw [upd_ne (ne_of_none e h)]; exact a.fr b x e f
  th := a.th
end

structure Gf where
  F0 : Hp
  H0 : Hp
  M : List Addr
def EnOk (G : Gf) (F H : Hp) : En → Option (Option V) → Prop
  | .un, _ => True
  | .fz p, s => ∃ v, s = some (some v) ∧ p.r v F
  | .ow l a q, s => s = some (some (.ref a)) ∧ F a = none ∧ (if l = true then G.H0 a = none else a ∈ G.M) ∧ ∃ o, H a = some o ∧ q.r o F
  | .lk f h p, s => (∃ v, s = some (some v) ∧ p.r v F) ∧ (∀ b, h b = none → G.H0 b = none ∧ (f = true → G.F0 b = none)) ∧ ∀ b, H b = none → h b = none
theorem none_th {H H' : Hp} (th : ∀ b o, H b = some o → ∃ o', H' b = some o') {b : Addr} (h : H' b = none) : H b = none := by
  cases e : H b with
  | none => rfl
  | some o => obtain ⟨o', e'⟩ := th _ _ e; rw [h] at e'; cases e'
structure Ok (G : Gf) (Γ : Ctx) (σ : L2.St) (F H : Hp) : Prop where
  go : Go G.M G.F0 G.H0 F H
  en : ∀ (i : Nat) (e : En), Γ[i]? = some e → EnOk G F H e σ[i]?
  ap : ∀ (i j : Nat) (l m : Bool) (a : Addr) (p q : Po), Γ[i]? = some (.ow l a p) → Γ[j]? = some (.ow m a q) → i = j
  ln : σ.length = Γ.length
section
variable {G : Gf} {Γ Γ' : Ctx} {σ : L2.St} {F H F' H' : Hp}
theorem Ok.le (o : Ok G Γ σ F H) : Same F H := o.go.le
theorem own_of {l : Bool} {a : Addr} (h : if l = true then G.H0 a = none else a ∈ G.M) : a ∈ G.M ∨ G.H0 a = none := by
  cases l with
  | true => exact .inr h
  | false => exact .inl h
theorem Ok.own (o : Ok G Γ σ F H) {a : Addr} (h : a ∈ owns Γ) : a ∈ G.M ∨ G.H0 a = none := by
  obtain ⟨i, l, q, e⟩ := of_owns h
  exact own_of (o.en i _ e).2.2.1
theorem Ok.ownH (o : Ok G Γ σ F H) {a : Addr} (h : a ∈ owns Γ) : ∃ u, H a = some u := by
  obtain ⟨i, l, q, e⟩ := of_owns h
  obtain ⟨u, hu, _⟩ := (o.en i _ e).2.2.2
  exact ⟨u, hu⟩
theorem Ok.move {M : List Addr} (o : Ok G Γ σ F H) (g : Go M F H F' H') (hM : ∀ x ∈ M, H x = none ∨ (x ∈ G.M ∨ G.H0 x = none) ∧ x ∉ owns Γ) : Ok G Γ σ F' H' where
  go := o.go.trans g fun x m => by
    rcases hM x m with h | h
    · right
      cases e : G.H0 x with
      | none => rfl
      | some y =>
        obtain ⟨o', e'⟩ := o.go.th _ _ e
        rw [h] at e'; cases e'
    · exact h.1
  en := fun i e he => by
    have q := o.en i e he
    cases e with
    | un => trivial
    | fz p =>
      obtain ⟨v, h1, h2⟩ := q
      exact ⟨v, h1, p.mono g.fs h2⟩
    | ow l a p =>
      obtain ⟨h1, h2, h3, u, h4, h5⟩ := q
      refine ⟨h1, g.fr _ _ h4 h2, h3, u, g.hs _ _ (fun m => ?_) h4, p.mono g.fs h5⟩
      rcases hM a m with h | h
      · rw [h] at h4; cases h4
      · exact h.2 (mem_owns he)
    | lk f h p =>
      obtain ⟨⟨v, h1, h2⟩, h3, h4⟩ := q
      exact ⟨⟨v, h1, p.mono g.fs h2⟩, h3, fun b e => h4 b (none_th g.th e)⟩
  ap := o.ap
  ln := o.ln
def Le : Ctx → Ctx → Prop
  | [], [] => True
  | e :: l, e' :: l' => (e = .un ∨ e = e') ∧ Le l l'
  | _, _ => False
theorem Le.len : ∀ {Γ Γ' : Ctx}, Le Γ Γ' → Γ.length = Γ'.length
  | [], [], _ => rfl
  | _ :: _, _ :: _, h => by simp [Le.len h.2]
  | [], _ :: _, h => h.elim
  | _ :: _, [], h => h.elim
theorem Le.get : ∀ {Γ Γ' : Ctx} {i : Nat} {e : En}, Le Γ Γ' → Γ[i]? = some e → e = .un ∨ Γ'[i]? = some e
  | [], [], _, _, _, h => by simp at h
  | x :: l, y :: l', 0, e, h, q => by
    simp at q
    subst q
    rcases h.1 with h | h
    · exact .inl h
    · exact .inr (by simp [h])
  | x :: l, y :: l', i + 1, e, h, q => by
    have := Le.get (i := i) (e := e) h.2 (by simpa using q)
    simpa using this
  | [], _ :: _, _, _, h, _ => h.elim
  | _ :: _, [], _, _, h, _ => h.elim
theorem Le.refl : ∀ Γ : Ctx, Le Γ Γ
  | [] => trivial
  | _ :: l => ⟨.inr rfl, Le.refl l⟩
theorem Le.trans : ∀ {A B C : Ctx}, Le A B → Le B C → Le A C
  | [], [], [], _, _ => trivial
  | a :: A, b :: B, c :: C, h, k => ⟨by
      rcases h.1 with h1 | h1
      · exact .inl h1
      · rcases k.1 with k1 | k1
        · exact .inl (h1.trans k1)
        · exact .inr (h1.trans k1), Le.trans h.2 k.2⟩
  | [], _ :: _, _, h, _ => h.elim
  | _ :: _, [], _, h, _ => h.elim
  | [], [], _ :: _, _, k => k.elim
  | _ :: _, _ :: _, [], _, k => k.elim
theorem Le.set : ∀ {Γ Γ' : Ctx} {i : Nat} {e : En}, Le Γ Γ' → Γ[i]? = some .un → Le Γ (Γ'.set i e)
  | [], [], _, _, _, h => by simp at h
  | x :: l, y :: l', 0, e, h, q => by
    simp at q
    exact ⟨.inl q, h.2⟩
  | x :: l, y :: l', i + 1, e, h, q => ⟨h.1, Le.set (i := i) h.2 (by simpa using q)⟩
  | [], _ :: _, _, _, h, _ => h.elim
  | _ :: _, [], _, _, h, _ => h.elim
theorem Ok.weak (o : Ok G Γ σ F H) (l : Le Γ' Γ) : Ok G Γ' σ F H where
  go := o.go
  en := fun i e he => by
    rcases l.get he with h | h
    · subst h; trivial
    · exact o.en i e h
  ap := fun i j l1 l2 a p q h1 h2 => by
    rcases l.get h1 with h | h1
    · cases h
    · rcases l.get h2 with h | h2
      · cases h
      · exact o.ap i j _ _ a p q h1 h2
  ln := o.ln.trans l.len.symm
theorem Ok.set (o : Ok G Γ σ F H) {i : Nat} {v : V} {p : Pr} (h : p.r v F) : Ok G (Γ.set i (.fz p)) (σ.set i (some v)) F H where
  go := o.go
  en := fun j e he => by
    by_cases hij : i = j
    · subst hij
      have hl : i < Γ.length := by
        have := (List.getElem?_eq_some_iff.mp he).1
        simpa using this
      rw [List.getElem?_set_self hl] at he
      cases he
      exact ⟨v, List.getElem?_set_self (by rw [o.ln]; exact hl), h⟩
    · rw [List.getElem?_set_ne hij] at he ⊢
      exact o.en j e he
  ap := fun j k l1 l2 a p q h1 h2 => by
    have key : ∀ {j : Nat} {l : Bool} {p : Po}, (Γ.set i (.fz ‹Pr›))[j]? = some (.ow l a p) → Γ[j]? = some (.ow l a p) := fun {j l p} e => by
      by_cases hij : i = j
      · subst hij
        have hl : i < Γ.length := by
          have := (List.getElem?_eq_some_iff.mp e).1
          simpa using this
        rw [List.getElem?_set_self hl] at e
        cases e
      · rw [List.getElem?_set_ne hij] at e
        exact e
    exact o.ap j k _ _ a p q (key h1) (key h2)
  ln := by simp [o.ln]
theorem Ok.forget (o : Ok G Γ σ F H) (i : Nat) {v : Option V} : Ok G (Γ.set i .un) (σ.set i v) F H where
  go := o.go
  en := fun j e he => by
    by_cases hij : i = j
    · subst hij
      have hl : i < Γ.length := by
        have := (List.getElem?_eq_some_iff.mp he).1
        simpa using this
      rw [List.getElem?_set_self hl] at he
      cases he
      trivial
    · rw [List.getElem?_set_ne hij] at he ⊢
      exact o.en j e he
  ap := fun j k l1 l2 a p q h1 h2 => by
    have key : ∀ {j : Nat} {l : Bool} {p : Po}, (Γ.set i .un)[j]? = some (.ow l a p) → Γ[j]? = some (.ow l a p) := fun {j l p} e => by
      by_cases hij : i = j
      · subst hij
        have hl : i < Γ.length := by
          have := (List.getElem?_eq_some_iff.mp e).1
          simpa using this
        rw [List.getElem?_set_self hl] at e
        cases e
      · rw [List.getElem?_set_ne hij] at e
        exact e
    exact o.ap j k _ _ a p q (key h1) (key h2)
  ln := by simp [o.ln]
theorem Ok.setO (o : Ok G Γ σ F H) {i : Nat} {a : Addr} {u : HO} {q : Po} (h0 : G.H0 a = none) (hF : F a = none) (hn : a ∉ owns Γ) (hH : H a = some u) (h : q.r u F) : Ok G (Γ.set i (.ow true a q)) (σ.set i (some (.ref a))) F H where
  go := o.go
  en := fun j e he => by
    by_cases hij : i = j
    · subst hij
      have hl : i < Γ.length := by
        have := (List.getElem?_eq_some_iff.mp he).1
        simpa using this
      rw [List.getElem?_set_self hl] at he
      cases he
      exact ⟨List.getElem?_set_self (by rw [o.ln]; exact hl), hF, h0, u, hH, h⟩
    · rw [List.getElem?_set_ne hij] at he ⊢
      exact o.en j e he
  ap := fun j k l1 l2 b p r h1 h2 => by
    have key : ∀ {j : Nat} {l : Bool} {p : Po}, (Γ.set i (.ow true a q))[j]? = some (.ow l b p) → (j = i ∧ b = a) ∨ (j ≠ i ∧ Γ[j]? = some (.ow l b p)) := fun {j l p} e => by
      by_cases hij : i = j
      · subst hij
        have hl : i < Γ.length := by
          have := (List.getElem?_eq_some_iff.mp e).1
          simpa using this
        rw [List.getElem?_set_self hl] at e
        cases e
        exact .inl ⟨rfl, rfl⟩
      · rw [List.getElem?_set_ne hij] at e
        exact .inr ⟨Ne.symm hij, e⟩
    rcases key h1 with ⟨e1, e2⟩ | ⟨e1, e2⟩
    · rcases key h2 with ⟨f1, f2⟩ | ⟨f1, f2⟩
      · rw [e1, f1]
      · exact absurd (mem_owns f2) (by rw [e2]; exact hn)
    · rcases key h2 with ⟨f1, f2⟩ | ⟨f1, f2⟩
      · exact absurd (mem_owns e2) (by rw [f2]; exact hn)
      · exact o.ap j k _ _ b p r e2 f2
  ln := by simp [o.ln]
theorem Ok.put (o : Ok G Γ σ F H) {i : Nat} {l : Bool} {a : Addr} {u : HO} {p q : Po} (hi : Γ[i]? = some (.ow l a p)) (h : q.r u F) : Ok G (Γ.set i (.ow l a q)) σ F (upd H a u) where
  go := by
    obtain ⟨_, h2, h3, w, h4, _⟩ := o.en i _ hi
    exact o.go.trans (Go.put o.le h2 h4) fun x m => by
      rw [List.mem_singleton.mp m]
      exact own_of h3
  en := fun j e he => by
    obtain ⟨k1, k2, k3, w, k4, _⟩ := o.en i _ hi
    by_cases hij : i = j
    · subst hij
      have hl : i < Γ.length := by
        have := (List.getElem?_eq_some_iff.mp he).1
        simpa using this
      rw [List.getElem?_set_self hl] at he
      cases he
      exact ⟨k1, k2, k3, u, upd_same, h⟩
    · rw [List.getElem?_set_ne hij] at he
      have z := o.en j e he
      cases e with
      | un => trivial
      | fz r => exact z
      | ow l b r =>
        obtain ⟨z1, z2, z3, y, z4, z5⟩ := z
        refine ⟨z1, z2, z3, y, ?_, z5⟩
        rw [upd_ne]
        · exact z4
        · rintro rfl
          exact hij (o.ap i j _ _ _ _ _ hi he)
      | lk f h r =>
        refine ⟨z.1, z.2.1, fun b e => z.2.2 b ?_⟩
        by_cases hb : b = a
        · subst hb; rw [upd_same] at e; cases e
        · rw [upd_ne hb] at e; exact e
  ap := fun j k l1 l2 b r s h1 h2 => by
    have key : ∀ {j : Nat} {m : Bool} {r : Po}, (Γ.set i (.ow l a q))[j]? = some (.ow m b r) → ∃ m' r', Γ[j]? = some (.ow m' b r') := fun {j m r} e => by
      by_cases hij : i = j
      · subst hij
        have hl : i < Γ.length := by
          have := (List.getElem?_eq_some_iff.mp e).1
          simpa using this
        rw [List.getElem?_set_self hl] at e
        cases e
        exact ⟨_, p, hi⟩
      · rw [List.getElem?_set_ne hij] at e
        exact ⟨_, r, e⟩
    obtain ⟨_, r1, e1⟩ := key h1
    obtain ⟨_, r2, e2⟩ := key h2
    exact o.ap j k _ _ b r1 r2 e1 e2
  ln := by simp [o.ln]
theorem Ok.frz (o : Ok G Γ σ F H) {i : Nat} {a : Addr} {q : Po} (hi : Γ[i]? = some (.ow true a q)) : ∃ u, H a = some u ∧ q.r u F ∧ Ok G (Γ.set i .un) σ (upd F a u) H := by
  obtain ⟨k1, k2, k3, w, k4, k5⟩ := o.en i _ hi
  have h0 : G.H0 a = none := k3
  have s : Same F (upd F a w) := same_upd k2
  refine ⟨w, k4, k5, ⟨?_, fun j e he => ?_, fun j k l1 l2 b p r h1 h2 => ?_, by simp [o.ln]⟩⟩
  · by_cases hs : Same G.F0 G.H0
    · exact o.go.freeze hs k4 h0
    · refine ⟨fun b x e => s _ _ (o.go.fs _ _ e), fun b x e => ?_, o.go.hs, fun b x e f => ?_, o.go.th⟩
      · by_cases hb : b = a
        · subst hb; rw [upd_same] at e; rw [k4]; exact e
        · rw [upd_ne hb] at e; exact o.go.le _ _ e
      · rw [upd_ne (ne_of_none e h0)]; exact o.go.fr _ _ e f
  · by_cases hij : i = j
    · subst hij
      have hl : i < Γ.length := by
        have := (List.getElem?_eq_some_iff.mp he).1
        simpa using this
      rw [List.getElem?_set_self hl] at he
      cases he
      trivial
    · rw [List.getElem?_set_ne hij] at he
      have z := o.en j e he
      cases e with
      | un => trivial
      | fz r =>
        obtain ⟨v, e1, e2⟩ := z
        exact ⟨v, e1, r.mono s e2⟩
      | ow l b r =>
        obtain ⟨z1, z2, z3, y, z4, z5⟩ := z
        refine ⟨z1, ?_, z3, y, z4, r.mono s z5⟩
        rw [upd_ne]
        · exact z2
        · rintro rfl
          exact hij (o.ap i j _ _ _ _ _ hi he)
      | lk f h r =>
        obtain ⟨⟨v, e1, e2⟩, z⟩ := z
        exact ⟨⟨v, e1, r.mono s e2⟩, z⟩
  · have key : ∀ {j : Nat} {l : Bool} {p : Po}, (Γ.set i .un)[j]? = some (.ow l b p) → Γ[j]? = some (.ow l b p) := fun {j l p} e => by
      by_cases hij : i = j
      · subst hij
        have hl : i < Γ.length := by
          have := (List.getElem?_eq_some_iff.mp e).1
          simpa using this
        rw [List.getElem?_set_self hl] at e
        cases e
      · rw [List.getElem?_set_ne hij] at e
        exact e
    exact o.ap j k _ _ b p r (key h1) (key h2)
end

theorem SqT.ofR {K : PySem.W.Frag} {H : Hp} {a : Addr} {xs : List V} (h : Rd H a (.tup xs)) : SqT K H a xs := .inl h
theorem Rd.mono {H H' : Hp} {a : Addr} {u : HO} (h : Rd H a u) (s : Same H H') : Rd H' a u := by
  rcases h with h | ⟨o, h⟩
  · exact .inl (s _ _ h)
  · exact .inr ⟨o, s _ _ h⟩
def Dt : Nat → Hp → V → PyData → Prop
  | 0, _, _, _ => False
  | n + 1, H, v, d => match d with
    | .none => v = .non
    | .bool b => v = .bl b
    | .int i => v = .int i
    | .str s => v = .str s
    | .list ds => ∃ (a : Addr) (xs : List V), v = .ref a ∧ H a = some (.lst xs) ∧ xs.length = ds.length ∧ ds.length ≤ 1000 ∧ ∀ (i : Nat) (x : V) (e : PyData), xs[i]? = some x → ds[i]? = some e → Dt n H x e
    | .tuple ds => ∃ (a : Addr) (xs : List V), v = .ref a ∧ Rd H a (.tup xs) ∧ xs.length = ds.length ∧ ds.length ≤ 1000 ∧ ∀ (i : Nat) (x : V) (e : PyData), xs[i]? = some x → ds[i]? = some e → Dt n H x e
    | .dict _ => False
section
variable {H H' : Hp}
theorem Dt.mono (s : Same H H') : ∀ {n : Nat} {v : V} {d : PyData}, Dt n H v d → Dt n H' v d
  | 0, _, _, h => h.elim
  | n + 1, v, d, h => by
    cases d with
    | none => exact h
    | bool b => exact h
    | int i => exact h
    | str s => exact h
    | dict kv => exact h
    | list ds =>
      obtain ⟨a, xs, e, ha, hl, hz, r⟩ := h
      exact ⟨a, xs, e, s _ _ ha, hl, hz, fun i x e h1 h2 => Dt.mono s (r i x e h1 h2)⟩
    | tuple ds =>
      obtain ⟨a, xs, e, ha, hl, hz, r⟩ := h
      exact ⟨a, xs, e, Rd.mono ha s, hl, hz, fun i x e h1 h2 => Dt.mono s (r i x e h1 h2)⟩
theorem Dt.up : ∀ {n : Nat} {v : V} {d : PyData}, Dt n H v d → Dt (n + 1) H v d
  | 0, _, _, h => h.elim
  | n + 1, v, d, h => by
    cases d with
    | none => exact h
    | bool b => exact h
    | int i => exact h
    | str s => exact h
    | dict kv => exact h
    | list ds =>
      obtain ⟨a, xs, e, ha, hl, hz, r⟩ := h
      exact ⟨a, xs, e, ha, hl, hz, fun i x e h1 h2 => Dt.up (r i x e h1 h2)⟩
    | tuple ds =>
      obtain ⟨a, xs, e, ha, hl, hz, r⟩ := h
      exact ⟨a, xs, e, ha, hl, hz, fun i x e h1 h2 => Dt.up (r i x e h1 h2)⟩
theorem Dt.le {n m : Nat} (hm : n ≤ m) {v : V} {d : PyData} (h : Dt n H v d) : Dt m H v d := by
  obtain ⟨k, rfl⟩ := Nat.exists_eq_add_of_le hm
  clear hm
  induction k with
  | zero => exact h
  | succ k ih => exact ih.up
theorem DpAll.ofI {K : PySem.W.Frag} : ∀ {xs : List V} {ds : List PyData}, xs.length = ds.length → (∀ (i : Nat) (x : V) (e : PyData), xs[i]? = some x → ds[i]? = some e → Dp K H x e) → DpAll K H xs ds
  | [], [], _, _ => .nil
  | [], _ :: _, h, _ => by simp at h
  | _ :: _, [], h, _ => by simp at h
  | x :: xs, d :: ds, h, r => .cons (r 0 x d rfl rfl) (DpAll.ofI (by simpa using h) fun i y e h1 h2 => r (i + 1) y e (by simpa using h1) (by simpa using h2))
theorem Dt.dp {K : PySem.W.Frag} : ∀ {n : Nat} {v : V} {d : PyData}, Dt n H v d → Dp K H v d
  | 0, _, _, h => h.elim
  | n + 1, v, d, h => by
    cases d with
    | none => obtain rfl : v = _ := h; exact .non
    | bool b => obtain rfl : v = _ := h; exact .bl b
    | int i => obtain rfl : v = _ := h; exact .int i
    | str s => obtain rfl : v = _ := h; exact .str s
    | dict kv => exact h.elim
    | list ds =>
      obtain ⟨a, xs, rfl, ha, hl, hz, r⟩ := h
      exact .lst (SqL.of ha) (DpAll.ofI hl fun i x e h1 h2 => (r i x e h1 h2).dp)
    | tuple ds =>
      obtain ⟨a, xs, rfl, ha, hl, hz, r⟩ := h
      exact .tup (.inl ha) (DpAll.ofI hl fun i x e h1 h2 => (r i x e h1 h2).dp)
end
def rD (d : PyData) : Pr := ⟨fun v F => Dt 8 F v d, fun s h => h.mono s⟩
end RF
namespace RF
open PySem PySem.Spec PyProof.Rows L2 KO SX

@[irreducible] def tE (X : Cx) (e : Expr) : TE := fun σ H Q => ∀ (pins : List (Addr × Obj)) (s : Shared), Inv X pins σ H s → wpAny (model X.prog X.w) X.A (eval e X.env) (EP X pins σ Q) X.xe s
@[irreducible] def tT (X : Cx) (e : Expr) : TT := fun σ H Q => ∀ (pins : List (Addr × Obj)) (s : Shared), Inv X pins σ H s → wpAny (model X.prog X.w) X.A (isTrue e X.env (eval e X.env)) (TP X pins σ Q) X.xe s
@[irreducible] def tW (X : Cx) (e : Expr) : TT := fun σ H Q => ∀ (whole : Sem Value) (pins : List (Addr × Obj)) (s : Shared), Inv X pins σ H s → wpAny (model X.prog X.w) X.A (isTrue e X.env whole) (TP X pins σ Q) X.xe s
@[irreducible] def tAs (X : Cx) (es : List Expr) : TA := fun σ H Q => ∀ (pos : Pos) (pins : List (Addr × Obj)) (s : Shared), Inv X pins σ H s → wpAny (model X.prog X.w) X.A (spliced (backTo pos (starEach es X.env))) (AP X pins σ Q) X.xe s
@[irreducible] def tS (X : Cx) (st : Stmt) : TS := fun D σ H => ∀ (pins : List (Addr × Obj)) (s : Shared), Inv X pins σ H s → wpAny (model X.prog X.w) X.A (exec st X.env) (SP X pins D) X.xe s
@[irreducible] def tSs (X : Cx) (l : List Stmt) : TS := fun D σ H => ∀ (pins : List (Addr × Obj)) (s : Shared), Inv X pins σ H s → wpAny (model X.prog X.w) X.A (execs l X.env) (SP X pins D) X.xe s
section
variable {X : Cx} {e : Expr} {es : List Expr} {st : Stmt} {l : List Stmt}
theorem tE_i {σ : L2.St} {H : Hp} {Q : VK} (h : ∀ (pins : List (Addr × Obj)) (s : Shared), Inv X pins σ H s → wpAny (model X.prog X.w) X.A (eval e X.env) (EP X pins σ Q) X.xe s) : tE X e σ H Q := by unfold tE; exact h
theorem tT_i {σ : L2.St} {H : Hp} {Q : Bool → Hp → Prop} (h : ∀ (pins : List (Addr × Obj)) (s : Shared), Inv X pins σ H s → wpAny (model X.prog X.w) X.A (isTrue e X.env (eval e X.env)) (TP X pins σ Q) X.xe s) : tT X e σ H Q := by unfold tT; exact h
theorem tW_i {σ : L2.St} {H : Hp} {Q : Bool → Hp → Prop} (h : ∀ (whole : Sem Value) (pins : List (Addr × Obj)) (s : Shared), Inv X pins σ H s → wpAny (model X.prog X.w) X.A (isTrue e X.env whole) (TP X pins σ Q) X.xe s) : tW X e σ H Q := by unfold tW; exact h
theorem tAs_i {σ : L2.St} {H : Hp} {Q : List V → Hp → Prop} (h : ∀ (pos : Pos) (pins : List (Addr × Obj)) (s : Shared), Inv X pins σ H s → wpAny (model X.prog X.w) X.A (spliced (backTo pos (starEach es X.env))) (AP X pins σ Q) X.xe s) : tAs X es σ H Q := by unfold tAs; exact h
theorem tSs_i {D : Ends} {σ : L2.St} {H : Hp} (h : ∀ (pins : List (Addr × Obj)) (s : Shared), Inv X pins σ H s → wpAny (model X.prog X.w) X.A (execs l X.env) (SP X pins D) X.xe s) : tSs X l D σ H := by unfold tSs; exact h
theorem peE : PE X e (tE X e) := ⟨fun pins s σ H Q I h => by unfold tE at h; exact h pins s I⟩
theorem ptT : L2.PT X e (tT X e) := ⟨fun pins s σ H Q I h => by unfold tT at h; exact h pins s I⟩
theorem pwW : PW X e (tW X e) := ⟨fun wh pins s σ H Q I h => by unfold tW at h; exact h wh pins s I⟩
theorem paA : PA X es (tAs X es) := ⟨fun pos pins s σ H Q I h => by unfold tAs at h; exact h pos pins s I⟩
theorem pssS : PSs X l (tSs X l) := ⟨fun pins s σ H D I h => by unfold tSs at h; exact h pins s I⟩
end

def del (F : Hp) (a : Addr) : Hp := fun b => if b = a then none else F b
theorem del_ne {F : Hp} {a b : Addr} (h : b ≠ a) : del F a b = F b := if_neg h
theorem del_same {F : Hp} {a : Addr} : del F a a = none := if_pos rfl
theorem del_ok {F : Hp} {a b : Addr} {x : HO} (h : F b = some x) (n : b ≠ a) : del F a b = some x := (del_ne n).trans h
inductive RK (γ : Type) where
  | fz (ρ : γ → Pr)
  | ow (ρ : γ → Po)
  | nw (ρ : γ → Pr)
  | n2 (ρ ρ' : γ → Pr)
  | on (ps : γ → List Pr)
def nwp (h : Hp) (p : Pr) : Pr := ⟨fun v F => p.r v F ∧ ∀ a vs, h a ≠ none → F a = some (.lst vs) → p.r v (del F a), fun {v F F'} s q => ⟨p.mono s q.1, fun a vs n e => by
  cases ea : F a with
  | none => exact p.mono (fun b o e2 => del_ok (s _ _ e2) (by rintro rfl; rw [ea] at e2; cases e2)) q.1
  | some o =>
    have := s _ _ ea
    rw [e] at this
    obtain rfl := Option.some.inj this
    refine p.mono (fun b o e2 => ?_) (q.2 a vs n ea)
    unfold del at e2
    split at e2
    · cases e2
    · rename_i hb; exact del_ok (s _ _ e2) hb⟩⟩
def RK.ok {γ : Type} (k : RK γ) (x : γ) (v : V) (H F' H' : Hp) : Prop :=
  match k with
  | .fz ρ => (ρ x).r v F'
  | .ow ρ => ∃ a u, v = .ref a ∧ H a = none ∧ F' a = none ∧ H' a = some u ∧ (ρ x).r u F'
  | .nw ρ => (nwp H (ρ x)).r v F'
  | .n2 ρ ρ' => (ρ x).r v F' ∧ (nwp H (ρ' x)).r v F'
  | .on ps => ∃ (a : Addr) (vs : List V), v = .ref a ∧ H a = none ∧ F' a = none ∧ H' a = some (.lst vs) ∧ vs.length = (ps x).length ∧ ∀ (i : Nat) (p : Pr) (w : V), (ps x)[i]? = some p → (vs : List V)[i]? = some w → (nwp H p).r w F'
def ErrOk (_K : PySem.W.Frag) (mg : Str → Option Value) (ex : Ex) (cls : Value) (d : Option Addr) (F : Hp) : Prop :=
  ∃ C, mg ex.cls = some (.ref C) ∧ cls = .ref C ∧ ((d = none ∧ ex.fs = []) ∨ ∃ dd fs, d = some dd ∧ F dd = some (.xd fs) ∧ ∀ f y, ex.fs.lookup f = some y → ∃ v, fs.lookup f = some v ∧ Dt 8 F v y)
section
variable {α β γ : Type} (X : Cx) (W : WX) (G : Gf) (Γ : Ctx) (σ : L2.St) (F H : Hp)
def NQ (k : RK γ) (Q : VK) (x : γ) : Prop := ∀ v F' H', Ok G Γ σ F' H' → Go (owns Γ) F H F' H' → k.ok x v H F' H' → Q v H'
def EQ (ex : Ex) : Prop := ∀ cls d F' H', Ok G Γ σ F' H' → Go (owns Γ) F H F' H' → ErrOk X.K X.mg ex cls d F' → W cls d σ H'
end
section
variable {α β γ : Type} (X : Cx) (W : WX) (Γ : Ctx)
def RTE (t : TE) (m : Mo γ) (k : RK γ) : Prop := ∀ G σ F H Q, Ok G Γ σ F H → m.run (NQ G Γ σ F H k Q) (EQ X W G Γ σ F H) → t σ H Q
def RE (e : Expr) (m : Mo γ) (k : RK γ) : Prop := RTE X W Γ (tE X e) m k
def RTT (t : TT) (m : Mo Bool) : Prop := ∀ G σ F H Q, Ok G Γ σ F H → m.run (fun b => ∀ F' H', Ok G Γ σ F' H' → Go (owns Γ) F H F' H' → Q b H') (EQ X W G Γ σ F H) → t σ H Q
def ArEn (F H : Hp) : En → V → Prop
  | .un, _ => True
  | .fz p, v => p.r v F
  | .ow _ a q, v => v = .ref a ∧ F a = none ∧ ∃ u, H a = some u ∧ q.r u F
  | .lk _ _ _, _ => False
def ArgOk (F H : Hp) (p : Ctx) (vs : List V) : Prop := vs.length = p.length ∧ (∀ (i : Nat) (e : En) (v : V), p[i]? = some e → vs[i]? = some v → ArEn F H e v) ∧ ∀ (j : Nat) (l : Bool) (a : Addr) (q : Po), p[j]? = some (.ow l a q) → ∃ (i : Nat) (l' : Bool), Γ[i]? = some (En.ow l' a q)
def RTA (t : TA) (m : Mo β) (p : β → Ctx) : Prop := ∀ G σ F H Q, Ok G Γ σ F H → m.run (fun x => ∀ vs F' H', Ok G Γ σ F' H' → Go (owns Γ) F H F' H' → ArgOk Γ F' H' (p x) vs → Q vs H') (EQ X W G Γ σ F H) → t σ H Q
def ROp (r : R2) (p q : Pr) (m : Mo γ) (k : RK γ) : Prop := ∀ G σ F H Q x y, Ok G Γ σ F H → p.r x F → q.r y F → m.run (NQ G Γ σ F H k Q) (EQ X W G Γ σ F H) → r x y H Q
def RUn (r : V → Hp → VK → Prop) (p : Pr) (m : Mo γ) (k : RK γ) : Prop := ∀ G σ F H Q x, Ok G Γ σ F H → p.r x F → m.run (NQ G Γ σ F H k Q) (EQ X W G Γ σ F H) → r x H Q
end
section
variable {α β γ : Type} {X : Cx} {W : WX} {G : Gf} {Γ : Ctx} {σ : L2.St} {F F1 F2 H H1 H2 : Hp} {k : RK γ} {Q : VK} {e a b : Expr} {t ta tb : TE} {m : Mo γ}
theorem RK.ok.back {k : RK γ} {x : γ} {v : V} (h : k.ok x v H1 F2 H2) (g : ∀ b o, H b = some o → ∃ o', H1 b = some o') : k.ok x v H F2 H2 := by
  cases k with
  | fz ρ => exact h
  | ow ρ =>
    obtain ⟨a, u, e, h1, h2⟩ := h
    refine ⟨a, u, e, ?_, h2⟩
    cases q : H a with
    | none => rfl
    | some o => obtain ⟨o', e'⟩ := g _ _ q; rw [h1] at e'; cases e'
  | nw ρ => exact ⟨h.1, fun a vs n e => h.2 a vs (fun z => n (none_th g z)) e⟩
  | n2 ρ ρ' => exact ⟨h.1, h.2.1, fun a vs n e => h.2.2 a vs (fun z => n (none_th g z)) e⟩
  | on ps =>
    obtain ⟨a, vs, e, h1, h2, h3, h4, h5⟩ := h
    exact ⟨a, vs, e, none_th g h1, h2, h3, h4, fun i p w e1 e2 => ⟨(h5 i p w e1 e2).1, fun a vs n e => (h5 i p w e1 e2).2 a vs (fun z => n (none_th g z)) e⟩⟩
theorem owns_tr : ∀ x ∈ owns Γ, x ∈ owns Γ ∨ H x = none := fun _ h => .inl h
theorem NQ.step {x : γ} (g : Go (owns Γ) F H F1 H1) (q : NQ G Γ σ F H k Q x) : NQ G Γ σ F1 H1 k Q x := fun v F' H' o g' z => q v F' H' o (g.trans g' owns_tr) (z.back g.th)
theorem EQ.step {ex : Ex} (g : Go (owns Γ) F H F1 H1) (q : EQ X W G Γ σ F H ex) : EQ X W G Γ σ F1 H1 ex := fun c d F' H' o g' z => q c d F' H' o (g.trans g' owns_tr) z
theorem NQ.here {ρ : γ → Pr} {x : γ} {v : V} (q : NQ G Γ σ F H (.fz ρ) Q x) (o : Ok G Γ σ F H) (h : (ρ x).r v F) : Q v H := q v F H o (Go.refl o.le) h
theorem run_step {m : Mo γ} (g : Go (owns Γ) F H F1 H1) (q : m.run (NQ G Γ σ F H k Q) (EQ X W G Γ σ F H)) : m.run (NQ G Γ σ F1 H1 k Q) (EQ X W G Γ σ F1 H1) := m.mono (fun _ => NQ.step g) (fun _ => EQ.step g) q
theorem re_of (h : PE X e t) (r : RTE X W Γ t m k) : RE X W Γ e m k := fun G σ F H Q o q => tE_i fun pins s I => h.run pins s σ H Q I (r G σ F H Q o q)
theorem Ok.frzNew {a : Addr} {u : HO} (o0 : Ok G Γ σ F H) (o : Ok G Γ σ F1 H1) (g : Go (owns Γ) F H F1 H1) (h0 : H a = none) (hF : F1 a = none) (hH : H1 a = some u) : Ok G Γ σ (upd F1 a u) H1 ∧ Go (owns Γ) F H (upd F1 a u) H1 := by
  have s : Same F1 (upd F1 a u) := same_upd hF
  have g0 : G.H0 a = none := by
    cases q : G.H0 a with
    | none => rfl
    | some y =>
      obtain ⟨o', e'⟩ := o0.go.th _ _ q
      rw [h0] at e'; cases e'
  refine ⟨⟨⟨fun b x e => s _ _ (o.go.fs _ _ e), fun b x e => ?_, o.go.hs, fun b x e f => ?_, o.go.th⟩, fun i e he => ?_, o.ap, o.ln⟩, g.freeze o0.le hH h0⟩
  · by_cases hb : b = a
    · subst hb; rw [upd_same] at e; rw [hH]; exact e
    · rw [upd_ne hb] at e; exact o.go.le _ _ e
  · rw [upd_ne (ne_of_none e g0)]; exact o.go.fr _ _ e f
  · have z := o.en i e he
    cases e with
    | un => trivial
    | fz r =>
      obtain ⟨v, e1, e2⟩ := z
      exact ⟨v, e1, r.mono s e2⟩
    | ow l b r =>
      obtain ⟨z1, z2, z3, y, z4, z5⟩ := z
      refine ⟨z1, ?_, z3, y, z4, r.mono s z5⟩
      rw [upd_ne]
      · exact z2
      · rintro rfl
        obtain ⟨w, hw⟩ := o0.ownH (mem_owns he)
        rw [h0] at hw; cases hw
    | lk f h r =>
      obtain ⟨⟨v, e1, e2⟩, z⟩ := z
      exact ⟨⟨v, e1, r.mono s e2⟩, z⟩
theorem rte_frz {ρ : γ → Po} {ρ' : γ → Pr} (h : RTE X W Γ t m (.ow ρ)) (hc : ∀ x a u F, F a = some u → (ρ x).r u F → (ρ' x).r (.ref a) F) : RTE X W Γ t m (.fz ρ') := fun G σ F H Q o q => by
  refine h G σ F H Q o (m.mono (fun x hx v F' H' o' g' z => ?_) (fun _ z => z) q)
  obtain ⟨a, u, rfl, h1, h2, h3, h4⟩ := z
  obtain ⟨o2, g2⟩ := o.frzNew o' g' h1 h2 h3
  exact hx _ _ _ o2 g2 (hc x a u _ upd_same ((ρ x).mono (same_upd h2) h4))
theorem re_frz {ρ : γ → Po} {ρ' : γ → Pr} (h : RE X W Γ e m (.ow ρ)) (hc : ∀ x a u F, F a = some u → (ρ x).r u F → (ρ' x).r (.ref a) F) : RE X W Γ e m (.fz ρ') := rte_frz h hc
theorem re_as {ρ ρ' : γ → Pr} (h : RE X W Γ e m (.fz ρ)) (hc : ∀ x v F, (ρ x).r v F → (ρ' x).r v F) : RE X W Γ e m (.fz ρ') := fun G σ F H Q o q =>
  h G σ F H Q o (m.mono (fun x hx v F' H' o' g' z => hx v F' H' o' g' (hc x v F' z)) (fun _ z => z) q)

section
variable {ma : Mo α} {mb : Mo β} {mr : α → β → Mo γ} {ρa : α → Pr} {ρb : β → Pr} {r r' : R2}
theorem rte_two {ta tb : TE} (ha : RTE X W Γ ta ma (.fz ρa)) (hb : RTE X W Γ tb mb (.fz ρb)) (hr : ∀ x y, ROp X W Γ r (ρa x) (ρb y) (mr x y) k) : RTE X W Γ (tOp r ta tb) (ma >>= fun x => mb >>= fun y => mr x y) k := fun G σ F H Q o q => by
  refine ha G σ F H _ o (ma.mono (fun x hx v F' H' o' g' z => ?_) (fun _ z => z) q)
  refine hb G σ F' H' _ o' (mb.mono (fun y hy u F2 H2 o2 g2 z2 => ?_) (fun _ => EQ.step g') hx)
  have g3 := g'.trans g2 owns_tr
  exact hr x y G σ F2 H2 Q v u o2 ((ρa x).mono g2.fs z) z2 (run_step g3 hy)
theorem rte_one {ta : TE} {mr : α → Mo γ} {r : V → Hp → VK → Prop} (ha : RTE X W Γ ta ma (.fz ρa)) (hr : ∀ x, RUn X W Γ r (ρa x) (mr x) k) : RTE X W Γ (tUn r ta) (ma >>= mr) k := fun G σ F H Q o q => by
  refine ha G σ F H _ o (ma.mono (fun x hx v F' H' o' g' z => ?_) (fun _ z => z) q)
  exact hr x G σ F' H' Q v o' z (run_step g' hx)
theorem re_bin {op : Operator} {pos : Pos} (ho : OpR X (binaryOp op) r) (hr : ∀ x y, ROp X W Γ r (ρa x) (ρb y) (mr x y) k) (ha : RE X W Γ a ma (.fz ρa)) (hb : RE X W Γ b mb (.fz ρb)) : RE X W Γ (.BinOp a op b pos) (ma >>= fun x => mb >>= fun y => mr x y) k :=
  re_of (pe_op ho peE peE) (rte_two ha hb hr)
theorem re_ix {pos : Pos} (hi : IxR X r) (hr : ∀ x y, ROp X W Γ r (ρa x) (ρb y) (mr x y) k) (ha : RE X W Γ a ma (.fz ρa)) (hb : RE X W Γ b mb (.fz ρb)) (hs : PlainIx b) : RE X W Γ (.Subscript a b pos) (ma >>= fun x => mb >>= fun y => mr x y) k :=
  re_of (pe_ix hi peE peE hs) (rte_two ha hb hr)
theorem re_un {op : UnaryOp} {pos : Pos} {mr : α → Mo γ} {r : V → Hp → VK → Prop} (ho : UnR X (unaryOp op) r) (hr : ∀ x, RUn X W Γ r (ρa x) (mr x) k) (ha : RE X W Γ a ma (.fz ρa)) : RE X W Γ (.UnaryOp op a pos) (ma >>= mr) k :=
  re_of (pe_un ho peE) (rte_one ha hr)
end
section
variable {es : List Expr} {ma : Mo α} {mb : Mo β} {ρ : α → Pr} {p : β → Ctx}
def RA (X : Cx) (W : WX) (Γ : Ctx) (es : List Expr) (m : Mo β) (p : β → Ctx) : Prop := RTA X W Γ (tAs X es) m p
theorem ra_of {ta : TA} (h : PA X es ta) (r : RTA X W Γ ta mb p) : RA X W Γ es mb p := fun G σ F H Q o q => tAs_i fun pos pins s I => h.run pos pins s σ H Q I (r G σ F H Q o q)
theorem ra_nil : RA X W Γ [] (pure ()) (fun _ => []) := ra_of pa_nil fun G σ F H Q o q => q [] F H o (Go.refl o.le) ⟨rfl, fun i e v h => by simp at h, fun i l a q h => by simp at h⟩
theorem ra_cons (ha : RE X W Γ e ma (.fz ρ)) (hb : RA X W Γ es mb p) (hc : starEach (e :: es) X.env = (false, eval e X.env) :: starEach es X.env := by rfl) :
    RA X W Γ (e :: es) (ma >>= fun x => mb >>= fun y => pure (x, y)) (fun z => .fz (ρ z.1) :: p z.2) := by
  refine ra_of (pa_cons (hs := hc) peE paA) fun G σ F H Q o q => ?_
  refine ha G σ F H _ o (ma.mono (fun x hx v F' H' o' g' z => ?_) (fun _ z => z) q)
  refine hb G σ F' H' _ o' (mb.mono (fun y hy vs F2 H2 o2 g2 z2 => ?_) (fun _ => EQ.step g') hx)
  refine hy (v :: vs) F2 H2 o2 (g'.trans g2 owns_tr) ⟨by simp [z2.1], fun i en u h1 h2 => ?_, fun i l a q h => ?_⟩
  · cases i with
    | zero =>
      simp at h1 h2
      subst h1 h2
      exact (ρ x).mono g2.fs z
    | succ i => exact z2.2.1 i en u (by simpa using h1) (by simpa using h2)
  · cases i with
    | zero => simp at h
    | succ i => exact z2.2.2 i l a q (by simpa using h)
theorem ra_own {i : Nat} {l : Bool} {a : Addr} {qo : Po} {x : Str} {pos : Pos} (hi : Γ[i]? = some (.ow l a qo)) (hp : PE X (.Name x pos) (tVar i)) (hb : RA X W Γ es mb p) (hc : starEach (.Name x pos :: es) X.env = (false, eval (.Name x pos) X.env) :: starEach es X.env := by rfl) :
    RA X W Γ (.Name x pos :: es) mb (fun z => .ow false a qo :: p z) := by
  refine ra_of (pa_cons (hs := hc) hp paA) fun G σ F H Q o q => ?_
  refine ⟨.ref a, (o.en i _ hi).1, ?_⟩
  refine hb G σ F H _ o (mb.mono (fun y hy vs F2 H2 o2 g2 z2 => ?_) (fun _ z => z) q)
  refine hy (.ref a :: vs) F2 H2 o2 g2 ⟨by simp [z2.1], fun j en u h1 h2 => ?_, fun j l a q h => ?_⟩
  · cases j with
    | zero =>
      simp at h1 h2
      subst h1 h2
      have z := o2.en i _ hi
      exact ⟨rfl, z.2.1, z.2.2.2⟩
    | succ j => exact z2.2.1 j en u (by simpa using h1) (by simpa using h2)
  · cases j with
    | zero =>
      simp at h
      obtain ⟨h1, h2, h3⟩ := h
      subst h1 h2 h3
      exact ⟨i, _, hi⟩
    | succ j => exact z2.2.2 j l a q (by simpa using h)
end

def rI (i : Int) : Pr := ⟨fun v _ => v = .int i, fun _ h => h⟩
def rB (b : Bool) : Pr := ⟨fun v _ => v = .bl b, fun _ h => h⟩
def rS (s : Str) : Pr := ⟨fun v _ => v = .str s, fun _ h => h⟩
def rN (_ : Unit) : Pr := ⟨fun v _ => v = .non, fun _ h => h⟩
def rO (ρ : α → Pr) : Option α → Pr
  | none => ⟨fun v _ => v = .non, fun _ h => h⟩
  | some x => ρ x
theorem re_var {ρ : α → Pr} {x : α} (i : Nat) {n : Str} {pos : Pos} (hi : Γ[i]? = some (.fz (ρ x))) (hp : PE X (.Name n pos) (tVar i)) : RE X W Γ (.Name n pos) (pure x) (.fz ρ) :=
  re_of hp fun G σ F H Q o q => by
    obtain ⟨v, h1, h2⟩ := o.en i _ hi
    exact ⟨v, h1, NQ.here (ρ := ρ) q o h2⟩
theorem re_con {ρ : α → Pr} {v : V} (x : α) (hp : PE X e (tC v)) (h : ∀ F, (ρ x).r v F) : RE X W Γ e (pure x) (.fz ρ) := re_of hp fun G σ F H Q o q => NQ.here (ρ := ρ) q o (h F)
theorem re_int {i : Int} {j pos} : RE X W Γ (.Constant (.int i) j pos) (pure i) (.fz rI) := re_con i pe_int fun _ => rfl
theorem re_bl {b : Bool} {j pos} : RE X W Γ (.Constant (.bool b) j pos) (pure b) (.fz rB) := re_con b pe_bl fun _ => rfl
theorem rop_i0 {g : Int → Int → V} {ρ : γ → Pr} {f : Int → Int → γ} (h : ∀ i j F, (ρ (f i j)).r (g i j) F) (i j : Int) : ROp X W Γ (rI0 g) (rI i) (rI j) (pure (f i j)) (.fz ρ) := by
  intro G σ F H Q x y o hx hy q
  obtain rfl : x = .int i := hx
  obtain rfl : y = .int j := hy
  exact ⟨i, j, rfl, rfl, NQ.here (ρ := ρ) q o (h i j F)⟩
def Mo.rq (p : Prop) (a : α) : Mo α := ⟨fun Q _ => p ∧ Q a, fun h _ q => ⟨q.1, h _ q.2⟩⟩
@[simp] theorem Mo.run_rq {p : Prop} {a : α} {Q : α → Prop} {E : Ex → Prop} : (Mo.rq p a).run Q E = (p ∧ Q a) := rfl
theorem rop_i {C : Int → Int → Prop} {g : Int → Int → V} {ρ : γ → Pr} {f : Int → Int → γ} (h : ∀ i j F, (ρ (f i j)).r (g i j) F) (i j : Int) : ROp X W Γ (L2.rI C g) (rI i) (rI j) (Mo.rq (C i j) (f i j)) (.fz ρ) := by
  intro G σ F H Q x y o hx hy q
  obtain rfl : x = .int i := hx
  obtain rfl : y = .int j := hy
  exact ⟨i, j, rfl, rfl, q.1, NQ.here (ρ := ρ) q.2 o (h i j F)⟩
section
variable {ma mb : Mo Int} {pos : Pos}
theorem re_add (ha : RE X W Γ a ma (.fz rI)) (hb : RE X W Γ b mb (.fz rI)) : RE X W Γ (.BinOp a .Add b pos) (ma >>= fun i => mb >>= fun j => pure (i + j)) (.fz rI) := re_bin op_add (rop_i0 fun _ _ _ => rfl) ha hb
theorem re_sub (ha : RE X W Γ a ma (.fz rI)) (hb : RE X W Γ b mb (.fz rI)) : RE X W Γ (.BinOp a .Sub b pos) (ma >>= fun i => mb >>= fun j => pure (i - j)) (.fz rI) := re_bin op_sub (rop_i0 fun _ _ _ => rfl) ha hb
theorem re_mul (ha : RE X W Γ a ma (.fz rI)) (hb : RE X W Γ b mb (.fz rI)) : RE X W Γ (.BinOp a .Mult b pos) (ma >>= fun i => mb >>= fun j => Mo.rq (CMul i j) (i * j)) (.fz rI) := re_bin op_mul (rop_i fun _ _ _ => rfl) ha hb
theorem re_mod (ha : RE X W Γ a ma (.fz rI)) (hb : RE X W Γ b mb (.fz rI)) : RE X W Γ (.BinOp a .Mod b pos) (ma >>= fun i => mb >>= fun j => Mo.rq (0 < j) (i % j)) (.fz rI) := re_bin op_mod (rop_i fun _ _ _ => rfl) ha hb
theorem re_div (ha : RE X W Γ a ma (.fz rI)) (hb : RE X W Γ b mb (.fz rI)) : RE X W Γ (.BinOp a .FloorDiv b pos) (ma >>= fun i => mb >>= fun j => Mo.rq (CDiv i j) (i / j)) (.fz rI) := re_bin op_fdiv (rop_i fun _ _ _ => rfl) ha hb
theorem re_pow (ha : RE X W Γ a ma (.fz rI)) (hb : RE X W Γ b mb (.fz rI)) : RE X W Γ (.BinOp a .Pow b pos) (ma >>= fun i => mb >>= fun j => Mo.rq (CPow i j) (i ^ j.toNat)) (.fz rI) := re_bin op_pow (rop_i fun _ _ _ => rfl) ha hb
theorem re_neg (ha : RE X W Γ a ma (.fz rI)) : RE X W Γ (.UnaryOp .USub a pos) (ma >>= fun i => pure (-i)) (.fz rI) := re_un (r := rU fun i => .int (-i)) un_neg (fun i G σ F H Q x o hx q => ⟨i, hx, NQ.here (ρ := rI) q o rfl⟩) ha
end
class Sc (ρ : α → Pr) where
  v : α → V
  is : ∀ {x : α} {u : V} {F : Hp}, (ρ x).r u F → u = v x
instance scI : Sc rI := ⟨V.int, fun h => h⟩
instance scB : Sc rB := ⟨V.bl, fun h => h⟩
instance scS : Sc rS := ⟨V.str, fun h => h⟩
instance scN : Sc rN := ⟨fun _ => .non, fun h => h⟩
instance scO {ρ : α → Pr} [s : Sc ρ] : Sc (rO ρ) := ⟨fun o => match o with | none => .non | some x => s.v x, fun {x u F} h => by
  cases x with
  | none => exact h
  | some x => exact s.is h⟩
section
variable {ma : Mo α} {mb : Mo β} {pos : Pos} {ρa : α → Pr} {ρb : β → Pr} [sa : Sc ρa] [sb : Sc ρb]
end
section
variable {ma mb : Mo Int} {pos : Pos}
end
section
variable {ma : Mo (Option α)} {pos : Pos} {ρ : α → Pr} {j : Nat} {p2 : Pos}
end
section
variable {ma mb : Mo Bool} {pos : Pos} {rest : List Expr}
theorem re_one {op} {ρ : γ → Pr} {m : Mo γ} (ha : RE X W Γ a m (.fz ρ)) : RE X W Γ (.BoolOp op [a] pos) m (.fz ρ) := re_of (pe_one peE) fun G σ F H Q o q => ha G σ F H Q o q
theorem re_and (ha : RE X W Γ a ma (.fz rB)) (hb : RE X W Γ (.BoolOp .And (b :: rest) pos) mb (.fz rB)) : RE X W Γ (.BoolOp .And (a :: b :: rest) pos) (ma >>= fun c => if c then mb else pure false) (.fz rB) := by
  refine re_of (pe_and peE peE) fun G σ F H Q o q => ?_
  refine ha G σ F H _ o (ma.mono (fun x hx v F' H' o' g' z => ?_) (fun _ z => z) q)
  refine ⟨x, z, ?_⟩
  cases x with
  | false => exact iteF (hx _ F' H' o' g' rfl)
  | true => exact iteT (hb G σ F' H' Q o' (run_step g' hx))
end
def RT (X : Cx) (W : WX) (Γ : Ctx) (e : Expr) (m : Mo Bool) : Prop := RTT X W Γ (tT X e) m
def RW (X : Cx) (W : WX) (Γ : Ctx) (e : Expr) (m : Mo Bool) : Prop := RTT X W Γ (tW X e) m
section
variable {ma mb : Mo Bool} {pos : Pos} {rest : List Expr}
theorem rt_of {t : TT} (h : L2.PT X e t) (r : RTT X W Γ t ma) : RT X W Γ e ma := fun G σ F H Q o q => tT_i fun pins s I => h.run pins s σ H Q I (r G σ F H Q o q)
theorem rw_of {t : TT} (h : L2.PW X e t) (r : RTT X W Γ t ma) : RW X W Γ e ma := fun G σ F H Q o q => tW_i fun wh pins s I => h.run wh pins s σ H Q I (r G σ F H Q o q)
theorem rt_val (h : RE X W Γ e ma (.fz rB)) (he : ∀ whole, isTrue e X.env whole = (do let v ← whole; standAt e.pos; holding [v] (truthy v)) := by intro _; rfl) : RT X W Γ e ma :=
  rt_of (pt_val peE he) fun G σ F H Q o q => h G σ F H _ o (ma.mono (fun x hx v F' H' o' g' z => ⟨x, z, hx F' H' o' g'⟩) (fun _ z => z) q)
theorem rt_not (h : RT X W Γ a ma) : RT X W Γ (.UnaryOp .Not a pos) (ma >>= fun c => pure (!c)) :=
  rt_of (pt_not ptT) fun G σ F H Q o q => h G σ F H _ o q
theorem rt_w (h : RW X W Γ e ma) : RT X W Γ e ma := rt_of pwW.pt h
theorem rw_or1 (h : RT X W Γ a ma) : RW X W Γ (.BoolOp .Or [a] pos) ma := rw_of (pw_or1 ptT) h
theorem rw_or (ha : RT X W Γ a ma) (hb : RW X W Γ (.BoolOp .Or (b :: rest) pos) mb) : RW X W Γ (.BoolOp .Or (a :: b :: rest) pos) (ma >>= fun c => if c then pure true else mb) := by
  refine rw_of (pw_or ptT pwW) fun G σ F H Q o q => ?_
  refine ha G σ F H _ o (ma.mono (fun x hx F' H' o' g' => ?_) (fun _ z => z) q)
  cases x with
  | true => exact iteT (hx F' H' o' g')
  | false => exact iteF (hb G σ F' H' Q o' (mb.mono (fun c hc F2 H2 o2 g2 => hc F2 H2 o2 (g'.trans g2 owns_tr)) (fun _ => EQ.step g') hx))
end
end
end RF
namespace RF
open PySem PySem.Spec PyProof.Rows L2 KO SX

def Ps (F : Hp) : List Pr → List V → Prop
  | [], [] => True
  | p :: ps, v :: vs => p.r v F ∧ Ps F ps vs
  | _, _ => False
section
variable {F F' : Hp}
theorem Ps.len : ∀ {ps : List Pr} {vs : List V}, Ps F ps vs → vs.length = ps.length
  | [], [], _ => rfl
  | _ :: _, _ :: _, h => by simp [Ps.len h.2]
  | [], _ :: _, h => h.elim
  | _ :: _, [], h => h.elim
theorem Ps.mono (s : Same F F') : ∀ {ps : List Pr} {vs : List V}, Ps F ps vs → Ps F' ps vs
  | [], [], _ => trivial
  | p :: _, _ :: _, h => ⟨p.mono s h.1, Ps.mono s h.2⟩
  | [], _ :: _, h => h.elim
  | _ :: _, [], h => h.elim
theorem Ps.get : ∀ {ps : List Pr} {vs : List V} {i : Nat} {p : Pr}, Ps F ps vs → ps[i]? = some p → ∃ v, vs[i]? = some v ∧ p.r v F
  | [], [], _, _, _, h => by simp at h
  | q :: ps, v :: vs, 0, p, h, e => by
    simp at e
    subst e
    exact ⟨v, rfl, h.1⟩
  | q :: ps, v :: vs, i + 1, p, h, e => by
    obtain ⟨w, h1, h2⟩ := Ps.get (i := i) h.2 (by simpa using e)
    exact ⟨w, by simpa using h1, h2⟩
  | [], _ :: _, _, _, h, _ => h.elim
  | _ :: _, [], _, _, h, _ => h.elim
theorem Ps.get' {ps : List Pr} {vs : List V} {i : Nat} {v : V} (h : Ps F ps vs) (e : vs[i]? = some v) : ∃ p, ps[i]? = some p ∧ p.r v F := by
  have hi : i < ps.length := by rw [← h.len]; exact (List.getElem?_eq_some_iff.mp e).1
  obtain ⟨w, h1, h2⟩ := h.get (List.getElem?_eq_getElem hi)
  rw [e] at h1
  cases h1
  exact ⟨_, List.getElem?_eq_getElem hi, h2⟩
theorem Ps.at {ps : List Pr} {vs : List V} {i : Int} {p : Pr} (h : Ps F ps vs) (e : atI ps i = some p) : ∃ v, atI vs i = some v ∧ p.r v F := by
  unfold atI at e ⊢
  rw [h.len]
  cases q : ixN ps.length i with
  | none => rw [q] at e; cases e
  | some j =>
    rw [q] at e
    exact h.get (show ps[j]? = some p from e)
theorem Ps.app : ∀ {ps qs : List Pr} {vs us : List V}, Ps F ps vs → Ps F qs us → Ps F (ps ++ qs) (vs ++ us)
  | [], _, [], _, _, h => h
  | _ :: _, _, _ :: _, _, h, k => ⟨h.1, Ps.app h.2 k⟩
  | [], _, _ :: _, _, h, _ => h.elim
  | _ :: _, _, [], _, h, _ => h.elim
theorem Ps.take : ∀ {ps : List Pr} {vs : List V} (n : Nat), Ps F ps vs → Ps F (ps.take n) (vs.take n)
  | _, _, 0, _ => by simp [Ps]
  | [], [], _ + 1, _ => trivial
  | _ :: _, _ :: _, n + 1, h => ⟨h.1, Ps.take n h.2⟩
  | [], _ :: _, _, h => h.elim
  | _ :: _, [], _, h => h.elim
theorem Ps.drop : ∀ {ps : List Pr} {vs : List V} (n : Nat), Ps F ps vs → Ps F (ps.drop n) (vs.drop n)
  | _, _, 0, h => h
  | [], [], _ + 1, _ => trivial
  | _ :: _, _ :: _, n + 1, h => Ps.drop n h.2
  | [], _ :: _, _, h => h.elim
  | _ :: _, [], _, h => h.elim
theorem Ps.set : ∀ {ps : List Pr} {vs : List V} {p : Pr} {v : V} (n : Nat), Ps F ps vs → p.r v F → Ps F (ps.set n p) (vs.set n v)
  | [], [], _, _, _, _, _ => trivial
  | _ :: _, _ :: _, _, _, 0, h, k => ⟨k, h.2⟩
  | _ :: _, _ :: _, _, _, n + 1, h, k => ⟨h.1, Ps.set n h.2 k⟩
  | [], _ :: _, _, _, _, h, _ => h.elim
  | _ :: _, [], _, _, _, h, _ => h.elim
theorem Ps.sc {α : Type} {ρ : α → Pr} [s : Sc ρ] : ∀ {xs : List α} {vs : List V}, Ps F (xs.map ρ) vs → vs = xs.map s.v
  | [], [], _ => rfl
  | _ :: _, _ :: _, h => by rw [List.map_cons, ← s.is h.1, ← Ps.sc h.2]
  | [], _ :: _, h => h.elim
  | _ :: _, [], h => h.elim
end
def oLu (ps : List Pr) : Po := ⟨fun o F => ∃ vs, o = .lst vs ∧ Ps F ps vs, fun s ⟨vs, e, h⟩ => ⟨vs, e, h.mono s⟩⟩
def rLu (ps : List Pr) : Pr := ⟨fun v F => ∃ a vs, v = .ref a ∧ F a = some (.lst vs) ∧ Ps F ps vs, fun s ⟨a, vs, e, h, k⟩ => ⟨a, vs, e, s _ _ h, k.mono s⟩⟩
def rTu (ps : List Pr) : Pr := ⟨fun v F => ∃ a vs, v = .ref a ∧ Rd F a (.tup vs) ∧ Ps F ps vs, fun s ⟨a, vs, e, h, k⟩ => ⟨a, vs, e, Rd.mono h s, k.mono s⟩⟩
section
variable {α β γ δ ε ζ : Type}
def oL (ρ : α → Pr) (xs : List α) : Po := oLu (xs.map ρ)
def rL (ρ : α → Pr) (xs : List α) : Pr := rLu (xs.map ρ)
def rTs (ρ : α → Pr) (xs : List α) : Pr := rTu (xs.map ρ)
def rT1 (ρ : α → Pr) (x : α) : Pr := rTu [ρ x]
def rT2 (ρ : α → Pr) (σ : β → Pr) (x : α × β) : Pr := rTu [ρ x.1, σ x.2]
def rT3 (ρ : α → Pr) (σ : β → Pr) (τ : γ → Pr) (x : α × β × γ) : Pr := rTu [ρ x.1, σ x.2.1, τ x.2.2]
def rT4 (ρ : α → Pr) (σ : β → Pr) (τ : γ → Pr) (υ : δ → Pr) (x : α × β × γ × δ) : Pr := rTu [ρ x.1, σ x.2.1, τ x.2.2.1, υ x.2.2.2]
def rT5 (ρ : α → Pr) (σ : β → Pr) (τ : γ → Pr) (υ : δ → Pr) (φ : ε → Pr) (x : α × β × γ × δ × ε) : Pr := rTu [ρ x.1, σ x.2.1, τ x.2.2.1, υ x.2.2.2.1, φ x.2.2.2.2]
theorem frz_L {ρ : α → Pr} (xs : List α) (a : Addr) (u : HO) (F : Hp) (h : F a = some u) (k : (oL ρ xs).r u F) : (rL ρ xs).r (.ref a) F := by
  obtain ⟨vs, rfl, k⟩ := k
  exact ⟨a, vs, rfl, h, k⟩
theorem atI_map {f : α → β} {xs : List α} {i : Int} : atI (xs.map f) i = (atI xs i).map f := by
  unfold atI
  rw [List.length_map]
  cases ixN xs.length i with
  | none => rfl
  | some j => simp
end
section
variable {α β γ : Type} {X : Cx} {W : WX} {Γ : Ctx} {e a b : Expr} {es : List Expr} {pos : Pos} {m : Mo β}
theorem Ok.new {G : Gf} {σ : L2.St} {F H : Hp} {d : Addr} {u : HO} (o : Ok G Γ σ F H) (hd : H d = none) : Ok G Γ σ (upd F d u) (upd H d u) ∧ Go (owns Γ) F H (upd F d u) (upd H d u) :=
  ⟨o.move (M := []) (Go.new o.le hd) (fun _ h => by simp at h), Go.new o.le hd⟩
theorem Ok.newO {G : Gf} {σ : L2.St} {F H : Hp} {d : Addr} {u : HO} (o : Ok G Γ σ F H) (hd : H d = none) : Ok G Γ σ F (upd H d u) ∧ Go (owns Γ) F H F (upd H d u) :=
  ⟨o.move (M := []) (Go.newO o.le hd) (fun _ h => by simp at h), Go.newO o.le hd⟩
theorem ArgOk.ps {F H : Hp} : ∀ {ps : List Pr} {vs : List V}, ArgOk Γ F H (ps.map .fz) vs → Ps F ps vs
  | [], [], _ => trivial
  | p :: ps, v :: vs, h => ⟨h.2.1 0 (.fz p) v rfl rfl, ArgOk.ps ⟨by simpa using h.1, fun i en u h2 h3 => h.2.1 (i + 1) en u (by simpa using h2) (by simpa using h3), fun j l a q h2 => h.2.2 (j + 1) l a q (by simpa using h2)⟩⟩
  | [], _ :: _, h => absurd h.1 (by simp)
  | _ :: _, [], h => absurd h.1 (by simp)
theorem NQ.own {k : γ → Po} {G : Gf} {σ : L2.St} {F H F1 H1 : Hp} {Q : VK} {x : γ} {d : Addr} {u : HO} (q : NQ G Γ σ F H (.ow k) Q x) (o : Ok G Γ σ F1 H1) (g : Go (owns Γ) F H F1 H1) (hd : H1 d = none) (h : (k x).r u F1) : Q (.ref d) (upd H1 d u) := by
  obtain ⟨o2, g2⟩ := o.newO (u := u) hd
  have hf : ∀ {A B : Hp}, Same A B → B d = none → A d = none := fun s e => s.free e
  refine q _ _ _ o2 (g.trans g2 owns_tr) ⟨d, u, rfl, ?_, o.le.free hd, upd_same, h⟩
  cases e : H d with
  | none => rfl
  | some y =>
    obtain ⟨y', e'⟩ := g.th _ _ e
    rw [hd] at e'; cases e'
theorem re_lst {p : β → Ctx} (f : β → List γ) (ρ : γ → Pr) (ha : RA X W Γ es m p) (hp : ∀ y, p y = ((f y).map ρ).map .fz := by intro _; rfl) (hl : ∀ y, ((f y).map ρ).length ≤ sizeLine := by intro _; simp [sizeLine_eq]) :
    RE X W Γ (.List es pos) (m >>= fun y => pure (f y)) (.ow (oL ρ)) := by
  refine re_of (pe_lst paA) fun G σ F H Q o q => ?_
  refine ha G σ F H _ o (m.mono (fun y hy vs F' H' o' g' z => ?_) (fun _ z => z) q)
  rw [hp y] at z
  have k := z.ps
  exact ⟨by rw [k.len]; exact hl y, fun d hd => hy.own o' g' hd ⟨vs, rfl, k⟩⟩
theorem re_lst0 {ρ : γ → Pr} : RE X W Γ (.List [] pos) (pure []) (.ow (oL ρ)) := by
  refine re_of (pe_lst pa_nil) fun G σ F H Q o q => ?_
  exact ⟨Nat.zero_le _, fun d hd => NQ.own q o (Go.refl o.le) hd ⟨[], rfl, trivial⟩⟩
section
variable {ma : Mo (List γ)} {mb : Mo Int} {ρ : γ → Pr} {α : Type} {mt : Mo α} {ρt : α → Pr}
theorem rop_ixL (hK : True) (xs : List γ) (i : Int) : ROp X W Γ (rIxL X.K) (rL ρ xs) (rI i) (Mo.get (atI xs i)) (.fz ρ) := by
  intro G σ F H Q x y o hx hy q
  obtain ⟨a, vs, rfl, h1, h2⟩ := hx
  obtain rfl : y = .int i := hy
  obtain ⟨z, hz, q⟩ := q
  obtain ⟨v, hv, hr⟩ := h2.at (i := i) (p := ρ z) (by rw [atI_map, hz]; rfl)
  exact ⟨a, vs, i, v, rfl, rfl, SqL.of (o.le _ _ h1), hv, NQ.here (ρ := ρ) q o hr⟩
theorem re_ixL (ha : RE X W Γ a ma (.fz (rL ρ))) (hb : RE X W Γ b mb (.fz rI)) (hs : PlainIx b := by exact fun _ _ => rfl) : RE X W Γ (.Subscript a b pos) (ma >>= fun xs => mb >>= fun i => Mo.get (atI xs i)) (.fz ρ) := re_ix ix_list (rop_ixL trivial) ha hb hs
end
section
variable {ρ : γ → Pr} {i : Nat} {l : Bool} {ad : Addr} {xs : List γ} {mb : Mo Int} {x : Str} {p2 : Pos}
theorem re_ixO (hi : Γ[i]? = some (.ow l ad (oL ρ xs))) (hp : PE X (.Name x p2) (tVar i)) (hb : RE X W Γ b mb (.fz rI)) (hs : PlainIx b := by exact fun _ _ => rfl) : RE X W Γ (.Subscript (.Name x p2) b pos) (mb >>= fun i => Mo.get (atI xs i)) (.fz ρ) := by
  refine re_of (pe_ix ix_list hp peE hs) fun G σ F H Q o q => ?_
  refine ⟨.ref ad, (o.en i _ hi).1, ?_⟩
  refine hb G σ F H _ o (mb.mono (fun j hy v F' H' o' g' z => ?_) (fun _ z => z) q)
  obtain rfl : v = .int j := z
  obtain ⟨_, _, _, u, hu, vs, rfl, hps⟩ := o'.en i _ hi
  obtain ⟨z, hz, hy⟩ := hy
  obtain ⟨v, hv, hr⟩ := hps.at (i := j) (p := ρ z) (by rw [atI_map, hz]; rfl)
  exact ⟨ad, vs, j, v, rfl, rfl, SqL.of hu, hv, hy v F' H' o' g' hr⟩
end
section
variable {lo hi : Option Expr} {ml mh : Mo (Option Int)} {ma : Mo (List γ)} {ρ : γ → Pr} {p2 : Pos}
end
section
variable {ma mb : Mo (List γ)} {ρ : γ → Pr}
theorem re_cat (ha : RE X W Γ a ma (.fz (rL ρ))) (hb : RE X W Γ b mb (.fz (rL ρ))) : RE X W Γ (.BinOp a .Add b pos) (ma >>= fun xs => mb >>= fun ys => Mo.rq (xs.length + ys.length ≤ sizeLine) (xs ++ ys)) (.ow (oL ρ)) :=
  re_bin op_cat (fun xs ys G σ F H Q x y o hx hy q => by
    obtain ⟨a, vs, rfl, h1, h2⟩ := hx
    obtain ⟨b, us, rfl, k1, k2⟩ := hy
    refine ⟨a, b, vs, us, rfl, rfl, o.le _ _ h1, o.le _ _ k1, by rw [h2.len, k2.len, List.length_map, List.length_map]; exact q.1, fun d hd => NQ.own q.2 o (Go.refl o.le) hd ⟨_, rfl, ?_⟩⟩
    rw [List.map_append]
    exact h2.app k2) ha hb
theorem re_rep {mn : Mo Int} (ha : RE X W Γ a ma (.fz (rL ρ))) (hb : RE X W Γ b mn (.fz rI)) : RE X W Γ (.BinOp a .Mult b pos) (ma >>= fun xs => mn >>= fun n => Mo.rq (-(2 ^ 63) ≤ n ∧ n < 2 ^ 63 ∧ xs.length * n.toNat ≤ sizeLine) (List.replicate n.toNat xs).flatten) (.ow (oL ρ)) :=
  re_bin op_rep (fun xs n G σ F H Q x y o hx hy q => by
    obtain ⟨a, vs, rfl, h1, h2⟩ := hx
    obtain rfl : y = .int n := hy
    refine ⟨a, n, vs, rfl, rfl, o.le _ _ h1, q.1.1, q.1.2.1, by rw [h2.len, List.length_map]; exact q.1.2.2, fun d hd => NQ.own q.2 o (Go.refl o.le) hd ⟨_, rfl, ?_⟩⟩
    generalize n.toNat = k
    induction k with
    | zero => trivial
    | succ k ih =>
      rw [List.replicate_succ, List.flatten_cons, List.replicate_succ, List.flatten_cons, List.map_append]
      exact h2.app ih) ha hb
end
def SqAt (k : Bool) (F H : Hp) (a : Addr) (vs : List V) : Prop := if k = true then H a = some (.lst vs) else Rd F a (.tup vs)
def RSq (X : Cx) (W : WX) (Γ : Ctx) (k : Bool) (e : Expr) (m : Mo (List γ)) (ρ : γ → Pr) : Prop :=
  ∀ G σ F H Q, Ok G Γ σ F H → m.run (fun xs => ∀ a vs F' H', Ok G Γ σ F' H' → Go (owns Γ) F H F' H' → SqAt k F' H' a vs → Ps F' (xs.map ρ) vs → Q (.ref a) H') (EQ X W G Γ σ F H) → tE X e σ H Q
section
variable {m : Mo (List γ)} {ρ : γ → Pr} {k : Bool}
theorem SqAt.or {K : PySem.W.Frag} {F H : Hp} {a : Addr} {vs : List V} (h : SqAt k F H a vs) (s : Same F H) : SqL K H a vs ∨ SqT K H a vs := by
  cases k with
  | true => exact .inl (SqL.of h)
  | false => exact .inr (SqT.ofR (Rd.mono h s))
theorem rsq_L (h : RE X W Γ e m (.fz (rL ρ))) : RSq X W Γ true e m ρ := fun G σ F H Q o q =>
  h G σ F H Q o (m.mono (fun xs hx v F' H' o' g' z => by
    obtain ⟨a, vs, rfl, h1, h2⟩ := z
    exact hx a vs F' H' o' g' (o'.le _ _ h1) h2) (fun _ z => z) q)
theorem re_bi1 {id : String} {r : List V → Hp → VK → Prop} {x : Str} {p : Pos} {mr : List γ → Mo β} {kr : RK β} (hc : CallR X (.builtin id) r) (hr : ∀ xs G σ F H Q a vs, Ok G Γ σ F H → SqAt k F H a vs → Ps F (xs.map ρ) vs → (mr xs).run (NQ G Γ σ F H kr Q) (EQ X W G Γ σ F H) → r [.ref a] H Q) (h : RSq X W Γ k e m ρ)
    (hg : Gl X x) (hm : X.mg x = none) (hv : bootBuiltins x = some (.builtin id)) (hn : x ≠ "__name__" := by decide) (hdb : (x == ("__debug__" : Str)) = false := by decide) (he : starEach [e] X.env = [(false, eval e X.env)] := by rfl) :
    RE X W Γ (.Call (.Name x p) [e] [] pos) (m >>= mr) kr := by
  refine re_of (pe_callB hc hg hm hv (pa_cons peE pa_nil he) hn hdb he rfl) fun G σ F H Q o q => ?_
  refine h G σ F H _ o (m.mono (fun xs hx a vs F' H' o' g' z1 z2 => ?_) (fun _ z => z) q)
  exact hr xs G σ F' H' Q a vs o' z1 z2 (run_step g' hx)
theorem re_ty1 {T : String} {r : List V → Hp → VK → Prop} {x : Str} {p : Pos} {mr : List γ → Mo β} {kr : RK β} (hc : CallR X (.type T) r) (hr : ∀ xs G σ F H Q a vs, Ok G Γ σ F H → SqAt k F H a vs → Ps F (xs.map ρ) vs → (mr xs).run (NQ G Γ σ F H kr Q) (EQ X W G Γ σ F H) → r [.ref a] H Q) (h : RSq X W Γ k e m ρ)
    (hg : Gl X x) (hm : X.mg x = none) (hv : bootBuiltins x = some (.type T)) (hn : x ≠ "__name__" := by decide) (hdb : (x == ("__debug__" : Str)) = false := by decide) (he : starEach [e] X.env = [(false, eval e X.env)] := by rfl) :
    RE X W Γ (.Call (.Name x p) [e] [] pos) (m >>= mr) kr := by
  refine re_of (pe_callTy hc hg hm hv (pa_cons peE pa_nil he) hn hdb he rfl) fun G σ F H Q o q => ?_
  refine h G σ F H _ o (m.mono (fun xs hx a vs F' H' o' g' z1 z2 => ?_) (fun _ z => z) q)
  exact hr xs G σ F' H' Q a vs o' z1 z2 (run_step g' hx)
section
variable {p : Pos}
theorem re_len (h : RSq X W Γ k e m ρ) (hm : X.mg "len" = none) (hg : Gl X "len" := by rfl) (he : starEach [e] X.env = [(false, eval e X.env)] := by rfl) : RE X W Γ (.Call (.Name "len" p) [e] [] pos) (m >>= fun xs => pure (xs.length : Int)) (.fz rI) :=
  re_bi1 call_len_seq (fun xs G σ F H Q a vs o z1 z2 q => ⟨a, vs, rfl, z1.or o.le, by have := NQ.here (ρ := rI) q o rfl; rw [z2.len, List.length_map]; exact this⟩) h hg hm (by decide +kernel) (he := he)
theorem re_list (h : RSq X W Γ k e m ρ) (hm : X.mg "list" = none) (hg : Gl X "list" := by rfl) (he : starEach [e] X.env = [(false, eval e X.env)] := by rfl) : RE X W Γ (.Call (.Name "list" p) [e] [] pos) (m >>= fun xs => pure xs) (.ow (oL ρ)) :=
  re_ty1 call_list_of (fun xs G σ F H Q a vs o z1 z2 q => ⟨a, vs, rfl, z1.or o.le, fun d hd => NQ.own q o (Go.refl o.le) hd ⟨vs, rfl, z2⟩⟩) h hg hm (by decide +kernel) (he := he)
end
end
section
variable {p : Pos} {mi : Mo (List Int)} {k : Bool}
theorem re_sum (h : RSq X W Γ true e mi rI) (hm : X.mg "sum" = none) (hc : X.calm = true := by rfl) (hg : Gl X "sum" := by rfl) (he : starEach [e] X.env = [(false, eval e X.env)] := by rfl) : RE X W Γ (.Call (.Name "sum" p) [e] [] pos) (mi >>= fun xs => pure xs.sum) (.fz rI) :=
  re_bi1 (cr_sum hc) (fun xs G σ F H Q a vs o z1 z2 q => ⟨a, xs, rfl, by rw [← (show vs = xs.map V.int from Ps.sc (s := scI) z2)]; exact SqL.of z1, NQ.here (ρ := rI) q o rfl⟩) h hg hm (by decide +kernel) (he := he)
theorem re_minL (h : RSq X W Γ true e mi rI) (hm : X.mg "min" = none) (hc : X.calm = true := by rfl) (hg : Gl X "min" := by rfl) (he : starEach [e] X.env = [(false, eval e X.env)] := by rfl) : RE X W Γ (.Call (.Name "min" p) [e] [] pos) (mi >>= fun xs => Mo.rq (0 < xs.length) () >>= fun _ => Mo.any (fun i : Int => i ∈ xs ∧ ∀ y ∈ xs, i ≤ y)) (.fz rI) :=
  re_bi1 (cr_min hc) (fun xs G σ F H Q a vs o z1 z2 q => ⟨a, xs, rfl, by rw [← (show vs = xs.map V.int from Ps.sc (s := scI) z2)]; exact SqL.of z1, q.1, fun i h1 h2 => NQ.here (ρ := rI) (q.2 i ⟨h1, h2⟩) o rfl⟩) h hg hm (by decide +kernel) (he := he)
variable {mb : Mo (List Bool)}
end
section
variable {mi mj : Mo Int} {mb : Mo Bool} {p : Pos}
theorem re_intI (h : RE X W Γ e mi (.fz rI)) (hm : X.mg "int" = none) (hg : Gl X "int" := by rfl) (he : starEach [e] X.env = [(false, eval e X.env)] := by rfl) : RE X W Γ (.Call (.Name "int" p) [e] [] pos) mi (.fz rI) :=
  re_of (pe_callTy (T := "int") call_int1 hg hm (by decide +kernel) (pa_cons peE pa_nil he) (by decide) (by decide) he rfl) fun G σ F H Q o q => h G σ F H _ o (mi.mono (fun i hx v F' H' o' g' z => by
    obtain rfl : v = .int i := z
    exact .inl ⟨i, rfl, hx _ F' H' o' g' rfl⟩) (fun _ z => z) q)
theorem re_intB (h : RE X W Γ e mb (.fz rB)) (hm : X.mg "int" = none) (hg : Gl X "int" := by rfl) (he : starEach [e] X.env = [(false, eval e X.env)] := by rfl) : RE X W Γ (.Call (.Name "int" p) [e] [] pos) (mb >>= fun c => pure (if c then (1 : Int) else 0)) (.fz rI) :=
  re_of (pe_callTy (T := "int") call_int1 hg hm (by decide +kernel) (pa_cons peE pa_nil he) (by decide) (by decide) he rfl) fun G σ F H Q o q => h G σ F H _ o (mb.mono (fun c hx v F' H' o' g' z => by
    obtain rfl : v = .bl c := z
    exact .inr ⟨c, rfl, hx _ F' H' o' g' rfl⟩) (fun _ z => z) q)
end
section
variable {γ : Type} {ma : Mo γ} {mb : Mo (List γ)} {ρ : γ → Pr} [s : Sc ρ] {k : Bool}
end
section
variable {mi : Mo Int} {ms : Mo Str} {mis : Mo (List Int)} {mss : Mo (List Str)} {k : Bool}
end
end
end RF
namespace RF
open PySem PySem.Spec PyProof.Rows L2 KO SX

inductive Fin where
  | ret (R : V → Hp → Hp → Hp → Prop)
  | nx (Γ : Ctx)
  | nxa (Γ : (Nat → Addr) → Ctx)
  | bk (Γ : Ctx)
  | nc (Γ : Ctx)
def FinOk (G : Gf) (Γe : Ctx) (D : Ends) (F0 : Hp) : Fin → Prop
  | .ret R => ∀ v σ F H, Same G.F0 F → Ok G Γe σ F H → R v G.H0 F H → D.rt v H
  | .nx Γ => ∀ σ F H, Same G.F0 F → Ok G Γ σ F H → D.nx σ H
  | .nxa Γ => ∀ f σ F H, Same G.F0 F → Ok G (Γ f) σ F H → D.nx σ H
  | .bk Γ => ∀ σ F H, Same G.F0 F → Ok G Γ σ F H → D.bk σ H
  | .nc Γ => ∀ σ F H, Same G.F0 F → Ok G Γ σ F H → D.nx σ H ∧ D.ct σ H
theorem FinOk.step {G : Gf} {Γe : Ctx} {D : Ends} {F0 F1 : Hp} {z : Fin} (q : FinOk G Γe D F0 z) : FinOk G Γe D F1 z := by
  cases z <;> exact q
def XQ (X : Cx) (W : WX) (G : Gf) (Γe : Ctx) (F0 : Hp) (ex : Ex) : Prop := ∀ cls d σ F H, Same G.F0 F → Ok G Γe σ F H → ErrOk X.K X.mg ex cls d F → W cls d σ H
theorem XQ.step {X : Cx} {W : WX} {G : Gf} {Γe : Ctx} {F0 F1 : Hp} {ex : Ex} (_s : Same F0 F1) (q : XQ X W G Γe F0 ex) : XQ X W G Γe F1 ex := q
theorem XQ.any {X : Cx} {W : WX} {G : Gf} {Γe : Ctx} {F0 F1 : Hp} {ex : Ex} (q : XQ X W G Γe F0 ex) : XQ X W G Γe F1 ex := q
section
variable {α β γ δ : Type}
def RB (X : Cx) (W : WX) (Γe : Ctx) (lv : Bool) (Γ : Ctx) (l : List Stmt) (m : Mo γ) (Z : γ → Fin) : Prop :=
  Le Γe Γ → ∀ G σ F H (D : Ends) (nx' : L2.St → Hp → Prop), (lv = false → nx' = D.nx) → Ok G Γ σ F H → m.run (fun x => FinOk G Γe D F (Z x)) (XQ X W G Γe F) → tSs X l { D with nx := nx' } σ H
variable {X : Cx} {W : WX} {Γe Γ Γ' : Ctx} {lv : Bool} {st : Stmt} {rest : List Stmt} {m : Mo γ} {Z : γ → Fin} {t : TE} {e : Expr} {pos : Pos}
theorem run_fin {G : Gf} {D : Ends} {F F1 : Hp} {m : Mo γ} (_s : Same F F1) (q : m.run (fun x => FinOk G Γe D F (Z x)) (XQ X W G Γe F)) : m.run (fun x => FinOk G Γe D F1 (Z x)) (XQ X W G Γe F1) := m.mono (fun _ => FinOk.step) (fun _ => XQ.any) q
theorem run_any {G : Gf} {D : Ends} {F F1 : Hp} {m : Mo γ} (q : m.run (fun x => FinOk G Γe D F (Z x)) (XQ X W G Γe F)) : m.run (fun x => FinOk G Γe D F1 (Z x)) (XQ X W G Γe F1) := m.mono (fun _ => FinOk.step) (fun _ => XQ.any) q
theorem XQ.eq {G : Gf} {σ : L2.St} {F H : Hp} {ex : Ex} (le : Le Γe Γ) (q : XQ X W G Γe F ex) : EQ X W G Γ σ F H ex := fun c d F' H' o g z => q c d σ F' H' o.go.fs (o.weak le) z
theorem rb_nil {x : γ} (hz : Z x = .nx Γ' ∨ Z x = .nc Γ') (hl : Le Γ' Γ) : RB X W Γe false Γ [] (pure x) Z := fun le G σ F H D nx' hn o q => by
  obtain rfl := hn rfl
  refine tSs_i fun pins s I => pss_nil.run pins s σ H _ I ?_
  have q : FinOk G Γe D F (Z x) := q
  rcases hz with hz | hz
  · rw [hz] at q; exact q σ F H o.go.fs (o.weak hl)
  · rw [hz] at q; exact (q σ F H o.go.fs (o.weak hl)).1
theorem tSs_cons {t : TS} {D : Ends} {σ : L2.St} {H : Hp} (h : PS X st t) (q : t { D with nx := tSs X rest D } σ H) : tSs X (st :: rest) D σ H := by
  unfold tSs
  exact fun pins s I => (pss_cons h pssS).run pins s σ H D I q
theorem rb_set {i : Nat} {me : Mo α} {ρ : α → Pr} {mr : α → Mo γ} (hs : PS X st (tAsg t (gName i))) (he : RTE X W Γ t me (.fz ρ)) (hi : Γe[i]? = some .un) (hr : ∀ x, RB X W Γe lv (Γ.set i (.fz (ρ x))) rest (mr x) Z) : RB X W Γe lv Γ (st :: rest) (me >>= mr) Z := fun le G σ F H D nx' hn o q =>
  tSs_cons hs (he G σ F H _ o (me.mono (fun x hx v F' H' o' g' z => hr x (le.set hi) G _ F' H' D nx' hn (o'.set z) (run_fin g'.fs hx)) (fun _ => XQ.eq le) q))
theorem rb_setO {i : Nat} {me : Mo α} {ρ : α → Po} {mr : α → Mo γ} (hs : PS X st (tAsg t (gName i))) (he : RTE X W Γ t me (.ow ρ)) (hi : Γe[i]? = some .un) (hr : ∀ x a, RB X W Γe lv (Γ.set i (.ow true a (ρ x))) rest (mr x) Z) : RB X W Γe lv Γ (st :: rest) (me >>= mr) Z := fun le G σ F H D nx' hn o q =>
  tSs_cons hs (he G σ F H _ o (me.mono (fun x hx v F' H' o' g' z => by
    obtain ⟨a, u, rfl, h1, h2, h3, h4⟩ := z
    refine hr x a (le.set hi) G _ F' H' D nx' hn (o'.setO ?_ h2 (fun hm => ?_) h3 h4) (run_fin g'.fs hx)
    · cases q : G.H0 a with
      | none => rfl
      | some y =>
        obtain ⟨y', e'⟩ := o.go.th _ _ q
        rw [h1] at e'; cases e'
    · obtain ⟨w, hw⟩ := o.ownH hm
      rw [h1] at hw; cases hw) (fun _ => XQ.eq le) q))
theorem rb_frz {i : Nat} {a : Addr} {q : Po} {p : Pr} (hi : Γ[i]? = some (.ow true a q)) (hc : ∀ u F, F a = some u → q.r u F → p.r (.ref a) F) (he : Γe[i]? = some .un) (hr : RB X W Γe lv (Γ.set i (.fz p)) rest m Z) : RB X W Γe lv Γ rest m Z := fun le G σ F H D nx' hn o r => by
  obtain ⟨u, h1, h2, o2⟩ := o.frz hi
  have s : Same F (upd F a u) := same_upd (o.en i _ hi).2.1
  have hv : σ[i]? = some (some (.ref a)) := (o.en i _ hi).1
  have o3 := o2.set (i := i) (v := .ref a) (p := p) (hc u _ upd_same (q.mono s h2))
  have e1 : (Γ.set i .un).set i (.fz p) = Γ.set i (.fz p) := by simp
  have e2 : σ.set i (some (.ref a)) = σ := by
    refine List.ext_getElem? fun j => ?_
    by_cases hj : i = j
    · subst hj
      rw [List.getElem?_set_self (List.getElem?_eq_some_iff.mp hv).1, hv]
    · rw [List.getElem?_set_ne hj]
  rw [e1, e2] at o3
  exact hr (le.set he) G σ _ H D nx' hn o3 (run_fin s r)
theorem rb_weak (hl : Le Γ' Γ) (he : Le Γe Γ') (hr : RB X W Γe lv Γ' rest m Z) : RB X W Γe lv Γ rest m Z := fun _ G σ F H D nx' hn o r => hr he G σ F H D nx' hn (o.weak hl) r
theorem rb_expr {me : Mo α} {ρ : α → Pr} {mr : α → Mo γ} (hs : PS X st (tDrop t)) (he : RTE X W Γ t me (.fz ρ)) (hr : ∀ x, RB X W Γe lv Γ rest (mr x) Z) : RB X W Γe lv Γ (st :: rest) (me >>= mr) Z := fun le G σ F H D nx' hn o q =>
  tSs_cons hs (he G σ F H _ o (me.mono (fun x hx v F' H' o' g' z => hr x le G σ F' H' D nx' hn o' (run_fin g'.fs hx)) (fun _ => XQ.eq le) q))
theorem rb_ret {me : Mo α} {k : RK α} (kx : α → γ) (he : RE X W Γ e me k) (hz : ∀ x, Z (kx x) = .ret (k.ok x)) : RB X W Γe lv Γ (.Return (some e) pos :: rest) (me >>= fun x => pure (kx x)) Z := fun le G σ F H D nx' hn o q =>
  tSs_cons (ps_ret peE) (he G σ F H _ o (me.mono (fun x hx v F' H' o' g' z => by
    have hx : FinOk G Γe D F (Z (kx x)) := hx
    rw [hz x] at hx
    exact hx v σ F' H' o'.go.fs (o'.weak le) (z.back o.go.th)) (fun _ => XQ.eq le) q))
theorem rb_retO {i : Nat} {a : Addr} {q : Po} {x : Str} {p : Pos} {y : γ} {z : δ} {k : δ → Po} (hi : Γ[i]? = some (.ow true a q)) (hp : PE X (.Name x p) (tVar i)) (hz : Z y = .ret ((RK.ow k).ok z)) (hk : k z = q) : RB X W Γe lv Γ (.Return (some (.Name x p)) pos :: rest) (pure y) Z := fun le G σ F H D nx' hn o r =>
  tSs_cons (ps_ret hp) (by
    have r : FinOk G Γe D F (Z y) := r
    rw [hz] at r
    obtain ⟨h1, h2, h3, u, h4, h5⟩ := o.en i _ hi
    exact ⟨.ref a, h1, r _ σ F H o.go.fs (o.weak le) ⟨a, u, rfl, h3, h2, h4, by rw [hk]; exact h5⟩⟩)
theorem rb_if1 {c : Expr} {a : List Stmt} {mc : Mo Bool} {ma mr : Mo γ} (hc : RT X W Γ c mc) (ha : RB X W Γe true Γ a ma Z) (hr : RB X W Γe lv Γ rest mr Z) : RB X W Γe lv Γ (.If c a [] pos :: rest) (mc >>= fun b => if b = true then ma else mr) Z := fun le G σ F H D nx' hn o q =>
  tSs_cons (ps_if ptT pssS pss_nil) (hc G σ F H _ o (mc.mono (fun b hx F' H' o' g' => by
    cases b with
    | true => exact iteT (ha le G σ F' H' D _ (fun z => by cases z) o' (run_fin g'.fs (by simpa using hx)))
    | false => exact iteF (hr le G σ F' H' D nx' hn o' (run_fin g'.fs (by simpa using hx)))) (fun _ => XQ.eq le) q))
theorem rb_if0 {c : Expr} {a b : List Stmt} {mc : Mo Bool} {ma mb : Mo γ} (hc : RT X W Γ c mc) (ha : RB X W Γe lv Γ a ma Z) (hb : RB X W Γe lv Γ b mb Z) : RB X W Γe lv Γ [.If c a b pos] (mc >>= fun k => if k = true then ma else mb) Z := fun le G σ F H D nx' hn o q => by
  refine tSs_i fun pins s I => (pss_one (ps_if ptT pssS pssS)).run pins s σ H _ I ?_
  exact hc G σ F H _ o (mc.mono (fun k hx F' H' o' g' => by
    cases k with
    | true => exact iteT (ha le G σ F' H' D nx' hn o' (run_fin g'.fs (by simpa using hx)))
    | false => exact iteF (hb le G σ F' H' D nx' hn o' (run_fin g'.fs (by simpa using hx)))) (fun _ => XQ.eq le) q)
variable {ρ : α → Pr} {i : Nat} {l : Bool} {ad : Addr} {xs : List α}
theorem rb_setix {ei : Expr} {me : Mo α} {mi : Mo Int} {mr : α → Int → Nat → Mo γ} (hs : PS X st (tAsg (tE X e) (gSub (tVar i) (tE X ei) rSetL))) (hi : Γ[i]? = some (.ow l ad (oL ρ xs))) (he : RE X W Γ e me (.fz ρ)) (hj : RE X W Γ ei mi (.fz rI)) (hie : Γe[i]? = some .un)
    (hr : ∀ x j n, RB X W Γe lv (Γ.set i (.ow l ad (oL ρ (xs.set n x)))) rest (mr x j n) Z) :
    RB X W Γe lv Γ (st :: rest) (me >>= fun x => mi >>= fun j => Mo.get (ixN xs.length j) >>= fun n => mr x j n) Z := fun le G σ F H D nx' hn o q =>
  tSs_cons hs (by
    refine he G σ F H _ o (me.mono (fun x hx v F1 H1 o1 g1 z1 => ?_) (fun _ => XQ.eq le) q)
    refine ⟨.ref ad, (o1.en i _ hi).1, ?_⟩
    refine hj G σ F1 H1 _ o1 (mi.mono (fun j hx w F2 H2 o2 g2 z2 => ?_) (fun _ z => XQ.eq le (XQ.step g1.fs z)) hx)
    obtain ⟨_, _, _, u, hu, vs, rfl, hps⟩ := o2.en i _ hi
    obtain ⟨n, hn', hx⟩ := hx
    refine ⟨ad, vs, j, n, rfl, z2, hu, by rw [hps.len, List.length_map]; exact hn', ?_⟩
    refine hr x j n (le.set hie) G σ F2 _ D nx' hn (o2.put (q := oL ρ (xs.set n x)) hi ⟨_, rfl, ?_⟩) (run_fin (g1.fs.trans g2.fs) hx)
    rw [List.map_set]
    exact hps.set n ((ρ x).mono g2.fs z1))
end
end RF
namespace RF
open PySem PySem.Spec PyProof.Rows L2 KO SX

def Src {α : Type} (J : It) (xs : List α) (ρ : α → Pr) (F1 : Hp) : Prop :=
  ∀ F2 H2, Same F1 F2 → Same F2 H2 → (∀ i, i < xs.length → J.go i H2) ∧ J.stop xs.length H2 ∧ ∀ i x v H3, xs[i]? = some x → J.yld i H2 v H3 → ∃ F3, Go [] F2 H2 F3 H3 ∧ (ρ x).r v F3
section
variable {α β γ δ : Type} {X : Cx} {W : WX} {Γe Γ Γ' : Ctx} {lv : Bool} {e tg iter : Expr} {pos : Pos}
def RI (X : Cx) (W : WX) (Γ : Ctx) (wi : TI) (m : Mo (List α)) (ρ : α → Pr) : Prop := ∀ G σ F H R, Ok G Γ σ F H → m.run (fun xs => ∀ J F' H', Ok G Γ σ F' H' → Go (owns Γ) F H F' H' → Src J xs ρ F' → R J H') (EQ X W G Γ σ F H) → wi σ H R
variable {m : Mo (List α)} {ρ : α → Pr}
theorem src_list {K : PySem.W.Frag} {F : Hp} {a : Addr} {vs : List V} {xs : List α} (h : F a = some (.lst vs)) (hp : Ps F (xs.map ρ) vs) : Src (Itl K a) xs ρ F := fun F2 H2 s1 s2 => by
  have h2 : SqL K H2 a vs := SqL.of (s2 _ _ (s1 _ _ h))
  have w := walk_list (K := K) (a := a) (xs := vs)
  have hl : vs.length = xs.length := by rw [hp.len, List.length_map]
  refine ⟨fun i hi => w.goes i H2 (by rw [hl]; exact hi) h2, hl ▸ w.stops H2 h2, fun i x v H3 hx y => ?_⟩
  obtain ⟨rfl, e⟩ := w.yields i H2 v H3 (by rw [hl]; exact (List.getElem?_eq_some_iff.mp hx).1) h2 y
  obtain ⟨u, h3, h4⟩ := hp.get (i := i) (p := ρ x) (by rw [List.getElem?_map, hx]; rfl)
  rw [e] at h3
  cases h3
  exact ⟨F2, Go.refl s2, (ρ x).mono s1 h4⟩
theorem ri_list (h : RE X W Γ e m (.fz (rL ρ))) : RI X W Γ (iList X.K (tE X e)) m ρ := fun G σ F H R o q => by
  refine h G σ F H _ o (m.mono (fun xs hx v F' H' o' g' z => ?_) (fun _ z => z) q)
  obtain ⟨a, vs, rfl, h1, h2⟩ := z
  exact ⟨a, rfl, ⟨vs, SqL.of (o'.le _ _ h1)⟩, hx _ F' H' o' g' (src_list h1 h2)⟩
def rangeL (lo : Int) (n : Nat) : List Int := (List.range n).map fun (i : Nat) => lo + (i : Int)
theorem src_range {lo : Int} {n : Nat} {F : Hp} : Src (Itr lo n) (rangeL lo n) rI F := fun F2 H2 s1 s2 => by
  have w := walk_range (lo := lo) (n := n)
  have hl : (rangeL lo n).length = n := by simp [rangeL]
  refine ⟨fun i hi => w.goes i H2 (by rw [← hl]; exact hi) trivial, by rw [hl]; exact w.stops H2 trivial, fun i x v H3 hx y => ?_⟩
  have hi : i < n := by rw [← hl]; exact (List.getElem?_eq_some_iff.mp hx).1
  obtain ⟨rfl, e⟩ := w.yields i H2 v H3 hi trivial y
  refine ⟨F2, Go.refl s2, ?_⟩
  have : x = lo + (i : Int) := by
    simp [rangeL, List.getElem?_map, List.getElem?_range hi] at hx
    exact hx.symm
  rw [this]
  exact e
theorem ri_range1 {me : Mo Int} (h : RE X W Γ e me (.fz rI)) : RI X W Γ (iRng1 (tCons (tE X e) tNil)) (me >>= fun j => Mo.rq (-(2 ^ 62) ≤ j ∧ j < 2 ^ 62) (rangeL 0 j.toNat)) rI := fun G σ F H R o q => by
  refine h G σ F H _ o (me.mono (fun j hx v F' H' o' g' z => ?_) (fun _ z => z) q)
  obtain rfl : v = .int j := z
  exact ⟨j, rfl, hx.1.1, hx.1.2, hx.2 _ F' H' o' g' src_range⟩
def RG (K : PySem.W.Frag) (g : TG) (p : Pr) (f : Ctx → Ctx) (vs : List Nat) : Prop := ∀ G Γ σ F H Q v, Ok G Γ σ F H → p.r v F → (∀ σ', Ok G (f Γ) σ' F H → wipe σ' vs = wipe σ vs → Q σ' H) → g v σ H Q
theorem wipe_set {σ : L2.St} {i : Nat} {v : Option V} : ∀ {vs : List Nat}, i ∈ vs → wipe (σ.set i v) vs = wipe σ vs
  | [], h => by simp at h
  | j :: vs, h => by
    unfold wipe
    by_cases hj : j = i
    · subst hj
      by_cases hm : j ∈ vs
      · rw [wipe_set hm]
      · clear h
        -- set commutes with the wiping of others, and is then overwritten
        have key : ∀ ws : List Nat, j ∉ ws → wipe (σ.set j v) ws = (wipe σ ws).set j v := by
          intro ws
          induction ws with
          | nil => intro _; rfl
          | cons k ws ih =>
            intro hk
            unfold wipe
            rw [ih (fun h => hk (List.mem_cons_of_mem _ h)), List.set_comm _ _ (fun e => hk (by rw [e]; exact List.mem_cons_self))]
        rw [key vs hm, List.set_set]
    · rw [wipe_set ((List.mem_cons.mp h).resolve_left (fun e => hj e.symm))]
theorem rg_name {K : PySem.W.Frag} {p : Pr} {i : Nat} : RG K (gName i) p (fun Γ => Γ.set i (.fz p)) [i] := fun G Γ σ F H Q v o hv q => q _ (o.set hv) (wipe_set (by simp))
def setAll : List Nat → List Pr → Ctx → Ctx
  | i :: is, p :: ps, Γ => setAll is ps (Γ.set i (.fz p))
  | _, _, Γ => Γ
def gNames : List Nat → TGs
  | [] => gNil
  | i :: is => gCons (gName i) (gNames is)
theorem rg_names {G : Gf} {F H : Hp} : ∀ {is : List Nat} {ps : List Pr} {vs : List V} {Γ : Ctx} {σ : L2.St} {ws : List Nat} {Q : L2.St → Hp → Prop}, is.length = ps.length → Ok G Γ σ F H → Ps F ps vs → (∀ i ∈ is, i ∈ ws) → (∀ σ', Ok G (setAll is ps Γ) σ' F H → wipe σ' ws = wipe σ ws → Q σ' H) → gNames is vs σ H Q
  | [], [], [], _, σ, _, _, _, o, _, _, q => ⟨rfl, q σ o rfl⟩
  | i :: is, p :: ps, v :: vs, Γ, σ, ws, Q, hl, o, h, hw, q => ⟨v, vs, rfl, rg_names (by simpa using hl) (o.set h.1) h.2 (fun j hj => hw j (List.mem_cons_of_mem _ hj)) fun σ' o' e => q σ' o' (e.trans (wipe_set (hw i List.mem_cons_self)))⟩
  | [], [], _ :: _, _, _, _, _, _, _, h, _, _ => h.elim
  | _ :: _, _ :: _, [], _, _, _, _, _, _, h, _, _ => h.elim
  | [], _ :: _, _, _, _, _, _, hl, _, _, _, _ => by simp at hl
  | _ :: _, [], _, _, _, _, _, hl, _, _, _, _ => by simp at hl
theorem rg_tup {K : PySem.W.Frag} {ps : List Pr} (is : List Nat) (hl : is.length = ps.length) : RG K (gTup K ps.length (gNames is)) (rTu ps) (setAll is ps) is := fun G Γ σ F H Q v o hv q => by
  obtain ⟨a, vs, rfl, h1, h2⟩ := hv
  exact ⟨a, vs, rfl, SqT.ofR (Rd.mono h1 o.le), h2.len, rg_names hl o h2 (fun _ h => h) q⟩

inductive Lp (S α : Type) where
  | go (s : S)
  | brk (s : S)
  | ret (a : α)
def Mo.loop {S : Type} (f : S → β → Mo (Lp S δ)) : List β → S → Mo (Lp S δ)
  | [], s => pure (.go s)
  | x :: xs, s => f s x >>= fun o => match o with
    | .go s' => Mo.loop f xs s'
    | .brk s' => pure (.brk s')
    | .ret a => pure (.ret a)
def Mo.fold {S : Type} (f : S → β → Mo S) : List β → S → Mo S
  | [], s => pure s
  | x :: xs, s => f s x >>= fun s' => Mo.fold f xs s'
def Lp.fin {S : Type} (ΓI : S → Ctx) (Zr : δ → Fin) : Lp S δ → Fin
  | .go s => .nc (ΓI s)
  | .brk s => .bk (ΓI s)
  | .ret a => Zr a
def Lp.out {S : Type} (mr : S → Mo γ) (kr : δ → γ) : Lp S δ → Mo γ
  | .go s => mr s
  | .brk s => mr s
  | .ret a => pure (kr a)
section
variable {S : Type} {Z : γ → Fin} {st : Stmt} {rest body : List Stmt} {wi : TI} {g : TG} {mi : Mo (List β)} {ρi : β → Pr}
def noLk : Ctx → Bool
  | [] => true
  | .lk true _ _ :: _ => false
  | _ :: l => noLk l
theorem noLk.get : ∀ {Γ : Ctx} {i : Nat} {h : Hp} {p : Pr}, noLk Γ = true → Γ[i]? = some (.lk true h p) → False
  | [], _, _, _, _, e => by simp at e
  | en :: l, 0, h, p, n, e => by
    simp at e
    subst e
    cases n
  | en :: l, i + 1, h, p, n, e => noLk.get (Γ := l) (i := i) (by cases en with
    | lk f h p => cases f with
      | true => cases n
      | false => exact n
    | _ => exact n) (by simpa using e)
theorem Ok.reb {G : Gf} {Γ : Ctx} {σ : L2.St} {F H : Hp} (o : Ok G Γ σ F H) (n : noLk Γ = true) : Ok ⟨F, G.H0, G.M⟩ Γ σ F H where
  go := ⟨Same.refl _, o.le, o.go.hs, fun _ _ _ h => h, o.go.th⟩
  en := fun i e he => by
    have z := o.en i e he
    cases e with
    | un => trivial
    | fz p => exact z
    | ow l a q => exact z
    | lk f h p => cases f with
      | true => exact (noLk.get n he).elim
      | false => exact ⟨z.1, fun b hb => ⟨(z.2.1 b hb).1, fun x => by cases x⟩, z.2.2⟩
  ap := o.ap
  ln := o.ln
theorem Ok.unreb {G : Gf} {Γ Γ2 : Ctx} {σ σ2 : L2.St} {F H F2 H2 : Hp} (o : Ok G Γ σ F H) (o2 : Ok ⟨F, G.H0, G.M⟩ Γ2 σ2 F2 H2) : Ok G Γ2 σ2 F2 H2 where
  go := ⟨o.go.fs.trans o2.go.fs, o2.le, o2.go.hs, fun b x e f => o2.go.fr b x e (o.go.fr b x e f), o2.go.th⟩
  en := fun i e he => by
    have z := o2.en i e he
    cases e with
    | un => trivial
    | fz p => exact z
    | ow l a q => exact z
    | lk f h p => exact ⟨z.1, fun b hb => ⟨(z.2.1 b hb).1, fun hf => by
        have k := (z.2.1 b hb).2 hf
        cases e : G.F0 b with
        | none => rfl
        | some x =>
          have k : F b = none := k
          rw [o.go.fs _ _ e] at k; cases k⟩, z.2.2⟩
  ap := o2.ap
  ln := o2.ln
theorem rb_for {s0 : S} {vs : List Nat} (ΓI : S → Ctx) (tg : β → Ctx → Ctx) {mb : S → β → Mo (Lp S δ)} {mr : S → Mo γ} {kr : δ → γ} {Zr : δ → Fin} (hs : PS X st (tFor wi g (tSs X body))) (hi : RI X W Γ wi mi ρi) (hg : ∀ x, RG X.K g (ρi x) (tg x) vs)
    (h0 : Le (ΓI s0) Γ) (hle : ∀ s, Le Γe (ΓI s)) (hlt : ∀ x s, Le Γe (tg x (ΓI s))) (hb : ∀ s x, RB X W Γe false (tg x (ΓI s)) body (mb s x) (Lp.fin ΓI Zr)) (hz : ∀ a, Z (kr a) = Zr a) (hret : ∀ a, ∃ R, Zr a = .ret R) (hr : ∀ s, RB X W Γe lv (ΓI s) rest (mr s) Z) (hk : ∀ s, noLk (ΓI s) = true := by intro _; rfl) :
    RB X W Γe lv Γ (st :: rest) (mi >>= fun xs => Mo.loop mb xs s0 >>= Lp.out mr kr) Z := fun le G σ F H D nx' hn o q =>
  tSs_cons hs (by
    refine hi G σ F H _ o (mi.mono (fun xs hx J F' H' o' g' src => ?_) (fun _ => XQ.eq le) q)
    let Fn : Hp → Lp S δ → Prop := fun F2 l => (Lp.out mr kr l).run (fun x => FinOk G Γe D F2 (Z x)) (XQ X W G Γe F2)
    have fstep : ∀ {A B : Hp} {l : Lp S δ}, Fn A l → Fn B l := fun h => run_any h
    have hx : (Mo.loop mb xs s0).run (Fn F') (XQ X W G Γe F') := Mo.mono _ (fun l h => fstep h) (fun _ => XQ.any) hx
    refine ⟨fun i k σ2 H2 => k = xs.length - i ∧ i ≤ xs.length ∧ ∃ s F2, Ok G (ΓI s) σ2 F2 H2 ∧ Same F' F2 ∧ (Mo.loop mb (xs.drop i) s).run (Fn F2) (XQ X W G Γe F2), ⟨_, rfl, Nat.zero_le _, s0, F', o'.weak h0, Same.refl _, hx⟩, ?_⟩
    rintro i k σ2 H2 ⟨rfl, hik, s, F2, o2, s2, r⟩
    obtain ⟨w1, w2, w3⟩ := src F2 H2 s2 o2.le
    by_cases hlt' : i < xs.length
    · refine .inr ⟨w1 i hlt', fun σ' H' => ∃ m', m' < xs.length - i ∧ m' = xs.length - (i + 1) ∧ i + 1 ≤ xs.length ∧ ∃ s F2, Ok G (ΓI s) σ' F2 H' ∧ Same F' F2 ∧ (Mo.loop mb (xs.drop (i + 1)) s).run (Fn F2) (XQ X W G Γe F2), fun σ' H' ⟨m', h1, h2, h3, h4⟩ => ⟨m', h1, h2, h3, h4⟩, fun v H3 y => ?_⟩
      have hget : xs[i]? = some xs[i] := List.getElem?_eq_getElem hlt'
      obtain ⟨F3, g3, hv⟩ := w3 i xs[i] v H3 hget y
      have o3 : Ok G (ΓI s) σ2 F3 H3 := o2.move g3 (fun _ h => by simp at h)
      have o3r := o3.reb (hk s)
      refine hg xs[i] ⟨F3, G.H0, G.M⟩ _ σ2 F3 H3 _ v o3r hv fun σ4 o4 _ => ?_
      rw [List.drop_eq_getElem_cons hlt'] at r
      refine hb s xs[i] (hlt _ _) ⟨F3, G.H0, G.M⟩ σ4 F3 H3 { nx := _, rt := D.rt, bk := tSs X rest { D with nx := nx' }, ct := _ } _ (fun _ => rfl) o4 (Mo.mono _ (fun l hl => ?_) (fun _ hq cls d σ6 F6 H6 _ o6 z => hq cls d σ6 F6 H6 (o3.unreb o6).go.fs (o3.unreb o6) z) r)
      have next : ∀ s', (Mo.loop mb (xs.drop (i + 1)) s').run (Fn F2) (XQ X W G Γe F2) → ∀ σ5 F5 H5, Same F3 F5 → Ok G (ΓI s') σ5 F5 H5 → ∃ m', m' < xs.length - i ∧ m' = xs.length - (i + 1) ∧ i + 1 ≤ xs.length ∧ ∃ s F2, Ok G (ΓI s) σ5 F2 H5 ∧ Same F' F2 ∧ (Mo.loop mb (xs.drop (i + 1)) s).run (Fn F2) (XQ X W G Γe F2) := fun s' hl σ5 F5 H5 s5 o5 =>
        ⟨_, by omega, rfl, by omega, s', F5, o5, (s2.trans g3.fs).trans s5, Mo.mono _ (fun l h => fstep h) (fun _ => XQ.any) hl⟩
      cases l with
      | go s' =>
        have hl : (Mo.loop mb (xs.drop (i + 1)) s').run (Fn F2) (XQ X W G Γe F2) := hl
        exact fun σ5 F5 H5 s5 o5 => ⟨next s' hl σ5 F5 H5 s5 (o3.unreb o5), next s' hl σ5 F5 H5 s5 (o3.unreb o5)⟩
      | brk s' =>
        have hl : Fn F2 (.brk s') := hl
        exact fun σ5 F5 H5 s5 o5 => hr s' (hle s') G σ5 F5 H5 D nx' hn (o3.unreb o5) (run_any hl)
      | ret a =>
        have hl : FinOk G Γe D F2 (Z (kr a)) := hl
        rw [hz a] at hl
        obtain ⟨R, hR⟩ := hret a
        show FinOk ⟨F3, G.H0, G.M⟩ Γe _ F3 (Zr a)
        rw [hR] at hl ⊢
        exact fun v5 σ5 F5 H5 s5 o5 => hl v5 σ5 F5 H5 (o3.unreb o5).go.fs (o3.unreb o5)
    · have e : i = xs.length := by omega
      subst e
      refine .inl ⟨w2, ?_⟩
      rw [List.drop_length] at r
      have r : Fn F2 (.go s) := r
      exact hr s (hle s) G σ2 F2 H2 D nx' hn o2 r)
theorem loop_fold {f : S → β → Mo S} {R : Lp S δ → Prop} {E : Ex → Prop} : ∀ (xs : List β) (s : S), (Mo.fold f xs s).run (fun s => R (.go s)) E → (Mo.loop (fun s x => f s x >>= fun s' => pure (Lp.go s')) xs s).run R E
  | [], _, h => h
  | x :: xs, s, h => (f s x).mono (fun s' hs' => loop_fold xs s' hs') (fun _ h => h) h
theorem rb_forF {s0 : S} {vs : List Nat} (ΓI : S → Ctx) (tg : β → Ctx → Ctx) {mb : S → β → Mo S} {mr : S → Mo γ} (hs : PS X st (tFor wi g (tSs X body))) (hi : RI X W Γ wi mi ρi) (hg : ∀ x, RG X.K g (ρi x) (tg x) vs)
    (h0 : Le (ΓI s0) Γ) (hle : ∀ s, Le Γe (ΓI s)) (hlt : ∀ x s, Le Γe (tg x (ΓI s))) (hb : ∀ s x, RB X W Γe false (tg x (ΓI s)) body (mb s x) (fun s' => .nc (ΓI s'))) (hr : ∀ s, RB X W Γe lv (ΓI s) rest (mr s) Z) (hk : ∀ s, noLk (ΓI s) = true := by intro _; rfl) :
    RB X W Γe lv Γ (st :: rest) (mi >>= fun xs => Mo.fold mb xs s0 >>= mr) Z := by
  have hb' : ∀ s x, RB X W Γe false (tg x (ΓI s)) body (mb s x >>= fun s' => pure (Lp.go (α := Empty) s')) (Lp.fin ΓI fun a => a.elim) := fun s x le G σ F H D nx' hn o q => hb s x le G σ F H D nx' hn o q
  have h := rb_for (δ := Empty) (kr := fun a => a.elim) (Z := Z) (γ := γ) ΓI tg hs hi hg h0 hle hlt hb' (fun a => a.elim) (fun a => a.elim) hr hk
  refine fun le G σ F H D nx' hn o q => h le G σ F H D nx' hn o (mi.mono (fun xs hx => ?_) (fun _ h => h) q)
  exact loop_fold xs s0 hx
end
end
end RF
namespace RF
open PySem PySem.Spec PyProof.Rows L2 KO SX

section
variable {α β γ δ : Type} {X : Cx} {W : WX} {Γe Γ Γ' : Ctx} {lv : Bool}
def whN {S : Type} (c : S → Mo Bool) (f : S → Mo (Lp S δ)) : Nat → S → (Lp S δ → Prop) → (Ex → Prop) → Prop
  | 0, _, _, _ => False
  | n + 1, s, Q, E => (c s).run (fun b => if b = true then (f s).run (fun l => match l with
      | .go s' => whN c f n s' Q E
      | .brk s' => Q (.brk s')
      | .ret a => Q (.ret a)) E else Q (.go s)) E
theorem whN_mono {S : Type} {c : S → Mo Bool} {f : S → Mo (Lp S δ)} {Q Q' : Lp S δ → Prop} {E E' : Ex → Prop} (hq : ∀ x, Q x → Q' x) (he : ∀ x, E x → E' x) : ∀ (n : Nat) (s : S), whN c f n s Q E → whN c f n s Q' E'
  | 0, _, h => h
  | n + 1, s, h => (c s).mono (fun b hb => by
      cases b with
      | true =>
        rw [if_pos rfl] at hb ⊢
        refine (f s).mono (fun l hl => ?_) he hb
        cases l with
        | go s' => exact whN_mono hq he n s' hl
        | brk s' => exact hq _ hl
        | ret a => exact hq _ hl
      | false =>
        rw [if_neg Bool.false_ne_true] at hb ⊢
        exact hq _ hb) he h
def Mo.while {S : Type} (c : S → Mo Bool) (f : S → Mo (Lp S δ)) (s : S) : Mo (Lp S δ) := ⟨fun Q E => ∃ n, whN c f n s Q E, fun hq he ⟨n, h⟩ => ⟨n, whN_mono hq he n s h⟩⟩
@[simp] theorem Mo.run_while {S : Type} {c : S → Mo Bool} {f : S → Mo (Lp S δ)} {s : S} {Q : Lp S δ → Prop} {E : Ex → Prop} : (Mo.while c f s).run Q E = ∃ n, whN c f n s Q E := rfl
end

abbrev W0 : WX := fun _ _ _ _ => False
section
variable {α β γ δ : Type} {X : Cx} {W : WX} {Γe Γ Γ' : Ctx} {lv : Bool} {scope : Scope} {elt c : Expr} {ifs : List Expr}
def tEi (X : Cx) (scope : Scope) (elt : Expr) : TE := fun σ H Q => ∀ (s : Shared) (H0 : Hp) (C : Addr) (cl : List (Str × Addr)) (fp : List Addr), tE (X.blk s H0 scope (compEnvC scope cl C X.env) fp) elt σ H Q
def tPi (X : Cx) (scope : Scope) (ifs : List Expr) : TT := fun σ H Q => ∀ (s : Shared) (H0 : Hp) (C : Addr) (cl : List (Str × Addr)) (fp : List Addr) (pins : List (Addr × Obj)) (s' : Shared), Inv (X.blk s H0 scope (compEnvC scope cl C X.env) fp) pins σ H s' →
  wpAny (model X.prog X.w) X.A (forIn ifs true fun c r => if r = true then do let ok ← isTrue c (compEnvC scope cl C X.env) (eval c (compEnvC scope cl C X.env)); pure (ForInStep.yield ok) else pure (ForInStep.yield r)) (TP (X.blk s H0 scope (compEnvC scope cl C X.env) fp) pins σ Q) (fun _ _ => False) s'
theorem peEi (s : Shared) (H0 : Hp) (C : Addr) (cl : List (Str × Addr)) (fp : List Addr) : PE (X.blk s H0 scope (compEnvC scope cl C X.env) fp) elt (tEi X scope elt) := ⟨fun pins s' σ H Q I h => peE.run pins s' σ H Q I (h s H0 C cl fp)⟩
theorem ptPi (s : Shared) (H0 : Hp) (C : Addr) (cl : List (Str × Addr)) (fp : List Addr) : PTs (X.blk s H0 scope (compEnvC scope cl C X.env) fp) ifs (tPi X scope ifs) := ⟨fun pins s' σ H Q I h => h s H0 C cl fp pins s' I⟩
def REi (X : Cx) (scope : Scope) (Γ : Ctx) (e : Expr) (m : Mo γ) (k : RK γ) : Prop := ∀ (s : Shared) (H0 : Hp) (C : Addr) (cl : List (Str × Addr)) (fp : List Addr), RE (X.blk s H0 scope (compEnvC scope cl C X.env) fp) W0 Γ e m k
def RTi (X : Cx) (scope : Scope) (Γ : Ctx) (ifs : List Expr) (m : Mo Bool) : Prop := ∀ G σ F H Q, Ok G Γ σ F H → m.run (fun b => ∀ F' H', Ok G Γ σ F' H' → Go (owns Γ) F H F' H' → Q b H') (fun _ => False) → tPi X scope ifs σ H Q
theorem rti_nil : RTi X scope Γ [] (pure true) := fun G σ F H Q o q s H0 C cl fp pins s' I => (pts_nil (X := X.blk s H0 scope (compEnvC scope cl C X.env) fp)).run pins s' σ H Q I (q F H o (Go.refl o.le))
theorem rti_one {m : Mo Bool} (h : ∀ (s : Shared) (H0 : Hp) (C : Addr) (cl : List (Str × Addr)) (fp : List Addr), RT (X.blk s H0 scope (compEnvC scope cl C X.env) fp) W0 Γ c m) : RTi X scope Γ [c] m := fun G σ F H Q o q s H0 C cl fp pins s' I =>
  (pts_one (X := X.blk s H0 scope (compEnvC scope cl C X.env) fp) ptT).run pins s' σ H Q I (h s H0 C cl fp G σ F H Q o (m.mono (fun _ h => h) (fun _ z => z.elim) q))
def Mo.comp (c : β → Mo Bool) (f : β → Mo γ) : List β → Mo (List γ)
  | [] => pure []
  | x :: xs => c x >>= fun b => if b = true then f x >>= fun y => Mo.comp c f xs >>= fun ys => pure (y :: ys) else Mo.comp c f xs
def Mo.lc (c : β → Mo Bool) (f : β → Mo γ) (xs : List β) : Mo (List γ) := Mo.rq (xs.length ≤ sizeLine) () >>= fun _ => Mo.calm (Mo.comp c f xs)
def wipeC (Γ : Ctx) : List Nat → Ctx
  | [] => Γ
  | v :: vs => (wipeC Γ vs).set v .un
theorem Ok.wipe {G : Gf} {σ : L2.St} {F H : Hp} (o : Ok G Γ σ F H) : ∀ vs : List Nat, Ok G (wipeC Γ vs) (wipe σ vs) F H
  | [] => o
  | v :: vs => by unfold wipeC L2.wipe; exact (Ok.wipe o vs).forget v
theorem owns_set {i : Nat} {en : En} {a : Addr} (hen : en.own? = none) (h : a ∈ owns (Γ.set i en)) : a ∈ owns Γ := by
  obtain ⟨j, l, q, e⟩ := of_owns h
  by_cases hij : i = j
  · subst hij
    have hl : i < Γ.length := by
      have := (List.getElem?_eq_some_iff.mp e).1
      simpa using this
    rw [List.getElem?_set_self hl] at e
    cases e
    cases hen
  · rw [List.getElem?_set_ne hij] at e
    exact mem_owns e
theorem owns_wipe {a : Addr} : ∀ {vs : List Nat}, a ∈ owns (wipeC Γ vs) → a ∈ owns Γ
  | [], h => h
  | v :: vs, h => owns_wipe (vs := vs) (owns_set rfl h)
structure RGo (f : Ctx → Ctx) (vs : List Nat) : Prop where
  sub : ∀ Γ a, a ∈ owns (f Γ) → a ∈ owns Γ
  keep : ∀ (Γ : Ctx) (i : Nat), i ∉ vs → (f Γ)[i]? = Γ[i]?
theorem rgo_name {p : Pr} {i : Nat} : RGo (fun Γ => Γ.set i (.fz p)) [i] := ⟨fun _ _ h => owns_set rfl h, fun Γ j h => List.getElem?_set_ne (fun e => h (by simp [e]))⟩
theorem setAll_keep {j : Nat} : ∀ {is : List Nat} {ps : List Pr} {Γ : Ctx}, j ∉ is → (setAll is ps Γ)[j]? = Γ[j]?
  | i :: is, p :: ps, Γ, h => by
    unfold setAll
    rw [setAll_keep (fun m => h (List.mem_cons_of_mem _ m)), List.getElem?_set_ne (fun e => h (by simp [e]))]
  | [], _, _, _ => by unfold setAll; rfl
  | _ :: _, [], _, _ => by unfold setAll; rfl
theorem setAll_owns {a : Addr} : ∀ {is : List Nat} {ps : List Pr} {Γ : Ctx}, a ∈ owns (setAll is ps Γ) → a ∈ owns Γ
  | i :: is, p :: ps, Γ, h => by
    unfold setAll at h
    exact owns_set (en := .fz p) (i := i) rfl (setAll_owns h)
  | [], _, _, h => by unfold setAll at h; exact h
  | _ :: _, [], _, h => by unfold setAll at h; exact h
theorem rgo_tup {is : List Nat} {ps : List Pr} : RGo (setAll is ps) is := ⟨fun _ _ h => setAll_owns h, fun _ _ h => setAll_keep h⟩
theorem wipe_get {σ : L2.St} {i : Nat} : ∀ {vs : List Nat}, (wipe σ vs)[i]? = if i ∈ vs then (σ[i]?).map (fun _ => none) else σ[i]?
  | [] => by simp [wipe]
  | v :: vs => by
    unfold wipe
    by_cases hv : v = i
    · subst hv
      rw [List.getElem?_set, if_pos rfl, wipe_length, if_pos List.mem_cons_self]
      by_cases hl : v < σ.length
      · rw [if_pos hl, List.getElem?_eq_getElem hl]; rfl
      · rw [if_neg hl, List.getElem?_eq_none (by omega)]; rfl
    · rw [List.getElem?_set_ne hv, wipe_get]
      have : (i ∈ v :: vs) ↔ i ∈ vs := by
        rw [List.mem_cons]
        exact ⟨fun h => h.resolve_left (fun e => hv e.symm), .inr⟩
      simp only [this]
theorem wipe_wipe (σ : L2.St) (vs : List Nat) : wipe (wipe σ vs) vs = wipe σ vs := by
  refine List.ext_getElem? fun i => ?_
  rw [wipe_get, wipe_get]
  by_cases h : i ∈ vs
  · rw [if_pos h, if_pos h]
    cases σ[i]? <;> rfl
  · rw [if_neg h, if_neg h]
theorem wipeC_keep {j : Nat} : ∀ {vs : List Nat}, j ∉ vs → (wipeC Γ vs)[j]? = Γ[j]?
  | [], _ => rfl
  | v :: vs, h => by
    unfold wipeC
    rw [List.getElem?_set_ne (fun e => h (by simp [e])), wipeC_keep (fun m => h (List.mem_cons_of_mem _ m))]
theorem un1 {i : Nat} (h : Γ[i]? = some .un) : ∀ v ∈ [i], Γ[v]? = some .un := fun v hv => by rw [List.mem_singleton.mp hv]; exact h
theorem un2 {i j : Nat} (h : Γ[i]? = some .un) (h2 : Γ[j]? = some .un) : ∀ v ∈ [i, j], Γ[v]? = some .un := fun v hv => by
  rcases List.mem_cons.mp hv with e | hv
  · rw [e]; exact h
  · exact un1 h2 v hv
theorem Ok.back {G : Gf} {f : Ctx → Ctx} {vs : List Nat} {σ σ3 : L2.St} {F H F5 H5 : Hp} (o : Ok G Γ σ F H) (hf : RGo f vs) (hun : ∀ v ∈ vs, Γ[v]? = some .un) (s : Same F F5) (o5 : Ok G (f (wipeC Γ vs)) σ3 F5 H5) : Ok G Γ σ F5 H5 where
  go := o5.go
  en := fun i e he => by
    cases e with
    | un => trivial
    | fz p =>
      obtain ⟨v, h1, h2⟩ := o.en i _ he
      exact ⟨v, h1, p.mono s h2⟩
    | ow l a q =>
      have hi : i ∉ vs := fun h => by rw [hun i h] at he; cases he
      have h5 := o5.en i (.ow l a q) (by rw [hf.keep _ _ hi, wipeC_keep hi]; exact he)
      exact ⟨(o.en i _ he).1, h5.2⟩
    | lk f h p =>
      have hi : i ∉ vs := fun h => by rw [hun i h] at he; cases he
      have h5 := o5.en i (.lk f h p) (by rw [hf.keep _ _ hi, wipeC_keep hi]; exact he)
      obtain ⟨⟨v, h1, h2⟩, z, _⟩ := o.en i _ he
      exact ⟨⟨v, h1, p.mono s h2⟩, z, h5.2.2⟩
  ap := o.ap
  ln := o.ln
theorem rte_lc {wi : TI} {g : TG} {mi : Mo (List β)} {ρi : β → Pr} {vs : List Nat} {mc : β → Mo Bool} {mf : β → Mo γ} {ρ : γ → Pr} (tg : β → Ctx → Ctx) (hi : RI X W Γ wi mi ρi) (hg : ∀ x, RG X.K g (ρi x) (tg x) vs) (hgo : ∀ x, RGo (tg x) vs) (hun : ∀ v ∈ vs, Γ[v]? = some .un)
    (ht : ∀ x, RTi X scope (tg x (wipeC Γ vs)) ifs (mc x)) (he : ∀ x, REi X scope (tg x (wipeC Γ vs)) elt (mf x) (.fz ρ)) : RTE X W Γ (tLc wi g (tPi X scope ifs) (tEi X scope elt) vs) (mi >>= Mo.lc mc mf) (.ow (oL ρ)) := fun G σ F H Q o q => by
  refine hi G σ F H _ o (mi.mono (fun xs hx J F1 H1 o1 g1 src D hD => ?_) (fun _ z => z) q)
  obtain ⟨hz, hx⟩ := hx
  have hD0 : H D = none := by
    cases e : H D with
    | none => rfl
    | some y => obtain ⟨y', e'⟩ := g1.th _ _ e; rw [hD] at e'; cases e'
  have hG0 : G.H0 D = none := by
    cases e : G.H0 D with
    | none => rfl
    | some y => obtain ⟨y', e'⟩ := o.go.th _ _ e; rw [hD0] at e'; cases e'
  have hDo : D ∉ owns Γ := fun h => by
    obtain ⟨y, hy⟩ := o.ownH h
    rw [hD0] at hy; cases hy
  have hF1 : F1 D = none := o1.le.free hD
  let St : Nat → Hp → Prop := fun i H' => ∃ F' ys us, Ok G Γ σ F' H' ∧ Go (owns Γ) F H F' H' ∧ Same F1 F' ∧ F' D = none ∧ H' D = some (.lst us) ∧ Ps F' (ys.map ρ) us ∧ ys.length ≤ i ∧ (Mo.comp mc mf (xs.drop i)).run (fun zs => NQ G Γ σ F H (.ow (oL ρ)) Q (ys ++ zs)) (fun _ => False)
  obtain ⟨oD, gD⟩ := o1.newO (u := .lst []) hD
  refine ⟨fun i k H' => k = xs.length - i ∧ i ≤ xs.length ∧ St i H', ⟨_, rfl, Nat.zero_le _, F1, [], [], oD, g1.trans gD owns_tr, Same.refl _, hF1, upd_same, trivial, Nat.le_refl _, hx⟩, ?_⟩
  rintro i k H' ⟨rfl, hik, F', ys, us, o', g', s1, hF', hH', hps, hle, r⟩
  obtain ⟨w1, w2, w3⟩ := src F' H' s1 o'.le
  by_cases hlt : i < xs.length
  · refine .inr ⟨w1 i hlt, fun H'' => i + 1 ≤ xs.length ∧ St (i + 1) H'', fun H'' h => ⟨_, by omega, rfl, h.1, h.2⟩, fun v H2 y => ?_⟩
    rw [List.drop_eq_getElem_cons hlt] at r
    obtain ⟨F2, g2, hv⟩ := w3 i xs[i] v H2 (List.getElem?_eq_getElem hlt) y
    have o2 : Ok G Γ σ F2 H2 := o'.move g2 (fun _ h => by simp at h)
    have g2' : Go (owns Γ) F' H' F2 H2 := g2.mono (fun _ h => by simp at h)
    refine hg xs[i] G _ _ F2 H2 _ v (o2.wipe vs) hv fun σ3 o3 hw => ⟨by rw [hw]; exact wipe_wipe σ vs, ?_⟩
    have sub : ∀ a ∈ owns (tg xs[i] (wipeC Γ vs)), a ∈ owns Γ := fun a h => owns_wipe ((hgo _).sub _ _ h)
    refine ht xs[i] G σ3 F2 H2 _ o3 ((mc xs[i]).mono (fun b hb F3 H3 o4 g3 => ?_) (fun _ z => z) r)
    have g2D : H2 D = some (.lst us) := g2.hs _ _ (by simp) hH'
    have f2D : F2 D = none := g2.fr _ _ hH' hF'
    have back : ∀ {F5 H5 : Hp}, Go (owns (tg xs[i] (wipeC Γ vs))) F2 H2 F5 H5 → Ok G (tg xs[i] (wipeC Γ vs)) σ3 F5 H5 → Ok G Γ σ F5 H5 ∧ Go (owns Γ) F H F5 H5 ∧ Same F1 F5 ∧ F5 D = none ∧ H5 D = some (.lst us) ∧ Same F' F5 := fun {F5 H5} g5 o5 => by
      have s5 : Same F' F5 := g2.fs.trans g5.fs
      refine ⟨o'.back (hgo _) hun s5 o5, (g'.trans g2' owns_tr).trans g5 (fun a h => .inl (sub a h)), s1.trans s5, g5.fr _ _ g2D f2D, g5.hs _ _ (fun h => hDo (sub _ h)) g2D, s5⟩
    cases b with
    | false =>
      obtain ⟨b1, b2, b3, b4, b5, b6⟩ := back g3 o4
      exact iteF ⟨hlt, F3, ys, us, b1, b2, b3, b4, b5, hps.mono b6, by omega, hb⟩
    | true =>
      refine iteT fun s H0 C cl fp => ?_
      have hb : (mf xs[i] >>= fun y => Mo.comp mc mf (xs.drop (i + 1)) >>= fun ys => pure (y :: ys)).run (fun zs => NQ G Γ σ F H (.ow (oL ρ)) Q (ys ++ zs)) (fun _ => False) := hb
      refine he xs[i] s H0 C cl fp G σ3 F3 H3 _ o4 ((mf xs[i]).mono (fun y hy w F4 H4 o5 g5 z => ?_) (fun _ z => z.elim) hb)
      obtain ⟨b1, b2, b3, b4, b5, b6⟩ := back (g3.trans g5 owns_tr) o5
      have hul : us.length < xs.length := by rw [hps.len, List.length_map]; omega
      refine ⟨us, b5, by omega, hlt, F4, ys ++ [y], us ++ [w], b1.move (Go.put b1.le b4 b5) (fun a h => ?_), b2.trans (Go.put b1.le b4 b5) (fun a h => ?_), b3, b4, upd_same, ?_, by simp; omega, ?_⟩
      · rw [List.mem_singleton.mp h]
        exact .inr ⟨.inr hG0, hDo⟩
      · rw [List.mem_singleton.mp h]
        exact .inr hD0
      · rw [List.map_append]
        exact (hps.mono b6).app ⟨z, trivial⟩
      · refine Mo.mono _ (fun zs h => ?_) (fun _ z => z) hy
        rw [List.append_assoc]
        exact h
  · have e : i = xs.length := by omega
    subst e
    refine .inl ⟨w2, ?_⟩
    rw [List.drop_length] at r
    have r : NQ G Γ σ F H (.ow (oL ρ)) Q (ys ++ []) := r
    rw [List.append_nil] at r
    exact r _ F' H' o' g' ⟨D, _, rfl, hD0, hF', hH', us, rfl, hps⟩
end
end RF
namespace RF
open PySem PySem.Spec PyProof.Rows L2 KO SX

def OwnOk (F H : Hp) (Γ : Ctx) : Prop := ∀ (i : Nat) (l : Bool) (a : Addr) (q : Po), Γ[i]? = some (.ow l a q) → F a = none ∧ ∃ u, H a = some u ∧ q.r u F
def spR {ι β γ : Type} (K : PySem.W.Frag) (mg : Str → Option Value) (pp : ι → β → Ctx) (m : β → Mo γ) (kr : RK γ) : Sp := fun vs H Q E => ∃ (i : ι) (x : β) (F : Hp), Ok ⟨F, H, owns (pp i x)⟩ (pp i x) (vs.map some) F H ∧
  (m x).run (fun y => ∀ v F' H', Go (owns (pp i x)) F H F' H' → OwnOk F' H' (pp i x) → kr.ok y v H F' H' → Q v H') (fun ex => ∀ cls d F' H', Go (owns (pp i x)) F H F' H' → OwnOk F' H' (pp i x) → ErrOk K mg ex cls d F' → E cls d H')
section
variable {α β γ δ : Type} {X : Cx} {W : WX} {Γe Γ Γ' : Ctx} {lv : Bool} {e : Expr} {es : List Expr}
theorem ap_of {Γ : Ctx} (h : (owns Γ).Nodup) : ∀ (i j : Nat) (l m : Bool) (a : Addr) (p q : Po), Γ[i]? = some (.ow l a p) → Γ[j]? = some (.ow m a q) → i = j := by
  intro i j l m a p q h1 h2
  induction Γ generalizing i j with
  | nil => simp at h1
  | cons en Γ ih =>
    have tail : (owns Γ).Nodup := by
      unfold owns at h
      rw [List.filterMap_cons] at h
      cases e : en.own? with
      | none => rw [e] at h; exact h
      | some b => rw [e] at h; exact (List.nodup_cons.mp h).2
    have head : ∀ {k : Nat} {l : Bool} {q : Po} {l' : Bool} {q' : Po}, en = .ow l a q → Γ[k]? = some (.ow l' a q') → False := fun {k l q l' q'} e1 e2 => by
      subst e1
      unfold owns at h
      rw [List.filterMap_cons] at h
      exact (List.nodup_cons.mp h).1 (mem_owns e2)
    cases i with
    | zero =>
      cases j with
      | zero => rfl
      | succ j => exact (head (by simpa using h1) (by simpa using h2)).elim
    | succ i =>
      cases j with
      | zero => exact (head (by simpa using h2) (by simpa using h1)).elim
      | succ j => rw [ih tail i j (by simpa using h1) (by simpa using h2)]
theorem Ok.ofArgs {F H : Hp} {p : Ctx} {vs : List V} (s : Same F H) (h : ArgOk Γ F H p vs) (hap : (owns p).Nodup) (hl : ∀ (i : Nat) (l : Bool) (a : Addr) (q : Po), p[i]? = some (.ow l a q) → l = false) : Ok ⟨F, H, owns p⟩ p (vs.map some) F H where
  go := Go.refl s
  en := fun i en he => by
    have hi : i < vs.length := by rw [h.1]; exact (List.getElem?_eq_some_iff.mp he).1
    have hv := List.getElem?_eq_getElem hi
    have z := h.2.1 i en _ he hv
    have e : (vs.map some)[i]? = some (some vs[i]) := by rw [List.getElem?_map, hv]; rfl
    rw [e]
    cases en with
    | un => trivial
    | fz p => exact ⟨_, rfl, z⟩
    | ow l a q =>
      obtain ⟨z1, z2, z3⟩ := z
      refine ⟨by rw [z1], z2, ?_, z3⟩
      rw [hl i l a q he]
      exact mem_owns he
    | lk f h p => exact z.elim
  ap := ap_of hap
  ln := by rw [List.length_map, h.1]
theorem Ok.afterCall {G : Gf} {σ : L2.St} {F H F' H' : Hp} {p : Ctx} {vs : List V} (o : Ok G Γ σ F H) (h : ArgOk Γ F H p vs) (g : Go (owns p) F H F' H') (w : OwnOk F' H' p) : Ok G Γ σ F' H' ∧ Go (owns Γ) F H F' H' := by
  have sub : ∀ a ∈ owns p, a ∈ owns Γ := fun a ha => by
    obtain ⟨j, l, q, e⟩ := of_owns ha
    obtain ⟨i, l', e'⟩ := h.2.2 j l a q e
    exact mem_owns e'
  have g2 : Go (owns Γ) F H F' H' := g.mono fun a ha => .inl (sub a ha)
  refine ⟨⟨o.go.trans g2 fun a ha => ?_, fun i en he => ?_, o.ap, o.ln⟩, g2⟩
  · rcases o.own ha with h | h
    · exact .inl h
    · exact .inr h
  · have z := o.en i en he
    cases en with
    | un => trivial
    | fz r =>
      obtain ⟨v, z1, z2⟩ := z
      exact ⟨v, z1, r.mono g.fs z2⟩
    | ow l a q =>
      obtain ⟨z1, z2, z3, u, z4, z5⟩ := z
      by_cases hm : a ∈ owns p
      · obtain ⟨j, l2, q2, e⟩ := of_owns hm
        obtain ⟨i2, l3, e2⟩ := h.2.2 j l2 a q2 e
        have hii := o.ap i i2 l l3 a q q2 he e2
        subst hii
        rw [he] at e2
        cases e2
        obtain ⟨w1, w2⟩ := w j l2 a q e
        exact ⟨z1, w1, z3, w2⟩
      · exact ⟨z1, g.fr _ _ z4 z2, z3, u, g.hs _ _ hm z4, q.mono g.fs z5⟩
    | lk f h r =>
      obtain ⟨⟨v, z1, z2⟩, z3, z4⟩ := z
      exact ⟨⟨v, z1, r.mono g.fs z2⟩, z3, fun b e => z4 b (none_th g.th e)⟩
def oneOwn : Ctx → Bool
  | [] => true
  | .ow false _ _ :: l => l.all fun e => e.own?.isNone
  | l => l.all fun e => e.own?.isNone
theorem noOwn {l : Ctx} (h : (l.all fun e => e.own?.isNone) = true) : owns l = [] := by
  unfold owns
  rw [List.filterMap_eq_nil_iff]
  intro e he
  have := List.all_eq_true.mp h e he
  simpa using this
theorem one_ap {l : Ctx} (h : oneOwn l = true) : (owns l).Nodup ∧ ∀ (i : Nat) (b : Bool) (a : Addr) (q : Po), l[i]? = some (.ow b a q) → b = false := by
  have key : ∀ {l : Ctx} {i : Nat} {b : Bool} {a : Addr} {q : Po}, (l.all fun e => e.own?.isNone) = true → l[i]? = some (.ow b a q) → False := fun {l i b a q} h e => by
    have := List.all_eq_true.mp h _ (List.mem_of_getElem? e)
    simp [En.own?] at this
  cases l with
  | nil => exact ⟨by simp [owns], fun i b a q e => by simp at e⟩
  | cons en l =>
    cases en with
    | un => exact ⟨by rw [noOwn (show ((En.un :: l).all fun e => e.own?.isNone) = true from h)]; exact List.nodup_nil, fun i b a q e => (key h e).elim⟩
    | fz p => exact ⟨by rw [noOwn (show ((En.fz p :: l).all fun e => e.own?.isNone) = true from h)]; exact List.nodup_nil, fun i b a q e => (key h e).elim⟩
    | lk f hh p => exact ⟨by rw [noOwn (show ((En.lk f hh p :: l).all fun e => e.own?.isNone) = true from h)]; exact List.nodup_nil, fun i b a q e => (key h e).elim⟩
    | ow b a q =>
      cases b with
      | true => exact (key (show ((En.ow true a q :: l).all fun e => e.own?.isNone) = true from h) (i := 0) rfl).elim
      | false =>
        have h : (l.all fun e => e.own?.isNone) = true := h
        refine ⟨?_, fun i b a' q' e => ?_⟩
        · have : owns (En.ow false a q :: l) = a :: owns l := rfl
          rw [this, noOwn h]
          simp
        · cases i with
          | zero => simp at e; exact e.1
          | succ i => exact (key h (i := i) (by simpa using e)).elim
section
variable {k : Nat} {f C : Addr} {fd : FuncData} {ps : List Str} {ι : Type} {pp : ι → β → Ctx} {m : β → Mo γ} {kr : RK γ} {ma : Mo β} {x : Str} {p pos : Pos}
theorem run_spR {G : Gf} {σ : L2.St} {F H : Hp} {vs : List V} {Q : VK} {i : ι} {y : β} (o : Ok G Γ σ F H) (h : ArgOk Γ F H (pp i y) vs) (hap : oneOwn (pp i y) = true) (q : (m y).run (NQ G Γ σ F H kr Q) (EQ X W G Γ σ F H)) : spR X.K X.mg pp m kr vs H Q (WE W σ) := by
  obtain ⟨h1, h2⟩ := one_ap hap
  refine ⟨i, y, F, Ok.ofArgs o.le h h1 h2, (m y).mono (fun z hz v F' H' g w r => ?_) (fun ex hex cls d F' H' g w r => ?_) q⟩
  · obtain ⟨o2, g2⟩ := o.afterCall h g w
    exact hz v F' H' o2 g2 r
  · obtain ⟨o2, g2⟩ := o.afterCall h g w
    exact hex cls d F' H' o2 g2 r
theorem own_none {l : Ctx} {i : Nat} {b : Bool} {a : Addr} {q : Po} (h : (l.all fun e => e.own?.isNone) = true) (e : l[i]? = some (.ow b a q)) : False := by
  have := List.all_eq_true.mp h _ (List.mem_of_getElem? e)
  simp [En.own?] at this
theorem own_first {a : Addr} {q : Po} {tail us : Ctx} (h : (tail.all fun e => e.own?.isNone) = true) (i : Nat) (l : Bool) (b : Addr) (p : Po) (e : (En.ow false a q :: tail)[i]? = some (.ow l b p)) : (En.ow false a q :: us)[i]? = some (.ow l b p) := by
  cases i with
  | zero => exact e
  | succ i => exact (own_none h (i := i) (by simpa using e)).elim
theorem re_call {pa : β → Ctx} (i : ι) (Fn : FnOk X.prog X.w X.K X.mg X.base (L2.CX X.prog X.w) k f fd ps (spR X.K X.mg pp m kr)) (hr : Room k X.A) (tk : Takes X W) (ha : RA X W Γ (e :: es) ma pa) (hm : X.mg x = some (.ref f)) (hk : PySem.W.keepIn X.K (.ref f) = true) (hb : Binds X.K fd ps [])
    (hpp : ∀ y, pa y = pp i y := by intro _; rfl) (hap : ∀ y, oneOwn (pp i y) = true := by intro _; rfl) (hg : Gl X x := by rfl) (hdb : (x == ("__debug__" : Str)) = false := by decide) (he : starEach (e :: es) X.env = (false, eval e X.env) :: starEach es X.env := by rfl) (hpl : (backTo pos (starEach es X.env)).any (·.1) = false := by rfl) :
    RE X W Γ (.Call (.Name x p) (e :: es) [] pos) (ma >>= m) kr := by
  refine re_of (pe_callS Fn hr hg hm hk hb (fun σ => passAt tk σ) paA hdb he hpl) fun G σ F H Q o q => ?_
  refine ha G σ F H _ o (ma.mono (fun y hy vs F' H' o' g' z => ?_) (fun _ z => z) q)
  rw [hpp y] at z
  exact run_spR o' z (hap y) (run_step g' hy)
end
theorem fn_mk {P : Program} {w : World} {K : PySem.W.Frag} {mg : Str → Option Value} {base : Heap} {x qual : Str} {st : Stmt} {f : Addr} {fd : FuncData} {N ps : List Str} {k : Nat} {ι : Type} {pp : ι → β → Ctx} {m : β → Mo γ} {kr : RK γ} {Γe Γ0 : ι → β → Ctx} {Z : ι → β → γ → Fin}
    (F : Fun K x qual st f fd) (S : FnScope N ps (defScope st)) (hlen : ∀ c y, (pp c y).length = ps.length) (hΓ : ∀ c y, Γ0 c y = pp c y ++ List.replicate (N.length - ps.length) .un) (hle : ∀ c y, Le (Γe c y) (Γ0 c y))
    (hown : ∀ c y (i : Nat) (l : Bool) (a : Addr) (q : Po), (pp c y)[i]? = some (.ow l a q) → (Γe c y)[i]? = some (.ow l a q)) (hz : ∀ c y z, Z c y z = .ret (kr.ok z) ∨ (Z c y z = .nx (Γe c y) ∧ ∀ H F' H', kr.ok z .non H F' H'))
    (hbody : ∀ (cdv : Value) (A : Around) (outer : List Env) (s : Shared) (H : Hp) (E : XK) (c : ι) (y : β), Room k (A.deeper (envOfC qual (defScope st) s.heap.objs.size f cdv)) →
      RB (cxOf (L2.CX P w) P w K mg base N qual (defScope st) f cdv A outer s H E) (fun cls d _ H => E cls d H) (Γe c y) false (Γ0 c y) (defBody st) (m y) (Z c y)) :
    FnOk P w K mg base (L2.CX P w) (k + 1) f fd ps (spR K mg pp m kr) := by
  have ln : ∀ {vs : List V} {c : ι} {y : β} {F0 H : Hp}, Ok ⟨F0, H, owns (pp c y)⟩ (pp c y) (vs.map some) F0 H → vs.length = ps.length := fun {vs c y F0 H} o => by
    have := o.ln
    rw [List.length_map, hlen] at this
    exact this
  refine F.okX S (fun vs H Q E ⟨c, y, F0, o, _⟩ => ln o) fun cdv A outer s H vs Q E hr ⟨c, y, F0, o, q⟩ => ?_
  refine ⟨_, pssS, ?_⟩
  have hl := ln o
  have o0 : Ok ⟨F0, H, owns (pp c y)⟩ (Γ0 c y) (L2.start N vs) F0 H := by
    rw [hΓ c y]
    refine ⟨o.go, fun i en he => ?_, fun i j l l' a p q h1 h2 => ?_, by unfold L2.start; simp [hl, hlen c y]⟩
    · by_cases hi : i < (pp c y).length
      · rw [List.getElem?_append_left hi] at he
        have z := o.en i en he
        have e : (L2.start N vs)[i]? = (vs.map some)[i]? := by
          unfold L2.start
          rw [List.getElem?_append_left (by rw [List.length_map, hl, ← hlen c y]; exact hi)]
        rw [e]
        exact z
      · rw [List.getElem?_append_right (by omega), List.getElem?_replicate] at he
        split at he
        · cases he; trivial
        · cases he
    · have key : ∀ {i : Nat} {l : Bool} {p : Po}, (pp c y ++ List.replicate (N.length - ps.length) En.un)[i]? = some (.ow l a p) → (pp c y)[i]? = some (.ow l a p) := fun {i l p} h => by
        by_cases hi : i < (pp c y).length
        · rw [List.getElem?_append_left hi] at h; exact h
        · rw [List.getElem?_append_right (by omega), List.getElem?_replicate] at h
          split at h
          · cases h
          · cases h
      exact o.ap i j l l' a p q (key h1) (key h2)
  have own : ∀ {σ : L2.St} {F' H' : Hp}, Ok ⟨F0, H, owns (pp c y)⟩ (Γe c y) σ F' H' → OwnOk F' H' (pp c y) := fun {σ F' H'} o i l a q h => by
    obtain ⟨_, h2, _, u, h4, h5⟩ := o.en i _ (hown c y i l a q h)
    exact ⟨h2, u, h4, h5⟩
  refine hbody cdv A outer s H E c y hr (hle c y) ⟨F0, H, owns (pp c y)⟩ (L2.start N vs) F0 H { nx := fun _ H' => Q .non H', rt := Q } _ (fun _ => rfl) o0 ((m y).mono (fun z hzq => ?_) (fun ex hex cls d σ F' H' _ o' r => ?_) q)
  · rcases hz c y z with h | ⟨h, h2⟩
    · rw [h]
      exact fun v σ F' H' _ o' r => hzq v F' H' o'.go (own o') r
    · rw [h]
      exact fun σ F' H' _ o' => hzq .non F' H' o'.go (own o') (h2 _ _ _)
  · exact hex cls d F' H' o'.go (own o') r
end
end RF
namespace RF
open PySem PySem.Spec PyProof.Rows L2 KO SX

def Fs (F : Hp) : List (Str × Pr) → List (Str × V) → Prop
  | [], [] => True
  | (n, p) :: fs, (n', v) :: gs => n = n' ∧ p.r v F ∧ Fs F fs gs
  | _, _ => False
section
variable {F F' : Hp}
theorem Fs.mono (s : Same F F') : ∀ {fs : List (Str × Pr)} {gs : List (Str × V)}, Fs F fs gs → Fs F' fs gs
  | [], [], _ => trivial
  | (_, p) :: _, (_, _) :: _, h => ⟨h.1, p.mono s h.2.1, Fs.mono s h.2.2⟩
  | [], _ :: _, h => h.elim
  | _ :: _, [], h => h.elim
theorem Fs.len : ∀ {fs : List (Str × Pr)} {gs : List (Str × V)}, Fs F fs gs → gs.length = fs.length
  | [], [], _ => rfl
  | (_, _) :: _, (_, _) :: _, h => by simp [Fs.len h.2.2]
  | [], _ :: _, h => h.elim
  | _ :: _, [], h => h.elim
theorem Fs.look {f : Str} {p : Pr} : ∀ {fs : List (Str × Pr)} {gs : List (Str × V)}, Fs F fs gs → fs.lookup f = some p → ∃ v, gs.lookup f = some v ∧ p.r v F
  | [], [], _, e => by cases e
  | (n, q) :: fs, (n', v) :: gs, h, e => by
    obtain ⟨rfl, h1, h2⟩ := h
    rw [List.lookup_cons] at e ⊢
    cases c : (f == n) with
    | true => rw [c] at e; cases e; exact ⟨v, rfl, h1⟩
    | false => rw [c] at e; exact Fs.look h2 e
  | [], _ :: _, h, _ => h.elim
  | _ :: _, [], h, _ => h.elim
theorem Fs.lookN {f : Str} : ∀ {fs : List (Str × Pr)} {gs : List (Str × V)}, Fs F fs gs → fs.lookup f = none → gs.lookup f = none
  | [], [], _, _ => rfl
  | (n, q) :: fs, (n', v) :: gs, h, e => by
    obtain ⟨rfl, h1, h2⟩ := h
    rw [List.lookup_cons] at e ⊢
    cases c : (f == n) with
    | true => rw [c] at e; cases e
    | false => rw [c] at e; exact Fs.lookN h2 e
  | [], _ :: _, h, _ => h.elim
  | _ :: _, [], h, _ => h.elim
def putP (f : Str) (p : Pr) : List (Str × Pr) → List (Str × Pr)
  | [] => [(f, p)]
  | (n, q) :: fs => if n = f then (f, p) :: fs else (n, q) :: putP f p fs
end
def oIn (C : Addr) (fs : List (Str × Pr)) : Po := ⟨fun o F => ∃ dx gs, o = .ins C dx gs ∧ Fs F fs gs, fun s ⟨dx, gs, e, h⟩ => ⟨dx, gs, e, h.mono s⟩⟩
def rIn (C : Addr) (fs : List (Str × Pr)) : Pr := ⟨fun v F => ∃ a dx gs, v = .ref a ∧ F a = some (.ins C dx gs) ∧ Fs F fs gs, fun s ⟨a, dx, gs, e, h, k⟩ => ⟨a, dx, gs, e, s _ _ h, k.mono s⟩⟩
theorem frz_In {C : Addr} {fs : List (Str × Pr)} (a : Addr) (u : HO) (F : Hp) (h : F a = some u) (k : (oIn C fs).r u F) : (rIn C fs).r (.ref a) F := by
  obtain ⟨dx, gs, rfl, k⟩ := k
  exact ⟨a, dx, gs, rfl, h, k⟩
section
variable {F : Hp}
theorem Fs.put {f : Str} {p : Pr} {v : V} (hv : p.r v F) : ∀ {fs : List (Str × Pr)} {gs : List (Str × V)}, Fs F fs gs → Fs F (putP f p fs) (putF f v gs)
  | [], [], _ => ⟨rfl, hv, trivial⟩
  | (n, q) :: fs, (n', u) :: gs, h => by
    obtain ⟨rfl, h1, h2⟩ := h
    unfold putP putF
    by_cases e : n = f
    · subst e
      simp [Fs, hv, h2]
    · simp [e, Fs, h1, Fs.put hv h2]
  | [], _ :: _, h => h.elim
  | _ :: _, [], h => h.elim
end
section
variable {α β γ δ : Type} {X : Cx} {W : WX} {Γe Γ Γ' : Ctx} {lv : Bool} {e o : Expr} {es : List Expr} {st : Stmt} {rest : List Stmt} {Z : γ → Fin} {pos : Pos}
theorem re_fld {C : Addr} {f : Str} {me : Mo α} {ρ : α → Pr} {ρ' : β → Pr} {g : α → β} (fs : α → List (Str × Pr)) (he : RE X W Γ e me (.fz ρ)) (c : Cls X.K C) (n : NoAttr X.K C f) (hρ : ∀ x, ρ x = rIn C (fs x) := by intro _; rfl) (hf : ∀ x, (fs x).lookup f = some (ρ' (g x)) := by intro _; rfl) (hb : attributeBase e f X.env (eval e X.env) = eval e X.env := by rfl) :
    RE X W Γ (.Attribute e f pos) (me >>= fun x => pure (g x)) (.fz ρ') := by
  refine re_of (pe_fld peE hb) fun G σ F H Q o q => ?_
  refine he G σ F H _ o (me.mono (fun x hx v F' H' o' g' z => ?_) (fun _ z => z) q)
  have z : (ρ x).r v F' := z
  rw [hρ x] at z
  obtain ⟨a, dx, gs, rfl, h1, h2⟩ := z
  obtain ⟨u, h3, h4⟩ := h2.look (hf x)
  exact ⟨a, C, dx, gs, u, rfl, o'.le _ _ h1, c, n, h3, hx u F' H' o' g' h4⟩
theorem rb_setfld {C a : Addr} {i : Nat} {l : Bool} {f : Str} {fs : List (Str × Pr)} {me : Mo α} {ρ : α → Pr} {mr : α → Mo γ} (hs : PS X st (sFld X.K (tVar i) (tE X e) f)) (hi : Γ[i]? = some (.ow l a (oIn C fs))) (he : RE X W Γ e me (.fz ρ)) (c : Cls X.K C) (n : NoAttr X.K C f) (hlen : fs.length < 1000) (hie : Γe[i]? = some .un)
    (hr : ∀ x, RB X W Γe lv (Γ.set i (.ow l a (oIn C (putP f (ρ x) fs)))) rest (mr x) Z) : RB X W Γe lv Γ (st :: rest) (me >>= mr) Z := fun le G σ F H D nx' hn o q =>
  tSs_cons hs (he G σ F H _ o (me.mono (fun x hx v F' H' o' g' z => by
    obtain ⟨h1, _, _, u, hu, dx, gs, rfl, hg⟩ := o'.en i _ hi
    refine ⟨.ref a, h1, a, C, dx, gs, rfl, hu, c, n, by rw [hg.len]; exact hlen, ?_⟩
    exact hr x (le.set hie) G σ F' _ D nx' hn (o'.put (q := oIn C (putP f (ρ x) fs)) hi ⟨dx, _, rfl, hg.put z⟩) (run_fin g'.fs hx)) (fun _ => XQ.eq le) q))
section
variable {k : Nat} {f C : Addr} {fd : FuncData} {ps : List Str} {pp : β → Ctx} {m : α × β → Mo γ} {kr : RK γ} {ma : Mo β} {n : Str} {apos : Pos} {pl : Sem Bool} {mo : Mo α} {ρo : α → Pr}
theorem ra_both {F H : Hp} {p : Ctx} {vs : List V} {v : V} {q : Pr} (h : ArgOk Γ F H p vs) (hv : q.r v F) : ArgOk Γ F H (.fz q :: p) (v :: vs) := ⟨by simp [h.1], fun i en u h1 h2 => by
    cases i with
    | zero =>
      simp at h1 h2
      subst h1 h2
      exact hv
    | succ i => exact h.2.1 i en u (by simpa using h1) (by simpa using h2), fun j l a q h1 => by
    cases j with
    | zero => simp at h1
    | succ j => exact h.2.2 j l a q (by simpa using h1)⟩
theorem re_meth {pa : β → Ctx} (fs : α → List (Str × Pr)) (ho : RE X W Γ o mo (.fz ρo)) (c : Cls X.K C) (hm : Meth X.K C n f) (Fn : FnOk X.prog X.w X.K X.mg X.base (L2.CX X.prog X.w) k f fd ps (spR X.K X.mg (fun (_ : Unit) z => .fz (ρo z.1) :: pp z.2) m kr)) (hr : Room k X.A) (tk : Takes X W) (ha : RA X W Γ (e :: es) ma pa) (hb : Binds X.K fd ps [])
    (hρ : ∀ x, ρo x = rIn C (fs x) := by intro _; rfl) (hn : ∀ x, (fs x).lookup n = none := by intro _; rfl) (hpp : ∀ y, pa y = pp y := by intro _; rfl) (hap : ∀ x y, oneOwn (.fz (ρo x) :: pp y) = true := by intro _ _; rfl) (hst : starEach (e :: es) X.env = (false, eval e X.env) :: starEach es X.env := by rfl) (hpl : (backTo pos (starEach es X.env)).any (·.1) = false := by rfl)
    (ht : eval (.Call (.Attribute o n apos) (e :: es) [] pos) X.env = (do
      let ov ← eval o X.env
      standAt apos.atName
      let (f, first) ← holding [ov] (getMethod ov n pl)
      callWith pos f first (backTo pos (starEach (e :: es) X.env)) (backToKw pos (keywordEach [] X.env))) := by rfl) :
    RE X W Γ (.Call (.Attribute o n apos) (e :: es) [] pos) (mo >>= fun x => ma >>= fun y => m (x, y)) kr := by
  refine re_of (pe_methX peE c hm Fn hr hb (fun σ => passAt tk σ) paA hst hpl ht) fun G σ F H Q o q => ?_
  refine ho G σ F H _ o (mo.mono (fun x hx v F1 H1 o1 g1 z => ?_) (fun _ z => z) q)
  have z' : (ρo x).r v F1 := z
  have z2 := z'
  rw [hρ x] at z2
  obtain ⟨a, dx, gs, rfl, h1, h2⟩ := z2
  refine ⟨a, dx, gs, rfl, o1.le _ _ h1, h2.lookN (hn x), ?_⟩
  refine ha G σ F1 H1 _ o1 (ma.mono (fun y hy vs F' H' o' g' z => ?_) (fun _ => EQ.step g1) hx)
  rw [hpp y] at z
  exact run_spR (pp := fun (_ : Unit) z => .fz (ρo z.1) :: pp z.2) (i := ()) (y := (x, y)) o' (ra_both z ((ρo x).mono g'.fs z')) (hap x y) (run_step (g1.trans g' owns_tr) hy)
end
def spI {β γ : Type} (K : PySem.W.Frag) (mg : Str → Option Value) (C : Addr) (pp : β → Ctx) (m : β → Mo γ) (fo : γ → List (Str × Pr)) : Sp := fun vs H Q E => ∃ (x : β) (F : Hp) (a : Addr) (ws : List V), vs = .ref a :: ws ∧ Ok ⟨F, H, [a]⟩ (.ow false a (oIn C []) :: pp x) (vs.map some) F H ∧
  (m x).run (fun y => ∀ F' H', Go [a] F H F' H' → F' a = none → (∃ u, H' a = some u ∧ (oIn C (fo y)).r u F') → Q .non H') (fun ex => ∀ cls d F' H', Go [a] F H F' H' → ErrOk K mg ex cls d F' → E cls d H')
section
variable {k : Nat} {f C : Addr} {fd : FuncData} {ps : List Str} {pp : β → Ctx} {m : β → Mo γ} {fo : γ → List (Str × Pr)} {ma : Mo β} {x : Str} {p : Pos}
theorem re_make {pa : β → Ctx} (M : Mk X.K C f) (Fn : FnOk X.prog X.w X.K X.mg X.base (L2.CX X.prog X.w) k f fd ps (spI X.K X.mg C pp m fo)) (hr : Room (k + 1) X.A) (tk : Takes X W) (ha : RA X W Γ (e :: es) ma pa) (hm : X.mg x = some (.ref C)) (hb : Binds X.K fd ps [])
    (hpp : ∀ y, pa y = pp y := by intro _; rfl) (hno : ∀ y, ((pp y).all fun e => e.own?.isNone) = true := by intro _; rfl) (hg : Gl X x := by rfl) (hdb : (x == ("__debug__" : Str)) = false := by decide) (he : starEach (e :: es) X.env = (false, eval e X.env) :: starEach es X.env := by rfl) (hpl : (backTo pos (starEach es X.env)).any (·.1) = false := by rfl) :
    RE X W Γ (.Call (.Name x p) (e :: es) [] pos) (ma >>= m) (.ow fun y => oIn C (fo y)) := by
  refine re_of (pe_makeX M Fn hr hg hm hb (fun σ => passAt tk σ) paA hdb he hpl) fun G σ F H Q o q => ?_
  refine ha G σ F H _ o (ma.mono (fun y hy vs F1 H1 o1 g1 z x dx hx hdx ne => ?_) (fun _ z => z) q)
  rw [hpp y] at z
  have gA : Go [x] F1 H1 F1 (upd H1 dx (.own x)) := Go.newO o1.le hdx
  have hx2 : (upd H1 dx (.own x)) x = none := by rw [upd_ne (Ne.symm ne)]; exact hx
  have gB : Go [x] F1 (upd H1 dx (.own x)) F1 (upd (upd H1 dx (.own x)) x (.ins C dx [])) := Go.newO gA.le hx2
  have gC := gA.trans gB (fun a h => .inl h)
  generalize hH2 : upd (upd H1 dx (.own x)) x (.ins C dx []) = H2 at gB gC ⊢
  have hH2x : H2 x = some (.ins C dx []) := by rw [← hH2]; exact upd_same
  have hFx : F1 x = none := o1.le.free hx
  have lift : ∀ {F' H'}, Go [x] F1 H2 F' H' → Ok G Γ σ F' H' ∧ Go (owns Γ) F H F' H' := fun {F' H'} g => by
    have g2 : Go [x] F1 H1 F' H' := gC.trans g (fun a h => .inl h)
    exact ⟨o1.move g2 (fun a h => .inl (by rw [List.mem_singleton.mp h]; exact hx)), g1.trans g2 (fun a h => .inr (by
      rw [List.mem_singleton.mp h]
      cases e : H x with
      | none => rfl
      | some y => obtain ⟨y', e'⟩ := g1.th _ _ e; rw [hx] at e'; cases e'))⟩
  have hHx : H x = none := by
    cases e : H x with
    | none => rfl
    | some y => obtain ⟨y', e'⟩ := g1.th _ _ e; rw [hx] at e'; cases e'
  refine ⟨y, F1, x, vs, rfl, ⟨Go.refl gB.le, fun i en he => ?_, ap_of ?_, by simp [z.1]⟩, (m y).mono (fun w hw F' H' g h1 h2 => ⟨rfl, ?_⟩) (fun ex hex cls d F' H' g r => ?_) hy⟩
  · cases i with
    | zero =>
      simp at he
      subst he
      exact ⟨rfl, hFx, by simp, _, hH2x, dx, [], rfl, trivial⟩
    | succ i =>
      have he : (pp y)[i]? = some en := by simpa using he
      have hi : i < vs.length := by rw [z.1]; exact (List.getElem?_eq_some_iff.mp he).1
      have hv := List.getElem?_eq_getElem hi
      have zz := z.2.1 i en _ he hv
      have ee : ((V.ref x :: vs).map some)[i + 1]? = some (some vs[i]) := by
        rw [List.getElem?_map, List.getElem?_cons_succ, hv]; rfl
      rw [ee]
      cases en with
      | un => trivial
      | fz r => exact ⟨_, rfl, zz⟩
      | ow l b q =>
        have := List.all_eq_true.mp (hno y) _ (List.mem_of_getElem? he)
        simp [En.own?] at this
      | lk f h r => exact zz.elim
  · have : owns (En.ow false x (oIn C []) :: pp y) = x :: owns (pp y) := rfl
    rw [this, noOwn (hno y)]
    simp
  · obtain ⟨o2, g2⟩ := lift g
    obtain ⟨u, hu, hr2⟩ := h2
    exact hw (.ref x) F' H' o2 g2 ⟨x, u, rfl, hHx, h1, hu, hr2⟩
  · obtain ⟨o2, g2⟩ := lift g
    exact hex cls d F' H' o2 g2 r
end
end
section
variable {β γ : Type}
theorem init_mk {P : Program} {w : World} {K : PySem.W.Frag} {mg : Str → Option Value} {base : Heap} {x qual : Str} {st : Stmt} {f C : Addr} {fd : FuncData} {N ps : List Str} {k : Nat} {pp : β → Ctx} {m : β → Mo γ} {fo : γ → List (Str × Pr)} {Γe : Ctx} {Γ0 : Addr → β → Ctx} {Γo : Addr → γ → Ctx}
    (F : Fun K x qual st f fd) (S : FnScope N ps (defScope st)) (hlen : ∀ y, (pp y).length + 1 = ps.length) (hΓ : ∀ a y, Γ0 a y = .ow false a (oIn C []) :: pp y ++ List.replicate (N.length - ps.length) .un) (hle : ∀ a y, Le Γe (Γ0 a y)) (hno : ∀ y, ((pp y).all fun e => e.own?.isNone) = true)
    (hout : ∀ a z, (Γo a z)[0]? = some (.ow false a (oIn C (fo z))))
    (hbody : ∀ (cdv : Value) (A : Around) (outer : List Env) (s : Shared) (H : Hp) (E : XK) (a : Addr) (y : β), Room k (A.deeper (envOfC qual (defScope st) s.heap.objs.size f cdv)) →
      RB (cxOf (L2.CX P w) P w K mg base N qual (defScope st) f cdv A outer s H E) (fun cls d _ H => E cls d H) Γe false (Γ0 a y) (defBody st) (m y) (fun z => .nx (Γo a z))) :
    FnOk P w K mg base (L2.CX P w) (k + 1) f fd ps (spI K mg C pp m fo) := by
  have ln : ∀ {vs : List V} {y : β} {a : Addr} {F0 H : Hp}, Ok ⟨F0, H, [a]⟩ (.ow false a (oIn C []) :: pp y) (vs.map some) F0 H → vs.length = ps.length := fun {vs y a F0 H} o => by
    have := o.ln
    rw [List.length_map, List.length_cons, hlen] at this
    exact this
  refine F.okX S (fun vs H Q E ⟨y, F0, a, ws, _, o, _⟩ => ln o) fun cdv A outer s H vs Q E hr ⟨y, F0, a, ws, _, o, q⟩ => ?_
  refine ⟨_, pssS, ?_⟩
  have hl := ln o
  have key : ∀ {i : Nat} {en : En}, (Γ0 a y)[i]? = some en → en = .un ∨ (En.ow false a (oIn C []) :: pp y)[i]? = some en := fun {i en} h => by
    rw [hΓ a y] at h
    by_cases hi : i < (En.ow false a (oIn C []) :: pp y).length
    · rw [List.getElem?_append_left hi] at h; exact .inr h
    · rw [List.getElem?_append_right (by omega), List.getElem?_replicate] at h
      split at h
      · cases h; exact .inl rfl
      · cases h
  have o0 : Ok ⟨F0, H, [a]⟩ (Γ0 a y) (L2.start N vs) F0 H := by
    refine ⟨o.go, fun i en he => ?_, fun i j l l' b p q h1 h2 => ?_, by rw [hΓ]; unfold L2.start; simp [hl, ← hlen y]; omega⟩
    · rcases key he with h | h
      · subst h; trivial
      · have hi : i < ps.length := by rw [← hlen y]; exact (by simpa using (List.getElem?_eq_some_iff.mp h).1)
        have z := o.en i en h
        have e : (L2.start N vs)[i]? = (vs.map some)[i]? := by
          unfold L2.start
          rw [List.getElem?_append_left (by rw [List.length_map, hl]; exact hi)]
        rw [e]
        exact z
    · rcases key h1 with h | h1
      · cases h
      · rcases key h2 with h | h2
        · cases h
        · exact o.ap i j l l' b p q h1 h2
  refine hbody cdv A outer s H E a y hr (hle a y) ⟨F0, H, [a]⟩ (L2.start N vs) F0 H { nx := fun _ H' => Q .non H', rt := Q } _ (fun _ => rfl) o0 ((m y).mono (fun z hzq σ F' H' _ o' => ?_) (fun ex hex cls d σ F' H' _ o' r => hex cls d F' H' o'.go r) q)
  obtain ⟨_, h2, _, h4⟩ := o'.en 0 _ (hout a z)
  exact hzq F' H' o'.go h2 h4
end
end RF
namespace RF
open PySem PySem.Spec PyProof.Rows L2 KO SX

class Enc {α : Type} (ρ : α → Pr) where
  n : Nat
  d : α → PyData
  ok : α → Prop
  is : ∀ {x : α} {v : V} {F : Hp}, ok x → (ρ x).r v F → Dt n F v (d x)
section
variable {α β γ δ ε : Type}
instance encI : Enc rI := ⟨1, .int, fun _ => True, fun _ h => h⟩
instance encB : Enc rB := ⟨1, .bool, fun _ => True, fun _ h => h⟩
instance encS : Enc rS := ⟨1, .str, fun _ => True, fun _ h => h⟩
instance encN : Enc rN := ⟨1, fun _ => .none, fun _ => True, fun _ h => h⟩
instance encD : Enc rD := ⟨8, id, fun _ => True, fun _ h => h⟩
instance encO {ρ : α → Pr} [s : Enc ρ] : Enc (rO ρ) := ⟨s.n + 1, fun o => match o with | none => .none | some x => s.d x, fun o => match o with | none => True | some x => s.ok x, fun {x v F} k h => by
  cases x with
  | none => exact h
  | some x => exact (s.is k h).up⟩
theorem dt_ps {F : Hp} {n : Nat} : ∀ {ps : List Pr} {ds : List PyData} {vs : List V}, ps.length = ds.length → (∀ (i : Nat) (p : Pr) (d : PyData), ps[i]? = some p → ds[i]? = some d → ∀ v, p.r v F → Dt n F v d) → Ps F ps vs → vs.length = ds.length ∧ ∀ (i : Nat) (x : V) (e : PyData), vs[i]? = some x → ds[i]? = some e → Dt n F x e := fun {ps ds vs} hl h k => by
  refine ⟨by rw [k.len, hl], fun i x e h1 h2 => ?_⟩
  obtain ⟨p, h3, h4⟩ := k.get' h1
  exact h i p e h3 h2 x h4
theorem dt_map {ρ : α → Pr} [s : Enc ρ] {F : Hp} {xs : List α} (hk : ∀ x ∈ xs, s.ok x) (i : Nat) (p : Pr) (d : PyData) (h1 : (xs.map ρ)[i]? = some p) (h2 : (xs.map s.d)[i]? = some d) (v : V) (h : p.r v F) : Dt s.n F v d := by
  rw [List.getElem?_map] at h1 h2
  cases e : xs[i]? with
  | none => rw [e] at h1; cases h1
  | some x =>
    rw [e] at h1 h2
    obtain rfl := Option.some.inj h1
    obtain rfl := Option.some.inj h2
    exact s.is (hk x (List.mem_of_getElem? e)) h
instance encL {ρ : α → Pr} [s : Enc ρ] : Enc (rL ρ) := ⟨s.n + 1, fun xs => .list (xs.map s.d), fun xs => xs.length ≤ 1000 ∧ ∀ x ∈ xs, s.ok x, fun {xs v F} k h => by
  obtain ⟨a, vs, rfl, h1, h2⟩ := h
  obtain ⟨h3, h4⟩ := dt_ps (ds := xs.map s.d) (by simp) (dt_map k.2) h2
  exact ⟨a, vs, rfl, h1, h3, by simpa using k.1, h4⟩⟩
instance encTs {ρ : α → Pr} [s : Enc ρ] : Enc (rTs ρ) := ⟨s.n + 1, fun xs => .tuple (xs.map s.d), fun xs => xs.length ≤ 1000 ∧ ∀ x ∈ xs, s.ok x, fun {xs v F} k h => by
  obtain ⟨a, vs, rfl, h1, h2⟩ := h
  obtain ⟨h3, h4⟩ := dt_ps (ds := xs.map s.d) (by simp) (dt_map k.2) h2
  exact ⟨a, vs, rfl, h1, h3, by simpa using k.1, h4⟩⟩
theorem dt_tu {F : Hp} {n : Nat} {ps : List Pr} {ds : List PyData} {v : V} (hl : ps.length = ds.length) (hz : ds.length ≤ 1000) (h : (rTu ps).r v F) (r : ∀ (i : Nat) (p : Pr) (d : PyData), ps[i]? = some p → ds[i]? = some d → ∀ v, p.r v F → Dt n F v d) : Dt (n + 1) F v (.tuple ds) := by
  obtain ⟨a, vs, rfl, h1, h2⟩ := h
  obtain ⟨h3, h4⟩ := dt_ps hl r h2
  exact ⟨a, vs, rfl, h1, h3, hz, h4⟩
theorem all2 {P : Pr → PyData → Prop} : ∀ {ps : List Pr} {ds : List PyData}, Paired P ps ds → ∀ (i : Nat) (p : Pr) (d : PyData), ps[i]? = some p → ds[i]? = some d → P p d
  | _, _, .nil, _, _, _, h, _ => by simp at h
  | _, _, .cons h t, 0, p, d, h1, h2 => by simp at h1 h2; subst h1 h2; exact h
  | _, _, .cons h t, i + 1, p, d, h1, h2 => all2 t i p d (by simpa using h1) (by simpa using h2)
section
variable {ρ : α → Pr} {σ : β → Pr} {τ : γ → Pr} {υ : δ → Pr} {φ : ε → Pr} [r : Enc ρ] [s : Enc σ] [t : Enc τ] [u : Enc υ] [w : Enc φ]
instance encT1 : Enc (rT1 ρ) := ⟨r.n + 1, fun x => .tuple [r.d x], fun x => r.ok x, fun {x v F} k h =>
  dt_tu rfl (by show 1 ≤ 1000; decide) h (all2 (.cons (fun v h => r.is k h) .nil))⟩
instance encT2 : Enc (rT2 ρ σ) := ⟨max r.n s.n + 1, fun x => .tuple [r.d x.1, s.d x.2], fun x => r.ok x.1 ∧ s.ok x.2, fun {x v F} k h =>
  dt_tu rfl (by show 2 ≤ 1000; decide) h (all2 (.cons (fun v h => (r.is k.1 h).le (by omega)) (.cons (fun v h => (s.is k.2 h).le (by omega)) .nil)))⟩
instance encT3 : Enc (rT3 ρ σ τ) := ⟨max r.n (max s.n t.n) + 1, fun x => .tuple [r.d x.1, s.d x.2.1, t.d x.2.2], fun x => r.ok x.1 ∧ s.ok x.2.1 ∧ t.ok x.2.2, fun {x v F} k h =>
  dt_tu rfl (by show 3 ≤ 1000; decide) h (all2 (.cons (fun v h => (r.is k.1 h).le (by omega)) (.cons (fun v h => (s.is k.2.1 h).le (by omega)) (.cons (fun v h => (t.is k.2.2 h).le (by omega)) .nil))))⟩
instance encT4 : Enc (rT4 ρ σ τ υ) := ⟨max r.n (max s.n (max t.n u.n)) + 1, fun x => .tuple [r.d x.1, s.d x.2.1, t.d x.2.2.1, u.d x.2.2.2], fun x => r.ok x.1 ∧ s.ok x.2.1 ∧ t.ok x.2.2.1 ∧ u.ok x.2.2.2, fun {x v F} k h =>
  dt_tu rfl (by show 4 ≤ 1000; decide) h (all2 (.cons (fun v h => (r.is k.1 h).le (by omega)) (.cons (fun v h => (s.is k.2.1 h).le (by omega)) (.cons (fun v h => (t.is k.2.2.1 h).le (by omega)) (.cons (fun v h => (u.is k.2.2.2 h).le (by omega)) .nil)))))⟩
instance encT5 : Enc (rT5 ρ σ τ υ φ) := ⟨max r.n (max s.n (max t.n (max u.n w.n))) + 1, fun x => .tuple [r.d x.1, s.d x.2.1, t.d x.2.2.1, u.d x.2.2.2.1, w.d x.2.2.2.2], fun x => r.ok x.1 ∧ s.ok x.2.1 ∧ t.ok x.2.2.1 ∧ u.ok x.2.2.2.1 ∧ w.ok x.2.2.2.2, fun {x v F} k h =>
  dt_tu rfl (by show 5 ≤ 1000; decide) h (all2 (.cons (fun v h => (r.is k.1 h).le (by omega)) (.cons (fun v h => (s.is k.2.1 h).le (by omega)) (.cons (fun v h => (t.is k.2.2.1 h).le (by omega)) (.cons (fun v h => (u.is k.2.2.2.1 h).le (by omega)) (.cons (fun v h => (w.is k.2.2.2.2 h).le (by omega)) .nil))))))⟩
end
end
section
variable {α β γ δ : Type} {X : Cx} {W : WX} {Γe Γ Γ' : Ctx} {lv : Bool} {e ee o : Expr} {es : List Expr} {st : Stmt} {rest : List Stmt} {Z : γ → Fin} {pos : Pos}
theorem re_enc {ρ : α → Pr} [s : Enc ρ] {m : Mo α} (h : RE X W Γ e m (.fz ρ)) (hn : s.n ≤ 8 := by decide) : RE X W Γ e (m >>= fun x => Mo.rq (s.ok x) (s.d x)) (.fz rD) := fun G σ F H Q o q =>
  h G σ F H Q o (m.mono (fun x hx v F' H' o' g' z => hx.2 v F' H' o' g' ((s.is hx.1 z).le hn)) (fun _ z => z) q)
def RX (X : Cx) (W : WX) (Γ : Ctx) (t : L2.St → Hp → XK → Prop) (m : Mo Ex) : Prop := ∀ G σ F H (Q : XK), Ok G Γ σ F H → m.run (fun ex => ∀ cls d F' H', Ok G Γ σ F' H' → Go (owns Γ) F H F' H' → ErrOk X.K X.mg ex cls d F' → Q cls d H') (EQ X W G Γ σ F H) → t σ H Q
theorem rb_raise {t : L2.St → Hp → XK → Prop} {mx : Mo Ex} (hp : PMk X ee t) (tk : Takes X W) (hx : RX X W Γ t mx) (hc : X.calm = true := by rfl) : RB X W Γe lv Γ (.Raise (some ee) none pos :: rest) (mx >>= fun ex => Mo.throw ex) Z := fun le G σ F H D nx' hn o q =>
  tSs_cons (ps_raise hc tk hp) (hx G σ F H _ o (mx.mono (fun ex h cls d F' H' o' g' z => h cls d σ F' H' o'.go.fs (o'.weak le) z) (fun _ => XQ.eq le) q))
end
end RF
namespace RF
open PySem PySem.Spec PyProof.Rows L2 KO SX

section
variable {α β γ δ : Type}
def Mo.catch1 (m : Mo α) (cn : Str) (fls : List Str) (h : Ex → Mo α) : Mo α := ⟨fun Q E => m.run Q fun ex => if ex.cls = cn then (h ex).run Q (fun _ => False) else (ex.cls ∈ fls ∧ E ex), fun {Q Q' E E'} hq he r => m.mono hq (fun ex hx => by
  by_cases c : ex.cls = cn
  · rw [if_pos c] at hx ⊢
    exact (h ex).mono hq (fun _ z => z) hx
  · rw [if_neg c] at hx ⊢
    exact ⟨hx.1, he _ hx.2⟩) r⟩
@[simp] theorem Mo.run_catch1 {m : Mo α} {cn : Str} {fls : List Str} {h : Ex → Mo α} {Q : α → Prop} {E : Ex → Prop} : (Mo.catch1 m cn fls h).run Q E = m.run Q fun ex => if ex.cls = cn then (h ex).run Q (fun _ => False) else (ex.cls ∈ fls ∧ E ex) := rfl
def exP (a : Addr) (d : Option Addr) (ex : Ex) : Pr := ⟨fun v F => v = .ref a ∧ ((d = none ∧ ex.fs = []) ∨ ∃ dd fs, d = some dd ∧ F dd = some (.xd fs) ∧ ∀ f y, ex.fs.lookup f = some y → ∃ v, fs.lookup f = some v ∧ Dt 8 F v y), fun s h => ⟨h.1, h.2.imp id fun ⟨dd, fs, h1, h2, h3⟩ => ⟨dd, fs, h1, s _ _ h2, fun f y h => by
  obtain ⟨v, h4, h5⟩ := h3 f y h
  exact ⟨v, h4, h5.mono s⟩⟩⟩⟩
variable {X : Cx} {W : WX} {Γe Γx Γ Γ' : Ctx} {lv : Bool} {e : Expr} {st : Stmt} {rest body suite : List Stmt} {Z : γ → Fin} {pos : Pos}
def tTb (X : Cx) (body : List Stmt) (W : WX) : TS := fun D σ H => ∀ (pn : List (Addr × Obj)) (xe : Value → Shared → Prop), Takes (X.tr pn xe) W → PassesOwn (model X.prog X.w) X.A X.env xe → tSs (X.tr pn xe) body D σ H
def tTs (X : Cx) (suite : List Stmt) (a : Addr) (cls : Value) (d : Option Addr) : TS := fun D σ H => ∀ (oe : Obj) (pn : List (Addr × Obj)), Zc cls d oe → (∃ vs, oe.data = .fields vs) → tSs (X.suite a ((a, oe) :: pn)) suite D σ H
theorem tb_ok (W : WX) (pn : List (Addr × Obj)) (xe : Value → Shared → Prop) (h1 : Takes (X.tr pn xe) W) (h2 : PassesOwn (model X.prog X.w) X.A X.env xe) : PSs (X.tr pn xe) body (tTb X body W) := ⟨fun pins s σ H D I h => pssS.run pins s σ H D I (h pn xe h1 h2)⟩
theorem ts_ok (a : Addr) (oe : Obj) (cls : Value) (d : Option Addr) (pn : List (Addr × Obj)) (h1 : Zc cls d oe) (h2 : ∃ vs, oe.data = .fields vs) : PSs (X.suite a ((a, oe) :: pn)) suite (tTs X suite a cls d) := ⟨fun pins s σ H D I h => pssS.run pins s σ H D I (h oe pn h1 h2)⟩
theorem Ok.toSuite {G : Gf} {σ : L2.St} {F H : Hp} {i : Nat} {a : Addr} {cls : Value} {d : Option Addr} {ex : Ex} (o : Ok G Γ σ F H) (z : ErrOk X.K X.mg ex cls d F) : Ok G (Γ.set i (.fz (exP a d ex))) (σ.set i (some (.ref a))) F H := by
  obtain ⟨C, h1, h2, h3⟩ := z
  exact o.set ⟨rfl, h3⟩
theorem le_un {n : Nat} {p : Pr} : ∀ {B : Ctx} {i : Nat}, Le (List.replicate n .un) (B.set i .un) → Le (List.replicate n .un) (B.set i (.fz p)) := by
  induction n with
  | zero => 
    intro B i h
    cases B with
    | nil => exact trivial
    | cons b B => cases i <;> exact h.elim
  | succ n ih =>
    intro B i h
    cases B with
    | nil => exact h.elim
    | cons b B =>
      cases i with
      | zero => exact ⟨.inl rfl, h.2⟩
      | succ i => exact ⟨.inl rfl, ih h.2⟩
end
def spPool (K : PySem.W.Frag) : Sp := fun vs H Q _ => ∃ (a : Addr) (ns : List Int) (k : Nat), vs = [.ref a, .int k] ∧ SqL K H a (ns.map V.int) ∧ k ≤ 1000 ∧ ∀ H' p, H p = none → Same H H' → Pool H' p → Q (.ref p) H'
def spTake : Sp := fun vs H Q _ => ∃ (p : Addr) (m : Int), vs = [.ref p, .int m] ∧ Pool H p ∧ 0 < m ∧ m < 1152921504606846976 ∧ ∀ H' r, 0 ≤ r → r < m → Run p H H' → Q (.int r) H'
def oPool : Po := ⟨fun o _ => ∃ x f c : Int, o = .lst [.int x, .int f, .int c], fun _ h => h⟩
def rScr (K : PySem.W.Frag) (ns : List Int) : Pr := ⟨fun v F => ∃ a, v = .ref a ∧ SqL K F a (ns.map V.int), fun s ⟨a, e, h⟩ => ⟨a, e, s.seq h⟩⟩
def Mo.take (m : Int) : Mo Int := Mo.rq (0 < m ∧ m < 1152921504606846976) () >>= fun _ => Mo.any (fun r : Int => 0 ≤ r ∧ r < m)
theorem args2 {G : Gf} {p q : Pr} {vs : List V} {F H : Hp} (o : Ok G [.fz p, .fz q] (vs.map some) F H) : ∃ u, (∃ v, vs = [u, v] ∧ q.r v F) ∧ p.r u F := by
  have hl : vs.length = 2 := by
    have := o.ln
    rw [List.length_map] at this
    exact this
  obtain ⟨u, v, rfl⟩ : ∃ u v, vs = [u, v] := by
    match vs, hl with
    | [u, v], _ => exact ⟨u, v, rfl⟩
  obtain ⟨v', e, h6⟩ := o.en 0 _ rfl
  obtain ⟨v2, e2, h7⟩ := o.en 1 _ rfl
  have e : some (some u) = some (some v') := e
  have e2 : some (some v) = some (some v2) := e2
  cases e
  cases e2
  exact ⟨u, ⟨v, rfl, h7⟩, h6⟩
section
variable {P : Program} {w : World} {K : PySem.W.Frag} {mg : Str → Option Value} {base : Heap} {k : Nat} {f : Addr} {fd : FuncData} {ps : List Str} {sp sp' : Sp}
theorem _root_.L2.FnOk.cx (F : FnOk P w K mg base CX0 k f fd ps sp) : FnOk P w K mg base (L2.CX P w) k f fd ps sp := ⟨F.len, fun A outer s H args us vs Q E hr e0 hb hv hs => codeAny_mono (F.run A outer s H args us vs Q E hr e0 hb hv hs) fun r s' h => by
  cases r with
  | error e => exact h.elim
  | ok fl => cases fl <;> exact h⟩
theorem _root_.L2.FnOk.c0 (F : FnOk P w K mg base (L2.CX P w) k f fd ps sp) (hi : ∀ vs H Q E, sp' vs H Q E → sp vs H Q E0) : FnOk P w K mg base CX0 k f fd ps sp' := ⟨fun vs H Q E h => F.len vs H Q E0 (hi vs H Q E h), fun A outer s H args us vs Q E hr e0 hb hv hs => codeAny_mono (F.run A outer s H args us vs Q E0 hr e0 hb hv (hi vs H Q E hs)) fun r s' h => by
  cases r with
  | error e =>
    obtain ⟨_, _, _, _, _, _, _, _, _, _, _, _, z⟩ := h
    exact z.elim
  | ok fl => cases fl <;> exact h⟩
theorem run_go {p : Addr} {F H H' : Hp} (s : Same F H) (hF : F p = none) (r : Run p H H') : Go [p] F H F H' where
  fs := Same.refl _
  le := fun b o e => r.1 b o (ne_of_none e hF) (s b o e)
  hs := fun b o n e => r.1 b o (by simpa using n) e
  fr := fun b o _ e => e
  th := fun b o e => by
    by_cases h : b = p
    · subst h
      obtain ⟨x, f, c, q⟩ := r.2
      exact ⟨_, q⟩
    · exact ⟨o, r.1 b o h e⟩
theorem take_sp {vs : List V} {H : Hp} {Q : VK} {E : XK} (h : spR K mg (fun (a : Addr) (z : Int × Unit) => [.ow false a oPool, .fz (rI z.1)]) (fun z => Mo.take z.1) (.fz rI) vs H Q E) : spTake vs H Q E := by
  obtain ⟨a, ⟨m, _⟩, F, o, q⟩ := h
  have hl : vs.length = 2 := by
    have := o.ln
    rw [List.length_map] at this
    exact this
  obtain ⟨u, v, rfl⟩ : ∃ u v, vs = [u, v] := by
    match vs, hl with
    | [u, v], _ => exact ⟨u, v, rfl⟩
  obtain ⟨h1, h2, _, x, h4, h5⟩ := o.en 0 _ rfl
  obtain ⟨v', e, h6⟩ := o.en 1 _ rfl
  have h1 : some (some u) = some (some (V.ref a)) := h1
  have e : some (some v) = some (some v') := e
  cases h1
  cases e
  obtain rfl : v = .int m := h6
  obtain ⟨x, f, c, rfl⟩ := h5
  refine ⟨a, m, rfl, ⟨x, f, c, h4⟩, q.1.1, q.1.2, fun H' r h0 h1 R => ?_⟩
  refine q.2 r ⟨h0, h1⟩ _ F H' (run_go o.le h2 R) (fun i l b p h => ?_) rfl
  match i, h with
  | 0, h =>
    cases h
    obtain ⟨x, f, c, h⟩ := R.2
    exact ⟨h2, _, h, x, f, c, rfl⟩
  | 1, h => cases h
  | i + 2, h => cases h
theorem pool_sp {vs : List V} {H : Hp} {Q : VK} {E : XK} (h : spR K mg (fun (_ : Unit) (z : List Int × Int × Unit) => [.fz (rScr K z.1), .fz (rI z.2.1)]) (fun z => Mo.rq (0 ≤ z.2.1 ∧ z.2.1 ≤ 1000) ()) (.ow fun _ => oPool) vs H Q E) : spPool K vs H Q E := by
  obtain ⟨_, ⟨ns, k, _⟩, F, o, q⟩ := h
  obtain ⟨u, ⟨v, rfl, h2⟩, a, rfl, h1⟩ := args2 o
  obtain rfl : v = .int k := h2
  obtain ⟨⟨k0, k1⟩, q⟩ := q
  obtain ⟨j, rfl⟩ := Int.eq_ofNat_of_zero_le k0
  have k1 : (j : Int) ≤ 1000 := k1
  refine ⟨a, ns, j, rfl, o.le.seq h1, by omega, fun H' p hp s pl => ?_⟩
  obtain ⟨x, f, c, hpl⟩ := pl
  exact q _ F H' ⟨Same.refl _, o.le.trans s, fun b o _ e => s b o e, fun b o _ e => e, fun b o e => ⟨o, s b o e⟩⟩ (fun i l b p h => by
    match i, h with
    | 0, h => cases h
    | 1, h => cases h
    | i + 2, h => cases h) ⟨p, _, rfl, hp, o.le.free hp, hpl, x, f, c, rfl⟩
end
end RF
namespace RF
open PySem PySem.Spec PyProof.Rows L2 KO SX

section
variable {α β γ δ : Type} {X : Cx} {W : WX} {Γ : Ctx} {e a b c d : Expr} {pos : Pos} {op op' op2 : CmpOp}
def RC (X : Cx) (W : WX) (Γ : Ctx) (op : CmpOp) (a b : Expr) (m : Mo Bool) : Prop := ∃ r, OpR X (compareOp op) r ∧ RTE X W Γ (tOp r (tE X a) (tE X b)) m (.fz rB)
theorem re_rc {m : Mo Bool} (h : RC X W Γ op a b m) (hm : behindInMarks op b = false := by rfl) : RE X W Γ (.Compare a [op] [b] pos) m (.fz rB) := by
  obtain ⟨r, ho, h⟩ := h
  exact re_of (pe_cmpR ho peE peE hm) h
theorem rt_rc {m : Mo Bool} (h : RC X W Γ op a b m) (hm : behindInMarks op b = false := by rfl) : RT X W Γ (.Compare a [op] [b] pos) m := by
  obtain ⟨r, ho, h⟩ := h
  exact rt_of (pt_cmpR ho peE peE hm) fun G σ F H Q o q => h G σ F H _ o (Mo.mono _ (fun x hx v F' H' o' g' z => ⟨x, z, hx F' H' o' g'⟩) (fun _ z => z) q)
section
variable {ma : Mo α} {mb : Mo β} {ρa : α → Pr} {ρb : β → Pr} {r : R2} {f : α → β → Bool}
theorem rc_of (ho : OpR X (compareOp op) r) (hr : ∀ x y, ROp X W Γ r (ρa x) (ρb y) (pure (f x y)) (.fz rB)) (ha : RE X W Γ a ma (.fz ρa)) (hb : RE X W Γ b mb (.fz ρb)) : RC X W Γ op a b (ma >>= fun x => mb >>= fun y => pure (f x y)) := ⟨r, ho, rte_two ha hb hr⟩
end
structure ICmp (X : Cx) (op : CmpOp) (f : Int → Int → Bool) : Prop where
  h : ∃ r, OpR X (compareOp op) r ∧ ∀ (W : WX) (Γ : Ctx) (x y : Int), ROp X W Γ r (rI x) (rI y) (pure (f x y)) (.fz rB)
theorem i_lt : ICmp X .Lt (fun i j => decide (i < j)) := ⟨_, op_lt, fun _ _ => rop_i0 fun _ _ _ => rfl⟩
theorem i_le : ICmp X .LtE (fun i j => decide (i ≤ j)) := ⟨_, op_le, fun _ _ => rop_i0 fun _ _ _ => rfl⟩
theorem i_eq : ICmp X .Eq (fun i j => decide (i = j)) := ⟨rEq, op_eq, fun W Γ i j G σ F H Q u w o hu hw q => by
    obtain rfl : u = .int i := hu
    obtain rfl : w = .int j := hw
    refine ⟨rfl, NQ.here (ρ := rB) q o ?_⟩
    show V.bl (decide (V.int i = V.int j)) = V.bl (decide (i = j))
    congr 1
    exact decide_eq_decide.mpr ⟨fun h => V.int.inj h, fun h => by rw [h]⟩⟩
theorem i_ne : ICmp X .NotEq (fun i j => decide (i ≠ j)) := ⟨rNe, op_ne, fun W Γ i j G σ F H Q u w o hu hw q => by
    obtain rfl : u = .int i := hu
    obtain rfl : w = .int j := hw
    refine ⟨rfl, NQ.here (ρ := rB) q o ?_⟩
    show V.bl (!decide (V.int i = V.int j)) = V.bl (decide (i ≠ j))
    congr 1
    by_cases h : i = j
    · subst h; simp
    · have : V.int i ≠ V.int j := fun z => h (V.int.inj z)
      simp [h, this]⟩
section
variable {ma mb mc md : Mo Int} {f f' f2 : Int → Int → Bool}
theorem rc_i (hi : ICmp X op f) (ha : RE X W Γ a ma (.fz rI)) (hb : RE X W Γ b mb (.fz rI)) : RC X W Γ op a b (ma >>= fun i => mb >>= fun j => pure (f i j)) := by
  obtain ⟨r, ho, hr⟩ := hi.h
  exact rc_of ho (hr W Γ) ha hb
theorem rte_chain {r r' : R2} (hr : ∀ x y, ROp X W Γ r (rI x) (rI y) (pure (f x y)) (.fz rB)) (hr' : ∀ x y, ROp X W Γ r' (rI x) (rI y) (pure (f' x y)) (.fz rB)) (ha : RE X W Γ a ma (.fz rI)) (hb : RE X W Γ b mb (.fz rI)) (hc : RE X W Γ c mc (.fz rI)) :
    RTE X W Γ (tChain r r' (tE X a) (tE X b) (tE X c)) (ma >>= fun i => mb >>= fun j => if f i j = true then mc >>= fun k => pure (f' j k) else pure false) (.fz rB) := fun G σ F H Q o q => by
  refine ha G σ F H _ o (ma.mono (fun i hx v F1 H1 o1 g1 z1 => ?_) (fun _ z => z) q)
  refine hb G σ F1 H1 _ o1 (mb.mono (fun j hy u F2 H2 o2 g2 z2 => ?_) (fun _ => EQ.step g1) hx)
  have g12 := g1.trans g2 owns_tr
  refine hr i j G σ F2 H2 _ v u o2 ((rI i).mono g2.fs z1) z2 (fun w F3 H3 o3 g3 z3 => ?_)
  have z3 : w = .bl (f i j) := z3
  refine ⟨_, z3, ?_⟩
  have g13 := g12.trans g3 owns_tr
  dsimp only at hy
  cases hf : f i j with
  | false =>
    rw [hf] at hy z3
    subst z3
    exact iteF (hy _ F3 H3 o3 g13 rfl)
  | true =>
    rw [if_pos hf] at hy
    refine iteT (hc G σ F3 H3 _ o3 (mc.mono (fun k hk w' F4 H4 o4 g4 z4 => ?_) (fun _ => EQ.step g13) hy))
    exact hr' j k G σ F4 H4 Q u w' o4 ((rI j).mono (g3.fs.trans g4.fs) z2) z4 (NQ.step (g13.trans g4 owns_tr) hk)
theorem rt_chain (hi : ICmp X op f) (hi' : ICmp X op' f') (ha : RE X W Γ a ma (.fz rI)) (hb : RE X W Γ b mb (.fz rI)) (hc : RE X W Γ c mc (.fz rI)) (hm : lastMarks [op, op'] [b, c] = false := by with_unfolding_all rfl) :
    RT X W Γ (.Compare a [op, op'] [b, c] pos) (ma >>= fun i => mb >>= fun j => if f i j = true then mc >>= fun k => pure (f' j k) else pure false) := by
  obtain ⟨r, ho, hr⟩ := hi.h
  obtain ⟨r', ho', hr'⟩ := hi'.h
  exact rt_of (pt_chain ho ho' peE peE peE hm) fun G σ F H Q o q => rte_chain (hr W Γ) (hr' W Γ) ha hb hc G σ F H _ o (Mo.mono _ (fun x hx v F' H' o' g' z => ⟨x, z, hx F' H' o' g'⟩) (fun _ z => z) q)
end
section
variable {ma : Mo (Option α)} {ρ : α → Pr} {j : Nat} {p2 : Pos}
class NN (ρ : α → Pr) : Prop where
  nn : ∀ x v F, (ρ x).r v F → v ≠ .non
instance : NN rI := ⟨fun x v F h z => by subst z; cases h⟩
instance : NN rB := ⟨fun x v F h z => by subst z; cases h⟩
instance : NN rS := ⟨fun x v F h z => by subst z; cases h⟩
instance {ρ : α → Pr} : NN (rL ρ) := ⟨fun x v F ⟨a, vs, e, _⟩ z => by subst z; cases e⟩
instance {ρ : α → Pr} : NN (rTs ρ) := ⟨fun x v F ⟨a, vs, e, _⟩ z => by subst z; cases e⟩
theorem nn_tu {ps : List Pr} {v : V} {F : Hp} (h : (rTu ps).r v F) : v ≠ .non := fun z => by
  obtain ⟨a, vs, e, _⟩ := h
  subst z; cases e
instance {ρ : α → Pr} {σ : β → Pr} : NN (rT2 ρ σ) := ⟨fun x v F h => nn_tu h⟩
instance {ρ : α → Pr} {σ : β → Pr} {τ : γ → Pr} : NN (rT3 ρ σ τ) := ⟨fun x v F h => nn_tu h⟩
end
section
variable {ma : Mo α} {mb : Mo β} {ρa : α → Pr} {ρb : β → Pr} [sa : Sc ρa] [sb : Sc ρb]
end
section
variable {ma : Mo γ} {mb : Mo (List γ)} {ρ : γ → Pr} [s : Sc ρ] {k : Bool}
end
section
variable {mi : Mo Int} {ms : Mo Str} {mis : Mo (List Int)} {mss : Mo (List Str)} {k : Bool}
end
section
variable {ma : Mo PyData} {mb : Mo PyData}
end
end
end RF
namespace RF
open PySem PySem.Spec PyProof.Rows L2 KO SX
section
variable {α β γ δ : Type} {X : Cx} {W : WX} {Γe Γx Γ Γ' : Ctx} {lv : Bool} {e ee o a b c : Expr} {es : List Expr} {st : Stmt} {rest body suite : List Stmt} {Z : γ → Fin} {pos : Pos} {t : TE}
theorem rb_asg {me : Mo α} {ρ : α → Pr} {mr : α → Mo γ} {g : TG} {vs : List Nat} {tg : α → Ctx → Ctx} (hs : PS X st (tAsg t g)) (he : RTE X W Γ t me (.fz ρ)) (hg : ∀ x, RG X.K g (ρ x) (tg x) vs) (hl : ∀ x, Le Γe (tg x Γ)) (hr : ∀ x, RB X W Γe lv (tg x Γ) rest (mr x) Z) : RB X W Γe lv Γ (st :: rest) (me >>= mr) Z := fun le G σ F H D nx' hn o q =>
  tSs_cons hs (he G σ F H _ o (me.mono (fun x hx v F' H' o' g' z => hg x G Γ σ F' H' _ v o' z fun σ' o2 _ => hr x (hl x) G σ' F' H' D nx' hn o2 (run_fin g'.fs hx)) (fun _ => XQ.eq le) q))
section
variable {ad C : Addr} {oe : Obj} {d : Option Addr} {pn : List (Addr × Obj)} {ex : Ex} {n f : Str} {i : Nat} {p : Pos}
theorem call_isA {D : Addr} (Ce : ExcC X.K D) (hz : Zc (.ref D) d oe) (hf : ∃ vs, oe.data = .fields vs) : CallR (X.suite ad ((ad, oe) :: pn)) (.builtin "isinstance") (fun xs H Q => rIsX X.K D ad (.ref D) d xs H Q ∨ rIsD X.K D ad (.ref D) d xs H Q) := by
  intro pins s σ H xs us Q I r h
  rcases h with h | h
  · exact call_isX Ce hz hf pins s σ H xs us Q I r h
  · exact call_isD Ce hz hf pins s σ H xs us Q I r h
theorem re_exis {r : Bool} {cv : Value} {v : V} {p2 p3 : Pos} {n2 : Str} (Ce : ExcC X.K C) (hz : Zc (.ref C) d oe) (hf : ∃ vs, oe.data = .fields vs) (hi : Γ[i]? = some (.fz (exP ad d ex))) (hp : PE (X.suite ad ((ad, oe) :: pn)) (.Name n p) (tVar i)) (hc : PE (X.suite ad ((ad, oe) :: pn)) (.Name n2 p2) (tC v)) (hcv : ∀ u, RelV v u → u = cv) (hk : PySem.W.kitOne X.K (.ref C) cv = some r)
    (hm : X.mg "isinstance" = none) (hg : Gl X "isinstance" := by rfl) :
    RE (X.suite ad ((ad, oe) :: pn)) W Γ (.Call (.Name "isinstance" p3) [.Name n p, .Name n2 p2] [] pos) (pure r) (.fz rB) :=
  re_of (pe_callB (X := X.suite ad ((ad, oe) :: pn)) (call_isA Ce hz hf) hg hm (by decide +kernel) (pa_cons hp (pa_cons hc pa_nil))) fun G σ F H Q o q => by
    obtain ⟨u, h1, rfl, h2⟩ := o.en i _ hi
    refine ⟨.ref ad, h1, ?_⟩
    have fin : rIsE X.K C ad [.ref ad, v] H Q := ⟨v, cv, r, rfl, hcv, hk, NQ.here (ρ := rB) q o rfl⟩
    rcases h2 with ⟨h2, _⟩ | ⟨dd, fs, h2, h3, _⟩
    · exact .inl ⟨rfl, h2, fin⟩
    · exact .inr ⟨rfl, dd, fs, h2, o.le _ _ h3, fin⟩
end
theorem rx_0 {C : Addr} {c : Str} (hm : X.mg c = some (.ref C)) : RX X W Γ (fun _ H Q => Q (.ref C) none H) (pure ⟨c, []⟩) := fun G σ F H Q o q => q _ _ F H o (Go.refl o.le) ⟨C, hm, rfl, .inl ⟨rfl, rfl⟩⟩
end
end RF
namespace RF
open PySem PySem.Spec PyProof.Rows L2 KO SX
section
variable {α β γ δ : Type}
def Ks (F : Hp) (ρ : α → Pr) : List (Int × α) → List (Key × V) → Prop
  | [], [] => True
  | (k, x) :: r, (k', v) :: r' => k' = .inl k ∧ (ρ x).r v F ∧ Ks F ρ r r'
  | _, _ => False
def dget (kvs : List (Int × α)) (k : Int) : Option α := (kvs.find? fun p => decide (p.1 = k)).map (·.2)
def dput (kvs : List (Int × α)) (k : Int) (x : α) : List (Int × α) := if (kvs.any fun p => decide (p.1 = k)) = true then kvs.map (fun p => if p.1 = k then (p.1, x) else p) else kvs ++ [(k, x)]
section
variable {F F' : Hp} {ρ : α → Pr}
theorem Ks.mono (s : Same F F') : ∀ {kvs : List (Int × α)} {gs : List (Key × V)}, Ks F ρ kvs gs → Ks F' ρ kvs gs
  | [], [], _ => trivial
  | (_, x) :: _, (_, _) :: _, h => ⟨h.1, (ρ x).mono s h.2.1, Ks.mono s h.2.2⟩
  | [], _ :: _, h => h.elim
  | _ :: _, [], h => h.elim
theorem Ks.len : ∀ {kvs : List (Int × α)} {gs : List (Key × V)}, Ks F ρ kvs gs → gs.length = kvs.length
  | [], [], _ => rfl
  | (_, _) :: _, (_, _) :: _, h => by simp [Ks.len h.2.2]
  | [], _ :: _, h => h.elim
  | _ :: _, [], h => h.elim
theorem keydec (a b : Int) : (decide ((Sum.inl a : Key) = Sum.inl b)) = decide (a = b) := by
  by_cases h : a = b
  · subst h; simp
  · have : ¬ (Sum.inl a : Key) = Sum.inl b := fun q => h (Sum.inl.inj q)
    simp [h, this]
theorem Ks.get {k : Int} : ∀ {kvs : List (Int × α)} {gs : List (Key × V)}, Ks F ρ kvs gs → (∃ x v, dget kvs k = some x ∧ valV gs (Sum.inl k) = some v ∧ (ρ x).r v F) ∨ (dget kvs k = none ∧ valV gs (Sum.inl k) = none)
  | [], [], _ => .inr ⟨rfl, rfl⟩
  | (k1, x) :: r, (k2, v) :: r', h => by
    obtain ⟨rfl, h1, h2⟩ := h
    unfold dget valV
    rw [List.find?_cons, List.find?_cons, keydec]
    by_cases e : k1 = k
    · simp only [e, decide_true]
      exact .inl ⟨x, v, rfl, rfl, h1⟩
    · simp only [e, decide_false]
      exact Ks.get h2
  | [], _ :: _, h => h.elim
  | _ :: _, [], h => h.elim
theorem Ks.any {k : Int} : ∀ {kvs : List (Int × α)} {gs : List (Key × V)}, Ks F ρ kvs gs → (gs.any fun kv => decide (kv.1 = (Sum.inl k : Key))) = kvs.any fun p => decide (p.1 = k)
  | [], [], _ => rfl
  | (k1, x) :: r, (k2, v) :: r', h => by
    obtain ⟨rfl, h1, h2⟩ := h
    rw [List.any_cons, List.any_cons, Ks.any h2, keydec]
  | [], _ :: _, h => h.elim
  | _ :: _, [], h => h.elim
theorem Ks.app : ∀ {kvs kvs2 : List (Int × α)} {gs gs2 : List (Key × V)}, Ks F ρ kvs gs → Ks F ρ kvs2 gs2 → Ks F ρ (kvs ++ kvs2) (gs ++ gs2)
  | [], _, [], _, _, h => h
  | (_, _) :: _, _, (_, _) :: _, _, h, k => ⟨h.1, h.2.1, Ks.app h.2.2 k⟩
  | [], _, _ :: _, _, h, _ => h.elim
  | _ :: _, _, [], _, h, _ => h.elim
theorem Ks.rep {k : Int} {x : α} {v : V} (hv : (ρ x).r v F) : ∀ {kvs : List (Int × α)} {gs : List (Key × V)}, Ks F ρ kvs gs → Ks F ρ (kvs.map fun p => if p.1 = k then (p.1, x) else p) (gs.map fun kv => if kv.1 = (Sum.inl k : Key) then (kv.1, v) else kv)
  | [], [], _ => trivial
  | (k1, y) :: r, (k2, u) :: r', h => by
    obtain ⟨rfl, h1, h2⟩ := h
    have ih := Ks.rep (k := k) hv h2
    by_cases e : k1 = k
    · simp only [List.map_cons, e, if_true]
      exact ⟨rfl, hv, ih⟩
    · have e2 : ¬ (Sum.inl k1 : Key) = Sum.inl k := fun q => e (Sum.inl.inj q)
      simp only [List.map_cons, e, e2, if_false]
      exact ⟨rfl, h1, ih⟩
  | [], _ :: _, h => h.elim
  | _ :: _, [], h => h.elim
theorem Ks.put {k : Int} {x : α} {v : V} {kvs : List (Int × α)} {gs : List (Key × V)} (h : Ks F ρ kvs gs) (hv : (ρ x).r v F) : Ks F ρ (dput kvs k x) (putK gs (Sum.inl k) v) := by
  unfold dput putK
  rw [h.any]
  split
  · exact h.rep hv
  · exact h.app ⟨rfl, hv, trivial⟩
end
def oDk (ρ : α → Pr) (kvs : List (Int × α)) : Po := ⟨fun o F => ∃ gs, o = .dK gs ∧ Ks F ρ kvs gs, fun s ⟨gs, e, h⟩ => ⟨gs, e, h.mono s⟩⟩
variable {X : Cx} {W : WX} {Γe Γx Γ Γ' : Ctx} {lv : Bool} {e ee o a b c : Expr} {es : List Expr} {st : Stmt} {rest body suite : List Stmt} {Z : γ → Fin} {pos p2 p3 : Pos} {t : TE} {ρ : α → Pr}
section
variable {i : Nat} {l : Bool} {ad : Addr} {kvs : List (Int × α)} {x : Str} {mk : Mo Int}
end
theorem Ps.rev {F : Hp} : ∀ {ps : List Pr} {vs : List V}, Ps F ps vs → Ps F ps.reverse vs.reverse
  | [], [], _ => trivial
  | _ :: _, _ :: _, h => by
    rw [List.reverse_cons, List.reverse_cons]
    exact (Ps.rev h.2).app ⟨h.1, trivial⟩
  | [], _ :: _, h => h.elim
  | _ :: _, [], h => h.elim
theorem re_rev {k : Nat} {p1 : Pos} {m : Mo (List α)} (h : RSq X W Γ true e m ρ) : RE X W Γ (.Subscript e (.Slice none none (some (.UnaryOp .USub (.Constant (.int 1) k p1) p2)) p3) pos) (m >>= fun xs => pure xs.reverse) (.ow (oL ρ)) :=
  re_of (pe_revL peE) fun G σ F H Q o q => h G σ F H _ o (m.mono (fun xs hx ad vs F' H' o' g' z1 z2 => by
    refine ⟨ad, vs, rfl, SqL.of z1, fun d hd => NQ.own hx o' g' hd ⟨_, rfl, ?_⟩⟩
    rw [List.map_reverse]
    exact z2.rev) (fun _ z => z) q)
section
variable {C : Addr} {oe : Obj} {d : Option Addr} {pn : List (Addr × Obj)} {ex : Ex} {n f : Str} {i : Nat} {p : Pos}
inductive ClsEs (X : Cx) : List Expr → List Addr → Prop where
  | nil : ClsEs X [] []
  | cons {n : Str} {p : Pos} {C : Addr} {es : List Expr} {cs : List Addr} (h : PE X (.Name n p) (tC (.ref C))) (hc : starEach (.Name n p :: es) X.env = (false, eval (.Name n p) X.env) :: starEach es X.env) (r : ClsEs X es cs) : ClsEs X (.Name n p :: es) (C :: cs)
def tCs : List Addr → TA
  | [] => tNil
  | c :: cs => tCons (tC (.ref c)) (tCs cs)
theorem ClsEs.pa {X : Cx} : ∀ {es : List Expr} {cs : List Addr}, ClsEs X es cs → PA X es (tCs cs)
  | _, _, .nil => pa_nil
  | _, _, .cons h hc r => pa_cons h r.pa hc
end
end
end RF
namespace RF
open PySem PySem.Spec PyProof.Rows L2 KO SX
section
variable {α β γ δ : Type} {X : Cx} {W : WX} {Γe Γ Γ' : Ctx} {lv : Bool} {e ee o a b c : Expr} {es : List Expr} {st : Stmt} {rest body suite : List Stmt} {Z : γ → Fin} {pos p2 p3 : Pos} {t : TE}
class NL (ρ : α → Pr) : Prop where
  nl : ∀ {x : α} {v : V} {F : Hp} {a : Addr} {vs : List V}, F a = some (.lst vs) → (ρ x).r v F → (ρ x).r v (del F a)
class NLP (q : Po) : Prop where
  nl : ∀ {u : HO} {F : Hp} {a : Addr} {vs : List V}, F a = some (.lst vs) → q.r u F → q.r u (del F a)
def NLr (p : Pr) : Prop := ∀ {v : V} {F : Hp} {a : Addr} {vs : List V}, F a = some (.lst vs) → p.r v F → p.r v (del F a)
instance : NL rI := ⟨fun _ h => h⟩
instance : NL rB := ⟨fun _ h => h⟩
instance : NL rS := ⟨fun _ h => h⟩
instance : NL rN := ⟨fun _ h => h⟩
instance {ρ : α → Pr} [n : NL ρ] : NL (rO ρ) := ⟨fun {x} {v F a vs} h k => by
  cases x with
  | none => exact k
  | some y => exact n.nl h k⟩
theorem Ps.nl {F : Hp} {a : Addr} {us : List V} (h : F a = some (.lst us)) : ∀ {ps : List Pr} {vs : List V}, (∀ p ∈ ps, NLr p) → Ps F ps vs → Ps (del F a) ps vs
  | [], [], _, _ => trivial
  | p :: ps, v :: vs, n, k => ⟨n p List.mem_cons_self h k.1, Ps.nl h (fun q hq => n q (List.mem_cons_of_mem _ hq)) k.2⟩
  | [], _ :: _, _, k => k.elim
  | _ :: _, [], _, k => k.elim
theorem nl_T {ps : List Pr} (n : ∀ p ∈ ps, NLr p) : NLr (rTu ps) := fun {v F a vs} h k => by
  obtain ⟨t, ws, rfl, h1, h2⟩ := k
  have hne : t ≠ a := by
    rintro rfl
    rcases h1 with h1 | ⟨o, h1⟩ <;> (rw [h] at h1; cases h1)
  exact ⟨t, ws, rfl, h1.imp (fun h => del_ok h hne) (fun ⟨o, h⟩ => ⟨o, del_ok h hne⟩), h2.nl h n⟩
theorem nlr {ρ : α → Pr} [n : NL ρ] (x : α) : NLr (ρ x) := fun h k => n.nl h k
theorem nl_mem1 {p : Pr} (h : NLr p) : ∀ q ∈ [p], NLr q := fun q hq => by rw [List.mem_singleton.mp hq]; exact h
theorem nl_memc {p : Pr} {ps : List Pr} (h : NLr p) (k : ∀ q ∈ ps, NLr q) : ∀ q ∈ p :: ps, NLr q := fun q hq => by
  rcases List.mem_cons.mp hq with e | e
  · rw [e]; exact h
  · exact k q e
section
variable {ε ζ : Type} {ρ : α → Pr} {σ : β → Pr} {τ : γ → Pr} {υ : δ → Pr} {φ : ε → Pr}
instance [NL ρ] : NL (rTs ρ) := ⟨fun {xs} {v F a vs} h k => nl_T (fun p hp => by
  obtain ⟨x, _, rfl⟩ := List.mem_map.mp hp
  exact nlr x) h k⟩
instance [NL ρ] : NL (rT1 ρ) := ⟨fun {x} {v F a vs} h k => nl_T (nl_mem1 (nlr _)) h k⟩
instance [NL ρ] [NL σ] : NL (rT2 ρ σ) := ⟨fun {x} {v F a vs} h k => nl_T (nl_memc (nlr _) (nl_mem1 (nlr _))) h k⟩
instance [NL ρ] [NL σ] [NL τ] : NL (rT3 ρ σ τ) := ⟨fun {x} {v F a vs} h k => nl_T (nl_memc (nlr _) (nl_memc (nlr _) (nl_mem1 (nlr _)))) h k⟩
instance [NL ρ] [NL σ] [NL τ] [NL υ] : NL (rT4 ρ σ τ υ) := ⟨fun {x} {v F a vs} h k => nl_T (nl_memc (nlr _) (nl_memc (nlr _) (nl_memc (nlr _) (nl_mem1 (nlr _))))) h k⟩
instance [NL ρ] [NL σ] [NL τ] [NL υ] [NL φ] : NL (rT5 ρ σ τ υ φ) := ⟨fun {x} {v F a vs} h k => nl_T (nl_memc (nlr _) (nl_memc (nlr _) (nl_memc (nlr _) (nl_memc (nlr _) (nl_mem1 (nlr _)))))) h k⟩
instance [n : NL ρ] {xs : List α} : NLP (oL ρ xs) := ⟨fun {u F a vs} h k => by
  obtain ⟨ws, rfl, h2⟩ := k
  exact ⟨ws, rfl, h2.nl h (fun p hp => by
    obtain ⟨x, _, rfl⟩ := List.mem_map.mp hp
    exact nlr x)⟩⟩
end
instance : NLP oPool := ⟨fun _ h => h⟩
instance {C : Addr} : NLP (oIn C []) := ⟨fun {u F a vs} h k => by
  obtain ⟨dx, gs, rfl, k⟩ := k
  cases gs with
  | nil => exact ⟨dx, [], rfl, trivial⟩
  | cons _ _ => exact k.elim⟩
theorem ks_nl {ρ : α → Pr} [NL ρ] {F : Hp} {a : Addr} {us : List V} (h : F a = some (.lst us)) : ∀ {kvs : List (Int × α)} {gs : List (Key × V)}, Ks F ρ kvs gs → Ks (del F a) ρ kvs gs
  | [], [], _ => trivial
  | (_, x) :: _, (_, _) :: _, k => ⟨k.1, nlr x h k.2.1, ks_nl h k.2.2⟩
  | [], _ :: _, k => k.elim
  | _ :: _, [], k => k.elim
instance {ρ : α → Pr} [NL ρ] {kvs : List (Int × α)} : NLP (oDk ρ kvs) := ⟨fun {u F a vs} h k => by
  obtain ⟨gs, rfl, k⟩ := k
  exact ⟨gs, rfl, ks_nl h k⟩⟩
def rNN (_ : α) : Pr := ⟨fun v _ => v ≠ .non, fun _ h => h⟩
instance : NL (rNN (α := α)) := ⟨fun _ h => h⟩
class NLK (k : RK γ) : Prop where
  nl : ∀ {x : γ} {v : V} {H F H' : Hp} {a : Addr} {vs : List V}, F a = some (.lst vs) → k.ok x v H F H' → k.ok x v H (del F a) H'
instance {ρ : γ → Pr} [n : NL ρ] : NLK (.fz ρ) := ⟨fun h k => n.nl h k⟩
instance {ρ : γ → Po} [n : ∀ x, NLP (ρ x)] : NLK (.ow ρ) := ⟨fun {x v H F H' a vs} h k => by
  obtain ⟨b, u, rfl, h1, h2, h3, h4⟩ := k
  refine ⟨b, u, rfl, h1, ?_, h3, (n x).nl h h4⟩
  unfold del
  split
  · rfl
  · exact h2⟩
def NLC : Ctx → Prop
  | [] => True
  | .ow _ _ q :: r => NLP q ∧ NLC r
  | _ :: r => NLC r
theorem NLC.get : ∀ {Γ : Ctx} {i : Nat} {l : Bool} {a : Addr} {q : Po}, NLC Γ → Γ[i]? = some (.ow l a q) → NLP q
  | [], _, _, _, _, _, h => by simp at h
  | en :: r, 0, l, a, q, n, h => by
    simp at h
    subst h
    exact n.1
  | en :: r, i + 1, l, a, q, n, h => by
    have n' : NLC r := by
      cases en with
      | un => exact n
      | fz p => exact n
      | ow l' a' q' => exact n.2
      | lk f h p => exact n
    exact NLC.get n' (by simpa using h)
section
variable {j : Nat} {l : Bool} {ad : Addr} {ρ : α → Pr} {xs : List α}
theorem Ok.bor {G : Gf} {σ : L2.St} {F H : Hp} (o : Ok G Γ σ F H) (hj : Γ[j]? = some (.ow l ad (oL ρ xs))) : ∃ (G' : Gf) (F1 : Hp) (vs : List V), F1 ad = some (.lst vs) ∧ Ok G' (Γ.set j (.fz (rL ρ xs))) σ F1 H ∧ Same F F1 ∧ H ad = some (.lst vs) ∧
    ∀ F' H', NLC (Γ.set j (.fz (rL ρ xs))) → Ok G' (Γ.set j (.fz (rL ρ xs))) σ F' H' → Go (owns (Γ.set j (.fz (rL ρ xs)))) F1 H F' H' → F' ad = some (.lst vs) ∧ Ok G Γ σ (del F' ad) H' ∧ Go (owns Γ) F H (del F' ad) H' := by
  obtain ⟨k1, k2, k3, u, k4, vs, rfl, k5⟩ := o.en j _ hj
  have s : Same F (upd F ad (.lst vs)) := same_upd k2
  have hF0 : G.F0 ad = none := by
    cases e : G.F0 ad with
    | none => rfl
    | some y => rw [o.go.fs _ _ e] at k2; cases k2
  have hlt : j < Γ.length := (List.getElem?_eq_some_iff.mp hj).1
  have other : ∀ {i : Nat} {e : En}, i ≠ j → (Γ.set j (.fz (rL ρ xs)))[i]? = some e → Γ[i]? = some e := fun {i e} n h => by
    rw [List.getElem?_set_ne (Ne.symm n)] at h; exact h
  have keyo : ∀ {i : Nat} {m : Bool} {b : Addr} {q : Po}, (Γ.set j (.fz (rL ρ xs)))[i]? = some (.ow m b q) → i ≠ j ∧ Γ[i]? = some (.ow m b q) := fun {i m b q} h => by
    by_cases hij : i = j
    · subst hij
      rw [List.getElem?_set_self hlt] at h
      cases h
    · exact ⟨hij, other hij h⟩
  refine ⟨⟨G.F0, fun b => if b = ad then none else G.H0 b, G.M⟩, upd F ad (.lst vs), vs, upd_same, ⟨⟨?_, ?_, ?_, ?_, ?_⟩, fun i e he => ?_, fun i i2 m m2 b p q h1 h2 => ?_, ?_⟩, s, k4, fun F' H' hn o' g' => ?_⟩
  · exact fun b x e => s _ _ (o.go.fs _ _ e)
  · intro b x e
    by_cases hb : b = ad
    · subst hb; rw [upd_same] at e; rw [k4]; exact e
    · rw [upd_ne hb] at e; exact o.le _ _ e
  · intro b x n e
    dsimp only at e
    split at e
    · cases e
    · exact o.go.hs b x n e
  · intro b x e f
    dsimp only at e
    split at e
    · cases e
    · rename_i hb
      rw [upd_ne hb]; exact o.go.fr b x e f
  · intro b x e
    dsimp only at e
    split at e
    · cases e
    · exact o.go.th b x e
  · by_cases hij : i = j
    · subst hij
      rw [List.getElem?_set_self hlt] at he
      cases he
      exact ⟨.ref ad, k1, ad, vs, rfl, upd_same, k5.mono s⟩
    · have z := o.en i e (other hij he)
      cases e with
      | un => trivial
      | fz p =>
        obtain ⟨v, e1, e2⟩ := z
        exact ⟨v, e1, p.mono s e2⟩
      | ow m b r =>
        obtain ⟨z1, z2, z3, y, z4, z5⟩ := z
        have hb : b ≠ ad := by
          rintro rfl
          exact hij (o.ap i j _ _ _ _ _ (other hij he) hj)
        refine ⟨z1, by rw [upd_ne hb]; exact z2, ?_, y, z4, r.mono s z5⟩
        cases m with
        | true => exact (if_neg hb).trans z3
        | false => exact z3
      | lk f h p =>
        obtain ⟨⟨v, e1, e2⟩, e3, e4⟩ := z
        refine ⟨⟨v, e1, p.mono s e2⟩, fun b hb => ?_, e4⟩
        refine ⟨?_, (e3 b hb).2⟩
        show (if b = ad then none else G.H0 b) = none
        split
        · rfl
        · exact (e3 b hb).1
  · exact o.ap i i2 _ _ b p q (keyo h1).2 (keyo h2).2
  · rw [o.ln]; simp
  · have ha' : F' ad = some (.lst vs) := g'.fs _ _ upd_same
    have sub : ∀ b ∈ owns (Γ.set j (.fz (rL ρ xs))), b ∈ owns Γ := fun b hb => owns_set rfl hb
    have g : Go (owns Γ) F H (del F' ad) H' := by
      refine ⟨fun b x e => ?_, fun b x e => ?_, fun b x n e => g'.hs b x (fun h => n (sub _ h)) e, fun b x e f => ?_, g'.th⟩
      · have hb : b ≠ ad := by rintro rfl; rw [k2] at e; cases e
        exact del_ok (g'.fs _ _ (s _ _ e)) hb
      · unfold del at e
        split at e
        · cases e
        · exact g'.le _ _ e
      · unfold del
        split
        · rfl
        · rename_i hb
          exact g'.fr b x e (by rw [upd_ne hb]; exact f)
    refine ⟨ha', ⟨o.go.trans g fun x m => o.own m, fun i e he => ?_, o.ap, o.ln⟩, g⟩
    have z := o.en i e he
    cases e with
    | un => trivial
    | fz p =>
      obtain ⟨v, e1, e2⟩ := z
      exact ⟨v, e1, p.mono g.fs e2⟩
    | ow m b r =>
      obtain ⟨z1, z2, z3, y, z4, z5⟩ := z
      by_cases hij : i = j
      · subst hij
        rw [hj] at he
        cases he
        exact ⟨z1, del_same, z3, _, g'.le _ _ ha', vs, rfl, k5.mono g.fs⟩
      · have he2 : (Γ.set j (.fz (rL ρ xs)))[i]? = some (.ow m b r) := by rw [List.getElem?_set_ne (Ne.symm hij)]; exact he
        obtain ⟨y1, y2, y3, w, y4, y5⟩ := o'.en i _ he2
        refine ⟨z1, ?_, z3, w, y4, (hn.get he2).nl ha' y5⟩
        unfold del
        split
        · rfl
        · exact y2
    | lk f h p =>
      obtain ⟨⟨v, e1, e2⟩, e3, e4⟩ := z
      exact ⟨⟨v, e1, p.mono g.fs e2⟩, e3, fun b e => e4 b (none_th g.th e)⟩
theorem rte_bor {k : RK γ} {m : Mo γ} [nk : NLK k] (hj : Γ[j]? = some (.ow l ad (oL ρ xs))) (hn : NLC (Γ.set j (.fz (rL ρ xs)))) (h : RTE X W (Γ.set j (.fz (rL ρ xs))) t m k) : RTE X W Γ t (Mo.calm m) k := fun G σ F H Q o q => by
  obtain ⟨G', F1, vs, h1, o1, s, _, back⟩ := o.bor hj
  refine h G' σ F1 H Q o1 (m.mono (fun x hx v F' H' o' g' z => ?_) (fun _ z => z.elim) q)
  obtain ⟨b1, b2, b3⟩ := back F' H' hn o' g'
  exact hx v _ H' b2 b3 (nk.nl b1 z)
theorem re_bor {k : RK γ} {m : Mo γ} [nk : NLK k] (hj : Γ[j]? = some (.ow l ad (oL ρ xs))) (hn : NLC (Γ.set j (.fz (rL ρ xs)))) (h : RE X W (Γ.set j (.fz (rL ρ xs))) e m k) : RE X W Γ e (Mo.calm m) k := rte_bor hj hn h
end
section
variable {k : Nat} {f C : Addr} {fd : FuncData} {ps : List Str} {pp : Addr → β → Ctx} {m : β → Mo γ} {kr : RK γ} {me : Mo Unit} {ma : Mo β} {x : Str} {p : Pos} {qo : Po}
end
end
end RF
namespace RF
open PySem PySem.Spec PyProof.Rows L2 KO SX
section
variable {α β β' γ δ : Type} {X : Cx} {W : WX} {Γe Γ Γ' : Ctx} {lv : Bool} {scope : Scope} {elt c : Expr} {ifs ifs1 : List Expr} {t : TE}
end
end RF
namespace RF
open PySem PySem.Spec PyProof.Rows L2 KO SX
theorem pl0 : ([] : List (Str × Pr)).length ≤ 0 := Nat.le_refl _
theorem pl1 {f : Str} {p : Pr} {n : Nat} : ∀ {fs : List (Str × Pr)}, fs.length ≤ n → (putP f p fs).length ≤ n + 1
  | [], _ => by simp [putP]
  | (g, q) :: fs, h => by
    unfold putP
    split
    · simp at h ⊢; omega
    · simp at h ⊢
      have := pl1 (f := f) (p := p) (n := n - 1) (fs := fs) (by omega)
      omega
theorem plt {n : Nat} {fs : List (Str × Pr)} (h : fs.length ≤ n) (k : n < 1000 := by decide) : fs.length < 1000 := by omega
theorem u1 {n : Nat} (h : n + 64 < cLine) : n + 1 < cLine := by omega
section
variable {α β γ δ : Type} {X : Cx} {W : WX} {Γe Γx Γ Γ' : Ctx} {lv : Bool} {e : Expr} {st bst : Stmt} {rest body suite : List Stmt} {Z : γ → Fin} {pos : Pos}
theorem body_set {i : Nat} {me : Mo α} {ρ : α → Pr} {t : TE} (hs : PS X bst (tAsg t (gName i))) (he : RTE X W Γ t me (.fz ρ)) : ∀ G σ F H D, Ok G Γ σ F H → me.run (fun x => ∀ σ' F' H', Same F F' → Ok G (Γ.set i (.fz (ρ x))) σ' F' H' → D.nx σ' H') (EQ X W G Γ σ F H) → tSs X [bst] D σ H := fun G σ F H D o q => by
  refine tSs_i fun pins s I => (pss_one hs).run pins s σ H D I (he G σ F H _ o (me.mono (fun x hx v F' H' o' g' z => hx _ F' H' g'.fs (o'.set z)) (fun _ z => z) q))
def Mo.tryO (mb : Mo δ) (cn : Str) (fls : List Str) (mh : Mo γ) (mr : δ → Mo γ) : Mo γ := ⟨fun Q E => mb.run (fun j => (mr j).run Q E) fun ex => if ex.cls = cn then mh.run Q (fun _ => False) else (ex.cls ∈ fls ∧ E ex), fun {Q Q' E E'} hq he r => mb.mono (fun j => (mr j).mono hq he) (fun ex hx => by
  by_cases c : ex.cls = cn
  · rw [if_pos c] at hx ⊢
    exact mh.mono hq (fun _ z => z) hx
  · rw [if_neg c] at hx ⊢
    exact ⟨hx.1, he _ hx.2⟩) r⟩
@[simp] theorem Mo.run_tryO {mb : Mo δ} {cn : Str} {fls : List Str} {mh : Mo γ} {mr : δ → Mo γ} {Q : γ → Prop} {E : Ex → Prop} : (Mo.tryO mb cn fls mh mr).run Q E = mb.run (fun j => (mr j).run Q E) (fun ex => if ex.cls = cn then mh.run Q (fun _ => False) else (ex.cls ∈ fls ∧ E ex)) := rfl
def asI : PyData → Option Int
  | .int i => some i
  | _ => none
end
end RF
namespace RF
open PySem PySem.Spec PyProof.Rows L2 KO SX
theorem Mo.ext' {α : Type} {m n : Mo α} (h : ∀ Q E, m.run Q E = n.run Q E) : m = n := by
  cases m; cases n
  congr
  funext Q E
  exact h Q E
instance : LawfulMonad Mo := LawfulMonad.mk' (m := Mo) (id_map := fun x => rfl) (pure_bind := fun x f => rfl) (bind_assoc := fun x f g => rfl)
section
variable {α β γ δ : Type}
@[simp] theorem Mo.get_some {x : α} : Mo.get (some x) = (pure x : Mo α) := Mo.ext' fun Q E => by simp
theorem Mo.rq_of {p : Prop} {x : α} (h : p) : Mo.rq p x = (pure x : Mo α) := Mo.ext' fun Q E => by simp [h]
@[simp] theorem Mo.throw_bind {e : Ex} {f : α → Mo β} : (Mo.throw e >>= f) = Mo.throw e := rfl
@[simp] theorem Mo.calm_pure {x : α} : Mo.calm (pure x) = (pure x : Mo α) := rfl
theorem Mo.run_take {m : Int} {Q : Int → Prop} {E : Ex → Prop} : (Mo.take m).run Q E = ((0 < m ∧ m < 1152921504606846976) ∧ ∀ r, 0 ≤ r ∧ r < m → Q r) := rfl
theorem Mo.comp_pure {c : β → Mo Bool} {f : β → Mo γ} {p : β → Bool} {g : β → γ} : ∀ {xs : List β}, (∀ x ∈ xs, c x = pure (p x)) → (∀ x ∈ xs, p x = true → f x = pure (g x)) → Mo.comp c f xs = pure ((xs.filter p).map g)
  | [], _, _ => rfl
  | x :: xs, hc, hf => by
    have ih := Mo.comp_pure (xs := xs) (fun y hy => hc y (List.mem_cons_of_mem _ hy)) (fun y hy => hf y (List.mem_cons_of_mem _ hy))
    unfold Mo.comp
    rw [hc x List.mem_cons_self]
    simp only [pure_bind]
    cases h : p x with
    | true => rw [if_pos rfl, hf x List.mem_cons_self h, ih]; simp [h]
    | false => rw [if_neg (by simp), ih]; simp [h]
theorem Mo.lc_pure {c : β → Mo Bool} {f : β → Mo γ} {p : β → Bool} {g : β → γ} {xs : List β} (hl : xs.length ≤ sizeLine) (hc : ∀ x ∈ xs, c x = pure (p x)) (hf : ∀ x ∈ xs, p x = true → f x = pure (g x)) : Mo.lc c f xs = pure ((xs.filter p).map g) := by
  unfold Mo.lc
  rw [Mo.rq_of hl, Mo.comp_pure hc hf]
  rfl
theorem Mo.comp_each {f : β → Mo γ} {R : β → γ → Prop} {E : Ex → Prop} : ∀ {xs : List β} {Q : List γ → Prop}, (∀ x ∈ xs, (f x).run (R x) E) → (∀ ys, ys.length = xs.length → (∀ (i : Nat) (x : β) (y : γ), xs[i]? = some x → ys[i]? = some y → R x y) → Q ys) → (Mo.comp (fun _ => pure true) f xs).run Q E
  | [], Q, _, q => q [] rfl (by simp)
  | x :: xs, Q, hf, q => by
    unfold Mo.comp
    refine (f x).mono (fun y hy => ?_) (fun _ z => z) (hf x List.mem_cons_self)
    refine Mo.comp_each (fun z hz => hf z (List.mem_cons_of_mem _ hz)) fun ys h1 h2 => q (y :: ys) (by simp [h1]) fun i a b ha hb => ?_
    cases i with
    | zero => simp at ha hb; subst ha hb; exact hy
    | succ i => exact h2 i a b (by simpa using ha) (by simpa using hb)
def Lp.is {S : Type} (I B : S → Prop) (R : δ → Prop) : Lp S δ → Prop
  | .go s => I s
  | .brk s => B s
  | .ret a => R a
end
end RF
namespace RF
open PySem PySem.Spec PyProof.Rows L2 KO SX
section
variable {α β γ δ : Type} {X : Cx} {W : WX} {Γe Γ Γ' : Ctx} {lv : Bool} {e a b : Expr} {pos : Pos} {ρ : α → Pr}
def rQ (ρ : α → Pr) (xs : List α) : Pr := ⟨fun v F => ∃ a vs, v = .ref a ∧ (F a = some (.lst vs) ∨ Rd F a (.tup vs)) ∧ Ps F (xs.map ρ) vs, fun s ⟨a, vs, e, h, k⟩ => ⟨a, vs, e, h.imp (s _ _) (fun h => Rd.mono h s), k.mono s⟩⟩
end
end RF
namespace RF
open PySem PySem.Spec PyProof.Rows L2 KO SX
section
variable {α β γ δ : Type}
def Mo.disp : List (Str × (Ex → Mo α)) → Ex → (α → Prop) → (Ex → Prop) → Prop
  | [], ex, _, E => E ex
  | (cn, h) :: r, ex, Q, E => if ex.cls = cn then (h ex).run Q (fun _ => False) else Mo.disp r ex Q E
theorem Mo.disp_mono {Q Q' : α → Prop} {E E' : Ex → Prop} (hq : ∀ x, Q x → Q' x) (he : ∀ x, E x → E' x) : ∀ {hs : List (Str × (Ex → Mo α))} {ex : Ex}, Mo.disp hs ex Q E → Mo.disp hs ex Q' E'
  | [], ex, h => he _ h
  | (cn, h) :: r, ex, k => by
    unfold Mo.disp at k ⊢
    split
    · rename_i c
      rw [if_pos c] at k
      exact (h ex).mono hq (fun _ z => z) k
    · rename_i c
      rw [if_neg c] at k
      exact Mo.disp_mono hq he k
def Mo.catchN (m : Mo α) (ks : List Str) (hs : List (Str × (Ex → Mo α))) : Mo α := ⟨fun Q E => m.run Q fun ex => ex.cls ∈ ks ∧ Mo.disp hs ex Q E, fun {Q Q' E E'} hq he r => m.mono hq (fun ex hx => ⟨hx.1, Mo.disp_mono hq he hx.2⟩) r⟩
@[simp] theorem Mo.run_catchN {m : Mo α} {ks : List Str} {hs : List (Str × (Ex → Mo α))} {Q : α → Prop} {E : Ex → Prop} : (Mo.catchN m ks hs).run Q E = m.run Q fun ex => ex.cls ∈ ks ∧ Mo.disp hs ex Q E := rfl
variable {X : Cx} {W : WX} {Γe Γ Γ' : Ctx} {lv : Bool} {e : Expr} {st bst : Stmt} {rest body : List Stmt} {Z : γ → Fin} {pos : Pos}
inductive RHs (X : Cx) (Γ : Ctx) (Γj : δ → Ctx) (ks : List Str) : List (Value × Nat × (Addr → Value → Option Addr → TS)) → List (Str × (Ex → Mo δ)) → Prop where
  | nil : RHs X Γ Γj ks [] []
  | cons {Cc : Addr} {i : Nat} {cn : Str} {suite : List Stmt} {mh : Ex → Mo δ} {l : List (Value × Nat × (Addr → Value → Option Addr → TS))} {hs : List (Str × (Ex → Mo δ))} (hcn : X.mg cn = some (.ref Cc)) (hsub : PySem.W.exmOne X.K (.ref Cc) (.ref Cc) = some true)
    (hfls : ∀ n ∈ ks, n ≠ cn → ∀ C', X.mg n = some (.ref C') → PySem.W.exmOne X.K (.ref C') (.ref Cc) = some false)
    (hh : ∀ a oe d pn ex, ex.cls = cn → Zc (.ref Cc) d oe → (∃ vs, oe.data = .fields vs) → RB (X.suite a ((a, oe) :: pn)) W0 (List.replicate Γ.length .un) false (Γ.set i (.fz (exP a d ex))) suite (mh ex) (fun j => .nx (Γj j)))
    (hjs : ∀ j, Le (Γj j) ((Γj j).set i .un)) (hu : Le (List.replicate Γ.length .un) (Γ.set i .un)) (r : RHs X Γ Γj ks l hs) : RHs X Γ Γj ks ((.ref Cc, i, tTs X suite) :: l) ((cn, mh) :: hs)
theorem RHs.run {Γj : δ → Ctx} {ks : List Str} {l : List (Value × Nat × (Addr → Value → Option Addr → TS))} {hs : List (Str × (Ex → Mo δ))} (h : RHs X Γ Γj ks l hs) {G : Gf} {D : Ends} {σ : L2.St} {F H : Hp} {ex : Ex} {C : Addr} {d : Option Addr} {Q : δ → Prop} {E : Ex → Prop} (o : Ok G Γ σ F H) (hk : ex.cls ∈ ks) (hC : X.mg ex.cls = some (.ref C)) (z : ErrOk X.K X.mg ex (.ref C) d F)
    (key : ∀ j, Q j → ∀ σ2 F2 H2, Same G.F0 F2 → Ok G (Γj j) σ2 F2 H2 → D.nx σ2 H2) (out : E ex → W (.ref C) d σ H) (q : Mo.disp hs ex Q E) : wManyA X.K W D l (.ref C) d σ H := by
  induction h with
  | nil => exact out q
  | @cons Cc i cn suite mh l hs hcn hsub hfls hh hjs hu r ih =>
    show ∃ b, _
    by_cases c : ex.cls = cn
    · unfold Mo.disp at q
      rw [if_pos c] at q
      have hCC := hC
      rw [c, hcn] at hCC
      cases hCC
      refine ⟨true, hsub, fun _ a ha => ?_, fun h => by cases h⟩
      intro oe pn' hz hf
      refine hh a oe d pn' ex c hz hf (le_un hu) G _ F H { nx := _, rt := D.rt, bk := _, ct := _ } _ (fun _ => rfl) (o.toSuite (a := a) z) ((mh ex).mono (fun j hj' σ3 F3 H3 s3 o3 => ?_) (fun _ z => z.elim) q)
      have o4 := o3.forget i (v := none)
      exact key j hj' _ F3 H3 s3 (o4.weak (hjs j))
    · unfold Mo.disp at q
      rw [if_neg c] at q
      exact ⟨false, hfls _ hk c C hC, fun h => (by cases h), fun _ => ih q⟩
end
end RF
namespace RF
open PySem PySem.Spec PyProof.Rows L2 KO SX
section
variable {α β γ : Type} {X : Cx} {W : WX} {Γ : Ctx} {e a b c : Expr} {es : List Expr} {pos : Pos} {op op' : CmpOp} {ma mb mc : Mo Str} {mi : Mo Int}
structure SCmp (X : Cx) (op : CmpOp) (f : Str → Str → Bool) : Prop where
  h : ∃ r, OpR X (compareOp op) r ∧ ∀ (W : WX) (Γ : Ctx) (x y : Str), ROp X W Γ r (rS x) (rS y) (pure (f x y)) (.fz rB)
section
variable {f f' : Str → Str → Bool}
end
theorem calmE2 {G : Gf} {σ : L2.St} {F H : Hp} {Q : VK} {m : Mo Bool} (q : (Mo.calm m).run (NQ G Γ σ F H (.fz rB) Q) (EQ X W G Γ σ F H)) : m.run (NQ G Γ σ F H (.fz rB) fun v H' => ∃ c, v = .bl c ∧ Q (.bl c) H') (EQ X W0 G Γ σ F H) := m.mono (fun c h v F' H' o' g' z => by
    have z : v = .bl c := z
    subst z
    exact ⟨c, rfl, h _ F' H' o' g' rfl⟩) (fun _ z => z.elim) q
theorem pass_calm (tk : Takes X W) : ∀ σ, PassesAt (L2.CX X.prog X.w) X σ (fun _ _ _ => False) := fun σ pins H s e s' I h => tk e s' (XE.of_call I (fun _ _ _ z => z.elim) h)
theorem rc_eqO {k : Nat} {f C : Addr} {fd : FuncData} {ps : List Str} {m : α × β × Unit → Mo Bool} {mx : Mo α} {my : Mo β} {ρ : α → Pr} {ρ' : β → Pr} (fs : α → List (Str × Pr)) (fs' : β → List (Str × Pr)) (hm : Meth X.K C "__eq__" f) (Fn : FnOk X.prog X.w X.K X.mg X.base (L2.CX X.prog X.w) k f fd ps (spR X.K X.mg (fun (_ : Unit) (z : α × β × Unit) => [.fz (ρ z.1), .fz (ρ' z.2.1)]) m (.fz rB))) (hr : Room k X.A) (tk : Takes X W) (hb : Binds X.K fd ps [])
    (ha : RE X W Γ a mx (.fz ρ)) (hb2 : RE X W Γ b my (.fz ρ')) (hρ : ∀ x, ρ x = rIn C (fs x) := by intro _; rfl) (hρ' : ∀ x, ρ' x = rIn C (fs' x) := by intro _; rfl) : RC X W Γ .Eq a b (mx >>= fun x => my >>= fun y => Mo.calm (m (x, y, ()))) :=
  ⟨_, eq_own hm Fn hr hb (pass_calm tk), rte_two ha hb2 fun x y G σ F H Q u w o hu hw q => by
    have hu' := hu
    have hw' := hw
    rw [hρ x] at hu'
    rw [hρ' y] at hw'
    obtain ⟨p, dx, gs, rfl, h1, _⟩ := hu'
    obtain ⟨p2, dy, gs2, rfl, h2, _⟩ := hw'
    refine ⟨p, dx, gs, p2, dy, gs2, rfl, rfl, o.le _ _ h1, o.le _ _ h2, ?_⟩
    refine run_spR (W := W0) (Γ := Γ) (i := ()) (y := (x, y, ())) o ⟨rfl, fun i en v e1 e2 => ?_, fun i l a q h => ?_⟩ rfl (calmE2 q)
    · match i, e1, e2 with
      | 0, e1, e2 => cases e1; cases e2; exact hu
      | 1, e1, e2 => cases e1; cases e2; exact hw
    · match i, h with
      | 0, h => cases h
      | 1, h => cases h⟩
theorem re_isC {C : Addr} {p p2 : Pos} {n : Str} {mx : Mo α} {ρ : α → Pr} (fs : α → List (Str × Pr)) (ci : C8.InsC X.K C) (h : RE X W Γ e mx (.fz ρ)) (hn : PE X (.Name n p2) (tC (.ref C))) (hm : X.mg "isinstance" = none) (hρ : ∀ x, ρ x = rIn C (fs x) := by intro _; rfl) (hg : Gl X "isinstance" := by rfl)
    (he2 : starEach [.Name n p2] X.env = [(false, eval (.Name n p2) X.env)] := by rfl) (he : starEach [e, .Name n p2] X.env = (false, eval e X.env) :: starEach [.Name n p2] X.env := by rfl) (hpl : (backTo pos (starEach [.Name n p2] X.env)).any (·.1) = false := by rfl) :
    RE X W Γ (.Call (.Name "isinstance" p) [e, .Name n p2] [] pos) (mx >>= fun _ => pure true) (.fz rB) := by
  refine re_of (pe_callB (C8.call_isC ci) hg hm (by decide +kernel) (pa_cons peE (pa_cons hn pa_nil he2) he) (by decide) (by decide) he hpl) fun G σ F H Q o q => ?_
  refine h G σ F H _ o (mx.mono (fun x hx v F' H' o' g' z => ?_) (fun _ z => z) q)
  have z' : (ρ x).r v F' := z
  rw [hρ x] at z'
  obtain ⟨a, dx, gs, rfl, h1, _⟩ := z'
  exact ⟨a, dx, gs, rfl, o'.le _ _ h1, hx _ F' H' o' g' rfl⟩
end
end RF
namespace RF
open PySem PySem.Spec PyProof.Rows L2 KO SX
section
variable {α β γ δ ε ζ η θ : Type}
def rT6 (ρ : α → Pr) (σ : β → Pr) (τ : γ → Pr) (υ : δ → Pr) (φ : ε → Pr) (χ : ζ → Pr) (x : α × β × γ × δ × ε × ζ) : Pr := rTu [ρ x.1, σ x.2.1, τ x.2.2.1, υ x.2.2.2.1, φ x.2.2.2.2.1, χ x.2.2.2.2.2]
def rT7 (ρ : α → Pr) (σ : β → Pr) (τ : γ → Pr) (υ : δ → Pr) (φ : ε → Pr) (χ : ζ → Pr) (ψ : η → Pr) (x : α × β × γ × δ × ε × ζ × η) : Pr := rTu [ρ x.1, σ x.2.1, τ x.2.2.1, υ x.2.2.2.1, φ x.2.2.2.2.1, χ x.2.2.2.2.2.1, ψ x.2.2.2.2.2.2]
def rT8 (ρ : α → Pr) (σ : β → Pr) (τ : γ → Pr) (υ : δ → Pr) (φ : ε → Pr) (χ : ζ → Pr) (ψ : η → Pr) (ω : θ → Pr) (x : α × β × γ × δ × ε × ζ × η × θ) : Pr := rTu [ρ x.1, σ x.2.1, τ x.2.2.1, υ x.2.2.2.1, φ x.2.2.2.2.1, χ x.2.2.2.2.2.1, ψ x.2.2.2.2.2.2.1, ω x.2.2.2.2.2.2.2]
section
variable {ρ : α → Pr} {σ : β → Pr} {τ : γ → Pr} {υ : δ → Pr} {φ : ε → Pr} {χ : ζ → Pr} {ψ : η → Pr} {ω : θ → Pr}
section
variable [r : Enc ρ] [s : Enc σ] [t : Enc τ] [u : Enc υ] [w : Enc φ] [y : Enc χ] [z : Enc ψ] [z2 : Enc ω]
instance encT6 : Enc (rT6 ρ σ τ υ φ χ) := ⟨max r.n (max s.n (max t.n (max u.n (max w.n y.n)))) + 1, fun x => .tuple [r.d x.1, s.d x.2.1, t.d x.2.2.1, u.d x.2.2.2.1, w.d x.2.2.2.2.1, y.d x.2.2.2.2.2], fun x => r.ok x.1 ∧ s.ok x.2.1 ∧ t.ok x.2.2.1 ∧ u.ok x.2.2.2.1 ∧ w.ok x.2.2.2.2.1 ∧ y.ok x.2.2.2.2.2, fun {x v F} k h =>
  dt_tu rfl (by show 6 ≤ 1000; decide) h (all2 (.cons (fun v h => (r.is k.1 h).le (by omega)) (.cons (fun v h => (s.is k.2.1 h).le (by omega)) (.cons (fun v h => (t.is k.2.2.1 h).le (by omega)) (.cons (fun v h => (u.is k.2.2.2.1 h).le (by omega)) (.cons (fun v h => (w.is k.2.2.2.2.1 h).le (by omega)) (.cons (fun v h => (y.is k.2.2.2.2.2 h).le (by omega)) .nil)))))))⟩
instance encT7 : Enc (rT7 ρ σ τ υ φ χ ψ) := ⟨max r.n (max s.n (max t.n (max u.n (max w.n (max y.n z.n))))) + 1, fun x => .tuple [r.d x.1, s.d x.2.1, t.d x.2.2.1, u.d x.2.2.2.1, w.d x.2.2.2.2.1, y.d x.2.2.2.2.2.1, z.d x.2.2.2.2.2.2], fun x => r.ok x.1 ∧ s.ok x.2.1 ∧ t.ok x.2.2.1 ∧ u.ok x.2.2.2.1 ∧ w.ok x.2.2.2.2.1 ∧ y.ok x.2.2.2.2.2.1 ∧ z.ok x.2.2.2.2.2.2, fun {x v F} k h =>
  dt_tu rfl (by show 7 ≤ 1000; decide) h (all2 (.cons (fun v h => (r.is k.1 h).le (by omega)) (.cons (fun v h => (s.is k.2.1 h).le (by omega)) (.cons (fun v h => (t.is k.2.2.1 h).le (by omega)) (.cons (fun v h => (u.is k.2.2.2.1 h).le (by omega)) (.cons (fun v h => (w.is k.2.2.2.2.1 h).le (by omega)) (.cons (fun v h => (y.is k.2.2.2.2.2.1 h).le (by omega)) (.cons (fun v h => (z.is k.2.2.2.2.2.2 h).le (by omega)) .nil))))))))⟩
instance encT8 : Enc (rT8 ρ σ τ υ φ χ ψ ω) := ⟨max r.n (max s.n (max t.n (max u.n (max w.n (max y.n (max z.n z2.n)))))) + 1, fun x => .tuple [r.d x.1, s.d x.2.1, t.d x.2.2.1, u.d x.2.2.2.1, w.d x.2.2.2.2.1, y.d x.2.2.2.2.2.1, z.d x.2.2.2.2.2.2.1, z2.d x.2.2.2.2.2.2.2], fun x => r.ok x.1 ∧ s.ok x.2.1 ∧ t.ok x.2.2.1 ∧ u.ok x.2.2.2.1 ∧ w.ok x.2.2.2.2.1 ∧ y.ok x.2.2.2.2.2.1 ∧ z.ok x.2.2.2.2.2.2.1 ∧ z2.ok x.2.2.2.2.2.2.2, fun {x v F} k h =>
  dt_tu rfl (by show 8 ≤ 1000; decide) h (all2 (.cons (fun v h => (r.is k.1 h).le (by omega)) (.cons (fun v h => (s.is k.2.1 h).le (by omega)) (.cons (fun v h => (t.is k.2.2.1 h).le (by omega)) (.cons (fun v h => (u.is k.2.2.2.1 h).le (by omega)) (.cons (fun v h => (w.is k.2.2.2.2.1 h).le (by omega)) (.cons (fun v h => (y.is k.2.2.2.2.2.1 h).le (by omega)) (.cons (fun v h => (z.is k.2.2.2.2.2.2.1 h).le (by omega)) (.cons (fun v h => (z2.is k.2.2.2.2.2.2.2 h).le (by omega)) .nil)))))))))⟩
end
instance {ρ : α → Pr} : NN (rQ ρ) := ⟨fun x v F ⟨a, vs, e, _⟩ z => by subst z; cases e⟩
instance : NN (rT1 ρ) := ⟨fun x v F h => nn_tu h⟩
instance : NN (rT4 ρ σ τ υ) := ⟨fun x v F h => nn_tu h⟩
instance : NN (rT5 ρ σ τ υ φ) := ⟨fun x v F h => nn_tu h⟩
instance : NN (rT6 ρ σ τ υ φ χ) := ⟨fun x v F h => nn_tu h⟩
instance : NN (rT7 ρ σ τ υ φ χ ψ) := ⟨fun x v F h => nn_tu h⟩
instance : NN (rT8 ρ σ τ υ φ χ ψ ω) := ⟨fun x v F h => nn_tu h⟩
theorem nn_in {C : Addr} {fs : List (Str × Pr)} {v : V} {F : Hp} (h : (rIn C fs).r v F) : v ≠ .non := fun z => by
  obtain ⟨a, dx, gs, e, _⟩ := h
  subst z; cases e
instance [NL ρ] [NL σ] [NL τ] [NL υ] [NL φ] [NL χ] : NL (rT6 ρ σ τ υ φ χ) := ⟨fun {x} {v F a vs} h k => nl_T (nl_memc (nlr _) (nl_memc (nlr _) (nl_memc (nlr _) (nl_memc (nlr _) (nl_memc (nlr _) (nl_mem1 (nlr _))))))) h k⟩
end
end
section
variable {α β γ δ ε ζ α' β' γ' δ' ε' ζ' : Type} {ρ : α → Pr} {ρ' : α' → Pr} {σ : β → Pr} {σ' : β' → Pr} {τ : γ → Pr} {τ' : γ' → Pr} {υ : δ → Pr} {υ' : δ' → Pr} {φ : ε → Pr} {φ' : ε' → Pr} {χ : ζ → Pr} {χ' : ζ' → Pr}
inductive CoP (F : Hp) : List Pr → List Pr → Prop where
  | nil : CoP F [] []
  | cons {p q : Pr} {ps qs : List Pr} (h : ∀ v, p.r v F → q.r v F) (t : CoP F ps qs) : CoP F (p :: ps) (q :: qs)
theorem CoP.ps {F : Hp} : ∀ {ps qs : List Pr} {vs : List V}, CoP F ps qs → Ps F ps vs → Ps F qs vs
  | _, _, [], .nil, _ => trivial
  | _, _, v :: vs, .cons h t, k => ⟨h v k.1, t.ps k.2⟩
  | _, _, [], .cons _ _, k => k.elim
  | _, _, _ :: _, .nil, k => k.elim
end
section
variable {α β γ δ : Type} {X : Cx} {W : WX} {Γe Γ Γ' : Ctx} {lv : Bool} {e a b : Expr} {es : List Expr} {pos : Pos} {ρ : α → Pr} {m : Mo α}
class Dec (ρ : α → Pr) where
  d : PyData → Option α
  is : ∀ {x : PyData} {y : α} {v : V} {F : Hp} {n : Nat}, n ≤ 8 → d x = some y → Dt n F v x → (ρ y).r v F
def asS : PyData → Option Str
  | .str i => some i
  | _ => none
def asB : PyData → Option Bool
  | .bool i => some i
  | _ => none
theorem dt_pos {n : Nat} {F : Hp} {v : V} {x : PyData} (h : Dt n F v x) : ∃ k, n = k + 1 := by
  cases n with
  | zero => exact h.elim
  | succ k => exact ⟨k, rfl⟩
instance decI : Dec rI := ⟨asI, fun {x y v F n} hn e h => by
  obtain ⟨k, rfl⟩ := dt_pos h
  cases x with
  | int j => obtain rfl := Option.some.inj e; exact h
  | _ => cases e⟩
instance decS : Dec rS := ⟨asS, fun {x y v F n} hn e h => by
  obtain ⟨k, rfl⟩ := dt_pos h
  cases x with
  | str j => obtain rfl := Option.some.inj e; exact h
  | _ => cases e⟩
instance decB : Dec rB := ⟨asB, fun {x y v F n} hn e h => by
  obtain ⟨k, rfl⟩ := dt_pos h
  cases x with
  | bool j => obtain rfl := Option.some.inj e; exact h
  | _ => cases e⟩
instance decD : Dec rD := ⟨some, fun {x y v F n} hn e h => by
  obtain rfl := Option.some.inj e
  exact h.le hn⟩
instance decO {ρ : α → Pr} [s : Dec ρ] : Dec (rO ρ) := ⟨fun x => match x with | .none => some none | x => (s.d x).map some, fun {x y v F n} hn e h => by
  obtain ⟨k, rfl⟩ := dt_pos h
  cases x with
  | none => cases e; exact h
  | int _ => simp only [Option.map_eq_some_iff] at e; obtain ⟨a, e, rfl⟩ := e; exact s.is hn e h
  | bool _ => simp only [Option.map_eq_some_iff] at e; obtain ⟨a, e, rfl⟩ := e; exact s.is hn e h
  | str _ => simp only [Option.map_eq_some_iff] at e; obtain ⟨a, e, rfl⟩ := e; exact s.is hn e h
  | list _ => simp only [Option.map_eq_some_iff] at e; obtain ⟨a, e, rfl⟩ := e; exact s.is hn e h
  | tuple _ => simp only [Option.map_eq_some_iff] at e; obtain ⟨a, e, rfl⟩ := e; exact s.is hn e h
  | dict _ => exact h.elim⟩
theorem dec_ps {ρ : α → Pr} [s : Dec ρ] {F : Hp} {n : Nat} (hn : n ≤ 8) : ∀ {ds : List PyData} {ys : List α} {vs : List V}, ds.mapM s.d = some ys → vs.length = ds.length → (∀ (i : Nat) (x : V) (e : PyData), vs[i]? = some x → ds[i]? = some e → Dt n F x e) → Ps F (ys.map ρ) vs
  | [], ys, [], e, _, _ => by simp at e; subst e; trivial
  | d :: ds, ys, v :: vs, e, hl, h => by
    rw [List.mapM_cons] at e
    cases e1 : s.d d with
    | none => rw [e1] at e; simp at e
    | some y =>
      cases e2 : ds.mapM s.d with
      | none => rw [e1, e2] at e; simp at e
      | some zs =>
        rw [e1, e2] at e
        simp at e
        subst e
        exact ⟨s.is hn e1 (h 0 v d rfl rfl), dec_ps hn e2 (by simpa using hl) fun i x c h1 h2 => h (i + 1) x c (by simpa using h1) (by simpa using h2)⟩
  | [], _, _ :: _, _, hl, _ => by simp at hl
  | _ :: _, _, [], _, hl, _ => by simp at hl
instance decL {ρ : α → Pr} [s : Dec ρ] : Dec (rL ρ) := ⟨fun x => match x with | .list ds => ds.mapM s.d | _ => none, fun {x y v F n} hn e h => by
  obtain ⟨k, rfl⟩ := dt_pos h
  cases x with
  | list ds =>
    obtain ⟨a, xs, rfl, h1, h2, _, h3⟩ := h
    exact ⟨a, xs, rfl, h1, dec_ps (by omega) e h2 h3⟩
  | _ => cases e⟩
instance decTs {ρ : α → Pr} [s : Dec ρ] : Dec (rTs ρ) := ⟨fun x => match x with | .tuple ds => ds.mapM s.d | _ => none, fun {x y v F n} hn e h => by
  obtain ⟨k, rfl⟩ := dt_pos h
  cases x with
  | tuple ds =>
    obtain ⟨a, xs, rfl, h1, h2, _, h3⟩ := h
    exact ⟨a, xs, rfl, h1, dec_ps (by omega) e h2 h3⟩
  | _ => cases e⟩
class DecP (ps : List Pr) (ds : List PyData) : Prop where
  is : ∀ {vs : List V} {F : Hp}, Ps F (ds.map rD) vs → Ps F ps vs
section
variable {ε : Type} {ρ2 : β → Pr} {τ : γ → Pr} {υ : δ → Pr} {φ : ε → Pr} [r : Dec ρ] [s : Dec ρ2] [t : Dec τ] [u : Dec υ] [w : Dec φ]
def dT2 (ρ : α → Pr) (ρ2 : β → Pr) [r : Dec ρ] [s : Dec ρ2] : List PyData → Option (α × β)
  | [a, b] => do let a ← r.d a; let b ← s.d b; pure (a, b)
  | _ => none
theorem some_bind {A B : Type} {o : Option A} {f : A → Option B} {y : B} (h : (o >>= f) = some y) : ∃ a, o = some a ∧ f a = some y := by
  cases o with
  | none => cases h
  | some a => exact ⟨a, rfl, h⟩
end
end
end RF
namespace RF
open PySem PySem.Spec PyProof.Rows L2 KO SX
section
variable {α β γ δ : Type} {X : Cx} {W : WX} {Γe Γ Γ' : Ctx} {lv : Bool} {e a b : Expr} {es : List Expr} {pos : Pos}
section
variable {lo hi : Option Expr} {ml mh : Mo (Option Int)} {p2 : Pos}
end
end
end RF
namespace RF
open PySem PySem.Spec PyProof.Rows L2 KO SX
section
variable {α β γ δ : Type} {X : Cx} {W : WX} {Γ : Ctx} {e a b : Expr} {pos : Pos} {k : Nat} {f C : Addr} {fd : FuncData} {ps : List Str} {CX : CXT} {sp : Sp}
theorem arg1 {F H : Hp} {p : Pr} {v : V} (h : p.r v F) : ArgOk Γ F H [.fz p] [v] := ⟨rfl, fun i en u e1 e2 => by
  match i, e1, e2 with
  | 0, e1, e2 => cases e1; cases e2; exact h, fun i l a q h => by
  match i, h with
  | 0, h => cases h⟩
theorem re_lenO {p : Pos} {m : α × Unit → Mo Int} {mx : Mo α} {ρ : α → Pr} (fs : α → List (Str × Pr)) (hm : Meth X.K C "__len__" f) (Fn : FnOk X.prog X.w X.K X.mg X.base (L2.CX X.prog X.w) k f fd ps (spR X.K X.mg (fun (_ : Unit) (z : α × Unit) => [.fz (ρ z.1)]) m (.fz rI))) (hr : Room (k + 1) X.A) (tk : Takes X W) (hb : Binds X.K fd ps [])
    (ha : RE X W Γ e mx (.fz ρ)) (hms : X.mg "len" = none) (hρ : ∀ x, ρ x = rIn C (fs x) := by intro _; rfl) (hg : Gl X "len" := by rfl) (he : starEach [e] X.env = [(false, eval e X.env)] := by rfl) : RE X W Γ (.Call (.Name "len" p) [e] [] pos) (mx >>= fun x => Mo.calm (m (x, ())) >>= fun n => Mo.rq (0 ≤ n ∧ n < 2 ^ 63) n) (.fz rI) := by
  refine re_of (pe_callB (len_own hm Fn hr hb (pass_calm tk)) hg hms (by decide +kernel) (pa_cons peE pa_nil he) (by decide) (by decide) he rfl) fun G σ F H Q o q => ?_
  refine ha G σ F H _ o (mx.mono (fun x hx v F' H' o' g' z => ?_) (fun _ z => z) q)
  have z' : (ρ x).r v F' := z
  have z0 : (ρ x).r v F' := z
  rw [hρ x] at z'
  obtain ⟨ad, dx, gs, rfl, h1, _⟩ := z'
  refine ⟨ad, dx, gs, rfl, o'.le _ _ h1, ?_⟩
  have hx' : (Mo.calm (m (x, ()))).run (fun n => (0 ≤ n ∧ n < 2 ^ 63) ∧ NQ G Γ σ F' H' (.fz rI) Q n) (EQ X W0 G Γ σ F' H') := Mo.mono _ (fun n hn => ⟨hn.1, NQ.step g' hn.2⟩) (fun _ z => False.elim z) hx
  refine run_spR (W := W0) (Γ := Γ) (i := ()) (y := (x, ())) o' (arg1 z0) rfl ((m (x, ())).mono (fun n hn v F2 H2 o2 g2 z => ?_) (fun _ z => z.elim) hx')
  have z : v = .int n := z
  subst z
  exact ⟨n, rfl, hn.1.1, hn.1.2, hn.2 _ F2 H2 o2 g2 rfl⟩
end
end RF
namespace RF
open PySem PySem.Spec PyProof.Rows L2 KO SX
def tl (z : Str) : List Nat := z.cps.toList
section
variable {α : Type}
theorem atI_in {xs : List α} {i : Int} (h : 0 ≤ i) (h2 : i < xs.length) : ∃ x, atI xs i = some x ∧ xs[i.toNat]? = some x := by
  have h3 : i.toNat < xs.length := by omega
  refine ⟨xs[i.toNat], ?_, List.getElem?_eq_getElem h3⟩
  unfold atI ixN
  rw [if_pos h, if_pos h2]
  exact List.getElem?_eq_getElem h3
theorem cpow9 : CPow 10 9 := by unfold CPow; decide
theorem pow9 : ((10 : Int) ^ (9 : Int).toNat) = 1000000000 := by decide +kernel
end
def isw (z : Str) : Prop := (1 ≤ z.length ∧ z.length ≤ 8) ∧ ∀ c ∈ tl z, 97 ≤ c ∧ c ≤ 122
instance (z : Str) : Decidable (isw z) := by unfold isw; infer_instance
end RF
namespace RF
open PySem PySem.Spec PyProof.Rows L2 KO SX
theorem eqvAll_map {α : Type} {d : α → PyData} (h : ∀ x y, PyData.eqv (d x) (d y) = true ↔ x = y) : ∀ xs ys : List α, PyData.eqvAll (xs.map d) (ys.map d) = true ↔ xs = ys
  | [], [] => by simp [PyData.eqvAll]
  | x :: xs, [] => by simp [PyData.eqvAll]
  | [], y :: ys => by simp [PyData.eqvAll]
  | x :: xs, y :: ys => by simp [PyData.eqvAll, h, eqvAll_map h xs ys]
def Lay (n : Nat) (d : PyData) : Prop := d.canLay0 = true ∧ d.depth ≤ n
theorem lay_all {α : Type} {d : α → PyData} {n : Nat} : ∀ {xs : List α}, (∀ x ∈ xs, Lay n (d x)) → PyData.canLayAll0 (xs.map d) = true ∧ PyData.depthAll (xs.map d) ≤ n
  | [], _ => by simp [PyData.canLayAll0, PyData.depthAll]
  | x :: xs, h => by
    have h1 := h x List.mem_cons_self
    have h2 := lay_all fun y hy => h y (List.mem_cons_of_mem _ hy)
    simp [PyData.canLayAll0, PyData.depthAll]
    exact ⟨⟨h1.1, h2.1⟩, Nat.max_le.mpr ⟨h1.2, h2.2⟩⟩
theorem lay_tup {n : Nat} {ds : List PyData} (h : ∀ d ∈ ds, Lay n d) : Lay (n + 1) (.tuple ds) := by
  have := lay_all (d := fun d => d) (n := n) h
  rw [List.map_id'] at this
  exact ⟨by simp [PyData.canLay0, this.1], by simp [PyData.depth, this.2]⟩
theorem lay_lst {n : Nat} {ds : List PyData} (h : ∀ d ∈ ds, Lay n d) : Lay (n + 1) (.list ds) := by
  have := lay_all (d := fun d => d) (n := n) h
  rw [List.map_id'] at this
  exact ⟨by simp [PyData.canLay0, this.1], by simp [PyData.depth, this.2]⟩
theorem Lay.le {n m : Nat} {d : PyData} (h : Lay n d) (k : n ≤ m) : Lay m d := ⟨h.1, by have := h.2; omega⟩
theorem Lay.shaped {n : Nat} {d : PyData} (h : Lay n d) (k : n ≤ 64) : SeqAt.shaped d = true := by
  unfold SeqAt.shaped
  rw [h.1, Bool.true_and]
  have := h.2
  simp; omega
class EqE {α : Type} (ρ : α → Pr) extends Enc ρ where
  k : α → Prop
  kok : ∀ {x}, k x → ok x
  lay : ∀ {x}, k x → Lay n (d x)
  eqv : ∀ x y, PyData.eqv (d x) (d y) = true ↔ x = y
section
variable {α β γ δ ε ζ : Type}
instance eqI : EqE rI := { encI with k := fun _ => True, kok := fun h => h, lay := fun _ => ⟨by show PyData.canLay0 (.int _) = true; simp [PyData.canLay0], by show PyData.depth (.int _) ≤ _; simp [PyData.depth]⟩, eqv := fun x y => by show PyData.eqv (.int x) (.int y) = true ↔ _; simp [PyData.eqv] }
instance eqB : EqE rB := { encB with k := fun _ => True, kok := fun h => h, lay := fun _ => ⟨by show PyData.canLay0 (.bool _) = true; simp [PyData.canLay0], by show PyData.depth (.bool _) ≤ _; simp [PyData.depth]⟩, eqv := fun x y => by show PyData.eqv (.bool x) (.bool y) = true ↔ _; simp [PyData.eqv] }
instance eqN : EqE rN := { encN with k := fun _ => True, kok := fun h => h, lay := fun _ => ⟨by show PyData.canLay0 .none = true; simp [PyData.canLay0], by show PyData.depth .none ≤ _; simp [PyData.depth]⟩, eqv := fun x y => by show PyData.eqv .none .none = true ↔ _; simp [PyData.eqv] }
instance eqS : EqE rS := { encS with k := fun x => PyData.strOk x = true, kok := fun _ => trivial, lay := fun h => ⟨by show PyData.canLay0 (.str _) = true; simpa [PyData.canLay0] using h, by show PyData.depth (.str _) ≤ _; simp [PyData.depth]⟩, eqv := fun x y => by show PyData.eqv (.str x) (.str y) = true ↔ _; simp [PyData.eqv] }
class NoN {α : Type} (ρ : α → Pr) [Enc ρ] : Prop where
  nn : ∀ x, PyData.eqv (Enc.d ρ x) .none = false ∧ PyData.eqv .none (Enc.d ρ x) = false
instance : NoN rI := ⟨fun x => by constructor <;> simp [Enc.d, PyData.eqv]⟩
instance : NoN rB := ⟨fun x => by constructor <;> simp [Enc.d, PyData.eqv]⟩
instance : NoN rS := ⟨fun x => by constructor <;> simp [Enc.d, PyData.eqv]⟩
section
variable {ρ : α → Pr} {σ : β → Pr} {τ : γ → Pr} {υ : δ → Pr} {φ : ε → Pr} {χ : ζ → Pr}
instance [Enc ρ] : NoN (rL ρ) := ⟨fun x => by constructor <;> simp [Enc.d, PyData.eqv]⟩
instance [Enc ρ] : NoN (rTs ρ) := ⟨fun x => by constructor <;> simp [Enc.d, PyData.eqv]⟩
instance [Enc ρ] [Enc σ] : NoN (rT2 ρ σ) := ⟨fun x => by constructor <;> simp [Enc.d, PyData.eqv]⟩
instance [Enc ρ] [Enc σ] [Enc τ] : NoN (rT3 ρ σ τ) := ⟨fun x => by constructor <;> simp [Enc.d, PyData.eqv]⟩
instance [Enc ρ] [Enc σ] [Enc τ] [Enc υ] : NoN (rT4 ρ σ τ υ) := ⟨fun x => by constructor <;> simp [Enc.d, PyData.eqv]⟩
instance [Enc ρ] [Enc σ] [Enc τ] [Enc υ] [Enc φ] : NoN (rT5 ρ σ τ υ φ) := ⟨fun x => by constructor <;> simp [Enc.d, PyData.eqv]⟩
instance [Enc ρ] [Enc σ] [Enc τ] [Enc υ] [Enc φ] [Enc χ] : NoN (rT6 ρ σ τ υ φ χ) := ⟨fun x => by constructor <;> simp [Enc.d, PyData.eqv]⟩
instance eqO [s : EqE ρ] [NoN ρ] : EqE (rO ρ) := { encO (ρ := ρ) with
  k := fun o => match o with | none => True | some x => s.k x
  kok := fun {x} h => by cases x with
    | none => exact h
    | some x => exact s.kok h
  lay := fun {x} h => by cases x with
    | none => exact ⟨by show PyData.canLay0 .none = true; simp [PyData.canLay0], by show PyData.depth .none ≤ _; simp [PyData.depth]⟩
    | some x => exact (s.lay h).le (Nat.le_succ _)
  eqv := fun x y => by
    cases x with
    | none => cases y with
      | none => show PyData.eqv .none .none = true ↔ _; simp [PyData.eqv]
      | some y => show PyData.eqv .none (s.d y) = true ↔ _; rw [show PyData.eqv .none (s.d y) = false from (NoN.nn (ρ := ρ) y).2]; simp
    | some x => cases y with
      | none => show PyData.eqv (s.d x) .none = true ↔ _; rw [show PyData.eqv (s.d x) .none = false from (NoN.nn (ρ := ρ) x).1]; simp
      | some y => show PyData.eqv (s.d x) (s.d y) = true ↔ _; rw [s.eqv]; simp }
instance eqL [s : EqE ρ] : EqE (rL ρ) := { encL (ρ := ρ) with
  k := fun xs => xs.length ≤ 1000 ∧ ∀ x ∈ xs, s.k x
  kok := fun h => ⟨h.1, fun x hx => s.kok (h.2 x hx)⟩
  lay := fun h => lay_lst fun d hd => by
    obtain ⟨x, hx, rfl⟩ := List.mem_map.mp hd
    exact s.lay (h.2 x hx)
  eqv := fun x y => by show PyData.eqv (.list (x.map s.d)) (.list (y.map s.d)) = true ↔ _; simp only [PyData.eqv]; exact eqvAll_map s.eqv x y }
instance eqTs [s : EqE ρ] : EqE (rTs ρ) := { encTs (ρ := ρ) with
  k := fun xs => xs.length ≤ 1000 ∧ ∀ x ∈ xs, s.k x
  kok := fun h => ⟨h.1, fun x hx => s.kok (h.2 x hx)⟩
  lay := fun h => lay_tup fun d hd => by
    obtain ⟨x, hx, rfl⟩ := List.mem_map.mp hd
    exact s.lay (h.2 x hx)
  eqv := fun x y => by show PyData.eqv (.tuple (x.map s.d)) (.tuple (y.map s.d)) = true ↔ _; simp only [PyData.eqv]; exact eqvAll_map s.eqv x y }
theorem mem1 {P : PyData → Prop} {d : PyData} (h : P d) : ∀ e ∈ [d], P e := fun e he => by rw [List.mem_singleton.mp he]; exact h
theorem memc {P : PyData → Prop} {d : PyData} {ds : List PyData} (h : P d) (k : ∀ e ∈ ds, P e) : ∀ e ∈ d :: ds, P e := fun e he => by
  rcases List.mem_cons.mp he with q | q
  · rw [q]; exact h
  · exact k e q
variable [r : EqE ρ] [s : EqE σ] [t : EqE τ] [u : EqE υ] [w : EqE φ] [z : EqE χ]
instance eqT1 : EqE (rT1 ρ) := { encT1 (ρ := ρ) with
  k := fun x => r.k x, kok := fun h => r.kok h, lay := fun h => lay_tup (mem1 (r.lay h)), eqv := fun x y => by show PyData.eqv (.tuple [r.d x]) (.tuple [r.d y]) = true ↔ _; simp [PyData.eqv, PyData.eqvAll, r.eqv] }
instance eqT2 : EqE (rT2 ρ σ) := { encT2 (ρ := ρ) (σ := σ) with
  k := fun x => r.k x.1 ∧ s.k x.2
  kok := fun h => ⟨r.kok h.1, s.kok h.2⟩
  lay := fun h => lay_tup (memc ((r.lay h.1).le (by omega)) (mem1 ((s.lay h.2).le (by omega))))
  eqv := fun x y => by obtain ⟨x1, x2⟩ := x; obtain ⟨y1, y2⟩ := y; show PyData.eqv (.tuple [r.d x1, s.d x2]) (.tuple [r.d y1, s.d y2]) = true ↔ _; simp [PyData.eqv, PyData.eqvAll, r.eqv, s.eqv] }
instance eqT3 : EqE (rT3 ρ σ τ) := { encT3 (ρ := ρ) (σ := σ) (τ := τ) with
  k := fun x => r.k x.1 ∧ s.k x.2.1 ∧ t.k x.2.2
  kok := fun h => ⟨r.kok h.1, s.kok h.2.1, t.kok h.2.2⟩
  lay := fun h => lay_tup (memc ((r.lay h.1).le (by omega)) (memc ((s.lay h.2.1).le (by omega)) (mem1 ((t.lay h.2.2).le (by omega)))))
  eqv := fun x y => by obtain ⟨x1, x2, x3⟩ := x; obtain ⟨y1, y2, y3⟩ := y; show PyData.eqv (.tuple [r.d x1, s.d x2, t.d x3]) (.tuple [r.d y1, s.d y2, t.d y3]) = true ↔ _; simp [PyData.eqv, PyData.eqvAll, r.eqv, s.eqv, t.eqv] }
instance eqT4 : EqE (rT4 ρ σ τ υ) := { encT4 (ρ := ρ) (σ := σ) (τ := τ) (υ := υ) with
  k := fun x => r.k x.1 ∧ s.k x.2.1 ∧ t.k x.2.2.1 ∧ u.k x.2.2.2
  kok := fun h => ⟨r.kok h.1, s.kok h.2.1, t.kok h.2.2.1, u.kok h.2.2.2⟩
  lay := fun h => lay_tup (memc ((r.lay h.1).le (by omega)) (memc ((s.lay h.2.1).le (by omega)) (memc ((t.lay h.2.2.1).le (by omega)) (mem1 ((u.lay h.2.2.2).le (by omega))))))
  eqv := fun x y => by obtain ⟨x1, x2, x3, x4⟩ := x; obtain ⟨y1, y2, y3, y4⟩ := y; show PyData.eqv (.tuple [r.d x1, s.d x2, t.d x3, u.d x4]) (.tuple [r.d y1, s.d y2, t.d y3, u.d y4]) = true ↔ _; simp [PyData.eqv, PyData.eqvAll, r.eqv, s.eqv, t.eqv, u.eqv] }
instance eqT5 : EqE (rT5 ρ σ τ υ φ) := { encT5 (ρ := ρ) (σ := σ) (τ := τ) (υ := υ) (φ := φ) with
  k := fun x => r.k x.1 ∧ s.k x.2.1 ∧ t.k x.2.2.1 ∧ u.k x.2.2.2.1 ∧ w.k x.2.2.2.2
  kok := fun h => ⟨r.kok h.1, s.kok h.2.1, t.kok h.2.2.1, u.kok h.2.2.2.1, w.kok h.2.2.2.2⟩
  lay := fun h => lay_tup (memc ((r.lay h.1).le (by omega)) (memc ((s.lay h.2.1).le (by omega)) (memc ((t.lay h.2.2.1).le (by omega)) (memc ((u.lay h.2.2.2.1).le (by omega)) (mem1 ((w.lay h.2.2.2.2).le (by omega)))))))
  eqv := fun x y => by obtain ⟨x1, x2, x3, x4, x5⟩ := x; obtain ⟨y1, y2, y3, y4, y5⟩ := y; show PyData.eqv (.tuple [r.d x1, s.d x2, t.d x3, u.d x4, w.d x5]) (.tuple [r.d y1, s.d y2, t.d y3, u.d y4, w.d y5]) = true ↔ _; simp [PyData.eqv, PyData.eqvAll, r.eqv, s.eqv, t.eqv, u.eqv, w.eqv] }
instance eqT6 : EqE (rT6 ρ σ τ υ φ χ) := { encT6 (ρ := ρ) (σ := σ) (τ := τ) (υ := υ) (φ := φ) (χ := χ) with
  k := fun x => r.k x.1 ∧ s.k x.2.1 ∧ t.k x.2.2.1 ∧ u.k x.2.2.2.1 ∧ w.k x.2.2.2.2.1 ∧ z.k x.2.2.2.2.2
  kok := fun h => ⟨r.kok h.1, s.kok h.2.1, t.kok h.2.2.1, u.kok h.2.2.2.1, w.kok h.2.2.2.2.1, z.kok h.2.2.2.2.2⟩
  lay := fun h => lay_tup (memc ((r.lay h.1).le (by omega)) (memc ((s.lay h.2.1).le (by omega)) (memc ((t.lay h.2.2.1).le (by omega)) (memc ((u.lay h.2.2.2.1).le (by omega)) (memc ((w.lay h.2.2.2.2.1).le (by omega)) (mem1 ((z.lay h.2.2.2.2.2).le (by omega))))))))
  eqv := fun x y => by obtain ⟨x1, x2, x3, x4, x5, x6⟩ := x; obtain ⟨y1, y2, y3, y4, y5, y6⟩ := y; show PyData.eqv (.tuple [r.d x1, s.d x2, t.d x3, u.d x4, w.d x5, z.d x6]) (.tuple [r.d y1, s.d y2, t.d y3, u.d y4, w.d y5, z.d y6]) = true ↔ _; simp [PyData.eqv, PyData.eqvAll, r.eqv, s.eqv, t.eqv, u.eqv, w.eqv, z.eqv] }
end
end
section
variable {α β γ δ : Type} {X : Cx} {W : WX} {Γ : Ctx} {e a b : Expr} {pos : Pos} {ρ : α → Pr}
def Eqk (ρ : α → Pr) [s : EqE ρ] (x : α) : Prop := s.k x
theorem dp_of [s : EqE ρ] {K : PySem.W.Frag} {F H : Hp} {x : α} {v : V} (h : (ρ x).r v F) (k : s.k x) (le : Same F H) : Dp K H v (s.d x) := ((s.is (s.kok k) h).mono le).dp
variable [s : EqE ρ] [DecidableEq α] {ma mb : Mo α}
theorem rc_eqE (hu : X.A.units + 64 < cLine) (hn : s.n ≤ 64 := by decide) (ha : RE X W Γ a ma (.fz ρ)) (hb : RE X W Γ b mb (.fz ρ)) : RC X W Γ .Eq a b (ma >>= fun x => mb >>= fun y => Mo.rq (Eqk ρ x ∧ Eqk ρ y) (decide (x = y))) :=
  ⟨_, op_eqD hu, rte_two ha hb fun x y G σ F H Q u w o hu hw q => by
    refine ⟨_, _, dp_of hu q.1.1 o.le, dp_of hw q.1.2 o.le, (s.lay q.1.1).shaped hn, (s.lay q.1.2).shaped hn, ?_⟩
    have e : PyData.eqv (s.d x) (s.d y) = decide (x = y) := by rw [Bool.eq_iff_iff, s.eqv]; simp
    rw [e]
    exact NQ.here (ρ := rB) q.2 o rfl⟩
variable {ml : Mo (List α)}
end
end RF
namespace RF
open PySem PySem.Spec PyProof.Rows L2 KO SX
theorem tyx_tup {K : PySem.W.Frag} {H : Hp} {a : Addr} {vs : List V} (h : Rd H a (.tup vs)) : TyX K H (.ref a) (.type "tuple") := by
  rcases h with h | ⟨o, h⟩
  · exact .base (.tup h)
  · exact .fTuple h
section
variable {α β γ δ ε ζ : Type} {X : Cx} {W : WX} {Γe Γ Γ' : Ctx} {lv : Bool} {e a b : Expr} {es : List Expr} {pos : Pos}
class Kn (ρ : α → Pr) where
  t : String
  is : ∀ {K : PySem.W.Frag} {x : α} {v : V} {F H : Hp}, Same F H → (ρ x).r v F → TyX K H v (.type t)
instance : Kn rI := ⟨"int", fun _ h => by obtain rfl : _ = V.int _ := h; exact .base (.int _)⟩
instance : Kn rB := ⟨"bool", fun _ h => by obtain rfl : _ = V.bl _ := h; exact .base (.bl _)⟩
instance : Kn rS := ⟨"str", fun _ h => by obtain rfl : _ = V.str _ := h; exact .base (.str _)⟩
instance {ρ : α → Pr} : Kn (rL ρ) := ⟨"list", fun s ⟨a, vs, e, h, _⟩ => by subst e; exact .base (.lst (s _ _ h))⟩
instance {ρ : α → Pr} : Kn (rTs ρ) := ⟨"tuple", fun s ⟨a, vs, e, h, _⟩ => by subst e; exact tyx_tup (Rd.mono h s)⟩
theorem kn_tu {K : PySem.W.Frag} {ps : List Pr} {v : V} {F H : Hp} (s : Same F H) (h : (rTu ps).r v F) : TyX K H v (.type "tuple") := by
  obtain ⟨a, vs, e, h, _⟩ := h
  subst e
  exact tyx_tup (Rd.mono h s)
section
variable {ρ : α → Pr} {σ : β → Pr} {τ : γ → Pr} {υ : δ → Pr} {φ : ε → Pr} {χ : ζ → Pr}
instance : Kn (rT1 ρ) := ⟨"tuple", fun s h => kn_tu s h⟩
instance : Kn (rT2 ρ σ) := ⟨"tuple", fun s h => kn_tu s h⟩
instance : Kn (rT3 ρ σ τ) := ⟨"tuple", fun s h => kn_tu s h⟩
instance : Kn (rT4 ρ σ τ υ) := ⟨"tuple", fun s h => kn_tu s h⟩
instance : Kn (rT5 ρ σ τ υ φ) := ⟨"tuple", fun s h => kn_tu s h⟩
instance : Kn (rT6 ρ σ τ υ φ χ) := ⟨"tuple", fun s h => kn_tu s h⟩
end
section
variable {st : Stmt} {rest : List Stmt} {Z : γ → Fin} {i : Nat} {n : Int} {me : Mo Int} {mr : Int → Mo γ}
end
end
end RF
namespace RF
open PySem PySem.Spec PyProof.Rows L2 KO SX
structure FunB (P : Program) (w : World) (K : PySem.W.Frag) (mg : Str → Option Value) (base : Heap) (x qual : Str) (st : Stmt) (f : Addr) (fd : FuncData) : Prop where
  okX : ∀ {N ps : List Str} {k : Nat} {sp : Sp} (S : FnScope N ps (defScope st)) (len : ∀ vs H Q E, sp vs H Q E → vs.length = ps.length)
    (hbody : ∀ (cdv : Value) (A : Around) (outer : List Env) (s : Shared) (H : Hp) (vs : List V) (Q : VK) (E : XK), Room k (A.deeper (envOfC qual (defScope st) s.heap.objs.size f cdv)) → sp vs H Q E →
      ∃ t, PSs (cxOf (L2.CX P w) P w K mg base N qual (defScope st) f cdv A outer s H E) (defBody st) t ∧ t { nx := fun _ H' => Q .non H', rt := Q } (L2.start N vs) H), FnOk P w K mg base (L2.CX P w) (k + 1) f fd ps sp
section
variable {α β γ δ : Type} {X : Cx} {W : WX} {Γe Γ Γ' : Ctx} {lv : Bool} {e : Expr} {es : List Expr}
end
section
variable {β γ : Type}
end
section
variable {α β γ δ : Type} {X : Cx} {W : WX} {Γ : Ctx} {a : Expr} {pos p2 apos : Pos} {n : Str} {ws : List Str} {ma : Mo Str} {tp : Addr}
end
end RF
namespace RF
open PySem PySem.Spec PyProof.Rows L2 KO SX
section
variable {α β γ δ : Type}
def Lp.of {S : Type} (s : S) : Option δ → Lp S δ
  | some r => .ret r
  | none => .go s
theorem rangeL_len {lo : Int} {n : Nat} : (rangeL lo n).length = n := by simp [rangeL]
theorem rangeL_mem {lo x : Int} {n : Nat} : x ∈ rangeL lo n ↔ lo ≤ x ∧ x < lo + n := by
  unfold rangeL
  rw [List.mem_map]
  constructor
  · rintro ⟨i, hi, rfl⟩
    have := List.mem_range.mp hi
    omega
  · rintro ⟨h1, h2⟩
    exact ⟨(x - lo).toNat, List.mem_range.mpr (by omega), by omega⟩
theorem rangeL_at {lo : Int} {n i : Nat} (h : i < n) : (rangeL lo n)[i]? = some (lo + i) := by
  unfold rangeL
  rw [List.getElem?_map, List.getElem?_range h]
  rfl
theorem Mo.lc_map {f : β → Mo γ} {g : β → γ} {xs : List β} (hl : xs.length ≤ sizeLine) (hf : ∀ x ∈ xs, f x = pure (g x)) : Mo.lc (fun _ => pure true) f xs = pure (xs.map g) := by
  rw [Mo.lc_pure (p := fun _ => true) (g := g) hl (fun _ _ => rfl) (fun x hx _ => hf x hx), List.filter_eq_self.mpr (by simp)]
theorem Mo.lc_each {f : β → Mo γ} {R : β → γ → Prop} {E : Ex → Prop} {xs : List β} {Q : List γ → Prop} (hl : xs.length ≤ sizeLine) (hf : ∀ x ∈ xs, (f x).run (R x) (fun _ => False)) (q : ∀ ys, ys.length = xs.length → (∀ (i : Nat) (x : β) (y : γ), xs[i]? = some x → ys[i]? = some y → R x y) → Q ys) : (Mo.lc (fun _ => pure true) f xs).run Q E :=
  ⟨hl, Mo.comp_each hf q⟩
end
end RF
namespace RF
open PySem PySem.Spec PyProof.Rows L2 KO SX
section
variable {X : Cx} {W : WX} {Γ : Ctx} {a : Expr} {ma : Mo Str} {pos : Pos}
end
end RF
namespace RF
open PySem PySem.Spec PyProof.Rows L2 KO SX
section
variable {α : Type} {X : Cx} {W : WX} {Γ : Ctx} {e : Expr} {ρ : α → Pr}
end
end RF
namespace RF
open PySem PySem.Spec PyProof.Rows L2 KO SX
section
variable {α β : Type} {X : Cx} {W : WX} {Γ : Ctx} {e : Expr} {es : List Expr} {ρ : α → Pr} {dd : Addr} {pos p : Pos}
end
section
variable {X : Cx} {CX : CXT} {k : Nat} {f C : Addr} {fd : FuncData} {ps : List Str} {sp : Sp} {E : L2.St → XK} {dvs : List V} {ds : List Value}
end
section
variable {α β γ : Type} {X : Cx} {W : WX} {Γ : Ctx} {e : Expr} {es : List Expr} {k : Nat} {f C : Addr} {fd : FuncData} {ps : List Str} {pp : α → Ctx} {m : α → Mo γ} {fo : γ → List (Str × Pr)} {ma : Mo β} {x : Str} {p pos : Pos}
end
end RF
namespace RF
open PySem PySem.Spec PyProof.Rows L2 KO SX
section
variable {α β γ : Type} {X : Cx} {W : WX} {Γ : Ctx} {a b : Expr} {ρ : α → Pr} {dd : Addr} {pos p2 : Pos} {lo hi : Option Expr} {ml mh : Mo (Option Int)}
variable [s : EqE ρ] [DecidableEq α] {ma : Mo α} {mq : Mo (List α)}
def rT0 (_ : Unit) : Pr := rTu []
end
end RF
namespace GQ
open PySem PySem.SeqAt
open AutoSeq1 (wpAny_loadPart')
open MeetsSeq MeetsSeq2 MeetsSeq3 SeqRoads2
section
variable {prog : Program} {w : World} {A : Around} {R : Result → Shared → Prop}
end
section
variable {prog : Program} {w : World} {A : Around} {E : Value → Shared → Prop} {s : Shared}
end
end GQ
namespace RF
open PySem PySem.Spec PyProof.Rows L2 KO SX
section
variable {X : Cx} {CX : CXT} {k : Nat} {f C : Addr} {fd : FuncData} {ps : List Str} {sp : Sp} {E : XK}
end
class FI {α : Type} (ρ : α → Pr) : Prop where
  inj : ∀ {x y : α} {v : V} {F : Hp}, (ρ x).r v F → (ρ y).r v F → x = y
section
variable {α β γ δ ε ζ : Type} {ρ : α → Pr} {σ : β → Pr} {τ : γ → Pr} {υ : δ → Pr} {φ : ε → Pr} {χ : ζ → Pr} {F : Hp}
instance : FI rI := ⟨fun {x y v F} h k => by have h : v = V.int x := h; have k : v = V.int y := k; rw [h] at k; injection k⟩
instance : FI rB := ⟨fun {x y v F} h k => by have h : v = V.bl x := h; have k : v = V.bl y := k; rw [h] at k; injection k⟩
instance : FI rS := ⟨fun {x y v F} h k => by have h : v = V.str x := h; have k : v = V.str y := k; rw [h] at k; injection k⟩
instance : FI rN := ⟨fun {x y v F} h k => rfl⟩
theorem Ps.inj [FI ρ] : ∀ {xs ys : List α} {vs : List V}, Ps F (xs.map ρ) vs → Ps F (ys.map ρ) vs → xs = ys
  | [], [], [], _, _ => rfl
  | x :: xs, y :: ys, v :: vs, h, k => by rw [FI.inj h.1 k.1, Ps.inj h.2 k.2]
  | [], _ :: _, [], _, k => k.elim
  | _ :: _, [], [], h, _ => h.elim
  | [], _, _ :: _, h, _ => h.elim
  | _, [], _ :: _, _, k => k.elim
  | _ :: _, _ :: _, [], h, _ => h.elim
theorem rLu_at {ps : List Pr} {v : V} (h : (rLu ps).r v F) : ∃ a vs, v = .ref a ∧ F a = some (.lst vs) ∧ Ps F ps vs := h
theorem rTu_at {ps : List Pr} {v : V} (h : (rTu ps).r v F) : ∃ a vs, v = .ref a ∧ Rd F a (.tup vs) ∧ Ps F ps vs := h
theorem rTu_two {ps qs : List Pr} {v : V} (h : (rTu ps).r v F) (k : (rTu qs).r v F) : ∃ vs, Ps F ps vs ∧ Ps F qs vs := by
  obtain ⟨a, vs, rfl, h1, h2⟩ := rTu_at h
  obtain ⟨b, us, e, k1, k2⟩ := rTu_at k
  cases e
  have hv : vs = us := by
    rcases h1 with h1 | ⟨o, h1⟩ <;> rcases k1 with k1 | ⟨o', k1⟩ <;> rw [h1] at k1 <;> cases k1 <;> rfl
  subst hv
  exact ⟨vs, h2, k2⟩
theorem rLu_two {ps qs : List Pr} {v : V} (h : (rLu ps).r v F) (k : (rLu qs).r v F) : ∃ vs, Ps F ps vs ∧ Ps F qs vs := by
  obtain ⟨a, vs, rfl, h1, h2⟩ := rLu_at h
  obtain ⟨b, us, e, k1, k2⟩ := rLu_at k
  cases e
  rw [h1] at k1
  cases k1
  exact ⟨vs, h2, k2⟩
instance [FI ρ] : FI (rL ρ) := ⟨fun h k => by obtain ⟨vs, h, k⟩ := rLu_two h k; exact Ps.inj h k⟩
instance [FI ρ] : FI (rTs ρ) := ⟨fun h k => by obtain ⟨vs, h, k⟩ := rTu_two h k; exact Ps.inj h k⟩
theorem ps_two {p q : Pr} {ps qs : List Pr} {vs : List V} (h : Ps F (p :: ps) vs) (k : Ps F (q :: qs) vs) : ∃ v us, p.r v F ∧ q.r v F ∧ Ps F ps us ∧ Ps F qs us := by
  match vs, h, k with
  | v :: vs, h, k => exact ⟨v, vs, h.1, k.1, h.2, k.2⟩
instance [FI ρ] [FI σ] : FI (rT2 ρ σ) := ⟨fun {x y v F} h k => by
  obtain ⟨vs, h, k⟩ := rTu_two h k
  obtain ⟨_, _, a1, b1, h, k⟩ := ps_two h k
  obtain ⟨_, _, a2, b2, h, k⟩ := ps_two h k
  exact Prod.ext (FI.inj a1 b1) (FI.inj a2 b2)⟩
instance [FI ρ] [FI σ] [FI τ] : FI (rT3 ρ σ τ) := ⟨fun {x y v F} h k => by
  obtain ⟨vs, h, k⟩ := rTu_two h k
  obtain ⟨_, _, a1, b1, h, k⟩ := ps_two h k
  obtain ⟨_, _, a2, b2, h, k⟩ := ps_two h k
  obtain ⟨_, _, a3, b3, h, k⟩ := ps_two h k
  exact Prod.ext (FI.inj a1 b1) (Prod.ext (FI.inj a2 b2) (FI.inj a3 b3))⟩
instance [FI ρ] [FI σ] [FI τ] [FI υ] : FI (rT4 ρ σ τ υ) := ⟨fun {x y v F} h k => by
  obtain ⟨vs, h, k⟩ := rTu_two h k
  obtain ⟨_, _, a1, b1, h, k⟩ := ps_two h k
  obtain ⟨_, _, a2, b2, h, k⟩ := ps_two h k
  obtain ⟨_, _, a3, b3, h, k⟩ := ps_two h k
  obtain ⟨_, _, a4, b4, h, k⟩ := ps_two h k
  exact Prod.ext (FI.inj a1 b1) (Prod.ext (FI.inj a2 b2) (Prod.ext (FI.inj a3 b3) (FI.inj a4 b4)))⟩
instance [FI ρ] [FI σ] [FI τ] [FI υ] [FI φ] [FI χ] : FI (rT6 ρ σ τ υ φ χ) := ⟨fun {x y v F} h k => by
  obtain ⟨vs, h, k⟩ := rTu_two h k
  obtain ⟨_, _, a1, b1, h, k⟩ := ps_two h k
  obtain ⟨_, _, a2, b2, h, k⟩ := ps_two h k
  obtain ⟨_, _, a3, b3, h, k⟩ := ps_two h k
  obtain ⟨_, _, a4, b4, h, k⟩ := ps_two h k
  obtain ⟨_, _, a5, b5, h, k⟩ := ps_two h k
  obtain ⟨_, _, a6, b6, h, k⟩ := ps_two h k
  exact Prod.ext (FI.inj a1 b1) (Prod.ext (FI.inj a2 b2) (Prod.ext (FI.inj a3 b3) (Prod.ext (FI.inj a4 b4) (Prod.ext (FI.inj a5 b5) (FI.inj a6 b6)))))⟩
instance [FI ρ] [NN ρ] : FI (rO ρ) := ⟨fun {x y v F} h k => by
  cases x with
  | none => cases y with
    | none => rfl
    | some y => exact absurd (show v = .non from h) (NN.nn y v F k)
  | some x => cases y with
    | none => exact absurd (show v = .non from k) (NN.nn x v F h)
    | some y => exact congrArg some (FI.inj (ρ := ρ) h k)⟩
theorem fi_in {α : Type} {C : Addr} {fs : α → List (Str × Pr)} {x y : α} {v : V} (h : (rIn C (fs x)).r v F) (k : (rIn C (fs y)).r v F) : ∃ gs, Fs F (fs x) gs ∧ Fs F (fs y) gs := by
  obtain ⟨a, dx, gs, rfl, h1, h2⟩ := h
  obtain ⟨b, dy, gs2, e, k1, k2⟩ := k
  cases e
  rw [h1] at k1
  cases k1
  exact ⟨gs, h2, k2⟩
theorem fs_two {n m : Str} {p q : Pr} {ps qs : List (Str × Pr)} {vs : List (Str × V)} (h : Fs F ((n, p) :: ps) vs) (k : Fs F ((m, q) :: qs) vs) : ∃ v us, p.r v F ∧ q.r v F ∧ Fs F ps us ∧ Fs F qs us := by
  match vs, h, k with
  | (_, v) :: vs, h, k => exact ⟨v, vs, h.2.1, k.2.1, h.2.2, k.2.2⟩
end
section
variable {α : Type} {X : Cx} {W : WX} {Γ : Ctx} {a b : Expr}
end
end RF
namespace RF
open PySem PySem.Spec PyProof.Rows L2 KO SX
section
variable {X : Cx} {CX : CXT} {k : Nat} {f C : Addr} {sp : Sp} {E : L2.St → XK}
end
section
variable {α β γ δ : Type} {X : Cx} {W : WX} {Γ : Ctx} {o e : Expr} {es : List Expr} {k : Nat} {f C : Addr} {n : Str} {mo : Mo α} {ma : Mo β} {ρo : α → Pr} {ρe : δ → Pr} {kr : RK γ} {apos pos : Pos} {pl : Sem Bool} {m : α × List δ × Unit → Mo γ}
end
end RF
namespace RF
open PySem PySem.Spec PyProof.Rows L2 KO SX
section
variable {α β γ δ : Type}
theorem Mo.catch1_throw {e : Ex} {cn : Str} {fls : List Str} {h : Ex → Mo α} (he : e.cls = cn) : Mo.catch1 (Mo.throw e) cn fls h = Mo.calm (h e) := Mo.ext' fun Q E => by
  show (if e.cls = cn then (h e).run Q (fun _ => False) else _) = _
  rw [if_pos he]; rfl
def Mo.fin (bc : β → Ex) (x : α) : Option β → Mo α
  | some p => Mo.throw (bc p)
  | none => pure x
end
end RF
namespace RF
open PySem PySem.Spec PyProof.Rows L2 KO SX
section
variable {K : PySem.W.Frag} {g : TG} {t : TGs} {p : Pr} {ps : List Pr} {f f' : Ctx → Ctx} {vs : List Nat}
theorem RGo.then (h : RGo f vs) (k : RGo f' vs) : RGo (fun Γ => f' (f Γ)) vs := ⟨fun Γ a q => h.sub _ a (k.sub _ a q), fun Γ i q => (k.keep _ i q).trans (h.keep Γ i q)⟩
end
section
variable {γ δ S : Type} {X : Cx} {W : WX} {Γe Γ Γ' : Ctx} {lv : Bool} {rest : List Stmt} {Z : γ → Fin} {pos : Pos}
end
section
variable {X : Cx} {W : WX} {Γ : Ctx} {e a b : Expr} {pos p p2 : Pos} {ma mb : Mo Int}
end
section
variable {X : Cx} {W : WX} {Γ : Ctx} {a b : Expr} {ma mb : Mo Int} {pos : Pos}
end
section
variable {X : Cx} {W : WX} {Γ : Ctx} {a b : Expr} {ma mb : Mo Str} {pos : Pos}
end
def PT (o : Obj) : Prop := o.dict = none ∧ o.slots = #[]
def rTf {α : Type} (ρ : α → Pr) (xs : List α) : Pr := ⟨fun v F => ∃ a vs o, v = .ref a ∧ F a = some (.frz o (.tup vs)) ∧ PT o ∧ Ps F (xs.map ρ) vs, fun s ⟨a, vs, o, e, h, k, m⟩ => ⟨a, vs, o, e, s _ _ h, k, m.mono s⟩⟩
section
variable {α β : Type} {X : Cx} {W : WX} {Γ : Ctx} {e a b : Expr} {pos p : Pos} {ρ : α → Pr} {ml : Mo (List α)}
instance nlTf [NL ρ] : NL (rTf ρ) := ⟨fun {xs v F b us} h k => by
  obtain ⟨a, vs, o, rfl, h1, h2, h3⟩ := k
  refine ⟨a, vs, o, rfl, del_ok h1 ?_, h2, h3.nl h (fun p hp => by
    obtain ⟨x, _, rfl⟩ := List.mem_map.mp hp
    exact nlr x)⟩
  rintro rfl
  rw [h] at h1; cases h1⟩
instance fiTf [FI ρ] : FI (rTf ρ) := ⟨fun {x y v F} h k => by
  obtain ⟨a, vs, o, rfl, h1, h2, h3⟩ := h
  obtain ⟨b, us, o', e, k1, k2, k3⟩ := k
  cases e
  rw [h1] at k1
  cases k1
  exact Ps.inj h3 k3⟩
end
section
variable {X : Cx} {o e : Expr} {es : List Expr} {to : TE} {t : TA} {name : Str} {apos cpos : Pos} {id : String} {r : V → List V → Hp → VK → Prop}
end
section
variable {X : Cx} {W : WX} {Γ : Ctx} {a b : Expr} {pos p : Pos} {ml : Mo (List Str)} {ma : Mo Str}
end
end RF
namespace RF
open PySem PySem.Spec PyProof.Rows L2 KO SX
section
variable {α γ : Type} {X : Cx} {W : WX} {Γe Γ : Ctx} {lv : Bool} {st : Stmt} {rest : List Stmt} {Z : γ → Fin} {e : Expr} {ρ : α → Pr} {i : Nat} {l : Bool} {ad : Addr} {xs : List α}
end
end RF
namespace RF
open PySem PySem.Spec PyProof.Rows L2 KO SX
def setLen {α : Type} [DecidableEq α] (xs : List α) : Nat := xs.eraseDups.length
section
variable {P : Program} {w : World} {A : Around} {E : Value → Shared → Prop} {s : Shared}
abbrev SetS (P : Program) (w : World) (h : Heap) (S : Addr) (ws : List Str) : Prop := h.SetOf (strKind P w) S (fun k => decide (k ∈ ws)) (setLen ws)
theorem SetS.at {h h2 : Heap} {S : Addr} {ws : List Str} (q : SetS P w h S ws) (k : ∀ o, h.get? S = some o → h2.get? S = some o) : SetS P w h2 S ws := by
  obtain ⟨o, es, ep, t, ho, z⟩ := q
  exact ⟨o, es, ep, t, k _ ho, z⟩
end
section
variable {α : Type} {X : Cx} {W : WX} {Γ : Ctx} {a : Expr} {ml : Mo (List Str)}
end
end RF
namespace RF
open PySem PySem.Spec PyProof.Rows L2 KO SX
class OrE {α : Type} (ρ : α → Pr) [s : EqE ρ] where
  lt : α → α → Bool
  ak : ∀ x y, PySem.W.alike (s.d x) (s.d y) = true
  nn : ∀ x, s.d x ≠ .none
  eq : ∀ x y, PySem.W.dataLt (s.d x) (s.d y) = lt x y
class SoE {α : Type} (ρ : α → Pr) [s : EqE ρ] : Prop where
  so : (∀ x, ∃ a r, s.d x = .tuple (a :: r)) ∨ ∀ x xs, s.d x ≠ .tuple xs
section
variable {α β γ δ ε ζ : Type} {ρ : α → Pr} {σ : β → Pr} {τ : γ → Pr} {υ : δ → Pr} {φ : ε → Pr} {χ : ζ → Pr}
instance orI : OrE rI := ⟨fun x y => decide (x < y), fun x y => by show PySem.W.alike (.int x) (.int y) = true; simp only [PySem.W.alike], fun x e => (nomatch e), fun x y => PySem.W.dataLt_int x y⟩
instance orS : OrE rS := ⟨fun x y => decide (x.cps.toList < y.cps.toList), fun x y => by show PySem.W.alike (.str x) (.str y) = true; simp only [PySem.W.alike], fun x e => (nomatch e), fun x y => PySem.W.dataLt_str x y⟩
instance soI : SoE rI := ⟨.inr fun _ _ e => nomatch e⟩
instance soS : SoE rS := ⟨.inr fun _ _ e => nomatch e⟩
theorem OrE.irr [s : EqE ρ] [o : OrE ρ] (x : α) : o.lt x x = false := by rw [← o.eq]; exact lex_irrefl _
section
variable [s : EqE ρ] [o : OrE ρ] [DecidableEq α]
def ltL (ρ : α → Pr) [s : EqE ρ] [o : OrE ρ] [DecidableEq α] : List α → List α → Bool
  | [], [] => false
  | [], _ :: _ => true
  | _ :: _, [] => false
  | x :: xs, y :: ys => if x = y then ltL ρ xs ys else o.lt x y
theorem akL : ∀ xs ys : List α, PySem.W.alikeAll (xs.map s.d) (ys.map s.d) = true
  | [], _ => by rw [List.map_nil, PySem.W.alikeAll]
  | _ :: _, [] => by rw [List.map_nil, List.map_cons, PySem.W.alikeAll]
  | x :: xs, y :: ys => by rw [List.map_cons, List.map_cons, PySem.W.alikeAll, o.ak x y, akL xs ys]; rfl
theorem eqv_dec (x y : α) : PyData.eqv (s.d x) (s.d y) = decide (x = y) := by rw [Bool.eq_iff_iff, s.eqv]; simp
theorem lexL : ∀ xs ys : List α, PyProof.Rows.lexLt itemOrd (PySem.W.keyToksAll (xs.map s.d)) (PySem.W.keyToksAll (ys.map s.d)) = ltL ρ xs ys
  | [], [] => lex_irrefl _
  | [], y :: ys => by
    rw [List.map_nil, List.map_cons, PySem.W.toks_all_cons]
    simp only [PySem.W.keyToksAll]
    rfl
  | x :: xs, [] => by
    rw [List.map_nil, List.map_cons, PySem.W.toks_all_cons]
    simp only [PySem.W.keyToksAll]
    rfl
  | x :: xs, y :: ys => by
    rw [List.map_cons, List.map_cons, PySem.W.dataLt_cons (o.ak x y), eqv_dec, lexL xs ys, o.eq]
    simp only [decide_eq_true_eq]
    rfl
instance orL : OrE (rL ρ) := ⟨ltL ρ, fun x y => by show PySem.W.alike (.list (x.map s.d)) (.list (y.map s.d)) = true; rw [PySem.W.alike]; exact akL x y, fun x e => (nomatch e), fun x y => (PySem.W.dataLt_list _ _).trans (lexL x y)⟩
instance soL : SoE (rL ρ) := ⟨.inr fun _ _ e => nomatch e⟩
instance orTs : OrE (rTs ρ) := ⟨ltL ρ, fun x y => by show PySem.W.alike (.tuple (x.map s.d)) (.tuple (y.map s.d)) = true; rw [PySem.W.alike]; exact akL x y, fun x e => (nomatch e), fun x y => (PySem.W.dataLt_tuple _ _).trans (lexL x y)⟩
end
section
variable [r : EqE ρ] [s : EqE σ] [t : EqE τ] [u : EqE υ] [w : EqE φ] [z : EqE χ] [r' : OrE ρ] [s' : OrE σ] [t' : OrE τ] [u' : OrE υ] [w' : OrE φ] [z' : OrE χ] [DecidableEq α] [DecidableEq β] [DecidableEq γ] [DecidableEq δ] [DecidableEq ε] [DecidableEq ζ]
theorem lexC {x y : α} {xs ys : List PyData} : PyProof.Rows.lexLt itemOrd (PySem.W.keyToksAll (r.d x :: xs)) (PySem.W.keyToksAll (r.d y :: ys)) = if x = y then PyProof.Rows.lexLt itemOrd (PySem.W.keyToksAll xs) (PySem.W.keyToksAll ys) else r'.lt x y := by
  rw [PySem.W.dataLt_cons (r'.ak x y), eqv_dec, r'.eq]; simp only [decide_eq_true_eq]
theorem lexE {x y : α} : PyProof.Rows.lexLt itemOrd (PySem.W.keyToksAll [r.d x]) (PySem.W.keyToksAll [r.d y]) = r'.lt x y := by
  rw [lexC]
  split
  · rename_i e; subst e; rw [r'.irr]; exact lex_irrefl _
  · rfl
theorem akC {x y : α} {xs ys : List PyData} (h : PySem.W.alikeAll xs ys = true) : PySem.W.alikeAll (r.d x :: xs) (r.d y :: ys) = true := by rw [PySem.W.alikeAll, r'.ak, h]; rfl
theorem ak0 : PySem.W.alikeAll [] [] = true := by rw [PySem.W.alikeAll]
theorem akT {xs ys : List PyData} (h : PySem.W.alikeAll xs ys = true) : PySem.W.alike (.tuple xs) (.tuple ys) = true := by rw [PySem.W.alike]; exact h
instance orT1 : OrE (rT1 ρ) := ⟨fun x y => r'.lt x y, fun x y => akT (akC ak0), fun x e => (nomatch (show PyData.tuple _ = .none from e)), fun x y => by
  show PySem.W.dataLt (.tuple [r.d x]) (.tuple [r.d y]) = _
  rw [PySem.W.dataLt_tuple, lexE]⟩
instance orT2 : OrE (rT2 ρ σ) := ⟨fun x y => if x.1 = y.1 then s'.lt x.2 y.2 else r'.lt x.1 y.1, fun x y => akT (akC (akC ak0)), fun x e => (nomatch (show PyData.tuple _ = .none from e)), fun x y => by
  show PySem.W.dataLt (.tuple [r.d x.1, s.d x.2]) (.tuple [r.d y.1, s.d y.2]) = _
  rw [PySem.W.dataLt_tuple, lexC, lexE]⟩
instance orT3 : OrE (rT3 ρ σ τ) := ⟨fun x y => if x.1 = y.1 then (if x.2.1 = y.2.1 then t'.lt x.2.2 y.2.2 else s'.lt x.2.1 y.2.1) else r'.lt x.1 y.1, fun x y => akT (akC (akC (akC ak0))), fun x e => (nomatch (show PyData.tuple _ = .none from e)), fun x y => by
  show PySem.W.dataLt (.tuple [r.d x.1, s.d x.2.1, t.d x.2.2]) (.tuple [r.d y.1, s.d y.2.1, t.d y.2.2]) = _
  rw [PySem.W.dataLt_tuple, lexC, lexC, lexE]⟩
instance orT4 : OrE (rT4 ρ σ τ υ) := ⟨fun x y => if x.1 = y.1 then (if x.2.1 = y.2.1 then (if x.2.2.1 = y.2.2.1 then u'.lt x.2.2.2 y.2.2.2 else t'.lt x.2.2.1 y.2.2.1) else s'.lt x.2.1 y.2.1) else r'.lt x.1 y.1, fun x y => akT (akC (akC (akC (akC ak0)))), fun x e => (nomatch (show PyData.tuple _ = .none from e)), fun x y => by
  show PySem.W.dataLt (.tuple [r.d x.1, s.d x.2.1, t.d x.2.2.1, u.d x.2.2.2]) (.tuple [r.d y.1, s.d y.2.1, t.d y.2.2.1, u.d y.2.2.2]) = _
  rw [PySem.W.dataLt_tuple, lexC, lexC, lexC, lexE]⟩
instance soT1 : SoE (rT1 ρ) := ⟨.inl fun x => ⟨_, _, rfl⟩⟩
instance soT2 : SoE (rT2 ρ σ) := ⟨.inl fun x => ⟨_, _, rfl⟩⟩
instance soT3 : SoE (rT3 ρ σ τ) := ⟨.inl fun x => ⟨_, _, rfl⟩⟩
instance soT4 : SoE (rT4 ρ σ τ υ) := ⟨.inl fun x => ⟨_, _, rfl⟩⟩
end
end
section
variable {X : Cx}
end
section
variable {α : Type} {X : Cx} {W : WX} {Γ : Ctx} {e a b : Expr} {pos p : Pos} {ρ : α → Pr} [s : EqE ρ] [t : OrE ρ] {ma mb : Mo α} {ml : Mo (List α)}
end
section
variable {X : Cx}
end
section
variable {α : Type} [DecidableEq α] {X : Cx} {W : WX} {Γ : Ctx} {e a b : Expr} {pos p : Pos} {ρ : α → Pr} [s : EqE ρ] [t : OrE ρ] {ma mb : Mo α} {ml : Mo (List α)}
end
end RF
namespace RF
open PySem PySem.Spec PyProof.Rows L2 KO SX
def agp (h : Hp) (p : Pr) : Pr := ⟨fun v F => ∃ f, Same f F ∧ (∀ a vs, f a = some (.lst vs) → h a ≠ none) ∧ p.r v f, fun s ⟨f, a, b, c⟩ => ⟨f, a.trans s, b, c⟩⟩
def rNw {α : Type} (h : Hp) (ρ : α → Pr) (x : α) : Pr := nwp h (ρ x)
def rAny (_ : Unit) : Pr := ⟨fun _ _ => True, fun _ h => h⟩
instance : NL rAny := ⟨fun _ h => h⟩
inductive AgE (h : Hp) : En → En → Prop
  | id (e : En) : AgE h e e
  | un (e : En) : AgE h e .un
  | ag (p : Pr) : AgE h (.fz p) (.fz (agp h p))
  | lk (p : Pr) : AgE h (.fz p) (.lk true h p)
  | re (f : Bool) (p : Pr) (h0 : Hp) : AgE h (.lk f h0 p) (.lk true h p)
def AgC (h : Hp) : Ctx → Ctx → Prop
  | [], [] => True
  | e :: l, e' :: l' => AgE h e e' ∧ AgC h l l'
  | _, _ => False
theorem AgC.len {h : Hp} : ∀ {Γ Γ' : Ctx}, AgC h Γ Γ' → Γ'.length = Γ.length
  | [], [], _ => rfl
  | _ :: _, _ :: _, k => by simp [AgC.len k.2]
  | [], _ :: _, k => k.elim
  | _ :: _, [], k => k.elim
theorem AgC.get {h : Hp} : ∀ {Γ Γ' : Ctx} {i : Nat} {e' : En}, AgC h Γ Γ' → Γ'[i]? = some e' → ∃ e, Γ[i]? = some e ∧ AgE h e e'
  | [], [], _, _, _, q => by simp at q
  | e :: _, _ :: _, 0, _, k, q => by simp at q; subst q; exact ⟨e, rfl, k.1⟩
  | _ :: _, _ :: _, i + 1, _, k, q => by
    obtain ⟨e, h1, h2⟩ := AgC.get (i := i) k.2 (by simpa using q)
    exact ⟨e, by simpa using h1, h2⟩
  | [], _ :: _, _, _, k, _ => k.elim
  | _ :: _, [], _, _, k, _ => k.elim
section
variable {G : Gf} {Γ Γ' : Ctx} {σ : L2.St} {F H : Hp}
theorem Ok.age (o : Ok G Γ σ F H) (k : AgC H Γ Γ') : Ok G Γ' σ F H where
  go := o.go
  en := fun i e' he => by
    obtain ⟨e, h1, h2⟩ := k.get he
    have z := o.en i e h1
    have lk : ∀ b, H b = none → G.H0 b = none ∧ G.F0 b = none := fun b hb => ⟨none_th o.go.th hb, by
      cases q : G.F0 b with
      | none => rfl
      | some x => rw [o.go.le _ _ (o.go.fs _ _ q)] at hb; cases hb⟩
    cases h2 with
    | id => exact z
    | un => trivial
    | ag p =>
      obtain ⟨v, z1, z2⟩ := z
      exact ⟨v, z1, F, Same.refl _, (fun a vs e n => by rw [o.go.le _ _ e] at n; cases n), z2⟩
    | lk p => exact ⟨z, fun b hb => ⟨(lk b hb).1, fun _ => (lk b hb).2⟩, fun b hb => hb⟩
    | re f p h0 => exact ⟨z.1, fun b hb => ⟨(lk b hb).1, fun _ => (lk b hb).2⟩, fun b hb => hb⟩
  ap := fun i j l m a p q h1 h2 => by
    obtain ⟨e1, a1, b1⟩ := k.get h1
    obtain ⟨e2, a2, b2⟩ := k.get h2
    cases b1
    cases b2
    exact o.ap i j l m a p q a1 a2
  ln := by rw [o.ln, k.len]
end
inductive SvE (h : Hp) : En → En → Prop
  | un (e : En) : SvE h e .un
  | nl {p : Pr} : NLr p → SvE h (.fz p) (.fz p)
  | ag (p : Pr) : SvE h (.fz (agp h p)) (.fz (agp h p))
  | lk {f : Bool} {h0 : Hp} {p : Pr} : NLr p → SvE h (.lk f h0 p) (.lk f h0 p)
  | ow {l : Bool} {a : Addr} {q : Po} : NLP q → SvE h (.ow l a q) (.ow l a q)
def SvC (h : Hp) : Ctx → Ctx → Prop
  | [], [] => True
  | e :: l, e' :: l' => SvE h e e' ∧ SvC h l l'
  | _, _ => False
theorem SvC.len {h : Hp} : ∀ {Γ Γ' : Ctx}, SvC h Γ Γ' → Γ'.length = Γ.length
  | [], [], _ => rfl
  | _ :: _, _ :: _, k => by simp [SvC.len k.2]
  | [], _ :: _, k => k.elim
  | _ :: _, [], k => k.elim
theorem SvC.get {h : Hp} : ∀ {Γ Γ' : Ctx} {i : Nat} {e' : En}, SvC h Γ Γ' → Γ'[i]? = some e' → ∃ e, Γ[i]? = some e ∧ SvE h e e'
  | [], [], _, _, _, q => by simp at q
  | e :: _, _ :: _, 0, _, k, q => by simp at q; subst q; exact ⟨e, rfl, k.1⟩
  | _ :: _, _ :: _, i + 1, _, k, q => by
    obtain ⟨e, h1, h2⟩ := SvC.get (i := i) k.2 (by simpa using q)
    exact ⟨e, by simpa using h1, h2⟩
  | [], _ :: _, _, _, k, _ => k.elim
  | _ :: _, [], _, _, k, _ => k.elim
section
variable {G : Gf} {Γ Γ' : Ctx} {σ : L2.St} {F H h : Hp} {a : Addr} {vs : List V}
end
def NwR (h : Hp) (p' p : Pr) : Prop := ∀ v F, p'.r v F → (nwp h p).r v F
class NwC {α : Type} (h : Hp) (ρ' ρ : α → Pr) : Prop where
  nw : ∀ x, NwR h (ρ' x) (ρ x)
theorem nwr_nl {h : Hp} {p : Pr} (n : NLr p) : NwR h p p := fun v F k => ⟨k, fun a vs _ e => n e k⟩
theorem nwr_self {h : Hp} {p : Pr} : NwR h (nwp h p) p := fun v F k => k
section
variable {α β γ δ ε : Type} {h : Hp}
instance (priority := 90) nwcNL {ρ : α → Pr} [NL ρ] : NwC h ρ ρ := ⟨fun x => nwr_nl (nlr x)⟩
instance nwcNw {ρ : α → Pr} : NwC h (rNw h ρ) ρ := ⟨fun x => nwr_self⟩
instance nwcO {ρ' ρ : α → Pr} [n : NwC h ρ' ρ] : NwC h (rO ρ') (rO ρ) := ⟨fun x v F k => by
  cases x with
  | none => exact ⟨k, fun _ _ _ _ => k⟩
  | some y => exact n.nw y v F k⟩
def NwL (h : Hp) : List Pr → List Pr → Prop
  | [], [] => True
  | p' :: ps', p :: ps => NwR h p' p ∧ NwL h ps' ps
  | _, _ => False
theorem NwL.ps {F : Hp} : ∀ {ps' ps : List Pr} {vs : List V}, NwL h ps' ps → Ps F ps' vs → Ps F ps vs ∧ ∀ a us, h a ≠ none → F a = some (.lst us) → Ps (del F a) ps vs
  | [], [], [], _, _ => ⟨trivial, fun _ _ _ _ => trivial⟩
  | p' :: ps', p :: ps, v :: vs, n, k => by
    obtain ⟨a1, a2⟩ := n.1 v F k.1
    obtain ⟨b1, b2⟩ := NwL.ps n.2 k.2
    exact ⟨⟨a1, b1⟩, fun a us e1 e2 => ⟨a2 a us e1 e2, b2 a us e1 e2⟩⟩
  | [], _ :: _, _, n, _ => n.elim
  | _ :: _, [], _, n, _ => n.elim
  | [], [], _ :: _, _, k => k.elim
  | _ :: _, _ :: _, [], _, k => k.elim
theorem NwL.map {ρ' ρ : α → Pr} [n : NwC h ρ' ρ] : ∀ xs : List α, NwL h (xs.map ρ') (xs.map ρ)
  | [] => trivial
  | x :: xs => ⟨n.nw x, NwL.map xs⟩
theorem nw_tu {ps' ps : List Pr} (n : NwL h ps' ps) : NwR h (rTu ps') (rTu ps) := fun v F k => by
  obtain ⟨t, ws, rfl, h1, h2⟩ := k
  obtain ⟨a1, a2⟩ := n.ps h2
  refine ⟨⟨t, ws, rfl, h1, a1⟩, fun a us e1 e2 => ⟨t, ws, rfl, ?_, a2 a us e1 e2⟩⟩
  have ht : t ≠ a := by
    rintro rfl
    rcases h1 with h1 | ⟨o, h1⟩ <;> (rw [e2] at h1; cases h1)
  exact h1.imp (fun e => del_ok e ht) (fun ⟨o, e⟩ => ⟨o, del_ok e ht⟩)
instance nwcTs {ρ' ρ : α → Pr} [NwC h ρ' ρ] : NwC h (rTs ρ') (rTs ρ) := ⟨fun xs => nw_tu (NwL.map xs)⟩
instance nwcT2 {a' a : α → Pr} {b' b : β → Pr} [m : NwC h a' a] [n : NwC h b' b] : NwC h (rT2 a' b') (rT2 a b) := ⟨fun x => nw_tu ⟨m.nw _, n.nw _, trivial⟩⟩
instance nwcT3 {a' a : α → Pr} {b' b : β → Pr} {c' c : γ → Pr} [m : NwC h a' a] [n : NwC h b' b] [k : NwC h c' c] : NwC h (rT3 a' b' c') (rT3 a b c) := ⟨fun x => nw_tu ⟨m.nw _, n.nw _, k.nw _, trivial⟩⟩
instance nwcT4 {a' a : α → Pr} {b' b : β → Pr} {c' c : γ → Pr} {d' d : δ → Pr} [m : NwC h a' a] [n : NwC h b' b] [k : NwC h c' c] [l : NwC h d' d] : NwC h (rT4 a' b' c' d') (rT4 a b c d) := ⟨fun x => nw_tu ⟨m.nw _, n.nw _, k.nw _, l.nw _, trivial⟩⟩
end
section
variable {α β γ δ : Type} {X : Cx} {W : WX} {Γe Γ Γ' : Ctx} {Γa : Hp → Ctx} {lv : Bool} {e b : Expr} {st : Stmt} {rest : List Stmt} {Z : γ → Fin} {pos : Pos} {t : TE} {h : Hp} {p0 : Pr} {j : Nat} {f : Bool}
theorem rb_age {m : Mo γ} (hl : ∀ h, AgC h Γ (Γa h)) (he : ∀ h, Le Γe (Γa h)) (hr : ∀ h, RB X W Γe lv (Γa h) rest m Z) : RB X W Γe lv Γ rest m Z := fun _ G σ F H D nx hn o r => hr H (he H) G σ F H D nx hn (o.age (hl H)) r
theorem re_varL {ρ : α → Pr} {x : α} (i : Nat) {n : Str} {pos : Pos} (hi : Γ[i]? = some (.lk f h (ρ x))) (hp : PE X (.Name n pos) (tVar i)) : RE X W Γ (.Name n pos) (pure x) (.fz ρ) :=
  re_of hp fun G σ F H Q o q => by
    obtain ⟨⟨v, h1, h2⟩, _⟩ := o.en i _ hi
    exact ⟨v, h1, NQ.here (ρ := ρ) q o h2⟩
theorem re_nwo {ρ : α → Pr} {m : Mo α} (k : RE X W Γ e m (.fz (rNw h ρ))) : RE X W Γ e m (.fz ρ) := re_as k fun _ _ _ z => z.1
theorem re_nwc {ρ : α → Pr} {m : Mo α} (hk : Γ[j]? = some (.lk f h p0)) (k : RE X W Γ e m (.nw ρ)) : RE X W Γ e m (.fz (rNw h ρ)) := fun G σ F H Q o q => by
  have l2 := (o.en j _ hk).2.2
  exact k G σ F H Q o (m.mono (fun x hx v F' H' o' g' z => hx v F' H' o' g' ⟨z.1, fun a vs n e => z.2 a vs (fun y => n (l2 a y)) e⟩) (fun _ z => z) q)
inductive UaE : En → En → Prop
  | id (e : En) : UaE e e
  | un (e : En) : UaE e .un
  | ag (h : Hp) (p : Pr) : UaE (.fz (agp h p)) (.fz p)
  | nw (h : Hp) (p : Pr) : UaE (.fz (nwp h p)) (.fz p)
  | lk (f : Bool) (h : Hp) (p : Pr) : UaE (.lk f h p) (.fz p)
  | lf (f : Bool) (h : Hp) (p : Pr) : UaE (.lk f h p) (.lk false h p)
  | la (f : Bool) (h h' : Hp) (p : Pr) : UaE (.lk f h (agp h' p)) (.fz p)
def UaC : Ctx → Ctx → Prop
  | [], [] => True
  | e :: l, e' :: l' => UaE e e' ∧ UaC l l'
  | _, _ => False
theorem UaC.len : ∀ {Γ Γ' : Ctx}, UaC Γ Γ' → Γ'.length = Γ.length
  | [], [], _ => rfl
  | _ :: _, _ :: _, k => by simp [UaC.len k.2]
  | [], _ :: _, k => k.elim
  | _ :: _, [], k => k.elim
theorem UaC.get : ∀ {Γ Γ' : Ctx} {i : Nat} {e' : En}, UaC Γ Γ' → Γ'[i]? = some e' → ∃ e, Γ[i]? = some e ∧ UaE e e'
  | [], [], _, _, _, q => by simp at q
  | e :: _, _ :: _, 0, _, k, q => by simp at q; subst q; exact ⟨e, rfl, k.1⟩
  | _ :: _, _ :: _, i + 1, _, k, q => by
    obtain ⟨e, h1, h2⟩ := UaC.get (i := i) k.2 (by simpa using q)
    exact ⟨e, by simpa using h1, h2⟩
  | [], _ :: _, _, _, k, _ => k.elim
  | _ :: _, [], _, _, k, _ => k.elim
end
end RF
namespace RF
open PySem PySem.Spec PyProof.Rows L2 KO SX
theorem same_del_upd {F : Hp} {b : Addr} {o : HO} : Same (del F b) (upd F b o) := fun c y e => by
  unfold del at e
  split at e
  · cases e
  · rename_i n; rw [upd_ne n]; exact e
inductive RpE (h : Hp) (b : Addr) (vs ws : List V) : En → En → Prop
  | un (e : En) : RpE h b vs ws e .un
  | cf {p p' : Pr} : (∀ v F, F b = some (.lst vs) → p.r v F → p'.r v (upd F b (.lst ws))) → RpE h b vs ws (.fz p) (.fz p')
  | lk {f : Bool} {h0 : Hp} {p : Pr} : NLr p → RpE h b vs ws (.lk f h0 p) (.lk f h0 p)
  | ow {l : Bool} {a : Addr} {q q' : Po} : (∀ u F, F b = some (.lst vs) → q.r u F → q'.r u (upd F b (.lst ws))) → RpE h b vs ws (.ow l a q) (.ow l a q')
def RpC (h : Hp) (b : Addr) (vs ws : List V) : Ctx → Ctx → Prop
  | [], [] => True
  | e :: l, e' :: l' => RpE h b vs ws e e' ∧ RpC h b vs ws l l'
  | _, _ => False
theorem RpC.len {h : Hp} {b : Addr} {vs ws : List V} : ∀ {Γ Γ' : Ctx}, RpC h b vs ws Γ Γ' → Γ'.length = Γ.length
  | [], [], _ => rfl
  | _ :: _, _ :: _, k => by simp [RpC.len k.2]
  | [], _ :: _, k => k.elim
  | _ :: _, [], k => k.elim
theorem RpC.get {h : Hp} {b : Addr} {vs ws : List V} : ∀ {Γ Γ' : Ctx} {i : Nat} {e' : En}, RpC h b vs ws Γ Γ' → Γ'[i]? = some e' → ∃ e, Γ[i]? = some e ∧ RpE h b vs ws e e'
  | [], [], _, _, _, q => by simp at q
  | e :: _, _ :: _, 0, _, k, q => by simp at q; subst q; exact ⟨e, rfl, k.1⟩
  | _ :: _, _ :: _, i + 1, _, k, q => by
    obtain ⟨e, h1, h2⟩ := RpC.get (i := i) k.2 (by simpa using q)
    exact ⟨e, by simpa using h1, h2⟩
  | [], _ :: _, _, _, k, _ => k.elim
  | _ :: _, [], _, _, k, _ => k.elim
theorem rp_nl {b : Addr} {vs ws : List V} {p : Pr} (n : NLr p) : ∀ v F, F b = some (.lst vs) → p.r v F → p.r v (upd F b (.lst ws)) := fun v F e k => p.mono same_del_upd (n e k)
theorem rp_nlp {b : Addr} {vs ws : List V} {q : Po} (n : NLP q) : ∀ u F, F b = some (.lst vs) → q.r u F → q.r u (upd F b (.lst ws)) := fun u F e k => q.mono same_del_upd (n.nl e k)
section
variable {G : Gf} {Γ Γ' : Ctx} {σ : L2.St} {F H h : Hp} {b : Addr} {vs ws : List V} {j : Nat} {p0 : Pr}
theorem Ok.repl (o : Ok G Γ σ F H) (hk : Γ[j]? = some (.lk true h p0)) (hF : F b = some (.lst vs)) (hn : h b = none) (k : RpC h b vs ws Γ Γ') : Ok G Γ' σ (upd F b (.lst ws)) (upd H b (.lst ws)) := by
  obtain ⟨_, l1, l2⟩ := o.en j _ hk
  have nH0 := (l1 _ hn).1
  have nF0 := (l1 _ hn).2 rfl
  have ne : ∀ {c : Addr} {x : HO}, G.H0 c = some x → c ≠ b := fun e => by rintro rfl; rw [nH0] at e; cases e
  refine ⟨⟨fun c x e => ?_, fun c x e => ?_, fun c x n e => ?_, fun c x e f => ?_, fun c x e => ?_⟩, fun i e' he => ?_, fun x y l m c p r h1 h2 => ?_, ?_⟩
  · have hc : c ≠ b := by rintro rfl; rw [nF0] at e; cases e
    rw [upd_ne hc]; exact o.go.fs _ _ e
  · by_cases hc : c = b
    · subst hc; rw [upd_same] at e ⊢; exact e
    · rw [upd_ne hc] at e ⊢; exact o.go.le _ _ e
  · rw [upd_ne (ne e)]; exact o.go.hs c x n e
  · rw [upd_ne (ne e)]; exact o.go.fr c x e f
  · by_cases hc : c = b
    · subst hc; exact ⟨_, upd_same⟩
    · rw [upd_ne hc]; exact o.go.th c x e
  · obtain ⟨e, h1, h2⟩ := k.get he
    have z := o.en i e h1
    cases h2 with
    | un => trivial
    | cf q =>
      obtain ⟨v, z1, z2⟩ := z
      exact ⟨v, z1, q v F hF z2⟩
    | lk n =>
      obtain ⟨⟨v, z1, z2⟩, z3, z4⟩ := z
      refine ⟨⟨v, z1, rp_nl n v F hF z2⟩, z3, fun c hc => z4 c ?_⟩
      by_cases e : c = b
      · subst e; rw [upd_same] at hc; cases hc
      · rw [upd_ne e] at hc; exact hc
    | @ow l a q q' hq =>
      obtain ⟨z1, z2, z3, u, z4, z5⟩ := z
      have ha : a ≠ b := by rintro rfl; rw [hF] at z2; cases z2
      exact ⟨z1, by rw [upd_ne ha]; exact z2, z3, u, by rw [upd_ne ha]; exact z4, hq u F hF z5⟩
  · obtain ⟨e1, a1, b1⟩ := k.get h1
    obtain ⟨e2, a2, b2⟩ := k.get h2
    cases b1
    cases b2
    exact o.ap x y l m c _ _ a1 a2
  · rw [o.ln, k.len]
end
section
variable {α β γ δ : Type} {X : Cx} {W : WX} {Γe Γ Γ' : Ctx} {lv : Bool} {e e0 : Expr} {st : Stmt} {rest : List Stmt} {Z : γ → Fin} {pos : Pos} {h : Hp} {p0 : Pr} {i j : Nat} {N : Nat} {m : Mo γ} {me : Mo α} {ρ : α → Pr}
end
end RF
namespace RF
open PySem PySem.Spec PyProof.Rows L2 KO SX
inductive RlE : En → En → En → Prop
  | id (e e' : En) : RlE e e' e'
  | up {f : Bool} {h : Hp} {p p' : Pr} : RlE (.lk true h p) (.lk f h p') (.lk true h p')
def RlC : Ctx → Ctx → Ctx → Prop
  | [], [], [] => True
  | e :: l, e' :: l', e2 :: l2 => RlE e e' e2 ∧ RlC l l' l2
  | _, _, _ => False
theorem RlC.len : ∀ {A B C : Ctx}, RlC A B C → C.length = B.length
  | [], [], [], _ => rfl
  | _ :: _, _ :: _, _ :: _, k => by simp [RlC.len k.2]
  | [], _ :: _, _, k => k.elim
  | [], [], _ :: _, k => k.elim
  | _ :: _, [], _, k => k.elim
  | _ :: _, _ :: _, [], k => k.elim
theorem RlC.get : ∀ {A B C : Ctx} {i : Nat} {e : En}, RlC A B C → C[i]? = some e → ∃ a b, A[i]? = some a ∧ B[i]? = some b ∧ RlE a b e
  | [], [], [], _, _, _, q => by simp at q
  | a :: _, b :: _, _ :: _, 0, _, k, q => by simp at q; subst q; exact ⟨a, b, rfl, rfl, k.1⟩
  | _ :: _, _ :: _, _ :: _, i + 1, _, k, q => by
    obtain ⟨a, b, h1, h2, h3⟩ := RlC.get (i := i) k.2 (by simpa using q)
    exact ⟨a, b, by simpa using h1, by simpa using h2, h3⟩
  | [], _ :: _, _, _, _, k, _ => k.elim
  | [], [], _ :: _, _, _, k, _ => k.elim
  | _ :: _, [], _, _, _, k, _ => k.elim
  | _ :: _, _ :: _, [], _, _, k, _ => k.elim
section
variable {α β γ δ : Type} {X : Cx} {W : WX} {Γe Γ Γ' : Ctx} {lv : Bool} {e tg iter : Expr} {pos : Pos}
variable {S : Type} {Z : γ → Fin} {st : Stmt} {rest body : List Stmt} {wi : TI} {g : TG} {mi : Mo (List β)} {ρi : β → Pr}
end
end RF
namespace PySem
open Sem (wp)
section
variable {prog : Program} {w : World} {A : Around} {E : Value → Shared → Prop} {s : Shared} {z TI TO T i1 i2 : Addr} {fp1 fp2 : List Addr} {n1 n2 i : Nat} {P1 P2 : Nat → Value → Prop} {St1 St2 : Nat → Heap → Prop} {f : Bool} {oT : Obj}
end
end PySem
namespace KO
open PySem PySem.Spec PyProof.Rows L2
section
variable {X : Cx} {pins : List (Addr × Obj)} {σ : L2.St}
end
end KO
namespace RF
open PySem PySem.Spec PyProof.Rows L2 KO SX
section
variable {α β γ δ : Type}
variable {X : Cx} {W : WX} {Γe Γx Γ Γ' : Ctx} {lv : Bool} {e ee o a b c : Expr} {es : List Expr} {st : Stmt} {rest body suite : List Stmt} {Z : γ → Fin} {pos p2 p3 : Pos} {t : TE} {ρ : α → Pr}
section
variable {md : Mo (List (Int × α))} {mk : Mo Int}
end
theorem Ks.zip {F : Hp} : ∀ {ks : List Int} {xs : List α} {vs : List V}, Ps F (xs.map ρ) vs → Ks F ρ (ks.zip xs) ((ks.map (Sum.inl : Int → Key)).zip vs)
  | [], _, _, _ => trivial
  | _ :: _, [], [], _ => trivial
  | k :: ks, x :: xs, v :: vs, h => ⟨rfl, h.1, Ks.zip h.2⟩
  | _ :: _, [], _ :: _, h => h.elim
  | _ :: _, _ :: _, [], h => h.elim
end
end RF
namespace DD
open PySem PySem.Spec PyProof.Rows L2
section
variable {P : Program} {w : World} {A : Around} {E : Value → Shared → Prop} {s : Shared}
end
section
variable {X : Cx}
def rSetL (K : PySem.W.Frag) (w : World) : List V → Hp → VK → Prop := fun xs H Q => ∃ (l : Addr) (ns : List Int), xs = [V.ref l] ∧ SqL K H l (ns.map V.int) ∧ ns.length ≤ 1000 ∧
  ∀ p c, H p = none → c ≤ ns.length → Q (.ref p) (upd H p (SetO w p (fun j => decide (j ∈ ns)) c))
end
end DD

namespace RF
open PySem PySem.Spec PyProof.Rows L2 KO SX
section
variable {X : Cx} {W : WX} {Γ : Ctx} {a : Expr} {mi : Mo (List Int)}
end
end RF
namespace RF
open PySem PySem.Spec PyProof.Rows L2 KO SX
section
variable {X : Cx} {k : Nat} {x : Str} {C fI : Addr} {fd : FuncData} {f c : Str} {e : Expr} {te : TE} {p pos : Pos} {ps : List Str} {W : WX} {Γ : Ctx} {α : Type}
end
end RF
namespace RF
open PySem PySem.Spec PyProof.Rows L2 KO SX
section
variable {X : Cx} {W : WX} {Γ : Ctx} {a : Expr} {ma : Mo Int} {p p2 pos : Pos}
instance encT0 : Enc rT0 := ⟨1, fun _ => .tuple [], fun _ => True, fun {x v F} _ h => dt_tu (n := 0) (ps := []) rfl (by decide) h (fun i p d e => by simp at e)⟩
end
end RF
namespace RF
open PySem PySem.Spec PyProof.Rows L2 KO SX
section
variable {es : List Expr} {p : Pos} {env : Env}
theorem se_BinOp {l r : Expr} {op : Operator} : starEach (.BinOp l op r p :: es) env = (false, eval (.BinOp l op r p) env) :: starEach es env := by rfl
theorem se_UnaryOp {op : UnaryOp} {o : Expr} : starEach (.UnaryOp op o p :: es) env = (false, eval (.UnaryOp op o p) env) :: starEach es env := by rfl
theorem se_Compare {l : Expr} {ops : List CmpOp} {cs : List Expr} : starEach (.Compare l ops cs p :: es) env = (false, eval (.Compare l ops cs p) env) :: starEach es env := by rfl
end
end RF
namespace RF
open PySem PySem.Spec PyProof.Rows L2 KO SX
theorem dT2_ex {α β : Type} {ρ : α → Pr} {ρ2 : β → Pr} [r : Dec ρ] [s : Dec ρ2] : ∀ {ds : List PyData} {y : α × β}, dT2 ρ ρ2 ds = some y → ∃ da db, ds = [da, db] ∧ r.d da = some y.1 ∧ s.d db = some y.2
  | [a, b], y, e => by
    obtain ⟨y1, e1, e⟩ := some_bind e
    obtain ⟨y2, e2, e⟩ := some_bind e
    obtain rfl := Option.some.inj e
    exact ⟨a, b, rfl, e1, e2⟩
  | [], _, e => by cases e
  | [_], _, e => by cases e
  | _ :: _ :: _ :: _, _, e => by cases e
theorem len2 {α : Type} : ∀ {xs : List α}, xs.length = 2 → ∃ a b, xs = [a, b]
  | [a, b], _ => ⟨a, b, rfl⟩
  | [], h => by cases h
  | [_], h => by cases h
  | _ :: _ :: _ :: _, h => by simp at h
def dP2 {α β : Type} (ρ : α → Pr) (ρ2 : β → Pr) [r : Dec ρ] [s : Dec ρ2] : PyData → Option (α × β)
  | .tuple ds => dT2 ρ ρ2 ds
  | _ => none
theorem dP2_ok {α β : Type} {ρ : α → Pr} {ρ2 : β → Pr} [r : Dec ρ] [s : Dec ρ2] {x : PyData} {y : α × β} {v : V} {F : Hp} {n : Nat} (hn : n ≤ 8) (e : dP2 ρ ρ2 x = some y) (h : Dt n F v x) : (rT2 ρ ρ2 y).r v F := by
  obtain ⟨k, rfl⟩ := dt_pos h
  cases x with
  | tuple ds =>
    obtain ⟨da, db, e0, e1, e2⟩ := dT2_ex e
    obtain ⟨a, xs, rfl, h1, h2, _, h3⟩ := h
    subst e0
    obtain ⟨v1, v2, rfl⟩ := len2 h2
    have g1 := r.is (show k ≤ 8 by omega) e1 (h3 0 v1 da rfl rfl)
    have g2 := s.is (show k ≤ 8 by omega) e2 (h3 1 v2 db rfl rfl)
    exact ⟨a, [v1, v2], rfl, h1, g1, g2, trivial⟩
  | _ => cases e
instance decT2 {α β : Type} {ρ : α → Pr} {ρ2 : β → Pr} [r : Dec ρ] [s : Dec ρ2] : Dec (rT2 ρ ρ2) := ⟨dP2 ρ ρ2, dP2_ok⟩
section
variable {α β γ δ : Type} {X : Cx} {W : WX} {Γe Γ : Ctx} {e b : Expr} {pos : Pos} {h : Hp} {lv f : Bool} {p0 : Pr} {j : Nat} {rest : List Stmt} {Z : γ → Fin}
end
end RF
namespace RF
open PySem PySem.Spec PyProof.Rows L2 KO SX
section
variable {α β γ : Type} {X : Cx} {W : WX} {Γ : Ctx} {pos : Pos} {C : Addr} {oe : Obj} {d : Option Addr} {pn : List (Addr × Obj)} {ex : Ex} {n f : Str} {i : Nat} {p : Pos}
end
end RF
namespace RF
open PySem PySem.Spec PyProof.Rows L2 KO SX
section
variable {α β γ δ : Type}
def KsS (F : Hp) (ρ : α → Pr) : List (Str × α) → List (Key × V) → Prop
  | [], [] => True
  | (k, x) :: r, (k', v) :: r' => k' = .inr k ∧ (ρ x).r v F ∧ KsS F ρ r r'
  | _, _ => False
def dgetS (kvs : List (Str × α)) (k : Str) : Option α := (kvs.find? fun p => decide (p.1 = k)).map (·.2)
def dputS (kvs : List (Str × α)) (k : Str) (x : α) : List (Str × α) := if (kvs.any fun p => decide (p.1 = k)) = true then kvs.map (fun p => if p.1 = k then (p.1, x) else p) else kvs ++ [(k, x)]
section
variable {F F' : Hp} {ρ : α → Pr}
theorem KsS.mono (s : Same F F') : ∀ {kvs : List (Str × α)} {gs : List (Key × V)}, KsS F ρ kvs gs → KsS F' ρ kvs gs
  | [], [], _ => trivial
  | (_, x) :: _, (_, _) :: _, h => ⟨h.1, (ρ x).mono s h.2.1, KsS.mono s h.2.2⟩
  | [], _ :: _, h => h.elim
  | _ :: _, [], h => h.elim
theorem KsS.len : ∀ {kvs : List (Str × α)} {gs : List (Key × V)}, KsS F ρ kvs gs → gs.length = kvs.length
  | [], [], _ => rfl
  | (_, _) :: _, (_, _) :: _, h => by simp [KsS.len h.2.2]
  | [], _ :: _, h => h.elim
  | _ :: _, [], h => h.elim
theorem keydecS (a b : Str) : (decide ((Sum.inr a : Key) = Sum.inr b)) = decide (a = b) := by
  by_cases h : a = b
  · subst h; simp
  · have : ¬ (Sum.inr a : Key) = Sum.inr b := fun q => h (Sum.inr.inj q)
    simp [h, this]
theorem KsS.get {k : Str} : ∀ {kvs : List (Str × α)} {gs : List (Key × V)}, KsS F ρ kvs gs → (∃ x v, dgetS kvs k = some x ∧ valV gs (Sum.inr k) = some v ∧ (ρ x).r v F) ∨ (dgetS kvs k = none ∧ valV gs (Sum.inr k) = none)
  | [], [], _ => .inr ⟨rfl, rfl⟩
  | (k1, x) :: r, (k2, v) :: r', h => by
    obtain ⟨rfl, h1, h2⟩ := h
    unfold dgetS valV
    rw [List.find?_cons, List.find?_cons, keydecS]
    by_cases e : k1 = k
    · simp only [e, decide_true]
      exact .inl ⟨x, v, rfl, rfl, h1⟩
    · simp only [e, decide_false]
      exact KsS.get h2
  | [], _ :: _, h => h.elim
  | _ :: _, [], h => h.elim
theorem KsS.any {k : Str} : ∀ {kvs : List (Str × α)} {gs : List (Key × V)}, KsS F ρ kvs gs → (gs.any fun kv => decide (kv.1 = (Sum.inr k : Key))) = kvs.any fun p => decide (p.1 = k)
  | [], [], _ => rfl
  | (k1, x) :: r, (k2, v) :: r', h => by
    obtain ⟨rfl, h1, h2⟩ := h
    rw [List.any_cons, List.any_cons, KsS.any h2, keydecS]
  | [], _ :: _, h => h.elim
  | _ :: _, [], h => h.elim
theorem KsS.app : ∀ {kvs kvs2 : List (Str × α)} {gs gs2 : List (Key × V)}, KsS F ρ kvs gs → KsS F ρ kvs2 gs2 → KsS F ρ (kvs ++ kvs2) (gs ++ gs2)
  | [], _, [], _, _, h => h
  | (_, _) :: _, _, (_, _) :: _, _, h, k => ⟨h.1, h.2.1, KsS.app h.2.2 k⟩
  | [], _, _ :: _, _, h, _ => h.elim
  | _ :: _, _, [], _, h, _ => h.elim
theorem KsS.rep {k : Str} {x : α} {v : V} (hv : (ρ x).r v F) : ∀ {kvs : List (Str × α)} {gs : List (Key × V)}, KsS F ρ kvs gs → KsS F ρ (kvs.map fun p => if p.1 = k then (p.1, x) else p) (gs.map fun kv => if kv.1 = (Sum.inr k : Key) then (kv.1, v) else kv)
  | [], [], _ => trivial
  | (k1, y) :: r, (k2, u) :: r', h => by
    obtain ⟨rfl, h1, h2⟩ := h
    have ih := KsS.rep (k := k) hv h2
    by_cases e : k1 = k
    · simp only [List.map_cons, e, if_true]
      exact ⟨rfl, hv, ih⟩
    · have e2 : ¬ (Sum.inr k1 : Key) = Sum.inr k := fun q => e (Sum.inr.inj q)
      simp only [List.map_cons, e, e2, if_false]
      exact ⟨rfl, h1, ih⟩
  | [], _ :: _, h => h.elim
  | _ :: _, [], h => h.elim
theorem KsS.put {k : Str} {x : α} {v : V} {kvs : List (Str × α)} {gs : List (Key × V)} (h : KsS F ρ kvs gs) (hv : (ρ x).r v F) : KsS F ρ (dputS kvs k x) (putK gs (Sum.inr k) v) := by
  unfold dputS putK
  rw [h.any]
  split
  · exact h.rep hv
  · exact h.app ⟨rfl, hv, trivial⟩
end
def oDkS (ρ : α → Pr) (kvs : List (Str × α)) : Po := ⟨fun o F => ∃ gs, o = .dK gs ∧ KsS F ρ kvs gs, fun s ⟨gs, e, h⟩ => ⟨gs, e, h.mono s⟩⟩
variable {X : Cx} {W : WX} {Γe Γx Γ Γ' : Ctx} {lv : Bool} {e ee o a b c : Expr} {es : List Expr} {st : Stmt} {rest body suite : List Stmt} {Z : γ → Fin} {pos p2 p3 : Pos} {t : TE} {ρ : α → Pr}
section
variable {i : Nat} {l : Bool} {ad : Addr} {kvs : List (Str × α)} {x : Str} {mk : Mo Str}
end
section
variable {md : Mo (List (Str × α))} {mk : Mo Str}
end
end
end RF
namespace RF
open PySem PySem.Spec PyProof.Rows L2 KO SX
section
def dQ3 {α β γ : Type} (ρ : α → Pr) (σ : β → Pr) (τ : γ → Pr) [s0 : Dec ρ] [s1 : Dec σ] [s2 : Dec τ] : PyData → Option (α × β × γ)
  | .tuple [x0, x1, x2] => do let y0 ← s0.d x0; let y1 ← s1.d x1; let y2 ← s2.d x2; pure (y0, y1, y2)
  | _ => none
theorem len_3 {α : Type} : ∀ {xs : List α}, xs.length = 3 → ∃ x0 x1 x2, xs = [x0, x1, x2]
  | [x0, x1, x2], _ => ⟨x0, x1, x2, rfl⟩
  | [], h => by cases h
  | [_], h => by cases h
  | [_, _], h => by cases h
  | _ :: _ :: _ :: _ :: _, h => by simp at h
theorem dQ3_ok {α β γ : Type} {ρ : α → Pr} {σ : β → Pr} {τ : γ → Pr} [s0 : Dec ρ] [s1 : Dec σ] [s2 : Dec τ] {x : PyData} {y : α × β × γ} {v : V} {F : Hp} {n : Nat} (hn : n ≤ 8) (e : dQ3 ρ σ τ x = some y) (h : Dt n F v x) : (rT3 ρ σ τ y).r v F := by
  obtain ⟨k, rfl⟩ := dt_pos h
  cases x with
  | tuple ds =>
    by_cases hl : ds.length = 3
    · obtain ⟨x0, x1, x2, rfl⟩ := len_3 hl
      obtain ⟨y0, e0, e⟩ := some_bind e
      obtain ⟨y1, e1, e⟩ := some_bind e
      obtain ⟨y2, e2, e⟩ := some_bind e
      obtain rfl := Option.some.inj e
      obtain ⟨a, us, rfl, h1, h2, _, h3⟩ := h
      obtain ⟨v0, v1, v2, rfl⟩ := len_3 h2
      have g0 := s0.is (show k ≤ 8 by omega) e0 (h3 0 v0 x0 rfl rfl)
      have g1 := s1.is (show k ≤ 8 by omega) e1 (h3 1 v1 x1 rfl rfl)
      have g2 := s2.is (show k ≤ 8 by omega) e2 (h3 2 v2 x2 rfl rfl)
      exact ⟨a, [v0, v1, v2], rfl, h1, g0, g1, g2, trivial⟩
    · exfalso
      match ds, hl, e with
      | [x0, x1, x2], hl, _ => exact hl rfl
      | [], _, e => cases e
      | [_], _, e => cases e
      | [_, _], _, e => cases e
      | _ :: _ :: _ :: _ :: _, _, e => cases e
  | _ => cases e
instance decT3 {α β γ : Type} {ρ : α → Pr} {σ : β → Pr} {τ : γ → Pr} [s0 : Dec ρ] [s1 : Dec σ] [s2 : Dec τ] : Dec (rT3 ρ σ τ) := ⟨dQ3 ρ σ τ, dQ3_ok⟩
def dQ4 {α β γ δ : Type} (ρ : α → Pr) (σ : β → Pr) (τ : γ → Pr) (υ : δ → Pr) [s0 : Dec ρ] [s1 : Dec σ] [s2 : Dec τ] [s3 : Dec υ] : PyData → Option (α × β × γ × δ)
  | .tuple [x0, x1, x2, x3] => do let y0 ← s0.d x0; let y1 ← s1.d x1; let y2 ← s2.d x2; let y3 ← s3.d x3; pure (y0, y1, y2, y3)
  | _ => none
theorem len_4 {α : Type} : ∀ {xs : List α}, xs.length = 4 → ∃ x0 x1 x2 x3, xs = [x0, x1, x2, x3]
  | [x0, x1, x2, x3], _ => ⟨x0, x1, x2, x3, rfl⟩
  | [], h => by cases h
  | [_], h => by cases h
  | [_, _], h => by cases h
  | [_, _, _], h => by cases h
  | _ :: _ :: _ :: _ :: _ :: _, h => by simp at h
theorem dQ4_ok {α β γ δ : Type} {ρ : α → Pr} {σ : β → Pr} {τ : γ → Pr} {υ : δ → Pr} [s0 : Dec ρ] [s1 : Dec σ] [s2 : Dec τ] [s3 : Dec υ] {x : PyData} {y : α × β × γ × δ} {v : V} {F : Hp} {n : Nat} (hn : n ≤ 8) (e : dQ4 ρ σ τ υ x = some y) (h : Dt n F v x) : (rT4 ρ σ τ υ y).r v F := by
  obtain ⟨k, rfl⟩ := dt_pos h
  cases x with
  | tuple ds =>
    by_cases hl : ds.length = 4
    · obtain ⟨x0, x1, x2, x3, rfl⟩ := len_4 hl
      obtain ⟨y0, e0, e⟩ := some_bind e
      obtain ⟨y1, e1, e⟩ := some_bind e
      obtain ⟨y2, e2, e⟩ := some_bind e
      obtain ⟨y3, e3, e⟩ := some_bind e
      obtain rfl := Option.some.inj e
      obtain ⟨a, us, rfl, h1, h2, _, h3⟩ := h
      obtain ⟨v0, v1, v2, v3, rfl⟩ := len_4 h2
      have g0 := s0.is (show k ≤ 8 by omega) e0 (h3 0 v0 x0 rfl rfl)
      have g1 := s1.is (show k ≤ 8 by omega) e1 (h3 1 v1 x1 rfl rfl)
      have g2 := s2.is (show k ≤ 8 by omega) e2 (h3 2 v2 x2 rfl rfl)
      have g3 := s3.is (show k ≤ 8 by omega) e3 (h3 3 v3 x3 rfl rfl)
      exact ⟨a, [v0, v1, v2, v3], rfl, h1, g0, g1, g2, g3, trivial⟩
    · exfalso
      match ds, hl, e with
      | [x0, x1, x2, x3], hl, _ => exact hl rfl
      | [], _, e => cases e
      | [_], _, e => cases e
      | [_, _], _, e => cases e
      | [_, _, _], _, e => cases e
      | _ :: _ :: _ :: _ :: _ :: _, _, e => cases e
  | _ => cases e
instance decT4 {α β γ δ : Type} {ρ : α → Pr} {σ : β → Pr} {τ : γ → Pr} {υ : δ → Pr} [s0 : Dec ρ] [s1 : Dec σ] [s2 : Dec τ] [s3 : Dec υ] : Dec (rT4 ρ σ τ υ) := ⟨dQ4 ρ σ τ υ, dQ4_ok⟩
def dQ5 {α β γ δ ε : Type} (ρ : α → Pr) (σ : β → Pr) (τ : γ → Pr) (υ : δ → Pr) (φ : ε → Pr) [s0 : Dec ρ] [s1 : Dec σ] [s2 : Dec τ] [s3 : Dec υ] [s4 : Dec φ] : PyData → Option (α × β × γ × δ × ε)
  | .tuple [x0, x1, x2, x3, x4] => do let y0 ← s0.d x0; let y1 ← s1.d x1; let y2 ← s2.d x2; let y3 ← s3.d x3; let y4 ← s4.d x4; pure (y0, y1, y2, y3, y4)
  | _ => none
theorem len_5 {α : Type} : ∀ {xs : List α}, xs.length = 5 → ∃ x0 x1 x2 x3 x4, xs = [x0, x1, x2, x3, x4]
  | [x0, x1, x2, x3, x4], _ => ⟨x0, x1, x2, x3, x4, rfl⟩
  | [], h => by cases h
  | [_], h => by cases h
  | [_, _], h => by cases h
  | [_, _, _], h => by cases h
  | [_, _, _, _], h => by cases h
  | _ :: _ :: _ :: _ :: _ :: _ :: _, h => by simp at h
theorem dQ5_ok {α β γ δ ε : Type} {ρ : α → Pr} {σ : β → Pr} {τ : γ → Pr} {υ : δ → Pr} {φ : ε → Pr} [s0 : Dec ρ] [s1 : Dec σ] [s2 : Dec τ] [s3 : Dec υ] [s4 : Dec φ] {x : PyData} {y : α × β × γ × δ × ε} {v : V} {F : Hp} {n : Nat} (hn : n ≤ 8) (e : dQ5 ρ σ τ υ φ x = some y) (h : Dt n F v x) : (rT5 ρ σ τ υ φ y).r v F := by
  obtain ⟨k, rfl⟩ := dt_pos h
  cases x with
  | tuple ds =>
    by_cases hl : ds.length = 5
    · obtain ⟨x0, x1, x2, x3, x4, rfl⟩ := len_5 hl
      obtain ⟨y0, e0, e⟩ := some_bind e
      obtain ⟨y1, e1, e⟩ := some_bind e
      obtain ⟨y2, e2, e⟩ := some_bind e
      obtain ⟨y3, e3, e⟩ := some_bind e
      obtain ⟨y4, e4, e⟩ := some_bind e
      obtain rfl := Option.some.inj e
      obtain ⟨a, us, rfl, h1, h2, _, h3⟩ := h
      obtain ⟨v0, v1, v2, v3, v4, rfl⟩ := len_5 h2
      have g0 := s0.is (show k ≤ 8 by omega) e0 (h3 0 v0 x0 rfl rfl)
      have g1 := s1.is (show k ≤ 8 by omega) e1 (h3 1 v1 x1 rfl rfl)
      have g2 := s2.is (show k ≤ 8 by omega) e2 (h3 2 v2 x2 rfl rfl)
      have g3 := s3.is (show k ≤ 8 by omega) e3 (h3 3 v3 x3 rfl rfl)
      have g4 := s4.is (show k ≤ 8 by omega) e4 (h3 4 v4 x4 rfl rfl)
      exact ⟨a, [v0, v1, v2, v3, v4], rfl, h1, g0, g1, g2, g3, g4, trivial⟩
    · exfalso
      match ds, hl, e with
      | [x0, x1, x2, x3, x4], hl, _ => exact hl rfl
      | [], _, e => cases e
      | [_], _, e => cases e
      | [_, _], _, e => cases e
      | [_, _, _], _, e => cases e
      | [_, _, _, _], _, e => cases e
      | _ :: _ :: _ :: _ :: _ :: _ :: _, _, e => cases e
  | _ => cases e
instance decT5 {α β γ δ ε : Type} {ρ : α → Pr} {σ : β → Pr} {τ : γ → Pr} {υ : δ → Pr} {φ : ε → Pr} [s0 : Dec ρ] [s1 : Dec σ] [s2 : Dec τ] [s3 : Dec υ] [s4 : Dec φ] : Dec (rT5 ρ σ τ υ φ) := ⟨dQ5 ρ σ τ υ φ, dQ5_ok⟩
def dQ6 {α β γ δ ε ζ : Type} (ρ : α → Pr) (σ : β → Pr) (τ : γ → Pr) (υ : δ → Pr) (φ : ε → Pr) (χ : ζ → Pr) [s0 : Dec ρ] [s1 : Dec σ] [s2 : Dec τ] [s3 : Dec υ] [s4 : Dec φ] [s5 : Dec χ] : PyData → Option (α × β × γ × δ × ε × ζ)
  | .tuple [x0, x1, x2, x3, x4, x5] => do let y0 ← s0.d x0; let y1 ← s1.d x1; let y2 ← s2.d x2; let y3 ← s3.d x3; let y4 ← s4.d x4; let y5 ← s5.d x5; pure (y0, y1, y2, y3, y4, y5)
  | _ => none
theorem len_6 {α : Type} : ∀ {xs : List α}, xs.length = 6 → ∃ x0 x1 x2 x3 x4 x5, xs = [x0, x1, x2, x3, x4, x5]
  | [x0, x1, x2, x3, x4, x5], _ => ⟨x0, x1, x2, x3, x4, x5, rfl⟩
  | [], h => by cases h
  | [_], h => by cases h
  | [_, _], h => by cases h
  | [_, _, _], h => by cases h
  | [_, _, _, _], h => by cases h
  | [_, _, _, _, _], h => by cases h
  | _ :: _ :: _ :: _ :: _ :: _ :: _ :: _, h => by simp at h
theorem dQ6_ok {α β γ δ ε ζ : Type} {ρ : α → Pr} {σ : β → Pr} {τ : γ → Pr} {υ : δ → Pr} {φ : ε → Pr} {χ : ζ → Pr} [s0 : Dec ρ] [s1 : Dec σ] [s2 : Dec τ] [s3 : Dec υ] [s4 : Dec φ] [s5 : Dec χ] {x : PyData} {y : α × β × γ × δ × ε × ζ} {v : V} {F : Hp} {n : Nat} (hn : n ≤ 8) (e : dQ6 ρ σ τ υ φ χ x = some y) (h : Dt n F v x) : (rT6 ρ σ τ υ φ χ y).r v F := by
  obtain ⟨k, rfl⟩ := dt_pos h
  cases x with
  | tuple ds =>
    by_cases hl : ds.length = 6
    · obtain ⟨x0, x1, x2, x3, x4, x5, rfl⟩ := len_6 hl
      obtain ⟨y0, e0, e⟩ := some_bind e
      obtain ⟨y1, e1, e⟩ := some_bind e
      obtain ⟨y2, e2, e⟩ := some_bind e
      obtain ⟨y3, e3, e⟩ := some_bind e
      obtain ⟨y4, e4, e⟩ := some_bind e
      obtain ⟨y5, e5, e⟩ := some_bind e
      obtain rfl := Option.some.inj e
      obtain ⟨a, us, rfl, h1, h2, _, h3⟩ := h
      obtain ⟨v0, v1, v2, v3, v4, v5, rfl⟩ := len_6 h2
      have g0 := s0.is (show k ≤ 8 by omega) e0 (h3 0 v0 x0 rfl rfl)
      have g1 := s1.is (show k ≤ 8 by omega) e1 (h3 1 v1 x1 rfl rfl)
      have g2 := s2.is (show k ≤ 8 by omega) e2 (h3 2 v2 x2 rfl rfl)
      have g3 := s3.is (show k ≤ 8 by omega) e3 (h3 3 v3 x3 rfl rfl)
      have g4 := s4.is (show k ≤ 8 by omega) e4 (h3 4 v4 x4 rfl rfl)
      have g5 := s5.is (show k ≤ 8 by omega) e5 (h3 5 v5 x5 rfl rfl)
      exact ⟨a, [v0, v1, v2, v3, v4, v5], rfl, h1, g0, g1, g2, g3, g4, g5, trivial⟩
    · exfalso
      match ds, hl, e with
      | [x0, x1, x2, x3, x4, x5], hl, _ => exact hl rfl
      | [], _, e => cases e
      | [_], _, e => cases e
      | [_, _], _, e => cases e
      | [_, _, _], _, e => cases e
      | [_, _, _, _], _, e => cases e
      | [_, _, _, _, _], _, e => cases e
      | _ :: _ :: _ :: _ :: _ :: _ :: _ :: _, _, e => cases e
  | _ => cases e
instance decT6 {α β γ δ ε ζ : Type} {ρ : α → Pr} {σ : β → Pr} {τ : γ → Pr} {υ : δ → Pr} {φ : ε → Pr} {χ : ζ → Pr} [s0 : Dec ρ] [s1 : Dec σ] [s2 : Dec τ] [s3 : Dec υ] [s4 : Dec φ] [s5 : Dec χ] : Dec (rT6 ρ σ τ υ φ χ) := ⟨dQ6 ρ σ τ υ φ χ, dQ6_ok⟩
end
end RF
namespace RF
open PySem PySem.Spec PyProof.Rows L2 KO SX
section
variable {α β γ δ : Type} {X : Cx} {W : WX} {Γ : Ctx} {a b e : Expr} {pos p : Pos} {ρ : α → Pr} {md : Mo (List (Str × α))}
end
end RF
namespace RF
open PySem PySem.Spec PyProof.Rows L2 KO SX
section
variable {α β γ δ : Type} {X : Cx} {W : WX} {Γe Γ Γ' : Ctx} {lv : Bool} {e ee o a b c : Expr} {es : List Expr} {st : Stmt} {rest body suite : List Stmt} {Z : γ → Fin} {pos p2 p3 : Pos} {t : TE}
class ND (ρ : α → Pr) : Prop where
  nl : ∀ {x : α} {v : V} {F : Hp} {a : Addr} {vs : List (Key × V)}, Rd F a (.dK vs) → (ρ x).r v F → (ρ x).r v (del F a)
class NDP (q : Po) : Prop where
  nl : ∀ {u : HO} {F : Hp} {a : Addr} {vs : List (Key × V)}, Rd F a (.dK vs) → q.r u F → q.r u (del F a)
def NDr (p : Pr) : Prop := ∀ {v : V} {F : Hp} {a : Addr} {vs : List (Key × V)}, Rd F a (.dK vs) → p.r v F → p.r v (del F a)
instance : ND rI := ⟨fun _ h => h⟩
instance : ND rB := ⟨fun _ h => h⟩
instance : ND rS := ⟨fun _ h => h⟩
instance : ND rN := ⟨fun _ h => h⟩
instance {ρ : α → Pr} [n : ND ρ] : ND (rO ρ) := ⟨fun {x} {v F a vs} h k => by
  cases x with
  | none => exact k
  | some y => exact n.nl h k⟩
theorem Ps.nd {F : Hp} {a : Addr} {us : List (Key × V)} (h : Rd F a (.dK us)) : ∀ {ps : List Pr} {vs : List V}, (∀ p ∈ ps, NDr p) → Ps F ps vs → Ps (del F a) ps vs
  | [], [], _, _ => trivial
  | p :: ps, v :: vs, n, k => ⟨n p List.mem_cons_self h k.1, Ps.nd h (fun q hq => n q (List.mem_cons_of_mem _ hq)) k.2⟩
  | [], _ :: _, _, k => k.elim
  | _ :: _, [], _, k => k.elim
theorem nd_T {ps : List Pr} (n : ∀ p ∈ ps, NDr p) : NDr (rTu ps) := fun {v F a vs} h k => by
  obtain ⟨t, ws, rfl, h1, h2⟩ := k
  have hne : t ≠ a := by
    rintro rfl
    rcases h1 with h1 | ⟨o, h1⟩ <;> rcases h with h | ⟨o2, h⟩ <;> (rw [h] at h1; cases h1)
  exact ⟨t, ws, rfl, h1.imp (fun h => del_ok h hne) (fun ⟨o, h⟩ => ⟨o, del_ok h hne⟩), h2.nd h n⟩
theorem ndr {ρ : α → Pr} [n : ND ρ] (x : α) : NDr (ρ x) := fun h k => n.nl h k
theorem nd_mem1 {p : Pr} (h : NDr p) : ∀ q ∈ [p], NDr q := fun q hq => by rw [List.mem_singleton.mp hq]; exact h
theorem nd_memc {p : Pr} {ps : List Pr} (h : NDr p) (k : ∀ q ∈ ps, NDr q) : ∀ q ∈ p :: ps, NDr q := fun q hq => by
  rcases List.mem_cons.mp hq with e | e
  · rw [e]; exact h
  · exact k q e
section
variable {ε ζ : Type} {ρ : α → Pr} {σ : β → Pr} {τ : γ → Pr} {υ : δ → Pr} {φ : ε → Pr}
instance [ND ρ] : ND (rTs ρ) := ⟨fun {xs} {v F a vs} h k => nd_T (fun p hp => by
  obtain ⟨x, _, rfl⟩ := List.mem_map.mp hp
  exact ndr x) h k⟩
instance [ND ρ] : ND (rT1 ρ) := ⟨fun {x} {v F a vs} h k => nd_T (nd_mem1 (ndr _)) h k⟩
instance [ND ρ] [ND σ] : ND (rT2 ρ σ) := ⟨fun {x} {v F a vs} h k => nd_T (nd_memc (ndr _) (nd_mem1 (ndr _))) h k⟩
instance [ND ρ] [ND σ] [ND τ] : ND (rT3 ρ σ τ) := ⟨fun {x} {v F a vs} h k => nd_T (nd_memc (ndr _) (nd_memc (ndr _) (nd_mem1 (ndr _)))) h k⟩
instance [ND ρ] [ND σ] [ND τ] [ND υ] : ND (rT4 ρ σ τ υ) := ⟨fun {x} {v F a vs} h k => nd_T (nd_memc (ndr _) (nd_memc (ndr _) (nd_memc (ndr _) (nd_mem1 (ndr _))))) h k⟩
instance [ND ρ] [ND σ] [ND τ] [ND υ] [ND φ] : ND (rT5 ρ σ τ υ φ) := ⟨fun {x} {v F a vs} h k => nd_T (nd_memc (ndr _) (nd_memc (ndr _) (nd_memc (ndr _) (nd_memc (ndr _) (nd_mem1 (ndr _)))))) h k⟩
instance [n : ND ρ] {xs : List α} : NDP (oL ρ xs) := ⟨fun {u F a vs} h k => by
  obtain ⟨ws, rfl, h2⟩ := k
  exact ⟨ws, rfl, h2.nd h (fun p hp => by
    obtain ⟨x, _, rfl⟩ := List.mem_map.mp hp
    exact ndr x)⟩⟩
end
instance : NDP oPool := ⟨fun _ h => h⟩
instance {C : Addr} : NDP (oIn C []) := ⟨fun {u F a vs} h k => by
  obtain ⟨dx, gs, rfl, k⟩ := k
  cases gs with
  | nil => exact ⟨dx, [], rfl, trivial⟩
  | cons _ _ => exact k.elim⟩
theorem ks_nd {ρ : α → Pr} [ND ρ] {F : Hp} {a : Addr} {us : List (Key × V)} (h : Rd F a (.dK us)) : ∀ {kvs : List (Int × α)} {gs : List (Key × V)}, Ks F ρ kvs gs → Ks (del F a) ρ kvs gs
  | [], [], _ => trivial
  | (_, x) :: _, (_, _) :: _, k => ⟨k.1, ndr x h k.2.1, ks_nd h k.2.2⟩
  | [], _ :: _, k => k.elim
  | _ :: _, [], k => k.elim
instance {ρ : α → Pr} [ND ρ] {kvs : List (Int × α)} : NDP (oDk ρ kvs) := ⟨fun {u F a vs} h k => by
  obtain ⟨gs, rfl, k⟩ := k
  exact ⟨gs, rfl, ks_nd h k⟩⟩
instance : ND (rNN (α := α)) := ⟨fun _ h => h⟩
class NDK (k : RK γ) : Prop where
  nl : ∀ {x : γ} {v : V} {H F H' : Hp} {a : Addr} {vs : List (Key × V)}, Rd F a (.dK vs) → k.ok x v H F H' → k.ok x v H (del F a) H'
instance {ρ : γ → Pr} [n : ND ρ] : NDK (.fz ρ) := ⟨fun h k => n.nl h k⟩
instance {ρ : γ → Po} [n : ∀ x, NDP (ρ x)] : NDK (.ow ρ) := ⟨fun {x v H F H' a vs} h k => by
  obtain ⟨b, u, rfl, h1, h2, h3, h4⟩ := k
  refine ⟨b, u, rfl, h1, ?_, h3, (n x).nl h h4⟩
  unfold del
  split
  · rfl
  · exact h2⟩
def NDC : Ctx → Prop
  | [] => True
  | .ow _ _ q :: r => NDP q ∧ NDC r
  | _ :: r => NDC r
theorem NDC.get : ∀ {Γ : Ctx} {i : Nat} {l : Bool} {a : Addr} {q : Po}, NDC Γ → Γ[i]? = some (.ow l a q) → NDP q
  | [], _, _, _, _, _, h => by simp at h
  | en :: r, 0, l, a, q, n, h => by
    simp at h
    subst h
    exact n.1
  | en :: r, i + 1, l, a, q, n, h => by
    have n' : NDC r := by
      cases en with
      | un => exact n
      | fz p => exact n
      | ow l' a' q' => exact n.2
      | lk f h p => exact n
    exact NDC.get n' (by simpa using h)
section
variable {j : Nat} {l : Bool} {ad : Addr} {ρ : α → Pr} {xs : List (Str × α)}
end

section
variable {ρ : α → Pr}
instance ndL [ND ρ] : ND (rL ρ) := ⟨fun {xs} {v F a vs} h k => by
  obtain ⟨t, ws, rfl, h1, h2⟩ := k
  have hne : t ≠ a := by
    rintro rfl
    rcases h with h | ⟨o2, h⟩ <;> (rw [h] at h1; cases h1)
  exact ⟨t, ws, rfl, del_ok h1 hne, h2.nd h (fun p hp => by
    obtain ⟨x, _, rfl⟩ := List.mem_map.mp hp
    exact ndr x)⟩⟩
theorem dt_nd {F : Hp} {a : Addr} {us : List (Key × V)} (h : Rd F a (.dK us)) : ∀ (n : Nat) {v : V} {x : PyData}, Dt n F v x → Dt n (del F a) v x
  | 0, _, _, k => k
  | n + 1, v, x, k => by
    cases x with
    | none => exact k
    | bool _ => exact k
    | int _ => exact k
    | str _ => exact k
    | list ds =>
      obtain ⟨t, xs, rfl, h1, h2, h3, h4⟩ := k
      have hne : t ≠ a := by
        rintro rfl
        rcases h with h | ⟨o2, h⟩ <;> (rw [h] at h1; cases h1)
      exact ⟨t, xs, rfl, del_ok h1 hne, h2, h3, fun i w d e1 e2 => dt_nd h n (h4 i w d e1 e2)⟩
    | tuple ds =>
      obtain ⟨t, xs, rfl, h1, h2, h3, h4⟩ := k
      have hne : t ≠ a := by
        rintro rfl
        rcases h1 with h1 | ⟨o, h1⟩ <;> rcases h with h | ⟨o2, h⟩ <;> (rw [h] at h1; cases h1)
      exact ⟨t, xs, rfl, h1.imp (fun h => del_ok h hne) (fun ⟨o, h⟩ => ⟨o, del_ok h hne⟩), h2, h3, fun i w d e1 e2 => dt_nd h n (h4 i w d e1 e2)⟩
    | dict _ => exact k.elim
instance ndD : ND rD := ⟨fun {x} {v F a vs} h k => dt_nd h 8 k⟩
end
end
end RF
namespace RF
open PySem PySem.Spec PyProof.Rows L2 KO SX
section
variable {α β γ δ : Type} {X : Cx} {W : WX} {Γe Γ Γ' : Ctx} {lv : Bool} {e ee o a b c : Expr} {es : List Expr} {st : Stmt} {pos p2 p3 : Pos} {t : TE}
theorem fs_nd {F : Hp} {a : Addr} {vs : List (Key × V)} (hl : Rd F a (.dK vs)) : ∀ {fs : List (Str × Pr)} {gs : List (Str × V)}, (∀ p ∈ fs, NDr p.2) → Fs F fs gs → Fs (del F a) fs gs
  | [], [], _, _ => trivial
  | p :: fs, g :: gs, h, k => ⟨k.1, h p List.mem_cons_self hl k.2.1, fs_nd hl (fun q hq => h q (List.mem_cons_of_mem _ hq)) k.2.2⟩
  | [], _ :: _, _, k => k.elim
  | _ :: _, [], _, k => k.elim
theorem ndp_in {C : Addr} {fs : List (Str × Pr)} (h : ∀ p ∈ fs, NDr p.2) : NDP (oIn C fs) := ⟨fun {u F a vs} hl k => by
  obtain ⟨dx, gs, rfl, k⟩ := k
  exact ⟨dx, gs, rfl, fs_nd hl h k⟩⟩
theorem nd_in {C : Addr} {fs : List (Str × Pr)} (h : ∀ p ∈ fs, NDr p.2) : NDr (rIn C fs) := fun {v F a vs} hl k => by
  obtain ⟨b, dx, gs, rfl, h1, k⟩ := k
  exact ⟨b, dx, gs, rfl, del_ok h1 (by rintro rfl; rcases hl with hl | ⟨o2, hl⟩ <;> (rw [hl] at h1; cases h1)), fs_nd hl h k⟩
theorem ndf1 {f : Str} {p : Pr} (h : NDr p) : ∀ q ∈ [(f, p)], NDr q.2 := fun q hq => by rw [List.mem_singleton.mp hq]; exact h
theorem ks_ndS {ρ : α → Pr} [ND ρ] {F : Hp} {a : Addr} {us : List (Key × V)} (h : Rd F a (.dK us)) : ∀ {kvs : List (Str × α)} {gs : List (Key × V)}, KsS F ρ kvs gs → KsS (del F a) ρ kvs gs
  | [], [], _ => trivial
  | (_, x) :: _, (_, _) :: _, k => ⟨k.1, ndr x h k.2.1, ks_ndS h k.2.2⟩
  | [], _ :: _, k => k.elim
  | _ :: _, [], k => k.elim
instance {ρ : α → Pr} [ND ρ] {kvs : List (Str × α)} : NDP (oDkS ρ kvs) := ⟨fun {u F a vs} h k => by
  obtain ⟨gs, rfl, k⟩ := k
  exact ⟨gs, rfl, ks_ndS h k⟩⟩
instance ndTf {ρ : α → Pr} [ND ρ] : ND (rTf ρ) := ⟨fun {xs} {v F b us} h k => by
  obtain ⟨a, vs, o, rfl, h1, h2, h3⟩ := k
  exact ⟨a, vs, o, rfl, del_ok h1 (by rintro rfl; rcases h with h | ⟨o2, h⟩ <;> (rw [h] at h1; cases h1)), h2, h3.nd h (fun p hp => by
    obtain ⟨x, _, rfl⟩ := List.mem_map.mp hp
    exact ndr x)⟩⟩
end
end RF
namespace RF
open PySem PySem.Spec PyProof.Rows L2 KO SX
section
variable {X : Cx} {W : WX} {Γ : Ctx} {a b : Expr} {pos p : Pos} {mi mj : Mo Int}
end
end RF
namespace RF
open PySem PySem.Spec PyProof.Rows L2 KO SX
section
variable {α β γ δ : Type} {X : Cx} {W : WX} {Γe Γ Γ' : Ctx} {lv : Bool} {e ee o a b c : Expr} {es : List Expr} {st : Stmt} {pos p2 p3 : Pos} {t : TE} {ρ : α → Pr}
theorem KsS.at {F : Hp} : ∀ {kvs : List (Str × α)} {gs : List (Key × V)} {i : Nat} {k : Str} {x : α}, KsS F ρ kvs gs → kvs[i]? = some (k, x) → ∃ v, gs[i]? = some (.inr k, v) ∧ (ρ x).r v F
  | [], _, _, _, _, _, h => by simp at h
  | _ :: _, [], _, _, _, k, _ => k.elim
  | (k0, x0) :: r, (k1, v1) :: r', 0, k, x, h, e => by
    simp at e
    obtain ⟨rfl, rfl⟩ := e
    exact ⟨v1, by rw [h.1]; rfl, h.2.1⟩
  | (k0, x0) :: r, (k1, v1) :: r', i + 1, k, x, h, e => KsS.at (kvs := r) (gs := r') h.2.2 (by simpa using e)
class NDLK (k : RK γ) : Prop where
  lk : ∀ {x : γ} {v : V} {H F H' : Hp} {a : Addr} {od : Obj} {vs : List (Key × V)}, F a = some (.frz od (.dK vs)) → k.ok x v (upd H a (.frz od (.dK vs))) F H' → k.ok x v H (del F a) (upd H' a (.dK vs))
instance {ρ : γ → Pr} [n : ND ρ] : NDLK (.fz ρ) := ⟨fun h k => n.nl (.inr ⟨_, h⟩) k⟩
instance {ρ : γ → Po} [n : ∀ x, NDP (ρ x)] : NDLK (.ow ρ) := ⟨fun {x v H F H' a od vs} h k => by
  obtain ⟨b, u, rfl, h1, h2, h3, h4⟩ := k
  have hb : b ≠ a := by rintro rfl; rw [h] at h2; cases h2
  refine ⟨b, u, rfl, by rw [upd_ne hb] at h1; exact h1, ?_, by rw [upd_ne hb]; exact h3, (n x).nl (.inr ⟨_, h⟩) h4⟩
  unfold del
  split
  · rfl
  · exact h2⟩
section
variable {j : Nat} {l : Bool} {ad : Addr} {xs : List (Str × α)}
end
end
end RF
namespace RF
open PySem PySem.Spec PyProof.Rows L2 KO SX
section
variable {K : PySem.W.Frag} {C p : Addr} {n : Str} {T : String} {g : Value}
theorem findCls_get (h1 : PySem.W.findIn K (.type "type") n = some none) (h2 : PySem.W.findIn K (.ref C) n = some (some (.ref p))) (h3 : PySem.W.typeIn K (.ref p) = some (.type T)) (hb : PySem.W.bareKinds.contains (.type T) = false) (h4 : PySem.W.specialIn K (.ref p) "__get__" = some (some g)) : PySem.W.findCls K (.ref C) (.type "type") n = some (.get g (.ref p) .none (.ref C)) := by
  unfold PySem.W.findCls
  simp only [h1, h2, h3, h4, Option.bind_some, hb, Bool.false_eq_true, if_false, Builtin.heldUnderItsOwnName]
structure SMet (K : PySem.W.Frag) (C : Addr) (m : Str) (f : Addr) : Prop where
  rd : ClX.CRead K C (.type "type")
  at_ : ∃ (p : Addr) (rest : List Value), PySem.W.findCls K (.ref C) (.type "type") m = some (.get (.builtin "staticmethod.__get__") (.ref p) .none (.ref C)) ∧ PySem.W.recIn K p "staticmethod" = some (.ref f :: rest)
  kp : PySem.W.keepIn K (.ref f) = true
structure KMet (K : PySem.W.Frag) (C : Addr) (m : Str) (f : Addr) : Prop where
  rd : ClX.CRead K C (.type "type")
  at_ : ∃ p : Addr, ClX.CMet K C (.type "type") m p f
end
section
variable {CX : CXT} {k : Nat} {X : Cx} {pins : List (Addr × Obj)} {σ : L2.St} {H : Hp} {s : Shared} {C f : Addr} {fd : FuncData} {ps : List Str} {m : Str} {A : Around} {E : L2.St → XK} {E' : Value → Shared → Prop} {o e : Expr} {es : List Expr} {ta : TE} {t : TA} {apos pos : Pos} {pl : Sem Bool} {sp : Sp} {Q : VK}
theorem getsm_ok {b : Bool} {Q : Value → Shared → Prop} (I : Inv X pins σ H s) (c : SMet X.K C m f) (h : ∀ s', Inv X pins σ H s' → Q (.ref f) s') : wpAny (model X.prog X.w) A (getAttr (.ref C) m b) Q E' s := by
  obtain ⟨p, rest, e, hp⟩ := c.at_
  refine PySem.W.cls_bind I.kIn c.rd.rd e ?_
  refine wpAny_call (PySem.W.sm_get (s := { s with toks := s.toks + 1 }) I.kIn hp (PySem.W.handed_on rfl ?_))
  exact h _ (I.tok _)
theorem getmethsm_ok {Q : Value × List Value → Shared → Prop} (I : Inv X pins σ H s) (c : SMet X.K C m f) (h : ∀ s', Inv X pins σ H s' → Q (.ref f, []) s') : wpAny (model X.prog X.w) A (getMethod (.ref C) m pl) Q E' s :=
  PySem.W.method_cls I.kIn c.rd.ga (getsm_ok I c h)
def tSm (C : Addr) (sp : Sp) (E : L2.St → XK) (ta : TE) (t : TA) : TE := fun σ H Q => ta σ H fun x H1 => x = .ref C ∧ t σ H1 fun vs H2 => sp vs H2 Q (E σ)
theorem pe_sm (he : PE X o ta) (c : SMet X.K C m f) (F : FnOk X.prog X.w X.K X.mg X.base CX k f fd ps sp) (hr : Room k X.A) (hb : Binds X.K fd ps []) (hx : ∀ σ, PassesAt CX X σ (E σ)) (ha : PA X (e :: es) t)
    (hst : starEach (e :: es) X.env = (false, eval e X.env) :: starEach es X.env := by rfl) (hpl : (backTo pos (starEach es X.env)).any (·.1) = false := by rfl)
    (ht : eval (.Call (.Attribute o m apos) (e :: es) [] pos) X.env = (do
      let ov ← eval o X.env
      standAt apos.atName
      let (f, first) ← holding [ov] (getMethod ov m pl)
      callWith pos f first (backTo pos (starEach (e :: es) X.env)) (backToKw pos (keywordEach [] X.env))) := by rfl) :
    PE X (.Call (.Attribute o m apos) (e :: es) [] pos) (tSm C sp E ta t) := by
  refine ⟨fun pins s σ H Q I h => ?_⟩
  refine PySem.W.methodCall_KW (pl := pl) (thn (he.run pins s σ H _ I h) fun u s1 ⟨x, H1, I1, rx, ex, q⟩ => ?_) ht
  subst ex
  obtain rfl : u = Value.ref C := rx
  refine getmethsm_ok I1 c fun s2 I2 => ?_
  refine PySem.W.callWith_K (first := []) (h₀ := X.base) I.ok.mod.kin c.kp (thn (ha.run pos pins s2 σ H1 _ I2 q) fun us s3 ⟨vs, H2, I3, r, q2⟩ => ⟨I3.kIn, ?_⟩) hst hpl
  exact run_fnS (us := us) (vs := vs) F hr hb (hx σ) I3 r q2
theorem code_fnS {us : List Value} {vs : List V} (F : FnOk X.prog X.w X.K X.mg X.base CX k f fd ps sp) (hr : Room k X.A) (hb : Binds X.K fd ps []) (hx : PassesAt CX X σ (E σ))
    (I : Inv X pins σ H s) (r : Vals vs us) (h : sp vs H Q (E σ)) : codeAny (model X.prog X.w) X.A (.call (.ref f) ⟨us, []⟩) (fun r s' => match r with | .ok (.ret v) => EP X pins σ Q v s' | .ok _ => False | .error e => X.xe e s') s := by
  have hl : us.length = ps.length := by rw [← r.length]; exact F.len _ _ _ _ h
  have b := hb s us I.kIn (by rw [List.append_nil]; exact hl)
  rw [List.append_nil] at b
  refine codeAny_mono (F.run X.A X.stack s H ⟨us, []⟩ us vs Q (E σ) hr I.env0 b r h) fun r s' hq => ?_
  cases r with
  | error e => exact hx pins H s e s' I hq
  | ok fl =>
    cases fl with
    | ret u => exact I.after hq
    | next => exact False.elim hq
    | brk => exact False.elim hq
    | cont => exact False.elim hq
theorem run_kmS {q : Addr} {us : List Value} {vs : List V} (F : FnOk X.prog X.w X.K X.mg X.base CX k f fd ps sp) (hr : Room k X.A) (hb : Binds X.K fd ps []) (hx : PassesAt CX X σ (E σ)) (I : Inv X ((q, PySem.W.methodObj (.ref f) (.ref C)) :: pins) σ H s) (r : Vals vs us)
    (h : sp (.ref C :: vs) H Q (E σ)) : wpAny (model X.prog X.w) X.A (call (.ref q) us) (EP X pins σ Q) X.xe s := by
  have z : wpAny (model X.prog X.w) X.A (call (.ref q) us) (EP X ((q, PySem.W.methodObj (.ref f) (.ref C)) :: pins) σ Q) X.xe s :=
    wpAny_call (PySem.W.method_call (ClX.pin_at I) (code_fnS (us := .ref C :: us) (vs := .ref C :: vs) F hr hb hx I (.cons rfl r) h))
  exact thn z fun _ _ y => ClX.unpinE y
def tKm (C : Addr) (sp : Sp) (E : L2.St → XK) (ta : TE) (t : TA) : TE := fun σ H Q => ta σ H fun x H1 => x = .ref C ∧ t σ H1 fun vs H2 => sp (.ref C :: vs) H2 Q (E σ)
theorem pe_km (he : PE X o ta) (c : KMet X.K C m f) (F : FnOk X.prog X.w X.K X.mg X.base CX k f fd ps sp) (hr : Room k X.A) (hb : Binds X.K fd ps []) (hx : ∀ σ, PassesAt CX X σ (E σ)) (ha : PA X (e :: es) t)
    (hst : starEach (e :: es) X.env = (false, eval e X.env) :: starEach es X.env := by rfl) (hpl : (backTo pos (starEach es X.env)).any (·.1) = false := by rfl)
    (ht : eval (.Call (.Attribute o m apos) (e :: es) [] pos) X.env = (do
      let ov ← eval o X.env
      standAt apos.atName
      let (f, first) ← holding [ov] (getMethod ov m pl)
      callWith pos f first (backTo pos (starEach (e :: es) X.env)) (backToKw pos (keywordEach [] X.env))) := by rfl) :
    PE X (.Call (.Attribute o m apos) (e :: es) [] pos) (tKm C sp E ta t) := by
  refine ⟨fun pins s σ H Q I h => ?_⟩
  refine PySem.W.methodCall_KW (pl := pl) (thn (he.run pins s σ H _ I h) fun u s1 ⟨x, H1, I1, rx, ex, q⟩ => ?_) ht
  subst ex
  obtain rfl : u = Value.ref C := rx
  obtain ⟨p, cm⟩ := c.at_
  refine ClX.getmethcm_ok I1 c.rd cm fun s2 I2 => ?_
  refine ClX.callwith_cm I2 (ClX.base_none I1 (Nat.le_refl _)) cm.fi (thn (ha.run pos _ s2 σ H1 _ I2 q) fun us s3 ⟨vs, H2, I3, rv, q2⟩ => ⟨⟨ClX.pin_at I3, I3.kIn⟩, ?_⟩) hst hpl
  exact run_kmS F hr hb (hx σ) I3 rv q2
end
def rK (C : Addr) : Unit → Pr := fun _ => ⟨fun v _ => v = .ref C, fun _ h => h⟩
section
variable {α β γ δ : Type} {X : Cx} {W : WX} {Γe Γ Γ' : Ctx} {lv : Bool} {e o a b c : Expr} {es : List Expr} {st : Stmt} {pos apos p2 p3 : Pos} {t : TE} {C f : Addr} {fd : FuncData} {ps : List Str} {k : Nat} {n : Str} {kr : RK γ} {mo : Mo Unit} {pl : Sem Bool}
theorem re_cls (hn : PE X e (tC (.ref C))) : RE X W Γ e (pure ()) (.fz (rK C)) := re_con (ρ := rK C) () hn (fun _ => rfl)
theorem re_km {ma : Mo β} {m : Unit × β → Mo γ} {pa : β → Ctx} {pp : β → Ctx} (ho : RE X W Γ o mo (.fz (rK C))) (c : KMet X.K C n f) (Fn : FnOk X.prog X.w X.K X.mg X.base (L2.CX X.prog X.w) k f fd ps (spR X.K X.mg (fun (_ : Unit) z => .fz (rK C z.1) :: pp z.2) m kr)) (hr : Room k X.A) (tk : Takes X W) (ha : RA X W Γ (e :: es) ma pa) (hb : Binds X.K fd ps [])
    (hpp : ∀ y, pa y = pp y := by intro _; rfl) (hap : ∀ x y, oneOwn (.fz (rK C x) :: pp y) = true := by intro _ _; rfl) (hst : starEach (e :: es) X.env = (false, eval e X.env) :: starEach es X.env := by rfl) (hpl : (backTo pos (starEach es X.env)).any (·.1) = false := by rfl)
    (ht : eval (.Call (.Attribute o n apos) (e :: es) [] pos) X.env = (do
      let ov ← eval o X.env
      standAt apos.atName
      let (f, first) ← holding [ov] (getMethod ov n pl)
      callWith pos f first (backTo pos (starEach (e :: es) X.env)) (backToKw pos (keywordEach [] X.env))) := by rfl) :
    RE X W Γ (.Call (.Attribute o n apos) (e :: es) [] pos) (mo >>= fun x => ma >>= fun y => m (x, y)) kr := by
  refine re_of (pe_km peE c Fn hr hb (fun σ => passAt tk σ) paA hst hpl ht) fun G σ F H Q o q => ?_
  refine ho G σ F H _ o (mo.mono (fun x hx v F1 H1 o1 g1 z => ?_) (fun _ z => z) q)
  obtain rfl : v = .ref C := z
  refine ⟨rfl, ?_⟩
  refine ha G σ F1 H1 _ o1 (ma.mono (fun y hy vs F' H' o' g' z => ?_) (fun _ => EQ.step g1) hx)
  rw [hpp y] at z
  exact run_spR (pp := fun (_ : Unit) z => .fz (rK C z.1) :: pp z.2) (i := ()) (y := (x, y)) o' (ra_both z rfl) (hap x y) (run_step (g1.trans g' owns_tr) hy)
end
end RF
namespace RF
open PySem PySem.Spec PyProof.Rows L2 KO SX
section
variable {α β γ δ : Type} {X : Cx} {W : WX} {Γe Γ Γ' : Ctx} {lv : Bool} {e o a b c : Expr} {es : List Expr} {st : Stmt} {pos apos p p2 p3 : Pos} {t : TE} {C f : Addr} {fd : FuncData} {ps : List Str} {k : Nat} {n x : Str} {kr : RK γ} {pl : Sem Bool}
theorem re_divmod {mi mj : Mo Int} (ha : RE X W Γ a mi (.fz rI)) (hb : RE X W Γ b mj (.fz rI)) (hm : X.mg "divmod" = none) (hg : Gl X "divmod" := by rfl) (he : starEach [a, b] X.env = (false, eval a X.env) :: starEach [b] X.env := by rfl) (he2 : starEach [b] X.env = [(false, eval b X.env)] := by rfl) (hpl : (backTo pos (starEach [b] X.env)).any (·.1) = false := by rfl) : RE X W Γ (.Call (.Name "divmod" p) [a, b] [] pos) (mi >>= fun i => mj >>= fun j => Mo.rq (CDiv i j) (i / j, i % j)) (.fz (rT2 rI rI)) :=
  re_of (pe_callB call_divmod hg hm (by decide +kernel) (pa_cons peE (pa_cons peE pa_nil he2) he) (by decide) (by decide) he hpl) fun G σ F H Q o q => ha G σ F H _ o (mi.mono (fun i hx v F' H' o' g' z => by
    refine hb G σ F' H' _ o' (mj.mono (fun j hy u F2 H2 o2 g2 z2 => ?_) (fun _ => EQ.step g') hx)
    obtain rfl : v = .int i := z
    obtain rfl : u = .int j := z2
    refine ⟨i, j, rfl, hy.1, fun d hd => ?_⟩
    obtain ⟨o3, g3⟩ := o2.new (u := .tup [.int (i / j), .int (i % j)]) hd
    exact hy.2 _ _ _ o3 ((g'.trans g2 owns_tr).trans g3 owns_tr) ⟨d, _, rfl, .inl upd_same, rfl, rfl, trivial⟩) (fun _ z => z) q)
theorem re_sm {ma : Mo β} {mo : Mo Unit} {m : β → Mo γ} {pa pp : β → Ctx} (ho : RE X W Γ o mo (.fz (rK C))) (c : SMet X.K C n f) (Fn : FnOk X.prog X.w X.K X.mg X.base (L2.CX X.prog X.w) k f fd ps (spR X.K X.mg (fun (_ : Unit) z => pp z) m kr)) (hr : Room k X.A) (tk : Takes X W) (ha : RA X W Γ (e :: es) ma pa) (hb : Binds X.K fd ps [])
    (hpp : ∀ y, pa y = pp y := by intro _; rfl) (hap : ∀ y, oneOwn (pp y) = true := by intro _; rfl) (hst : starEach (e :: es) X.env = (false, eval e X.env) :: starEach es X.env := by rfl) (hpl : (backTo pos (starEach es X.env)).any (·.1) = false := by rfl)
    (ht : eval (.Call (.Attribute o n apos) (e :: es) [] pos) X.env = (do
      let ov ← eval o X.env
      standAt apos.atName
      let (f, first) ← holding [ov] (getMethod ov n pl)
      callWith pos f first (backTo pos (starEach (e :: es) X.env)) (backToKw pos (keywordEach [] X.env))) := by rfl) :
    RE X W Γ (.Call (.Attribute o n apos) (e :: es) [] pos) (mo >>= fun _ => ma >>= m) kr := by
  refine re_of (pe_sm peE c Fn hr hb (fun σ => passAt tk σ) paA hst hpl ht) fun G σ F H Q o q => ?_
  refine ho G σ F H _ o (mo.mono (fun x hx v F1 H1 o1 g1 z => ?_) (fun _ z => z) q)
  obtain rfl : v = .ref C := z
  refine ⟨rfl, ?_⟩
  refine ha G σ F1 H1 _ o1 (ma.mono (fun y hy vs F' H' o' g' z => ?_) (fun _ => EQ.step g1) hx)
  rw [hpp y] at z
  exact run_spR (pp := fun (_ : Unit) z => pp z) (i := ()) (y := y) o' z (hap y) (run_step (g1.trans g' owns_tr) hy)
theorem arg2 {F H : Hp} {p q : Pr} {v u : V} (h : p.r v F) (h2 : q.r u F) : ArgOk Γ F H [.fz p, .fz q] [v, u] := ⟨rfl, fun i en w e1 e2 => by
  match i, e1, e2 with
  | 0, e1, e2 => cases e1; cases e2; exact h
  | 1, e1, e2 => cases e1; cases e2; exact h2, fun i l a q h => by
  match i, h with
  | 0, h => cases h
  | 1, h => cases h⟩
theorem re_subO {m : α × β × Unit → Mo γ} {mx : Mo α} {my : Mo β} {ρ : α → Pr} {ρ' : β → Pr} (fs : α → List (Str × Pr)) (hm : Meth X.K C "__getitem__" f) (hfn : PySem.W.fnIn X.K f = true) (Fn : FnOk X.prog X.w X.K X.mg X.base (L2.CX X.prog X.w) k f fd ps (spR X.K X.mg (fun (_ : Unit) (z : α × β × Unit) => [.fz (ρ z.1), .fz (ρ' z.2.1)]) m kr)) (hr : Room (k + 1) X.A) (tk : Takes X W) (hb : Binds X.K fd ps [])
    (ha : RE X W Γ a mx (.fz ρ)) (hb2 : RE X W Γ b my (.fz ρ')) (hρ : ∀ x, ρ x = rIn C (fs x) := by intro _; rfl) (hs : ∀ o i, subscripted b true o i = runValue (.builtin "lifetime.subscript" ⟨[o, i], []⟩) := by intro _ _; with_unfolding_all rfl) : RE X W Γ (.Subscript a b pos) (mx >>= fun x => my >>= fun y => m (x, y, ())) kr := by
  refine re_of (pe_subOwn hm hfn Fn hr hb (fun σ => passAt tk σ) peE peE hs) fun G σ F H Q o q => ?_
  refine ha G σ F H _ o (mx.mono (fun x hx v F1 H1 o1 g1 z => ?_) (fun _ z => z) q)
  refine hb2 G σ F1 H1 _ o1 (my.mono (fun y hy u F2 H2 o2 g2 z2 => ?_) (fun _ => EQ.step g1) hx)
  have z1 : (ρ x).r v F2 := (ρ x).mono g2.fs z
  have z' := z1
  rw [hρ x] at z'
  obtain ⟨ad, dx, gs, rfl, h1, _⟩ := z'
  refine ⟨ad, dx, gs, rfl, o2.le _ _ h1, ?_⟩
  exact run_spR (pp := fun (_ : Unit) (z : α × β × Unit) => [.fz (ρ z.1), .fz (ρ' z.2.1)]) (i := ()) (y := (x, y, ())) o2 (arg2 z1 z2) rfl (run_step (g1.trans g2 owns_tr) hy)
theorem re_absO {m : α × Unit → Mo γ} {mx : Mo α} {ρ : α → Pr} {ρ' : γ → Pr} (fs : α → List (Str × Pr)) (hm : Meth X.K C "__abs__" f) (Fn : FnOk X.prog X.w X.K X.mg X.base (L2.CX X.prog X.w) k f fd ps (spR X.K X.mg (fun (_ : Unit) (z : α × Unit) => [.fz (ρ z.1)]) m (.fz ρ'))) (hr : Room (k + 1) X.A) (tk : Takes X W) (hb : Binds X.K fd ps [])
    (ha : RE X W Γ e mx (.fz ρ)) (hms : X.mg "abs" = none) (hρ : ∀ x, ρ x = rIn C (fs x) := by intro _; rfl) (hg : Gl X "abs" := by rfl) (he : starEach [e] X.env = [(false, eval e X.env)] := by rfl) : RE X W Γ (.Call (.Name "abs" p) [e] [] pos) (mx >>= fun x => Mo.calm (m (x, ()))) (.fz ρ') := by
  refine re_of (pe_callB (abs_own hm Fn hr hb (pass_calm tk)) hg hms (by decide +kernel) (pa_cons peE pa_nil he) (by decide) (by decide) he rfl) fun G σ F H Q o q => ?_
  refine ha G σ F H _ o (mx.mono (fun x hx v F' H' o' g' z => ?_) (fun _ z => z) q)
  have z' : (ρ x).r v F' := z
  have z0 : (ρ x).r v F' := z
  rw [hρ x] at z'
  obtain ⟨ad, dx, gs, rfl, h1, _⟩ := z'
  refine ⟨ad, dx, gs, rfl, o'.le _ _ h1, ?_⟩
  have hx' : (Mo.calm (m (x, ()))).run (NQ G Γ σ F' H' (.fz ρ') Q) (EQ X W0 G Γ σ F' H') := Mo.mono _ (fun n hn => NQ.step g' hn) (fun _ z => False.elim z) hx
  exact run_spR (W := W0) (Γ := Γ) (i := ()) (y := (x, ())) o' (arg1 z0) rfl ((m (x, ())).mono (fun _ h => h) (fun _ z => z.elim) hx')
theorem hk_fz {ρ : γ → Pr} {C : Addr} (fs : γ → List (Str × Pr)) (h : ∀ x, ρ x = rIn C (fs x) := by intro _; rfl) : ∀ z v H F H', (RK.fz ρ).ok z v H F H' → ∃ r, v = .ref r := fun z v H F H' k => by
  have k : (ρ z).r v F := k
  rw [h z] at k
  obtain ⟨a, _, _, e, _⟩ := k
  exact ⟨a, e⟩
theorem re_binOI {op : Operator} {nr : Str} {rc fo ro : Option Value} {m : α × Int × Unit → Mo γ} {mx : Mo α} {my : Mo Int} {ρ : α → Pr} (fs : α → List (Str × Pr)) (hn : PySem.dunder op.info.2 = n) (hnR : dunderR op.info.2 = nr) (hm : Meth X.K C n f) (sf : PySem.W.selfFirst X.K C = true) (hr' : PySem.W.findIn X.K (.ref C) nr = some rc) (hp : rc = none ∨ ∃ g : Addr, rc = some (.ref g))
    (h1 : PySem.W.findIn X.K (.type "int") n = some fo) (h2 : PySem.W.findIn X.K (.type "int") nr = some ro) (hsub : PySem.W.subIn X.K (.type "int") (.ref C) = some false) (Fn : FnOk X.prog X.w X.K X.mg X.base (L2.CX X.prog X.w) k f fd ps (spR X.K X.mg (fun (_ : Unit) (z : α × Int × Unit) => [.fz (ρ z.1), .fz (rI z.2.1)]) m kr)) (hr : Room k X.A) (tk : Takes X W) (hb : Binds X.K fd ps []) (hk : ∀ z v H F H', kr.ok z v H F H' → ∃ r, v = .ref r)
    (ha : RE X W Γ a mx (.fz ρ)) (hb2 : RE X W Γ b my (.fz rI)) (hρ : ∀ x, ρ x = rIn C (fs x) := by intro _; rfl) : RE X W Γ (.BinOp a op b pos) (mx >>= fun x => my >>= fun y => Mo.calm (m (x, y, ()))) kr :=
  re_bin (bin_ownI hn hnR hm sf hr' hp h1 h2 hsub Fn hr hb (pass_calm tk)) (fun x y G σ F H Q u w o hu hw q => by
    have hu' := hu
    rw [hρ x] at hu'
    obtain ⟨p, dx, gs, rfl, h1, _⟩ := hu'
    obtain rfl : w = .int y := hw
    refine ⟨p, dx, gs, y, rfl, rfl, o.le _ _ h1, ?_⟩
    refine run_spR (W := W0) (Γ := Γ) (i := ()) (y := (x, y, ())) o (arg2 hu (show (rI y).r (.int y) F from rfl)) rfl ((m (x, y, ())).mono (fun z hz v F' H' o' g' r => ?_) (fun _ z => z.elim) q)
    obtain ⟨a, e⟩ := hk _ _ _ _ _ r
    subst e
    exact ⟨a, rfl, hz _ F' H' o' g' r⟩) ha hb2
def tMakeV (C : Addr) (sp : Sp) (E : L2.St → XK) (tn : TE) (t : TA) : TE := fun σ H Q => tn σ H fun v H1 => v = .ref C ∧ tMakeX C sp E t σ H1 Q
theorem pe_makeV {CX : CXT} {sp : Sp} {E : L2.St → XK} {tn : TE} {t : TA} (hn : PE X (.Name x p) tn) (M : Mk X.K C f) (F : FnOk X.prog X.w X.K X.mg X.base CX k f fd ps sp) (hr : Room (k + 1) X.A) (hb : Binds X.K fd ps []) (hx : ∀ σ, PassesAt CX X σ (E σ))
    (ha : PA X (e :: es) t) (he : starEach (e :: es) X.env = (false, eval e X.env) :: starEach es X.env := by rfl) (hpl : (backTo pos (starEach es X.env)).any (·.1) = false := by rfl) :
    PE X (.Call (.Name x p) (e :: es) [] pos) (tMakeV C sp E tn t) := by
  refine ⟨fun pins s σ H Q I h => ?_⟩
  refine wpAny_Call_Name_kw (thn (hn.run pins s σ H _ I h) fun u s1 ⟨v, H1, I1, rx, ex, q⟩ => ?_)
  subst ex
  obtain rfl : u = Value.ref C := rx
  refine PySem.W.callWith_K (h₀ := X.base) I.ok.mod.kin M.kp (thn (ha.run pos pins s1 σ H1 _ I1 q) fun us s2 ⟨vs, H2, I2, r, q2⟩ => ⟨I2.kIn, ?_⟩) he hpl
  exact run_makeX M F hr hb (hx σ) I2 r q2
theorem mkV_core {ma : Mo β} {m : β → Mo γ} {pa pp : β → Ctx} {fo : γ → List (Str × Pr)} (ha : RA X W Γ (e :: es) ma pa) (hpp : ∀ y, pa y = pp y) (hno : ∀ y, ((pp y).all fun e => e.own?.isNone) = true) : RTE X W Γ (tMakeX C (spI X.K X.mg C pp m fo) (fun σ => WE W σ) (tAs X (e :: es))) (ma >>= m) (.ow fun y => oIn C (fo y)) := fun G σ F H Q o q => by
  refine ha G σ F H _ o (ma.mono (fun y hy vs F1 H1 o1 g1 z x dx hx hdx ne => ?_) (fun _ z => z) q)
  rw [hpp y] at z
  have gA : Go [x] F1 H1 F1 (upd H1 dx (.own x)) := Go.newO o1.le hdx
  have hx2 : (upd H1 dx (.own x)) x = none := by rw [upd_ne (Ne.symm ne)]; exact hx
  have gB : Go [x] F1 (upd H1 dx (.own x)) F1 (upd (upd H1 dx (.own x)) x (.ins C dx [])) := Go.newO gA.le hx2
  have gC := gA.trans gB (fun a h => .inl h)
  generalize hH2 : upd (upd H1 dx (.own x)) x (.ins C dx []) = H2 at gB gC ⊢
  have hH2x : H2 x = some (.ins C dx []) := by rw [← hH2]; exact upd_same
  have hFx : F1 x = none := o1.le.free hx
  have lift : ∀ {F' H'}, Go [x] F1 H2 F' H' → Ok G Γ σ F' H' ∧ Go (owns Γ) F H F' H' := fun {F' H'} g => by
    have g2 : Go [x] F1 H1 F' H' := gC.trans g (fun a h => .inl h)
    exact ⟨o1.move g2 (fun a h => .inl (by rw [List.mem_singleton.mp h]; exact hx)), g1.trans g2 (fun a h => .inr (by
      rw [List.mem_singleton.mp h]
      cases e : H x with
      | none => rfl
      | some y => obtain ⟨y', e'⟩ := g1.th _ _ e; rw [hx] at e'; cases e'))⟩
  have hHx : H x = none := by
    cases e : H x with
    | none => rfl
    | some y => obtain ⟨y', e'⟩ := g1.th _ _ e; rw [hx] at e'; cases e'
  refine ⟨y, F1, x, vs, rfl, ⟨Go.refl gB.le, fun i en he => ?_, ap_of ?_, by simp [z.1]⟩, (m y).mono (fun w hw F' H' g h1 h2 => ⟨rfl, ?_⟩) (fun ex hex cls d F' H' g r => ?_) hy⟩
  · cases i with
    | zero =>
      simp at he
      subst he
      exact ⟨rfl, hFx, by simp, _, hH2x, dx, [], rfl, trivial⟩
    | succ i =>
      have he : (pp y)[i]? = some en := by simpa using he
      have hi : i < vs.length := by rw [z.1]; exact (List.getElem?_eq_some_iff.mp he).1
      have hv := List.getElem?_eq_getElem hi
      have zz := z.2.1 i en _ he hv
      have ee : ((V.ref x :: vs).map some)[i + 1]? = some (some vs[i]) := by
        rw [List.getElem?_map, List.getElem?_cons_succ, hv]; rfl
      rw [ee]
      cases en with
      | un => trivial
      | fz r => exact ⟨_, rfl, zz⟩
      | ow l b q =>
        have := List.all_eq_true.mp (hno y) _ (List.mem_of_getElem? he)
        simp [En.own?] at this
      | lk f h r => exact zz.elim
  · have : owns (En.ow false x (oIn C []) :: pp y) = x :: owns (pp y) := rfl
    rw [this, noOwn (hno y)]
    simp
  · obtain ⟨o2, g2⟩ := lift g
    obtain ⟨u, hu, hr2⟩ := h2
    exact hw (.ref x) F' H' o2 g2 ⟨x, u, rfl, hHx, h1, hu, hr2⟩
  · obtain ⟨o2, g2⟩ := lift g
    exact hex cls d F' H' o2 g2 r
theorem re_makeV {ma : Mo β} {mo : Mo Unit} {m : β → Mo γ} {pp : β → Ctx} {fo : γ → List (Str × Pr)} {pa : β → Ctx} (ho : RE X W Γ (.Name x p) mo (.fz (rK C))) (M : Mk X.K C f) (Fn : FnOk X.prog X.w X.K X.mg X.base (L2.CX X.prog X.w) k f fd ps (spI X.K X.mg C pp m fo)) (hr : Room (k + 1) X.A) (tk : Takes X W) (ha : RA X W Γ (e :: es) ma pa) (hb : Binds X.K fd ps [])
    (hpp : ∀ y, pa y = pp y := by intro _; rfl) (hno : ∀ y, ((pp y).all fun e => e.own?.isNone) = true := by intro _; rfl) (he : starEach (e :: es) X.env = (false, eval e X.env) :: starEach es X.env := by rfl) (hpl : (backTo pos (starEach es X.env)).any (·.1) = false := by rfl) :
    RE X W Γ (.Call (.Name x p) (e :: es) [] pos) (mo >>= fun _ => ma >>= m) (.ow fun y => oIn C (fo y)) := by
  refine re_of (pe_makeV peE M Fn hr hb (fun σ => passAt tk σ) paA he hpl) fun G σ F H Q o q => ?_
  exact ho G σ F H _ o (mo.mono (fun _ hx v F1 H1 o1 g1 z => ⟨z, mkV_core ha hpp hno G σ F1 H1 Q o1 (run_step g1 hx)⟩) (fun _ z => z) q)
end
section
variable {α β γ δ : Type} {X : Cx} {W : WX} {Γe Γx Γ Γ' : Ctx} {lv : Bool} {e : Expr} {st bst : Stmt} {rest body suite : List Stmt} {Z : γ → Fin} {pos : Pos}
theorem rb_try1U {i : Nat} {cn : Str} {Cc Cr : Addr} {fls : List Str} {me : Mo α} {jb : α → δ} {mh : Ex → Mo δ} {mr : δ → Mo γ} {tgt : α → Ctx → Ctx} (Γj Γs : δ → Ctx) (hs : PS X st (fun D σ H => tTb X [bst] (wAs X.K (.ref Cc) i (tTs X suite) W D) D σ H)) (hcn : X.mg cn = some (.ref Cr)) (hsub : PySem.W.exmOne X.K (.ref Cr) (.ref Cc) = some true)
    (hfls : ∀ n ∈ fls, ∀ C', X.mg n = some (.ref C') → PySem.W.exmOne X.K (.ref C') (.ref Cc) = some false)
    (hb : ∀ pn xe W', Takes (X.tr pn xe) W' → PassesOwn (model X.prog X.w) X.A X.env xe → ∀ G σ F H D, Ok G Γ σ F H → me.run (fun x => ∀ σ' F' H', Same F F' → Ok G (tgt x Γ) σ' F' H' → D.nx σ' H') (EQ X W' G Γ σ F H) → tSs (X.tr pn xe) [bst] D σ H)
    (hjb : ∀ x, Le (Γj (jb x)) (tgt x Γ))
    (hh : ∀ a oe d pn ex, ex.cls = cn → Zc (.ref Cr) d oe → (∃ vs, oe.data = .fields vs) → RB (X.suite a ((a, oe) :: pn)) W0 (List.replicate Γ.length .un) false (Γ.set i (.fz (exP a d ex))) suite (mh ex) (fun j => .nx (Γs j)))
    (hex : Le Γe Γ) (hjs : ∀ j, Le (Γj j) ((Γs j).set i .un)) (hj : ∀ j, Le Γe (Γj j)) (hu : Le (List.replicate Γ.length .un) (Γ.set i .un)) (hr : ∀ j, RB X W Γe lv (Γj j) rest (mr j) Z) :
    RB X W Γe lv Γ (st :: rest) (Mo.catch1 (me >>= fun x => pure (jb x)) cn fls mh >>= mr) Z := fun le G σ F H D nx' hn o q =>
  tSs_cons hs fun pn xe tk po => by
    have key : ∀ j, (mr j).run (fun x => FinOk G Γe D F (Z x)) (XQ X W G Γe F) → ∀ σ2 F2 H2, Same G.F0 F2 → Ok G (Γj j) σ2 F2 H2 → tSs X rest { D with nx := nx' } σ2 H2 := fun j hj' σ2 F2 H2 s2 o2 => hr j (hj j) G σ2 F2 H2 D nx' hn o2 (run_any hj')
    refine hb pn xe _ tk po G σ F H { D with nx := tSs X rest { D with nx := nx' } } o (me.mono (fun x hx σ2 F2 H2 s2 o2 => key (jb x) hx σ2 F2 H2 o2.go.fs (o2.weak (hjb x))) (fun ex hx' cls d F2 H2 o2 g2 z => ?_) q)
    obtain ⟨C, hC, rfl, hd⟩ := id z
    by_cases c : ex.cls = cn
    · rw [if_pos c] at hx'
      rw [c, hcn] at hC
      cases hC
      refine ⟨true, hsub, fun _ a ha => ?_, fun h => by cases h⟩
      intro oe pn' hz hf
      refine hh a oe d pn' ex c hz hf ?_ G _ F2 H2 { nx := _, rt := D.rt, bk := _, ct := _ } _ (fun _ => rfl) (o2.toSuite (a := a) z) ((mh ex).mono (fun j hj' σ3 F3 H3 s3 o3 => ?_) (fun _ z => z.elim) hx')
      · exact le_un hu
      · have o4 := o3.forget i (v := none)
        exact key j hj' _ F3 H3 s3 (o4.weak (hjs j))
    · rw [if_neg c] at hx'
      refine ⟨false, hfls _ hx'.1 C hC, fun h => (by cases h), fun _ => ?_⟩
      exact hx'.2 _ d σ F2 H2 o2.go.fs (o2.weak hex) z
end
end RF
namespace KO
open PySem PySem.Spec PyProof.Rows L2
section
variable {X : Cx} {pins : List (Addr × Obj)} {σ : L2.St}
theorem zip_loopN {A1 : Around} {R : Result → Shared → Prop} {H0 : Hp} {z TI TO i1 i2 a b S : Addr} {xs ys : List V} (hh : A1.in1.handled = none) (D : ZipApart z TI TO i1 i2 a b) (hS0 : ∀ c ∈ [z, TI, TO, i1, i2], c ≠ S) (aS : a ≠ S) (bS : b ≠ S) (hl : xs.length = ys.length) (hn : xs.length ≤ 1000)
    (hR : ∀ s H ts, Inv X pins σ H s → ts.length = xs.length → ZPr H xs ys ts → H S = some (.lst (ts.map V.ref)) → (∀ c o, c ≠ S → H0 c = some o → H c = some o) → (∀ t ∈ ts, H0 t = none) → R (.ok (.ret .none)) s) :
    ∀ k i s H ts, xs.length - i = k → i ≤ xs.length → Inv X pins σ H s → (∀ c ∈ [z, TI, TO, i1, i2], FpOk X pins H c) → SqL X.K H a xs → SqL X.K H b ys → H S = some (.lst (ts.map V.ref)) → ts.length = i → ZPr H xs ys ts → (∀ c o, c ≠ S → H0 c = some o → H c = some o) → (∀ t ∈ ts, H0 t = none) →
      ZSt z TI TO i1 i2 a b S s.heap i → codeAny (model X.prog X.w) A1 (.builtin "list.extend.loop" ⟨[.ref S, .ref z, .none], []⟩) R s := by
  intro k
  induction k with
  | zero =>
    intro i s H ts hk hi I hf qa qb hS ht pr fr nw st
    have e : i = xs.length := by omega
    subst e
    obtain ⟨its, rv, p1, _⟩ := I.list qa
    obtain ⟨its2, rv2, p2, _⟩ := I.list qb
    obtain ⟨hTI, h1, h2, ⟨oO, hO⟩, hz⟩ := st
    refine codeAny_builtin PySem.F.entry_extend_loop ?_
    rw [Around.under_plainId PySem.F.plain_extend_loop _]
    show wpAny _ A1.in1 (pyNext (.ref z) >>= _) _ _ s
    have hend : its.toArray[xs.length]? = none := by
      rw [List.getElem?_toArray]
      exact rv.none_of (by simp)
    rcases hz with ⟨hz, u, v, hTO⟩ | ⟨T, f, oT, hz, hT, r1, r2, r3, r4⟩
    · refine wpAny_bind (wpAny_pyNext_zip_end hh D hz hTI hTO h1 h2 p1.isList p2.isList (.inl hend) fun h' hk => wpAny_pure (hR _ H ts ?_ ht pr hS fr nw))
      exact I.turnedL (t' := s.toks) (ch := [z, TI, TO, i1, i2]) (fun c o hb q => hk c o (fun q' => hb (by simp [q'])) (fun q' => hb (by simp [q'])) (fun q' => hb (by simp [q'])) (fun q' => hb (by simp [q'])) q) hf
    · refine wpAny_bind (wpAny_pyNext_zip_end_held hh D hz hT hTI h1 h2 p1.isList p2.isList (.inl hend) fun h' hk => wpAny_pure (hR _ H ts ?_ ht pr hS fr nw))
      exact I.turnedL (t' := s.toks) (ch := [z, TI, TO, i1, i2]) (fun c o hb q => hk c o (fun q' => hb (by simp [q'])) (fun q' => hb (by simp [q'])) (fun q' => hb (by simp [q'])) q) hf
  | succ k ih =>
    intro i s H ts hk hi I hf qa qb hS ht pr fr nw st
    have hlt : i < xs.length := by omega
    obtain ⟨its, rv, p1, _⟩ := I.list qa
    obtain ⟨its2, rv2, p2, _⟩ := I.list qb
    obtain ⟨hTI, h1, h2, ⟨oO, hO⟩, hz⟩ := st
    have hx : xs[i]? = some xs[i] := List.getElem?_eq_getElem hlt
    have hy : ys[i]? = some ys[i] := List.getElem?_eq_getElem (by omega)
    obtain ⟨u, hu, ru⟩ := rv.get hx
    obtain ⟨u2, hu2, ru2⟩ := rv2.get hy
    have nT : H s.heap.objs.size = none := I.hok.fresh (Nat.le_refl _)
    obtain ⟨_, itsS, cS, rS, hlS, eS⟩ := I.lstM hS
    have lS : S < s.heap.objs.size := Heap.lt_size eS
    have lz : z < s.heap.objs.size := by rcases hz with ⟨hz, _⟩ | ⟨T, f, oT, hz, _⟩ <;> exact Heap.lt_size hz
    have lTI : TI < s.heap.objs.size := Heap.lt_size hTI
    have lTO : TO < s.heap.objs.size := Heap.lt_size hO
    have l1 : i1 < s.heap.objs.size := by obtain ⟨_, e, _⟩ := h1; exact Heap.lt_size e
    have l2 : i2 < s.heap.objs.size := by obtain ⟨_, e, _⟩ := h2; exact Heap.lt_size e
    -- behind the pair
    have step : ∀ h', (∀ c o, c ∉ [z, TI, TO, i1, i2] → s.heap.get? c = some o → h'.get? c = some o) → IsPair h' s.heap.objs.size u u2 → ZSt z TI TO i1 i2 a b S h' (i + 1) →
        wpAny (model X.prog X.w) A1.in1 (updateSeq S (·.push (.ref s.heap.objs.size)) >>= fun _ => again (.builtin "list.extend.loop" ⟨[.ref S, .ref z, .none], []⟩)) (fun fin s' => match fin with | .done f => R (.ok f) s' | .again c' => c'.quiet = true ∧ codeAny (model X.prog X.w) A1 c' R s') (fun e s' => R (.error e) s') { s with heap := h' } := by
      intro h' kk hT st'
      have new : ObjOk X.prog X.w (upd H s.heap.objs.size (.tup [xs[i], ys[i]])) h' s.heap.objs.size (.tup [xs[i], ys[i]]) := ⟨by show 2 ≤ sizeLine; decide, [u, u2], .cons ru (.cons ru2 .nil), ⟨_, hT, rfl, _, rfl⟩⟩
      have I1 : Inv X pins σ (upd H s.heap.objs.size (.tup [xs[i], ys[i]])) { s with heap := h' } := I.turnedNew (t' := s.toks) (ch := [z, TI, TO, i1, i2]) kk hf (Nat.le_refl _) new
      have nST : s.heap.objs.size ≠ S := Nat.ne_of_gt lS
      have hS1 : (upd H s.heap.objs.size (.tup [xs[i], ys[i]])) S = some (.lst (ts.map V.ref)) := by rw [upd_ne (Ne.symm nST)]; exact hS
      obtain ⟨_, its3, c3, r3, hl3, e3⟩ := I1.lstM hS1
      have hlen3 := r3.length
      rw [List.length_map, ht] at hlen3
      refine wpAny_bind (wpAny_updateSeq e3 rfl (wpAny_pure ⟨plainId_quiet PySem.F.plain_extend_loop _, ?_⟩) (by rw [List.size_toArray, sizeLine_eq]; omega) (by show (its3.toArray.push (.ref s.heap.objs.size)).size ≤ sizeLine + 1; rw [Array.size_push, List.size_toArray, sizeLine_eq]; omega))
      have I3 := I1.lset (f := (·.push (.ref s.heap.objs.size))) (its' := its3 ++ [.ref s.heap.objs.size]) (ys := (ts ++ [s.heap.objs.size]).map V.ref) (t' := s.toks) hS1 e3 (by simp) (by rw [List.map_append]; exact r3.append (.cons rfl .nil)) (by rw [List.length_map, List.length_append, ht, sizeLine_eq]; show i + 1 ≤ _; omega)
      have kO : ∀ c o, c ≠ S → H c = some o → (upd (upd H s.heap.objs.size (.tup [xs[i], ys[i]])) S (.lst ((ts ++ [s.heap.objs.size]).map V.ref))) c = some o := fun c o nc hc => by
        rw [upd_ne nc, upd_ne (ne_of_none hc nT)]
        exact hc
      have ext2 : Ext H (upd H s.heap.objs.size (.tup [xs[i], ys[i]])) := Ext.upd nT
      have qk : ∀ {c : Addr} {zs : List V}, c ≠ S → SqL X.K H c zs → SqL X.K (upd (upd H s.heap.objs.size (.tup [xs[i], ys[i]])) S (.lst ((ts ++ [s.heap.objs.size]).map V.ref))) c zs := fun {c zs} nc q => by
        rcases q with (q | ⟨o, q⟩) | q
        · exact .inl (.inl (kO _ _ nc q))
        · exact .inl (.inr ⟨o, kO _ _ nc q⟩)
        · exact .inr q
      have sz : ∀ c ∈ [z, TI, TO, i1, i2], c < s.heap.objs.size := fun c hc => by
        have e' : c = z ∨ c = TI ∨ c = TO ∨ c = i1 ∨ c = i2 := by simpa using hc
        rcases e' with q | q | q | q | q
        · rw [q]; exact lz
        · rw [q]; exact lTI
        · rw [q]; exact lTO
        · rw [q]; exact l1
        · rw [q]; exact l2
      refine ih (i + 1) _ _ (ts ++ [s.heap.objs.size]) (by omega) hlt I3 (fun c hc => ?_) (qk aS qa) (qk bS qb) upd_same (by rw [List.length_append, ht]; rfl) ?_ (fun c o nc h0 => kO _ _ nc (fr c o nc h0)) (fun t ht' => by
        rcases List.mem_append.mp ht' with m | m
        · exact nw t m
        · rw [List.mem_singleton.mp m]
          cases e : H0 s.heap.objs.size with
          | none => rfl
          | some o => have := fr _ o nST e; rw [nT] at this; cases this) (st'.other hS0 fun c o nc e => (Heap.get?_update_other _ _ (Ne.symm nc)).trans e)
      · obtain ⟨f0, f1⟩ := hf c hc
        refine ⟨?_, f1⟩
        rw [upd_ne (hS0 c hc), upd_ne (Nat.ne_of_lt (sz c hc))]
        exact f0
      · intro j t hj
        by_cases hji : j < ts.length
        · rw [List.getElem?_append_left hji] at hj
          obtain ⟨x, y, g1, g2, g3⟩ := pr j t hj
          exact ⟨x, y, g1, g2, kO _ _ (ne_of g3 hS (by intro z; cases z)) g3⟩
        · rw [List.getElem?_append_right (by omega)] at hj
          obtain ⟨hj1, hj2⟩ := List.getElem?_eq_some_iff.mp hj
          have ej : j = i := by
            have : j - ts.length < 1 := hj1
            omega
          subst ej
          have et : s.heap.objs.size = t := by
            rw [← hj2]
            simp
          rw [← et]
          exact ⟨_, _, hx, hy, by rw [upd_ne nST, upd_same]⟩
    refine codeAny_builtin PySem.F.entry_extend_loop ?_
    rw [Around.under_plainId PySem.F.plain_extend_loop _]
    show wpAny _ A1.in1 (pyNext (.ref z) >>= _) _ _ s
    have hu' : its.toArray[i]? = some u := by rw [List.getElem?_toArray]; exact hu
    have hu2' : its2.toArray[i]? = some u2 := by rw [List.getElem?_toArray]; exact hu2
    have nT1 : s.heap.objs.size ≠ i1 := Nat.ne_of_gt l1
    have nT2 : s.heap.objs.size ≠ i2 := Nat.ne_of_gt l2
    have nTz : s.heap.objs.size ≠ z := Nat.ne_of_gt lz
    have nTS : s.heap.objs.size ≠ S := Nat.ne_of_gt lS
    rcases hz with ⟨hz, v, v2, hTO⟩ | ⟨T, f, oT, hz, hT, r1, r2, r3, r4⟩
    · refine wpAny_bind (wpAny_pyNext_zip_item D hz hTI hTO h1 h2 p1.isList p2.isList hu' hu2' fun h' z' TO' h1' h2' hTT hsz hk => ?_)
      exact step h' (fun c o hb q => hk c o (fun q' => hb (by simp [q'])) (fun q' => hb (by simp [q'])) (fun q' => hb (by simp [q'])) (fun q' => hb (by simp [q'])) q) hTT
        ⟨hk _ _ D.TIz D.TITO D.TIi1 D.TIi2 hTI, h1', h2', ⟨_, TO'⟩, .inr ⟨_, false, _, z', hTT, nTz, nT1, nT2, nTS⟩⟩
    · refine wpAny_bind (wpAny_pyNext_zip_item_held D hz hT hTI h1 h2 p1.isList p2.isList hu' hu2' fun h' z' h1' h2' hTT hsz hk => ?_)
      exact step h' (fun c o hb q => hk c o (fun q' => hb (by simp [q'])) (fun q' => hb (by simp [q'])) (fun q' => hb (by simp [q'])) q) hTT
        ⟨hk _ _ D.TIz D.TIi1 D.TIi2 hTI, h1', h2', ⟨_, hk _ _ D.TOz D.TOi1 D.TOi2 hO⟩, .inr ⟨T, true, oT, z', hk _ _ r1 r2 r3 hT, r1, r2, r3, r4⟩⟩
def tListZipN (K : PySem.W.Frag) (ta : TA) : TE := fun σ H Q => ta σ H fun vs H1 => ∃ a b xs ys, vs = [.ref a, .ref b] ∧ SqL K H1 a xs ∧ SqL K H1 b ys ∧ xs.length = ys.length ∧ xs.length ≤ 1000 ∧
  ∀ l H2 ts, H1 l = none → (∀ t ∈ ts, H1 t = none) → Same H1 H2 → H2 l = some (.lst (ts.map V.ref)) → ts.length = xs.length → ZPr H2 xs ys ts → Q (.ref l) H2
theorem pe_listZipN {e e2 : Expr} {ta : TA} {p p2 pos pos2 : Pos} (hc : X.calm = true) (hg : Gl X "list") (hm : X.mg "list" = none) (hg2 : Gl X "zip") (hm2 : X.mg "zip" = none) (ha : PA X [e, e2] ta)
    (hs : starEach [e, e2] X.env = (false, eval e X.env) :: starEach [e2] X.env := by rfl) (hpl : (backTo pos2 (starEach [e2] X.env)).any (·.1) = false := by rfl)
    (hs2 : starEach [.Call (.Name "zip" p2) [e, e2] [] pos2] X.env = (false, eval (.Call (.Name "zip" p2) [e, e2] [] pos2) X.env) :: starEach [] X.env := by rfl) :
    PE X (.Call (.Name "list" p) [.Call (.Name "zip" p2) [e, e2] [] pos2] [] pos) (tListZipN X.K ta) := by
  refine ⟨fun pins s σ H Q I h => ?_⟩
  refine Call_ (ld_blt I hg hm PyProof.Rows.boot_list (PyProof.Rows.callWith_type1 (args_cons (Call_ (ld_blt I hg2 hm2 PyProof.Rows.boot_zip (PyProof.Rows.callWith_type1 (thn (ha.run pos2 pins s σ H _ I h) fun us s1 ⟨vs, H1, I1, r1, q1⟩ => ?_) hs hpl))) hs2) hs2 rfl))
  obtain ⟨a, b, xs, ys, rfl, qa, qb, hl, hn, q⟩ := q1
  obtain ⟨u1, u2, rfl, ra, rb⟩ := vals2 r1
  cases ra
  cases rb
  obtain ⟨its, rv, p1, _⟩ := I1.list qa
  obtain ⟨its2, rv2, p2', _⟩ := I1.list qb
  have la : a < s1.heap.objs.size := p1.lt
  have lb : b < s1.heap.objs.size := p2'.lt
  refine call_zip_2 p1.isList p2'.isList fun h' hz hTI hTO h1 h2 hsz hk => args_nil ?_
  have I2 : Inv X pins σ H1 { s1 with heap := h' } := I1.kept (t' := s1.toks) hk
  have D := PySem.W.ktu_apart s1.heap.objs.size a b la lb
  have hf : ∀ c ∈ [s1.heap.objs.size + 4, s1.heap.objs.size + 2, s1.heap.objs.size + 3, s1.heap.objs.size, s1.heap.objs.size + 1], FpOk X pins H1 c := fun c hcm => by
    have e' : c = s1.heap.objs.size + 4 ∨ c = s1.heap.objs.size + 2 ∨ c = s1.heap.objs.size + 3 ∨ c = s1.heap.objs.size ∨ c = s1.heap.objs.size + 1 := by simpa using hcm
    have hle : s1.heap.objs.size ≤ c := by omega
    exact I1.fpOk hle (I1.hok.fresh hle)
  have hlt : ∀ c ∈ [s1.heap.objs.size + 4, s1.heap.objs.size + 2, s1.heap.objs.size + 3, s1.heap.objs.size, s1.heap.objs.size + 1], c < h'.objs.size := fun c hcm => by
    have e' : c = s1.heap.objs.size + 4 ∨ c = s1.heap.objs.size + 2 ∨ c = s1.heap.objs.size + 3 ∨ c = s1.heap.objs.size ∨ c = s1.heap.objs.size + 1 := by simpa using hcm
    rw [hsz]
    omega
  have la' : a < h'.objs.size := Nat.lt_of_lt_of_le la (by rw [hsz]; exact Nat.le_add_right _ _)
  have lb' : b < h'.objs.size := Nat.lt_of_lt_of_le lb (by rw [hsz]; exact Nat.le_add_right _ _)
  generalize s1.heap.objs.size + 4 = z at hz D hf hlt ⊢
  generalize s1.heap.objs.size + 2 = TI at hz hTI D hf hlt
  generalize s1.heap.objs.size + 3 = TO at hz hTO D hf hlt
  generalize s1.heap.objs.size + 1 = i2 at hTI h2 D hf hlt
  generalize s1.heap.objs.size = i1 at hTI h1 D hf hlt
  refine callType_codes (Q₁ := fun x s3 => x = .ref h'.objs.size ∧ s3 = { s1 with heap := h'.push { cls := .type "list", data := .seq #[] } }) PySem.F.called_list (PySem.F.typeCall_list_1 _) PySem.F.entry_list_init (code_list_new _ ⟨rfl, rfl⟩) fun x s3 hx => ?_
  obtain ⟨rfl, rfl⟩ := hx
  have got : (h'.push { cls := .type "list", data := .seq #[] }).get? h'.objs.size = some { cls := .type "list", data := .seq #[] } := Heap.get?_push_size _ rfl
  refine ⟨⟨_, got, rfl⟩, PySem.F.args_list_init_2 _ _, ?_⟩
  have fr : H1 h'.objs.size = none := I2.hok.fresh (Nat.le_refl _)
  have I3 : Inv X pins σ (upd H1 h'.objs.size (.lst [])) { s1 with heap := h'.push { cls := .type "list", data := .seq #[] } } := I2.lnew (its := []) (t' := s1.toks) .nil (Nat.zero_le _)
  have nS : ∀ c ∈ [z, TI, TO, i1, i2], c ≠ h'.objs.size := fun c hc => Nat.ne_of_lt (hlt c hc)
  have aS : a ≠ h'.objs.size := Nat.ne_of_lt la'
  have bS : b ≠ h'.objs.size := Nat.ne_of_lt lb'
  have st0 : ZSt z TI TO i1 i2 a b h'.objs.size h' 0 := ⟨hTI, h1, h2, ⟨_, hTO⟩, .inl ⟨hz, _, _, hTO⟩⟩
  have st1 : ZSt z TI TO i1 i2 a b h'.objs.size (h'.push { cls := .type "list", data := .seq #[] }) 0 := st0.other nS fun c o _ e => Heap.get?_push_of_some _ e
  generalize h'.objs.size = S at got fr I3 nS aS bS st1 ⊢
  show wpAny _ _ (do let old ← Builtin.List.listItems (.ref S); Builtin.List.listUpdate (.ref S) (fun _ => #[]); letGo old.toList.reverse; Builtin.List.listExtendWith (.ref S) (.ref z) .none) _ _ _
  refine wpAny_bind ?_
  unfold Builtin.List.listItems
  refine wpAny_bind (wpAny_seqItems got rfl (wpAny_pure ?_))
  show wpAny _ _ (updateSeq S (fun _ => #[]) >>= fun _ => letGo (#[] : Array Value).toList.reverse >>= fun _ => Builtin.List.listExtendWith (.ref S) (.ref z) .none) _ _ _
  refine wpAny_bind (wpAny_updateSeq got rfl ?_)
  have I4 := I3.lset (f := fun _ => #[]) (its := []) (its' := []) (ys := []) (t' := s1.toks) upd_same got rfl .nil (Nat.zero_le _)
  rw [upd_upd] at I4
  refine wpAny_bind (wpAny_letGo ?_)
  have st2 : ZSt z TI TO i1 i2 a b S ((h'.push { cls := .type "list", data := .seq #[] }).update S (Obj.mapSeq fun _ => #[])) 0 := st1.other nS fun c o nc e => (Heap.get?_update_other _ _ (Ne.symm nc)).trans e
  generalize hs4 : ({ s1 with heap := (h'.push { cls := .type "list", data := .seq #[] }).update S (Obj.mapSeq fun _ => #[]) } : Shared) = s4 at I4 ⊢
  have st4 : ZSt z TI TO i1 i2 a b S s4.heap 0 := by
    rw [← hs4]
    exact st2
  have hz4 : IsZip s4.heap z TI TO .none := by
    rw [← hs4]
    exact (Heap.get?_update_other _ _ (Ne.symm (nS z (by simp)))).trans (Heap.get?_push_of_some _ hz)
  have hT : s4.TypeIs (.ref z) "zip" := ⟨_, hz4, rfl⟩
  clear hs4 st2 st1 got I3
  unfold Builtin.List.listExtendWith
  refine wpAny_bind (wpAny_typeOf hT ?_)
  have b1 : Builtin.List.listSameRef (.ref S) (.ref z) = false := by simp [Builtin.List.listSameRef, (nS z (by simp)).symm]
  have b2 : (Value.type "zip" == Value.type "list") = false := rfl
  have b3 : (Value.type "zip" == Value.type "tuple") = false := rfl
  simp only [b1, b2, b3, Bool.or_false, Bool.false_eq_true, if_false]
  refine wpAny_bind (wpAny_pyIter_zip hz4 ?_)
  refine wpAny_bind (wpAny_holding ?_)
  unfold Builtin.List.listLengthHint
  refine wpAny_bind (wpAny_specialOf hT zip_nolen ?_)
  show wpAny _ _ (specialOf (Value.ref z) (Str.ofString "__length_hint__") >>= _) _ _ _
  refine wpAny_bind (wpAny_specialOf hT zip_nohint ?_)
  refine wpAny_pure ?_
  show wpAny _ _ (rule "list.extend.makes-room" >>= fun _ => Builtin.List.listTouch (.ref S) >>= fun _ => again (.builtin "list.extend.loop" ⟨[.ref S, .ref z, .none], []⟩)) _ _ _
  refine wpAny_bind (wpAny_rule ?_)
  refine wpAny_bind ?_
  show wpAny _ _ (updateSeq S (·.push .none) >>= fun _ => updateSeq S (·.pop)) _ _ _
  have hSl : (upd H1 S (.lst [])) S = some (.lst []) := upd_same
  obtain ⟨_, it3, k3, r3, hl3, e3⟩ := I4.lstM hSl
  cases r3
  refine wpAny_bind (wpAny_updateSeq e3 rfl ?_)
  have I6 := I4.lset (f := (·.push Value.none)) (its' := [Value.none]) (ys := [.non]) (t' := s4.toks) hSl e3 (by simp) (.cons rfl .nil) (by rw [List.length_singleton, sizeLine_eq]; decide)
  have st6 := st4.other nS (h' := (s4.heap.update S (Obj.mapSeq (·.push Value.none)))) fun c o nc e => (Heap.get?_update_other _ _ (Ne.symm nc)).trans e
  obtain ⟨_, it4, k4, r4, hl4, e4⟩ := I6.lstM upd_same
  obtain ⟨u4, rfl, ru4⟩ := r4.one
  refine wpAny_updateSeq e4 rfl ?_ (by show 1 ≤ sizeLine; rw [sizeLine_eq]; decide) (by show 0 ≤ sizeLine + 1; exact Nat.zero_le _)
  have I7 := I6.lset (f := (·.pop)) (its := [u4]) (its' := []) (ys := []) (t' := s4.toks) upd_same e4 (by rfl) .nil (Nat.zero_le _)
  rw [upd_upd, upd_upd] at I7
  have st7 := st6.other nS (h' := ((s4.heap.update S (Obj.mapSeq (·.push Value.none))).update S (Obj.mapSeq (·.pop)))) fun c o nc e => (Heap.get?_update_other _ _ (Ne.symm nc)).trans e
  have qk : ∀ {c : Addr} {zs : List V}, SqL X.K H1 c zs → SqL X.K (upd H1 S (.lst [])) c zs := fun {c zs} q => SqL.ext q (Ext.upd fr)
  refine wpAny_pure ⟨plainId_quiet PySem.F.plain_extend_loop _, zip_loopN (pins := pins) (σ := σ) (H0 := H1) (by simp [I1.ok.hd hc]) D nS aS bS hl hn (fun s7 H7 ts I7 e7 p7 h7 f7 n7 => ⟨rfl, .ref S, H7, I7, vref, q S H7 ts fr n7 (fun c o hc0 => f7 c o (ne_of_none hc0 fr) hc0) h7 e7 p7⟩) xs.length 0 _ _ [] rfl (Nat.zero_le _) I7 (fun c hc => ?_) (qk qa) (qk qb) upd_same rfl (fun j t hj => by cases j <;> cases hj) (fun c o nc h0 => by rw [upd_ne nc]; exact h0) (fun t ht => by cases ht) st7⟩
  obtain ⟨f0, f1⟩ := hf c hc
  exact ⟨by rw [upd_ne (nS c hc)]; exact f0, f1⟩
end
end KO
namespace RF
open PySem PySem.Spec PyProof.Rows L2 KO SX
theorem Ps.of_get {F : Hp} : ∀ {ps : List Pr} {vs : List V}, vs.length = ps.length → (∀ (i : Nat) p v, ps[i]? = some p → vs[i]? = some v → p.r v F) → Ps F ps vs
  | [], [], _, _ => trivial
  | [], _ :: _, h, _ => by simp at h
  | _ :: _, [], h, _ => by simp at h
  | p :: ps, v :: vs, h, k => ⟨k 0 p v rfl rfl, Ps.of_get (by simpa using h) fun i q u a b => k (i + 1) q u a b⟩
section
variable {α β γ δ : Type} {X : Cx} {W : WX} {Γ : Ctx} {a b : Expr} {p p2 pos pos2 : Pos} {ρ : α → Pr} {ρ' : β → Pr} {ma : Mo (List α)} {mb : Mo (List β)}
theorem re_listZip (h : RE X W Γ a ma (.fz (rL ρ))) (h2 : RE X W Γ b mb (.fz (rL ρ'))) (hm : X.mg "list" = none) (hm2 : X.mg "zip" = none) (hc : X.calm = true := by rfl) (hg : Gl X "list" := by rfl) (hg2 : Gl X "zip" := by rfl)
    (hs : starEach [a, b] X.env = (false, eval a X.env) :: starEach [b] X.env := by rfl) (hs3 : starEach [b] X.env = [(false, eval b X.env)] := by rfl) (hpl : (backTo pos2 (starEach [b] X.env)).any (·.1) = false := by rfl)
    (hs2 : starEach [.Call (.Name "zip" p2) [a, b] [] pos2] X.env = (false, eval (.Call (.Name "zip" p2) [a, b] [] pos2) X.env) :: starEach [] X.env := by rfl) :
    RE X W Γ (.Call (.Name "list" p) [.Call (.Name "zip" p2) [a, b] [] pos2] [] pos) (ma >>= fun xs => mb >>= fun ys => Mo.rq (xs.length = ys.length ∧ xs.length ≤ 1000) (xs.zip ys)) (.ow (oL (rT2 ρ ρ'))) := by
  refine re_of (pe_listZipN hc hg hm hg2 hm2 (pa_cons (hs := hs) peE (pa_cons (hs := hs3) peE pa_nil)) hs hpl hs2) fun G σ F H Q o q => ?_
  refine h G σ F H _ o (ma.mono (fun xs hx v F1 H1 o1 g1 z => ?_) (fun _ z => z) q)
  refine h2 G σ F1 H1 _ o1 (mb.mono (fun ys hy u F2 H2 o2 g2 z2 => ?_) (fun _ => EQ.step g1) hx)
  obtain ⟨ad, vs, rfl, e1, k1⟩ := z
  obtain ⟨bd, us, rfl, e2, k2⟩ := z2
  have e1 := g2.fs _ _ e1
  have k1 := k1.mono g2.fs
  obtain ⟨⟨hl, hn⟩, hy⟩ := hy
  have lv : vs.length = xs.length := by rw [k1.len, List.length_map]
  have lu : us.length = ys.length := by rw [k2.len, List.length_map]
  refine ⟨ad, bd, vs, us, rfl, SqL.of (o2.le _ _ e1), SqL.of (o2.le _ _ e2), by omega, by omega, fun l H3 ts hl0 hts sm hl3 htl zp => ?_⟩
  obtain ⟨F3, hF3⟩ : ∃ F3 : Hp, ∀ c, F3 c = if c ∈ ts then H3 c else F2 c := ⟨fun c => if c ∈ ts then H3 c else F2 c, fun _ => rfl⟩
  have old : ∀ {c : Addr}, H2 c ≠ none → F3 c = F2 c := fun {c} hc => by
    rw [hF3, if_neg fun m => hc (hts c m)]
  have hlt : l ∉ ts := fun m => by
    obtain ⟨i, hi, e⟩ := List.getElem_of_mem m
    obtain ⟨x, y, _, _, k⟩ := zp i l (by rw [← e]; exact List.getElem?_eq_getElem hi)
    rw [hl3] at k
    cases k
  have go : Go (owns Γ) F2 H2 F3 H3 := by
    refine ⟨fun c w e => ?_, fun c w e => ?_, fun c w _ e => sm c w e, fun c w e f => ?_, fun c w e => ⟨w, sm c w e⟩⟩
    · rw [old (by rw [o2.le _ _ e]; simp)]; exact e
    · rw [hF3] at e
      split at e
      · exact e
      · exact sm _ _ (o2.le _ _ e)
    · rw [old (by rw [e]; simp)]; exact f
  have go0 : Go [] F2 H2 F3 H3 := ⟨go.fs, go.le, fun c w _ e => sm c w e, go.fr, go.th⟩
  have o3 := o2.move (M := []) go0 fun _ h => by simp at h
  refine hy (.ref l) F3 H3 o3 ((g1.trans g2 owns_tr).trans go owns_tr) ?_
  have g12 := g1.trans g2 owns_tr
  have hl1 : H l = none := by
    cases e : H l with
    | none => rfl
    | some w => obtain ⟨w', e'⟩ := g12.th _ _ e; rw [hl0] at e'; cases e'
  have hFl : F3 l = none := by rw [hF3, if_neg hlt]; exact o2.le.free hl0
  refine ⟨l, _, rfl, hl1, hFl, hl3, ts.map V.ref, rfl, ?_⟩
  refine Ps.of_get (by rw [List.length_map, List.length_map, List.length_zip, htl, lv, ← hl, Nat.min_self]) fun i q w hq hw => ?_
  rw [List.getElem?_map] at hq hw
  obtain ⟨xy, hxy, rfl⟩ := Option.map_eq_some_iff.mp hq
  obtain ⟨t, ht, rfl⟩ := Option.map_eq_some_iff.mp hw
  obtain ⟨c1, c2⟩ := List.getElem?_zip_eq_some.mp hxy
  obtain ⟨x, y, d1, d2, d3⟩ := zp i t ht
  obtain ⟨w1, f1, f2⟩ := k1.get (i := i) (p := ρ xy.1) (by rw [List.getElem?_map, c1]; rfl)
  obtain ⟨w2, f3, f4⟩ := k2.get (i := i) (p := ρ' xy.2) (by rw [List.getElem?_map, c2]; rfl)
  rw [d1] at f1
  rw [d2] at f3
  cases f1
  cases f3
  refine ⟨t, [x, y], rfl, .inl (by rw [hF3, if_pos (List.mem_of_getElem? ht)]; exact d3), ?_⟩
  exact ⟨(ρ xy.1).mono go.fs f2, (ρ' xy.2).mono go.fs f4, trivial⟩
end
end RF
namespace RF
open PySem PySem.Spec PyProof.Rows L2 KO SX
def spM {β γ : Type} (K : PySem.W.Frag) (mg : Str → Option Value) (C : Addr) (fi : β → List (Str × Pr)) (pp : β → Ctx) (m : β → Mo γ) (fo : β → γ → List (Str × Pr)) : Sp := fun vs H Q E => ∃ (x : β) (F : Hp) (a : Addr) (ws : List V), vs = .ref a :: ws ∧ Ok ⟨F, H, [a]⟩ (.ow false a (oIn C (fi x)) :: pp x) (vs.map some) F H ∧
  (m x).run (fun y => ∀ F' H', Go [a] F H F' H' → F' a = none → (∃ u, H' a = some u ∧ (oIn C (fo x y)).r u F') → Q (.ref a) H') (fun ex => ∀ cls d F' H', Go [a] F H F' H' → ErrOk K mg ex cls d F' → E cls d H')
def okM (C a : Addr) (fs : List (Str × Pr)) : V → Hp → Hp → Hp → Prop := fun v _ F' H' => v = .ref a ∧ F' a = none ∧ ∃ u, H' a = some u ∧ (oIn C fs).r u F'
section
variable {β γ : Type}
theorem fn_mkM {P : Program} {w : World} {K : PySem.W.Frag} {mg : Str → Option Value} {base : Heap} {x qual : Str} {st : Stmt} {f C : Addr} {fd : FuncData} {N ps : List Str} {k : Nat} {pp : β → Ctx} {m : β → Mo γ} {fi : β → List (Str × Pr)} {fo : β → γ → List (Str × Pr)} {Γe : Ctx} {Γ0 : Addr → β → Ctx}
    (F : Fun K x qual st f fd) (S : FnScope N ps (defScope st)) (hlen : ∀ y, (pp y).length + 1 = ps.length) (hΓ : ∀ a y, Γ0 a y = .ow false a (oIn C (fi y)) :: pp y ++ List.replicate (N.length - ps.length) .un) (hle : ∀ a y, Le Γe (Γ0 a y)) (hno : ∀ y, ((pp y).all fun e => e.own?.isNone) = true)
    (hbody : ∀ (cdv : Value) (A : Around) (outer : List Env) (s : Shared) (H : Hp) (E : XK) (a : Addr) (y : β), Room k (A.deeper (envOfC qual (defScope st) s.heap.objs.size f cdv)) →
      RB (cxOf (L2.CX P w) P w K mg base N qual (defScope st) f cdv A outer s H E) (fun cls d _ H => E cls d H) Γe false (Γ0 a y) (defBody st) (m y) (fun z => .ret (okM C a (fo y z)))) :
    FnOk P w K mg base (L2.CX P w) (k + 1) f fd ps (spM K mg C fi pp m fo) := by
  have ln : ∀ {vs : List V} {y : β} {a : Addr} {F0 H : Hp}, Ok ⟨F0, H, [a]⟩ (.ow false a (oIn C (fi y)) :: pp y) (vs.map some) F0 H → vs.length = ps.length := fun {vs y a F0 H} o => by
    have := o.ln
    rw [List.length_map, List.length_cons, hlen] at this
    exact this
  refine F.okX S (fun vs H Q E ⟨y, F0, a, ws, _, o, _⟩ => ln o) fun cdv A outer s H vs Q E hr ⟨y, F0, a, ws, _, o, q⟩ => ?_
  refine ⟨_, pssS, ?_⟩
  have hl := ln o
  have key : ∀ {i : Nat} {en : En}, (Γ0 a y)[i]? = some en → en = .un ∨ (En.ow false a (oIn C (fi y)) :: pp y)[i]? = some en := fun {i en} h => by
    rw [hΓ a y] at h
    by_cases hi : i < (En.ow false a (oIn C (fi y)) :: pp y).length
    · rw [List.getElem?_append_left hi] at h; exact .inr h
    · rw [List.getElem?_append_right (by omega), List.getElem?_replicate] at h
      split at h
      · cases h; exact .inl rfl
      · cases h
  have o0 : Ok ⟨F0, H, [a]⟩ (Γ0 a y) (L2.start N vs) F0 H := by
    refine ⟨o.go, fun i en he => ?_, fun i j l l' b p q h1 h2 => ?_, by rw [hΓ]; unfold L2.start; simp [hl, ← hlen y]; omega⟩
    · rcases key he with h | h
      · subst h; trivial
      · have hi : i < ps.length := by rw [← hlen y]; exact (by simpa using (List.getElem?_eq_some_iff.mp h).1)
        have z := o.en i en h
        have e : (L2.start N vs)[i]? = (vs.map some)[i]? := by
          unfold L2.start
          rw [List.getElem?_append_left (by rw [List.length_map, hl]; exact hi)]
        rw [e]
        exact z
    · rcases key h1 with h | h1
      · cases h
      · rcases key h2 with h | h2
        · cases h
        · exact o.ap i j l l' b p q h1 h2
  refine hbody cdv A outer s H E a y hr (hle a y) ⟨F0, H, [a]⟩ (L2.start N vs) F0 H { nx := fun _ H' => Q .non H', rt := Q } _ (fun _ => rfl) o0 ((m y).mono (fun z hzq v σ F' H' _ o' k => ?_) (fun ex hex cls d σ F' H' _ o' r => hex cls d F' H' o'.go r) q)
  obtain ⟨rfl, h2, h4⟩ := k
  exact hzq F' H' o'.go h2 h4
end
section
variable {α β γ δ : Type} {X : Cx} {W : WX} {Γe Γ Γ' : Ctx} {lv : Bool} {e : Expr} {st : Stmt} {rest : List Stmt} {Z : γ → Fin} {pos p : Pos} {C : Addr}
theorem rb_retM {i : Nat} {a : Addr} {x : Str} {y : γ} {fs : List (Str × Pr)} (hi : Γ[i]? = some (.ow false a (oIn C fs))) (hp : PE X (.Name x p) (tVar i)) (hz : Z y = .ret (okM C a fs)) : RB X W Γe lv Γ (.Return (some (.Name x p)) pos :: rest) (pure y) Z := fun le G σ F H D nx' hn o r =>
  tSs_cons (ps_ret hp) (by
    have r : FinOk G Γe D F (Z y) := r
    rw [hz] at r
    obtain ⟨h1, h2, _, h4⟩ := o.en i _ hi
    exact ⟨.ref a, h1, r _ σ F H o.go.fs (o.weak le) ⟨rfl, h2, h4⟩⟩)
theorem Ok.change {G : Gf} {σ : L2.St} {F H F2 H2 : Hp} {i : Nat} {a : Addr} {q q' : Po} (o : Ok G Γ σ F H) (hi : Γ[i]? = some (.ow true a q)) (g : Go [a] F H F2 H2) (hF : F2 a = none) (hc : ∃ u, H2 a = some u ∧ q'.r u F2) : Ok G (Γ.set i (.ow true a q')) (σ.set i (some (.ref a))) F2 H2 := by
  obtain ⟨u, hH, hq⟩ := hc
  have h0 : G.H0 a = none := (o.en i _ hi).2.2.1
  have hn : a ∉ owns (Γ.set i .un) := fun m => by
    obtain ⟨j, l, r, hj⟩ := of_owns m
    by_cases e : i = j
    · subst e
      rw [List.getElem?_set_self (List.getElem?_eq_some_iff.mp hi).1] at hj
      cases hj
    · rw [List.getElem?_set_ne e] at hj
      exact e (o.ap _ _ _ _ _ _ _ hi hj)
  have o1 := (o.forget i (v := some (.ref a))).move (M := [a]) g fun x hx => by
    rw [List.mem_singleton.mp hx]
    exact .inr ⟨.inr h0, hn⟩
  have o2 := o1.setO (i := i) (q := q') h0 hF hn hH hq
  rw [List.set_set, List.set_set] at o2
  exact o2
def ipO (C : Addr) (sp : Sp) (E : XK) : TIp := fun x y H Q => ∃ a dx fs, x = .ref a ∧ H a = some (.ins C dx fs) ∧ sp [.ref a, y] H (fun v H' => ∃ r, v = .ref r ∧ Q (.ref r) H') E
theorem pip_own {CX : CXT} {k : Nat} {f : Addr} {fd : FuncData} {ps : List Str} {sp : Sp} {E : XK} {op : Operator} {name : Str} (hn : dunderI op.info.2 = name) (m : Meth X.K C name f) (sf : PySem.W.selfFirst X.K C = true) (F : FnOk X.prog X.w X.K X.mg X.base CX k f fd ps sp) (hr : Room k X.A) (hb : Binds X.K fd ps []) (hx : ∀ σ, PassesAt CX X σ E) : PIp X op (ipO C sp E) := by
  subst hn
  intro pins s σ H x y v u Q I rx ry h
  obtain ⟨a, dx, fs, rfl, ha, q⟩ := h
  cases rx
  obtain ⟨ox, od, J⟩ := inst_at I ha
  obtain ⟨m', hF⟩ := I.fr
  refine PySem.W.ksp_inplace hF I.ok.mod.kin J sf m.at_ m.fn (wpAny_mono (own_run (E := fun _ => E) F hr rfl hb (hx σ) I (.cons vref (.cons ry .nil)) q) (fun u s' hu => ?_) fun _ _ x => x)
  obtain ⟨v, H', I', rv, r, rfl, q'⟩ := hu
  cases rv
  exact ⟨.ref r, H', I', vref, q'⟩
theorem rb_augM {β' γ' : Type} {i : Nat} {a : Addr} {fs0 : List (Str × Pr)} {me : Mo α} {ρ' : α → Pr} {m : β' → Mo γ'} {fi : β' → List (Str × Pr)} {pp : β' → Ctx} {fo : β' → γ' → List (Str × Pr)} {mr : α → γ' → Mo γ} (x : α → β') (hs : PS X st (tAug i (tE X e) (ipO C (spM X.K X.mg C fi pp m fo) (fun _ _ _ => False)))) (hi : Γ[i]? = some (.ow true a (oIn C fs0))) (he : RE X W Γ e me (.fz ρ')) (hf : ∀ v, fi (x v) = fs0 := by intro _; rfl) (hpp : ∀ v, pp (x v) = [.fz (ρ' v)] := by intro _; rfl) (hie : Γe[i]? = some .un)
    (hr : ∀ v z, RB X W Γe lv (Γ.set i (.ow true a (oIn C (fo (x v) z)))) rest (mr v z) Z) : RB X W Γe lv Γ (st :: rest) (me >>= fun v => Mo.calm (m (x v)) >>= fun z => mr v z) Z := fun le G σ F H D nx' hn o q =>
  tSs_cons hs (by
    obtain ⟨h1, _⟩ := o.en i _ hi
    refine ⟨.ref a, h1, he G σ F H _ o (me.mono (fun v hx w F1 H1 o1 g1 z => ?_) (fun _ => XQ.eq le) q)⟩
    obtain ⟨_, k2, k3, u, ku, kq⟩ := o1.en i _ hi
    have kq' := kq
    obtain ⟨dx, gs, rfl, kg⟩ := kq'
    refine ⟨a, dx, gs, rfl, ku, x v, F1, a, [w], rfl, ⟨Go.refl o1.le, fun j en hj => ?_, ap_of ?_, by rw [hpp]; rfl⟩, (m (x v)).mono (fun y hy F2 H2 g2 hF hc => ⟨a, rfl, hr v y (le.set hie) G _ F2 H2 D nx' hn (o1.change hi g2 hF hc) (run_fin (g1.fs.trans g2.fs) hy)⟩) (fun _ h => h.elim) hx⟩
    · rw [hpp, hf] at hj
      match j, hj with
      | 0, hj => cases hj; exact ⟨rfl, k2, by simp, _, ku, kq⟩
      | 1, hj => cases hj; exact ⟨w, rfl, z⟩
    · rw [hpp]
      show [a].Nodup
      simp)
end
end RF
namespace RF
open PySem PySem.Spec PyProof.Rows L2 KO SX
def HFC : Ctx → Prop
  | [] => True
  | .fz p :: r => (∀ v F F', p.r v F → p.r v F') ∧ HFC r
  | _ => False
theorem HFC.get : ∀ {Γ : Ctx} {i : Nat} {e : En}, HFC Γ → Γ[i]? = some e → ∃ p, e = .fz p ∧ ∀ v F F', p.r v F → p.r v F'
  | [], _, _, _, h => by simp at h
  | .fz p :: _, 0, _, k, h => by simp at h; subst h; exact ⟨p, rfl, k.1⟩
  | .fz _ :: r, i + 1, _, k, h => HFC.get (Γ := r) (i := i) k.2 (by simpa using h)
  | .un :: _, _, _, k, _ => k.elim
  | .ow _ _ _ :: _, _, _, k, _ => k.elim
  | .lk _ _ _ :: _, _, _, k, _ => k.elim
theorem HFC.owns : ∀ {Γ : Ctx}, HFC Γ → RF.owns Γ = []
  | [], _ => rfl
  | .fz p :: r, k => by
    have := HFC.owns (Γ := r) k.2
    unfold RF.owns at this ⊢
    rw [List.filterMap_cons]
    exact this
  | .un :: _, k => k.elim
  | .ow _ _ _ :: _, k => k.elim
  | .lk _ _ _ :: _, k => k.elim
def uni (F A : Hp) : Hp := fun b => match F b with
  | some o => some o
  | none => A b
theorem uni_l {F A : Hp} {b : Addr} {o : HO} (h : F b = some o) : uni F A b = some o := by unfold uni; rw [h]
theorem uni_r {F A : Hp} {b : Addr} (h : F b = none) : uni F A b = A b := by unfold uni; rw [h]
theorem uni_go {F H A H' : Hp} (s : Same F H) (g : Go [] (fun _ => none) H A H') : Go [] F H (uni F A) H' ∧ Same A (uni F A) ∧ ∀ b, H b ≠ none → A b = none := by
  have z : ∀ b, H b ≠ none → A b = none := fun b n => by
    cases e : H b with
    | none => exact (n e).elim
    | some o => exact g.fr b o e rfl
  refine ⟨⟨fun b o e => uni_l e, fun b o e => ?_, g.hs, fun b o e f => ?_, g.th⟩, fun b o e => ?_, z⟩
  · cases q : F b with
    | some y =>
      rw [uni_l q] at e
      obtain rfl := Option.some.inj e
      exact g.hs b _ (by simp) (s _ _ q)
    | none =>
      rw [uni_r q] at e
      exact g.le _ _ e
  · rw [uni_r f]; exact z b (by rw [e]; simp)
  · cases q : F b with
    | none => rw [uni_r q]; exact e
    | some y =>
      have := z b (by rw [s _ _ q]; simp)
      rw [e] at this; cases this
theorem err_mono {K : PySem.W.Frag} {mg : Str → Option Value} {ex : Ex} {cls : Value} {d : Option Addr} {F F' : Hp} (s : Same F F') (h : ErrOk K mg ex cls d F) : ErrOk K mg ex cls d F' := by
  obtain ⟨C, h1, h2, h3⟩ := h
  refine ⟨C, h1, h2, h3.imp id ?_⟩
  rintro ⟨dd, fs, e1, e2, e3⟩
  refine ⟨dd, fs, e1, s _ _ e2, fun f y hy => ?_⟩
  obtain ⟨v, a, b⟩ := e3 f y hy
  exact ⟨v, a, (rD y).mono s b⟩
section
variable {ι β γ : Type} {P : Program} {w : World} {K : PySem.W.Frag} {mg : Str → Option Value} {base : Heap} {CX : CXT} {k : Nat} {f : Addr} {fd : FuncData} {ps : List Str} {pp : ι → β → Ctx} {m : β → Mo γ} {ρ : γ → Pr}
theorem fn_imp {sp sp' : Sp} (F : FnOk P w K mg base CX k f fd ps sp) (h : ∀ vs H Q E, sp' vs H Q E → sp vs H Q E) : FnOk P w K mg base CX k f fd ps sp' :=
  ⟨fun vs H Q E q => F.len vs H Q E (h _ _ _ _ q), fun A outer s H args us vs Q E hr e0 b r q => F.run A outer s H args us vs Q E hr e0 b r (h _ _ _ _ q)⟩
theorem hfc_ok {G : Ctx} {vs : List V} {F H : Hp} (hp : HFC G) (o : Ok ⟨F, H, owns G⟩ G (vs.map some) F H) : Ok ⟨fun _ => none, H, owns G⟩ G (vs.map some) (fun _ => none) H := by
  refine ⟨Go.refl (fun _ _ e => by cases e), fun i en he => ?_, o.ap, o.ln⟩
  obtain ⟨p, rfl, hh⟩ := hp.get he
  obtain ⟨v, h1, h2⟩ := o.en i _ he
  exact ⟨v, h1, hh _ _ _ h2⟩
theorem hfc_own {G : Ctx} {F H : Hp} (hp : HFC G) : OwnOk F H G := fun i l a q h => by
  obtain ⟨p, e, _⟩ := hp.get h
  cases e
theorem fn_nw (Fn : FnOk P w K mg base CX k f fd ps (spR K mg pp m (.fz ρ))) (hp : ∀ i x, HFC (pp i x)) : FnOk P w K mg base CX k f fd ps (spR K mg pp m (.nw ρ)) := fn_imp Fn fun vs H Q E ⟨i, x, F, o, q⟩ => by
  refine ⟨i, x, fun _ => none, hfc_ok (hp i x) o, (m x).mono (fun y hy v A H' g _ z => ?_) (fun ex he cls d A H' g _ r => ?_) q⟩
  all_goals rw [(hp i x).owns] at *
  · obtain ⟨g2, s2, n2⟩ := uni_go o.le g
    refine hy v (uni F A) H' g2 (hfc_own (hp i x)) ⟨(ρ y).mono s2 z, fun a us na ea => (ρ y).mono (fun b o' e => ?_) z⟩
    exact del_ok (s2 _ _ e) (by rintro rfl; rw [n2 _ na] at e; cases e)
  · obtain ⟨g2, s2, n2⟩ := uni_go o.le g
    exact he cls d (uni F A) H' g2 (hfc_own (hp i x)) (err_mono s2 r)
theorem fn_ow {C : Addr} {fs : γ → List (Str × Pr)} (Fn : FnOk P w K mg base CX k f fd ps (spR K mg pp m (.fz ρ))) (hp : ∀ i x, HFC (pp i x)) (hρ : ∀ y, ρ y = rIn C (fs y)) (hn : ∀ y F a u dx us gs, F a = some (.ins u dx us) → Fs F (fs y) gs → Fs (del F a) (fs y) gs) : FnOk P w K mg base CX k f fd ps (spR K mg pp m (.ow fun y => oIn C (fs y))) := fn_imp Fn fun vs H Q E ⟨i, x, F, o, q⟩ => by
  refine ⟨i, x, fun _ => none, hfc_ok (hp i x) o, (m x).mono (fun y hy v A H' g _ z => ?_) (fun ex he cls d A H' g _ r => ?_) q⟩
  all_goals rw [(hp i x).owns] at *
  · have z : (ρ y).r v A := z
    rw [hρ y] at z
    obtain ⟨a, dx, gs, rfl, h1, h2⟩ := z
    have hHa : H a = none := by
      cases e : H a with
      | none => rfl
      | some y => have := g.fr a _ e rfl; rw [h1] at this; cases this
    have hFa : F a = none := by
      cases e : F a with
      | none => rfl
      | some y => have := o.le _ _ e; rw [hHa] at this; cases this
    have gd : Go [] (fun _ => none) H (del A a) H' := by
      refine ⟨fun _ _ e => (by cases e), fun b o' e => ?_, g.hs, fun b o' e f => ?_, g.th⟩
      · unfold del at e
        split at e
        · cases e
        · exact g.le _ _ e
      · unfold del
        split
        · rfl
        · exact g.fr b o' e f
    obtain ⟨g2, s2, n2⟩ := uni_go o.le gd
    refine hy (.ref a) (uni F (del A a)) H' g2 (hfc_own (hp i x)) ⟨a, _, rfl, hHa, ?_, g.le _ _ h1, dx, gs, rfl, (hn y A a _ _ _ _ h1 h2).mono s2⟩
    rw [uni_r hFa]; exact del_same
  · obtain ⟨g2, s2, n2⟩ := uni_go o.le g
    exact he cls d (uni F A) H' g2 (hfc_own (hp i x)) (err_mono s2 r)
end
theorem ps_hfI {F F' : Hp} : ∀ {xs : List Int} {vs : List V}, Ps F (xs.map rI) vs → Ps F' (xs.map rI) vs
  | [], [], _ => trivial
  | x :: xs, v :: vs, k => ⟨k.1, ps_hfI k.2⟩
  | [], _ :: _, k => k.elim
  | _ :: _, [], k => k.elim
theorem ps_int {F : Hp} : ∀ {xs : List Int} {vs : List V}, Ps F (xs.map rI) vs → vs = xs.map V.int
  | [], [], _ => rfl
  | x :: xs, v :: vs, k => by rw [List.map_cons, ps_int k.2, show v = .int x from k.1]
  | [], _ :: _, k => k.elim
  | _ :: _, [], k => k.elim
theorem ps_of_int {F : Hp} : ∀ xs : List Int, Ps F (xs.map rI) (xs.map V.int)
  | [] => trivial
  | x :: xs => ⟨rfl, ps_of_int xs⟩
theorem ni_L1 {n : Str} (y : List Int) (F : Hp) (a : Addr) (u dx : Addr) (us gs : List (Str × V)) (h : F a = some (.ins u dx us)) (k : Fs F [(n, rL rI y)] gs) : Fs (del F a) [(n, rL rI y)] gs := by
  match gs, k with
  | [(n', v)], k =>
    obtain ⟨e, ⟨t, ws, rfl, h1, h2⟩, _⟩ := k
    refine ⟨e, ⟨t, ws, rfl, del_ok h1 ?_, ps_hfI h2⟩, trivial⟩
    rintro rfl
    rw [h] at h1; cases h1
section
variable {α β γ δ : Type} {X : Cx} {W : WX} {Γe Γ Γ' : Ctx} {lv : Bool} {e e1 e2 o : Expr} {st : Stmt} {rest : List Stmt} {Z : γ → Fin} {pos p : Pos} {C : Addr} {t : TE}
inductive FrE (j : Nat) (p : Pr) : Nat → En → En → Prop
  | un (i : Nat) (e : En) : FrE j p i e .un
  | fz (i : Nat) (q : Pr) : FrE j p i (.fz q) (.fz q)
theorem rte_borI {j : Nat} {l : Bool} {a : Addr} {fs : List (Str × Pr)} {m : Mo (List Int)} (hj : Γ[j]? = some (.ow l a (oIn C fs))) (h : RTE X W Γ' t m (.ow (oL rI))) (hl : Γ'.length = Γ.length)
    (hΓ : ∀ i e, Γ'[i]? = some e → e = .un ∨ (i = j ∧ e = .fz (rIn C fs)) ∨ ∃ q, e = .fz q ∧ Γ[i]? = some (.fz q)) : RTE X W Γ t (Mo.calm m) (.ow (oL rI)) := fun G σ F H Q o q => by
  have n' : ∀ {i : Nat} {l : Bool} {b : Addr} {r : Po}, Γ'[i]? = some (.ow l b r) → False := fun {i l b r} he => by
    rcases hΓ _ _ he with e | ⟨_, e⟩ | ⟨_, e, _⟩ <;> cases e
  have o1 : Ok ⟨H, H, []⟩ Γ' σ H H := ⟨Go.refl (fun _ _ e => e), fun i e he => by
    rcases hΓ _ _ he with e | ⟨rfl, e⟩ | ⟨r, e, h1⟩
    · subst e; trivial
    · subst e
      obtain ⟨z1, z2, z3, u, z4, dx, gs, rfl, z5⟩ := o.en _ _ hj
      exact ⟨.ref a, z1, a, dx, gs, rfl, z4, z5.mono o.le⟩
    · subst e
      obtain ⟨v, z1, z2⟩ := o.en _ _ h1
      exact ⟨v, z1, r.mono o.le z2⟩, fun i j l m a p q h1 _ => (n' h1).elim, by rw [o.ln, hl]⟩
  have hw : owns Γ' = [] := by
    cases e : owns Γ' with
    | nil => rfl
    | cons b r =>
      obtain ⟨i, l, q, h⟩ := of_owns (Γ := Γ') (a := b) (by rw [e]; simp)
      exact (n' h).elim
  refine h ⟨H, H, []⟩ σ H H Q o1 (m.mono (fun x hx v F2 H2 o2 g2 z => ?_) (fun _ z => z.elim) q)
  rw [hw] at g2
  obtain ⟨b, u, rfl, h1, h2, h3, ws, rfl, h4⟩ := z
  have g3 : Go [] F H F H2 := ⟨Same.refl _, o.le.trans (g2.fs.trans o2.le), g2.hs, fun _ _ _ h => h, g2.th⟩
  have hFb : F b = none := by
    cases e : F b with
    | none => rfl
    | some y => have := o.le _ _ e; rw [h1] at this; cases this
  exact hx (.ref b) F H2 (o.move g3 fun _ h => by simp at h) (g3.mono fun _ h => by simp at h) ⟨b, _, rfl, h1, hFb, h3, ws, rfl, ps_hfI h4⟩
theorem re_borI {j : Nat} {l : Bool} {a : Addr} {fs : List (Str × Pr)} {m : Mo (List Int)} (hj : Γ[j]? = some (.ow l a (oIn C fs))) (h : RE X W Γ' e m (.ow (oL rI))) (hl : Γ'.length = Γ.length)
    (hΓ : ∀ i e, Γ'[i]? = some e → e = .un ∨ (i = j ∧ e = .fz (rIn C fs)) ∨ ∃ q, e = .fz q ∧ Γ[i]? = some (.fz q)) : RE X W Γ e (Mo.calm m) (.ow (oL rI)) := rte_borI hj h hl hΓ
def spPut (C : Addr) (f : Str) : Sp := fun vs H Q _ => ∃ (a dx l : Addr) (ns : List Int) (i c : Int), vs = [.ref a, .int i, .int c] ∧ H a = some (.ins C dx [(f, .ref l)]) ∧ H l = some (.lst (ns.map V.int)) ∧ (0 ≤ i ∧ i < ns.length ∧ 0 ≤ c) ∧ ∀ H1, Go [] H H H1 H1 → Q .non (upd H1 l (.lst ((ns.set i.toNat c).map V.int)))
theorem rb_putM {h : Hp} {p0 : Pr} {i j k : Nat} {f g : Str} {fn : Addr} {fd : FuncData} {ps : List Str} {mi mc : Mo Int} {m : Mo γ} {xs : List Int} {xn : Str} {xp apos p1 : Pos} {pl : Sem Bool}
    (hi : Γ[i]? = some (.fz (rNw h (fun x : List Int => rIn C [(f, rL rI x)]) xs))) (hk : Γ[j]? = some (.lk true h p0)) (hp : PE X (.Name xn xp) (tVar i)) (c : Cls X.K C) (hm : Meth X.K C g fn) (Fn : FnOk X.prog X.w X.K X.mg X.base (L2.CX X.prog X.w) k fn fd ps (spPut C f)) (hr : Room k X.A) (tk : Takes X W) (hb : Binds X.K fd ps []) (hgf : (g == f) = false)
    (h1 : RE X W Γ e1 mi (.fz rI)) (h2 : RE X W Γ e2 mc (.fz rI)) (hle : Le Γe Γ') (hc : ∀ b vs ws, h b = none → RpC h b vs ws Γ Γ') (hrest : RB X W Γe lv Γ' rest m Z)
    (hst : starEach [e1, e2] X.env = (false, eval e1 X.env) :: starEach [e2] X.env := by rfl) (hst2 : starEach [e2] X.env = [(false, eval e2 X.env)] := by rfl) (hpl : (backTo pos (starEach [e2] X.env)).any (·.1) = false := by rfl)
    (ht : eval (.Call (.Attribute (.Name xn xp) g apos) [e1, e2] [] pos) X.env = (do
      let ov ← eval (.Name xn xp) X.env
      standAt apos.atName
      let (f, first) ← holding [ov] (getMethod ov g pl)
      callWith pos f first (backTo pos (starEach [e1, e2] X.env)) (backToKw pos (keywordEach [] X.env))) := by rfl) :
    RB X W Γe lv Γ (.Expr (.Call (.Attribute (.Name xn xp) g apos) [e1, e2] [] pos) p1 :: rest) (mi >>= fun i => mc >>= fun c => Mo.req (0 ≤ i ∧ i < xs.length ∧ 0 ≤ c) >>= fun _ => m) Z := fun le G σ F H D nx' hn o q =>
  tSs_cons (ps_expr (pe_methX hp c hm Fn hr hb (fun σ => passAt tk σ) (pa_cons peE (pa_cons peE pa_nil hst2) hst) hst hpl ht)) (by
    obtain ⟨v, z1, z2, z3⟩ := o.en i _ hi
    obtain ⟨a, dx, gs, rfl, ha, hg⟩ := z2
    match gs, hg with
    | [(f', u)], hg =>
    obtain ⟨rfl, ⟨l, ws, rfl, hl, hws⟩, _⟩ := hg
    obtain rfl := ps_int hws
    have hn' : h l = none := by
      cases e : h l with
      | none => rfl
      | some y =>
        obtain ⟨a', dx', gs', e2, ha', hg'⟩ := z3 l _ (by rw [e]; simp) hl
        obtain rfl := V.ref.inj e2
        have hal : a ≠ l := by rintro rfl; rw [ha] at hl; cases hl
        rw [del_ne hal, ha] at ha'
        obtain ⟨_, _, rfl⟩ := HO.ins.inj (Option.some.inj ha')
        obtain ⟨_, ⟨l', ws', e3, hl', _⟩, _⟩ := hg'
        obtain rfl := V.ref.inj e3
        rw [del_same] at hl'; cases hl'
    refine ⟨.ref a, z1, a, dx, _, rfl, o.le _ _ ha, ?_, ?_⟩
    · rw [List.lookup_cons, hgf]; rfl
    refine h1 G σ F H _ o (mi.mono (fun x1 hx1 w1 F1 H1 o1 g1 r1 => ?_) (fun _ => XQ.eq le) q)
    obtain rfl : w1 = .int x1 := r1
    refine h2 G σ F1 H1 _ o1 (mc.mono (fun x2 hx2 w2 F2 H2 o2 g2 r2 => ?_) (fun _ z => XQ.eq le (XQ.any z)) hx1)
    obtain rfl : w2 = .int x2 := r2
    have hx2 := hx2
    obtain ⟨hcond, hx3⟩ := hx2
    have s2 := g1.fs.trans g2.fs
    refine ⟨a, dx, l, xs, x1, x2, rfl, o2.le _ _ (s2 _ _ ha), o2.le _ _ (s2 _ _ hl), hcond, fun H3 g3 => ?_⟩
    have g4 : Go [] F2 H2 F2 H3 := ⟨Same.refl _, o2.le.trans (g3.fs.trans (fun _ _ e => e)), g3.hs, fun _ _ _ h => h, g3.th⟩
    have o3 := o2.move g4 (fun _ h => by simp at h)
    exact hrest hle G σ _ _ D nx' hn (o3.repl hk (s2 _ _ hl) hn' (hc l _ _ hn')) (run_any hx3))
theorem tss_ex {G : Gf} {σ : L2.St} {F H : Hp} {D : Ends} {m : Mo α} {ρ : α → Pr} (hs : PS X st (tDrop (tE X e))) (he : RE X W Γ e m (.fz ρ)) (o : Ok G Γ σ F H) (q : m.run (fun _ => ∀ F' H', Ok G Γ σ F' H' → Go (owns Γ) F H F' H' → tSs X rest D σ H') (EQ X W G Γ σ F H)) : tSs X (st :: rest) D σ H :=
  tSs_cons hs (he G σ F H _ o (m.mono (fun _ hx v F' H' o' g' _ => hx F' H' o' g') (fun _ z => z) q))
end
end RF
namespace DD
open PySem L2
/-! the text by its places -/
def topS (i : Nat) : Stmt := PySem.Challenge.pw_depotday_k04_load_of_stretches.main.body.getD i (.Pass ⟨0, 0, 0, 0⟩)
abbrev schecklength : Stmt := topS 7
abbrev scheckleast : Stmt := topS 8
abbrev sLoadInit : Stmt := inClass (topS 9) 0
abbrev sLoadZero : Stmt := inClass (topS 9) 1
abbrev sLoadOf : Stmt := inClass (topS 9) 2
abbrev sLoadCheckminute : Stmt := inClass (topS 9) 3
abbrev sLoadPairs : Stmt := inClass (topS 9) 4
abbrev sLoadLen : Stmt := inClass (topS 9) 5
abbrev sLoadIter : Stmt := inClass (topS 9) 6
abbrev sLoadGetitem : Stmt := inClass (topS 9) 7
abbrev sLoadSetitem : Stmt := inClass (topS 9) 8
abbrev sLoadPut : Stmt := inClass (topS 9) 9
abbrev sLoadContains : Stmt := inClass (topS 9) 10
abbrev sLoadBool : Stmt := inClass (topS 9) 11
abbrev sLoadAbs : Stmt := inClass (topS 9) 12
abbrev sLoadEq : Stmt := inClass (topS 9) 13
abbrev sLoadAdd : Stmt := inClass (topS 9) 14
abbrev sLoadIadd : Stmt := inClass (topS 9) 15
abbrev sLoadSub : Stmt := inClass (topS 9) 16
abbrev sLoadOr : Stmt := inClass (topS 9) 17
abbrev sLoadAnd : Stmt := inClass (topS 9) 18
abbrev sLoadXor : Stmt := inClass (topS 9) 19
abbrev sLoadMul : Stmt := inClass (topS 9) 21
abbrev sLoadRmul : Stmt := inClass (topS 9) 22
abbrev sLoadFloordiv : Stmt := inClass (topS 9) 23
abbrev sLoadMod : Stmt := inClass (topS 9) 24
abbrev sLoadLshift : Stmt := inClass (topS 9) 26
abbrev sLoadRshift : Stmt := inClass (topS 9) 27
abbrev sLcell : Stmt := topS 11
abbrev sLpool : Stmt := topS 12
abbrev sLtake : Stmt := topS 13
abbrev sLsame : Stmt := topS 14
abbrev sLisload : Stmt := topS 15
abbrev sLlength : Stmt := topS 16
abbrev sLbegin : Stmt := topS 17
abbrev sLstretch : Stmt := topS 18
abbrev sLwalk : Stmt := topS 19
abbrev sLeven : Stmt := topS 20
abbrev sLrefuses : Stmt := topS 21
abbrev sLone : Stmt := topS 22
abbrev sLrow : Stmt := topS 23
abbrev sLaw : Stmt := topS 24
/-- what the top has written, as the walks ask for it -/
structure Tx (K : PySem.W.Frag) (mg : Str → Option Value) where
  t_MOST_LENGTH : Tok
  c_MOST_LENGTH : mg "MOST_LENGTH" = some (.int 60 t_MOST_LENGTH)
  t_MOST_MINUTES : Tok
  c_MOST_MINUTES : mg "MOST_MINUTES" = some (.int 10000 t_MOST_MINUTES)
  z_ValueError : mg "ValueError" = none
  z_abs : mg "abs" = none
  z_any : mg "any" = none
  z_bool : mg "bool" = none
  z_classmethod : mg "classmethod" = none
  z_divmod : mg "divmod" = none
  z_int : mg "int" = none
  z_isinstance : mg "isinstance" = none
  z_iter : mg "iter" = none
  z_len : mg "len" = none
  z_list : mg "list" = none
  z_max : mg "max" = none
  z_min : mg "min" = none
  z_range : mg "range" = none
  z_staticmethod : mg "staticmethod" = none
  z_str : mg "str" = none
  z_sum : mg "sum" = none
  z_tuple : mg "tuple" = none
  z_zip : mg "zip" = none
  C_Load : Addr
  g_Load : mg "Load" = some (.ref C_Load)
  cl_Load : Cls K C_Load
  na_Load__counts : NoAttr K C_Load "_counts"
  fcheck_length : Addr
  dcheck_length : FuncData
  Fcheck_length : Fun K "check_length" "check_length" schecklength fcheck_length dcheck_length
  bcheck_length : Binds K dcheck_length ["length"] []
  gcheck_length : mg "check_length" = some (.ref fcheck_length)
  fcheck_least : Addr
  dcheck_least : FuncData
  Fcheck_least : Fun K "check_least" "check_least" scheckleast fcheck_least dcheck_least
  bcheck_least : Binds K dcheck_least ["number", "least"] []
  gcheck_least : mg "check_least" = some (.ref fcheck_least)
  fLoad_init : Addr
  dLoad_init : FuncData
  FLoad_init : Fun K "__init__" "Load.__init__" sLoadInit fLoad_init dLoad_init
  bLoad_init : Binds K dLoad_init ["self", "counts"] []
  M_Load : Mk K C_Load fLoad_init
  fLoad_zero : Addr
  dLoad_zero : FuncData
  FLoad_zero : Fun K "zero" "Load.zero" sLoadZero fLoad_zero dLoad_zero
  bLoad_zero : Binds K dLoad_zero ["length"] []
  m_Load_zero : RF.SMet K C_Load "zero" fLoad_zero
  fLoad_of : Addr
  dLoad_of : FuncData
  FLoad_of : Fun K "of" "Load.of" sLoadOf fLoad_of dLoad_of
  bLoad_of : Binds K dLoad_of ["cls", "length", "begin", "minutes"] []
  m_Load_of : RF.KMet K C_Load "of" fLoad_of
  fLoad_check_minute : Addr
  dLoad_check_minute : FuncData
  FLoad_check_minute : Fun K "_check_minute" "Load._check_minute" sLoadCheckminute fLoad_check_minute dLoad_check_minute
  bLoad_check_minute : Binds K dLoad_check_minute ["self", "minute"] []
  m_Load_check_minute : Meth K C_Load "_check_minute" fLoad_check_minute
  fLoad_pairs : Addr
  dLoad_pairs : FuncData
  FLoad_pairs : Fun K "_pairs" "Load._pairs" sLoadPairs fLoad_pairs dLoad_pairs
  bLoad_pairs : Binds K dLoad_pairs ["self", "other"] []
  m_Load_pairs : Meth K C_Load "_pairs" fLoad_pairs
  fLoad_len : Addr
  dLoad_len : FuncData
  FLoad_len : Fun K "__len__" "Load.__len__" sLoadLen fLoad_len dLoad_len
  bLoad_len : Binds K dLoad_len ["self"] []
  m_Load_len : Meth K C_Load "__len__" fLoad_len
  fLoad_iter : Addr
  dLoad_iter : FuncData
  FLoad_iter : Fun K "__iter__" "Load.__iter__" sLoadIter fLoad_iter dLoad_iter
  bLoad_iter : Binds K dLoad_iter ["self"] []
  m_Load_iter : Meth K C_Load "__iter__" fLoad_iter
  fLoad_getitem : Addr
  dLoad_getitem : FuncData
  FLoad_getitem : Fun K "__getitem__" "Load.__getitem__" sLoadGetitem fLoad_getitem dLoad_getitem
  bLoad_getitem : Binds K dLoad_getitem ["self", "at"] []
  m_Load_getitem : Meth K C_Load "__getitem__" fLoad_getitem
  n_Load_getitem : PySem.W.fnIn K fLoad_getitem = true
  fLoad_setitem : Addr
  dLoad_setitem : FuncData
  FLoad_setitem : Fun K "__setitem__" "Load.__setitem__" sLoadSetitem fLoad_setitem dLoad_setitem
  bLoad_setitem : Binds K dLoad_setitem ["self", "at", "worth"] []
  m_Load_setitem : Meth K C_Load "__setitem__" fLoad_setitem
  fLoad_put : Addr
  dLoad_put : FuncData
  FLoad_put : Fun K "put" "Load.put" sLoadPut fLoad_put dLoad_put
  bLoad_put : Binds K dLoad_put ["self", "minute", "count"] []
  m_Load_put : Meth K C_Load "put" fLoad_put
  fLoad_contains : Addr
  dLoad_contains : FuncData
  FLoad_contains : Fun K "__contains__" "Load.__contains__" sLoadContains fLoad_contains dLoad_contains
  bLoad_contains : Binds K dLoad_contains ["self", "x"] []
  m_Load_contains : Meth K C_Load "__contains__" fLoad_contains
  fLoad_bool : Addr
  dLoad_bool : FuncData
  FLoad_bool : Fun K "__bool__" "Load.__bool__" sLoadBool fLoad_bool dLoad_bool
  bLoad_bool : Binds K dLoad_bool ["self"] []
  m_Load_bool : Meth K C_Load "__bool__" fLoad_bool
  fLoad_abs : Addr
  dLoad_abs : FuncData
  FLoad_abs : Fun K "__abs__" "Load.__abs__" sLoadAbs fLoad_abs dLoad_abs
  bLoad_abs : Binds K dLoad_abs ["self"] []
  m_Load_abs : Meth K C_Load "__abs__" fLoad_abs
  fLoad_eq : Addr
  dLoad_eq : FuncData
  FLoad_eq : Fun K "__eq__" "Load.__eq__" sLoadEq fLoad_eq dLoad_eq
  bLoad_eq : Binds K dLoad_eq ["self", "other"] []
  m_Load_eq : Meth K C_Load "__eq__" fLoad_eq
  fLoad_add : Addr
  dLoad_add : FuncData
  FLoad_add : Fun K "__add__" "Load.__add__" sLoadAdd fLoad_add dLoad_add
  bLoad_add : Binds K dLoad_add ["self", "other"] []
  m_Load_add : Meth K C_Load "__add__" fLoad_add
  fLoad_iadd : Addr
  dLoad_iadd : FuncData
  FLoad_iadd : Fun K "__iadd__" "Load.__iadd__" sLoadIadd fLoad_iadd dLoad_iadd
  bLoad_iadd : Binds K dLoad_iadd ["self", "other"] []
  m_Load_iadd : Meth K C_Load "__iadd__" fLoad_iadd
  fLoad_sub : Addr
  dLoad_sub : FuncData
  FLoad_sub : Fun K "__sub__" "Load.__sub__" sLoadSub fLoad_sub dLoad_sub
  bLoad_sub : Binds K dLoad_sub ["self", "other"] []
  m_Load_sub : Meth K C_Load "__sub__" fLoad_sub
  fLoad_or : Addr
  dLoad_or : FuncData
  FLoad_or : Fun K "__or__" "Load.__or__" sLoadOr fLoad_or dLoad_or
  bLoad_or : Binds K dLoad_or ["self", "other"] []
  m_Load_or : Meth K C_Load "__or__" fLoad_or
  fLoad_and : Addr
  dLoad_and : FuncData
  FLoad_and : Fun K "__and__" "Load.__and__" sLoadAnd fLoad_and dLoad_and
  bLoad_and : Binds K dLoad_and ["self", "other"] []
  m_Load_and : Meth K C_Load "__and__" fLoad_and
  fLoad_xor : Addr
  dLoad_xor : FuncData
  FLoad_xor : Fun K "__xor__" "Load.__xor__" sLoadXor fLoad_xor dLoad_xor
  bLoad_xor : Binds K dLoad_xor ["self", "other"] []
  m_Load_xor : Meth K C_Load "__xor__" fLoad_xor
  fLoad_mul : Addr
  dLoad_mul : FuncData
  FLoad_mul : Fun K "__mul__" "Load.__mul__" sLoadMul fLoad_mul dLoad_mul
  bLoad_mul : Binds K dLoad_mul ["self", "other"] []
  m_Load_mul : Meth K C_Load "__mul__" fLoad_mul
  fLoad_rmul : Addr
  dLoad_rmul : FuncData
  FLoad_rmul : Fun K "__rmul__" "Load.__rmul__" sLoadRmul fLoad_rmul dLoad_rmul
  bLoad_rmul : Binds K dLoad_rmul ["self", "other"] []
  m_Load_rmul : Meth K C_Load "__rmul__" fLoad_rmul
  fLoad_floordiv : Addr
  dLoad_floordiv : FuncData
  FLoad_floordiv : Fun K "__floordiv__" "Load.__floordiv__" sLoadFloordiv fLoad_floordiv dLoad_floordiv
  bLoad_floordiv : Binds K dLoad_floordiv ["self", "other"] []
  m_Load_floordiv : Meth K C_Load "__floordiv__" fLoad_floordiv
  fLoad_mod : Addr
  dLoad_mod : FuncData
  FLoad_mod : Fun K "__mod__" "Load.__mod__" sLoadMod fLoad_mod dLoad_mod
  bLoad_mod : Binds K dLoad_mod ["self", "other"] []
  m_Load_mod : Meth K C_Load "__mod__" fLoad_mod
  fLoad_lshift : Addr
  dLoad_lshift : FuncData
  FLoad_lshift : Fun K "__lshift__" "Load.__lshift__" sLoadLshift fLoad_lshift dLoad_lshift
  bLoad_lshift : Binds K dLoad_lshift ["self", "other"] []
  m_Load_lshift : Meth K C_Load "__lshift__" fLoad_lshift
  fLoad_rshift : Addr
  dLoad_rshift : FuncData
  FLoad_rshift : Fun K "__rshift__" "Load.__rshift__" sLoadRshift fLoad_rshift dLoad_rshift
  bLoad_rshift : Binds K dLoad_rshift ["self", "other"] []
  m_Load_rshift : Meth K C_Load "__rshift__" fLoad_rshift
  f_law_cell : Addr
  d_law_cell : FuncData
  F_law_cell : Fun K "_law_cell" "_law_cell" sLcell f_law_cell d_law_cell
  b_law_cell : Binds K d_law_cell ["_law_script", "_law_k"] []
  g_law_cell : mg "_law_cell" = some (.ref f_law_cell)
  f_law_pool : Addr
  d_law_pool : FuncData
  F_law_pool : Fun K "_law_pool" "_law_pool" sLpool f_law_pool d_law_pool
  b_law_pool : Binds K d_law_pool ["_law_script", "_law_k"] []
  g_law_pool : mg "_law_pool" = some (.ref f_law_pool)
  f_law_take : Addr
  d_law_take : FuncData
  F_law_take : Fun K "_law_take" "_law_take" sLtake f_law_take d_law_take
  b_law_take : Binds K d_law_take ["_law_pool_here", "_law_many"] []
  g_law_take : mg "_law_take" = some (.ref f_law_take)
  f_law_same : Addr
  d_law_same : FuncData
  F_law_same : Fun K "_law_same" "_law_same" sLsame f_law_same d_law_same
  b_law_same : Binds K d_law_same ["_law_got", "_law_due"] []
  g_law_same : mg "_law_same" = some (.ref f_law_same)
  f_law_is_load : Addr
  d_law_is_load : FuncData
  F_law_is_load : Fun K "_law_is_load" "_law_is_load" sLisload f_law_is_load d_law_is_load
  b_law_is_load : Binds K d_law_is_load ["_law_got", "_law_counts"] []
  g_law_is_load : mg "_law_is_load" = some (.ref f_law_is_load)
  f_law_length : Addr
  d_law_length : FuncData
  F_law_length : Fun K "_law_length" "_law_length" sLlength f_law_length d_law_length
  b_law_length : Binds K d_law_length ["_law_pool_here"] []
  g_law_length : mg "_law_length" = some (.ref f_law_length)
  f_law_begin : Addr
  d_law_begin : FuncData
  F_law_begin : Fun K "_law_begin" "_law_begin" sLbegin f_law_begin d_law_begin
  b_law_begin : Binds K d_law_begin ["_law_pool_here"] []
  g_law_begin : mg "_law_begin" = some (.ref f_law_begin)
  f_law_stretch : Addr
  d_law_stretch : FuncData
  F_law_stretch : Fun K "_law_stretch" "_law_stretch" sLstretch f_law_stretch d_law_stretch
  b_law_stretch : Binds K d_law_stretch ["_law_pool_here", "_law_length_here"] []
  g_law_stretch : mg "_law_stretch" = some (.ref f_law_stretch)
  f_law_walk : Addr
  d_law_walk : FuncData
  F_law_walk : Fun K "_law_walk" "_law_walk" sLwalk f_law_walk d_law_walk
  b_law_walk : Binds K d_law_walk ["_law_length_here", "_law_begin_here", "_law_minutes"] []
  g_law_walk : mg "_law_walk" = some (.ref f_law_walk)
  f_law_even : Addr
  d_law_even : FuncData
  F_law_even : Fun K "_law_even" "_law_even" sLeven f_law_even d_law_even
  b_law_even : Binds K d_law_even ["_law_length_here", "_law_begin_here", "_law_minutes"] []
  g_law_even : mg "_law_even" = some (.ref f_law_even)
  f_law_refuses : Addr
  d_law_refuses : FuncData
  F_law_refuses : Fun K "_law_refuses" "_law_refuses" sLrefuses f_law_refuses d_law_refuses
  b_law_refuses : Binds K d_law_refuses ["_law_length_here", "_law_begin_here", "_law_minutes"] []
  g_law_refuses : mg "_law_refuses" = some (.ref f_law_refuses)
  f_law_one : Addr
  d_law_one : FuncData
  F_law_one : Fun K "_law_one" "_law_one" sLone f_law_one d_law_one
  b_law_one : Binds K d_law_one ["_law_length_here", "_law_begin_here", "_law_minutes"] []
  g_law_one : mg "_law_one" = some (.ref f_law_one)
  f_law_row : Addr
  d_law_row : FuncData
  F_law_row : Fun K "_law_row" "_law_row" sLrow f_law_row d_law_row
  b_law_row : Binds K d_law_row ["_law_length_here", "_law_begin_here", "_law_stretches"] []
  g_law_row : mg "_law_row" = some (.ref f_law_row)
  flaw : Addr
  dlaw : FuncData
  Flaw : Fun K "law" "law" sLaw flaw dlaw
  blaw : Binds K dlaw ["_law_script"] []
  glaw : mg "law" = some (.ref flaw)
  C_DepotError : Addr
  g_DepotError : mg "DepotError" = some (.ref C_DepotError)
  C_BadLoad : Addr
  g_BadLoad : mg "BadLoad" = some (.ref C_BadLoad)
  ty_DepotError : PySem.W.typeIn K (.ref C_DepotError) = some (.type "type")
  bs_DepotError : PySem.W.subIn K (.ref C_DepotError) (.type "BaseException") = some true
  hd_DepotError : PySem.W.hasDictIn K C_DepotError = true
  ty_BadLoad : PySem.W.typeIn K (.ref C_BadLoad) = some (.type "type")
  bs_BadLoad : PySem.W.subIn K (.ref C_BadLoad) (.type "BaseException") = some true
  hd_BadLoad : PySem.W.hasDictIn K C_BadLoad = true
  kp_BadLoad : PySem.W.keepIn K (.ref C_BadLoad) = true
  ga_BadLoad : PySem.W.findIn K (.ref C_BadLoad) "__getattribute__" = some (some (.builtin "BaseException.__getattribute__"))
  gg_BadLoad : PySem.W.findIn K (.ref C_BadLoad) "__getattr__" = some none
  cl_BadLoad : PySem.W.findIn K (.ref C_BadLoad) "__class__" = some (some (.builtin "object.__class__"))
  mr_BadLoad : PySem.W.mroIn K C_BadLoad (.type "object") = some true
  sb_BadLoad_ValueError : PySem.W.subIn K (.ref C_BadLoad) (.type "ValueError") = some true
  sb_BadLoad_BadLoad : PySem.W.subIn K (.ref C_BadLoad) (.ref C_BadLoad) = some true
  sb_BadLoad_DepotError : PySem.W.subIn K (.ref C_BadLoad) (.ref C_DepotError) = some true
  xo_BadLoad : PySem.W.excIn K C_BadLoad [.type "ValueError", .type "Exception", .type "BaseException", .type "object"] "ValueError.__new__" = true
  sp_class : PySem.W.specialIn K (.builtin "object.__class__") "__get__" = some (some (.builtin "getset_descriptor.__get__"))
  tk_class : PySem.W.takesIn K (.builtin "object.__class__") = some true
  ic_Load : PySem.W.findIn K (.ref C_Load) "__class__" = some (some (.builtin "object.__class__"))
  mr_Load : PySem.W.mroIn K C_Load (.type "object") = some true
  ity_Load : PySem.W.typeIn K (.ref C_Load) = some (.type "type")
  isb_Load : PySem.W.subIn K (.ref C_Load) (.ref C_Load) = some true
  ihd_Load : PySem.W.hasDictIn K C_Load = true
  sf_Load : PySem.W.selfFirst K C_Load = true
  si_Load : PySem.W.subIn K (.type "int") (.ref C_Load) = some false
  ti__add : PySem.W.findIn K (.type "int") "__add__" = some (some (.builtin "int.__add__"))
  ti__radd : PySem.W.findIn K (.type "int") "__radd__" = some (some (.builtin "int.__radd__"))
  nr_Load_add : PySem.W.findIn K (.ref C_Load) "__radd__" = some none
  ti__sub : PySem.W.findIn K (.type "int") "__sub__" = some (some (.builtin "int.__sub__"))
  ti__rsub : PySem.W.findIn K (.type "int") "__rsub__" = some (some (.builtin "int.__rsub__"))
  nr_Load_sub : PySem.W.findIn K (.ref C_Load) "__rsub__" = some none
  ti__or : PySem.W.findIn K (.type "int") "__or__" = some (some (.builtin "int.__or__"))
  ti__ror : PySem.W.findIn K (.type "int") "__ror__" = some (some (.builtin "int.__ror__"))
  nr_Load_or : PySem.W.findIn K (.ref C_Load) "__ror__" = some none
  ti__and : PySem.W.findIn K (.type "int") "__and__" = some (some (.builtin "int.__and__"))
  ti__rand : PySem.W.findIn K (.type "int") "__rand__" = some (some (.builtin "int.__rand__"))
  nr_Load_and : PySem.W.findIn K (.ref C_Load) "__rand__" = some none
  ti__xor : PySem.W.findIn K (.type "int") "__xor__" = some (some (.builtin "int.__xor__"))
  ti__rxor : PySem.W.findIn K (.type "int") "__rxor__" = some (some (.builtin "int.__rxor__"))
  nr_Load_xor : PySem.W.findIn K (.ref C_Load) "__rxor__" = some none
  ti__mul : PySem.W.findIn K (.type "int") "__mul__" = some (some (.builtin "int.__mul__"))
  ti__rmul : PySem.W.findIn K (.type "int") "__rmul__" = some (some (.builtin "int.__rmul__"))
  ti__floordiv : PySem.W.findIn K (.type "int") "__floordiv__" = some (some (.builtin "int.__floordiv__"))
  ti__rfloordiv : PySem.W.findIn K (.type "int") "__rfloordiv__" = some (some (.builtin "int.__rfloordiv__"))
  nr_Load_floordiv : PySem.W.findIn K (.ref C_Load) "__rfloordiv__" = some none
  ti__mod : PySem.W.findIn K (.type "int") "__mod__" = some (some (.builtin "int.__mod__"))
  ti__rmod : PySem.W.findIn K (.type "int") "__rmod__" = some (some (.builtin "int.__rmod__"))
  nr_Load_mod : PySem.W.findIn K (.ref C_Load) "__rmod__" = some none
  ti__lshift : PySem.W.findIn K (.type "int") "__lshift__" = some (some (.builtin "int.__lshift__"))
  ti__rlshift : PySem.W.findIn K (.type "int") "__rlshift__" = some (some (.builtin "int.__rlshift__"))
  nr_Load_lshift : PySem.W.findIn K (.ref C_Load) "__rlshift__" = some none
  ti__rshift : PySem.W.findIn K (.type "int") "__rshift__" = some (some (.builtin "int.__rshift__"))
  ti__rrshift : PySem.W.findIn K (.type "int") "__rrshift__" = some (some (.builtin "int.__rrshift__"))
  nr_Load_rshift : PySem.W.findIn K (.ref C_Load) "__rrshift__" = some none
  rd_Load : PySem.W.readsIn K C_Load (.type "type") = true
  ga_Load : PySem.W.specialIn K (.ref C_Load) "__getattribute__" = some (some (.builtin "type.__getattribute__"))
end DD
namespace DD
open PySem PySem.Spec PyProof.Rows L2 KO SX RF
section
variable {P : Program} {w : World} {K : PySem.W.Frag} {mg : Str → Option Value} {base : Heap}
/-! ### cell, pool, take -/
def spCell (K : PySem.W.Frag) : Sp := fun vs H Q _ => ∃ (a : Addr) (ns : List Int) (k : Nat), vs = [.ref a, .int k] ∧ SqL K H a (ns.map V.int) ∧ ∀ i : Int, Q (.int i) H
theorem scCell : FnScope ["_law_script", "_law_k"] ["_law_script", "_law_k"] (defScope sLcell) := ⟨rfl, rfl, rfl, by decide +kernel, rfl, by decide +kernel, by decide +kernel⟩
theorem ok_cell (T : Tx K mg) : FnOk P w K mg base CX0 1 T.f_law_cell T.d_law_cell ["_law_script", "_law_k"] (spCell K) := by
  refine T.F_law_cell.ok scCell (fun vs H Q E h => ?_) (fun cdv A outer s H vs Q E hr h => ?_)
  · obtain ⟨a, ns, k, rfl, _⟩ := h
    rfl
  · obtain ⟨a, ns, k, rfl, hS, q⟩ := h
    refine ⟨_, pss_cons (ps_if (pt_cmpR op_lt (pv 1) (pe_callB call_len_seq (by rfl) T.z_len (by decide +kernel) (pa_cons (pv 0) pa_nil)) (nomark _)) (pss_one (ps_ret (pe_callB call_abs (by rfl) T.z_abs (by decide +kernel) (pa_cons (pe_ix ix_list (pv 0) (pv 1) (fun _ _ => rfl)) pa_nil)))) (pss_nil))
      (pss_one (ps_ret pe_int)), ?_⟩
    refine ⟨_, rfl, _, rfl, a, _, rfl, .inl hS, _, _, rfl, rfl, _, rfl, iteDs (fun h => ?_) (fun _ => q _)⟩
    have hk : k < ns.length := by
      rw [List.length_map] at h
      omega
    refine ⟨_, rfl, _, rfl, a, _, _, .int ns[k], rfl, rfl, hS, atI_nat (by rw [List.getElem?_map, List.getElem?_eq_getElem hk]; rfl), _, rfl, q _⟩
theorem scPool : FnScope ["_law_script", "_law_k", "_law_cell_here"] ["_law_script", "_law_k"] (defScope sLpool) := ⟨rfl, rfl, rfl, by decide +kernel, rfl, by decide +kernel, by decide +kernel⟩
theorem ok_pool (T : Tx K mg) : FnOk P w K mg base CX0 2 T.f_law_pool T.d_law_pool ["_law_script", "_law_k"] (spPool K) := by
  have G_law_cell := ok_cell (P := P) (w := w) (base := base) T
  refine T.F_law_pool.ok scPool (fun vs H Q E h => ?_) (fun cdv A outer s H vs Q E hr h => ?_)
  · obtain ⟨a, ns, k, rfl, _⟩ := h
    rfl
  · obtain ⟨a, ns, k, rfl, hS, hk, q⟩ := h
    refine ⟨_, pss_cons (ps_set (i := 2) scPool.nd rfl (.inl rfl) (pe_call G_law_cell hr (by rfl) T.g_law_cell T.F_law_cell.kp T.b_law_cell .nil pass0 (pa_cons (pv 0) (pa_cons (pv 1) pa_nil))))
      (pss_one (ps_ret (pe_lst (pa_cons (pv 2) (pa_cons (pe_callTy call_int1 (by rfl) T.z_int (by decide +kernel) (pa_cons (pe_cmpR op_ge (pv 2) (pe_op op_pow pe_int pe_int) (nomark _)) pa_nil)) (pa_cons (pe_op op_mul pe_int (pv 1)) pa_nil)))))), ?_⟩
    refine ⟨_, rfl, _, rfl, a, ns, k, rfl, hS, fun i => ?_⟩
    refine ⟨_, rfl, _, rfl, _, _, rfl, rfl, ⟨by decide, by decide, by decide⟩, _, _, rfl, rfl, .inr ⟨_, rfl, _, rfl, _, _, rfl, rfl, .inl ⟨by decide, by decide⟩, (by show 3 ≤ sizeLine; decide), fun p hp => ?_⟩⟩
    exact q _ p hp (same_upd hp) ⟨_, _, _, upd_same⟩
theorem scTake : FnScope ["_law_pool_here", "_law_many", "_law_drawn", "_law_mixed"] ["_law_pool_here", "_law_many"] (defScope sLtake) := ⟨rfl, rfl, rfl, by decide +kernel, rfl, by decide +kernel, by decide +kernel⟩
theorem mulOk {i j : Int} (h : 0 ≤ j) (h2 : j < 1000000) : CMul i j := .inr ⟨by omega, by omega⟩
/-- a remainder as a letter -/
theorem rmod {i j : Int} {R : Int → Prop} (hj : 0 < j) (q : ∀ r : Int, 0 ≤ r → r < j → R r) : ∃ r : Int, i % j = r ∧ 0 ≤ r ∧ r < j ∧ R r :=
  ⟨i % j, rfl, Int.emod_nonneg _ (by omega), Int.emod_lt_of_pos _ hj, q _ (Int.emod_nonneg _ (by omega)) (Int.emod_lt_of_pos _ hj)⟩
theorem emod_b (i : Int) {j : Int} (hj : 0 < j) : 0 ≤ i % j ∧ i % j < j := ⟨Int.emod_nonneg _ (by omega), Int.emod_lt_of_pos _ hj⟩
theorem ok_take (T : Tx K mg) : FnOk P w K mg base CX0 1 T.f_law_take T.d_law_take ["_law_pool_here", "_law_many"] spTake := by
  refine T.F_law_take.ok scTake (fun vs H Q E h => ?_) (fun cdv A outer s H vs Q E hr h => ?_)
  · obtain ⟨p, m, rfl, _⟩ := h
    rfl
  · obtain ⟨p, m, rfl, ⟨x, f, c, hp⟩, hm, hm2, q⟩ := h
    refine ⟨_, pss_cons (ps_if (PW.pt (pw_and (pt_cmpR op_eq (pe_ix ix_list (pv 0) pe_int (fun _ _ => rfl)) pe_int (nomark _)) (pw_and1 (pt_cmpR op_gt (pe_ix ix_list (pv 0) pe_int (fun _ _ => rfl)) pe_int (nomark _))))) (pss_cons (ps_set (i := 2) scTake.nd rfl (.inl rfl) (pe_op op_mod (pe_callTy call_int1 (by rfl) T.z_int (by decide +kernel) (pa_cons (pe_ix ix_list (pv 0) pe_int (fun _ _ => rfl)) pa_nil)) (pv 1)))
      (pss_cons (ps_asg (pe_op op_fdivW (pe_ix ix_list (pv 0) pe_int (fun _ _ => rfl)) (pv 1)) (pg_sub (pv 0) pe_int set_list))
      (pss_one (ps_ret (pv 2))))) (pss_nil))
      (pss_cons (ps_asg (pe_op op_add (pe_ix ix_list (pv 0) pe_int (fun _ _ => rfl)) pe_int) (pg_sub (pv 0) pe_int set_list))
      (pss_cons (ps_set (i := 3) scTake.nd rfl (.inl rfl) (pe_op op_mod (pe_callTy call_int1 (by rfl) T.z_int (by decide +kernel) (pa_cons (pe_op op_add (pe_op op_mul (pe_op op_add (pe_ix ix_list (pv 0) pe_int (fun _ _ => rfl)) pe_int) pe_int) (pe_op op_mul (pe_ix ix_list (pv 0) pe_int (fun _ _ => rfl)) pe_int)) pa_nil)) pe_int))
      (pss_cons (ps_set (i := 3) scTake.nd rfl (.inl rfl) (pe_op op_mod (pe_callTy call_int1 (by rfl) T.z_int (by decide +kernel) (pa_cons (pe_op op_add (pe_op op_mul (pv 3) pe_int) (pe_op op_mul (pe_ix ix_list (pv 0) pe_int (fun _ _ => rfl)) pe_int)) pa_nil)) pe_int))
      (pss_cons (ps_if (pt_cmpR op_gt (pe_ix ix_list (pv 0) pe_int (fun _ _ => rfl)) pe_int (nomark _)) (pss_one (ps_set (i := 3) scTake.nd rfl (.inl rfl) (pe_op op_mod (pe_callTy call_int1 (by rfl) T.z_int (by decide +kernel) (pa_cons (pe_op op_mul (pe_op op_fdiv (pv 3) pe_int) (pe_op op_add (pe_op op_add (pe_op op_fdiv (pv 3) pe_int) (pe_ix ix_list (pv 0) pe_int (fun _ _ => rfl))) pe_int)) pa_nil)) pe_int))) (pss_nil))
      (pss_one (ps_ret (pe_op op_mod (pe_callTy call_int1 (by rfl) T.z_int (by decide +kernel) (pa_cons (pe_op op_fdiv (pv 3) pe_int) pa_nil)) (pv 1)))))))), ?_⟩
    have hL := SqL.of (K := K) hp
    -- pool[1] == 1 and pool[0] > 1
    refine ⟨_, rfl, p, _, _, _, rfl, rfl, hL, rfl, rfl, _, rfl, ?_⟩
    refine iteDs (fun h1 => ⟨_, rfl, p, _, _, _, rfl, rfl, hL, rfl, _, _, rfl, rfl, _, rfl, iteDs (fun h2 => ?c) (fun _ => ?t1)⟩) (fun _ => ?t2)
    case c =>
      refine ⟨_, rfl, p, _, _, _, rfl, rfl, hL, rfl, .inl ⟨_, rfl, _, rfl, _, _, rfl, rfl, hm, ?_⟩⟩
      have hb := emod_b x hm
      refine ⟨_, rfl, p, _, _, _, rfl, rfl, hL, rfl, _, rfl, _, _, rfl, rfl, wide_div (b := 60) hm (by omega) (by decide) (by decide), _, rfl, p, _, _, _, rfl, rfl, hp, rfl, ?_⟩
      exact ⟨_, rfl, q _ _ hb.1 hb.2 ⟨But.put, _, _, _, upd_same⟩⟩
    all_goals
      refine ⟨_, rfl, p, _, _, _, rfl, rfl, hL, rfl, _, _, rfl, rfl, _, rfl, p, _, _, _, rfl, rfl, hp, rfl, ?_⟩
      have hp1 : (upd H p (.lst (([.int x, .int f, .int c] : List V).set 2 (.int (c + 1))))) p = some (.lst [.int x, .int f, .int (c + 1)]) := upd_same
      have hL1 := SqL.of (K := K) hp1
      refine ⟨_, rfl, p, _, _, _, rfl, rfl, hL1, rfl, _, _, rfl, rfl, _, _, rfl, rfl, mulOk (by decide) (by decide), _, rfl, p, _, _, _, rfl, rfl, hL1, rfl, _, _, rfl, rfl, mulOk (by decide) (by decide), _, _, rfl, rfl, .inl ⟨_, rfl, _, _, rfl, rfl, (show (0 : Int) < 2147483629 by decide), ?_⟩⟩
      refine ⟨_, rfl, _, _, rfl, rfl, mulOk (by decide) (by decide), _, rfl, p, _, _, _, rfl, rfl, hL1, rfl, _, _, rfl, rfl, mulOk (by decide) (by decide), _, _, rfl, rfl, .inl ⟨_, rfl, _, _, rfl, rfl, (show (0 : Int) < 2147483587 by decide), ?_⟩⟩
      refine ⟨_, rfl, p, _, _, _, rfl, rfl, hL1, rfl, _, _, rfl, rfl, _, rfl, iteDs (fun _ => ?_) (fun _ => ?_)⟩
      · refine ⟨_, rfl, _, _, rfl, rfl, ⟨by decide, by decide⟩, _, rfl, _, _, rfl, rfl, ⟨by decide, by decide⟩, _, rfl, p, _, _, _, rfl, rfl, hL1, rfl, _, _, rfl, rfl, _, _, rfl, rfl, _, _, rfl, rfl, .inl ⟨by omega, by omega⟩, .inl ⟨_, rfl, _, _, rfl, rfl, (show (0 : Int) < 2147483563 by decide), ?_⟩⟩
        refine ⟨_, rfl, _, _, rfl, rfl, ⟨by decide, by decide⟩, .inl ⟨_, rfl, _, rfl, _, _, rfl, rfl, hm, ?_⟩⟩
        exact q _ _ (emod_b _ hm).1 (emod_b _ hm).2 ⟨But.put, _, _, _, hp1⟩
      · refine ⟨_, rfl, _, _, rfl, rfl, ⟨by decide, by decide⟩, .inl ⟨_, rfl, _, rfl, _, _, rfl, rfl, hm, ?_⟩⟩
        exact q _ _ (emod_b _ hm).1 (emod_b _ hm).2 ⟨But.put, _, _, _, hp1⟩
end
end DD
namespace DD
open PySem PySem.Spec PyProof.Rows L2 KO SX RF
section
variable {P : Program} {w : World} {K : PySem.W.Frag} {mg : Str → Option Value} {base : Heap}
def spSame (n : Nat) : Sp := fun vs H Q _ => ∃ (u v : V) (d : PyData), vs = [u, v] ∧ Dt n H u d ∧ Dt n H v d ∧ Q (.bl true) H
theorem scSame : FnScope ["_law_got", "_law_due", "_law_k"] ["_law_got", "_law_due"] (defScope sLsame) := ⟨rfl, rfl, rfl, by decide +kernel, rfl, by decide +kernel, by decide +kernel⟩
theorem ok_same (T : Tx K mg) : ∀ n : Nat, FnOk P w K mg base CX0 n T.f_law_same T.d_law_same ["_law_got", "_law_due"] (spSame n)
  | 0 => ⟨fun vs H Q E ⟨u, v, d, _, h, _⟩ => h.elim, fun A outer s H args us vs Q E _ _ _ _ ⟨u, v, d, _, h, _⟩ => h.elim⟩
  | n + 1 => by
    have G_law_same := ok_same T n
    refine T.F_law_same.ok scSame (fun vs H Q E h => ?_) (fun cdv A outer s H vs Q E hr h => ?_)
    · obtain ⟨u, v, d, rfl, _⟩ := h
      rfl
    · obtain ⟨u, v, d, rfl, hR, hR2, q⟩ := h
      cases d with
      | dict kv => exact hR.elim
      | bool i =>
        obtain rfl : u = _ := hR
        obtain rfl : v = _ := hR2
        refine ⟨_, pss_cons (ps_if (PW.pt (pw_or (pt_val (pe_callB call_isi (by rfl) T.z_isinstance (by decide +kernel) (pa_cons (pv 0) (pa_cons (pe_bltn (v := .ty "bool") (by rfl) T.z_bool (by decide +kernel) rfl) pa_nil)))) (pw_or1 (pt_val (pe_callB call_isi (by rfl) T.z_isinstance (by decide +kernel) (pa_cons (pv 1) (pa_cons (pe_bltn (v := .ty "bool") (by rfl) T.z_bool (by decide +kernel) rfl) pa_nil))))))) (pss_one (ps_ret (pe_and (pe_callB call_isi (by rfl) T.z_isinstance (by decide +kernel) (pa_cons (pv 0) (pa_cons (pe_bltn (v := .ty "bool") (by rfl) T.z_bool (by decide +kernel) rfl) pa_nil))) (pe_and (pe_callB call_isi (by rfl) T.z_isinstance (by decide +kernel) (pa_cons (pv 1) (pa_cons (pe_bltn (v := .ty "bool") (by rfl) T.z_bool (by decide +kernel) rfl) pa_nil))) (pe_one (pe_cmpR op_eq (pv 0) (pv 1) (nomark _))))))) (pss_nil)) (pss_cons ps_never (pss_cons ps_never (pss_cons ps_never (pss_cons ps_never (pss_cons ps_never (pss_cons ps_never (pss_cons ps_never (pss_one ps_never)))))))), ?_⟩
        refine ⟨_, rfl, _, _, _, _, _, rfl, .ty _, (.base (.bl i)), kit_ty (by decide +kernel), ⟨_, rfl, iteT (iteT ?_)⟩⟩
        refine ⟨_, rfl, _, _, _, _, _, rfl, .ty _, (.base (.bl i)), kit_ty (by decide +kernel), ⟨_, rfl, iteT ⟨_, rfl, _, _, _, _, _, rfl, .ty _, (.base (.bl i)), kit_ty (by decide +kernel), ⟨_, rfl, iteT ⟨_, rfl, _, rfl, rfl, ?_⟩⟩⟩⟩⟩
        rw [decide_eq_true rfl]
        exact q
      | none =>
        obtain rfl : u = _ := hR
        obtain rfl : v = _ := hR2
        refine ⟨_, pss_cons (ps_if (PW.pt (pw_or (pt_val (pe_callB call_isi (by rfl) T.z_isinstance (by decide +kernel) (pa_cons (pv 0) (pa_cons (pe_bltn (v := .ty "bool") (by rfl) T.z_bool (by decide +kernel) rfl) pa_nil)))) (pw_or1 (pt_val (pe_callB call_isi (by rfl) T.z_isinstance (by decide +kernel) (pa_cons (pv 1) (pa_cons (pe_bltn (v := .ty "bool") (by rfl) T.z_bool (by decide +kernel) rfl) pa_nil))))))) (pss_one ps_never) (pss_nil))
          (pss_cons (ps_if (PW.pt (pw_or (pt_cmpR op_isN (pv 0) pe_non (nomark _)) (pw_or1 (pt_cmpR op_isN (pv 1) pe_non (nomark _))))) (pss_one (ps_ret (pe_and (pe_cmpR op_isN (pv 0) pe_non (nomark _)) (pe_one (pe_cmpR op_isN (pv 1) pe_non (nomark _)))))) (pss_nil)) (pss_cons ps_never (pss_cons ps_never (pss_cons ps_never (pss_cons ps_never (pss_cons ps_never (pss_cons ps_never (pss_one ps_never)))))))), ?_⟩
        refine ⟨_, rfl, _, _, _, _, _, rfl, .ty _, (.base .non), kit_ty (by decide +kernel), ⟨_, rfl, iteF ⟨_, rfl, _, _, _, _, _, rfl, .ty _, (.base .non), kit_ty (by decide +kernel), ⟨_, rfl, iteF ?_⟩⟩⟩⟩
        refine ⟨_, rfl, rfl, _, rfl, iteDT rfl (iteT ?_)⟩
        refine ⟨_, rfl, rfl, _, rfl, iteDT rfl ?_⟩
        refine ⟨_, rfl, rfl, ?_⟩
        rw [decide_eq_true rfl]
        exact q
      | str i =>
        obtain rfl : u = _ := hR
        obtain rfl : v = _ := hR2
        refine ⟨_, pss_cons (ps_if (PW.pt (pw_or (pt_val (pe_callB call_isi (by rfl) T.z_isinstance (by decide +kernel) (pa_cons (pv 0) (pa_cons (pe_bltn (v := .ty "bool") (by rfl) T.z_bool (by decide +kernel) rfl) pa_nil)))) (pw_or1 (pt_val (pe_callB call_isi (by rfl) T.z_isinstance (by decide +kernel) (pa_cons (pv 1) (pa_cons (pe_bltn (v := .ty "bool") (by rfl) T.z_bool (by decide +kernel) rfl) pa_nil))))))) (pss_one ps_never) (pss_nil))
          (pss_cons (ps_if (PW.pt (pw_or (pt_cmpR op_isN (pv 0) pe_non (nomark _)) (pw_or1 (pt_cmpR op_isN (pv 1) pe_non (nomark _))))) (pss_one ps_never) (pss_nil))
          (pss_cons (ps_if (pt_val (pe_callB call_isi (by rfl) T.z_isinstance (by decide +kernel) (pa_cons (pv 1) (pa_cons (pe_bltn (v := .ty "int") (by rfl) T.z_int (by decide +kernel) rfl) pa_nil)))) (pss_one ps_never) (pss_nil))
          (pss_cons (ps_if (pt_val (pe_callB call_isi (by rfl) T.z_isinstance (by decide +kernel) (pa_cons (pv 1) (pa_cons (pe_bltn (v := .ty "str") (by rfl) T.z_str (by decide +kernel) rfl) pa_nil)))) (pss_one (ps_ret (pe_and (pe_callB call_isi (by rfl) T.z_isinstance (by decide +kernel) (pa_cons (pv 0) (pa_cons (pe_bltn (v := .ty "str") (by rfl) T.z_str (by decide +kernel) rfl) pa_nil))) (pe_one (pe_cmpR op_eq (pv 0) (pv 1) (nomark _)))))) (pss_nil)) (pss_cons ps_never (pss_cons ps_never (pss_cons ps_never (pss_cons ps_never (pss_one ps_never)))))))), ?_⟩
        refine ⟨_, rfl, _, _, _, _, _, rfl, .ty _, (.base (.str i)), kit_ty (by decide +kernel), ⟨_, rfl, iteF ⟨_, rfl, _, _, _, _, _, rfl, .ty _, (.base (.str i)), kit_ty (by decide +kernel), ⟨_, rfl, iteF ?_⟩⟩⟩⟩
        refine ⟨_, rfl, rfl, _, rfl, iteD (by intro z; cases z) ⟨_, rfl, rfl, _, rfl, iteD (by intro z; cases z) ?_⟩⟩
        refine ⟨_, rfl, _, _, _, _, _, rfl, .ty _, (.base (.str i)), kit_ty (by decide +kernel), ⟨_, rfl, iteF ?_⟩⟩
        refine ⟨_, rfl, _, _, _, _, _, rfl, .ty _, (.base (.str i)), kit_ty (by decide +kernel), ⟨_, rfl, iteT ⟨_, rfl, _, _, _, _, _, rfl, .ty _, (.base (.str i)), kit_ty (by decide +kernel), ⟨_, rfl, iteT ⟨_, rfl, _, rfl, rfl, ?_⟩⟩⟩⟩⟩
        rw [decide_eq_true rfl]
        exact q
      | int i =>
        obtain rfl : u = _ := hR
        obtain rfl : v = _ := hR2
        refine ⟨_, pss_cons (ps_if (PW.pt (pw_or (pt_val (pe_callB call_isi (by rfl) T.z_isinstance (by decide +kernel) (pa_cons (pv 0) (pa_cons (pe_bltn (v := .ty "bool") (by rfl) T.z_bool (by decide +kernel) rfl) pa_nil)))) (pw_or1 (pt_val (pe_callB call_isi (by rfl) T.z_isinstance (by decide +kernel) (pa_cons (pv 1) (pa_cons (pe_bltn (v := .ty "bool") (by rfl) T.z_bool (by decide +kernel) rfl) pa_nil))))))) (pss_one ps_never) (pss_nil))
          (pss_cons (ps_if (PW.pt (pw_or (pt_cmpR op_isN (pv 0) pe_non (nomark _)) (pw_or1 (pt_cmpR op_isN (pv 1) pe_non (nomark _))))) (pss_one ps_never) (pss_nil))
          (pss_cons (ps_if (pt_val (pe_callB call_isi (by rfl) T.z_isinstance (by decide +kernel) (pa_cons (pv 1) (pa_cons (pe_bltn (v := .ty "int") (by rfl) T.z_int (by decide +kernel) rfl) pa_nil)))) (pss_one (ps_ret (pe_and (pe_callB call_isi (by rfl) T.z_isinstance (by decide +kernel) (pa_cons (pv 0) (pa_cons (pe_bltn (v := .ty "int") (by rfl) T.z_int (by decide +kernel) rfl) pa_nil))) (pe_one (pe_cmpR op_eq (pv 0) (pv 1) (nomark _)))))) (pss_nil))
          (pss_cons ps_never (pss_cons ps_never (pss_cons ps_never (pss_cons ps_never (pss_cons ps_never (pss_one ps_never)))))))), ?_⟩
        refine ⟨_, rfl, _, _, _, _, _, rfl, .ty _, (.base (.int i)), kit_ty (by decide +kernel), ⟨_, rfl, iteF ⟨_, rfl, _, _, _, _, _, rfl, .ty _, (.base (.int i)), kit_ty (by decide +kernel), ⟨_, rfl, iteF ?_⟩⟩⟩⟩
        refine ⟨_, rfl, rfl, _, rfl, iteD (by intro z; cases z) ⟨_, rfl, rfl, _, rfl, iteD (by intro z; cases z) ?_⟩⟩
        refine ⟨_, rfl, _, _, _, _, _, rfl, .ty _, (.base (.int i)), kit_ty (by decide +kernel), ⟨_, rfl, iteT ⟨_, rfl, _, _, _, _, _, rfl, .ty _, (.base (.int i)), kit_ty (by decide +kernel), ⟨_, rfl, iteT ⟨_, rfl, _, rfl, rfl, ?_⟩⟩⟩⟩⟩
        rw [decide_eq_true rfl]
        exact q
      | list ds =>
        obtain ⟨a, xs, rfl, h1, hl1, hz, r1⟩ := hR
        obtain ⟨b, ys, rfl, h2, hl2, _, r2⟩ := hR2
        refine ⟨_, pss_cons (ps_if (PW.pt (pw_or (pt_val (pe_callB call_isi (by rfl) T.z_isinstance (by decide +kernel) (pa_cons (pv 0) (pa_cons (pe_bltn (v := .ty "bool") (by rfl) T.z_bool (by decide +kernel) rfl) pa_nil)))) (pw_or1 (pt_val (pe_callB call_isi (by rfl) T.z_isinstance (by decide +kernel) (pa_cons (pv 1) (pa_cons (pe_bltn (v := .ty "bool") (by rfl) T.z_bool (by decide +kernel) rfl) pa_nil))))))) (pss_one ps_never) (pss_nil))
          (pss_cons (ps_if (PW.pt (pw_or (pt_cmpR op_isN (pv 0) pe_non (nomark _)) (pw_or1 (pt_cmpR op_isN (pv 1) pe_non (nomark _))))) (pss_one ps_never) (pss_nil))
          (pss_cons (ps_if (pt_val (pe_callB call_isi (by rfl) T.z_isinstance (by decide +kernel) (pa_cons (pv 1) (pa_cons (pe_bltn (v := .ty "int") (by rfl) T.z_int (by decide +kernel) rfl) pa_nil)))) (pss_one ps_never) (pss_nil))
          (pss_cons (ps_if (pt_val (pe_callB call_isi (by rfl) T.z_isinstance (by decide +kernel) (pa_cons (pv 1) (pa_cons (pe_bltn (v := .ty "str") (by rfl) T.z_str (by decide +kernel) rfl) pa_nil)))) (pss_one ps_never) (pss_nil))
          (pss_cons (ps_if (PW.pt (pw_and (pt_val (pe_callB call_isi (by rfl) T.z_isinstance (by decide +kernel) (pa_cons (pv 1) (pa_cons (pe_bltn (v := .ty "list") (by rfl) T.z_list (by decide +kernel) rfl) pa_nil)))) (pw_and1 (pt_not (pt_val (pe_callB call_isi (by rfl) T.z_isinstance (by decide +kernel) (pa_cons (pv 0) (pa_cons (pe_bltn (v := .ty "list") (by rfl) T.z_list (by decide +kernel) rfl) pa_nil)))))))) (pss_one ps_never) (pss_nil))
          (pss_cons (ps_if (PW.pt (pw_and (pt_val (pe_callB call_isi (by rfl) T.z_isinstance (by decide +kernel) (pa_cons (pv 1) (pa_cons (pe_bltn (v := .ty "tuple") (by rfl) T.z_tuple (by decide +kernel) rfl) pa_nil)))) (pw_and1 (pt_not (pt_val (pe_callB call_isi (by rfl) T.z_isinstance (by decide +kernel) (pa_cons (pv 0) (pa_cons (pe_bltn (v := .ty "tuple") (by rfl) T.z_tuple (by decide +kernel) rfl) pa_nil)))))))) (pss_one ps_never) (pss_nil))
          (pss_cons (ps_if (pt_cmpR op_ne (pe_callB call_len_seq (by rfl) T.z_len (by decide +kernel) (pa_cons (pv 0) pa_nil)) (pe_callB call_len_seq (by rfl) T.z_len (by decide +kernel) (pa_cons (pv 1) pa_nil)) (nomark _)) (pss_one ps_never) (pss_nil))
          (pss_cons (ps_for PassesOwn.never rfl (pi_range1 (by rfl) T.z_range (pa_cons (pe_callB call_len_seq (by rfl) T.z_len (by decide +kernel) (pa_cons (pv 1) pa_nil)) pa_nil)) (pg_name (i := 2) scSame.nd rfl (.inl rfl))
            (pss_one (ps_if (pt_not (pt_val (pe_call G_law_same hr (by rfl) T.g_law_same T.F_law_same.kp T.b_law_same .nil pass0 (pa_cons (pe_ix ix_seq (pv 0) (pv 2) (fun _ _ => rfl)) (pa_cons (pe_ix ix_seq (pv 1) (pv 2) (fun _ _ => rfl)) pa_nil))))) (pss_one ps_never) (pss_nil))))
          (pss_one (ps_ret pe_bl))))))))), ?_⟩
        have ta : TyX K H (.ref a) (.type "list") := .base (.lst h1)
        have tb : TyX K H (.ref b) (.type "list") := .base (.lst h2)
        refine ⟨_, rfl, _, _, _, _, _, rfl, .ty _, ta, kit_ty (by decide +kernel), ⟨_, rfl, iteF ⟨_, rfl, _, _, _, _, _, rfl, .ty _, tb, kit_ty (by decide +kernel), ⟨_, rfl, iteF ?_⟩⟩⟩⟩
        refine ⟨_, rfl, rfl, _, rfl, iteD (by intro z; cases z) ⟨_, rfl, rfl, _, rfl, iteD (by intro z; cases z) ?_⟩⟩
        refine ⟨_, rfl, _, _, _, _, _, rfl, .ty _, tb, kit_ty (by decide +kernel), ⟨_, rfl, iteF ⟨_, rfl, _, _, _, _, _, rfl, .ty _, tb, kit_ty (by decide +kernel), ⟨_, rfl, iteF ?_⟩⟩⟩⟩
        refine ⟨_, rfl, _, _, _, _, _, rfl, .ty _, tb, kit_ty (by decide +kernel), _, rfl, iteT ⟨_, rfl, _, _, _, _, _, rfl, .ty _, ta, kit_ty (r := true) (by decide +kernel), _, rfl, iteF ?_⟩⟩
        refine ⟨_, rfl, _, _, _, _, _, rfl, .ty _, tb, kit_ty (by decide +kernel), _, rfl, iteF (iteF ?_)⟩
        refine ⟨_, rfl, a, _, rfl, .inl (SqL.of h1), _, rfl, b, _, rfl, .inl (SqL.of h2), rfl, _, rfl, iteND (by rw [hl1, hl2]) ?_⟩
        refine ⟨_, rfl, b, _, rfl, .inl (SqL.of h2), _, rfl, by omega, by omega, for_range (lo := 0) (n := ys.length) (fun _ σ H' => (∃ v, σ = [some (.ref a), some (.ref b), v]) ∧ H' = H) ⟨⟨none, rfl⟩, rfl⟩ ?_ ?_⟩
        · rintro i σ H' hi ⟨⟨v, rfl⟩, rfl⟩
          have hx := List.getElem?_eq_getElem (l := xs) (i := i) (by omega)
          have hy := List.getElem?_eq_getElem (l := ys) (i := i) (by omega)
          have hd := List.getElem?_eq_getElem (l := ds) (i := i) (by omega)
          have e0 : (0 : Int) + (i : Int) = (i : Int) := by omega
          refine ⟨_, rfl, _, rfl, .inl ⟨a, xs, _, _, rfl, rfl, SqL.of h1, at_of' e0 hx, ?_⟩⟩
          refine ⟨_, rfl, _, rfl, .inl ⟨b, ys, _, _, rfl, rfl, SqL.of h2, at_of' e0 hy, ?_⟩⟩
          exact ⟨_, _, _, rfl, r1 i _ _ hx hd, r2 i _ _ hy hd, _, rfl, iteF ⟨⟨_, rfl⟩, rfl⟩⟩
        · rintro σ H' ⟨⟨v, rfl⟩, rfl⟩
          exact q
      | tuple ds =>
        obtain ⟨a, xs, rfl, h1, hl1, hz, r1⟩ := hR
        obtain ⟨b, ys, rfl, h2, hl2, _, r2⟩ := hR2
        refine ⟨_, pss_cons (ps_if (PW.pt (pw_or (pt_val (pe_callB call_isi (by rfl) T.z_isinstance (by decide +kernel) (pa_cons (pv 0) (pa_cons (pe_bltn (v := .ty "bool") (by rfl) T.z_bool (by decide +kernel) rfl) pa_nil)))) (pw_or1 (pt_val (pe_callB call_isi (by rfl) T.z_isinstance (by decide +kernel) (pa_cons (pv 1) (pa_cons (pe_bltn (v := .ty "bool") (by rfl) T.z_bool (by decide +kernel) rfl) pa_nil))))))) (pss_one ps_never) (pss_nil))
          (pss_cons (ps_if (PW.pt (pw_or (pt_cmpR op_isN (pv 0) pe_non (nomark _)) (pw_or1 (pt_cmpR op_isN (pv 1) pe_non (nomark _))))) (pss_one ps_never) (pss_nil))
          (pss_cons (ps_if (pt_val (pe_callB call_isi (by rfl) T.z_isinstance (by decide +kernel) (pa_cons (pv 1) (pa_cons (pe_bltn (v := .ty "int") (by rfl) T.z_int (by decide +kernel) rfl) pa_nil)))) (pss_one ps_never) (pss_nil))
          (pss_cons (ps_if (pt_val (pe_callB call_isi (by rfl) T.z_isinstance (by decide +kernel) (pa_cons (pv 1) (pa_cons (pe_bltn (v := .ty "str") (by rfl) T.z_str (by decide +kernel) rfl) pa_nil)))) (pss_one ps_never) (pss_nil))
          (pss_cons (ps_if (PW.pt (pw_and (pt_val (pe_callB call_isi (by rfl) T.z_isinstance (by decide +kernel) (pa_cons (pv 1) (pa_cons (pe_bltn (v := .ty "list") (by rfl) T.z_list (by decide +kernel) rfl) pa_nil)))) (pw_and1 (pt_not (pt_val (pe_callB call_isi (by rfl) T.z_isinstance (by decide +kernel) (pa_cons (pv 0) (pa_cons (pe_bltn (v := .ty "list") (by rfl) T.z_list (by decide +kernel) rfl) pa_nil)))))))) (pss_one ps_never) (pss_nil))
          (pss_cons (ps_if (PW.pt (pw_and (pt_val (pe_callB call_isi (by rfl) T.z_isinstance (by decide +kernel) (pa_cons (pv 1) (pa_cons (pe_bltn (v := .ty "tuple") (by rfl) T.z_tuple (by decide +kernel) rfl) pa_nil)))) (pw_and1 (pt_not (pt_val (pe_callB call_isi (by rfl) T.z_isinstance (by decide +kernel) (pa_cons (pv 0) (pa_cons (pe_bltn (v := .ty "tuple") (by rfl) T.z_tuple (by decide +kernel) rfl) pa_nil)))))))) (pss_one ps_never) (pss_nil))
          (pss_cons (ps_if (pt_cmpR op_ne (pe_callB call_len_seq (by rfl) T.z_len (by decide +kernel) (pa_cons (pv 0) pa_nil)) (pe_callB call_len_seq (by rfl) T.z_len (by decide +kernel) (pa_cons (pv 1) pa_nil)) (nomark _)) (pss_one ps_never) (pss_nil))
          (pss_cons (ps_for PassesOwn.never rfl (pi_range1 (by rfl) T.z_range (pa_cons (pe_callB call_len_seq (by rfl) T.z_len (by decide +kernel) (pa_cons (pv 1) pa_nil)) pa_nil)) (pg_name (i := 2) scSame.nd rfl (.inl rfl))
            (pss_one (ps_if (pt_not (pt_val (pe_call G_law_same hr (by rfl) T.g_law_same T.F_law_same.kp T.b_law_same .nil pass0 (pa_cons (pe_ix ix_seq (pv 0) (pv 2) (fun _ _ => rfl)) (pa_cons (pe_ix ix_seq (pv 1) (pv 2) (fun _ _ => rfl)) pa_nil))))) (pss_one ps_never) (pss_nil))))
          (pss_one (ps_ret pe_bl))))))))), ?_⟩
        have ta : TyX K H (.ref a) (.type "tuple") := tyx_tup h1
        have tb : TyX K H (.ref b) (.type "tuple") := tyx_tup h2
        refine ⟨_, rfl, _, _, _, _, _, rfl, .ty _, ta, kit_ty (by decide +kernel), ⟨_, rfl, iteF ⟨_, rfl, _, _, _, _, _, rfl, .ty _, tb, kit_ty (by decide +kernel), ⟨_, rfl, iteF ?_⟩⟩⟩⟩
        refine ⟨_, rfl, rfl, _, rfl, iteD (by intro z; cases z) ⟨_, rfl, rfl, _, rfl, iteD (by intro z; cases z) ?_⟩⟩
        refine ⟨_, rfl, _, _, _, _, _, rfl, .ty _, tb, kit_ty (by decide +kernel), ⟨_, rfl, iteF ⟨_, rfl, _, _, _, _, _, rfl, .ty _, tb, kit_ty (by decide +kernel), ⟨_, rfl, iteF ?_⟩⟩⟩⟩
        refine ⟨_, rfl, _, _, _, _, _, rfl, .ty _, tb, kit_ty (by decide +kernel), _, rfl, iteF (iteF ?_)⟩
        refine ⟨_, rfl, _, _, _, _, _, rfl, .ty _, tb, kit_ty (by decide +kernel), _, rfl, iteT ⟨_, rfl, _, _, _, _, _, rfl, .ty _, ta, kit_ty (r := true) (by decide +kernel), _, rfl, iteF ?_⟩⟩
        refine ⟨_, rfl, a, _, rfl, .inr (SqT.ofR h1), _, rfl, b, _, rfl, .inr (SqT.ofR h2), rfl, _, rfl, iteND (by rw [hl1, hl2]) ?_⟩
        refine ⟨_, rfl, b, _, rfl, .inr (SqT.ofR h2), _, rfl, by omega, by omega, for_range (lo := 0) (n := ys.length) (fun _ σ H' => (∃ v, σ = [some (.ref a), some (.ref b), v]) ∧ H' = H) ⟨⟨none, rfl⟩, rfl⟩ ?_ ?_⟩
        · rintro i σ H' hi ⟨⟨v, rfl⟩, rfl⟩
          have hx := List.getElem?_eq_getElem (l := xs) (i := i) (by omega)
          have hy := List.getElem?_eq_getElem (l := ys) (i := i) (by omega)
          have hd := List.getElem?_eq_getElem (l := ds) (i := i) (by omega)
          have e0 : (0 : Int) + (i : Int) = (i : Int) := by omega
          refine ⟨_, rfl, _, rfl, .inr (.inl ⟨a, xs, _, _, rfl, rfl, SqT.ofR h1, at_of' e0 hx, ?_⟩)⟩
          refine ⟨_, rfl, _, rfl, .inr (.inl ⟨b, ys, _, _, rfl, rfl, SqT.ofR h2, at_of' e0 hy, ?_⟩)⟩
          exact ⟨_, _, _, rfl, r1 i _ _ hx hd, r2 i _ _ hy hd, _, rfl, iteF ⟨⟨_, rfl⟩, rfl⟩⟩
        · rintro σ H' ⟨⟨v, rfl⟩, rfl⟩
          exact q
/-! ### as programs over data -/
theorem fn_same (T : Tx K mg) : FnOk P w K mg base (L2.CX P w) 8 T.f_law_same T.d_law_same ["_law_got", "_law_due"] (spR K mg (fun (_ : Unit) (z : PyData × PyData × Unit) => [.fz (rD z.1), .fz (rD z.2.1)]) (fun z => Mo.rq (z.1 = z.2.1) true) (.fz rB)) :=
  (ok_same T 8).cx.imp fun vs H Q E ⟨_, x, F, o, q⟩ => by
    obtain ⟨x, y, _⟩ := x
    obtain ⟨u, ⟨v, rfl, h2⟩, h1⟩ := args2 o
    have q : x = y ∧ _ := q
    obtain ⟨rfl, q⟩ := q
    exact ⟨u, v, x, rfl, Dt.mono o.le h1, Dt.mono o.le h2, q _ F H (Go.refl o.le) (fun i l a q h => by rcases i with _ | _ | i <;> simp at h) rfl⟩
theorem fn_take (T : Tx K mg) : FnOk P w K mg base (L2.CX P w) 1 T.f_law_take T.d_law_take ["_law_pool_here", "_law_many"] (spR K mg (fun (a : Addr) (z : Int × Unit) => [.ow false a oPool, .fz (rI z.1)]) (fun z => Mo.take z.1) (.fz rI)) :=
  (ok_take T).cx.imp fun vs H Q E h => take_sp h
theorem fn_pool (T : Tx K mg) : FnOk P w K mg base (L2.CX P w) 2 T.f_law_pool T.d_law_pool ["_law_script", "_law_k"] (spR K mg (fun (_ : Unit) (z : List Int × Int × Unit) => [.fz (rScr K z.1), .fz (rI z.2.1)]) (fun z => Mo.rq (0 ≤ z.2.1 ∧ z.2.1 ≤ 1000) ()) (.ow fun _ => oPool)) :=
  (ok_pool T).cx.imp fun vs H Q E h => pool_sp h
end
end DD
namespace DD
open PySem PySem.Spec PyProof.Rows L2 KO SX RF
section
variable {P : Program} {w : World} {K : PySem.W.Frag} {mg : Str → Option Value} {base : Heap}

section
variable {K : PySem.W.Frag} {mg : Str → Option Value}
theorem excC_BadLoad (T : Tx K mg) : ExcC K T.C_BadLoad := ⟨T.ga_BadLoad, T.gg_BadLoad, T.bs_BadLoad, T.hd_BadLoad, T.cl_BadLoad, T.sp_class, T.tk_class, T.mr_BadLoad⟩
theorem xfC_BadLoad (T : Tx K mg) : XfC K T.C_BadLoad := ⟨T.ga_BadLoad, T.gg_BadLoad, T.bs_BadLoad, T.hd_BadLoad⟩
theorem kit_BadLoad_VE (T : Tx K mg) : PySem.W.kitOne K (.ref T.C_BadLoad) (.type "ValueError") = some true := kit_oty (by decide +kernel) T.sb_BadLoad_ValueError
theorem exm_BadLoad_BadLoad (T : Tx K mg) : PySem.W.exmOne K (.ref T.C_BadLoad) (.ref T.C_BadLoad) = some true := PySem.W.exm_ref T.bs_BadLoad T.hd_BadLoad T.ty_BadLoad T.sb_BadLoad_BadLoad
theorem kit_BadLoad_BadLoad (T : Tx K mg) : PySem.W.kitOne K (.ref T.C_BadLoad) (.ref T.C_BadLoad) = some true := kit_ref T.sb_BadLoad_BadLoad T.sb_BadLoad_BadLoad T.hd_BadLoad T.ty_BadLoad
theorem exm_BadLoad_DepotError (T : Tx K mg) : PySem.W.exmOne K (.ref T.C_BadLoad) (.ref T.C_DepotError) = some true := PySem.W.exm_ref T.bs_DepotError T.hd_DepotError T.ty_DepotError T.sb_BadLoad_DepotError
theorem kit_BadLoad_DepotError (T : Tx K mg) : PySem.W.kitOne K (.ref T.C_BadLoad) (.ref T.C_DepotError) = some true := kit_ref T.sb_BadLoad_BadLoad T.sb_BadLoad_DepotError T.hd_DepotError T.ty_DepotError
theorem insC_Load (T : Tx K mg) : C8.InsC K T.C_Load := ⟨T.cl_Load, T.ic_Load, T.sp_class, T.tk_class, T.mr_Load, kit_ref T.isb_Load T.isb_Load T.ihd_Load T.ity_Load⟩
end

abbrev OLoad := (List Int)
def fsLoad (x : OLoad) : List (Str × Pr) := [("_counts", (rL rI) x)]
def rLoad (C_Load : Addr) (x : OLoad) : Pr := RF.rIn C_Load (fsLoad  x)
instance {C_Load : Addr} : FI (rLoad C_Load) := ⟨fun {x y v F} h k => by
  obtain ⟨gs, h, k⟩ := fi_in (fs := fsLoad ) h k
  obtain ⟨_, _, a0, b0, h, k⟩ := fs_two h k
  exact FI.inj a0 b0⟩
instance {C_Load : Addr} : ND (rLoad C_Load) := ⟨fun {x} {v F a vs} h k => nd_in (fs := fsLoad  x) (ndf1 (ndr _)) h k⟩
instance {C_Load : Addr} {x : OLoad} : NDP (oIn C_Load (fsLoad  x)) := ndp_in (ndf1 (ndr _))
instance {C_Load : Addr} : NN (rLoad C_Load) := ⟨fun x v F h => nn_in h⟩
end
end DD
namespace DD
open PySem PySem.Spec PyProof.Rows L2 KO SX RF
section
variable {P : Program} {w : World} {K : PySem.W.Frag} {mg : Str → Option Value} {base : Heap}
theorem scchecklength : FnScope ["length"] ["length"] (defScope schecklength) := ⟨rfl, rfl, rfl, by decide +kernel, rfl, by decide +kernel, by decide +kernel⟩
def P_checklength (length_ : Int) : Mo Unit :=
  ((((pure (1 : Int)) >>= fun i1 => (pure length_) >>= fun i2 => if (decide (i1 ≤ i2)) = true then ((pure 60) >>= fun i3 => pure (decide (i2 ≤ i3))) else pure false) >>= fun b4 => pure (!b4)) >>= fun c5 => if c5 = true then (pure ⟨"BadLoad", []⟩ >>= fun e => Mo.throw e) else (pure ()))
theorem fn_checklength (T : Tx K mg) : FnOk P w K mg base (L2.CX P w) 2 T.fcheck_length T.dcheck_length ["length"] (spR K mg (fun (c : Unit) (z : Int × Unit) => [.fz (rI z.1)]) (fun z => P_checklength z.1) (RK.fz rN)) := by
  refine fn_mk (Γe := fun c z => [.un]) (Γ0 := fun c z => [.fz (rI z.1)]) (Z := (fun c z _ => .nx [.un])) T.Fcheck_length scchecklength (fun _ _ => rfl) (fun _ _ => rfl) (fun _ _ => ⟨.inl rfl, trivial⟩) (fun _ _ _ _ _ _ h => (own_none rfl h).elim) (fun _ _ _ => .inr ⟨rfl, fun _ _ _ => rfl⟩) (fun cdv A outer s H E a0 y hr => ?_)
  obtain ⟨length_, _⟩ := y
  show RB _ _ ([.un] : RF.Ctx) false [.fz (rI length_)] _ (P_checklength length_) _
  exact (rb_if0 (rt_not (rt_chain i_le i_le re_int (re_var (ρ := rI) (x := length_) 0 rfl (pv 0)) (re_con (ρ := rI) (60 : Int) (pe_glob (v := .int 60) rfl T.c_MOST_LENGTH ⟨_, rfl⟩) (fun _ => rfl)))) (rb_raise (pmk_own0 PySem.F.excBase_ValueError T.xo_BadLoad T.g_BadLoad T.kp_BadLoad (raises_own T.bs_BadLoad T.ty_BadLoad) (by rfl)) (takes_of rfl rfl rfl rfl) (rx_0 T.g_BadLoad)) (rb_nil (x := ()) (.inl rfl) ⟨.inl rfl, trivial⟩))
end
end DD
namespace DD
open PySem PySem.Spec PyProof.Rows L2 KO SX RF
section
variable {P : Program} {w : World} {K : PySem.W.Frag} {mg : Str → Option Value} {base : Heap}
theorem sccheckleast : FnScope ["number", "least"] ["number", "least"] (defScope scheckleast) := ⟨rfl, rfl, rfl, by decide +kernel, rfl, by decide +kernel, by decide +kernel⟩
def P_checkleast (number_ : Int) (least_ : Int) : Mo Unit :=
  (((pure number_) >>= fun i1 => (pure least_) >>= fun j2 => pure (decide (i1 < j2))) >>= fun c3 => if c3 = true then (pure ⟨"BadLoad", []⟩ >>= fun e => Mo.throw e) else (pure ()))
theorem fn_checkleast (T : Tx K mg) : FnOk P w K mg base (L2.CX P w) 2 T.fcheck_least T.dcheck_least ["number", "least"] (spR K mg (fun (c : Unit) (z : Int × Int × Unit) => [.fz (rI z.1), .fz (rI z.2.1)]) (fun z => P_checkleast z.1 z.2.1) (RK.fz rN)) := by
  refine fn_mk (Γe := fun c z => [.un, .un]) (Γ0 := fun c z => [.fz (rI z.1), .fz (rI z.2.1)]) (Z := (fun c z _ => .nx [.un, .un])) T.Fcheck_least sccheckleast (fun _ _ => rfl) (fun _ _ => rfl) (fun _ _ => ⟨.inl rfl, .inl rfl, trivial⟩) (fun _ _ _ _ _ _ h => (own_none rfl h).elim) (fun _ _ _ => .inr ⟨rfl, fun _ _ _ => rfl⟩) (fun cdv A outer s H E a0 y hr => ?_)
  obtain ⟨number_, least_, _⟩ := y
  show RB _ _ ([.un, .un] : RF.Ctx) false [.fz (rI number_), .fz (rI least_)] _ (P_checkleast number_ least_) _
  exact (rb_if0 (rt_rc (rc_i i_lt (re_var (ρ := rI) (x := number_) 0 rfl (pv 0)) (re_var (ρ := rI) (x := least_) 1 rfl (pv 1)))) (rb_raise (pmk_own0 PySem.F.excBase_ValueError T.xo_BadLoad T.g_BadLoad T.kp_BadLoad (raises_own T.bs_BadLoad T.ty_BadLoad) (by rfl)) (takes_of rfl rfl rfl rfl) (rx_0 T.g_BadLoad)) (rb_nil (x := ()) (.inl rfl) ⟨.inl rfl, .inl rfl, trivial⟩))
end
end DD
namespace DD
open PySem PySem.Spec PyProof.Rows L2 KO SX RF
section
variable {P : Program} {w : World} {K : PySem.W.Frag} {mg : Str → Option Value} {base : Heap}
theorem scLoadLen : FnScope ["self"] ["self"] (defScope sLoadLen) := ⟨rfl, rfl, rfl, by decide +kernel, rfl, by decide +kernel, by decide +kernel⟩
def P_LoadLen (self_ : OLoad) : Mo Int :=
  ((((pure self_) >>= fun x2 => pure (x2)) >>= fun x3 => pure (x3.length : Int)) >>= fun r1 => pure r1)
theorem fn_LoadLen (T : Tx K mg) : FnOk P w K mg base (L2.CX P w) 2 T.fLoad_len T.dLoad_len ["self"] (spR K mg (fun (c : Unit) (z : OLoad × Unit) => [.fz ((rLoad T.C_Load) z.1)]) (fun z => P_LoadLen z.1) (RK.fz rI)) := by
  refine fn_mk (Γe := fun c z => [.un]) (Γ0 := fun c z => [.fz ((rLoad T.C_Load) z.1)]) (Z := (fun _ _ x => .ret ((RK.fz rI).ok x))) T.FLoad_len scLoadLen (fun _ _ => rfl) (fun _ _ => rfl) (fun _ _ => ⟨.inl rfl, trivial⟩) (fun _ _ _ _ _ _ h => (own_none rfl h).elim) (fun _ _ _ => .inl rfl) (fun cdv A outer s H E a0 y hr => ?_)
  obtain ⟨self_, _⟩ := y
  show RB _ _ ([.un] : RF.Ctx) false [.fz ((rLoad T.C_Load) self_)] _ (P_LoadLen self_) _
  exact (rb_ret (fun (r1 : Int) => r1) (re_len (rsq_L (re_fld (ρ' := (rL rI)) (g := fun (x : OLoad) => x) (fsLoad) (re_var (ρ := (rLoad T.C_Load)) (x := self_) 0 rfl (pv 0)) T.cl_Load T.na_Load__counts)) T.z_len) (fun _ => rfl))
end
end DD
namespace DD
open PySem PySem.Spec PyProof.Rows L2 KO SX RF
section
variable {P : Program} {w : World} {K : PySem.W.Frag} {mg : Str → Option Value} {base : Heap}
theorem scLoadInit : FnScope ["self", "counts"] ["self", "counts"] (defScope sLoadInit) := ⟨rfl, rfl, rfl, by decide +kernel, rfl, by decide +kernel, by decide +kernel⟩
def P_LoadInit (counts_ : (List Int)) : Mo (OLoad) :=
  (((((pure counts_) >>= fun x2 => pure (x2.length : Int)) >>= fun x3 => (pure ()) >>= fun y4 => pure (x3, y4)) >>= fun y1 => P_checklength y1.1) >>= fun u5 => (((((pure counts_) >>= fun x7 => Mo.rq (0 < x7.length) () >>= fun _ => Mo.any (fun i : Int => i ∈ x7 ∧ ∀ y ∈ x7, i ≤ y)) >>= fun x10 => ((pure (0 : Int)) >>= fun x8 => (pure ()) >>= fun y9 => pure (x8, y9)) >>= fun y11 => pure (x10, y11)) >>= fun y6 => P_checkleast y6.1 y6.2.1) >>= fun u12 => (((pure counts_) >>= fun x13 => pure x13) >>= fun counts_14 => (pure counts_14))))
theorem fn_LoadInit (T : Tx K mg) : FnOk P w K mg base (L2.CX P w) 3 T.fLoad_init T.dLoad_init ["self", "counts"] (spI K mg T.C_Load (fun (z : (List Int) × Unit) => [.fz ((rL rI) z.1)]) (fun z => P_LoadInit z.1) (fsLoad)) := by
  have Gcheck_least := fn_checkleast (P := P) (w := w) (base := base) T
  have Gcheck_length := fn_checklength (P := P) (w := w) (base := base) T
  refine init_mk (Γe := [.un, .un]) (Γ0 := fun a z => [.ow false a (oIn T.C_Load []), .fz ((rL rI) z.1)]) (Γo := fun a z => [.ow false a (oIn T.C_Load (fsLoad z)), .un]) T.FLoad_init scLoadInit (fun _ => rfl) (fun _ _ => rfl) (fun _ _ => ⟨.inl rfl, .inl rfl, trivial⟩) (fun _ => rfl) (fun _ _ => rfl) (fun cdv A outer s H E a0 y hr => ?_)
  obtain ⟨counts_, _⟩ := y
  show RB _ _ ([.un, .un] : RF.Ctx) false [.ow false a0 (oIn T.C_Load []), .fz ((rL rI) counts_)] _ (P_LoadInit counts_) _
  exact (rb_expr (ps_expr peE) (re_call () Gcheck_length (hr.mono (by decide)) (takes_of rfl rfl rfl rfl) (ra_cons (re_len (rsq_L (re_var (ρ := (rL rI)) (x := counts_) 1 rfl (pv 1))) T.z_len) ra_nil) T.gcheck_length T.Fcheck_length.kp T.bcheck_length) fun u5 => (rb_expr (ps_expr peE) (re_call () Gcheck_least (hr.mono (by decide)) (takes_of rfl rfl rfl rfl) (ra_cons (re_minL (rsq_L (re_var (ρ := (rL rI)) (x := counts_) 1 rfl (pv 1))) T.z_min) (ra_cons re_int ra_nil)) T.gcheck_least T.Fcheck_least.kp T.bcheck_least) fun u12 => (rb_setfld (ps_fld (pv 0) peE rfl) rfl (re_frz (re_list (rsq_L (re_var (ρ := (rL rI)) (x := counts_) 1 rfl (pv 1))) T.z_list) frz_L) T.cl_Load T.na_Load__counts (plt pl0) rfl fun counts_14 => (rb_nil (x := counts_14) (.inl rfl) ⟨.inr rfl, .inl rfl, trivial⟩))))
end
end DD
namespace DD
open PySem PySem.Spec PyProof.Rows L2 KO SX RF
section
variable {P : Program} {w : World} {K : PySem.W.Frag} {mg : Str → Option Value} {base : Heap}
theorem scLoadZero : FnScope ["length"] ["length"] (defScope sLoadZero) := ⟨rfl, rfl, rfl, by decide +kernel, rfl, by decide +kernel, by decide +kernel⟩
def P_LoadZero (length_ : Int) : Mo OLoad :=
  ((((pure length_) >>= fun x2 => (pure ()) >>= fun y3 => pure (x2, y3)) >>= fun y1 => P_checklength y1.1) >>= fun u4 => (((((((pure (0 : Int)) >>= fun x7 => (pure ()) >>= fun y8 => pure (x7, y8)) >>= fun y9 => pure [y9.1]) >>= fun x10 => (pure length_) >>= fun n11 => Mo.rq (-(2 ^ 63) ≤ n11 ∧ n11 < 2 ^ 63 ∧ x10.length * n11.toNat ≤ sizeLine) (List.replicate n11.toNat x10).flatten) >>= fun x12 => (pure ()) >>= fun y13 => pure (x12, y13)) >>= fun y6 => P_LoadInit y6.1) >>= fun r5 => pure r5))
theorem fn_LoadZero (T : Tx K mg) : FnOk P w K mg base (L2.CX P w) 5 T.fLoad_zero T.dLoad_zero ["length"] (spR K mg (fun (c : Unit) (z : Int × Unit) => [.fz (rI z.1)]) (fun z => P_LoadZero z.1) (RK.fz (rLoad T.C_Load))) := by
  have GLoad_init := fn_LoadInit (P := P) (w := w) (base := base) T
  have Gcheck_length := fn_checklength (P := P) (w := w) (base := base) T
  refine fn_mk (Γe := fun c z => [.un]) (Γ0 := fun c z => [.fz (rI z.1)]) (Z := (fun _ _ x => .ret ((RK.fz (rLoad T.C_Load)).ok x))) T.FLoad_zero scLoadZero (fun _ _ => rfl) (fun _ _ => rfl) (fun _ _ => ⟨.inl rfl, trivial⟩) (fun _ _ _ _ _ _ h => (own_none rfl h).elim) (fun _ _ _ => .inl rfl) (fun cdv A outer s H E a0 y hr => ?_)
  obtain ⟨length_, _⟩ := y
  show RB _ _ ([.un] : RF.Ctx) false [.fz (rI length_)] _ (P_LoadZero length_) _
  exact (rb_expr (ps_expr peE) (re_call () Gcheck_length (hr.mono (by decide)) (takes_of rfl rfl rfl rfl) (ra_cons (re_var (ρ := rI) (x := length_) 0 rfl (pv 0)) ra_nil) T.gcheck_length T.Fcheck_length.kp T.bcheck_length) fun u4 => (rb_ret (fun (r5 : OLoad) => r5) (re_frz (ρ' := (rLoad T.C_Load)) (re_make T.M_Load GLoad_init (hr.mono (by decide)) (takes_of rfl rfl rfl rfl) (ra_cons (re_frz (re_rep (re_frz (re_lst (fun (y9 : Int × Unit) => [y9.1]) rI (ra_cons re_int ra_nil)) frz_L) (re_var (ρ := rI) (x := length_) 0 rfl (pv 0))) frz_L) ra_nil) T.g_Load T.bLoad_init) (fun _ => frz_In)) (fun _ => rfl)))
end
end DD
namespace DD
open PySem PySem.Spec PyProof.Rows L2 KO SX RF
section
variable {P : Program} {w : World} {K : PySem.W.Frag} {mg : Str → Option Value} {base : Heap}
theorem scLoadOf : FnScope ["cls", "length", "begin", "minutes", "rounds", "rest", "minute"] ["cls", "length", "begin", "minutes"] (defScope sLoadOf) := ⟨rfl, rfl, rfl, by decide +kernel, rfl, by decide +kernel, by decide +kernel⟩
def P_LoadOf (cls_ : Unit) (length_ : Int) (begin_ : Int) (minutes_ : Int) : Mo OLoad :=
  ((((pure length_) >>= fun x2 => (pure ()) >>= fun y3 => pure (x2, y3)) >>= fun y1 => P_checklength y1.1) >>= fun u4 => ((((pure (0 : Int)) >>= fun i5 => (pure minutes_) >>= fun i6 => if (decide (i5 ≤ i6)) = true then ((pure 10000) >>= fun i7 => pure (decide (i6 ≤ i7))) else pure false) >>= fun b8 => pure (!b8)) >>= fun c9 => if c9 = true then (pure ⟨"BadLoad", []⟩ >>= fun e => Mo.throw e) else (((pure minutes_) >>= fun i10 => (pure length_) >>= fun j11 => Mo.rq (CDiv i10 j11) (i10 / j11, i10 % j11)) >>= fun t12 => (((pure cls_) >>= fun _ => ((((pure length_) >>= fun i15 => Mo.rq (-(2 ^ 62) ≤ i15 ∧ i15 < 2 ^ 62) (rangeL 0 i15.toNat)) >>= Mo.lc (fun w17 => (pure true)) (fun w17 => ((pure t12.1) >>= fun i25 => (((((pure w17) >>= fun i18 => (pure begin_) >>= fun j19 => pure (i18 - j19)) >>= fun i20 => (pure length_) >>= fun j21 => Mo.rq (0 < j21) (i20 % j21)) >>= fun i22 => (pure t12.2) >>= fun j23 => pure (decide (i22 < j23))) >>= fun b24 => pure (if b24 then (1 : Int) else 0)) >>= fun j26 => pure (i25 + j26)))) >>= fun x27 => (pure ()) >>= fun y28 => pure (x27, y28)) >>= fun y14 => P_LoadInit y14.1) >>= fun r13 => pure r13))))
theorem fn_LoadOf (T : Tx K mg) : FnOk P w K mg base (L2.CX P w) 5 T.fLoad_of T.dLoad_of ["cls", "length", "begin", "minutes"] (spR K mg (fun (c : Unit) (z : Unit × Int × Int × Int × Unit) => [.fz ((rK T.C_Load) z.1), .fz (rI z.2.1), .fz (rI z.2.2.1), .fz (rI z.2.2.2.1)]) (fun z => P_LoadOf z.1 z.2.1 z.2.2.1 z.2.2.2.1) (RK.fz (rLoad T.C_Load))) := by
  have GLoad_init := fn_LoadInit (P := P) (w := w) (base := base) T
  have Gcheck_length := fn_checklength (P := P) (w := w) (base := base) T
  refine fn_mk (Γe := fun c z => [.un, .un, .un, .un, .un, .un, .un]) (Γ0 := fun c z => [.fz ((rK T.C_Load) z.1), .fz (rI z.2.1), .fz (rI z.2.2.1), .fz (rI z.2.2.2.1), .un, .un, .un]) (Z := (fun _ _ x => .ret ((RK.fz (rLoad T.C_Load)).ok x))) T.FLoad_of scLoadOf (fun _ _ => rfl) (fun _ _ => rfl) (fun _ _ => ⟨.inl rfl, .inl rfl, .inl rfl, .inl rfl, .inl rfl, .inl rfl, .inl rfl, trivial⟩) (fun _ _ _ _ _ _ h => (own_none rfl h).elim) (fun _ _ _ => .inl rfl) (fun cdv A outer s H E a0 y hr => ?_)
  obtain ⟨cls_, length_, begin_, minutes_, _⟩ := y
  show RB _ _ ([.un, .un, .un, .un, .un, .un, .un] : RF.Ctx) false [.fz ((rK T.C_Load) cls_), .fz (rI length_), .fz (rI begin_), .fz (rI minutes_), .un, .un, .un] _ (P_LoadOf cls_ length_ begin_ minutes_) _
  exact (rb_expr (ps_expr peE) (re_call () Gcheck_length (hr.mono (by decide)) (takes_of rfl rfl rfl rfl) (ra_cons (re_var (ρ := rI) (x := length_) 1 rfl (pv 1)) ra_nil) T.gcheck_length T.Fcheck_length.kp T.bcheck_length) fun u4 => (rb_if1 (rt_not (rt_chain i_le i_le re_int (re_var (ρ := rI) (x := minutes_) 3 rfl (pv 3)) (re_con (ρ := rI) (10000 : Int) (pe_glob (v := .int 10000) rfl T.c_MOST_MINUTES ⟨_, rfl⟩) (fun _ => rfl)))) (rb_raise (pmk_own0 PySem.F.excBase_ValueError T.xo_BadLoad T.g_BadLoad T.kp_BadLoad (raises_own T.bs_BadLoad T.ty_BadLoad) (by rfl)) (takes_of rfl rfl rfl rfl) (rx_0 T.g_BadLoad)) (rb_asg (tg := (fun (x : (Int × Int)) => setAll [4, 5] [rI x.1, rI x.2])) (vs := [4, 5]) (ps_asg peE (pg_tupK (K := K) rfl rfl (pgs_cons (pg_name (i := 4) scLoadOf.nd rfl (.inr rfl)) (pgs_cons (pg_name (i := 5) scLoadOf.nd rfl (.inr rfl)) pgs_nil)))) (re_divmod (re_var (ρ := rI) (x := minutes_) 3 rfl (pv 3)) (re_var (ρ := rI) (x := length_) 1 rfl (pv 1)) T.z_divmod) (fun (x : (Int × Int)) => rg_tup (ps := [rI x.1, rI x.2]) [4, 5] rfl) (fun _ => ⟨.inl rfl, .inl rfl, .inl rfl, .inl rfl, .inl rfl, .inl rfl, .inl rfl, trivial⟩) fun t12 => (rb_ret (fun (r13 : OLoad) => r13) (re_frz (ρ' := (rLoad T.C_Load)) (re_makeV (mo := (pure cls_)) (ma := ((((pure length_) >>= fun i15 => Mo.rq (-(2 ^ 62) ≤ i15 ∧ i15 < 2 ^ 62) (rangeL 0 i15.toNat)) >>= Mo.lc (fun w17 => (pure true)) (fun w17 => ((pure t12.1) >>= fun i25 => (((((pure w17) >>= fun i18 => (pure begin_) >>= fun j19 => pure (i18 - j19)) >>= fun i20 => (pure length_) >>= fun j21 => Mo.rq (0 < j21) (i20 % j21)) >>= fun i22 => (pure t12.2) >>= fun j23 => pure (decide (i22 < j23))) >>= fun b24 => pure (if b24 then (1 : Int) else 0)) >>= fun j26 => pure (i25 + j26)))) >>= fun x27 => (pure ()) >>= fun y28 => pure (x27, y28))) (re_var (ρ := (rK T.C_Load)) (x := cls_) 0 rfl (pv 0)) T.M_Load GLoad_init (hr.mono (by decide)) (takes_of rfl rfl rfl rfl) (ra_cons (re_frz (re_of (pe_lc (own := [("minute", 6)]) (g := gName 6) rfl scLoadOf.nd (pi_range1 (by rfl) T.z_range (pa_cons peE pa_nil)) (blkOk_by (own := [("minute", 6)]) (N := ["cls", "length", "begin", "minutes", "rounds", "rest", "minute"]) (sc := defScope sLoadOf) (by decide +kernel)) (fun _ _ _ _ _ => pg_name (i := 6) scLoadOf.nd rfl (.inl rfl)) ptPi peEi) (rte_lc (vs := [6]) (fun (x : Int) Γ => Γ.set 6 (.fz (rI x))) (ri_range1 (re_var (ρ := rI) (x := length_) 1 rfl (pv 1))) (fun _ => rg_name) (fun _ => rgo_name) (un1 rfl) (fun (w17 : Int) => rti_nil) (fun (w17 : Int) _ _ _ _ _ => (re_add (re_var (ρ := rI) (x := t12.1) 4 rfl (pv 4)) (re_intB (re_rc (rc_i i_lt (re_mod (re_sub (re_var (ρ := rI) (x := w17) 6 rfl (pv 6)) (re_var (ρ := rI) (x := begin_) 2 rfl (pv 2))) (re_var (ρ := rI) (x := length_) 1 rfl (pv 1))) (re_var (ρ := rI) (x := t12.2) 5 rfl (pv 5)))) T.z_int))))) frz_L) ra_nil) T.bLoad_init) (fun _ => frz_In)) (fun _ => rfl)))))
end
end DD
namespace DD
open PySem PySem.Spec PyProof.Rows L2 KO SX RF
section
variable {P : Program} {w : World} {K : PySem.W.Frag} {mg : Str → Option Value} {base : Heap}
theorem scLoadCheckminute : FnScope ["self", "minute"] ["self", "minute"] (defScope sLoadCheckminute) := ⟨rfl, rfl, rfl, by decide +kernel, rfl, by decide +kernel, by decide +kernel⟩
def P_LoadCheckminute (self_ : OLoad) (minute_ : Int) : Mo Unit :=
  ((((pure (0 : Int)) >>= fun i3 => (pure minute_) >>= fun i4 => if (decide (i3 ≤ i4)) = true then ((((pure self_) >>= fun x1 => pure (x1)) >>= fun x2 => pure (x2.length : Int)) >>= fun i5 => pure (decide (i4 < i5))) else pure false) >>= fun b6 => pure (!b6)) >>= fun c7 => if c7 = true then (pure ⟨"BadLoad", []⟩ >>= fun e => Mo.throw e) else (pure ()))
theorem fn_LoadCheckminute (T : Tx K mg) : FnOk P w K mg base (L2.CX P w) 2 T.fLoad_check_minute T.dLoad_check_minute ["self", "minute"] (spR K mg (fun (c : Unit) (z : OLoad × Int × Unit) => [.fz ((rLoad T.C_Load) z.1), .fz (rI z.2.1)]) (fun z => P_LoadCheckminute z.1 z.2.1) (RK.fz rN)) := by
  refine fn_mk (Γe := fun c z => [.un, .un]) (Γ0 := fun c z => [.fz ((rLoad T.C_Load) z.1), .fz (rI z.2.1)]) (Z := (fun c z _ => .nx [.un, .un])) T.FLoad_check_minute scLoadCheckminute (fun _ _ => rfl) (fun _ _ => rfl) (fun _ _ => ⟨.inl rfl, .inl rfl, trivial⟩) (fun _ _ _ _ _ _ h => (own_none rfl h).elim) (fun _ _ _ => .inr ⟨rfl, fun _ _ _ => rfl⟩) (fun cdv A outer s H E a0 y hr => ?_)
  obtain ⟨self_, minute_, _⟩ := y
  show RB _ _ ([.un, .un] : RF.Ctx) false [.fz ((rLoad T.C_Load) self_), .fz (rI minute_)] _ (P_LoadCheckminute self_ minute_) _
  exact (rb_if0 (rt_not (rt_chain i_le i_lt re_int (re_var (ρ := rI) (x := minute_) 1 rfl (pv 1)) (re_len (rsq_L (re_fld (ρ' := (rL rI)) (g := fun (x : OLoad) => x) (fsLoad) (re_var (ρ := (rLoad T.C_Load)) (x := self_) 0 rfl (pv 0)) T.cl_Load T.na_Load__counts)) T.z_len))) (rb_raise (pmk_own0 PySem.F.excBase_ValueError T.xo_BadLoad T.g_BadLoad T.kp_BadLoad (raises_own T.bs_BadLoad T.ty_BadLoad) (by rfl)) (takes_of rfl rfl rfl rfl) (rx_0 T.g_BadLoad)) (rb_nil (x := ()) (.inl rfl) ⟨.inl rfl, .inl rfl, trivial⟩))
end
end DD
namespace DD
open PySem PySem.Spec PyProof.Rows L2 KO SX RF
section
variable {P : Program} {w : World} {K : PySem.W.Frag} {mg : Str → Option Value} {base : Heap}
theorem scLoadEq : FnScope ["self", "other"] ["self", "other"] (defScope sLoadEq) := ⟨rfl, rfl, rfl, by decide +kernel, rfl, by decide +kernel, by decide +kernel⟩
def P_LoadEq (self_ : OLoad) (other_ : OLoad) : Mo Bool :=
  ((((pure other_) >>= fun _ => pure true) >>= fun b6 => if b6 then (((pure self_) >>= fun x4 => pure (x4)) >>= fun x2 => ((pure other_) >>= fun x5 => pure (x5)) >>= fun y3 => Mo.rq (Eqk (rL rI) x2 ∧ Eqk (rL rI) y3) (decide (x2 = y3))) else pure false) >>= fun r1 => pure r1)
theorem fn_LoadEq (T : Tx K mg) : FnOk P w K mg base (L2.CX P w) 2 T.fLoad_eq T.dLoad_eq ["self", "other"] (spR K mg (fun (c : Unit) (z : OLoad × OLoad × Unit) => [.fz ((rLoad T.C_Load) z.1), .fz ((rLoad T.C_Load) z.2.1)]) (fun z => P_LoadEq z.1 z.2.1) (RK.fz rB)) := by
  refine fn_mk (Γe := fun c z => [.un, .un]) (Γ0 := fun c z => [.fz ((rLoad T.C_Load) z.1), .fz ((rLoad T.C_Load) z.2.1)]) (Z := (fun _ _ x => .ret ((RK.fz rB).ok x))) T.FLoad_eq scLoadEq (fun _ _ => rfl) (fun _ _ => rfl) (fun _ _ => ⟨.inl rfl, .inl rfl, trivial⟩) (fun _ _ _ _ _ _ h => (own_none rfl h).elim) (fun _ _ _ => .inl rfl) (fun cdv A outer s H E a0 y hr => ?_)
  obtain ⟨self_, other_, _⟩ := y
  show RB _ _ ([.un, .un] : RF.Ctx) false [.fz ((rLoad T.C_Load) self_), .fz ((rLoad T.C_Load) other_)] _ (P_LoadEq self_ other_) _
  exact (rb_ret (fun (r1 : Bool) => r1) (re_and (re_isC (fsLoad) (insC_Load T) (re_var (ρ := (rLoad T.C_Load)) (x := other_) 1 rfl (pv 1)) (pe_glob (v := .ref T.C_Load) rfl T.g_Load rfl) T.z_isinstance) (re_one (re_rc (rc_eqE (ρ := (rL rI)) hr.units (ha := (re_fld (ρ' := (rL rI)) (g := fun (x : OLoad) => x) (fsLoad) (re_var (ρ := (rLoad T.C_Load)) (x := self_) 0 rfl (pv 0)) T.cl_Load T.na_Load__counts)) (hb := (re_fld (ρ' := (rL rI)) (g := fun (x : OLoad) => x) (fsLoad) (re_var (ρ := (rLoad T.C_Load)) (x := other_) 1 rfl (pv 1)) T.cl_Load T.na_Load__counts)))))) (fun _ => rfl))
end
end DD
namespace DD
open PySem PySem.Spec PyProof.Rows L2 KO SX RF
section
variable {P : Program} {w : World} {K : PySem.W.Frag} {mg : Str → Option Value} {base : Heap}
theorem scLoadPairs : FnScope ["self", "other"] ["self", "other"] (defScope sLoadPairs) := ⟨rfl, rfl, rfl, by decide +kernel, rfl, by decide +kernel, by decide +kernel⟩
def P_LoadPairs (self_ : OLoad) (other_ : OLoad) : Mo (List (Int × Int)) :=
  (((((pure self_) >>= fun x1 => pure (x1)) >>= fun x2 => pure (x2.length : Int)) >>= fun i5 => (((pure other_) >>= fun x3 => pure (x3)) >>= fun x4 => pure (x4.length : Int)) >>= fun j6 => pure (decide (i5 ≠ j6))) >>= fun c7 => if c7 = true then (pure ⟨"BadLoad", []⟩ >>= fun e => Mo.throw e) else ((((pure self_) >>= fun x9 => pure (x9)) >>= fun x11 => ((pure other_) >>= fun x10 => pure (x10)) >>= fun y12 => Mo.rq (x11.length = y12.length ∧ x11.length ≤ 1000) (x11.zip y12)) >>= fun r8 => pure r8))
theorem fn_LoadPairs (T : Tx K mg) : FnOk P w K mg base (L2.CX P w) 2 T.fLoad_pairs T.dLoad_pairs ["self", "other"] (spR K mg (fun (c : Unit) (z : OLoad × OLoad × Unit) => [.fz ((rLoad T.C_Load) z.1), .fz ((rLoad T.C_Load) z.2.1)]) (fun z => P_LoadPairs z.1 z.2.1) (RK.ow (oL (rT2 rI rI)))) := by
  refine fn_mk (Γe := fun c z => [.un, .un]) (Γ0 := fun c z => [.fz ((rLoad T.C_Load) z.1), .fz ((rLoad T.C_Load) z.2.1)]) (Z := (fun _ _ x => .ret ((RK.ow (oL (rT2 rI rI))).ok x))) T.FLoad_pairs scLoadPairs (fun _ _ => rfl) (fun _ _ => rfl) (fun _ _ => ⟨.inl rfl, .inl rfl, trivial⟩) (fun _ _ _ _ _ _ h => (own_none rfl h).elim) (fun _ _ _ => .inl rfl) (fun cdv A outer s H E a0 y hr => ?_)
  obtain ⟨self_, other_, _⟩ := y
  show RB _ _ ([.un, .un] : RF.Ctx) false [.fz ((rLoad T.C_Load) self_), .fz ((rLoad T.C_Load) other_)] _ (P_LoadPairs self_ other_) _
  exact (rb_if1 (rt_rc (rc_i i_ne (re_len (rsq_L (re_fld (ρ' := (rL rI)) (g := fun (x : OLoad) => x) (fsLoad) (re_var (ρ := (rLoad T.C_Load)) (x := self_) 0 rfl (pv 0)) T.cl_Load T.na_Load__counts)) T.z_len) (re_len (rsq_L (re_fld (ρ' := (rL rI)) (g := fun (x : OLoad) => x) (fsLoad) (re_var (ρ := (rLoad T.C_Load)) (x := other_) 1 rfl (pv 1)) T.cl_Load T.na_Load__counts)) T.z_len))) (rb_raise (pmk_own0 PySem.F.excBase_ValueError T.xo_BadLoad T.g_BadLoad T.kp_BadLoad (raises_own T.bs_BadLoad T.ty_BadLoad) (by rfl)) (takes_of rfl rfl rfl rfl) (rx_0 T.g_BadLoad)) (rb_ret (fun (r8 : (List (Int × Int))) => r8) (re_listZip (re_fld (ρ' := (rL rI)) (g := fun (x : OLoad) => x) (fsLoad) (re_var (ρ := (rLoad T.C_Load)) (x := self_) 0 rfl (pv 0)) T.cl_Load T.na_Load__counts) (re_fld (ρ' := (rL rI)) (g := fun (x : OLoad) => x) (fsLoad) (re_var (ρ := (rLoad T.C_Load)) (x := other_) 1 rfl (pv 1)) T.cl_Load T.na_Load__counts) T.z_list T.z_zip) (fun _ => rfl)))
end
end DD
namespace DD
open PySem PySem.Spec PyProof.Rows L2 KO SX RF
section
variable {P : Program} {w : World} {K : PySem.W.Frag} {mg : Str → Option Value} {base : Heap}
theorem scLoadGetitem : FnScope ["self", "at"] ["self", "at"] (defScope sLoadGetitem) := ⟨rfl, rfl, rfl, by decide +kernel, rfl, by decide +kernel, by decide +kernel⟩
def P_LoadGetitem (self_ : OLoad) (at__ : Int) : Mo Int :=
  (((pure self_) >>= fun x1 => ((pure at__) >>= fun x3 => (pure ()) >>= fun y4 => pure (x3, y4)) >>= fun y2 => P_LoadCheckminute x1 y2.1) >>= fun u5 => ((((pure self_) >>= fun x7 => pure (x7)) >>= fun x8 => (pure at__) >>= fun i9 => Mo.get (atI x8 i9)) >>= fun r6 => pure r6))
theorem fn_LoadGetitem (T : Tx K mg) : FnOk P w K mg base (L2.CX P w) 3 T.fLoad_getitem T.dLoad_getitem ["self", "at"] (spR K mg (fun (c : Unit) (z : OLoad × Int × Unit) => [.fz ((rLoad T.C_Load) z.1), .fz (rI z.2.1)]) (fun z => P_LoadGetitem z.1 z.2.1) (RK.fz rI)) := by
  have GLoad_check_minute := fn_LoadCheckminute (P := P) (w := w) (base := base) T
  refine fn_mk (Γe := fun c z => [.un, .un]) (Γ0 := fun c z => [.fz ((rLoad T.C_Load) z.1), .fz (rI z.2.1)]) (Z := (fun _ _ x => .ret ((RK.fz rI).ok x))) T.FLoad_getitem scLoadGetitem (fun _ _ => rfl) (fun _ _ => rfl) (fun _ _ => ⟨.inl rfl, .inl rfl, trivial⟩) (fun _ _ _ _ _ _ h => (own_none rfl h).elim) (fun _ _ _ => .inl rfl) (fun cdv A outer s H E a0 y hr => ?_)
  obtain ⟨self_, at__, _⟩ := y
  show RB _ _ ([.un, .un] : RF.Ctx) false [.fz ((rLoad T.C_Load) self_), .fz (rI at__)] _ (P_LoadGetitem self_ at__) _
  exact (rb_expr (ps_expr peE) (re_meth (pp := fun (y : Int × Unit) => [.fz (rI y.1)]) (m := fun z => P_LoadCheckminute z.1 z.2.1) (ρo := (rLoad T.C_Load)) (fsLoad) (re_var (ρ := (rLoad T.C_Load)) (x := self_) 0 rfl (pv 0)) T.cl_Load T.m_Load_check_minute GLoad_check_minute (hr.mono (by decide)) (takes_of rfl rfl rfl rfl) (ra_cons (re_var (ρ := rI) (x := at__) 1 rfl (pv 1)) ra_nil) T.bLoad_check_minute) fun u5 => (rb_ret (fun (r6 : Int) => r6) (re_ixL (re_fld (ρ' := (rL rI)) (g := fun (x : OLoad) => x) (fsLoad) (re_var (ρ := (rLoad T.C_Load)) (x := self_) 0 rfl (pv 0)) T.cl_Load T.na_Load__counts) (re_var (ρ := rI) (x := at__) 1 rfl (pv 1))) (fun _ => rfl)))
end
end DD
namespace DD
open PySem PySem.Spec PyProof.Rows L2 KO SX RF
section
variable {P : Program} {w : World} {K : PySem.W.Frag} {mg : Str → Option Value} {base : Heap}
theorem scLoadPut : FnScope ["self", "minute", "count"] ["self", "minute", "count"] (defScope sLoadPut) := ⟨rfl, rfl, rfl, by decide +kernel, rfl, by decide +kernel, by decide +kernel⟩
theorem cm_ok {ns : List Int} {i : Int} (h0 : 0 ≤ i) (h1 : i < ns.length) {Q : Unit → Prop} {E : Ex → Prop} (q : Q ()) : (P_LoadCheckminute ns i).run Q E := by
  unfold P_LoadCheckminute
  simp only [Mo.run_bind, Mo.run_pure, Mo.run_ite, decide_eq_true h0, decide_eq_true h1, if_true, Bool.not_true, Bool.false_eq_true, if_false]
  exact q
theorem cl_ok {c : Int} (h : 0 ≤ c) {Q : Unit → Prop} {E : Ex → Prop} (q : Q ()) : (P_checkleast c 0).run Q E := by
  unfold P_checkleast
  have e : decide (c < 0) = false := decide_eq_false (by omega)
  simp only [Mo.run_bind, Mo.run_pure, Mo.run_ite, e, Bool.false_eq_true, if_false]
  exact q
theorem fn_LoadPut (T : Tx K mg) : FnOk P w K mg base (L2.CX P w) 3 T.fLoad_put T.dLoad_put ["self", "minute", "count"] (spPut T.C_Load "_counts") := by
  have GLoad_check_minute := fn_LoadCheckminute (P := P) (w := w) (base := base) T
  have Gcheck_least := fn_checkleast (P := P) (w := w) (base := base) T
  refine T.FLoad_put.okX scLoadPut (fun vs H Q E ⟨a, dx, l, ns, i, c, h, _⟩ => by rw [h]; rfl) (fun cdv A outer s H vs Q E hr ⟨a, dx, l, ns, i, c, e, ha, hl, ⟨c1, c2, c3⟩, q⟩ => ?_)
  subst e
  refine ⟨_, pssS, ?_⟩
  have o0 : Ok ⟨H, H, []⟩ [.fz (rLoad T.C_Load ns), .fz (rI i), .fz (rI c)] (L2.start ["self", "minute", "count"] [.ref a, .int i, .int c]) H H := by
    refine ⟨Go.refl (fun _ _ e => e), fun j en he => ?_, fun j1 j2 l1 l2 b p1 p2 h1 _ => ?_, rfl⟩
    · match j, he with
      | 0, he => cases he; exact ⟨.ref a, rfl, a, dx, _, rfl, ha, ⟨rfl, ⟨l, _, rfl, hl, ps_of_int ns⟩, trivial⟩⟩
      | 1, he => cases he; exact ⟨.int i, rfl, rfl⟩
      | 2, he => cases he; exact ⟨.int c, rfl, rfl⟩
      | n + 3, he => cases he
    · match j1, h1 with
      | 0, h1 => cases h1
      | 1, h1 => cases h1
      | 2, h1 => cases h1
      | n + 3, h1 => cases h1
  refine tss_ex (W := fun cls d _ H => E cls d H) (ps_expr peE) (re_meth (pp := fun (y : Int × Unit) => [.fz (rI y.1)]) (m := fun z => P_LoadCheckminute z.1 z.2.1) (ρo := (rLoad T.C_Load)) (fsLoad) (re_var (ρ := (rLoad T.C_Load)) (x := ns) 0 rfl (pv 0)) T.cl_Load T.m_Load_check_minute GLoad_check_minute (hr.mono (by decide)) (takes_of rfl rfl rfl rfl) (ra_cons (re_var (ρ := rI) (x := i) 1 rfl (pv 1)) ra_nil) T.bLoad_check_minute) o0 ?_
  simp only [Mo.run_bind, Mo.run_pure]
  refine cm_ok c1 c2 fun F1 H1 o1 g1 => ?_
  refine tss_ex (W := fun cls d _ H => E cls d H) (ps_expr peE) (re_call () Gcheck_least (hr.mono (by decide)) (takes_of rfl rfl rfl rfl) (ra_cons (re_var (ρ := rI) (x := c) 2 rfl (pv 2)) (ra_cons re_int ra_nil)) T.gcheck_least T.Fcheck_least.kp T.bcheck_least) o1 ?_
  simp only [Mo.run_bind, Mo.run_pure]
  refine cl_ok c3 fun F2 H2 o2 g2 => ?_
  have s1 : Same H H2 := (g1.fs.trans g2.fs).trans o2.le
  refine tSs_cons (ps_asg (pv 2) (pg_sub (pe_fld (pv 0) rfl) (pv 1) set_list)) ?_
  refine ⟨_, rfl, _, rfl, a, T.C_Load, dx, _, _, rfl, s1 _ _ ha, T.cl_Load, T.na_Load__counts, rfl, _, rfl, l, _, _, i.toNat, rfl, rfl, s1 _ _ hl, ?_, ?_⟩
  · rw [List.length_map]
    unfold ixN
    rw [if_pos (by omega), if_pos (by omega)]
  · refine tSs_i fun pins s2 I => pss_nil.run pins s2 _ _ _ I ?_
    show Q .non _
    have := q H2 ⟨s1, fun _ _ e => e, fun b x _ e => s1 _ _ e, (fun b x e f => by rw [e] at f; cases f), fun b x e => ⟨x, s1 _ _ e⟩⟩
    rw [List.map_set] at this
    exact this
end
end DD
namespace DD
open PySem PySem.Spec PyProof.Rows L2 KO SX RF
section
variable {P : Program} {w : World} {K : PySem.W.Frag} {mg : Str → Option Value} {base : Heap}
theorem scLoadAbs : FnScope ["self"] ["self"] (defScope sLoadAbs) := ⟨rfl, rfl, rfl, by decide +kernel, rfl, by decide +kernel, by decide +kernel⟩
def P_LoadAbs (self_ : OLoad) : Mo Int :=
  ((((pure self_) >>= fun x2 => pure (x2)) >>= fun x3 => pure x3.sum) >>= fun r1 => pure r1)
theorem fn_LoadAbs (T : Tx K mg) : FnOk P w K mg base (L2.CX P w) 2 T.fLoad_abs T.dLoad_abs ["self"] (spR K mg (fun (c : Unit) (z : OLoad × Unit) => [.fz ((rLoad T.C_Load) z.1)]) (fun z => P_LoadAbs z.1) (RK.fz rI)) := by
  refine fn_mk (Γe := fun c z => [.un]) (Γ0 := fun c z => [.fz ((rLoad T.C_Load) z.1)]) (Z := (fun _ _ x => .ret ((RK.fz rI).ok x))) T.FLoad_abs scLoadAbs (fun _ _ => rfl) (fun _ _ => rfl) (fun _ _ => ⟨.inl rfl, trivial⟩) (fun _ _ _ _ _ _ h => (own_none rfl h).elim) (fun _ _ _ => .inl rfl) (fun cdv A outer s H E a0 y hr => ?_)
  obtain ⟨self_, _⟩ := y
  show RB _ _ ([.un] : RF.Ctx) false [.fz ((rLoad T.C_Load) self_)] _ (P_LoadAbs self_) _
  exact (rb_ret (fun (r1 : Int) => r1) (re_sum (rsq_L (re_fld (ρ' := (rL rI)) (g := fun (x : OLoad) => x) (fsLoad) (re_var (ρ := (rLoad T.C_Load)) (x := self_) 0 rfl (pv 0)) T.cl_Load T.na_Load__counts)) T.z_sum) (fun _ => rfl))
end
end DD
namespace DD
open PySem PySem.Spec PyProof.Rows L2 KO SX RF
section
variable {P : Program} {w : World} {K : PySem.W.Frag} {mg : Str → Option Value} {base : Heap}
theorem scLoadIadd : FnScope ["self", "other", "mine", "theirs"] ["self", "other"] (defScope sLoadIadd) := ⟨rfl, rfl, rfl, by decide +kernel, rfl, by decide +kernel, by decide +kernel⟩
def P_LoadIadd (self_ : OLoad) (other_ : OLoad) : Mo OLoad :=
  (Mo.calm (((pure self_) >>= fun x1 => ((pure other_) >>= fun x3 => (pure ()) >>= fun y4 => pure (x3, y4)) >>= fun y2 => P_LoadPairs x1 y2.1) >>= Mo.lc (fun w5 => (pure true)) (fun w5 => ((pure w5.1) >>= fun i6 => (pure w5.2) >>= fun j7 => pure (i6 + j7))))) >>= fun x => pure x
theorem fn_LoadIadd (T : Tx K mg) : FnOk P w K mg base (L2.CX P w) 3 T.fLoad_iadd T.dLoad_iadd ["self", "other"] (spM K mg T.C_Load (fun z : OLoad × OLoad => fsLoad z.1) (fun z => [.fz ((rLoad T.C_Load) z.2)]) (fun z => P_LoadIadd z.1 z.2) (fun _ y => fsLoad y)) := by
  have GLoad_pairs := fn_LoadPairs (P := P) (w := w) (base := base) T
  refine fn_mkM (Γe := [.un, .un, .un, .un]) (Γ0 := fun a z => [.ow false a (oIn T.C_Load (fsLoad z.1)), .fz ((rLoad T.C_Load) z.2), .un, .un]) T.FLoad_iadd scLoadIadd (fun _ => rfl) (fun _ _ => rfl) (fun _ _ => ⟨.inl rfl, .inl rfl, .inl rfl, .inl rfl, trivial⟩) (fun _ => rfl) (fun cdv A outer s H E a y hr => ?_)
  obtain ⟨self_, other_⟩ := y
  show RB _ _ ([.un, .un, .un, .un] : RF.Ctx) false [.ow false a (oIn T.C_Load (fsLoad self_)), .fz ((rLoad T.C_Load) other_), .un, .un] _ (P_LoadIadd self_ other_) _
  exact (rb_setfld (ps_fld (pv 0) peE rfl) rfl (re_frz (re_borI (j := 0) (Γ' := [.fz ((rLoad T.C_Load) self_), .fz ((rLoad T.C_Load) other_), .un, .un]) rfl (re_of (pe_lc (own := [("mine", 2), ("theirs", 3)]) (g := gTup K 2 (gNames [2, 3])) rfl scLoadIadd.nd (pi_list peE) (blkOk_by (own := [("mine", 2), ("theirs", 3)]) (N := ["self", "other", "mine", "theirs"]) (sc := defScope sLoadIadd) (by decide +kernel)) (fun _ _ _ _ _ => pg_tupK (K := K) rfl rfl (pgs_cons (pg_name (i := 2) scLoadIadd.nd rfl (.inl rfl)) (pgs_cons (pg_name (i := 3) scLoadIadd.nd rfl (.inl rfl)) pgs_nil))) ptPi peEi) (rte_lc (vs := [2, 3]) (fun (x : (Int × Int)) => setAll [2, 3] [rI x.1, rI x.2]) (ri_list (re_frz (re_meth (pp := fun (y : OLoad × Unit) => [.fz ((rLoad T.C_Load) y.1)]) (m := fun z => P_LoadPairs z.1 z.2.1) (ρo := (rLoad T.C_Load)) (fsLoad) (re_var (ρ := (rLoad T.C_Load)) (x := self_) 0 rfl (pv 0)) T.cl_Load T.m_Load_pairs GLoad_pairs (hr.mono (by decide)) (takes_of rfl rfl rfl rfl) (ra_cons (re_var (ρ := (rLoad T.C_Load)) (x := other_) 1 rfl (pv 1)) ra_nil) T.bLoad_pairs) frz_L)) (fun (x : (Int × Int)) => rg_tup (ps := [rI x.1, rI x.2]) [2, 3] rfl) (fun _ => rgo_tup) (un2 rfl rfl) (fun (w5 : (Int × Int)) => rti_nil) (fun (w5 : (Int × Int)) _ _ _ _ _ => (re_add (re_var (ρ := rI) (x := w5.1) 2 rfl (pv 2)) (re_var (ρ := rI) (x := w5.2) 3 rfl (pv 3)))))) rfl (fun i e h => match i, h with | 0, h => .inr (.inl ⟨rfl, (Option.some.inj h).symm⟩) | 1, h => .inr (.inr ⟨_, (Option.some.inj h).symm, rfl⟩) | 2, h => .inl (Option.some.inj h).symm | 3, h => .inl (Option.some.inj h).symm | n + 4, h => by cases h)) frz_L) T.cl_Load T.na_Load__counts (plt (pl1 pl0)) rfl fun (x : OLoad) => (rb_retM (i := 0) rfl (pv 0) rfl))
end
end DD
namespace DD
open PySem PySem.Spec PyProof.Rows L2 KO SX RF
section
variable {P : Program} {w : World} {K : PySem.W.Frag} {mg : Str → Option Value} {base : Heap}
theorem scLoadMul : FnScope ["self", "other", "count"] ["self", "other"] (defScope sLoadMul) := ⟨rfl, rfl, rfl, by decide +kernel, rfl, by decide +kernel, by decide +kernel⟩
def P_LoadMul (self_ : OLoad) (other_ : Int) : Mo OLoad :=
  ((((pure other_) >>= fun x4 => ((pure (0 : Int)) >>= fun x2 => (pure ()) >>= fun y3 => pure (x2, y3)) >>= fun y5 => pure (x4, y5)) >>= fun y1 => P_checkleast y1.1 y1.2.1) >>= fun u6 => ((((((pure self_) >>= fun x9 => pure (x9)) >>= Mo.lc (fun w10 => (pure true)) (fun w10 => ((pure w10) >>= fun i11 => (pure other_) >>= fun j12 => Mo.rq (CMul i11 j12) (i11 * j12)))) >>= fun x13 => (pure ()) >>= fun y14 => pure (x13, y14)) >>= fun y8 => P_LoadInit y8.1) >>= fun r7 => pure r7))
theorem fn_LoadMul (T : Tx K mg) : FnOk P w K mg base (L2.CX P w) 5 T.fLoad_mul T.dLoad_mul ["self", "other"] (spR K mg (fun (c : Unit) (z : OLoad × Int × Unit) => [.fz ((rLoad T.C_Load) z.1), .fz (rI z.2.1)]) (fun z => P_LoadMul z.1 z.2.1) (RK.fz (rLoad T.C_Load))) := by
  have GLoad_init := fn_LoadInit (P := P) (w := w) (base := base) T
  have Gcheck_least := fn_checkleast (P := P) (w := w) (base := base) T
  refine fn_mk (Γe := fun c z => [.un, .un, .un]) (Γ0 := fun c z => [.fz ((rLoad T.C_Load) z.1), .fz (rI z.2.1), .un]) (Z := (fun _ _ x => .ret ((RK.fz (rLoad T.C_Load)).ok x))) T.FLoad_mul scLoadMul (fun _ _ => rfl) (fun _ _ => rfl) (fun _ _ => ⟨.inl rfl, .inl rfl, .inl rfl, trivial⟩) (fun _ _ _ _ _ _ h => (own_none rfl h).elim) (fun _ _ _ => .inl rfl) (fun cdv A outer s H E a0 y hr => ?_)
  obtain ⟨self_, other_, _⟩ := y
  show RB _ _ ([.un, .un, .un] : RF.Ctx) false [.fz ((rLoad T.C_Load) self_), .fz (rI other_), .un] _ (P_LoadMul self_ other_) _
  exact (rb_expr (ps_expr peE) (re_call () Gcheck_least (hr.mono (by decide)) (takes_of rfl rfl rfl rfl) (ra_cons (re_var (ρ := rI) (x := other_) 1 rfl (pv 1)) (ra_cons re_int ra_nil)) T.gcheck_least T.Fcheck_least.kp T.bcheck_least) fun u6 => (rb_ret (fun (r7 : OLoad) => r7) (re_frz (ρ' := (rLoad T.C_Load)) (re_make T.M_Load GLoad_init (hr.mono (by decide)) (takes_of rfl rfl rfl rfl) (ra_cons (re_frz (re_of (pe_lc (own := [("count", 2)]) (g := gName 2) rfl scLoadMul.nd (pi_list peE) (blkOk_by (own := [("count", 2)]) (N := ["self", "other", "count"]) (sc := defScope sLoadMul) (by decide +kernel)) (fun _ _ _ _ _ => pg_name (i := 2) scLoadMul.nd rfl (.inl rfl)) ptPi peEi) (rte_lc (vs := [2]) (fun (x : Int) Γ => Γ.set 2 (.fz (rI x))) (ri_list (re_fld (ρ' := (rL rI)) (g := fun (x : OLoad) => x) (fsLoad) (re_var (ρ := (rLoad T.C_Load)) (x := self_) 0 rfl (pv 0)) T.cl_Load T.na_Load__counts)) (fun _ => rg_name) (fun _ => rgo_name) (un1 rfl) (fun (w10 : Int) => rti_nil) (fun (w10 : Int) _ _ _ _ _ => (re_mul (re_var (ρ := rI) (x := w10) 2 rfl (pv 2)) (re_var (ρ := rI) (x := other_) 1 rfl (pv 1)))))) frz_L) ra_nil) T.g_Load T.bLoad_init) (fun _ => frz_In)) (fun _ => rfl)))
end
end DD
namespace DD
open PySem PySem.Spec PyProof.Rows L2 KO SX RF
section
variable {P : Program} {w : World} {K : PySem.W.Frag} {mg : Str → Option Value} {base : Heap}
theorem scLoadLshift : FnScope ["self", "other", "length", "minute"] ["self", "other"] (defScope sLoadLshift) := ⟨rfl, rfl, rfl, by decide +kernel, rfl, by decide +kernel, by decide +kernel⟩
def P_LoadLshift (self_ : OLoad) (other_ : Int) : Mo OLoad :=
  ((((pure self_) >>= fun x1 => pure (x1)) >>= fun x2 => pure (x2.length : Int)) >>= fun length_3 => ((((((pure length_3) >>= fun i6 => Mo.rq (-(2 ^ 62) ≤ i6 ∧ i6 < 2 ^ 62) (rangeL 0 i6.toNat)) >>= Mo.lc (fun w8 => (pure true)) (fun w8 => (((pure self_) >>= fun x9 => pure (x9)) >>= fun x14 => (((pure w8) >>= fun i10 => (pure other_) >>= fun j11 => pure (i10 + j11)) >>= fun i12 => (pure length_3) >>= fun j13 => Mo.rq (0 < j13) (i12 % j13)) >>= fun i15 => Mo.get (atI x14 i15)))) >>= fun x16 => (pure ()) >>= fun y17 => pure (x16, y17)) >>= fun y5 => P_LoadInit y5.1) >>= fun r4 => pure r4))
theorem fn_LoadLshift (T : Tx K mg) : FnOk P w K mg base (L2.CX P w) 5 T.fLoad_lshift T.dLoad_lshift ["self", "other"] (spR K mg (fun (c : Unit) (z : OLoad × Int × Unit) => [.fz ((rLoad T.C_Load) z.1), .fz (rI z.2.1)]) (fun z => P_LoadLshift z.1 z.2.1) (RK.fz (rLoad T.C_Load))) := by
  have GLoad_init := fn_LoadInit (P := P) (w := w) (base := base) T
  refine fn_mk (Γe := fun c z => [.un, .un, .un, .un]) (Γ0 := fun c z => [.fz ((rLoad T.C_Load) z.1), .fz (rI z.2.1), .un, .un]) (Z := (fun _ _ x => .ret ((RK.fz (rLoad T.C_Load)).ok x))) T.FLoad_lshift scLoadLshift (fun _ _ => rfl) (fun _ _ => rfl) (fun _ _ => ⟨.inl rfl, .inl rfl, .inl rfl, .inl rfl, trivial⟩) (fun _ _ _ _ _ _ h => (own_none rfl h).elim) (fun _ _ _ => .inl rfl) (fun cdv A outer s H E a0 y hr => ?_)
  obtain ⟨self_, other_, _⟩ := y
  show RB _ _ ([.un, .un, .un, .un] : RF.Ctx) false [.fz ((rLoad T.C_Load) self_), .fz (rI other_), .un, .un] _ (P_LoadLshift self_ other_) _
  exact (rb_set (ps_set (i := 2) scLoadLshift.nd rfl (.inr rfl) peE) (re_len (rsq_L (re_fld (ρ' := (rL rI)) (g := fun (x : OLoad) => x) (fsLoad) (re_var (ρ := (rLoad T.C_Load)) (x := self_) 0 rfl (pv 0)) T.cl_Load T.na_Load__counts)) T.z_len) rfl fun (length_3 : Int) => (rb_ret (fun (r4 : OLoad) => r4) (re_frz (ρ' := (rLoad T.C_Load)) (re_make T.M_Load GLoad_init (hr.mono (by decide)) (takes_of rfl rfl rfl rfl) (ra_cons (re_frz (re_of (pe_lc (own := [("minute", 3)]) (g := gName 3) rfl scLoadLshift.nd (pi_range1 (by rfl) T.z_range (pa_cons peE pa_nil)) (blkOk_by (own := [("minute", 3)]) (N := ["self", "other", "length", "minute"]) (sc := defScope sLoadLshift) (by decide +kernel)) (fun _ _ _ _ _ => pg_name (i := 3) scLoadLshift.nd rfl (.inl rfl)) ptPi peEi) (rte_lc (vs := [3]) (fun (x : Int) Γ => Γ.set 3 (.fz (rI x))) (ri_range1 (re_var (ρ := rI) (x := length_3) 2 rfl (pv 2))) (fun _ => rg_name) (fun _ => rgo_name) (un1 rfl) (fun (w8 : Int) => rti_nil) (fun (w8 : Int) _ _ _ _ _ => (re_ixL (re_fld (ρ' := (rL rI)) (g := fun (x : OLoad) => x) (fsLoad) (re_var (ρ := (rLoad T.C_Load)) (x := self_) 0 rfl (pv 0)) T.cl_Load T.na_Load__counts) (re_mod (re_add (re_var (ρ := rI) (x := w8) 3 rfl (pv 3)) (re_var (ρ := rI) (x := other_) 1 rfl (pv 1))) (re_var (ρ := rI) (x := length_3) 2 rfl (pv 2))))))) frz_L) ra_nil) T.g_Load T.bLoad_init) (fun _ => frz_In)) (fun _ => rfl)))
end
end DD
namespace DD
open PySem PySem.Spec PyProof.Rows L2 KO SX RF
section
variable {P : Program} {w : World} {K : PySem.W.Frag} {mg : Str → Option Value} {base : Heap}
theorem scLisload : FnScope ["_law_got", "_law_counts", "_law_k"] ["_law_got", "_law_counts"] (defScope sLisload) := ⟨rfl, rfl, rfl, by decide +kernel, rfl, by decide +kernel, by decide +kernel⟩
def P_Lisload (got_ : OLoad) (counts_ : (List Int)) : Mo Bool :=
  (((((pure got_) >>= fun _ => pure true) >>= fun b1 => pure (!b1)) >>= fun b7 => if b7 then pure true else (((pure got_) >>= fun x2 => Mo.calm (P_LoadLen x2) >>= fun n3 => Mo.rq (0 ≤ n3 ∧ n3 < 2 ^ 63) n3) >>= fun i5 => ((pure counts_) >>= fun x4 => pure (x4.length : Int)) >>= fun j6 => pure (decide (i5 ≠ j6)))) >>= fun c8 => if c8 = true then ((pure false) >>= fun r9 => pure r9) else ((((pure counts_) >>= fun x10 => pure (x10.length : Int)) >>= fun i11 => Mo.rq (-(2 ^ 62) ≤ i11 ∧ i11 < 2 ^ 62) (rangeL 0 i11.toNat)) >>= fun xs => Mo.loop (fun s13 w14 => (((((((pure got_) >>= fun x15 => (pure w14) >>= fun y16 => P_LoadGetitem x15 y16) >>= fun v17 => Mo.rq (Enc.ok rI v17) (Enc.d rI v17)) >>= fun x24 => ((((pure counts_) >>= fun x18 => (pure w14) >>= fun i19 => Mo.get (atI x18 i19)) >>= fun v20 => Mo.rq (Enc.ok rI v20) (Enc.d rI v20)) >>= fun x22 => (pure ()) >>= fun y23 => pure (x22, y23)) >>= fun y25 => pure (x24, y25)) >>= fun y21 => Mo.rq (y21.1 = y21.2.1) true) >>= fun b26 => pure (!b26)) >>= fun c27 => if c27 = true then ((pure false) >>= fun r28 => pure (Lp.ret r28)) else (pure (Lp.go ())))) xs () >>= Lp.out (fun s29 => ((pure true) >>= fun r30 => pure r30)) (fun x => x)))
theorem fn_Lisload (T : Tx K mg) : FnOk P w K mg base (L2.CX P w) 9 T.f_law_is_load T.d_law_is_load ["_law_got", "_law_counts"] (spR K mg (fun (c : Unit) (z : OLoad × (List Int) × Unit) => [.fz ((rLoad T.C_Load) z.1), .fz ((rL rI) z.2.1)]) (fun z => P_Lisload z.1 z.2.1) (RK.fz rB)) := by
  have GLoad_getitem := fn_LoadGetitem (P := P) (w := w) (base := base) T
  have GLoad_len := fn_LoadLen (P := P) (w := w) (base := base) T
  have G_law_same := fn_same (P := P) (w := w) (base := base) T
  refine fn_mk (Γe := fun c z => [.un, .un, .un]) (Γ0 := fun c z => [.fz ((rLoad T.C_Load) z.1), .fz ((rL rI) z.2.1), .un]) (Z := (fun _ _ x => .ret ((RK.fz rB).ok x))) T.F_law_is_load scLisload (fun _ _ => rfl) (fun _ _ => rfl) (fun _ _ => ⟨.inl rfl, .inl rfl, .inl rfl, trivial⟩) (fun _ _ _ _ _ _ h => (own_none rfl h).elim) (fun _ _ _ => .inl rfl) (fun cdv A outer s H E a0 y hr => ?_)
  obtain ⟨got_, counts_, _⟩ := y
  show RB _ _ ([.un, .un, .un] : RF.Ctx) false [.fz ((rLoad T.C_Load) got_), .fz ((rL rI) counts_), .un] _ (P_Lisload got_ counts_) _
  exact (rb_if1 (rt_w (rw_or (rt_not (rt_val (re_isC (fsLoad) (insC_Load T) (re_var (ρ := (rLoad T.C_Load)) (x := got_) 0 rfl (pv 0)) (pe_glob (v := .ref T.C_Load) rfl T.g_Load rfl) T.z_isinstance))) (rw_or1 (rt_rc (rc_i i_ne (re_lenO (m := fun z => P_LoadLen z.1) (fsLoad) T.m_Load_len GLoad_len (hr.mono (by decide)) (takes_of rfl rfl rfl rfl) T.bLoad_len (re_var (ρ := (rLoad T.C_Load)) (x := got_) 0 rfl (pv 0)) T.z_len) (re_len (rsq_L (re_var (ρ := (rL rI)) (x := counts_) 1 rfl (pv 1))) T.z_len)))))) (rb_ret (fun (r9 : Bool) => r9) re_bl (fun _ => rfl)) (rb_for (s0 := ()) (vs := [2]) (Zr := (fun x => .ret ((RK.fz rB).ok x))) (kr := (fun x => x)) (fun (s13 : Unit) => [.fz ((rLoad T.C_Load) got_), .fz ((rL rI) counts_), .un]) (fun (x : Int) Γ => Γ.set 2 (.fz (rI x))) (ps_for (passes_of rfl) rfl (pi_range1 (by rfl) T.z_range (pa_cons peE pa_nil)) (pg_name (i := 2) scLisload.nd rfl (.inl rfl)) pssS) (ri_range1 (re_len (rsq_L (re_var (ρ := (rL rI)) (x := counts_) 1 rfl (pv 1))) T.z_len)) (fun _ => rg_name) ⟨.inr rfl, .inr rfl, .inl rfl, trivial⟩ (fun _ => ⟨.inl rfl, .inl rfl, .inl rfl, trivial⟩) (fun _ _ => ⟨.inl rfl, .inl rfl, .inl rfl, trivial⟩) (fun (s13 : Unit) (w14 : Int) => (rb_if0 (rt_not (rt_val (re_call () G_law_same (hr.mono (by decide)) (takes_of rfl rfl rfl rfl) (ra_cons (re_enc (ρ := rI) (re_subO (m := fun z => P_LoadGetitem z.1 z.2.1) (fsLoad) T.m_Load_getitem T.n_Load_getitem GLoad_getitem (hr.mono (by decide)) (takes_of rfl rfl rfl rfl) T.bLoad_getitem (re_var (ρ := (rLoad T.C_Load)) (x := got_) 0 rfl (pv 0)) (re_var (ρ := rI) (x := w14) 2 rfl (pv 2)))) (ra_cons (re_enc (ρ := rI) (re_ixL (re_var (ρ := (rL rI)) (x := counts_) 1 rfl (pv 1)) (re_var (ρ := rI) (x := w14) 2 rfl (pv 2)))) ra_nil)) T.g_law_same T.F_law_same.kp T.b_law_same))) (rb_ret (fun (r28 : Bool) => (Lp.ret r28)) re_bl (fun _ => rfl)) (rb_nil (x := (Lp.go ())) (.inr rfl) ⟨.inr rfl, .inr rfl, .inl rfl, trivial⟩))) (fun _ => rfl) (fun _ => ⟨_, rfl⟩) fun (s29 : Unit) => (rb_ret (fun (r30 : Bool) => r30) re_bl (fun _ => rfl))))
end
end DD
namespace DD
open PySem PySem.Spec PyProof.Rows L2 KO SX RF
section
variable {P : Program} {w : World} {K : PySem.W.Frag} {mg : Str → Option Value} {base : Heap}
theorem scLlength : FnScope ["_law_pool_here"] ["_law_pool_here"] (defScope sLlength) := ⟨rfl, rfl, rfl, by decide +kernel, rfl, by decide +kernel, by decide +kernel⟩
def P_Llength  : Mo Int :=
  (((((pure (4 : Int)) >>= fun x2 => (pure ()) >>= fun y3 => pure (x2, y3)) >>= fun y1 => Mo.take y1.1) >>= fun i4 => (pure (0 : Int)) >>= fun j5 => pure (decide (i4 = j5))) >>= fun c6 => if c6 = true then (((pure (1 : Int)) >>= fun i11 => (((pure (60 : Int)) >>= fun x9 => (pure ()) >>= fun y10 => pure (x9, y10)) >>= fun y8 => Mo.take y8.1) >>= fun j12 => pure (i11 + j12)) >>= fun r7 => pure r7) else (((pure (1 : Int)) >>= fun i17 => (((pure (12 : Int)) >>= fun x15 => (pure ()) >>= fun y16 => pure (x15, y16)) >>= fun y14 => Mo.take y14.1) >>= fun j18 => pure (i17 + j18)) >>= fun r13 => pure r13))
theorem fn_Llength (T : Tx K mg) : FnOk P w K mg base (L2.CX P w) 2 T.f_law_length T.d_law_length ["_law_pool_here"] (spR K mg (fun (c : Addr) (z : Unit) => [.ow false c oPool]) (fun z => P_Llength ) (RK.fz rI)) := by
  have G_law_take := fn_take (P := P) (w := w) (base := base) T
  refine fn_mk (Γe := fun c z => [.ow false c oPool]) (Γ0 := fun c z => [.ow false c oPool]) (Z := (fun _ _ x => .ret ((RK.fz rI).ok x))) T.F_law_length scLlength (fun _ _ => rfl) (fun _ _ => rfl) (fun _ _ => ⟨.inr rfl, trivial⟩) (fun _ _ => own_first rfl) (fun _ _ _ => .inl rfl) (fun cdv A outer s H E a0 y hr => ?_)
  skip
  show RB _ _ ([.ow false a0 oPool] : RF.Ctx) false [.ow false a0 oPool] _ (P_Llength ) _
  exact (rb_if1 (rt_rc (rc_i i_eq (re_call a0 G_law_take (hr.mono (by decide)) (takes_of rfl rfl rfl rfl) (ra_own (qo := oPool) rfl (pv 0) (ra_cons re_int ra_nil)) T.g_law_take T.F_law_take.kp T.b_law_take) re_int)) (rb_ret (fun (r7 : Int) => r7) (re_add re_int (re_call a0 G_law_take (hr.mono (by decide)) (takes_of rfl rfl rfl rfl) (ra_own (qo := oPool) rfl (pv 0) (ra_cons re_int ra_nil)) T.g_law_take T.F_law_take.kp T.b_law_take)) (fun _ => rfl)) (rb_ret (fun (r13 : Int) => r13) (re_add re_int (re_call a0 G_law_take (hr.mono (by decide)) (takes_of rfl rfl rfl rfl) (ra_own (qo := oPool) rfl (pv 0) (ra_cons re_int ra_nil)) T.g_law_take T.F_law_take.kp T.b_law_take)) (fun _ => rfl)))
end
end DD
namespace DD
open PySem PySem.Spec PyProof.Rows L2 KO SX RF
section
variable {P : Program} {w : World} {K : PySem.W.Frag} {mg : Str → Option Value} {base : Heap}
theorem scLbegin : FnScope ["_law_pool_here"] ["_law_pool_here"] (defScope sLbegin) := ⟨rfl, rfl, rfl, by decide +kernel, rfl, by decide +kernel, by decide +kernel⟩
def P_Lbegin  : Mo Int :=
  (((((pure (6 : Int)) >>= fun x2 => (pure ()) >>= fun y3 => pure (x2, y3)) >>= fun y1 => Mo.take y1.1) >>= fun i4 => (pure (0 : Int)) >>= fun j5 => pure (decide (i4 = j5))) >>= fun c6 => if c6 = true then (((((((pure (2 : Int)) >>= fun i10 => ((pure (10 : Int)) >>= fun i8 => (pure (9 : Int)) >>= fun j9 => Mo.rq (CPow i8 j9) (i8 ^ j9.toNat)) >>= fun j11 => Mo.rq (CMul i10 j11) (i10 * j11)) >>= fun i12 => (pure (39999 : Int)) >>= fun j13 => pure (i12 - j13)) >>= fun x15 => (pure ()) >>= fun y16 => pure (x15, y16)) >>= fun y14 => Mo.take y14.1) >>= fun i21 => (((pure (10 : Int)) >>= fun i17 => (pure (9 : Int)) >>= fun j18 => Mo.rq (CPow i17 j18) (i17 ^ j18.toNat)) >>= fun i19 => (pure (20000 : Int)) >>= fun j20 => pure (i19 - j20)) >>= fun j22 => pure (i21 - j22)) >>= fun r7 => pure r7) else (((((pure (401 : Int)) >>= fun x25 => (pure ()) >>= fun y26 => pure (x25, y26)) >>= fun y24 => Mo.take y24.1) >>= fun i27 => (pure (200 : Int)) >>= fun j28 => pure (i27 - j28)) >>= fun r23 => pure r23))
theorem fn_Lbegin (T : Tx K mg) : FnOk P w K mg base (L2.CX P w) 2 T.f_law_begin T.d_law_begin ["_law_pool_here"] (spR K mg (fun (c : Addr) (z : Unit) => [.ow false c oPool]) (fun z => P_Lbegin ) (RK.fz rI)) := by
  have G_law_take := fn_take (P := P) (w := w) (base := base) T
  refine fn_mk (Γe := fun c z => [.ow false c oPool]) (Γ0 := fun c z => [.ow false c oPool]) (Z := (fun _ _ x => .ret ((RK.fz rI).ok x))) T.F_law_begin scLbegin (fun _ _ => rfl) (fun _ _ => rfl) (fun _ _ => ⟨.inr rfl, trivial⟩) (fun _ _ => own_first rfl) (fun _ _ _ => .inl rfl) (fun cdv A outer s H E a0 y hr => ?_)
  skip
  show RB _ _ ([.ow false a0 oPool] : RF.Ctx) false [.ow false a0 oPool] _ (P_Lbegin ) _
  exact (rb_if1 (rt_rc (rc_i i_eq (re_call a0 G_law_take (hr.mono (by decide)) (takes_of rfl rfl rfl rfl) (ra_own (qo := oPool) rfl (pv 0) (ra_cons re_int ra_nil)) T.g_law_take T.F_law_take.kp T.b_law_take) re_int)) (rb_ret (fun (r7 : Int) => r7) (re_sub (re_call a0 G_law_take (hr.mono (by decide)) (takes_of rfl rfl rfl rfl) (ra_own (qo := oPool) rfl (pv 0) (ra_cons (re_sub (re_mul re_int (re_pow re_int re_int)) re_int) ra_nil)) T.g_law_take T.F_law_take.kp T.b_law_take) (re_sub (re_pow re_int re_int) re_int)) (fun _ => rfl)) (rb_ret (fun (r23 : Int) => r23) (re_sub (re_call a0 G_law_take (hr.mono (by decide)) (takes_of rfl rfl rfl rfl) (ra_own (qo := oPool) rfl (pv 0) (ra_cons re_int ra_nil)) T.g_law_take T.F_law_take.kp T.b_law_take) re_int) (fun _ => rfl)))
end
end DD
namespace DD
open PySem PySem.Spec PyProof.Rows L2 KO SX RF
section
variable {P : Program} {w : World} {K : PySem.W.Frag} {mg : Str → Option Value} {base : Heap}
theorem scLstretch : FnScope ["_law_pool_here", "_law_length_here", "_law_way"] ["_law_pool_here", "_law_length_here"] (defScope sLstretch) := ⟨rfl, rfl, rfl, by decide +kernel, rfl, by decide +kernel, by decide +kernel⟩
def P_Lstretch (length_here_ : Int) : Mo Int :=
  ((((pure (8 : Int)) >>= fun x2 => (pure ()) >>= fun y3 => pure (x2, y3)) >>= fun y1 => Mo.take y1.1) >>= fun way_4 => (((pure way_4) >>= fun i5 => (pure (0 : Int)) >>= fun j6 => pure (decide (i5 = j6))) >>= fun c7 => if c7 = true then (((pure length_here_) >>= fun i12 => (((pure (4 : Int)) >>= fun x10 => (pure ()) >>= fun y11 => pure (x10, y11)) >>= fun y9 => Mo.take y9.1) >>= fun j13 => Mo.rq (CMul i12 j13) (i12 * j13)) >>= fun r8 => pure r8) else (((pure way_4) >>= fun i14 => (pure (1 : Int)) >>= fun j15 => pure (decide (i14 = j15))) >>= fun c16 => if c16 = true then ((((pure (1601 : Int)) >>= fun x19 => (pure ()) >>= fun y20 => pure (x19, y20)) >>= fun y18 => Mo.take y18.1) >>= fun r17 => pure r17) else ((((pure (41 : Int)) >>= fun x23 => (pure ()) >>= fun y24 => pure (x23, y24)) >>= fun y22 => Mo.take y22.1) >>= fun r21 => pure r21))))
theorem fn_Lstretch (T : Tx K mg) : FnOk P w K mg base (L2.CX P w) 2 T.f_law_stretch T.d_law_stretch ["_law_pool_here", "_law_length_here"] (spR K mg (fun (c : Addr) (z : Int × Unit) => [.ow false c oPool, .fz (rI z.1)]) (fun z => P_Lstretch z.1) (RK.fz rI)) := by
  have G_law_take := fn_take (P := P) (w := w) (base := base) T
  refine fn_mk (Γe := fun c z => [.ow false c oPool, .un, .un]) (Γ0 := fun c z => [.ow false c oPool, .fz (rI z.1), .un]) (Z := (fun _ _ x => .ret ((RK.fz rI).ok x))) T.F_law_stretch scLstretch (fun _ _ => rfl) (fun _ _ => rfl) (fun _ _ => ⟨.inr rfl, .inl rfl, .inl rfl, trivial⟩) (fun _ _ => own_first rfl) (fun _ _ _ => .inl rfl) (fun cdv A outer s H E a0 y hr => ?_)
  obtain ⟨length_here_, _⟩ := y
  show RB _ _ ([.ow false a0 oPool, .un, .un] : RF.Ctx) false [.ow false a0 oPool, .fz (rI length_here_), .un] _ (P_Lstretch length_here_) _
  exact (rb_set (ps_set (i := 2) scLstretch.nd rfl (.inl rfl) peE) (re_call a0 G_law_take (hr.mono (by decide)) (takes_of rfl rfl rfl rfl) (ra_own (qo := oPool) rfl (pv 0) (ra_cons re_int ra_nil)) T.g_law_take T.F_law_take.kp T.b_law_take) rfl fun (way_4 : Int) => (rb_if1 (rt_rc (rc_i i_eq (re_var (ρ := rI) (x := way_4) 2 rfl (pv 2)) re_int)) (rb_ret (fun (r8 : Int) => r8) (re_mul (re_var (ρ := rI) (x := length_here_) 1 rfl (pv 1)) (re_call a0 G_law_take (hr.mono (by decide)) (takes_of rfl rfl rfl rfl) (ra_own (qo := oPool) rfl (pv 0) (ra_cons re_int ra_nil)) T.g_law_take T.F_law_take.kp T.b_law_take)) (fun _ => rfl)) (rb_if1 (rt_rc (rc_i i_eq (re_var (ρ := rI) (x := way_4) 2 rfl (pv 2)) re_int)) (rb_ret (fun (r17 : Int) => r17) (re_call a0 G_law_take (hr.mono (by decide)) (takes_of rfl rfl rfl rfl) (ra_own (qo := oPool) rfl (pv 0) (ra_cons re_int ra_nil)) T.g_law_take T.F_law_take.kp T.b_law_take) (fun _ => rfl)) (rb_ret (fun (r21 : Int) => r21) (re_call a0 G_law_take (hr.mono (by decide)) (takes_of rfl rfl rfl rfl) (ra_own (qo := oPool) rfl (pv 0) (ra_cons re_int ra_nil)) T.g_law_take T.F_law_take.kp T.b_law_take) (fun _ => rfl)))))
end
end DD
namespace DD
open PySem PySem.Spec PyProof.Rows L2 KO SX RF
section
variable {P : Program} {w : World} {K : PySem.W.Frag} {mg : Str → Option Value} {base : Heap}
theorem scLwalk : FnScope ["_law_length_here", "_law_begin_here", "_law_minutes", "_law_counts", "_law_k", "_law_place"] ["_law_length_here", "_law_begin_here", "_law_minutes"] (defScope sLwalk) := ⟨rfl, rfl, rfl, by decide +kernel, rfl, by decide +kernel, by decide +kernel⟩
def P_Lwalk (length_here_ : Int) (begin_here_ : Int) (minutes_ : Int) : Mo (List Int) :=
  (((((pure (0 : Int)) >>= fun x1 => (pure ()) >>= fun y2 => pure (x1, y2)) >>= fun y3 => pure [y3.1]) >>= fun x4 => (pure length_here_) >>= fun n5 => Mo.rq (-(2 ^ 63) ≤ n5 ∧ n5 < 2 ^ 63 ∧ x4.length * n5.toNat ≤ sizeLine) (List.replicate n5.toNat x4).flatten) >>= fun counts_6 => (((pure minutes_) >>= fun i8 => Mo.rq (-(2 ^ 62) ≤ i8 ∧ i8 < 2 ^ 62) (rangeL 0 i8.toNat)) >>= fun xs => Mo.fold (fun s10 w11 => ((((pure begin_here_) >>= fun i12 => (pure w11) >>= fun j13 => pure (i12 + j13)) >>= fun i14 => (pure length_here_) >>= fun j15 => Mo.rq (0 < j15) (i14 % j15)) >>= fun place_16 => ((((pure place_16) >>= fun i17 => Mo.get (atI s10 i17)) >>= fun i18 => (pure (1 : Int)) >>= fun j19 => pure (i18 + j19)) >>= fun x20 => (pure place_16) >>= fun j21 => Mo.get (ixN s10.length j21) >>= fun n22 => (pure ((s10.set n22 x20)))))) xs (counts_6) >>= fun s23 => (pure s23)))
theorem fn_Lwalk (T : Tx K mg) : FnOk P w K mg base (L2.CX P w) 2 T.f_law_walk T.d_law_walk ["_law_length_here", "_law_begin_here", "_law_minutes"] (spR K mg (fun (c : Unit) (z : Int × Int × Int × Unit) => [.fz (rI z.1), .fz (rI z.2.1), .fz (rI z.2.2.1)]) (fun z => P_Lwalk z.1 z.2.1 z.2.2.1) (RK.ow (oL rI))) := by
  refine fn_mk (Γe := fun c z => [.un, .un, .un, .un, .un, .un]) (Γ0 := fun c z => [.fz (rI z.1), .fz (rI z.2.1), .fz (rI z.2.2.1), .un, .un, .un]) (Z := (fun _ _ x => .ret ((RK.ow (oL rI)).ok x))) T.F_law_walk scLwalk (fun _ _ => rfl) (fun _ _ => rfl) (fun _ _ => ⟨.inl rfl, .inl rfl, .inl rfl, .inl rfl, .inl rfl, .inl rfl, trivial⟩) (fun _ _ _ _ _ _ h => (own_none rfl h).elim) (fun _ _ _ => .inl rfl) (fun cdv A outer s H E a0 y hr => ?_)
  obtain ⟨length_here_, begin_here_, minutes_, _⟩ := y
  show RB _ _ ([.un, .un, .un, .un, .un, .un] : RF.Ctx) false [.fz (rI length_here_), .fz (rI begin_here_), .fz (rI minutes_), .un, .un, .un] _ (P_Lwalk length_here_ begin_here_ minutes_) _
  exact (rb_setO (ps_set (i := 3) scLwalk.nd rfl (.inl rfl) peE) (re_rep (re_frz (re_lst (fun (y3 : Int × Unit) => [y3.1]) rI (ra_cons re_int ra_nil)) frz_L) (re_var (ρ := rI) (x := length_here_) 0 rfl (pv 0))) rfl fun (counts_6 : (List Int)) a7 => (rb_forF (s0 := (counts_6)) (vs := [4]) (fun (s10 : (List Int)) => [.fz (rI length_here_), .fz (rI begin_here_), .fz (rI minutes_), .ow true a7 (oL rI s10), .un, .un]) (fun (x : Int) Γ => Γ.set 4 (.fz (rI x))) (ps_for (passes_of rfl) rfl (pi_range1 (by rfl) T.z_range (pa_cons peE pa_nil)) (pg_name (i := 4) scLwalk.nd rfl (.inl rfl)) pssS) (ri_range1 (re_var (ρ := rI) (x := minutes_) 2 rfl (pv 2))) (fun _ => rg_name) ⟨.inr rfl, .inr rfl, .inr rfl, .inr rfl, .inl rfl, .inl rfl, trivial⟩ (fun _ => ⟨.inl rfl, .inl rfl, .inl rfl, .inl rfl, .inl rfl, .inl rfl, trivial⟩) (fun _ _ => ⟨.inl rfl, .inl rfl, .inl rfl, .inl rfl, .inl rfl, .inl rfl, trivial⟩) (fun (s10 : (List Int)) (w11 : Int) => (rb_set (ps_set (i := 5) scLwalk.nd rfl (.inl rfl) peE) (re_mod (re_intI (re_add (re_var (ρ := rI) (x := begin_here_) 1 rfl (pv 1)) (re_var (ρ := rI) (x := w11) 4 rfl (pv 4))) T.z_int) (re_var (ρ := rI) (x := length_here_) 0 rfl (pv 0))) rfl fun (place_16 : Int) => (rb_setix (ps_asg peE (pg_sub (pv 3) peE set_list)) rfl (re_add (re_ixO rfl (pv 3) (re_var (ρ := rI) (x := place_16) 5 rfl (pv 5))) re_int) (re_var (ρ := rI) (x := place_16) 5 rfl (pv 5)) rfl fun x20 j21 n22 => (rb_nil (x := ((s10.set n22 x20))) (.inr rfl) ⟨.inr rfl, .inr rfl, .inr rfl, .inr rfl, .inl rfl, .inl rfl, trivial⟩)))) fun (s23 : (List Int)) => (rb_retO (y := s23) (z := s23) (k := oL rI) rfl (pv 3) rfl rfl)))
end
end DD
namespace DD
open PySem PySem.Spec PyProof.Rows L2 KO SX RF
section
variable {P : Program} {w : World} {K : PySem.W.Frag} {mg : Str → Option Value} {base : Heap}
theorem scLeven : FnScope ["_law_length_here", "_law_begin_here", "_law_minutes", "_law_turns", "_law_rest", "_law_k"] ["_law_length_here", "_law_begin_here", "_law_minutes"] (defScope sLeven) := ⟨rfl, rfl, rfl, by decide +kernel, rfl, by decide +kernel, by decide +kernel⟩
def P_Leven (length_here_ : Int) (begin_here_ : Int) (minutes_ : Int) : Mo (List Int) :=
  (((pure minutes_) >>= fun i1 => (pure length_here_) >>= fun j2 => Mo.rq (CDiv i1 j2) (i1 / j2)) >>= fun turns_3 => (((pure minutes_) >>= fun i4 => (pure length_here_) >>= fun j5 => Mo.rq (0 < j5) (i4 % j5)) >>= fun rest_6 => ((((pure length_here_) >>= fun i8 => Mo.rq (-(2 ^ 62) ≤ i8 ∧ i8 < 2 ^ 62) (rangeL 0 i8.toNat)) >>= Mo.lc (fun w10 => (pure true)) (fun w10 => ((pure turns_3) >>= fun i18 => (((((pure w10) >>= fun i11 => (pure begin_here_) >>= fun j12 => pure (i11 - j12)) >>= fun i13 => (pure length_here_) >>= fun j14 => Mo.rq (0 < j14) (i13 % j14)) >>= fun i15 => (pure rest_6) >>= fun j16 => pure (decide (i15 < j16))) >>= fun b17 => pure (if b17 then (1 : Int) else 0)) >>= fun j19 => pure (i18 + j19)))) >>= fun r7 => pure r7)))
theorem fn_Leven (T : Tx K mg) : FnOk P w K mg base (L2.CX P w) 2 T.f_law_even T.d_law_even ["_law_length_here", "_law_begin_here", "_law_minutes"] (spR K mg (fun (c : Unit) (z : Int × Int × Int × Unit) => [.fz (rI z.1), .fz (rI z.2.1), .fz (rI z.2.2.1)]) (fun z => P_Leven z.1 z.2.1 z.2.2.1) (RK.ow (oL rI))) := by
  refine fn_mk (Γe := fun c z => [.un, .un, .un, .un, .un, .un]) (Γ0 := fun c z => [.fz (rI z.1), .fz (rI z.2.1), .fz (rI z.2.2.1), .un, .un, .un]) (Z := (fun _ _ x => .ret ((RK.ow (oL rI)).ok x))) T.F_law_even scLeven (fun _ _ => rfl) (fun _ _ => rfl) (fun _ _ => ⟨.inl rfl, .inl rfl, .inl rfl, .inl rfl, .inl rfl, .inl rfl, trivial⟩) (fun _ _ _ _ _ _ h => (own_none rfl h).elim) (fun _ _ _ => .inl rfl) (fun cdv A outer s H E a0 y hr => ?_)
  obtain ⟨length_here_, begin_here_, minutes_, _⟩ := y
  show RB _ _ ([.un, .un, .un, .un, .un, .un] : RF.Ctx) false [.fz (rI length_here_), .fz (rI begin_here_), .fz (rI minutes_), .un, .un, .un] _ (P_Leven length_here_ begin_here_ minutes_) _
  exact (rb_set (ps_set (i := 3) scLeven.nd rfl (.inr rfl) peE) (re_div (re_var (ρ := rI) (x := minutes_) 2 rfl (pv 2)) (re_var (ρ := rI) (x := length_here_) 0 rfl (pv 0))) rfl fun (turns_3 : Int) => (rb_set (ps_set (i := 4) scLeven.nd rfl (.inr rfl) peE) (re_mod (re_intI (re_var (ρ := rI) (x := minutes_) 2 rfl (pv 2)) T.z_int) (re_var (ρ := rI) (x := length_here_) 0 rfl (pv 0))) rfl fun (rest_6 : Int) => (rb_ret (fun (r7 : (List Int)) => r7) (re_of (pe_lc (own := [("_law_k", 5)]) (g := gName 5) rfl scLeven.nd (pi_range1 (by rfl) T.z_range (pa_cons peE pa_nil)) (blkOk_by (own := [("_law_k", 5)]) (N := ["_law_length_here", "_law_begin_here", "_law_minutes", "_law_turns", "_law_rest", "_law_k"]) (sc := defScope sLeven) (by decide +kernel)) (fun _ _ _ _ _ => pg_name (i := 5) scLeven.nd rfl (.inl rfl)) ptPi peEi) (rte_lc (vs := [5]) (fun (x : Int) Γ => Γ.set 5 (.fz (rI x))) (ri_range1 (re_var (ρ := rI) (x := length_here_) 0 rfl (pv 0))) (fun _ => rg_name) (fun _ => rgo_name) (un1 rfl) (fun (w10 : Int) => rti_nil) (fun (w10 : Int) _ _ _ _ _ => (re_add (re_var (ρ := rI) (x := turns_3) 3 rfl (pv 3)) (re_intB (re_rc (rc_i i_lt (re_mod (re_intI (re_sub (re_var (ρ := rI) (x := w10) 5 rfl (pv 5)) (re_var (ρ := rI) (x := begin_here_) 1 rfl (pv 1))) T.z_int) (re_var (ρ := rI) (x := length_here_) 0 rfl (pv 0))) (re_var (ρ := rI) (x := rest_6) 4 rfl (pv 4)))) T.z_int))))) (fun _ => rfl))))
end
end DD
namespace DD
open PySem PySem.Spec PyProof.Rows L2 KO SX RF
section
variable {P : Program} {w : World} {K : PySem.W.Frag} {mg : Str → Option Value} {base : Heap}
theorem scLrefuses : FnScope ["_law_length_here", "_law_begin_here", "_law_minutes", "_law_right", "_law_got", "e"] ["_law_length_here", "_law_begin_here", "_law_minutes"] (defScope sLrefuses) := ⟨rfl, rfl, rfl, by decide +kernel, rfl, by decide +kernel, by decide +kernel⟩
def P_Lrefuses (length_here_ : Int) (begin_here_ : Int) (minutes_ : Int) : Mo Bool :=
  ((pure false) >>= fun right_1 => (Mo.catch1 (((pure ()) >>= fun x2 => ((pure length_here_) >>= fun x8 => ((pure begin_here_) >>= fun x6 => ((pure minutes_) >>= fun x4 => (pure ()) >>= fun y5 => pure (x4, y5)) >>= fun y7 => pure (x6, y7)) >>= fun y9 => pure (x8, y9)) >>= fun y3 => P_LoadOf x2 y3.1 y3.2.1 y3.2.2.1) >>= fun got_10 => pure (right_1)) "BadLoad" [] (fun ex11 => (((pure true) >>= fun b12 => if b12 then (pure true) else pure false) >>= fun right_13 => (pure (right_13)))) >>= fun j14 => ((pure j14) >>= fun r15 => pure r15)))
theorem fn_Lrefuses (T : Tx K mg) : FnOk P w K mg base (L2.CX P w) 6 T.f_law_refuses T.d_law_refuses ["_law_length_here", "_law_begin_here", "_law_minutes"] (spR K mg (fun (c : Unit) (z : Int × Int × Int × Unit) => [.fz (rI z.1), .fz (rI z.2.1), .fz (rI z.2.2.1)]) (fun z => P_Lrefuses z.1 z.2.1 z.2.2.1) (RK.fz rB)) := by
  have GLoad_of := fn_LoadOf (P := P) (w := w) (base := base) T
  refine fn_mk (Γe := fun c z => [.un, .un, .un, .un, .un, .un]) (Γ0 := fun c z => [.fz (rI z.1), .fz (rI z.2.1), .fz (rI z.2.2.1), .un, .un, .un]) (Z := (fun _ _ x => .ret ((RK.fz rB).ok x))) T.F_law_refuses scLrefuses (fun _ _ => rfl) (fun _ _ => rfl) (fun _ _ => ⟨.inl rfl, .inl rfl, .inl rfl, .inl rfl, .inl rfl, .inl rfl, trivial⟩) (fun _ _ _ _ _ _ h => (own_none rfl h).elim) (fun _ _ _ => .inl rfl) (fun cdv A outer s H E a0 y hr => ?_)
  obtain ⟨length_here_, begin_here_, minutes_, _⟩ := y
  show RB _ _ ([.un, .un, .un, .un, .un, .un] : RF.Ctx) false [.fz (rI length_here_), .fz (rI begin_here_), .fz (rI minutes_), .un, .un, .un] _ (P_Lrefuses length_here_ begin_here_ minutes_) _
  exact (rb_set (ps_set (i := 3) scLrefuses.nd rfl (.inl rfl) peE) re_bl rfl fun (right_1 : Bool) => (rb_try1U (i := 5) (fls := []) (tgt := (fun (x : OLoad) Γ => Γ.set 4 (.fz ((rLoad T.C_Load) x)))) (jb := fun (got_10 : OLoad) => (right_1)) (fun (j14 : Bool) => [.fz (rI length_here_), .fz (rI begin_here_), .fz (rI minutes_), .fz (rB j14), .un, .un]) (fun (j14 : Bool) => [.fz (rI length_here_), .fz (rI begin_here_), .fz (rI minutes_), .fz (rB j14), .un, .un]) (ps_try_as (i := 5) rfl rfl scLrefuses.nd rfl rfl ⟨rfl, by decide, .inl T.g_DepotError⟩ (takes_of rfl rfl rfl rfl) (fun W pn xe => tb_ok W pn xe) (fun a oe cls d pn => ts_ok a oe cls d pn)) T.g_BadLoad (exm_BadLoad_DepotError T) (by intro n hn; cases hn) (fun pn xe W tk po => body_set (ps_set (i := 4) scLrefuses.nd rfl (.inl rfl) peE) (re_km (mo := (pure ())) (ma := ((pure length_here_) >>= fun x8 => ((pure begin_here_) >>= fun x6 => ((pure minutes_) >>= fun x4 => (pure ()) >>= fun y5 => pure (x4, y5)) >>= fun y7 => pure (x6, y7)) >>= fun y9 => pure (x8, y9))) (pp := fun (y : Int × Int × Int × Unit) => [.fz (rI y.1), .fz (rI y.2.1), .fz (rI y.2.2.1)]) (m := fun z => P_LoadOf z.1 z.2.1 z.2.2.1 z.2.2.2.1) (re_cls (pe_glob (v := .ref T.C_Load) (by rfl) T.g_Load (by rfl))) T.m_Load_of GLoad_of (hr.mono (by decide)) tk (ra_cons (re_var (ρ := rI) (x := length_here_) 0 rfl (pv 0)) (ra_cons (re_var (ρ := rI) (x := begin_here_) 1 rfl (pv 1)) (ra_cons (re_var (ρ := rI) (x := minutes_) 2 rfl (pv 2)) ra_nil))) T.bLoad_of)) (fun (got_10 : OLoad) => ⟨.inr rfl, .inr rfl, .inr rfl, .inr rfl, .inl rfl, .inl rfl, trivial⟩) (fun a oe d pn ex11 hcl hz hf => (rb_set (ps_set (i := 3) scLrefuses.nd rfl (.inl rfl) peE) (re_and (re_exis (excC_BadLoad T) hz hf rfl (pv 5) (pe_glob (v := .ref T.C_BadLoad) rfl T.g_BadLoad rfl) (fun u r => r) (kit_BadLoad_BadLoad T) T.z_isinstance) (re_one (re_exis (excC_BadLoad T) hz hf rfl (pv 5) (pe_bltn (v := .ty "ValueError") (by rfl) T.z_ValueError (by decide +kernel) rfl) (fun u r => r) (kit_BadLoad_VE T) T.z_isinstance))) rfl fun (right_13 : Bool) => (rb_nil (x := (right_13)) (.inl rfl) ⟨.inr rfl, .inr rfl, .inr rfl, .inr rfl, .inl rfl, .inl rfl, trivial⟩))) ⟨.inl rfl, .inl rfl, .inl rfl, .inl rfl, .inl rfl, .inl rfl, trivial⟩ (fun _ => ⟨.inr rfl, .inr rfl, .inr rfl, .inr rfl, .inl rfl, .inl rfl, trivial⟩) (fun _ => ⟨.inl rfl, .inl rfl, .inl rfl, .inl rfl, .inl rfl, .inl rfl, trivial⟩) ⟨.inl rfl, .inl rfl, .inl rfl, .inl rfl, .inl rfl, .inl rfl, trivial⟩ fun (j14 : Bool) => (rb_ret (fun (r15 : Bool) => r15) (re_var (ρ := rB) (x := j14) 3 rfl (pv 3)) (fun _ => rfl))))
end
end DD
namespace DD
open PySem PySem.Spec PyProof.Rows L2 KO SX RF
section
variable {P : Program} {w : World} {K : PySem.W.Frag} {mg : Str → Option Value} {base : Heap}
theorem scLone : FnScope ["_law_length_here", "_law_begin_here", "_law_minutes", "_law_counts", "_law_load", "_law_place"] ["_law_length_here", "_law_begin_here", "_law_minutes"] (defScope sLone) := ⟨rfl, rfl, rfl, by decide +kernel, rfl, by decide +kernel, by decide +kernel⟩
def P_Lone (length_here_ : Int) (begin_here_ : Int) (minutes_ : Int) : Mo Bool :=
  ((((pure length_here_) >>= fun x6 => ((pure begin_here_) >>= fun x4 => ((pure minutes_) >>= fun x2 => (pure ()) >>= fun y3 => pure (x2, y3)) >>= fun y5 => pure (x4, y5)) >>= fun y7 => pure (x6, y7)) >>= fun y1 => P_Lwalk y1.1 y1.2.1 y1.2.2.1) >>= fun counts_8 => (((pure ()) >>= fun x10 => ((pure length_here_) >>= fun x16 => ((pure begin_here_) >>= fun x14 => ((pure minutes_) >>= fun x12 => (pure ()) >>= fun y13 => pure (x12, y13)) >>= fun y15 => pure (x14, y15)) >>= fun y17 => pure (x16, y17)) >>= fun y11 => P_LoadOf x10 y11.1 y11.2.1 y11.2.2.1) >>= fun load_18 => ((((Mo.calm (((pure load_18) >>= fun x23 => ((pure counts_8) >>= fun x21 => (pure ()) >>= fun y22 => pure (x21, y22)) >>= fun y24 => pure (x23, y24)) >>= fun y20 => P_Lisload y20.1 y20.2.1)) >>= fun b25 => pure (!b25)) >>= fun b35 => if b35 then pure true else ((((((pure load_18) >>= fun x26 => Mo.calm (P_LoadAbs x26)) >>= fun v27 => Mo.rq (Enc.ok rI v27) (Enc.d rI v27)) >>= fun x32 => (((pure minutes_) >>= fun v28 => Mo.rq (Enc.ok rI v28) (Enc.d rI v28)) >>= fun x30 => (pure ()) >>= fun y31 => pure (x30, y31)) >>= fun y33 => pure (x32, y33)) >>= fun y29 => Mo.rq (y29.1 = y29.2.1) true) >>= fun b34 => pure (!b34))) >>= fun c36 => if c36 = true then ((pure false) >>= fun r37 => pure r37) else ((pure (0 : Int)) >>= fun i41 => (((pure (0 : Int)) >>= fun i38 => Mo.get (atI counts_8 i38)) >>= fun i39 => (pure (1 : Int)) >>= fun j40 => pure (i39 + j40)) >>= fun c42 => Mo.req (0 ≤ i41 ∧ i41 < load_18.length ∧ 0 ≤ c42) >>= fun _ => (((Mo.calm ((((pure ()) >>= fun x53 => ((pure length_here_) >>= fun x59 => ((pure begin_here_) >>= fun x57 => ((pure minutes_) >>= fun x55 => (pure ()) >>= fun y56 => pure (x55, y56)) >>= fun y58 => pure (x57, y58)) >>= fun y60 => pure (x59, y60)) >>= fun y54 => P_LoadOf x53 y54.1 y54.2.1 y54.2.2.1) >>= fun x63 => ((pure counts_8) >>= fun x61 => (pure ()) >>= fun y62 => pure (x61, y62)) >>= fun y64 => pure (x63, y64)) >>= fun y52 => P_Lisload y52.1 y52.2.1)) >>= fun b65 => pure (!b65)) >>= fun c66 => if c66 = true then ((pure false) >>= fun r67 => pure r67) else ((((pure begin_here_) >>= fun i68 => (pure minutes_) >>= fun j69 => pure (i68 + j69)) >>= fun i70 => (pure length_here_) >>= fun j71 => Mo.rq (0 < j71) (i70 % j71)) >>= fun place_72 => ((((pure place_72) >>= fun i73 => Mo.get (atI counts_8 i73)) >>= fun i74 => (pure (1 : Int)) >>= fun j75 => pure (i74 + j75)) >>= fun x76 => (pure place_72) >>= fun j77 => Mo.get (ixN counts_8.length j77) >>= fun n78 => (((((pure ()) >>= fun x81 => ((pure length_here_) >>= fun x89 => ((pure begin_here_) >>= fun x87 => (((pure minutes_) >>= fun i83 => (pure (1 : Int)) >>= fun j84 => pure (i83 + j84)) >>= fun x85 => (pure ()) >>= fun y86 => pure (x85, y86)) >>= fun y88 => pure (x87, y88)) >>= fun y90 => pure (x89, y90)) >>= fun y82 => P_LoadOf x81 y82.1 y82.2.1 y82.2.2.1) >>= fun x93 => ((pure (counts_8.set n78 x76)) >>= fun x91 => (pure ()) >>= fun y92 => pure (x91, y92)) >>= fun y94 => pure (x93, y94)) >>= fun y80 => P_Lisload y80.1 y80.2.1) >>= fun r79 => pure r79))))))))
theorem fn_Lone (T : Tx K mg) : FnOk P w K mg base (L2.CX P w) 10 T.f_law_one T.d_law_one ["_law_length_here", "_law_begin_here", "_law_minutes"] (spR K mg (fun (c : Unit) (z : Int × Int × Int × Unit) => [.fz (rI z.1), .fz (rI z.2.1), .fz (rI z.2.2.1)]) (fun z => P_Lone z.1 z.2.1 z.2.2.1) (RK.fz rB)) := by
  have GLoad_abs := fn_LoadAbs (P := P) (w := w) (base := base) T
  have GLoad_of := fn_LoadOf (P := P) (w := w) (base := base) T
  have GLoad_put := fn_LoadPut (P := P) (w := w) (base := base) T
  have G_law_is_load := fn_Lisload (P := P) (w := w) (base := base) T
  have G_law_same := fn_same (P := P) (w := w) (base := base) T
  have G_law_walk := fn_Lwalk (P := P) (w := w) (base := base) T
  refine fn_mk (Γe := fun c z => [.un, .un, .un, .un, .un, .un]) (Γ0 := fun c z => [.fz (rI z.1), .fz (rI z.2.1), .fz (rI z.2.2.1), .un, .un, .un]) (Z := (fun _ _ x => .ret ((RK.fz rB).ok x))) T.F_law_one scLone (fun _ _ => rfl) (fun _ _ => rfl) (fun _ _ => ⟨.inl rfl, .inl rfl, .inl rfl, .inl rfl, .inl rfl, .inl rfl, trivial⟩) (fun _ _ _ _ _ _ h => (own_none rfl h).elim) (fun _ _ _ => .inl rfl) (fun cdv A outer s H E a0 y hr => ?_)
  obtain ⟨length_here_, begin_here_, minutes_, _⟩ := y
  show RB _ _ ([.un, .un, .un, .un, .un, .un] : RF.Ctx) false [.fz (rI length_here_), .fz (rI begin_here_), .fz (rI minutes_), .un, .un, .un] _ (P_Lone length_here_ begin_here_ minutes_) _
  exact (rb_age (Γa := fun hN => [.lk true hN (rI length_here_), .fz (rI begin_here_), .fz (rI minutes_), .un, .un, .un]) (fun hN => ⟨.lk _, .id _, .id _, .id _, .id _, .id _, trivial⟩) (fun hN => ⟨.inl rfl, .inl rfl, .inl rfl, .inl rfl, .inl rfl, .inl rfl, trivial⟩) fun hN => (rb_setO (ps_set (i := 3) scLone.nd rfl (.inl rfl) peE) (re_call () G_law_walk (hr.mono (by decide)) (takes_of rfl rfl rfl rfl) (ra_cons (re_varL (ρ := rI) (x := length_here_) 0 rfl (pv 0)) (ra_cons (re_var (ρ := rI) (x := begin_here_) 1 rfl (pv 1)) (ra_cons (re_var (ρ := rI) (x := minutes_) 2 rfl (pv 2)) ra_nil))) T.g_law_walk T.F_law_walk.kp T.b_law_walk) rfl fun (counts_8 : (List Int)) a9 => (rb_set (ps_set (i := 4) scLone.nd rfl (.inl rfl) peE) (re_nwc (h := hN) (j := 0) rfl (re_km (mo := (pure ())) (ma := ((pure length_here_) >>= fun x16 => ((pure begin_here_) >>= fun x14 => ((pure minutes_) >>= fun x12 => (pure ()) >>= fun y13 => pure (x12, y13)) >>= fun y15 => pure (x14, y15)) >>= fun y17 => pure (x16, y17))) (pp := fun (y : Int × Int × Int × Unit) => [.fz (rI y.1), .fz (rI y.2.1), .fz (rI y.2.2.1)]) (m := fun z => P_LoadOf z.1 z.2.1 z.2.2.1 z.2.2.2.1) (re_cls (pe_glob (v := .ref T.C_Load) (by rfl) T.g_Load (by rfl))) T.m_Load_of (fn_nw GLoad_of (fun _ _ => ⟨fun _ _ _ h => h, fun _ _ _ h => h, fun _ _ _ h => h, fun _ _ _ h => h, trivial⟩)) (hr.mono (by decide)) (takes_of rfl rfl rfl rfl) (ra_cons (re_varL (ρ := rI) (x := length_here_) 0 rfl (pv 0)) (ra_cons (re_var (ρ := rI) (x := begin_here_) 1 rfl (pv 1)) (ra_cons (re_var (ρ := rI) (x := minutes_) 2 rfl (pv 2)) ra_nil))) T.bLoad_of)) rfl fun (load_18 : OLoad) => (rb_if1 (rt_w (rw_or (rt_not (rt_val (re_bor (j := 3) rfl trivial (re_call () G_law_is_load (hr.mono (by decide)) (takes_of rfl rfl rfl rfl) (ra_cons (re_nwo (re_var (ρ := (rNw hN (rLoad T.C_Load))) (x := load_18) 4 rfl (pv 4))) (ra_cons (re_var (ρ := (rL rI)) (x := counts_8) 3 rfl (pv 3)) ra_nil)) T.g_law_is_load T.F_law_is_load.kp T.b_law_is_load)))) (rw_or1 (rt_not (rt_val (re_call () G_law_same (hr.mono (by decide)) (takes_of rfl rfl rfl rfl) (ra_cons (re_enc (ρ := rI) (re_absO (m := fun z => P_LoadAbs z.1) (fsLoad) T.m_Load_abs GLoad_abs (hr.mono (by decide)) (takes_of rfl rfl rfl rfl) T.bLoad_abs (re_nwo (re_var (ρ := (rNw hN (rLoad T.C_Load))) (x := load_18) 4 rfl (pv 4))) T.z_abs)) (ra_cons (re_enc (ρ := rI) (re_var (ρ := rI) (x := minutes_) 2 rfl (pv 2))) ra_nil)) T.g_law_same T.F_law_same.kp T.b_law_same)))))) (rb_weak (Γ' := [.lk true hN (rI length_here_), .fz (rI begin_here_), .fz (rI minutes_), .un, .fz ((rNw hN (rLoad T.C_Load)) load_18), .un]) ⟨.inr rfl, .inr rfl, .inr rfl, .inl rfl, .inr rfl, .inl rfl, trivial⟩ ⟨.inl rfl, .inl rfl, .inl rfl, .inl rfl, .inl rfl, .inl rfl, trivial⟩ (rb_ret (fun (r37 : Bool) => r37) re_bl (fun _ => rfl))) (rb_putM (i := 4) (j := 0) (xs := load_18) (Γ' := [.lk true hN (rI length_here_), .fz (rI begin_here_), .fz (rI minutes_), .ow true a9 (oL rI counts_8), .un, .un]) rfl rfl (pv 4) T.cl_Load T.m_Load_put GLoad_put (hr.mono (by decide)) (takes_of rfl rfl rfl rfl) T.bLoad_put (by decide) re_int (re_add (re_ixO rfl (pv 3) re_int) re_int) ⟨.inl rfl, .inl rfl, .inl rfl, .inl rfl, .inl rfl, .inl rfl, trivial⟩ (fun b vs ws nb => ⟨.lk (nlr _), .cf (rp_nl (nlr _)), .cf (rp_nl (nlr _)), .ow (rp_nlp inferInstance), .un _, .un _, trivial⟩) (rb_if1 (rt_not (rt_val (re_bor (j := 3) rfl trivial (re_call () G_law_is_load (hr.mono (by decide)) (takes_of rfl rfl rfl rfl) (ra_cons (re_km (mo := (pure ())) (ma := ((pure length_here_) >>= fun x59 => ((pure begin_here_) >>= fun x57 => ((pure minutes_) >>= fun x55 => (pure ()) >>= fun y56 => pure (x55, y56)) >>= fun y58 => pure (x57, y58)) >>= fun y60 => pure (x59, y60))) (pp := fun (y : Int × Int × Int × Unit) => [.fz (rI y.1), .fz (rI y.2.1), .fz (rI y.2.2.1)]) (m := fun z => P_LoadOf z.1 z.2.1 z.2.2.1 z.2.2.2.1) (re_cls (pe_glob (v := .ref T.C_Load) (by rfl) T.g_Load (by rfl))) T.m_Load_of GLoad_of (hr.mono (by decide)) (takes_of rfl rfl rfl rfl) (ra_cons (re_varL (ρ := rI) (x := length_here_) 0 rfl (pv 0)) (ra_cons (re_var (ρ := rI) (x := begin_here_) 1 rfl (pv 1)) (ra_cons (re_var (ρ := rI) (x := minutes_) 2 rfl (pv 2)) ra_nil))) T.bLoad_of) (ra_cons (re_var (ρ := (rL rI)) (x := counts_8) 3 rfl (pv 3)) ra_nil)) T.g_law_is_load T.F_law_is_load.kp T.b_law_is_load)))) (rb_weak (Γ' := [.lk true hN (rI length_here_), .fz (rI begin_here_), .fz (rI minutes_), .un, .un, .un]) ⟨.inr rfl, .inr rfl, .inr rfl, .inl rfl, .inl rfl, .inl rfl, trivial⟩ ⟨.inl rfl, .inl rfl, .inl rfl, .inl rfl, .inl rfl, .inl rfl, trivial⟩ (rb_ret (fun (r67 : Bool) => r67) re_bl (fun _ => rfl))) (rb_set (ps_set (i := 5) scLone.nd rfl (.inl rfl) peE) (re_mod (re_intI (re_add (re_var (ρ := rI) (x := begin_here_) 1 rfl (pv 1)) (re_var (ρ := rI) (x := minutes_) 2 rfl (pv 2))) T.z_int) (re_varL (ρ := rI) (x := length_here_) 0 rfl (pv 0))) rfl fun (place_72 : Int) => (rb_setix (ps_asg peE (pg_sub (pv 3) peE set_list)) rfl (re_add (re_ixO rfl (pv 3) (re_var (ρ := rI) (x := place_72) 5 rfl (pv 5))) re_int) (re_var (ρ := rI) (x := place_72) 5 rfl (pv 5)) rfl fun x76 j77 n78 => (rb_frz (i := 3) (p := rL rI (counts_8.set n78 x76)) rfl (frz_L _ _) rfl (rb_ret (fun (r79 : Bool) => r79) (re_call () G_law_is_load (hr.mono (by decide)) (takes_of rfl rfl rfl rfl) (ra_cons (re_km (mo := (pure ())) (ma := ((pure length_here_) >>= fun x89 => ((pure begin_here_) >>= fun x87 => (((pure minutes_) >>= fun i83 => (pure (1 : Int)) >>= fun j84 => pure (i83 + j84)) >>= fun x85 => (pure ()) >>= fun y86 => pure (x85, y86)) >>= fun y88 => pure (x87, y88)) >>= fun y90 => pure (x89, y90))) (pp := fun (y : Int × Int × Int × Unit) => [.fz (rI y.1), .fz (rI y.2.1), .fz (rI y.2.2.1)]) (m := fun z => P_LoadOf z.1 z.2.1 z.2.2.1 z.2.2.2.1) (re_cls (pe_glob (v := .ref T.C_Load) (by rfl) T.g_Load (by rfl))) T.m_Load_of GLoad_of (hr.mono (by decide)) (takes_of rfl rfl rfl rfl) (ra_cons (re_varL (ρ := rI) (x := length_here_) 0 rfl (pv 0)) (ra_cons (re_var (ρ := rI) (x := begin_here_) 1 rfl (pv 1)) (ra_cons (re_add (re_var (ρ := rI) (x := minutes_) 2 rfl (pv 2)) re_int) ra_nil))) T.bLoad_of) (ra_cons (re_var (ρ := (rL rI)) (x := (counts_8.set n78 x76)) 3 rfl (pv 3)) ra_nil)) T.g_law_is_load T.F_law_is_load.kp T.b_law_is_load) (fun _ => rfl)))))))))))
end
end DD
namespace DD
open PySem PySem.Spec PyProof.Rows L2 KO SX RF
section
variable {P : Program} {w : World} {K : PySem.W.Frag} {mg : Str → Option Value} {base : Heap}
theorem scLrow : FnScope ["_law_length_here", "_law_begin_here", "_law_stretches", "_law_total", "_law_back", "_law_at", "_law_minutes", "_law_together", "_law_found", "_law_told"] ["_law_length_here", "_law_begin_here", "_law_stretches"] (defScope sLrow) := ⟨rfl, rfl, rfl, by decide +kernel, rfl, by decide +kernel, by decide +kernel⟩
def P_Lrow (length_here_ : Int) (begin_here_ : Int) (stretches_ : (List Int)) : Mo Bool :=
  (((pure ()) >>= fun _ => ((pure length_here_) >>= fun x3 => (pure ()) >>= fun y4 => pure (x3, y4)) >>= fun y2 => P_LoadZero y2.1) >>= fun total_5 => (((pure ()) >>= fun _ => ((pure length_here_) >>= fun x9 => (pure ()) >>= fun y10 => pure (x9, y10)) >>= fun y8 => P_LoadZero y8.1) >>= fun back_11 => ((pure begin_here_) >>= fun at_13 => ((pure stretches_) >>= fun xs => Mo.loop (fun s14 w15 => (((((pure length_here_) >>= fun x21 => ((pure s14.2) >>= fun x19 => ((pure w15) >>= fun x17 => (pure ()) >>= fun y18 => pure (x17, y18)) >>= fun y20 => pure (x19, y20)) >>= fun y22 => pure (x21, y22)) >>= fun y16 => P_Lone y16.1 y16.2.1 y16.2.2.1) >>= fun b23 => pure (!b23)) >>= fun c24 => if c24 = true then ((pure false) >>= fun r25 => pure (Lp.ret r25)) else (((pure ()) >>= fun x26 => ((pure length_here_) >>= fun x32 => ((pure s14.2) >>= fun x30 => ((pure w15) >>= fun x28 => (pure ()) >>= fun y29 => pure (x28, y29)) >>= fun y31 => pure (x30, y31)) >>= fun y33 => pure (x32, y33)) >>= fun y27 => P_LoadOf x26 y27.1 y27.2.1 y27.2.2.1) >>= fun y35 => Mo.calm (P_LoadIadd s14.1 y35) >>= fun total_34 => (((pure s14.2) >>= fun i36 => (pure w15) >>= fun j37 => pure (i36 + j37)) >>= fun at_38 => (pure (Lp.go (total_34, at_38))))))) xs (total_5, at_13) >>= Lp.out (fun s39 => (((pure stretches_) >>= fun x40 => pure x40.reverse) >>= fun xs => Mo.fold (fun s41 w42 => (((pure s41.1) >>= fun i43 => (pure w42) >>= fun j44 => pure (i43 - j44)) >>= fun at_45 => (((pure ()) >>= fun x46 => ((pure length_here_) >>= fun x52 => ((pure at_45) >>= fun x50 => ((pure w42) >>= fun x48 => (pure ()) >>= fun y49 => pure (x48, y49)) >>= fun y51 => pure (x50, y51)) >>= fun y53 => pure (x52, y53)) >>= fun y47 => P_LoadOf x46 y47.1 y47.2.1 y47.2.2.1) >>= fun y55 => Mo.calm (P_LoadIadd s41.2 y55) >>= fun back_54 => (pure (at_45, back_54))))) xs (s39.2, back_11) >>= fun s56 => (((pure ()) >>= fun x57 => ((pure length_here_) >>= fun x64 => ((pure begin_here_) >>= fun x62 => (((pure stretches_) >>= fun x59 => pure x59.sum) >>= fun x60 => (pure ()) >>= fun y61 => pure (x60, y61)) >>= fun y63 => pure (x62, y63)) >>= fun y65 => pure (x64, y65)) >>= fun y58 => P_LoadOf x57 y58.1 y58.2.1 y58.2.2.1) >>= fun together_66 => (((((pure together_66) >>= fun x78 => ((((pure length_here_) >>= fun x74 => ((pure begin_here_) >>= fun x72 => (((pure stretches_) >>= fun x69 => pure x69.sum) >>= fun x70 => (pure ()) >>= fun y71 => pure (x70, y71)) >>= fun y73 => pure (x72, y73)) >>= fun y75 => pure (x74, y75)) >>= fun y68 => P_Leven y68.1 y68.2.1 y68.2.2.1) >>= fun x76 => (pure ()) >>= fun y77 => pure (x76, y77)) >>= fun y79 => pure (x78, y79)) >>= fun y67 => P_Lisload y67.1 y67.2.1) >>= fun b80 => pure (!b80)) >>= fun c81 => if c81 = true then ((pure false) >>= fun r82 => pure r82) else (((((pure s39.1) >>= fun x83 => (pure together_66) >>= fun y84 => Mo.calm (P_LoadEq x83 y84)) >>= fun x104 => (((pure s56.2) >>= fun x85 => (pure together_66) >>= fun y86 => Mo.calm (P_LoadEq x85 y86)) >>= fun x102 => ((((pure together_66) >>= fun x87 => (pure begin_here_) >>= fun y88 => Mo.calm (P_LoadLshift x87 y88)) >>= fun x98 => ((pure ()) >>= fun x89 => ((pure length_here_) >>= fun x96 => ((pure (0 : Int)) >>= fun x94 => (((pure stretches_) >>= fun x91 => pure x91.sum) >>= fun x92 => (pure ()) >>= fun y93 => pure (x92, y93)) >>= fun y95 => pure (x94, y95)) >>= fun y97 => pure (x96, y97)) >>= fun y90 => P_LoadOf x89 y90.1 y90.2.1 y90.2.2.1) >>= fun y99 => Mo.calm (P_LoadEq x98 y99)) >>= fun x100 => (pure ()) >>= fun y101 => pure (x100, y101)) >>= fun y103 => pure (x102, y103)) >>= fun y105 => pure (x104, y105)) >>= fun y106 => pure [y106.1, y106.2.1, y106.2.2.1]) >>= fun found_107 => (((pure found_107) >>= fun x124 => (((((pure ()) >>= fun x108 => ((pure length_here_) >>= fun x117 => (((pure begin_here_) >>= fun i110 => (pure length_here_) >>= fun j111 => pure (i110 + j111)) >>= fun x115 => (((pure stretches_) >>= fun x112 => pure x112.sum) >>= fun x113 => (pure ()) >>= fun y114 => pure (x113, y114)) >>= fun y116 => pure (x115, y116)) >>= fun y118 => pure (x117, y118)) >>= fun y109 => P_LoadOf x108 y109.1 y109.2.1 y109.2.2.1) >>= fun x119 => (pure together_66) >>= fun y120 => Mo.calm (P_LoadEq x119 y120)) >>= fun x121 => (pure ()) >>= fun y122 => pure (x121, y122)) >>= fun y123 => pure [y123.1]) >>= fun y125 => Mo.rq (x124.length + y125.length ≤ sizeLine) (x124 ++ y125)) >>= fun found_126 => ((((pure found_126) >>= Mo.lc (fun w130 => (((((pure w130) >>= fun v131 => Mo.rq (Enc.ok rB v131) (Enc.d rB v131)) >>= fun x136 => (((pure true) >>= fun v132 => Mo.rq (Enc.ok rB v132) (Enc.d rB v132)) >>= fun x134 => (pure ()) >>= fun y135 => pure (x134, y135)) >>= fun y137 => pure (x136, y137)) >>= fun y133 => Mo.rq (y133.1 = y133.2.1) true) >>= fun b138 => pure (!b138))) (fun w130 => (pure w130))) >>= fun x128 => (pure []) >>= fun y129 => Mo.rq (Eqk (rL rB) x128 ∧ Eqk (rL rB) y129) (decide (x128 = y129))) >>= fun r127 => pure r127))))))) (fun x => x)))))
theorem fn_Lrow (T : Tx K mg) : FnOk P w K mg base (L2.CX P w) 11 T.f_law_row T.d_law_row ["_law_length_here", "_law_begin_here", "_law_stretches"] (spR K mg (fun (c : Unit) (z : Int × Int × (List Int) × Unit) => [.fz (rI z.1), .fz (rI z.2.1), .fz ((rL rI) z.2.2.1)]) (fun z => P_Lrow z.1 z.2.1 z.2.2.1) (RK.fz rB)) := by
  have GLoad_eq := fn_LoadEq (P := P) (w := w) (base := base) T
  have GLoad_iadd := fn_LoadIadd (P := P) (w := w) (base := base) T
  have GLoad_lshift := fn_LoadLshift (P := P) (w := w) (base := base) T
  have GLoad_of := fn_LoadOf (P := P) (w := w) (base := base) T
  have GLoad_zero := fn_LoadZero (P := P) (w := w) (base := base) T
  have G_law_even := fn_Leven (P := P) (w := w) (base := base) T
  have G_law_is_load := fn_Lisload (P := P) (w := w) (base := base) T
  have G_law_one := fn_Lone (P := P) (w := w) (base := base) T
  have G_law_same := fn_same (P := P) (w := w) (base := base) T
  refine fn_mk (Γe := fun c z => [.un, .un, .un, .un, .un, .un, .un, .un, .un, .un]) (Γ0 := fun c z => [.fz (rI z.1), .fz (rI z.2.1), .fz ((rL rI) z.2.2.1), .un, .un, .un, .un, .un, .un, .un]) (Z := (fun _ _ x => .ret ((RK.fz rB).ok x))) T.F_law_row scLrow (fun _ _ => rfl) (fun _ _ => rfl) (fun _ _ => ⟨.inl rfl, .inl rfl, .inl rfl, .inl rfl, .inl rfl, .inl rfl, .inl rfl, .inl rfl, .inl rfl, .inl rfl, trivial⟩) (fun _ _ _ _ _ _ h => (own_none rfl h).elim) (fun _ _ _ => .inl rfl) (fun cdv A outer s H E a0 y hr => ?_)
  obtain ⟨length_here_, begin_here_, stretches_, _⟩ := y
  show RB _ _ ([.un, .un, .un, .un, .un, .un, .un, .un, .un, .un] : RF.Ctx) false [.fz (rI length_here_), .fz (rI begin_here_), .fz ((rL rI) stretches_), .un, .un, .un, .un, .un, .un, .un] _ (P_Lrow length_here_ begin_here_ stretches_) _
  exact (rb_setO (ps_set (i := 3) scLrow.nd rfl (.inl rfl) peE) (re_sm (mo := (pure ())) (ma := ((pure length_here_) >>= fun x3 => (pure ()) >>= fun y4 => pure (x3, y4))) (pp := fun (y : Int × Unit) => [.fz (rI y.1)]) (m := fun z => P_LoadZero z.1) (re_cls (pe_glob (v := .ref T.C_Load) (by rfl) T.g_Load (by rfl))) T.m_Load_zero (fn_ow GLoad_zero (fun _ _ => ⟨fun _ _ _ h => h, trivial⟩) (fun _ => rfl) (fun y F a u dx us gs h k => ni_L1 y F a u dx us gs h k)) (hr.mono (by decide)) (takes_of rfl rfl rfl rfl) (ra_cons (re_var (ρ := rI) (x := length_here_) 0 rfl (pv 0)) ra_nil) T.bLoad_zero) rfl fun (total_5 : OLoad) a6 => (rb_setO (ps_set (i := 4) scLrow.nd rfl (.inl rfl) peE) (re_sm (mo := (pure ())) (ma := ((pure length_here_) >>= fun x9 => (pure ()) >>= fun y10 => pure (x9, y10))) (pp := fun (y : Int × Unit) => [.fz (rI y.1)]) (m := fun z => P_LoadZero z.1) (re_cls (pe_glob (v := .ref T.C_Load) (by rfl) T.g_Load (by rfl))) T.m_Load_zero (fn_ow GLoad_zero (fun _ _ => ⟨fun _ _ _ h => h, trivial⟩) (fun _ => rfl) (fun y F a u dx us gs h k => ni_L1 y F a u dx us gs h k)) (hr.mono (by decide)) (takes_of rfl rfl rfl rfl) (ra_cons (re_var (ρ := rI) (x := length_here_) 0 rfl (pv 0)) ra_nil) T.bLoad_zero) rfl fun (back_11 : OLoad) a12 => (rb_set (ps_set (i := 5) scLrow.nd rfl (.inl rfl) peE) (re_var (ρ := rI) (x := begin_here_) 1 rfl (pv 1)) rfl fun (at_13 : Int) => (rb_for (s0 := (total_5, at_13)) (vs := [6]) (Zr := (fun x => .ret ((RK.fz rB).ok x))) (kr := (fun x => x)) (fun (s14 : OLoad × Int) => [.fz (rI length_here_), .fz (rI begin_here_), .fz ((rL rI) stretches_), .ow true a6 (oIn T.C_Load (fsLoad s14.1)), .ow true a12 (oIn T.C_Load (fsLoad back_11)), .fz (rI s14.2), .un, .un, .un, .un]) (fun (x : Int) Γ => Γ.set 6 (.fz (rI x))) (ps_for (passes_of rfl) rfl (pi_list peE) (pg_name (i := 6) scLrow.nd rfl (.inl rfl)) pssS) (ri_list (re_var (ρ := (rL rI)) (x := stretches_) 2 rfl (pv 2))) (fun _ => rg_name) ⟨.inr rfl, .inr rfl, .inr rfl, .inr rfl, .inr rfl, .inr rfl, .inl rfl, .inl rfl, .inl rfl, .inl rfl, trivial⟩ (fun _ => ⟨.inl rfl, .inl rfl, .inl rfl, .inl rfl, .inl rfl, .inl rfl, .inl rfl, .inl rfl, .inl rfl, .inl rfl, trivial⟩) (fun _ _ => ⟨.inl rfl, .inl rfl, .inl rfl, .inl rfl, .inl rfl, .inl rfl, .inl rfl, .inl rfl, .inl rfl, .inl rfl, trivial⟩) (fun (s14 : OLoad × Int) (w15 : Int) => (rb_if1 (rt_not (rt_val (re_call () G_law_one (hr.mono (by decide)) (takes_of rfl rfl rfl rfl) (ra_cons (re_var (ρ := rI) (x := length_here_) 0 rfl (pv 0)) (ra_cons (re_var (ρ := rI) (x := s14.2) 5 rfl (pv 5)) (ra_cons (re_var (ρ := rI) (x := w15) 6 rfl (pv 6)) ra_nil))) T.g_law_one T.F_law_one.kp T.b_law_one))) (rb_ret (fun (r25 : Bool) => (Lp.ret r25)) re_bl (fun _ => rfl)) (rb_augM (C := T.C_Load) (m := fun (z : OLoad × OLoad) => P_LoadIadd z.1 z.2) (fi := fun (z : OLoad × OLoad) => fsLoad z.1) (pp := fun (z : OLoad × OLoad) => [.fz ((rLoad T.C_Load) z.2)]) (fo := fun (_ : OLoad × OLoad) (y : OLoad) => fsLoad y) (fun (v : OLoad) => (s14.1, v)) (ps_aug (i := 3) scLrow.nd rfl (.inl rfl) peE (pip_own rfl T.m_Load_iadd T.sf_Load GLoad_iadd (hr.mono (by decide)) T.bLoad_iadd (pass_calm (takes_of rfl rfl rfl rfl)))) rfl (re_km (mo := (pure ())) (ma := ((pure length_here_) >>= fun x32 => ((pure s14.2) >>= fun x30 => ((pure w15) >>= fun x28 => (pure ()) >>= fun y29 => pure (x28, y29)) >>= fun y31 => pure (x30, y31)) >>= fun y33 => pure (x32, y33))) (pp := fun (y : Int × Int × Int × Unit) => [.fz (rI y.1), .fz (rI y.2.1), .fz (rI y.2.2.1)]) (m := fun z => P_LoadOf z.1 z.2.1 z.2.2.1 z.2.2.2.1) (re_cls (pe_glob (v := .ref T.C_Load) (by rfl) T.g_Load (by rfl))) T.m_Load_of GLoad_of (hr.mono (by decide)) (takes_of rfl rfl rfl rfl) (ra_cons (re_var (ρ := rI) (x := length_here_) 0 rfl (pv 0)) (ra_cons (re_var (ρ := rI) (x := s14.2) 5 rfl (pv 5)) (ra_cons (re_var (ρ := rI) (x := w15) 6 rfl (pv 6)) ra_nil))) T.bLoad_of) (fun _ => rfl) (fun _ => rfl) rfl fun (y35 : OLoad) (total_34 : OLoad) => (rb_set (ps_set (i := 5) scLrow.nd rfl (.inl rfl) peE) (re_add (re_var (ρ := rI) (x := s14.2) 5 rfl (pv 5)) (re_var (ρ := rI) (x := w15) 6 rfl (pv 6))) rfl fun (at_38 : Int) => (rb_nil (x := (Lp.go (total_34, at_38))) (.inr rfl) ⟨.inr rfl, .inr rfl, .inr rfl, .inr rfl, .inr rfl, .inr rfl, .inl rfl, .inl rfl, .inl rfl, .inl rfl, trivial⟩))))) (fun _ => rfl) (fun _ => ⟨_, rfl⟩) fun (s39 : OLoad × Int) => (rb_frz (i := 3) (p := (rLoad T.C_Load) s39.1) rfl (fun u F h k => frz_In _ u F h k) rfl (rb_forF (s0 := (s39.2, back_11)) (vs := [6]) (fun (s41 : Int × OLoad) => [.fz (rI length_here_), .fz (rI begin_here_), .fz ((rL rI) stretches_), .fz ((rLoad T.C_Load) s39.1), .ow true a12 (oIn T.C_Load (fsLoad s41.2)), .fz (rI s41.1), .un, .un, .un, .un]) (fun (x : Int) Γ => Γ.set 6 (.fz (rI x))) (ps_for (passes_of rfl) rfl (pi_list peE) (pg_name (i := 6) scLrow.nd rfl (.inl rfl)) pssS) (ri_list (re_frz (re_rev (rsq_L (re_var (ρ := (rL rI)) (x := stretches_) 2 rfl (pv 2)))) frz_L)) (fun _ => rg_name) ⟨.inr rfl, .inr rfl, .inr rfl, .inr rfl, .inr rfl, .inr rfl, .inl rfl, .inl rfl, .inl rfl, .inl rfl, trivial⟩ (fun _ => ⟨.inl rfl, .inl rfl, .inl rfl, .inl rfl, .inl rfl, .inl rfl, .inl rfl, .inl rfl, .inl rfl, .inl rfl, trivial⟩) (fun _ _ => ⟨.inl rfl, .inl rfl, .inl rfl, .inl rfl, .inl rfl, .inl rfl, .inl rfl, .inl rfl, .inl rfl, .inl rfl, trivial⟩) (fun (s41 : Int × OLoad) (w42 : Int) => (rb_set (ps_set (i := 5) scLrow.nd rfl (.inl rfl) peE) (re_sub (re_var (ρ := rI) (x := s41.1) 5 rfl (pv 5)) (re_var (ρ := rI) (x := w42) 6 rfl (pv 6))) rfl fun (at_45 : Int) => (rb_augM (C := T.C_Load) (m := fun (z : OLoad × OLoad) => P_LoadIadd z.1 z.2) (fi := fun (z : OLoad × OLoad) => fsLoad z.1) (pp := fun (z : OLoad × OLoad) => [.fz ((rLoad T.C_Load) z.2)]) (fo := fun (_ : OLoad × OLoad) (y : OLoad) => fsLoad y) (fun (v : OLoad) => (s41.2, v)) (ps_aug (i := 4) scLrow.nd rfl (.inl rfl) peE (pip_own rfl T.m_Load_iadd T.sf_Load GLoad_iadd (hr.mono (by decide)) T.bLoad_iadd (pass_calm (takes_of rfl rfl rfl rfl)))) rfl (re_km (mo := (pure ())) (ma := ((pure length_here_) >>= fun x52 => ((pure at_45) >>= fun x50 => ((pure w42) >>= fun x48 => (pure ()) >>= fun y49 => pure (x48, y49)) >>= fun y51 => pure (x50, y51)) >>= fun y53 => pure (x52, y53))) (pp := fun (y : Int × Int × Int × Unit) => [.fz (rI y.1), .fz (rI y.2.1), .fz (rI y.2.2.1)]) (m := fun z => P_LoadOf z.1 z.2.1 z.2.2.1 z.2.2.2.1) (re_cls (pe_glob (v := .ref T.C_Load) (by rfl) T.g_Load (by rfl))) T.m_Load_of GLoad_of (hr.mono (by decide)) (takes_of rfl rfl rfl rfl) (ra_cons (re_var (ρ := rI) (x := length_here_) 0 rfl (pv 0)) (ra_cons (re_var (ρ := rI) (x := at_45) 5 rfl (pv 5)) (ra_cons (re_var (ρ := rI) (x := w42) 6 rfl (pv 6)) ra_nil))) T.bLoad_of) (fun _ => rfl) (fun _ => rfl) rfl fun (y55 : OLoad) (back_54 : OLoad) => (rb_nil (x := (at_45, back_54)) (.inr rfl) ⟨.inr rfl, .inr rfl, .inr rfl, .inr rfl, .inr rfl, .inr rfl, .inl rfl, .inl rfl, .inl rfl, .inl rfl, trivial⟩)))) fun (s56 : Int × OLoad) => (rb_frz (i := 4) (p := (rLoad T.C_Load) s56.2) rfl (fun u F h k => frz_In _ u F h k) rfl (rb_set (ps_set (i := 7) scLrow.nd rfl (.inl rfl) peE) (re_km (mo := (pure ())) (ma := ((pure length_here_) >>= fun x64 => ((pure begin_here_) >>= fun x62 => (((pure stretches_) >>= fun x59 => pure x59.sum) >>= fun x60 => (pure ()) >>= fun y61 => pure (x60, y61)) >>= fun y63 => pure (x62, y63)) >>= fun y65 => pure (x64, y65))) (pp := fun (y : Int × Int × Int × Unit) => [.fz (rI y.1), .fz (rI y.2.1), .fz (rI y.2.2.1)]) (m := fun z => P_LoadOf z.1 z.2.1 z.2.2.1 z.2.2.2.1) (re_cls (pe_glob (v := .ref T.C_Load) (by rfl) T.g_Load (by rfl))) T.m_Load_of GLoad_of (hr.mono (by decide)) (takes_of rfl rfl rfl rfl) (ra_cons (re_var (ρ := rI) (x := length_here_) 0 rfl (pv 0)) (ra_cons (re_var (ρ := rI) (x := begin_here_) 1 rfl (pv 1)) (ra_cons (re_sum (rsq_L (re_var (ρ := (rL rI)) (x := stretches_) 2 rfl (pv 2))) T.z_sum) ra_nil))) T.bLoad_of) rfl fun (together_66 : OLoad) => (rb_if1 (rt_not (rt_val (re_call () G_law_is_load (hr.mono (by decide)) (takes_of rfl rfl rfl rfl) (ra_cons (re_var (ρ := (rLoad T.C_Load)) (x := together_66) 7 rfl (pv 7)) (ra_cons (re_frz (re_call () G_law_even (hr.mono (by decide)) (takes_of rfl rfl rfl rfl) (ra_cons (re_var (ρ := rI) (x := length_here_) 0 rfl (pv 0)) (ra_cons (re_var (ρ := rI) (x := begin_here_) 1 rfl (pv 1)) (ra_cons (re_sum (rsq_L (re_var (ρ := (rL rI)) (x := stretches_) 2 rfl (pv 2))) T.z_sum) ra_nil))) T.g_law_even T.F_law_even.kp T.b_law_even) frz_L) ra_nil)) T.g_law_is_load T.F_law_is_load.kp T.b_law_is_load))) (rb_ret (fun (r82 : Bool) => r82) re_bl (fun _ => rfl)) (rb_set (ps_set (i := 8) scLrow.nd rfl (.inl rfl) peE) (re_frz (re_lst (fun (y106 : Bool × Bool × Bool × Unit) => [y106.1, y106.2.1, y106.2.2.1]) rB (ra_cons (re_rc (rc_eqO (m := fun z => P_LoadEq z.1 z.2.1) (fsLoad) (fsLoad) T.m_Load_eq GLoad_eq (hr.mono (by decide)) (takes_of rfl rfl rfl rfl) T.bLoad_eq (re_var (ρ := (rLoad T.C_Load)) (x := s39.1) 3 rfl (pv 3)) (re_var (ρ := (rLoad T.C_Load)) (x := together_66) 7 rfl (pv 7)))) (ra_cons (re_rc (rc_eqO (m := fun z => P_LoadEq z.1 z.2.1) (fsLoad) (fsLoad) T.m_Load_eq GLoad_eq (hr.mono (by decide)) (takes_of rfl rfl rfl rfl) T.bLoad_eq (re_var (ρ := (rLoad T.C_Load)) (x := s56.2) 4 rfl (pv 4)) (re_var (ρ := (rLoad T.C_Load)) (x := together_66) 7 rfl (pv 7)))) (ra_cons (re_rc (rc_eqO (m := fun z => P_LoadEq z.1 z.2.1) (fsLoad) (fsLoad) T.m_Load_eq GLoad_eq (hr.mono (by decide)) (takes_of rfl rfl rfl rfl) T.bLoad_eq (re_binOI (m := fun z => P_LoadLshift z.1 z.2.1) (fsLoad) (by decide +kernel) (by decide +kernel) T.m_Load_lshift T.sf_Load T.nr_Load_lshift (.inl rfl) T.ti__lshift T.ti__rlshift T.si_Load GLoad_lshift (hr.mono (by decide)) (takes_of rfl rfl rfl rfl) T.bLoad_lshift (hk_fz (fsLoad)) (re_var (ρ := (rLoad T.C_Load)) (x := together_66) 7 rfl (pv 7)) (re_var (ρ := rI) (x := begin_here_) 1 rfl (pv 1))) (re_km (mo := (pure ())) (ma := ((pure length_here_) >>= fun x96 => ((pure (0 : Int)) >>= fun x94 => (((pure stretches_) >>= fun x91 => pure x91.sum) >>= fun x92 => (pure ()) >>= fun y93 => pure (x92, y93)) >>= fun y95 => pure (x94, y95)) >>= fun y97 => pure (x96, y97))) (pp := fun (y : Int × Int × Int × Unit) => [.fz (rI y.1), .fz (rI y.2.1), .fz (rI y.2.2.1)]) (m := fun z => P_LoadOf z.1 z.2.1 z.2.2.1 z.2.2.2.1) (re_cls (pe_glob (v := .ref T.C_Load) (by rfl) T.g_Load (by rfl))) T.m_Load_of GLoad_of (hr.mono (by decide)) (takes_of rfl rfl rfl rfl) (ra_cons (re_var (ρ := rI) (x := length_here_) 0 rfl (pv 0)) (ra_cons re_int (ra_cons (re_sum (rsq_L (re_var (ρ := (rL rI)) (x := stretches_) 2 rfl (pv 2))) T.z_sum) ra_nil))) T.bLoad_of))) ra_nil (hc := se_Compare)) (hc := se_Compare)) (hc := se_Compare))) frz_L) rfl fun (found_107 : (List Bool)) => (rb_set (ps_set (i := 8) scLrow.nd rfl (.inl rfl) peE) (re_frz (re_cat (re_var (ρ := (rL rB)) (x := found_107) 8 rfl (pv 8)) (re_frz (re_lst (fun (y123 : Bool × Unit) => [y123.1]) rB (ra_cons (re_rc (rc_eqO (m := fun z => P_LoadEq z.1 z.2.1) (fsLoad) (fsLoad) T.m_Load_eq GLoad_eq (hr.mono (by decide)) (takes_of rfl rfl rfl rfl) T.bLoad_eq (re_km (mo := (pure ())) (ma := ((pure length_here_) >>= fun x117 => (((pure begin_here_) >>= fun i110 => (pure length_here_) >>= fun j111 => pure (i110 + j111)) >>= fun x115 => (((pure stretches_) >>= fun x112 => pure x112.sum) >>= fun x113 => (pure ()) >>= fun y114 => pure (x113, y114)) >>= fun y116 => pure (x115, y116)) >>= fun y118 => pure (x117, y118))) (pp := fun (y : Int × Int × Int × Unit) => [.fz (rI y.1), .fz (rI y.2.1), .fz (rI y.2.2.1)]) (m := fun z => P_LoadOf z.1 z.2.1 z.2.2.1 z.2.2.2.1) (re_cls (pe_glob (v := .ref T.C_Load) (by rfl) T.g_Load (by rfl))) T.m_Load_of GLoad_of (hr.mono (by decide)) (takes_of rfl rfl rfl rfl) (ra_cons (re_var (ρ := rI) (x := length_here_) 0 rfl (pv 0)) (ra_cons (re_add (re_var (ρ := rI) (x := begin_here_) 1 rfl (pv 1)) (re_var (ρ := rI) (x := length_here_) 0 rfl (pv 0))) (ra_cons (re_sum (rsq_L (re_var (ρ := (rL rI)) (x := stretches_) 2 rfl (pv 2))) T.z_sum) ra_nil))) T.bLoad_of) (re_var (ρ := (rLoad T.C_Load)) (x := together_66) 7 rfl (pv 7)))) ra_nil (hc := se_Compare))) frz_L)) frz_L) rfl fun (found_126 : (List Bool)) => (rb_ret (fun (r127 : Bool) => r127) (re_rc (rc_eqE (ρ := (rL rB)) hr.units (ha := (re_frz (re_of (pe_lc (own := [("_law_told", 9)]) (g := gName 9) rfl scLrow.nd (pi_list peE) (blkOk_by (own := [("_law_told", 9)]) (N := ["_law_length_here", "_law_begin_here", "_law_stretches", "_law_total", "_law_back", "_law_at", "_law_minutes", "_law_together", "_law_found", "_law_told"]) (sc := defScope sLrow) (by decide +kernel)) (fun _ _ _ _ _ => pg_name (i := 9) scLrow.nd rfl (.inl rfl)) ptPi peEi) (rte_lc (vs := [9]) (fun (x : Bool) Γ => Γ.set 9 (.fz (rB x))) (ri_list (re_var (ρ := (rL rB)) (x := found_126) 8 rfl (pv 8))) (fun _ => rg_name) (fun _ => rgo_name) (un1 rfl) (fun (w130 : Bool) => (rti_one (fun _ _ _ _ _ => (rt_not (rt_val (re_call () G_law_same (hr.mono (by decide)) takes0 (ra_cons (re_enc (ρ := rB) (re_var (ρ := rB) (x := w130) 9 rfl (pv 9))) (ra_cons (re_enc (ρ := rB) re_bl) ra_nil)) T.g_law_same T.F_law_same.kp T.b_law_same)))))) (fun (w130 : Bool) _ _ _ _ _ => (re_var (ρ := rB) (x := w130) 9 rfl (pv 9))))) frz_L)) (hb := (re_frz (re_lst0 (ρ := rB)) frz_L)))) (fun _ => rfl)))))))))))))
end
end DD
namespace DD
open PySem PySem.Spec PyProof.Rows L2 KO SX RF
section
variable {P : Program} {w : World} {K : PySem.W.Frag} {mg : Str → Option Value} {base : Heap}
theorem scLaw : FnScope ["_law_script", "_law_pool_here", "_law_length_here", "_law_begin_here", "_law_stretches", "_law_many", "_law_low", "_law_wrong", "_law_k"] ["_law_script"] (defScope sLaw) := ⟨rfl, rfl, rfl, by decide +kernel, rfl, by decide +kernel, by decide +kernel⟩
def P_Law (script_ : List Int) : Mo Bool :=
  ((((pure script_) >>= fun x4 => ((pure (0 : Int)) >>= fun x2 => (pure ()) >>= fun y3 => pure (x2, y3)) >>= fun y5 => pure (x4, y5)) >>= fun y1 => Mo.rq (0 ≤ y1.2.1 ∧ y1.2.1 ≤ 1000) ()) >>= fun pool_6 => (((pure ()) >>= fun y8 => P_Llength) >>= fun length_9 => (((pure ()) >>= fun y10 => P_Lbegin) >>= fun begin_11 => (((((pure (2 : Int)) >>= fun i15 => (((pure (5 : Int)) >>= fun x13 => (pure ()) >>= fun y14 => pure (x13, y14)) >>= fun y12 => Mo.take y12.1) >>= fun j16 => pure (i15 + j16)) >>= fun i17 => Mo.rq (-(2 ^ 62) ≤ i17 ∧ i17 < 2 ^ 62) (rangeL 0 i17.toNat)) >>= Mo.lc (fun w19 => (pure true)) (fun w19 => (((pure length_9) >>= fun x21 => (pure ()) >>= fun y22 => pure (x21, y22)) >>= fun y20 => P_Lstretch y20.1))) >>= fun stretches_23 => (((((pure length_9) >>= fun x29 => ((pure begin_11) >>= fun x27 => ((pure stretches_23) >>= fun x25 => (pure ()) >>= fun y26 => pure (x25, y26)) >>= fun y28 => pure (x27, y28)) >>= fun y30 => pure (x29, y30)) >>= fun y24 => P_Lrow y24.1 y24.2.1 y24.2.2.1) >>= fun b31 => pure (!b31)) >>= fun c32 => if c32 = true then ((pure false) >>= fun r33 => pure r33) else ((((pure script_) >>= fun x37 => ((pure (1 : Int)) >>= fun x35 => (pure ()) >>= fun y36 => pure (x35, y36)) >>= fun y38 => pure (x37, y38)) >>= fun y34 => Mo.rq (0 ≤ y34.2.1 ∧ y34.2.1 ≤ 1000) ()) >>= fun pool_39 => ((((((pure (10000 : Int)) >>= fun i41 => (pure length_9) >>= fun j42 => Mo.rq (CDiv i41 j42) (i41 / j42)) >>= fun i43 => (pure (1 : Int)) >>= fun j44 => pure (i43 + j44)) >>= fun x46 => (pure ()) >>= fun y47 => pure (x46, y47)) >>= fun y45 => Mo.take y45.1) >>= fun many_48 => ((((((pure ()) >>= fun x50 => ((pure length_9) >>= fun x58 => ((pure begin_11) >>= fun x56 => (((pure length_9) >>= fun i52 => (pure many_48) >>= fun j53 => Mo.rq (CMul i52 j53) (i52 * j53)) >>= fun x54 => (pure ()) >>= fun y55 => pure (x54, y55)) >>= fun y57 => pure (x56, y57)) >>= fun y59 => pure (x58, y59)) >>= fun y51 => P_LoadOf x50 y51.1 y51.2.1 y51.2.2.1) >>= fun x67 => (((((pure many_48) >>= fun x60 => (pure ()) >>= fun y61 => pure (x60, y61)) >>= fun y62 => pure [y62.1]) >>= fun x63 => (pure length_9) >>= fun n64 => Mo.rq (-(2 ^ 63) ≤ n64 ∧ n64 < 2 ^ 63 ∧ x63.length * n64.toNat ≤ sizeLine) (List.replicate n64.toNat x63).flatten) >>= fun x65 => (pure ()) >>= fun y66 => pure (x65, y66)) >>= fun y68 => pure (x67, y68)) >>= fun y49 => P_Lisload y49.1 y49.2.1) >>= fun b69 => pure (!b69)) >>= fun c70 => if c70 = true then ((pure false) >>= fun r71 => pure r71) else (((((((pure ()) >>= fun x75 => ((pure length_9) >>= fun x81 => ((pure (0 : Int)) >>= fun x79 => ((pure length_9) >>= fun x77 => (pure ()) >>= fun y78 => pure (x77, y78)) >>= fun y80 => pure (x79, y80)) >>= fun y82 => pure (x81, y82)) >>= fun y76 => P_LoadOf x75 y76.1 y76.2.1 y76.2.2.1) >>= fun x73 => (pure many_48) >>= fun y74 => Mo.calm (P_LoadMul x73 y74)) >>= fun x90 => (((((pure many_48) >>= fun x83 => (pure ()) >>= fun y84 => pure (x83, y84)) >>= fun y85 => pure [y85.1]) >>= fun x86 => (pure length_9) >>= fun n87 => Mo.rq (-(2 ^ 63) ≤ n87 ∧ n87 < 2 ^ 63 ∧ x86.length * n87.toNat ≤ sizeLine) (List.replicate n87.toNat x86).flatten) >>= fun x88 => (pure ()) >>= fun y89 => pure (x88, y89)) >>= fun y91 => pure (x90, y91)) >>= fun y72 => P_Lisload y72.1 y72.2.1) >>= fun b92 => pure (!b92)) >>= fun c93 => if c93 = true then ((pure false) >>= fun r94 => pure r94) else ((((((pure ()) >>= fun x96 => ((pure length_9) >>= fun x102 => ((pure begin_11) >>= fun x100 => ((pure (10000 : Int)) >>= fun x98 => (pure ()) >>= fun y99 => pure (x98, y99)) >>= fun y101 => pure (x100, y101)) >>= fun y103 => pure (x102, y103)) >>= fun y97 => P_LoadOf x96 y97.1 y97.2.1 y97.2.2.1) >>= fun x113 => ((((pure length_9) >>= fun x109 => ((pure begin_11) >>= fun x107 => ((pure (10000 : Int)) >>= fun x105 => (pure ()) >>= fun y106 => pure (x105, y106)) >>= fun y108 => pure (x107, y108)) >>= fun y110 => pure (x109, y110)) >>= fun y104 => P_Leven y104.1 y104.2.1 y104.2.2.1) >>= fun x111 => (pure ()) >>= fun y112 => pure (x111, y112)) >>= fun y114 => pure (x113, y114)) >>= fun y95 => P_Lisload y95.1 y95.2.1) >>= fun b115 => pure (!b115)) >>= fun c116 => if c116 = true then ((pure false) >>= fun r117 => pure r117) else ((((((pure ()) >>= fun x119 => ((pure length_9) >>= fun x125 => ((pure begin_11) >>= fun x123 => ((pure (0 : Int)) >>= fun x121 => (pure ()) >>= fun y122 => pure (x121, y122)) >>= fun y124 => pure (x123, y124)) >>= fun y126 => pure (x125, y126)) >>= fun y120 => P_LoadOf x119 y120.1 y120.2.1 y120.2.2.1) >>= fun x134 => (((((pure (0 : Int)) >>= fun x127 => (pure ()) >>= fun y128 => pure (x127, y128)) >>= fun y129 => pure [y129.1]) >>= fun x130 => (pure length_9) >>= fun n131 => Mo.rq (-(2 ^ 63) ≤ n131 ∧ n131 < 2 ^ 63 ∧ x130.length * n131.toNat ≤ sizeLine) (List.replicate n131.toNat x130).flatten) >>= fun x132 => (pure ()) >>= fun y133 => pure (x132, y133)) >>= fun y135 => pure (x134, y135)) >>= fun y118 => P_Lisload y118.1 y118.2.1) >>= fun b136 => pure (!b136)) >>= fun c137 => if c137 = true then ((pure false) >>= fun r138 => pure r138) else ((((pure (1 : Int)) >>= fun i139 => pure (-i139)) >>= fun i145 => ((((pure (10 : Int)) >>= fun i140 => (pure (9 : Int)) >>= fun j141 => Mo.rq (CPow i140 j141) (i140 ^ j141.toNat)) >>= fun x143 => (pure ()) >>= fun y144 => pure (x143, y144)) >>= fun y142 => Mo.take y142.1) >>= fun j146 => pure (i145 - j146)) >>= fun low_147 => ((((pure (0 : Int)) >>= fun x162 => ((pure (61 : Int)) >>= fun x160 => (((pure (1 : Int)) >>= fun i148 => pure (-i148)) >>= fun x158 => ((pure low_147) >>= fun x156 => (((pure (62 : Int)) >>= fun i152 => (((pure (999 : Int)) >>= fun x150 => (pure ()) >>= fun y151 => pure (x150, y151)) >>= fun y149 => Mo.take y149.1) >>= fun j153 => pure (i152 + j153)) >>= fun x154 => (pure ()) >>= fun y155 => pure (x154, y155)) >>= fun y157 => pure (x156, y157)) >>= fun y159 => pure (x158, y159)) >>= fun y161 => pure (x160, y161)) >>= fun y163 => pure (x162, y163)) >>= fun y164 => pure [y164.1, y164.2.1, y164.2.2.1, y164.2.2.2.1, y164.2.2.2.2.1]) >>= fun xs => Mo.loop (fun s165 w166 => (((((pure w166) >>= fun x174 => ((pure begin_11) >>= fun x172 => (((pure stretches_23) >>= fun x168 => (pure (0 : Int)) >>= fun i169 => Mo.get (atI x168 i169)) >>= fun x170 => (pure ()) >>= fun y171 => pure (x170, y171)) >>= fun y173 => pure (x172, y173)) >>= fun y175 => pure (x174, y175)) >>= fun y167 => P_Lrefuses y167.1 y167.2.1 y167.2.2.1) >>= fun b176 => pure (!b176)) >>= fun c177 => if c177 = true then ((pure false) >>= fun r178 => pure (Lp.ret r178)) else (pure (Lp.go ())))) xs () >>= Lp.out (fun s179 => (((((pure (1 : Int)) >>= fun i180 => pure (-i180)) >>= fun x192 => ((pure (10001 : Int)) >>= fun x190 => ((pure low_147) >>= fun x188 => (((pure (10002 : Int)) >>= fun i184 => (((pure (999 : Int)) >>= fun x182 => (pure ()) >>= fun y183 => pure (x182, y183)) >>= fun y181 => Mo.take y181.1) >>= fun j185 => pure (i184 + j185)) >>= fun x186 => (pure ()) >>= fun y187 => pure (x186, y187)) >>= fun y189 => pure (x188, y189)) >>= fun y191 => pure (x190, y191)) >>= fun y193 => pure (x192, y193)) >>= fun y194 => pure [y194.1, y194.2.1, y194.2.2.1, y194.2.2.2.1]) >>= fun xs => Mo.loop (fun s195 w196 => ((((((pure length_9) >>= fun x202 => ((pure begin_11) >>= fun x200 => ((pure w196) >>= fun x198 => (pure ()) >>= fun y199 => pure (x198, y199)) >>= fun y201 => pure (x200, y201)) >>= fun y203 => pure (x202, y203)) >>= fun y197 => P_Lrefuses y197.1 y197.2.1 y197.2.2.1) >>= fun b204 => pure (!b204)) >>= fun b213 => if b213 then pure true else ((((pure (61 : Int)) >>= fun x210 => ((pure begin_11) >>= fun x208 => ((pure w196) >>= fun x206 => (pure ()) >>= fun y207 => pure (x206, y207)) >>= fun y209 => pure (x208, y209)) >>= fun y211 => pure (x210, y211)) >>= fun y205 => P_Lrefuses y205.1 y205.2.1 y205.2.2.1) >>= fun b212 => pure (!b212))) >>= fun c214 => if c214 = true then ((pure false) >>= fun r215 => pure (Lp.ret r215)) else (pure (Lp.go ())))) xs () >>= Lp.out (fun s216 => ((pure true) >>= fun r217 => pure r217)) (fun x => x))) (fun x => x))))))))))))))
theorem fn_Law (T : Tx K mg) : FnOk P w K mg base (L2.CX P w) 12 T.flaw T.dlaw ["_law_script"] (spR K mg (fun (c : Unit) (z : List Int × Unit) => [.fz ((rScr K) z.1)]) (fun z => P_Law z.1) (RK.fz rB)) := by
  have GLoad_mul := fn_LoadMul (P := P) (w := w) (base := base) T
  have GLoad_of := fn_LoadOf (P := P) (w := w) (base := base) T
  have G_law_begin := fn_Lbegin (P := P) (w := w) (base := base) T
  have G_law_even := fn_Leven (P := P) (w := w) (base := base) T
  have G_law_is_load := fn_Lisload (P := P) (w := w) (base := base) T
  have G_law_length := fn_Llength (P := P) (w := w) (base := base) T
  have G_law_pool := fn_pool (P := P) (w := w) (base := base) T
  have G_law_refuses := fn_Lrefuses (P := P) (w := w) (base := base) T
  have G_law_row := fn_Lrow (P := P) (w := w) (base := base) T
  have G_law_stretch := fn_Lstretch (P := P) (w := w) (base := base) T
  have G_law_take := fn_take (P := P) (w := w) (base := base) T
  refine fn_mk (Γe := fun c z => [.un, .un, .un, .un, .un, .un, .un, .un, .un]) (Γ0 := fun c z => [.fz ((rScr K) z.1), .un, .un, .un, .un, .un, .un, .un, .un]) (Z := (fun _ _ x => .ret ((RK.fz rB).ok x))) T.Flaw scLaw (fun _ _ => rfl) (fun _ _ => rfl) (fun _ _ => ⟨.inl rfl, .inl rfl, .inl rfl, .inl rfl, .inl rfl, .inl rfl, .inl rfl, .inl rfl, .inl rfl, trivial⟩) (fun _ _ _ _ _ _ h => (own_none rfl h).elim) (fun _ _ _ => .inl rfl) (fun cdv A outer s H E a0 y hr => ?_)
  obtain ⟨script_, _⟩ := y
  show RB _ _ ([.un, .un, .un, .un, .un, .un, .un, .un, .un] : RF.Ctx) false [.fz ((rScr K) script_), .un, .un, .un, .un, .un, .un, .un, .un] _ (P_Law script_) _
  exact (rb_setO (ρ := fun _ => oPool) (ps_set (i := 1) scLaw.nd rfl (.inr rfl) peE) (re_call () G_law_pool (hr.mono (by decide)) (takes_of rfl rfl rfl rfl) (ra_cons (re_var (ρ := (rScr K)) (x := script_) 0 rfl (pv 0)) (ra_cons re_int ra_nil)) T.g_law_pool T.F_law_pool.kp T.b_law_pool) rfl fun (pool_6 : Unit) a7 => (rb_set (ps_set (i := 2) scLaw.nd rfl (.inr rfl) peE) (re_call a7 G_law_length (hr.mono (by decide)) (takes_of rfl rfl rfl rfl) (ra_own (qo := oPool) rfl (pv 1) ra_nil) T.g_law_length T.F_law_length.kp T.b_law_length) rfl fun (length_9 : Int) => (rb_set (ps_set (i := 3) scLaw.nd rfl (.inl rfl) peE) (re_call a7 G_law_begin (hr.mono (by decide)) (takes_of rfl rfl rfl rfl) (ra_own (qo := oPool) rfl (pv 1) ra_nil) T.g_law_begin T.F_law_begin.kp T.b_law_begin) rfl fun (begin_11 : Int) => (rb_set (ps_setLc (i := 4) (own := [("_law_k", 8)]) (g := gName 8) rfl scLaw.nd rfl rfl (sw_true rfl rfl rfl (by decide +kernel)) (pi_range1 (by rfl) T.z_range (pa_cons peE pa_nil)) (blkOk_by (own := [("_law_k", 8)]) (N := ["_law_script", "_law_pool_here", "_law_length_here", "_law_begin_here", "_law_stretches", "_law_many", "_law_low", "_law_wrong", "_law_k"]) (sc := defScope sLaw) (by decide +kernel)) (fun _ _ _ _ _ => pg_name (i := 8) scLaw.nd rfl (.inl rfl)) ptPi peEi) (rte_frz (rte_lc (vs := [8]) (fun (x : Int) Γ => Γ.set 8 (.fz (rI x))) (ri_range1 (re_add re_int (re_call a7 G_law_take (hr.mono (by decide)) (takes_of rfl rfl rfl rfl) (ra_own (qo := oPool) rfl (pv 1) (ra_cons re_int ra_nil)) T.g_law_take T.F_law_take.kp T.b_law_take))) (fun _ => rg_name) (fun _ => rgo_name) (un1 rfl) (fun (w19 : Int) => rti_nil) (fun (w19 : Int) _ _ _ _ _ => (re_call a7 G_law_stretch (hr.mono (by decide)) takes0 (ra_own (qo := oPool) rfl (pv 1) (ra_cons (re_var (ρ := rI) (x := length_9) 2 rfl (pv 2)) ra_nil)) T.g_law_stretch T.F_law_stretch.kp T.b_law_stretch))) frz_L) rfl fun (stretches_23 : (List Int)) => (rb_if1 (rt_not (rt_val (re_call () G_law_row (hr.mono (by decide)) (takes_of rfl rfl rfl rfl) (ra_cons (re_var (ρ := rI) (x := length_9) 2 rfl (pv 2)) (ra_cons (re_var (ρ := rI) (x := begin_11) 3 rfl (pv 3)) (ra_cons (re_var (ρ := (rL rI)) (x := stretches_23) 4 rfl (pv 4)) ra_nil))) T.g_law_row T.F_law_row.kp T.b_law_row))) (rb_ret (fun (r33 : Bool) => r33) re_bl (fun _ => rfl)) (rb_setO (ρ := fun _ => oPool) (ps_set (i := 1) scLaw.nd rfl (.inr rfl) peE) (re_call () G_law_pool (hr.mono (by decide)) (takes_of rfl rfl rfl rfl) (ra_cons (re_var (ρ := (rScr K)) (x := script_) 0 rfl (pv 0)) (ra_cons re_int ra_nil)) T.g_law_pool T.F_law_pool.kp T.b_law_pool) rfl fun (pool_39 : Unit) a40 => (rb_set (ps_set (i := 5) scLaw.nd rfl (.inl rfl) peE) (re_call a40 G_law_take (hr.mono (by decide)) (takes_of rfl rfl rfl rfl) (ra_own (qo := oPool) rfl (pv 1) (ra_cons (re_add (re_div re_int (re_var (ρ := rI) (x := length_9) 2 rfl (pv 2))) re_int) ra_nil)) T.g_law_take T.F_law_take.kp T.b_law_take) rfl fun (many_48 : Int) => (rb_if1 (rt_not (rt_val (re_call () G_law_is_load (hr.mono (by decide)) (takes_of rfl rfl rfl rfl) (ra_cons (re_km (mo := (pure ())) (ma := ((pure length_9) >>= fun x58 => ((pure begin_11) >>= fun x56 => (((pure length_9) >>= fun i52 => (pure many_48) >>= fun j53 => Mo.rq (CMul i52 j53) (i52 * j53)) >>= fun x54 => (pure ()) >>= fun y55 => pure (x54, y55)) >>= fun y57 => pure (x56, y57)) >>= fun y59 => pure (x58, y59))) (pp := fun (y : Int × Int × Int × Unit) => [.fz (rI y.1), .fz (rI y.2.1), .fz (rI y.2.2.1)]) (m := fun z => P_LoadOf z.1 z.2.1 z.2.2.1 z.2.2.2.1) (re_cls (pe_glob (v := .ref T.C_Load) (by rfl) T.g_Load (by rfl))) T.m_Load_of GLoad_of (hr.mono (by decide)) (takes_of rfl rfl rfl rfl) (ra_cons (re_var (ρ := rI) (x := length_9) 2 rfl (pv 2)) (ra_cons (re_var (ρ := rI) (x := begin_11) 3 rfl (pv 3)) (ra_cons (re_mul (re_var (ρ := rI) (x := length_9) 2 rfl (pv 2)) (re_var (ρ := rI) (x := many_48) 5 rfl (pv 5))) ra_nil))) T.bLoad_of) (ra_cons (re_frz (re_rep (re_frz (re_lst (fun (y62 : Int × Unit) => [y62.1]) rI (ra_cons (re_var (ρ := rI) (x := many_48) 5 rfl (pv 5)) ra_nil)) frz_L) (re_var (ρ := rI) (x := length_9) 2 rfl (pv 2))) frz_L) ra_nil)) T.g_law_is_load T.F_law_is_load.kp T.b_law_is_load))) (rb_ret (fun (r71 : Bool) => r71) re_bl (fun _ => rfl)) (rb_if1 (rt_not (rt_val (re_call () G_law_is_load (hr.mono (by decide)) (takes_of rfl rfl rfl rfl) (ra_cons (re_binOI (m := fun z => P_LoadMul z.1 z.2.1) (fsLoad) (by decide +kernel) (by decide +kernel) T.m_Load_mul T.sf_Load T.m_Load_rmul.at_ (.inr ⟨_, rfl⟩) T.ti__mul T.ti__rmul T.si_Load GLoad_mul (hr.mono (by decide)) (takes_of rfl rfl rfl rfl) T.bLoad_mul (hk_fz (fsLoad)) (re_km (mo := (pure ())) (ma := ((pure length_9) >>= fun x81 => ((pure (0 : Int)) >>= fun x79 => ((pure length_9) >>= fun x77 => (pure ()) >>= fun y78 => pure (x77, y78)) >>= fun y80 => pure (x79, y80)) >>= fun y82 => pure (x81, y82))) (pp := fun (y : Int × Int × Int × Unit) => [.fz (rI y.1), .fz (rI y.2.1), .fz (rI y.2.2.1)]) (m := fun z => P_LoadOf z.1 z.2.1 z.2.2.1 z.2.2.2.1) (re_cls (pe_glob (v := .ref T.C_Load) (by rfl) T.g_Load (by rfl))) T.m_Load_of GLoad_of (hr.mono (by decide)) (takes_of rfl rfl rfl rfl) (ra_cons (re_var (ρ := rI) (x := length_9) 2 rfl (pv 2)) (ra_cons re_int (ra_cons (re_var (ρ := rI) (x := length_9) 2 rfl (pv 2)) ra_nil))) T.bLoad_of) (re_var (ρ := rI) (x := many_48) 5 rfl (pv 5))) (ra_cons (re_frz (re_rep (re_frz (re_lst (fun (y85 : Int × Unit) => [y85.1]) rI (ra_cons (re_var (ρ := rI) (x := many_48) 5 rfl (pv 5)) ra_nil)) frz_L) (re_var (ρ := rI) (x := length_9) 2 rfl (pv 2))) frz_L) ra_nil)) T.g_law_is_load T.F_law_is_load.kp T.b_law_is_load))) (rb_ret (fun (r94 : Bool) => r94) re_bl (fun _ => rfl)) (rb_if1 (rt_not (rt_val (re_call () G_law_is_load (hr.mono (by decide)) (takes_of rfl rfl rfl rfl) (ra_cons (re_km (mo := (pure ())) (ma := ((pure length_9) >>= fun x102 => ((pure begin_11) >>= fun x100 => ((pure (10000 : Int)) >>= fun x98 => (pure ()) >>= fun y99 => pure (x98, y99)) >>= fun y101 => pure (x100, y101)) >>= fun y103 => pure (x102, y103))) (pp := fun (y : Int × Int × Int × Unit) => [.fz (rI y.1), .fz (rI y.2.1), .fz (rI y.2.2.1)]) (m := fun z => P_LoadOf z.1 z.2.1 z.2.2.1 z.2.2.2.1) (re_cls (pe_glob (v := .ref T.C_Load) (by rfl) T.g_Load (by rfl))) T.m_Load_of GLoad_of (hr.mono (by decide)) (takes_of rfl rfl rfl rfl) (ra_cons (re_var (ρ := rI) (x := length_9) 2 rfl (pv 2)) (ra_cons (re_var (ρ := rI) (x := begin_11) 3 rfl (pv 3)) (ra_cons re_int ra_nil))) T.bLoad_of) (ra_cons (re_frz (re_call () G_law_even (hr.mono (by decide)) (takes_of rfl rfl rfl rfl) (ra_cons (re_var (ρ := rI) (x := length_9) 2 rfl (pv 2)) (ra_cons (re_var (ρ := rI) (x := begin_11) 3 rfl (pv 3)) (ra_cons re_int ra_nil))) T.g_law_even T.F_law_even.kp T.b_law_even) frz_L) ra_nil)) T.g_law_is_load T.F_law_is_load.kp T.b_law_is_load))) (rb_ret (fun (r117 : Bool) => r117) re_bl (fun _ => rfl)) (rb_if1 (rt_not (rt_val (re_call () G_law_is_load (hr.mono (by decide)) (takes_of rfl rfl rfl rfl) (ra_cons (re_km (mo := (pure ())) (ma := ((pure length_9) >>= fun x125 => ((pure begin_11) >>= fun x123 => ((pure (0 : Int)) >>= fun x121 => (pure ()) >>= fun y122 => pure (x121, y122)) >>= fun y124 => pure (x123, y124)) >>= fun y126 => pure (x125, y126))) (pp := fun (y : Int × Int × Int × Unit) => [.fz (rI y.1), .fz (rI y.2.1), .fz (rI y.2.2.1)]) (m := fun z => P_LoadOf z.1 z.2.1 z.2.2.1 z.2.2.2.1) (re_cls (pe_glob (v := .ref T.C_Load) (by rfl) T.g_Load (by rfl))) T.m_Load_of GLoad_of (hr.mono (by decide)) (takes_of rfl rfl rfl rfl) (ra_cons (re_var (ρ := rI) (x := length_9) 2 rfl (pv 2)) (ra_cons (re_var (ρ := rI) (x := begin_11) 3 rfl (pv 3)) (ra_cons re_int ra_nil))) T.bLoad_of) (ra_cons (re_frz (re_rep (re_frz (re_lst (fun (y129 : Int × Unit) => [y129.1]) rI (ra_cons re_int ra_nil)) frz_L) (re_var (ρ := rI) (x := length_9) 2 rfl (pv 2))) frz_L) ra_nil)) T.g_law_is_load T.F_law_is_load.kp T.b_law_is_load))) (rb_ret (fun (r138 : Bool) => r138) re_bl (fun _ => rfl)) (rb_set (ps_set (i := 6) scLaw.nd rfl (.inl rfl) peE) (re_sub (re_neg re_int) (re_call a40 G_law_take (hr.mono (by decide)) (takes_of rfl rfl rfl rfl) (ra_own (qo := oPool) rfl (pv 1) (ra_cons (re_pow re_int re_int) ra_nil)) T.g_law_take T.F_law_take.kp T.b_law_take)) rfl fun (low_147 : Int) => (rb_for (s0 := ()) (vs := [7]) (Zr := (fun x => .ret ((RK.fz rB).ok x))) (kr := (fun x => x)) (fun (s165 : Unit) => [.fz ((rScr K) script_), .ow true a40 oPool, .fz (rI length_9), .fz (rI begin_11), .fz ((rL rI) stretches_23), .fz (rI many_48), .fz (rI low_147), .un, .un]) (fun (x : Int) Γ => Γ.set 7 (.fz (rI x))) (ps_for (passes_of rfl) rfl (pi_list peE) (pg_name (i := 7) scLaw.nd rfl (.inl rfl)) pssS) (ri_list (re_frz (re_lst (fun (y164 : Int × Int × Int × Int × Int × Unit) => [y164.1, y164.2.1, y164.2.2.1, y164.2.2.2.1, y164.2.2.2.2.1]) rI (ra_cons re_int (ra_cons re_int (ra_cons (re_neg re_int) (ra_cons (re_var (ρ := rI) (x := low_147) 6 rfl (pv 6)) (ra_cons (re_add re_int (re_call a40 G_law_take (hr.mono (by decide)) (takes_of rfl rfl rfl rfl) (ra_own (qo := oPool) rfl (pv 1) (ra_cons re_int ra_nil)) T.g_law_take T.F_law_take.kp T.b_law_take)) ra_nil (hc := se_BinOp))) (hc := se_UnaryOp))))) frz_L)) (fun _ => rg_name) ⟨.inr rfl, .inr rfl, .inr rfl, .inr rfl, .inr rfl, .inr rfl, .inr rfl, .inl rfl, .inl rfl, trivial⟩ (fun _ => ⟨.inl rfl, .inl rfl, .inl rfl, .inl rfl, .inl rfl, .inl rfl, .inl rfl, .inl rfl, .inl rfl, trivial⟩) (fun _ _ => ⟨.inl rfl, .inl rfl, .inl rfl, .inl rfl, .inl rfl, .inl rfl, .inl rfl, .inl rfl, .inl rfl, trivial⟩) (fun (s165 : Unit) (w166 : Int) => (rb_if0 (rt_not (rt_val (re_call () G_law_refuses (hr.mono (by decide)) (takes_of rfl rfl rfl rfl) (ra_cons (re_var (ρ := rI) (x := w166) 7 rfl (pv 7)) (ra_cons (re_var (ρ := rI) (x := begin_11) 3 rfl (pv 3)) (ra_cons (re_ixL (re_var (ρ := (rL rI)) (x := stretches_23) 4 rfl (pv 4)) re_int) ra_nil))) T.g_law_refuses T.F_law_refuses.kp T.b_law_refuses))) (rb_ret (fun (r178 : Bool) => (Lp.ret r178)) re_bl (fun _ => rfl)) (rb_nil (x := (Lp.go ())) (.inr rfl) ⟨.inr rfl, .inr rfl, .inr rfl, .inr rfl, .inr rfl, .inr rfl, .inr rfl, .inl rfl, .inl rfl, trivial⟩))) (fun _ => rfl) (fun _ => ⟨_, rfl⟩) fun (s179 : Unit) => (rb_for (s0 := ()) (vs := [7]) (Zr := (fun x => .ret ((RK.fz rB).ok x))) (kr := (fun x => x)) (fun (s195 : Unit) => [.fz ((rScr K) script_), .ow true a40 oPool, .fz (rI length_9), .fz (rI begin_11), .fz ((rL rI) stretches_23), .fz (rI many_48), .fz (rI low_147), .un, .un]) (fun (x : Int) Γ => Γ.set 7 (.fz (rI x))) (ps_for (passes_of rfl) rfl (pi_list peE) (pg_name (i := 7) scLaw.nd rfl (.inl rfl)) pssS) (ri_list (re_frz (re_lst (fun (y194 : Int × Int × Int × Int × Unit) => [y194.1, y194.2.1, y194.2.2.1, y194.2.2.2.1]) rI (ra_cons (re_neg re_int) (ra_cons re_int (ra_cons (re_var (ρ := rI) (x := low_147) 6 rfl (pv 6)) (ra_cons (re_add re_int (re_call a40 G_law_take (hr.mono (by decide)) (takes_of rfl rfl rfl rfl) (ra_own (qo := oPool) rfl (pv 1) (ra_cons re_int ra_nil)) T.g_law_take T.F_law_take.kp T.b_law_take)) ra_nil (hc := se_BinOp)))) (hc := se_UnaryOp))) frz_L)) (fun _ => rg_name) ⟨.inr rfl, .inr rfl, .inr rfl, .inr rfl, .inr rfl, .inr rfl, .inr rfl, .inl rfl, .inl rfl, trivial⟩ (fun _ => ⟨.inl rfl, .inl rfl, .inl rfl, .inl rfl, .inl rfl, .inl rfl, .inl rfl, .inl rfl, .inl rfl, trivial⟩) (fun _ _ => ⟨.inl rfl, .inl rfl, .inl rfl, .inl rfl, .inl rfl, .inl rfl, .inl rfl, .inl rfl, .inl rfl, trivial⟩) (fun (s195 : Unit) (w196 : Int) => (rb_if0 (rt_w (rw_or (rt_not (rt_val (re_call () G_law_refuses (hr.mono (by decide)) (takes_of rfl rfl rfl rfl) (ra_cons (re_var (ρ := rI) (x := length_9) 2 rfl (pv 2)) (ra_cons (re_var (ρ := rI) (x := begin_11) 3 rfl (pv 3)) (ra_cons (re_var (ρ := rI) (x := w196) 7 rfl (pv 7)) ra_nil))) T.g_law_refuses T.F_law_refuses.kp T.b_law_refuses))) (rw_or1 (rt_not (rt_val (re_call () G_law_refuses (hr.mono (by decide)) (takes_of rfl rfl rfl rfl) (ra_cons re_int (ra_cons (re_var (ρ := rI) (x := begin_11) 3 rfl (pv 3)) (ra_cons (re_var (ρ := rI) (x := w196) 7 rfl (pv 7)) ra_nil))) T.g_law_refuses T.F_law_refuses.kp T.b_law_refuses)))))) (rb_ret (fun (r215 : Bool) => (Lp.ret r215)) re_bl (fun _ => rfl)) (rb_nil (x := (Lp.go ())) (.inr rfl) ⟨.inr rfl, .inr rfl, .inr rfl, .inr rfl, .inr rfl, .inr rfl, .inr rfl, .inl rfl, .inl rfl, trivial⟩))) (fun _ => rfl) (fun _ => ⟨_, rfl⟩) fun (s216 : Unit) => (rb_ret (fun (r217 : Bool) => r217) re_bl (fun _ => rfl))))))))))))))))
end
end DD
namespace DD
open PySem PySem.Spec PyProof.Rows L2 KO SX RF
def bad : Ex := ⟨"BadLoad", []⟩
def evk (n b m k : Int) : Int := m / n + if (k - b) % n < m % n then 1 else 0
def ev (n b m : Int) : List Int := (rangeL 0 n.toNat).map (evk n b m)
theorem ev_len {n b m : Int} : (ev n b m).length = n.toNat := by rw [ev, List.length_map, rangeL_len]
theorem ev_get {n b m : Int} {i : Nat} (h : i < n.toNat) : (ev n b m)[i]? = some (evk n b m i) := by
  rw [ev, List.getElem?_map, rangeL_at h]
  simp
theorem evk_G {n b m k : Int} (hn : 0 < n) : evk n b m k = (b + m - k + n - 1) / n - (b - k + n - 1) / n := by
  have e1 := Int.mul_ediv_add_emod (k - b) n
  have e2 := Int.mul_ediv_add_emod m n
  have r0 := Int.emod_nonneg (k - b) (show n ≠ 0 by omega)
  have r1 := Int.emod_lt_of_pos (k - b) hn
  have q0 := Int.emod_nonneg m (show n ≠ 0 by omega)
  have q1 := Int.emod_lt_of_pos m hn
  unfold evk
  generalize (k - b) % n = r at *
  generalize (k - b) / n = a at *
  generalize m % n = q at *
  generalize m / n = d at *
  have s1 : b + m - k + n - 1 = (q - r + n - 1) + n * (d - a) := by rw [Int.mul_sub]; omega
  have s2 : b - k + n - 1 = (n - 1 - r) + n * (-a) := by rw [Int.mul_neg]; omega
  rw [s1, s2, Int.add_mul_ediv_left _ _ (by omega), Int.add_mul_ediv_left _ _ (by omega), Int.ediv_eq_zero_of_lt (a := n - 1 - r) (by omega) (by omega)]
  by_cases c : r < q
  · rw [if_pos c, show q - r + n - 1 = (q - r - 1) + n * 1 by omega, Int.add_mul_ediv_left _ _ (by omega), Int.ediv_eq_zero_of_lt (by omega) (by omega)]
    omega
  · rw [if_neg c, Int.ediv_eq_zero_of_lt (by omega) (by omega)]
    omega
theorem evk_add {n b m1 m2 k : Int} (hn : 0 < n) : evk n b m1 k + evk n (b + m1) m2 k = evk n b (m1 + m2) k := by
  rw [evk_G hn, evk_G hn, evk_G hn, show b + m1 + m2 = b + (m1 + m2) by omega]
  omega
theorem evk_turn {n b m k : Int} (hn : 0 < n) : evk n (b + n) m k = evk n b m k := by
  unfold evk
  rw [show k - (b + n) = (k - b) + n * (-1) by omega, Int.add_mul_emod_self_left]
theorem evk_shift {n b m k : Int} (h0 : 0 ≤ k) (h1 : k < n) : evk n b m ((k + b) % n) = evk n 0 m k := by
  unfold evk
  rw [Int.emod_sub_emod, show k + b - b = k by omega, show k - 0 = k by omega]
theorem evk_zero {n b k : Int} (hn : 0 < n) : evk n b 0 k = 0 := by
  rw [evk_G hn, show b + 0 - k = b - k by omega]
  omega
theorem evk_nn {n b m k : Int} (hn : 0 < n) (hm : 0 ≤ m) : 0 ≤ evk n b m k := by
  have := Int.ediv_nonneg hm (show 0 ≤ n by omega)
  unfold evk
  split <;> omega
theorem evk_mul {n b q k : Int} (hn : 0 < n) : evk n b (n * q) k = q := by
  unfold evk
  rw [Int.mul_ediv_cancel_left _ (by omega), Int.mul_emod_right, if_neg]
  · omega
  · have := Int.emod_nonneg (k - b) (show n ≠ 0 by omega)
    omega
theorem evk_one {n b k : Int} (hn : 0 < n) (h0 : 0 ≤ k) (h1 : k < n) : evk n b 1 k = if k = b % n then 1 else 0 := by
  have e1 := Int.mul_ediv_add_emod (k - b) n
  have e2 := Int.mul_ediv_add_emod b n
  have r0 := Int.emod_nonneg (k - b) (show n ≠ 0 by omega)
  have r1 := Int.emod_lt_of_pos (k - b) hn
  have q0 := Int.emod_nonneg b (show n ≠ 0 by omega)
  have q1 := Int.emod_lt_of_pos b hn
  have key : (k - b) % n = 0 ↔ k = b % n := by
    constructor
    · intro h
      have h2 := Int.emod_emod_of_dvd
      have : k % n = b % n := by
        have := Int.emod_emod_of_dvd k (Int.dvd_refl n)
        exact Int.emod_eq_emod_iff_emod_sub_eq_zero.mpr h
      rw [Int.emod_eq_of_lt h0 h1] at this
      exact this
    · intro h
      refine Int.emod_eq_emod_iff_emod_sub_eq_zero.mp ?_
      rw [Int.emod_eq_of_lt h0 h1]
      exact h
  unfold evk
  by_cases hn1 : n = 1
  · subst hn1
    have a1 : k = 0 := by omega
    subst a1
    simp [Int.emod_one]
  · rw [Int.ediv_eq_zero_of_lt (a := 1) (b := n) (by omega) (by omega), Int.emod_eq_of_lt (a := 1) (b := n) (by omega) (by omega)]
    by_cases c : k = b % n
    · rw [if_pos c, if_pos (by have := key.mpr c; omega)]; rfl
    · rw [if_neg c, if_neg (by intro h; exact c (key.mp (by omega)))]; rfl
theorem ev_mem {n b m x : Int} (hn : 0 < n) (hm : 0 ≤ m) (h : x ∈ ev n b m) : 0 ≤ x := by
  obtain ⟨k, _, rfl⟩ := List.mem_map.mp h
  exact evk_nn hn hm
theorem ev_rep {n b m q : Int} (h : ∀ k, 0 ≤ k → k < n → evk n b m k = q) : ev n b m = List.replicate n.toNat q := by
  refine List.eq_replicate_iff.mpr ⟨ev_len, fun x hx => ?_⟩
  obtain ⟨k, hk, rfl⟩ := List.mem_map.mp hx
  obtain ⟨a, c⟩ := rangeL_mem.mp hk
  exact h k a (by omega)
theorem ev_zip {n b m b' m' b2 m2 : Int} (h : ∀ k, evk n b m k + evk n b' m' k = evk n b2 m2 k) : ((ev n b m).zip (ev n b' m')).map (fun w => w.1 + w.2) = ev n b2 m2 := by
  refine List.ext_getElem? fun i => ?_
  by_cases hi : i < n.toNat
  · rw [ev_get hi, List.getElem?_map, List.getElem?_zip_eq_some (z := (_, _)) |>.mpr ⟨ev_get (b := b) (m := m) hi, ev_get (b := b') (m := m') hi⟩]
    rw [Option.map_some]
    exact congrArg some (h i)
  · rw [List.getElem?_eq_none (by rw [List.length_map, List.length_zip, ev_len, ev_len]; omega), List.getElem?_eq_none (by rw [ev_len]; omega)]
theorem ev_succ {n b m : Int} (hn : 0 < n) {x : Int} (hx : (ev n b m)[((b + m) % n).toNat]? = some x) : (ev n b m).set ((b + m) % n).toNat (x + 1) = ev n b (m + 1) := by
  have q0 := Int.emod_nonneg (b + m) (show n ≠ 0 by omega)
  have q1 := Int.emod_lt_of_pos (b + m) hn
  have hp : ((b + m) % n).toNat < n.toNat := by omega
  rw [ev_get hp] at hx
  refine List.ext_getElem? fun i => ?_
  by_cases hi : i < n.toNat
  · have e := evk_add (n := n) (b := b) (m1 := m) (m2 := 1) (k := i) hn
    rw [evk_one hn (by omega) (by omega)] at e
    rw [ev_get hi, List.getElem?_set]
    by_cases c : ((b + m) % n).toNat = i
    · rw [if_pos c, if_pos (by rw [ev_len]; exact hp)]
      rw [if_pos (by omega)] at e
      rw [← e]
      rw [c] at hx
      obtain rfl := Option.some.inj hx
      rfl
    · rw [if_neg c, ev_get hi, ← e, if_neg (by omega)]
      rw [Int.add_zero]
  · rw [List.getElem?_eq_none (by rw [List.length_set, ev_len]; omega), List.getElem?_eq_none (by rw [ev_len]; omega)]
theorem sum_set {l : List Int} : ∀ {i : Nat} {x y : Int}, l[i]? = some x → (l.set i y).sum = l.sum - x + y := by
  induction l with
  | nil => intro i x y h; simp at h
  | cons a l ih =>
    intro i x y h
    cases i with
    | zero => simp at h; subst h; simp; omega
    | succ i => simp only [List.set_cons_succ, List.sum_cons]; rw [ih (by simpa using h)]; omega
theorem ev_at {n b m k : Int} (hn : 0 < n) (h0 : 0 ≤ k) (h1 : k < n) : (ev n b m)[k.toNat]? = some (evk n b m k) := by
  rw [ev_get (by omega), show ((k.toNat : Nat) : Int) = k by omega]
theorem ev_sum {n b : Int} (hn : 0 < n) : ∀ m : Nat, (ev n b m).sum = m
  | 0 => by
    show (ev n b 0).sum = 0
    rw [ev_rep (q := 0) fun k _ _ => evk_zero hn]
    simp
  | m + 1 => by
    have q0 := Int.emod_nonneg (b + m) (show n ≠ 0 by omega)
    have q1 := Int.emod_lt_of_pos (b + m) hn
    have hx := ev_at (b := b) (m := m) hn q0 q1
    have e := ev_succ hn hx
    rw [show ((m + 1 : Nat) : Int) = (m : Int) + 1 by omega, ← e, sum_set hx, ev_sum hn m]
    omega
end DD
namespace DD
open PySem PySem.Spec PyProof.Rows L2 KO SX RF
theorem cl_eq {n : Int} (h0 : 1 ≤ n) (h1 : n ≤ 60) : P_checklength n = pure () := by
  unfold P_checklength
  simp only [pure_bind, bind_assoc, map_pure, bind_pure]
  rw [decide_eq_true h0, if_pos rfl, decide_eq_true h1, pure_bind, if_neg (by simp)]
theorem cl_bad {n : Int} (h : ¬ (1 ≤ n ∧ n ≤ 60)) : P_checklength n = Mo.throw bad := by
  unfold P_checklength
  simp only [pure_bind, bind_assoc, map_pure, bind_pure]
  by_cases h0 : 1 ≤ n
  · rw [decide_eq_true h0, if_pos rfl, decide_eq_false (by omega), pure_bind, if_pos (by simp)]; rfl
  · rw [decide_eq_false h0, if_neg (by simp), pure_bind, if_pos (by simp)]; rfl
theorem least_in : ∀ {l : List Int}, 0 < l.length → ∃ i, i ∈ l ∧ ∀ y ∈ l, i ≤ y
  | [a], _ => ⟨a, by simp, by simp⟩
  | a :: b :: l, _ => by
    obtain ⟨i, h1, h2⟩ := least_in (l := b :: l) (by simp)
    by_cases c : a ≤ i
    · exact ⟨a, by simp, fun y hy => by
        rcases List.mem_cons.mp hy with e | e
        · omega
        · have := h2 y e; omega⟩
    · exact ⟨i, List.mem_cons_of_mem _ h1, fun y hy => by
        rcases List.mem_cons.mp hy with e | e
        · omega
        · exact h2 y e⟩
theorem init_eq {l : List Int} (h0 : 1 ≤ l.length) (h1 : l.length ≤ 60) (h2 : ∀ x ∈ l, 0 ≤ x) : P_LoadInit l = pure l := by
  unfold P_LoadInit
  simp only [pure_bind, bind_assoc, map_pure, bind_pure]
  rw [cl_eq (by omega) (by omega), pure_bind, Mo.rq_of (by omega), pure_bind]
  refine Mo.ext' fun Q E => propext ⟨fun h => ?_, fun h a ha => ?_⟩
  · obtain ⟨i, a1, a2⟩ := least_in (l := l) (by omega)
    have := h i ⟨a1, a2⟩
    have z := h2 i a1
    have z2 : (P_checkleast i 0 >>= fun _ => (pure l : Mo _)).run Q E := this
    unfold P_checkleast at z2
    simp only [pure_bind, bind_assoc, map_pure, bind_pure] at z2
    rw [decide_eq_false (by omega), if_neg (by simp)] at z2
    exact z2
  · show (P_checkleast a 0 >>= fun _ => (pure l : Mo _)).run Q E
    have z := h2 a ha.1
    unfold P_checkleast
    simp only [pure_bind, bind_assoc, map_pure, bind_pure]
    rw [decide_eq_false (by omega), if_neg (by simp)]
    exact h
theorem of_eq {n b m : Int} {u : Unit} (h0 : 1 ≤ n) (h1 : n ≤ 60) (m0 : 0 ≤ m) (m1 : m ≤ 10000) : P_LoadOf u n b m = pure (ev n b m) := by
  have hz := sizeLine_eq
  unfold P_LoadOf
  simp only [pure_bind, bind_assoc, map_pure, bind_pure]
  rw [cl_eq h0 h1, pure_bind, decide_eq_true m0, if_pos rfl, decide_eq_true m1, pure_bind, if_neg (by simp), Mo.rq_of ⟨by omega, by omega⟩, pure_bind, Mo.rq_of (by omega), pure_bind]
  rw [Mo.lc_map (g := evk n b m) (by rw [rangeL_len]; omega) fun w hw => ?_]
  · rw [pure_bind]
    show P_LoadInit (ev n b m) = _
    exact init_eq (by rw [ev_len]; omega) (by rw [ev_len]; omega) fun x hx => ev_mem (by omega) m0 hx
  · rw [Mo.rq_of (by omega), pure_bind]
    unfold evk
    by_cases c : (w - b) % n < m % n
    · rw [if_pos c, decide_eq_true c, if_pos rfl]
    · rw [if_neg c, decide_eq_false c, if_neg (by simp)]
theorem of_bad {n b m : Int} {u : Unit} (h : ¬ (1 ≤ n ∧ n ≤ 60) ∨ ¬ (0 ≤ m ∧ m ≤ 10000)) : P_LoadOf u n b m = Mo.throw bad := by
  unfold P_LoadOf
  simp only [pure_bind, bind_assoc, map_pure, bind_pure]
  by_cases c : 1 ≤ n ∧ n ≤ 60
  · rw [cl_eq c.1 c.2, pure_bind]
    have h : ¬ (0 ≤ m ∧ m ≤ 10000) := by rcases h with h | h; exact (h c).elim; exact h
    by_cases m0 : 0 ≤ m
    · rw [decide_eq_true m0, if_pos rfl, decide_eq_false (by omega), pure_bind, if_pos (by simp)]; rfl
    · rw [decide_eq_false m0, if_neg (by simp), pure_bind, if_pos (by simp)]; rfl
  · rw [cl_bad c, Mo.throw_bind]
theorem zero_eq {n : Int} (h0 : 1 ≤ n) (h1 : n ≤ 60) : P_LoadZero n = pure (List.replicate n.toNat 0) := by
  have hz := sizeLine_eq
  unfold P_LoadZero
  simp only [pure_bind, bind_assoc, map_pure, bind_pure]
  rw [cl_eq h0 h1, pure_bind, Mo.rq_of ⟨by omega, by omega, by rw [List.length_singleton]; omega⟩, pure_bind]
  have e : (List.replicate n.toNat [(0 : Int)]).flatten = List.replicate n.toNat 0 := by simp
  rw [e]
  exact init_eq (by simp; omega) (by simp; omega) fun x hx => by rw [(List.mem_replicate.mp hx).2]; exact Int.le_refl _
theorem even_eq {n b m : Int} (h0 : 1 ≤ n) (h1 : n ≤ 60) : P_Leven n b m = pure (ev n b m) := by
  have hz := sizeLine_eq
  unfold P_Leven
  simp only [pure_bind, bind_assoc, map_pure, bind_pure]
  rw [Mo.rq_of ⟨by omega, by omega⟩, pure_bind, Mo.rq_of (by omega), pure_bind, Mo.rq_of (by omega), pure_bind]
  rw [Mo.lc_map (g := evk n b m) (by rw [rangeL_len]; omega) fun w hw => ?_]
  · rfl
  · rw [Mo.rq_of (by omega), pure_bind]
    unfold evk
    by_cases c : (w - b) % n < m % n
    · rw [if_pos c, decide_eq_true c, if_pos rfl]
    · rw [if_neg c, decide_eq_false c, if_neg (by simp)]
theorem ixN_in {n : Nat} {i : Int} (h0 : 0 ≤ i) (h1 : i < n) : ixN n i = some i.toNat := by
  unfold ixN
  rw [if_pos h0, if_pos (by omega)]
theorem at_ev {n b m k : Int} (hn : 0 < n) (h0 : 0 ≤ k) (h1 : k < n) : atI (ev n b m) k = some (evk n b m k) := by
  unfold atI
  rw [ixN_in h0 (by rw [ev_len]; omega)]
  exact ev_at hn h0 h1
theorem step_eq {n b m : Int} (hn : 0 < n) : ∃ x, atI (ev n b m) ((b + m) % n) = some x ∧ ixN (ev n b m).length ((b + m) % n) = some ((b + m) % n).toNat ∧ (ev n b m).set ((b + m) % n).toNat (x + 1) = ev n b (m + 1) := by
  have q0 := Int.emod_nonneg (b + m) (show n ≠ 0 by omega)
  have q1 := Int.emod_lt_of_pos (b + m) hn
  exact ⟨_, at_ev hn q0 q1, ixN_in q0 (by rw [ev_len]; omega), ev_succ hn (ev_at hn q0 q1)⟩
theorem walk_ok {n b m : Int} (h0 : 1 ≤ n) (h1 : n ≤ 60) (m0 : 0 ≤ m) (m1 : m ≤ 10000) : P_Lwalk n b m = pure (ev n b m) := by
  have hz := sizeLine_eq
  unfold P_Lwalk
  simp only [pure_bind, bind_assoc, map_pure, bind_pure]
  rw [Mo.rq_of ⟨by omega, by omega, by rw [List.length_singleton]; omega⟩, pure_bind, Mo.rq_of (by omega), pure_bind]
  have e : (List.replicate n.toNat [(0 : Int)]).flatten = ev n b 0 := by
    rw [ev_rep (q := 0) fun k _ _ => evk_zero (by omega)]
    simp
  rw [e]
  have key : ∀ (j : Nat) (t : Nat), Mo.fold (fun (s10 : List Int) (w11 : Int) => Mo.rq (0 < n) ((b + w11) % n) >>= fun place_16 => Mo.get (atI s10 place_16) >>= fun x => Mo.get (ixN s10.length place_16) >>= fun n22 => pure (s10.set n22 (x + 1))) (rangeL t j) (ev n b t) = pure (ev n b (t + j : Nat)) := fun j => by
    induction j with
    | zero => intro t; rfl
    | succ j ih =>
      intro t
      have er : rangeL (t : Int) (j + 1) = (t : Int) :: rangeL ((t + 1 : Nat) : Int) j := by
        refine List.ext_getElem? fun i => ?_
        by_cases hi : i < j + 1
        · rw [rangeL_at hi]
          cases i with
          | zero => simp
          | succ i => rw [List.getElem?_cons_succ, rangeL_at (by omega)]; congr 1; omega
        · rw [List.getElem?_eq_none (by rw [rangeL_len]; omega), List.getElem?_eq_none (by rw [List.length_cons, rangeL_len]; omega)]
      rw [er]
      obtain ⟨x, e1, e2, e3⟩ := step_eq (n := n) (b := b) (m := t) (by omega)
      unfold Mo.fold
      rw [Mo.rq_of (show 0 < n by omega), pure_bind, e1, Mo.get_some, pure_bind, e2, Mo.get_some, pure_bind, pure_bind, e3]
      have := ih (t + 1)
      rw [show ((t : Int) + 1) = ((t + 1 : Nat) : Int) by omega, this]
      congr 2
      omega
  have := key m.toNat 0
  rw [show ((0 + m.toNat : Nat) : Int) = m by omega] at this
  exact this
theorem isload_eq {l : List Int} (h : l.length ≤ 60) : P_Lisload l l = pure true := by
  have hz := sizeLine_eq
  unfold P_Lisload
  have el : P_LoadLen l = pure (l.length : Int) := rfl
  simp only [pure_bind, bind_assoc, map_pure, bind_pure, Bool.not_true, Bool.false_eq_true, if_false, el, Mo.calm_pure]
  rw [Mo.rq_of (show (0 : Int) ≤ l.length ∧ (l.length : Int) < 2 ^ 63 by omega), pure_bind, decide_eq_false (by omega), if_neg (by simp), Mo.rq_of (by omega), pure_bind]
  have key : ∀ xs : List Int, (∀ x ∈ xs, 0 ≤ x ∧ x < l.length) → Mo.loop (δ := Bool) (fun (s13 : Unit) (w14 : Int) => P_LoadGetitem l w14 >>= fun x => Mo.rq (Enc.ok RF.rI x) (Enc.d RF.rI x) >>= fun x => Mo.get (atI l w14) >>= fun x_1 => Mo.rq (Enc.ok RF.rI x_1) (Enc.d RF.rI x_1) >>= fun x_2 => Mo.rq (x = x_2) true >>= fun x => if (!x) = true then pure (Lp.ret false) else pure (Lp.go ())) xs () = pure (Lp.go ()) := fun xs => by
    induction xs with
    | nil => intro _; rfl
    | cons w xs ih =>
      intro hx
      obtain ⟨c1, c2⟩ := hx w List.mem_cons_self
      obtain ⟨y, e1, _⟩ := atI_in c1 c2
      unfold Mo.loop
      have eg : P_LoadGetitem l w = pure y := by
        unfold P_LoadGetitem
        have : P_LoadCheckminute l w = pure () := by
          unfold P_LoadCheckminute
          simp only [pure_bind, bind_assoc, map_pure, bind_pure]
          rw [decide_eq_true c1, if_pos rfl, decide_eq_true c2, pure_bind, if_neg (by simp)]
        simp only [pure_bind, bind_assoc, map_pure, bind_pure]
        rw [this, pure_bind, e1, Mo.get_some]
      rw [eg, pure_bind, Mo.rq_of (show Enc.ok RF.rI y from trivial), pure_bind, e1, Mo.get_some, pure_bind, Mo.rq_of (show Enc.ok RF.rI y from trivial), pure_bind, Mo.rq_of rfl, pure_bind, if_neg (by simp), pure_bind]
      exact ih fun x hx' => hx x (List.mem_cons_of_mem _ hx')
  rw [key _ fun x hx => by
    obtain ⟨a, c⟩ := rangeL_mem.mp hx
    omega]
  rfl
theorem isev {n b m : Int} (h1 : n ≤ 60) : P_Lisload (ev n b m) (ev n b m) = pure true := isload_eq (by rw [ev_len]; omega)
theorem refuses_eq {n b m : Int} (h : ¬ (1 ≤ n ∧ n ≤ 60) ∨ ¬ (0 ≤ m ∧ m ≤ 10000)) : P_Lrefuses n b m = pure true := by
  unfold P_Lrefuses
  simp only [pure_bind, bind_assoc, map_pure, bind_pure]
  rw [of_bad h, Mo.throw_bind, Mo.catch1_throw (e := bad) (cn := Str.ofString "BadLoad") rfl]
  simp only [if_true, Mo.calm_pure]
end DD
namespace DD
open PySem PySem.Spec PyProof.Rows L2 KO SX RF
theorem Mo.req_of {p : Prop} (h : p) : Mo.req p = (pure () : Mo Unit) := Mo.ext' fun Q E => by
  show (p ∧ Q ()) = Q ()
  exact propext ⟨fun z => z.2, fun z => ⟨h, z⟩⟩
theorem one_eq {n b m : Int} (h0 : 1 ≤ n) (h1 : n ≤ 60) (m0 : 0 ≤ m) (m1 : m + 1 ≤ 10000) : P_Lone n b m = pure true := by
  have hn : 0 < n := by omega
  unfold P_Lone
  simp only [pure_bind, bind_assoc, map_pure, bind_pure]
  rw [walk_ok h0 h1 m0 (by omega), pure_bind, of_eq h0 h1 m0 (by omega), pure_bind, isev h1, Mo.calm_pure, pure_bind, if_neg (by simp)]
  have ea : P_LoadAbs (ev n b m) = pure m := by
    have e := ev_sum (n := n) (b := b) hn m.toNat
    rw [show ((m.toNat : Nat) : Int) = m by omega] at e
    show (pure (ev n b m).sum : Mo Int) = _
    rw [e]
  rw [ea, Mo.calm_pure, pure_bind, Mo.rq_of (show Enc.ok RF.rI m from trivial), pure_bind, pure_bind, Mo.rq_of rfl, pure_bind, pure_bind, if_neg (by simp)]
  rw [at_ev hn (Int.le_refl 0) (by omega), Mo.get_some, pure_bind, Mo.req_of ⟨by omega, by rw [ev_len]; omega, by have := evk_nn (b := b) (k := 0) hn m0; omega⟩, pure_bind]
  rw [pure_bind, isev h1, Mo.calm_pure, pure_bind, if_neg (by simp), Mo.rq_of hn, pure_bind]
  obtain ⟨x, e1, e2, e3⟩ := step_eq (n := n) (b := b) (m := m) hn
  rw [e1, Mo.get_some, pure_bind, e2, Mo.get_some, pure_bind, of_eq h0 h1 (by omega) m1, pure_bind, e3, isev h1]
theorem pairs_eq {l r : List Int} (h : l.length = r.length) (h1 : l.length ≤ 60) : P_LoadPairs l r = pure (l.zip r) := by
  unfold P_LoadPairs
  simp only [pure_bind, bind_assoc, map_pure, bind_pure]
  rw [if_neg (by simp; omega), Mo.rq_of ⟨h, by omega⟩]
theorem iadd_eq {n b m b' m' b2 m2 : Int} (h1 : n ≤ 60) (h : ∀ k, evk n b m k + evk n b' m' k = evk n b2 m2 k) : P_LoadIadd (ev n b m) (ev n b' m') = pure (ev n b2 m2) := by
  have hz := sizeLine_eq
  unfold P_LoadIadd
  simp only [pure_bind, bind_assoc, map_pure, bind_pure]
  rw [pairs_eq (by rw [ev_len, ev_len]) (by rw [ev_len]; omega), pure_bind, Mo.lc_map (g := fun (w : Int × Int) => w.1 + w.2) (by rw [List.length_zip, ev_len, ev_len]; omega) fun w hw => rfl, ev_zip h, Mo.calm_pure]
theorem mul_eq {n q : Int} (h0 : 1 ≤ n) (h1 : n ≤ 60) (q0 : 0 ≤ q) (q1 : q ≤ 10000) : P_LoadMul (List.replicate n.toNat 1) q = pure (List.replicate n.toNat q) := by
  have hz := sizeLine_eq
  unfold P_LoadMul
  simp only [pure_bind, bind_assoc, map_pure, bind_pure]
  have ec : P_checkleast q 0 = pure () := by
    unfold P_checkleast
    simp only [pure_bind, bind_assoc, map_pure, bind_pure]
    rw [decide_eq_false (by omega), if_neg (by simp)]
  rw [ec, pure_bind, Mo.lc_map (g := fun x => x * q) (by rw [List.length_replicate]; omega) fun w hw => ?_]
  · rw [pure_bind, List.map_replicate, Int.one_mul]
    exact init_eq (by simp; omega) (by simp; omega) fun x hx => by rw [(List.mem_replicate.mp hx).2]; exact q0
  · rw [(List.mem_replicate.mp hw).2]
    exact Mo.rq_of (.inl ⟨by decide, by decide⟩)
theorem shift_eq {n b m : Int} (h0 : 1 ≤ n) (h1 : n ≤ 60) (m0 : 0 ≤ m) : P_LoadLshift (ev n b m) b = pure (ev n 0 m) := by
  have hz := sizeLine_eq
  have hn : 0 < n := by omega
  unfold P_LoadLshift
  simp only [pure_bind, bind_assoc, map_pure, bind_pure]
  rw [ev_len, Mo.rq_of (by omega), pure_bind, show ((n.toNat : Nat) : Int).toNat = n.toNat by omega, show ((n.toNat : Nat) : Int) = n by omega]
  rw [Mo.lc_map (g := evk n 0 m) (by rw [rangeL_len]; omega) fun w hw => ?_]
  · rw [pure_bind]
    show P_LoadInit (ev n 0 m) = _
    exact init_eq (by rw [ev_len]; omega) (by rw [ev_len]; omega) fun x hx => ev_mem hn m0 hx
  · obtain ⟨w0, w1⟩ := rangeL_mem.mp hw
    have q0 := Int.emod_nonneg (w + b) (show n ≠ 0 by omega)
    have q1 := Int.emod_lt_of_pos (w + b) hn
    rw [Mo.rq_of hn, pure_bind, at_ev hn q0 q1, Mo.get_some, evk_shift w0 (by omega)]
theorem turn_eq {n b m : Int} (hn : 0 < n) : ev n (b + n) m = ev n b m := by
  unfold ev
  exact List.map_congr_left fun k _ => evk_turn hn
theorem eq_eq {l : List Int} (h : l.length ≤ 60) : P_LoadEq l l = pure true := by
  have hz := sizeLine_eq
  unfold P_LoadEq
  simp only [pure_bind, bind_assoc, map_pure, bind_pure, if_true]
  have e : Eqk (rL RF.rI) l := by
    exact ⟨by omega, fun _ _ => trivial⟩
  rw [Mo.rq_of ⟨e, e⟩, decide_true]
theorem sums {ws : List Int} : ∀ i, (∀ x ∈ ws, 0 ≤ x) → 0 ≤ (ws.take i).sum := fun i h => by
  induction ws generalizing i with
  | nil => simp
  | cons w ws ih =>
    cases i with
    | zero => simp
    | succ i =>
      rw [List.take_succ_cons, List.sum_cons]
      have := ih i fun x hx => h x (List.mem_cons_of_mem _ hx)
      have := h w List.mem_cons_self
      omega
theorem fwd_eq {n : Int} (h0 : 1 ≤ n) (h1 : n ≤ 60) {b : Int} : ∀ (ws : List Int) (t : Int), (∀ x ∈ ws, 0 ≤ x ∧ x + 1 ≤ 10000) → Mo.loop (δ := Bool) (fun (s14 : List Int × Int) (w15 : Int) => P_Lone n s14.snd w15 >>= fun x => if (!x) = true then pure (Lp.ret false) else P_LoadOf () n s14.snd w15 >>= fun y35 => (P_LoadIadd s14.fst y35).calm >>= fun total_34 => pure (Lp.go (total_34, s14.snd + w15))) ws (ev n b t, b + t) = pure (Lp.go (ev n b (t + ws.sum), b + t + ws.sum))
  | [], t, _ => by simp [Mo.loop]
  | w :: ws, t, h => by
    obtain ⟨w0, w1⟩ := h w List.mem_cons_self
    unfold Mo.loop
    rw [one_eq h0 h1 w0 w1, pure_bind, if_neg (by simp), of_eq h0 h1 w0 (by omega), pure_bind, iadd_eq (b2 := b) (m2 := t + w) h1 fun k => evk_add (by omega), Mo.calm_pure, pure_bind, pure_bind]
    have := fwd_eq h0 h1 (b := b) ws (t + w) fun x hx => h x (List.mem_cons_of_mem _ hx)
    rw [List.sum_cons, show t + (w + ws.sum) = t + w + ws.sum by omega, show b + t + (w + ws.sum) = b + (t + w) + ws.sum by omega, ← this, show b + t + w = b + (t + w) by omega]
theorem bwd_eq {n : Int} (h0 : 1 ≤ n) (h1 : n ≤ 60) : ∀ (ws : List Int) (a t : Int), (∀ x ∈ ws, 0 ≤ x ∧ x + 1 ≤ 10000) → Mo.fold (fun (s41 : Int × List Int) (w42 : Int) => P_LoadOf () n (s41.fst - w42) w42 >>= fun y55 => (P_LoadIadd s41.snd y55).calm >>= fun back_54 => pure (s41.fst - w42, back_54)) ws (a, ev n a t) = pure (a - ws.sum, ev n (a - ws.sum) (t + ws.sum))
  | [], a, t, _ => by simp [Mo.fold]
  | w :: ws, a, t, h => by
    obtain ⟨w0, w1⟩ := h w List.mem_cons_self
    unfold Mo.fold
    rw [of_eq h0 h1 w0 (by omega), pure_bind, iadd_eq (b2 := a - w) (m2 := t + w) h1 fun k => ?_, Mo.calm_pure, pure_bind, pure_bind]
    · rw [bwd_eq h0 h1 ws (a - w) (t + w) fun x hx => h x (List.mem_cons_of_mem _ hx), List.sum_cons, show a - w - ws.sum = a - (w + ws.sum) by omega, show t + w + ws.sum = t + (w + ws.sum) by omega]
    · have := evk_add (n := n) (b := a - w) (m1 := w) (m2 := t) (k := k) (by omega)
      rw [show a - w + w = a by omega, show w + t = t + w by omega] at this
      show evk n a t k + evk n (a - w) w k = evk n (a - w) (t + w) k
      rw [Int.add_comm]
      exact this
theorem row_eq {n b : Int} {ws : List Int} (h0 : 1 ≤ n) (h1 : n ≤ 60) (h : ∀ x ∈ ws, 0 ≤ x ∧ x + 1 ≤ 10000) (hs : ws.sum ≤ 10000) : P_Lrow n b ws = pure true := by
  have hz := sizeLine_eq
  have hn : 0 < n := by omega
  have s0 : 0 ≤ ws.sum := by
    have := sums ws.length fun x hx => (h x hx).1
    rwa [List.take_length] at this
  have ez : ∀ a : Int, List.replicate n.toNat 0 = ev n a 0 := fun a => (ev_rep (q := 0) fun k _ _ => evk_zero hn).symm
  unfold P_Lrow
  simp only [pure_bind, bind_assoc, map_pure, bind_pure]
  rw [zero_eq h0 h1, pure_bind, pure_bind]
  have f := fwd_eq h0 h1 (b := b) ws 0 h
  rw [show b + 0 = b by omega, ← ez b] at f
  have hr : ∀ x ∈ ws.reverse, 0 ≤ x ∧ x + 1 ≤ 10000 := fun x hx => h x (List.mem_reverse.mp hx)
  rw [f, pure_bind]
  show (Mo.fold _ _ _ >>= _ : Mo Bool) = _
  have g := bwd_eq h0 h1 ws.reverse (b + ws.sum) 0 hr
  rw [← ez (b + ws.sum), List.sum_reverse, show b + ws.sum - ws.sum = b by omega, show (0 : Int) + ws.sum = ws.sum by omega] at g
  dsimp only
  rw [show (0 : Int) + ws.sum = ws.sum by omega, g, pure_bind]
  dsimp only
  have e1 : (ev n b ws.sum).length ≤ 60 := by rw [ev_len]; omega
  have e0 : (ev n 0 ws.sum).length ≤ 60 := by rw [ev_len]; omega
  rw [of_eq h0 h1 s0 hs, pure_bind, even_eq h0 h1, pure_bind, isev h1, pure_bind, if_neg (by simp), eq_eq e1, Mo.calm_pure, pure_bind, pure_bind, shift_eq h0 h1 s0, Mo.calm_pure, pure_bind, of_eq h0 h1 s0 hs, pure_bind, eq_eq e0, Mo.calm_pure, pure_bind, of_eq h0 h1 s0 hs, pure_bind, turn_eq hn, eq_eq e1, Mo.calm_pure, pure_bind]
  rw [Mo.rq_of (by simp; omega), pure_bind, Mo.lc_pure (p := fun x => !x) (g := fun x => x) (by simp; omega) (fun w hw => ?_) (fun _ _ _ => rfl)]
  · rw [pure_bind]
    have e : ((([true, true, true] : List Bool) ++ [true]).filter fun x => !x).map (fun x => x) = [] := by decide
    rw [e, Mo.rq_of ⟨⟨by simp, fun _ _ => trivial⟩, ⟨by simp, fun _ _ => trivial⟩⟩]
    rfl
  · have : w = true := by
      simp at hw
      exact hw
    subst this
    rw [Mo.rq_of (show Enc.ok rB true from trivial), pure_bind, pure_bind, Mo.rq_of rfl, pure_bind]
end DD
namespace DD
open PySem PySem.Spec PyProof.Rows L2 KO SX RF
theorem dr {m : Int} {Q : Int → Prop} {E : Ex → Prop} (h0 : 0 < m) (h1 : m < 1152921504606846976) (h : ∀ r, 0 ≤ r → r < m → Q r) : (Mo.take m).run Q E := by
  rw [Mo.run_take]
  exact ⟨⟨h0, h1⟩, fun r a => h r a.1 a.2⟩
theorem length_ok {Q : Int → Prop} {E : Ex → Prop} (h : ∀ n, 1 ≤ n → n ≤ 60 → Q n) : P_Llength.run Q E := by
  unfold P_Llength
  simp only [pure_bind, bind_assoc, map_pure, bind_pure]
  rw [Mo.run_bind]
  refine dr (by omega) (by omega) fun r a c => ?_
  by_cases e : r = 0
  · rw [decide_eq_true e, if_pos rfl, Mo.run_bind]
    refine dr (by omega) (by omega) fun r a c => ?_
    exact h _ (by omega) (by omega)
  · rw [decide_eq_false e, if_neg (by simp), Mo.run_bind]
    refine dr (by omega) (by omega) fun r a c => ?_
    exact h _ (by omega) (by omega)
theorem begin_ok {Q : Int → Prop} {E : Ex → Prop} (h : ∀ n, Q n) : P_Lbegin.run Q E := by
  unfold P_Lbegin
  simp only [pure_bind, bind_assoc, map_pure, bind_pure, Mo.rq_of cpow9, pow9]
  rw [Mo.run_bind]
  refine dr (by omega) (by omega) fun r a c => ?_
  by_cases e : r = 0
  · rw [decide_eq_true e, if_pos rfl, Mo.rq_of (.inl ⟨by decide, by decide⟩), pure_bind, Mo.run_bind]
    refine dr (by omega) (by omega) fun r a c => ?_
    exact h _
  · rw [decide_eq_false e, if_neg (by simp), Mo.run_bind]
    refine dr (by omega) (by omega) fun r a c => ?_
    exact h _
theorem stretch_ok {n : Int} (h0 : 1 ≤ n) (h1 : n ≤ 60) {Q : Int → Prop} {E : Ex → Prop} (h : ∀ m, 0 ≤ m → m ≤ 1600 → Q m) : (P_Lstretch n).run Q E := by
  unfold P_Lstretch
  simp only [pure_bind, bind_assoc, map_pure, bind_pure]
  rw [Mo.run_bind]
  refine dr (by omega) (by omega) fun r a c => ?_
  by_cases e : r = 0
  · rw [decide_eq_true e, if_pos rfl, Mo.run_bind]
    refine dr (by omega) (by omega) fun r a c => ?_
    rw [Mo.rq_of (.inl ⟨by omega, by omega⟩)]
    have b1 : 0 ≤ n * r := Int.mul_nonneg (by omega) a
    have b2 : n * r ≤ 60 * 3 := Int.mul_le_mul h1 (by omega) a (by omega)
    exact h _ b1 (by omega)
  · rw [decide_eq_false e, if_neg (by simp)]
    by_cases e : r = 1
    · rw [decide_eq_true e, if_pos rfl]
      refine dr (by omega) (by omega) fun r a c => ?_
      exact h _ (by omega) (by omega)
    · rw [decide_eq_false e, if_neg (by simp)]
      refine dr (by omega) (by omega) fun r a c => ?_
      exact h _ (by omega) (by omega)
theorem sum_le {l : List Int} {c : Int} (h : ∀ x ∈ l, x ≤ c) : l.sum ≤ l.length * c := by
  induction l with
  | nil => simp
  | cons a l ih =>
    have := ih fun x hx => h x (List.mem_cons_of_mem _ hx)
    have := h a List.mem_cons_self
    rw [List.sum_cons, List.length_cons, Int.natCast_add, Int.add_mul]
    omega
theorem rep_eq {n x : Int} : (List.replicate n.toNat [x]).flatten = List.replicate n.toNat x := by simp
theorem Law_ok (sc : List Int) : (P_Law sc).run (fun b => b = true) (fun _ => False) := by
  have hz := sizeLine_eq
  unfold P_Law
  simp only [pure_bind, bind_assoc, map_pure, bind_pure, Mo.rq_of cpow9, pow9]
  rw [Mo.rq_of (by omega), pure_bind, Mo.run_bind]
  refine length_ok fun n h0 h1 => ?_
  have hn : 0 < n := by omega
  rw [Mo.run_bind]
  refine begin_ok fun b => ?_
  rw [Mo.run_bind]
  refine dr (by omega) (by omega) fun r r0 r1 => ?_
  rw [Mo.rq_of (by omega), pure_bind, Mo.run_bind]
  refine Mo.lc_each (R := fun _ m => 0 ≤ m ∧ m ≤ 1600) (by rw [rangeL_len]; omega) (fun x _ => stretch_ok h0 h1 fun m a c => ⟨a, c⟩) fun ws wl wr => ?_
  rw [rangeL_len] at wl
  have wb : ∀ x ∈ ws, 0 ≤ x ∧ x ≤ 1600 := fun x hx => by
    obtain ⟨i, hi, e⟩ := List.getElem_of_mem hx
    have := wr i ((rangeL 0 (2 + r).toNat)[i]'(by rw [rangeL_len]; omega)) x (List.getElem?_eq_getElem _) (by rw [← e]; exact List.getElem?_eq_getElem hi)
    exact this
  have ws1 : ws.sum ≤ 10000 := by
    have := sum_le fun x hx => (wb x hx).2
    omega
  rw [row_eq h0 h1 (fun x hx => by have := wb x hx; omega) ws1, pure_bind, if_neg (by simp), Mo.rq_of (by omega), pure_bind, Mo.rq_of ⟨hn, by omega⟩, pure_bind, Mo.run_bind]
  have d0 : 0 ≤ 10000 / n := Int.ediv_nonneg (by omega) (by omega)
  have d1 : 10000 / n ≤ 10000 := Int.ediv_le_self _ (by omega)
  refine dr (by omega) (by omega) fun q q0 q1 => ?_
  have p0 : 0 ≤ n * q := Int.mul_nonneg (by omega) q0
  have p1 : n * q ≤ 10000 := by
    have a1 : n * q ≤ n * (10000 / n) := Int.mul_le_mul_of_nonneg_left (by omega) (by omega)
    have a2 := Int.mul_ediv_self_le (x := 10000) (k := n) (by omega)
    omega
  have er : ∀ x b m : Int, (∀ k, 0 ≤ k → k < n → evk n b m k = x) → ev n b m = List.replicate n.toNat x := fun x b m h => ev_rep h
  have rl : ∀ x : Int, (List.replicate n.toNat x).length ≤ 60 := fun x => by simp; omega
  rw [Mo.rq_of (.inl ⟨by omega, by omega⟩), pure_bind, of_eq h0 h1 p0 p1, pure_bind, Mo.rq_of ⟨by omega, by omega, by rw [List.length_singleton]; omega⟩, pure_bind, rep_eq, er q b _ fun k _ _ => evk_mul hn, isload_eq (rl q), pure_bind, if_neg (by simp)]
  rw [of_eq h0 h1 (by omega) (by omega), pure_bind, er 1 0 n fun k _ _ => by have := evk_mul (b := 0) (q := 1) (k := k) hn; rwa [Int.mul_one] at this, mul_eq h0 h1 q0 (by omega), Mo.calm_pure, pure_bind, Mo.rq_of ⟨by omega, by omega, by rw [List.length_singleton]; omega⟩, pure_bind, rep_eq, isload_eq (rl q), pure_bind, if_neg (by simp)]
  rw [of_eq h0 h1 (by omega) (by omega), pure_bind, even_eq h0 h1, pure_bind, isev h1, pure_bind, if_neg (by simp)]
  rw [of_eq h0 h1 (by omega) (by omega), pure_bind, pure_bind, er 0 b 0 fun k _ _ => evk_zero hn, isload_eq (rl 0), pure_bind, if_neg (by simp), Mo.run_bind]
  refine dr (by omega) (by omega) fun x x0 x1 => ?_
  rw [Mo.run_bind]
  refine dr (by omega) (by omega) fun y y0 y1 => ?_
  obtain ⟨w, e1, _⟩ := atI_in (xs := ws) (i := 0) (by omega) (by omega)
  rw [e1]
  have l1 : ∀ k : Int, ¬ (1 ≤ k ∧ k ≤ 60) → P_Lrefuses k b w = pure true := fun k hk => refuses_eq (.inl hk)
  simp only [Mo.loop, Mo.get_some, pure_bind, l1 0 (by omega), l1 61 (by omega), l1 (-1) (by omega), l1 (-1 - x) (by omega), l1 (62 + y) (by omega), Bool.not_true, Bool.false_eq_true, if_false]
  show (Mo.take 999 >>= _ : Mo Bool).run _ _
  rw [Mo.run_bind]
  refine dr (by omega) (by omega) fun z z0 z1 => ?_
  have l2 : ∀ k : Int, ¬ (0 ≤ k ∧ k ≤ 10000) → P_Lrefuses n b k = pure true := fun k hk => refuses_eq (.inr hk)
  have l3 : ∀ k : Int, P_Lrefuses 61 b k = pure true := fun k => refuses_eq (.inl (by omega))
  simp only [Mo.loop, pure_bind, l2 (-1) (by omega), l2 10001 (by omega), l2 (-1 - x) (by omega), l2 (10002 + z) (by omega), l3, Bool.not_true, Bool.false_eq_true, if_false]
  rfl
end DD
namespace DD
open PySem PySem.Spec PyProof.Rows L2 KO SX RF
def spLaw (K : PySem.W.Frag) : Sp := fun vs H Q _ => ∃ (a : Addr) (ns : List Int), vs = [.ref a] ∧ SqL K H a (ns.map V.int) ∧ ns.length ≤ 63 ∧ ∀ H', Q (.bl true) H'
theorem ok_law {P : Program} {w : World} {K : PySem.W.Frag} {mg : Str → Option Value} {base : Heap} (T : Tx K mg) : FnOk P w K mg base CX0 12 T.flaw T.dlaw ["_law_script"] (spLaw K) := by
  refine (fn_Law (P := P) (w := w) (base := base) T).c0 fun vs H Q E h => ?_
  obtain ⟨a, ns, rfl, hs, hl, q⟩ := h
  refine ⟨(), (ns, ()), H, ⟨Go.refl (Same.refl H), fun i e he => ?_, fun i j l m b p r h1 h2 => ?_, rfl⟩, (P_Law ns).mono (fun b hb v F' H' _ _ hv => ?_) (fun _ z => z.elim) (Law_ok ns)⟩
  · match i, he with
    | 0, he =>
      cases he
      exact ⟨.ref a, rfl, a, rfl, hs⟩
    | i + 1, he => cases he
  · match i, h1 with
    | 0, h1 => cases h1
    | i + 1, h1 => cases h1
  · obtain rfl : v = .bl b := hv
    rw [hb]
    exact q H'
end DD
namespace DD
open PySem L2 SX
theorem all_mk {l : PySem.W.OpenLaw} {w : World} {K : PySem.W.Frag} {h : Heap} {mg : Str → Option Value} {fa : Addr} (X : K.In h) (G : h.Ns mainGlobals mg) (hfa : mg "law" = some (.ref fa)) {pm_3 : Addr} {rs_3 : List Value} {pm_4 : Addr} {rs_4 : List Value} {f0 f1 f2 f3 f4 f5 f6 f7 f8 f9 f10 f11 f12 f13 f14 f15 f16 f17 f18 f19 f20 f21 f22 f23 f24 f25 f26 f27 f28 f29 f30 f31 f32 f33 f34 f35 f36 f37 f38 f39 f40 f41 CLoad CDepotError CBadLoad : Addr} {od0 an0 od1 an1 od2 an2 od3 an3 od4 an4 od5 an5 od6 an6 od7 an7 od8 an8 od9 an9 od10 an10 od11 an11 od12 an12 od13 an13 od14 an14 od15 an15 od16 an16 od17 an17 od18 an18 od19 an19 od20 an20 od21 an21 od22 an22 od23 an23 od24 an24 od25 an25 od26 an26 od27 an27 od28 an28 od29 an29 od30 an30 od31 an31 od32 an32 od33 an33 od34 an34 od35 an35 od36 an36 od37 an37 od38 an38 od39 an39 od40 an40 od41 an41 : Option Addr} {sl0 sl1 sl2 sl3 sl4 sl5 sl6 sl7 sl8 sl9 sl10 sl11 sl12 sl13 sl14 sl15 sl16 sl17 sl18 sl19 sl20 sl21 sl22 sl23 sl24 sl25 sl26 sl27 sl28 sl29 sl30 sl31 sl32 sl33 sl34 sl35 sl36 sl37 sl38 sl39 sl40 sl41 : Array (Option Value)} {oc0 kV0 dc0 pm0 cd0 ct0 oc1 kV1 dc1 pm1 cd1 ct1 oc2 kV2 dc2 pm2 cd2 ct2 oc3 kV3 dc3 pm3 cd3 ct3 oc4 kV4 dc4 pm4 cd4 ct4 oc5 kV5 dc5 pm5 cd5 ct5 oc6 kV6 dc6 pm6 cd6 ct6 oc7 kV7 dc7 pm7 cd7 ct7 oc8 kV8 dc8 pm8 cd8 ct8 oc9 kV9 dc9 pm9 cd9 ct9 oc10 kV10 dc10 pm10 cd10 ct10 oc11 kV11 dc11 pm11 cd11 ct11 oc12 kV12 dc12 pm12 cd12 ct12 oc13 kV13 dc13 pm13 cd13 ct13 oc14 kV14 dc14 pm14 cd14 ct14 oc15 kV15 dc15 pm15 cd15 ct15 oc16 kV16 dc16 pm16 cd16 ct16 oc17 kV17 dc17 pm17 cd17 ct17 oc18 kV18 dc18 pm18 cd18 ct18 oc19 kV19 dc19 pm19 cd19 ct19 oc20 kV20 dc20 pm20 cd20 ct20 oc21 kV21 dc21 pm21 cd21 ct21 oc22 kV22 dc22 pm22 cd22 ct22 oc23 kV23 dc23 pm23 cd23 ct23 oc24 kV24 dc24 pm24 cd24 ct24 oc25 kV25 dc25 pm25 cd25 ct25 oc26 kV26 dc26 pm26 cd26 ct26 oc27 kV27 dc27 pm27 cd27 ct27 oc28 kV28 dc28 pm28 cd28 ct28 oc29 kV29 dc29 pm29 cd29 ct29 oc30 kV30 dc30 pm30 cd30 ct30 oc31 kV31 dc31 pm31 cd31 ct31 oc32 kV32 dc32 pm32 cd32 ct32 oc33 kV33 dc33 pm33 cd33 ct33 oc34 kV34 dc34 pm34 cd34 ct34 oc35 kV35 dc35 pm35 cd35 ct35 oc36 kV36 dc36 pm36 cd36 ct36 oc37 kV37 dc37 pm37 cd37 ct37 oc38 kV38 dc38 pm38 cd38 ct38 oc39 kV39 dc39 pm39 cd39 ct39 oc40 kV40 dc40 pm40 cd40 ct40 oc41 kV41 dc41 pm41 cd41 ct41 : Value} {u_MOST_LENGTH u_MOST_MINUTES : Tok}
    (k_MOST_LENGTH : PySem.W.nsIn K mainGlobals "MOST_LENGTH" = some (some (.int 60 u_MOST_LENGTH)))
    (k_MOST_MINUTES : PySem.W.nsIn K mainGlobals "MOST_MINUTES" = some (some (.int 10000 u_MOST_MINUTES)))
    (z_ValueError : PySem.W.nsIn K mainGlobals "ValueError" = some none)
    (z_abs : PySem.W.nsIn K mainGlobals "abs" = some none)
    (z_any : PySem.W.nsIn K mainGlobals "any" = some none)
    (z_bool : PySem.W.nsIn K mainGlobals "bool" = some none)
    (z_classmethod : PySem.W.nsIn K mainGlobals "classmethod" = some none)
    (z_divmod : PySem.W.nsIn K mainGlobals "divmod" = some none)
    (z_int : PySem.W.nsIn K mainGlobals "int" = some none)
    (z_isinstance : PySem.W.nsIn K mainGlobals "isinstance" = some none)
    (z_iter : PySem.W.nsIn K mainGlobals "iter" = some none)
    (z_len : PySem.W.nsIn K mainGlobals "len" = some none)
    (z_list : PySem.W.nsIn K mainGlobals "list" = some none)
    (z_max : PySem.W.nsIn K mainGlobals "max" = some none)
    (z_min : PySem.W.nsIn K mainGlobals "min" = some none)
    (z_range : PySem.W.nsIn K mainGlobals "range" = some none)
    (z_staticmethod : PySem.W.nsIn K mainGlobals "staticmethod" = some none)
    (z_str : PySem.W.nsIn K mainGlobals "str" = some none)
    (z_sum : PySem.W.nsIn K mainGlobals "sum" = some none)
    (z_tuple : PySem.W.nsIn K mainGlobals "tuple" = some none)
    (z_zip : PySem.W.nsIn K mainGlobals "zip" = some none)
    (a_Load : PySem.W.nsIn K mainGlobals "Load" = some (some (.ref CLoad)))
    (pg_Load : PySem.W.plainGet K CLoad Str.empty = true)
    (hd_Load : PySem.W.hasDictIn K CLoad = true)
    (po_Load : PySem.W.plainOver K CLoad = true)
    (sa_Load : PySem.W.findIn K (.ref CLoad) "__setattr__" = some (some (.builtin "object.__setattr__")))
    (mk_Load : PySem.W.makesIn K CLoad = true)
    (kc_Load : PySem.W.keepIn K (.ref CLoad) = true)
    (na_Load__counts : PySem.W.findIn K (.ref CLoad) "_counts" = some none)
    (a_DepotError : PySem.W.nsIn K mainGlobals "DepotError" = some (some (.ref CDepotError)))
    (a_BadLoad : PySem.W.nsIn K mainGlobals "BadLoad" = some (some (.ref CBadLoad)))
    (a0 : PySem.W.nsIn K mainGlobals "check_length" = some (some (.ref f0)))
    (l0 : K.lookup f0 = some ⟨oc0, od0, .func (PySem.W.fnOf "check_length" "check_length" (defArgs schecklength) (defBody schecklength) (defScope schecklength) .none kV0 dc0 pm0 an0 cd0 ct0), sl0⟩)
    (c0 : PySem.W.codeIn K cd0 "check_length" = true)
    (k0 : PySem.W.keepIn K (.ref f0) = true)
    (a1 : PySem.W.nsIn K mainGlobals "check_least" = some (some (.ref f1)))
    (l1 : K.lookup f1 = some ⟨oc1, od1, .func (PySem.W.fnOf "check_least" "check_least" (defArgs scheckleast) (defBody scheckleast) (defScope scheckleast) .none kV1 dc1 pm1 an1 cd1 ct1), sl1⟩)
    (c1 : PySem.W.codeIn K cd1 "check_least" = true)
    (k1 : PySem.W.keepIn K (.ref f1) = true)
    (a2 : PySem.W.findIn K (.ref CLoad) "__init__" = some (some (.ref f2)))
    (i2 : PySem.W.isFn K (.ref f2) = true)
    (l2 : K.lookup f2 = some ⟨oc2, od2, .func (PySem.W.fnOf "__init__" "Load.__init__" (defArgs sLoadInit) (defBody sLoadInit) (defScope sLoadInit) .none kV2 dc2 pm2 an2 cd2 ct2), sl2⟩)
    (c2 : PySem.W.codeIn K cd2 "Load.__init__" = true)
    (k2 : PySem.W.keepIn K (.ref f2) = true)
    (a3 : PySem.W.findIn K (.ref CLoad) "zero" = some (some (.ref pm_3)))
    (r3 : PySem.W.recIn K pm_3 "staticmethod" = some (.ref f3 :: rs_3))
    (f03 : PySem.W.findIn K (.type "type") "zero" = some none)
    (t3 : PySem.W.typeIn K (.ref pm_3) = some (.type "staticmethod"))
    (g3 : PySem.W.specialIn K (.ref pm_3) "__get__" = some (some (.builtin "staticmethod.__get__")))
    (l3 : K.lookup f3 = some ⟨oc3, od3, .func (PySem.W.fnOf "zero" "Load.zero" (defArgs sLoadZero) (defBody sLoadZero) (defScope sLoadZero) .none kV3 dc3 pm3 an3 cd3 ct3), sl3⟩)
    (c3 : PySem.W.codeIn K cd3 "Load.zero" = true)
    (k3 : PySem.W.keepIn K (.ref f3) = true)
    (a4 : PySem.W.findIn K (.ref CLoad) "of" = some (some (.ref pm_4)))
    (r4 : PySem.W.recIn K pm_4 "classmethod" = some (.ref f4 :: rs_4))
    (f04 : PySem.W.findIn K (.type "type") "of" = some none)
    (t4 : PySem.W.typeIn K (.ref pm_4) = some (.type "classmethod"))
    (g4 : PySem.W.specialIn K (.ref pm_4) "__get__" = some (some (.builtin "classmethod.__get__")))
    (n4 : PySem.W.fnIn K f4 = true)
    (l4 : K.lookup f4 = some ⟨oc4, od4, .func (PySem.W.fnOf "of" "Load.of" (defArgs sLoadOf) (defBody sLoadOf) (defScope sLoadOf) .none kV4 dc4 pm4 an4 cd4 ct4), sl4⟩)
    (c4 : PySem.W.codeIn K cd4 "Load.of" = true)
    (k4 : PySem.W.keepIn K (.ref f4) = true)
    (a5 : PySem.W.findIn K (.ref CLoad) "_check_minute" = some (some (.ref f5)))
    (i5 : PySem.W.isFn K (.ref f5) = true)
    (l5 : K.lookup f5 = some ⟨oc5, od5, .func (PySem.W.fnOf "_check_minute" "Load._check_minute" (defArgs sLoadCheckminute) (defBody sLoadCheckminute) (defScope sLoadCheckminute) .none kV5 dc5 pm5 an5 cd5 ct5), sl5⟩)
    (c5 : PySem.W.codeIn K cd5 "Load._check_minute" = true)
    (k5 : PySem.W.keepIn K (.ref f5) = true)
    (a6 : PySem.W.findIn K (.ref CLoad) "_pairs" = some (some (.ref f6)))
    (i6 : PySem.W.isFn K (.ref f6) = true)
    (l6 : K.lookup f6 = some ⟨oc6, od6, .func (PySem.W.fnOf "_pairs" "Load._pairs" (defArgs sLoadPairs) (defBody sLoadPairs) (defScope sLoadPairs) .none kV6 dc6 pm6 an6 cd6 ct6), sl6⟩)
    (c6 : PySem.W.codeIn K cd6 "Load._pairs" = true)
    (k6 : PySem.W.keepIn K (.ref f6) = true)
    (a7 : PySem.W.findIn K (.ref CLoad) "__len__" = some (some (.ref f7)))
    (i7 : PySem.W.isFn K (.ref f7) = true)
    (l7 : K.lookup f7 = some ⟨oc7, od7, .func (PySem.W.fnOf "__len__" "Load.__len__" (defArgs sLoadLen) (defBody sLoadLen) (defScope sLoadLen) .none kV7 dc7 pm7 an7 cd7 ct7), sl7⟩)
    (c7 : PySem.W.codeIn K cd7 "Load.__len__" = true)
    (k7 : PySem.W.keepIn K (.ref f7) = true)
    (a8 : PySem.W.findIn K (.ref CLoad) "__iter__" = some (some (.ref f8)))
    (i8 : PySem.W.isFn K (.ref f8) = true)
    (l8 : K.lookup f8 = some ⟨oc8, od8, .func (PySem.W.fnOf "__iter__" "Load.__iter__" (defArgs sLoadIter) (defBody sLoadIter) (defScope sLoadIter) .none kV8 dc8 pm8 an8 cd8 ct8), sl8⟩)
    (c8 : PySem.W.codeIn K cd8 "Load.__iter__" = true)
    (k8 : PySem.W.keepIn K (.ref f8) = true)
    (a9 : PySem.W.findIn K (.ref CLoad) "__getitem__" = some (some (.ref f9)))
    (i9 : PySem.W.isFn K (.ref f9) = true)
    (n9 : PySem.W.fnIn K f9 = true)
    (l9 : K.lookup f9 = some ⟨oc9, od9, .func (PySem.W.fnOf "__getitem__" "Load.__getitem__" (defArgs sLoadGetitem) (defBody sLoadGetitem) (defScope sLoadGetitem) .none kV9 dc9 pm9 an9 cd9 ct9), sl9⟩)
    (c9 : PySem.W.codeIn K cd9 "Load.__getitem__" = true)
    (k9 : PySem.W.keepIn K (.ref f9) = true)
    (a10 : PySem.W.findIn K (.ref CLoad) "__setitem__" = some (some (.ref f10)))
    (i10 : PySem.W.isFn K (.ref f10) = true)
    (l10 : K.lookup f10 = some ⟨oc10, od10, .func (PySem.W.fnOf "__setitem__" "Load.__setitem__" (defArgs sLoadSetitem) (defBody sLoadSetitem) (defScope sLoadSetitem) .none kV10 dc10 pm10 an10 cd10 ct10), sl10⟩)
    (c10 : PySem.W.codeIn K cd10 "Load.__setitem__" = true)
    (k10 : PySem.W.keepIn K (.ref f10) = true)
    (a11 : PySem.W.findIn K (.ref CLoad) "put" = some (some (.ref f11)))
    (i11 : PySem.W.isFn K (.ref f11) = true)
    (l11 : K.lookup f11 = some ⟨oc11, od11, .func (PySem.W.fnOf "put" "Load.put" (defArgs sLoadPut) (defBody sLoadPut) (defScope sLoadPut) .none kV11 dc11 pm11 an11 cd11 ct11), sl11⟩)
    (c11 : PySem.W.codeIn K cd11 "Load.put" = true)
    (k11 : PySem.W.keepIn K (.ref f11) = true)
    (a12 : PySem.W.findIn K (.ref CLoad) "__contains__" = some (some (.ref f12)))
    (i12 : PySem.W.isFn K (.ref f12) = true)
    (l12 : K.lookup f12 = some ⟨oc12, od12, .func (PySem.W.fnOf "__contains__" "Load.__contains__" (defArgs sLoadContains) (defBody sLoadContains) (defScope sLoadContains) .none kV12 dc12 pm12 an12 cd12 ct12), sl12⟩)
    (c12 : PySem.W.codeIn K cd12 "Load.__contains__" = true)
    (k12 : PySem.W.keepIn K (.ref f12) = true)
    (a13 : PySem.W.findIn K (.ref CLoad) "__bool__" = some (some (.ref f13)))
    (i13 : PySem.W.isFn K (.ref f13) = true)
    (l13 : K.lookup f13 = some ⟨oc13, od13, .func (PySem.W.fnOf "__bool__" "Load.__bool__" (defArgs sLoadBool) (defBody sLoadBool) (defScope sLoadBool) .none kV13 dc13 pm13 an13 cd13 ct13), sl13⟩)
    (c13 : PySem.W.codeIn K cd13 "Load.__bool__" = true)
    (k13 : PySem.W.keepIn K (.ref f13) = true)
    (a14 : PySem.W.findIn K (.ref CLoad) "__abs__" = some (some (.ref f14)))
    (i14 : PySem.W.isFn K (.ref f14) = true)
    (l14 : K.lookup f14 = some ⟨oc14, od14, .func (PySem.W.fnOf "__abs__" "Load.__abs__" (defArgs sLoadAbs) (defBody sLoadAbs) (defScope sLoadAbs) .none kV14 dc14 pm14 an14 cd14 ct14), sl14⟩)
    (c14 : PySem.W.codeIn K cd14 "Load.__abs__" = true)
    (k14 : PySem.W.keepIn K (.ref f14) = true)
    (a15 : PySem.W.findIn K (.ref CLoad) "__eq__" = some (some (.ref f15)))
    (i15 : PySem.W.isFn K (.ref f15) = true)
    (l15 : K.lookup f15 = some ⟨oc15, od15, .func (PySem.W.fnOf "__eq__" "Load.__eq__" (defArgs sLoadEq) (defBody sLoadEq) (defScope sLoadEq) .none kV15 dc15 pm15 an15 cd15 ct15), sl15⟩)
    (c15 : PySem.W.codeIn K cd15 "Load.__eq__" = true)
    (k15 : PySem.W.keepIn K (.ref f15) = true)
    (a16 : PySem.W.findIn K (.ref CLoad) "__add__" = some (some (.ref f16)))
    (i16 : PySem.W.isFn K (.ref f16) = true)
    (l16 : K.lookup f16 = some ⟨oc16, od16, .func (PySem.W.fnOf "__add__" "Load.__add__" (defArgs sLoadAdd) (defBody sLoadAdd) (defScope sLoadAdd) .none kV16 dc16 pm16 an16 cd16 ct16), sl16⟩)
    (c16 : PySem.W.codeIn K cd16 "Load.__add__" = true)
    (k16 : PySem.W.keepIn K (.ref f16) = true)
    (a17 : PySem.W.findIn K (.ref CLoad) "__iadd__" = some (some (.ref f17)))
    (i17 : PySem.W.isFn K (.ref f17) = true)
    (l17 : K.lookup f17 = some ⟨oc17, od17, .func (PySem.W.fnOf "__iadd__" "Load.__iadd__" (defArgs sLoadIadd) (defBody sLoadIadd) (defScope sLoadIadd) .none kV17 dc17 pm17 an17 cd17 ct17), sl17⟩)
    (c17 : PySem.W.codeIn K cd17 "Load.__iadd__" = true)
    (k17 : PySem.W.keepIn K (.ref f17) = true)
    (a18 : PySem.W.findIn K (.ref CLoad) "__sub__" = some (some (.ref f18)))
    (i18 : PySem.W.isFn K (.ref f18) = true)
    (l18 : K.lookup f18 = some ⟨oc18, od18, .func (PySem.W.fnOf "__sub__" "Load.__sub__" (defArgs sLoadSub) (defBody sLoadSub) (defScope sLoadSub) .none kV18 dc18 pm18 an18 cd18 ct18), sl18⟩)
    (c18 : PySem.W.codeIn K cd18 "Load.__sub__" = true)
    (k18 : PySem.W.keepIn K (.ref f18) = true)
    (a19 : PySem.W.findIn K (.ref CLoad) "__or__" = some (some (.ref f19)))
    (i19 : PySem.W.isFn K (.ref f19) = true)
    (l19 : K.lookup f19 = some ⟨oc19, od19, .func (PySem.W.fnOf "__or__" "Load.__or__" (defArgs sLoadOr) (defBody sLoadOr) (defScope sLoadOr) .none kV19 dc19 pm19 an19 cd19 ct19), sl19⟩)
    (c19 : PySem.W.codeIn K cd19 "Load.__or__" = true)
    (k19 : PySem.W.keepIn K (.ref f19) = true)
    (a20 : PySem.W.findIn K (.ref CLoad) "__and__" = some (some (.ref f20)))
    (i20 : PySem.W.isFn K (.ref f20) = true)
    (l20 : K.lookup f20 = some ⟨oc20, od20, .func (PySem.W.fnOf "__and__" "Load.__and__" (defArgs sLoadAnd) (defBody sLoadAnd) (defScope sLoadAnd) .none kV20 dc20 pm20 an20 cd20 ct20), sl20⟩)
    (c20 : PySem.W.codeIn K cd20 "Load.__and__" = true)
    (k20 : PySem.W.keepIn K (.ref f20) = true)
    (a21 : PySem.W.findIn K (.ref CLoad) "__xor__" = some (some (.ref f21)))
    (i21 : PySem.W.isFn K (.ref f21) = true)
    (l21 : K.lookup f21 = some ⟨oc21, od21, .func (PySem.W.fnOf "__xor__" "Load.__xor__" (defArgs sLoadXor) (defBody sLoadXor) (defScope sLoadXor) .none kV21 dc21 pm21 an21 cd21 ct21), sl21⟩)
    (c21 : PySem.W.codeIn K cd21 "Load.__xor__" = true)
    (k21 : PySem.W.keepIn K (.ref f21) = true)
    (a22 : PySem.W.findIn K (.ref CLoad) "__mul__" = some (some (.ref f22)))
    (i22 : PySem.W.isFn K (.ref f22) = true)
    (l22 : K.lookup f22 = some ⟨oc22, od22, .func (PySem.W.fnOf "__mul__" "Load.__mul__" (defArgs sLoadMul) (defBody sLoadMul) (defScope sLoadMul) .none kV22 dc22 pm22 an22 cd22 ct22), sl22⟩)
    (c22 : PySem.W.codeIn K cd22 "Load.__mul__" = true)
    (k22 : PySem.W.keepIn K (.ref f22) = true)
    (a23 : PySem.W.findIn K (.ref CLoad) "__rmul__" = some (some (.ref f23)))
    (i23 : PySem.W.isFn K (.ref f23) = true)
    (l23 : K.lookup f23 = some ⟨oc23, od23, .func (PySem.W.fnOf "__rmul__" "Load.__rmul__" (defArgs sLoadRmul) (defBody sLoadRmul) (defScope sLoadRmul) .none kV23 dc23 pm23 an23 cd23 ct23), sl23⟩)
    (c23 : PySem.W.codeIn K cd23 "Load.__rmul__" = true)
    (k23 : PySem.W.keepIn K (.ref f23) = true)
    (a24 : PySem.W.findIn K (.ref CLoad) "__floordiv__" = some (some (.ref f24)))
    (i24 : PySem.W.isFn K (.ref f24) = true)
    (l24 : K.lookup f24 = some ⟨oc24, od24, .func (PySem.W.fnOf "__floordiv__" "Load.__floordiv__" (defArgs sLoadFloordiv) (defBody sLoadFloordiv) (defScope sLoadFloordiv) .none kV24 dc24 pm24 an24 cd24 ct24), sl24⟩)
    (c24 : PySem.W.codeIn K cd24 "Load.__floordiv__" = true)
    (k24 : PySem.W.keepIn K (.ref f24) = true)
    (a25 : PySem.W.findIn K (.ref CLoad) "__mod__" = some (some (.ref f25)))
    (i25 : PySem.W.isFn K (.ref f25) = true)
    (l25 : K.lookup f25 = some ⟨oc25, od25, .func (PySem.W.fnOf "__mod__" "Load.__mod__" (defArgs sLoadMod) (defBody sLoadMod) (defScope sLoadMod) .none kV25 dc25 pm25 an25 cd25 ct25), sl25⟩)
    (c25 : PySem.W.codeIn K cd25 "Load.__mod__" = true)
    (k25 : PySem.W.keepIn K (.ref f25) = true)
    (a26 : PySem.W.findIn K (.ref CLoad) "__lshift__" = some (some (.ref f26)))
    (i26 : PySem.W.isFn K (.ref f26) = true)
    (l26 : K.lookup f26 = some ⟨oc26, od26, .func (PySem.W.fnOf "__lshift__" "Load.__lshift__" (defArgs sLoadLshift) (defBody sLoadLshift) (defScope sLoadLshift) .none kV26 dc26 pm26 an26 cd26 ct26), sl26⟩)
    (c26 : PySem.W.codeIn K cd26 "Load.__lshift__" = true)
    (k26 : PySem.W.keepIn K (.ref f26) = true)
    (a27 : PySem.W.findIn K (.ref CLoad) "__rshift__" = some (some (.ref f27)))
    (i27 : PySem.W.isFn K (.ref f27) = true)
    (l27 : K.lookup f27 = some ⟨oc27, od27, .func (PySem.W.fnOf "__rshift__" "Load.__rshift__" (defArgs sLoadRshift) (defBody sLoadRshift) (defScope sLoadRshift) .none kV27 dc27 pm27 an27 cd27 ct27), sl27⟩)
    (c27 : PySem.W.codeIn K cd27 "Load.__rshift__" = true)
    (k27 : PySem.W.keepIn K (.ref f27) = true)
    (a28 : PySem.W.nsIn K mainGlobals "_law_cell" = some (some (.ref f28)))
    (l28 : K.lookup f28 = some ⟨oc28, od28, .func (PySem.W.fnOf "_law_cell" "_law_cell" (defArgs sLcell) (defBody sLcell) (defScope sLcell) .none kV28 dc28 pm28 an28 cd28 ct28), sl28⟩)
    (c28 : PySem.W.codeIn K cd28 "_law_cell" = true)
    (k28 : PySem.W.keepIn K (.ref f28) = true)
    (a29 : PySem.W.nsIn K mainGlobals "_law_pool" = some (some (.ref f29)))
    (l29 : K.lookup f29 = some ⟨oc29, od29, .func (PySem.W.fnOf "_law_pool" "_law_pool" (defArgs sLpool) (defBody sLpool) (defScope sLpool) .none kV29 dc29 pm29 an29 cd29 ct29), sl29⟩)
    (c29 : PySem.W.codeIn K cd29 "_law_pool" = true)
    (k29 : PySem.W.keepIn K (.ref f29) = true)
    (a30 : PySem.W.nsIn K mainGlobals "_law_take" = some (some (.ref f30)))
    (l30 : K.lookup f30 = some ⟨oc30, od30, .func (PySem.W.fnOf "_law_take" "_law_take" (defArgs sLtake) (defBody sLtake) (defScope sLtake) .none kV30 dc30 pm30 an30 cd30 ct30), sl30⟩)
    (c30 : PySem.W.codeIn K cd30 "_law_take" = true)
    (k30 : PySem.W.keepIn K (.ref f30) = true)
    (a31 : PySem.W.nsIn K mainGlobals "_law_same" = some (some (.ref f31)))
    (l31 : K.lookup f31 = some ⟨oc31, od31, .func (PySem.W.fnOf "_law_same" "_law_same" (defArgs sLsame) (defBody sLsame) (defScope sLsame) .none kV31 dc31 pm31 an31 cd31 ct31), sl31⟩)
    (c31 : PySem.W.codeIn K cd31 "_law_same" = true)
    (k31 : PySem.W.keepIn K (.ref f31) = true)
    (a32 : PySem.W.nsIn K mainGlobals "_law_is_load" = some (some (.ref f32)))
    (l32 : K.lookup f32 = some ⟨oc32, od32, .func (PySem.W.fnOf "_law_is_load" "_law_is_load" (defArgs sLisload) (defBody sLisload) (defScope sLisload) .none kV32 dc32 pm32 an32 cd32 ct32), sl32⟩)
    (c32 : PySem.W.codeIn K cd32 "_law_is_load" = true)
    (k32 : PySem.W.keepIn K (.ref f32) = true)
    (a33 : PySem.W.nsIn K mainGlobals "_law_length" = some (some (.ref f33)))
    (l33 : K.lookup f33 = some ⟨oc33, od33, .func (PySem.W.fnOf "_law_length" "_law_length" (defArgs sLlength) (defBody sLlength) (defScope sLlength) .none kV33 dc33 pm33 an33 cd33 ct33), sl33⟩)
    (c33 : PySem.W.codeIn K cd33 "_law_length" = true)
    (k33 : PySem.W.keepIn K (.ref f33) = true)
    (a34 : PySem.W.nsIn K mainGlobals "_law_begin" = some (some (.ref f34)))
    (l34 : K.lookup f34 = some ⟨oc34, od34, .func (PySem.W.fnOf "_law_begin" "_law_begin" (defArgs sLbegin) (defBody sLbegin) (defScope sLbegin) .none kV34 dc34 pm34 an34 cd34 ct34), sl34⟩)
    (c34 : PySem.W.codeIn K cd34 "_law_begin" = true)
    (k34 : PySem.W.keepIn K (.ref f34) = true)
    (a35 : PySem.W.nsIn K mainGlobals "_law_stretch" = some (some (.ref f35)))
    (l35 : K.lookup f35 = some ⟨oc35, od35, .func (PySem.W.fnOf "_law_stretch" "_law_stretch" (defArgs sLstretch) (defBody sLstretch) (defScope sLstretch) .none kV35 dc35 pm35 an35 cd35 ct35), sl35⟩)
    (c35 : PySem.W.codeIn K cd35 "_law_stretch" = true)
    (k35 : PySem.W.keepIn K (.ref f35) = true)
    (a36 : PySem.W.nsIn K mainGlobals "_law_walk" = some (some (.ref f36)))
    (l36 : K.lookup f36 = some ⟨oc36, od36, .func (PySem.W.fnOf "_law_walk" "_law_walk" (defArgs sLwalk) (defBody sLwalk) (defScope sLwalk) .none kV36 dc36 pm36 an36 cd36 ct36), sl36⟩)
    (c36 : PySem.W.codeIn K cd36 "_law_walk" = true)
    (k36 : PySem.W.keepIn K (.ref f36) = true)
    (a37 : PySem.W.nsIn K mainGlobals "_law_even" = some (some (.ref f37)))
    (l37 : K.lookup f37 = some ⟨oc37, od37, .func (PySem.W.fnOf "_law_even" "_law_even" (defArgs sLeven) (defBody sLeven) (defScope sLeven) .none kV37 dc37 pm37 an37 cd37 ct37), sl37⟩)
    (c37 : PySem.W.codeIn K cd37 "_law_even" = true)
    (k37 : PySem.W.keepIn K (.ref f37) = true)
    (a38 : PySem.W.nsIn K mainGlobals "_law_refuses" = some (some (.ref f38)))
    (l38 : K.lookup f38 = some ⟨oc38, od38, .func (PySem.W.fnOf "_law_refuses" "_law_refuses" (defArgs sLrefuses) (defBody sLrefuses) (defScope sLrefuses) .none kV38 dc38 pm38 an38 cd38 ct38), sl38⟩)
    (c38 : PySem.W.codeIn K cd38 "_law_refuses" = true)
    (k38 : PySem.W.keepIn K (.ref f38) = true)
    (a39 : PySem.W.nsIn K mainGlobals "_law_one" = some (some (.ref f39)))
    (l39 : K.lookup f39 = some ⟨oc39, od39, .func (PySem.W.fnOf "_law_one" "_law_one" (defArgs sLone) (defBody sLone) (defScope sLone) .none kV39 dc39 pm39 an39 cd39 ct39), sl39⟩)
    (c39 : PySem.W.codeIn K cd39 "_law_one" = true)
    (k39 : PySem.W.keepIn K (.ref f39) = true)
    (a40 : PySem.W.nsIn K mainGlobals "_law_row" = some (some (.ref f40)))
    (l40 : K.lookup f40 = some ⟨oc40, od40, .func (PySem.W.fnOf "_law_row" "_law_row" (defArgs sLrow) (defBody sLrow) (defScope sLrow) .none kV40 dc40 pm40 an40 cd40 ct40), sl40⟩)
    (c40 : PySem.W.codeIn K cd40 "_law_row" = true)
    (k40 : PySem.W.keepIn K (.ref f40) = true)
    (a41 : PySem.W.nsIn K mainGlobals "law" = some (some (.ref f41)))
    (l41 : K.lookup f41 = some ⟨oc41, od41, .func (PySem.W.fnOf "law" "law" (defArgs sLaw) (defBody sLaw) (defScope sLaw) .none kV41 dc41 pm41 an41 cd41 ct41), sl41⟩)
    (c41 : PySem.W.codeIn K cd41 "law" = true)
    (k41 : PySem.W.keepIn K (.ref f41) = true)
    (h_ty_DepotError : PySem.W.typeIn K (.ref CDepotError) = some (.type "type"))
    (h_bs_DepotError : PySem.W.subIn K (.ref CDepotError) (.type "BaseException") = some true)
    (h_hd_DepotError : PySem.W.hasDictIn K CDepotError = true)
    (h_ty_BadLoad : PySem.W.typeIn K (.ref CBadLoad) = some (.type "type"))
    (h_bs_BadLoad : PySem.W.subIn K (.ref CBadLoad) (.type "BaseException") = some true)
    (h_hd_BadLoad : PySem.W.hasDictIn K CBadLoad = true)
    (h_kp_BadLoad : PySem.W.keepIn K (.ref CBadLoad) = true)
    (h_ga_BadLoad : PySem.W.findIn K (.ref CBadLoad) "__getattribute__" = some (some (.builtin "BaseException.__getattribute__")))
    (h_gg_BadLoad : PySem.W.findIn K (.ref CBadLoad) "__getattr__" = some none)
    (h_cl_BadLoad : PySem.W.findIn K (.ref CBadLoad) "__class__" = some (some (.builtin "object.__class__")))
    (h_mr_BadLoad : PySem.W.mroIn K CBadLoad (.type "object") = some true)
    (h_sb_BadLoad_ValueError : PySem.W.subIn K (.ref CBadLoad) (.type "ValueError") = some true)
    (h_sb_BadLoad_BadLoad : PySem.W.subIn K (.ref CBadLoad) (.ref CBadLoad) = some true)
    (h_sb_BadLoad_DepotError : PySem.W.subIn K (.ref CBadLoad) (.ref CDepotError) = some true)
    (h_xo_BadLoad : PySem.W.excIn K CBadLoad [.type "ValueError", .type "Exception", .type "BaseException", .type "object"] "ValueError.__new__" = true)
    (h_sp_class : PySem.W.specialIn K (.builtin "object.__class__") "__get__" = some (some (.builtin "getset_descriptor.__get__")))
    (h_tk_class : PySem.W.takesIn K (.builtin "object.__class__") = some true)
    (h_ic_Load : PySem.W.findIn K (.ref CLoad) "__class__" = some (some (.builtin "object.__class__")))
    (h_mr_Load : PySem.W.mroIn K CLoad (.type "object") = some true)
    (h_ity_Load : PySem.W.typeIn K (.ref CLoad) = some (.type "type"))
    (h_isb_Load : PySem.W.subIn K (.ref CLoad) (.ref CLoad) = some true)
    (h_ihd_Load : PySem.W.hasDictIn K CLoad = true)
    (h_sf_Load : PySem.W.selfFirst K CLoad = true)
    (h_si_Load : PySem.W.subIn K (.type "int") (.ref CLoad) = some false)
    (h_ti__add : PySem.W.findIn K (.type "int") "__add__" = some (some (.builtin "int.__add__")))
    (h_ti__radd : PySem.W.findIn K (.type "int") "__radd__" = some (some (.builtin "int.__radd__")))
    (h_nr_Load_add : PySem.W.findIn K (.ref CLoad) "__radd__" = some none)
    (h_ti__sub : PySem.W.findIn K (.type "int") "__sub__" = some (some (.builtin "int.__sub__")))
    (h_ti__rsub : PySem.W.findIn K (.type "int") "__rsub__" = some (some (.builtin "int.__rsub__")))
    (h_nr_Load_sub : PySem.W.findIn K (.ref CLoad) "__rsub__" = some none)
    (h_ti__or : PySem.W.findIn K (.type "int") "__or__" = some (some (.builtin "int.__or__")))
    (h_ti__ror : PySem.W.findIn K (.type "int") "__ror__" = some (some (.builtin "int.__ror__")))
    (h_nr_Load_or : PySem.W.findIn K (.ref CLoad) "__ror__" = some none)
    (h_ti__and : PySem.W.findIn K (.type "int") "__and__" = some (some (.builtin "int.__and__")))
    (h_ti__rand : PySem.W.findIn K (.type "int") "__rand__" = some (some (.builtin "int.__rand__")))
    (h_nr_Load_and : PySem.W.findIn K (.ref CLoad) "__rand__" = some none)
    (h_ti__xor : PySem.W.findIn K (.type "int") "__xor__" = some (some (.builtin "int.__xor__")))
    (h_ti__rxor : PySem.W.findIn K (.type "int") "__rxor__" = some (some (.builtin "int.__rxor__")))
    (h_nr_Load_xor : PySem.W.findIn K (.ref CLoad) "__rxor__" = some none)
    (h_ti__mul : PySem.W.findIn K (.type "int") "__mul__" = some (some (.builtin "int.__mul__")))
    (h_ti__rmul : PySem.W.findIn K (.type "int") "__rmul__" = some (some (.builtin "int.__rmul__")))
    (h_ti__floordiv : PySem.W.findIn K (.type "int") "__floordiv__" = some (some (.builtin "int.__floordiv__")))
    (h_ti__rfloordiv : PySem.W.findIn K (.type "int") "__rfloordiv__" = some (some (.builtin "int.__rfloordiv__")))
    (h_nr_Load_floordiv : PySem.W.findIn K (.ref CLoad) "__rfloordiv__" = some none)
    (h_ti__mod : PySem.W.findIn K (.type "int") "__mod__" = some (some (.builtin "int.__mod__")))
    (h_ti__rmod : PySem.W.findIn K (.type "int") "__rmod__" = some (some (.builtin "int.__rmod__")))
    (h_nr_Load_mod : PySem.W.findIn K (.ref CLoad) "__rmod__" = some none)
    (h_ti__lshift : PySem.W.findIn K (.type "int") "__lshift__" = some (some (.builtin "int.__lshift__")))
    (h_ti__rlshift : PySem.W.findIn K (.type "int") "__rlshift__" = some (some (.builtin "int.__rlshift__")))
    (h_nr_Load_lshift : PySem.W.findIn K (.ref CLoad) "__rlshift__" = some none)
    (h_ti__rshift : PySem.W.findIn K (.type "int") "__rshift__" = some (some (.builtin "int.__rshift__")))
    (h_ti__rrshift : PySem.W.findIn K (.type "int") "__rrshift__" = some (some (.builtin "int.__rrshift__")))
    (h_nr_Load_rshift : PySem.W.findIn K (.ref CLoad) "__rrshift__" = some none)
    (h_rd_Load : PySem.W.readsIn K CLoad (.type "type") = true)
    (h_ga_Load : PySem.W.specialIn K (.ref CLoad) "__getattribute__" = some (some (.builtin "type.__getattribute__"))) :
    ∃ fd : FuncData, (∀ (s : Shared) (v : Value), BindsTo s fd ⟨[v], []⟩ [("_law_script", v)]) ∧ ∀ base : Heap, K.In base → base.Ns mainGlobals mg → FnOk l.prog w K mg base CX0 12 fa fd ["_law_script"] (spLaw K) := by
  have e := hfa.symm.trans (PySem.W.mg_of X G a41)
  cases e
  have F0 := fun_mk (st := schecklength) l0 c0 k0
  have b0 := F0.binds (ps := ["length"]) fun _ _ _ _ _ _ us hl => match us, hl with | [_], _ => rfl
  have F1 := fun_mk (st := scheckleast) l1 c1 k1
  have b1 := F1.binds (ps := ["number", "least"]) fun _ _ _ _ _ _ us hl => match us, hl with | [_, _], _ => rfl
  have F2 := fun_mk (st := sLoadInit) l2 c2 k2
  have b2 := F2.binds (ps := ["self", "counts"]) fun _ _ _ _ _ _ us hl => match us, hl with | [_, _], _ => rfl
  have F3 := fun_mk (st := sLoadZero) l3 c3 k3
  have b3 := F3.binds (ps := ["length"]) fun _ _ _ _ _ _ us hl => match us, hl with | [_], _ => rfl
  have F4 := fun_mk (st := sLoadOf) l4 c4 k4
  have b4 := F4.binds (ps := ["cls", "length", "begin", "minutes"]) fun _ _ _ _ _ _ us hl => match us, hl with | [_, _, _, _], _ => rfl
  have F5 := fun_mk (st := sLoadCheckminute) l5 c5 k5
  have b5 := F5.binds (ps := ["self", "minute"]) fun _ _ _ _ _ _ us hl => match us, hl with | [_, _], _ => rfl
  have F6 := fun_mk (st := sLoadPairs) l6 c6 k6
  have b6 := F6.binds (ps := ["self", "other"]) fun _ _ _ _ _ _ us hl => match us, hl with | [_, _], _ => rfl
  have F7 := fun_mk (st := sLoadLen) l7 c7 k7
  have b7 := F7.binds (ps := ["self"]) fun _ _ _ _ _ _ us hl => match us, hl with | [_], _ => rfl
  have F8 := fun_mk (st := sLoadIter) l8 c8 k8
  have b8 := F8.binds (ps := ["self"]) fun _ _ _ _ _ _ us hl => match us, hl with | [_], _ => rfl
  have F9 := fun_mk (st := sLoadGetitem) l9 c9 k9
  have b9 := F9.binds (ps := ["self", "at"]) fun _ _ _ _ _ _ us hl => match us, hl with | [_, _], _ => rfl
  have F10 := fun_mk (st := sLoadSetitem) l10 c10 k10
  have b10 := F10.binds (ps := ["self", "at", "worth"]) fun _ _ _ _ _ _ us hl => match us, hl with | [_, _, _], _ => rfl
  have F11 := fun_mk (st := sLoadPut) l11 c11 k11
  have b11 := F11.binds (ps := ["self", "minute", "count"]) fun _ _ _ _ _ _ us hl => match us, hl with | [_, _, _], _ => rfl
  have F12 := fun_mk (st := sLoadContains) l12 c12 k12
  have b12 := F12.binds (ps := ["self", "x"]) fun _ _ _ _ _ _ us hl => match us, hl with | [_, _], _ => rfl
  have F13 := fun_mk (st := sLoadBool) l13 c13 k13
  have b13 := F13.binds (ps := ["self"]) fun _ _ _ _ _ _ us hl => match us, hl with | [_], _ => rfl
  have F14 := fun_mk (st := sLoadAbs) l14 c14 k14
  have b14 := F14.binds (ps := ["self"]) fun _ _ _ _ _ _ us hl => match us, hl with | [_], _ => rfl
  have F15 := fun_mk (st := sLoadEq) l15 c15 k15
  have b15 := F15.binds (ps := ["self", "other"]) fun _ _ _ _ _ _ us hl => match us, hl with | [_, _], _ => rfl
  have F16 := fun_mk (st := sLoadAdd) l16 c16 k16
  have b16 := F16.binds (ps := ["self", "other"]) fun _ _ _ _ _ _ us hl => match us, hl with | [_, _], _ => rfl
  have F17 := fun_mk (st := sLoadIadd) l17 c17 k17
  have b17 := F17.binds (ps := ["self", "other"]) fun _ _ _ _ _ _ us hl => match us, hl with | [_, _], _ => rfl
  have F18 := fun_mk (st := sLoadSub) l18 c18 k18
  have b18 := F18.binds (ps := ["self", "other"]) fun _ _ _ _ _ _ us hl => match us, hl with | [_, _], _ => rfl
  have F19 := fun_mk (st := sLoadOr) l19 c19 k19
  have b19 := F19.binds (ps := ["self", "other"]) fun _ _ _ _ _ _ us hl => match us, hl with | [_, _], _ => rfl
  have F20 := fun_mk (st := sLoadAnd) l20 c20 k20
  have b20 := F20.binds (ps := ["self", "other"]) fun _ _ _ _ _ _ us hl => match us, hl with | [_, _], _ => rfl
  have F21 := fun_mk (st := sLoadXor) l21 c21 k21
  have b21 := F21.binds (ps := ["self", "other"]) fun _ _ _ _ _ _ us hl => match us, hl with | [_, _], _ => rfl
  have F22 := fun_mk (st := sLoadMul) l22 c22 k22
  have b22 := F22.binds (ps := ["self", "other"]) fun _ _ _ _ _ _ us hl => match us, hl with | [_, _], _ => rfl
  have F23 := fun_mk (st := sLoadRmul) l23 c23 k23
  have b23 := F23.binds (ps := ["self", "other"]) fun _ _ _ _ _ _ us hl => match us, hl with | [_, _], _ => rfl
  have F24 := fun_mk (st := sLoadFloordiv) l24 c24 k24
  have b24 := F24.binds (ps := ["self", "other"]) fun _ _ _ _ _ _ us hl => match us, hl with | [_, _], _ => rfl
  have F25 := fun_mk (st := sLoadMod) l25 c25 k25
  have b25 := F25.binds (ps := ["self", "other"]) fun _ _ _ _ _ _ us hl => match us, hl with | [_, _], _ => rfl
  have F26 := fun_mk (st := sLoadLshift) l26 c26 k26
  have b26 := F26.binds (ps := ["self", "other"]) fun _ _ _ _ _ _ us hl => match us, hl with | [_, _], _ => rfl
  have F27 := fun_mk (st := sLoadRshift) l27 c27 k27
  have b27 := F27.binds (ps := ["self", "other"]) fun _ _ _ _ _ _ us hl => match us, hl with | [_, _], _ => rfl
  have F28 := fun_mk (st := sLcell) l28 c28 k28
  have b28 := F28.binds (ps := ["_law_script", "_law_k"]) fun _ _ _ _ _ _ us hl => match us, hl with | [_, _], _ => rfl
  have F29 := fun_mk (st := sLpool) l29 c29 k29
  have b29 := F29.binds (ps := ["_law_script", "_law_k"]) fun _ _ _ _ _ _ us hl => match us, hl with | [_, _], _ => rfl
  have F30 := fun_mk (st := sLtake) l30 c30 k30
  have b30 := F30.binds (ps := ["_law_pool_here", "_law_many"]) fun _ _ _ _ _ _ us hl => match us, hl with | [_, _], _ => rfl
  have F31 := fun_mk (st := sLsame) l31 c31 k31
  have b31 := F31.binds (ps := ["_law_got", "_law_due"]) fun _ _ _ _ _ _ us hl => match us, hl with | [_, _], _ => rfl
  have F32 := fun_mk (st := sLisload) l32 c32 k32
  have b32 := F32.binds (ps := ["_law_got", "_law_counts"]) fun _ _ _ _ _ _ us hl => match us, hl with | [_, _], _ => rfl
  have F33 := fun_mk (st := sLlength) l33 c33 k33
  have b33 := F33.binds (ps := ["_law_pool_here"]) fun _ _ _ _ _ _ us hl => match us, hl with | [_], _ => rfl
  have F34 := fun_mk (st := sLbegin) l34 c34 k34
  have b34 := F34.binds (ps := ["_law_pool_here"]) fun _ _ _ _ _ _ us hl => match us, hl with | [_], _ => rfl
  have F35 := fun_mk (st := sLstretch) l35 c35 k35
  have b35 := F35.binds (ps := ["_law_pool_here", "_law_length_here"]) fun _ _ _ _ _ _ us hl => match us, hl with | [_, _], _ => rfl
  have F36 := fun_mk (st := sLwalk) l36 c36 k36
  have b36 := F36.binds (ps := ["_law_length_here", "_law_begin_here", "_law_minutes"]) fun _ _ _ _ _ _ us hl => match us, hl with | [_, _, _], _ => rfl
  have F37 := fun_mk (st := sLeven) l37 c37 k37
  have b37 := F37.binds (ps := ["_law_length_here", "_law_begin_here", "_law_minutes"]) fun _ _ _ _ _ _ us hl => match us, hl with | [_, _, _], _ => rfl
  have F38 := fun_mk (st := sLrefuses) l38 c38 k38
  have b38 := F38.binds (ps := ["_law_length_here", "_law_begin_here", "_law_minutes"]) fun _ _ _ _ _ _ us hl => match us, hl with | [_, _, _], _ => rfl
  have F39 := fun_mk (st := sLone) l39 c39 k39
  have b39 := F39.binds (ps := ["_law_length_here", "_law_begin_here", "_law_minutes"]) fun _ _ _ _ _ _ us hl => match us, hl with | [_, _, _], _ => rfl
  have F40 := fun_mk (st := sLrow) l40 c40 k40
  have b40 := F40.binds (ps := ["_law_length_here", "_law_begin_here", "_law_stretches"]) fun _ _ _ _ _ _ us hl => match us, hl with | [_, _, _], _ => rfl
  have F41 := fun_mk (st := sLaw) l41 c41 k41
  have b41 := F41.binds (ps := ["_law_script"]) fun _ _ _ _ _ _ us hl => match us, hl with | [_], _ => rfl
  let T : Tx K mg := { t_MOST_LENGTH := _, c_MOST_LENGTH := PySem.W.mg_of X G k_MOST_LENGTH, t_MOST_MINUTES := _, c_MOST_MINUTES := PySem.W.mg_of X G k_MOST_MINUTES, z_ValueError := PySem.W.mg_none_of X G z_ValueError, z_abs := PySem.W.mg_none_of X G z_abs, z_any := PySem.W.mg_none_of X G z_any, z_bool := PySem.W.mg_none_of X G z_bool, z_classmethod := PySem.W.mg_none_of X G z_classmethod, z_divmod := PySem.W.mg_none_of X G z_divmod, z_int := PySem.W.mg_none_of X G z_int, z_isinstance := PySem.W.mg_none_of X G z_isinstance, z_iter := PySem.W.mg_none_of X G z_iter, z_len := PySem.W.mg_none_of X G z_len, z_list := PySem.W.mg_none_of X G z_list, z_max := PySem.W.mg_none_of X G z_max, z_min := PySem.W.mg_none_of X G z_min, z_range := PySem.W.mg_none_of X G z_range, z_staticmethod := PySem.W.mg_none_of X G z_staticmethod, z_str := PySem.W.mg_none_of X G z_str, z_sum := PySem.W.mg_none_of X G z_sum, z_tuple := PySem.W.mg_none_of X G z_tuple, z_zip := PySem.W.mg_none_of X G z_zip, C_Load := CLoad, g_Load := PySem.W.mg_of X G a_Load, cl_Load := ⟨pg_Load, hd_Load, po_Load, sa_Load⟩, na_Load__counts := na_Load__counts, fcheck_length := f0, dcheck_length := _, Fcheck_length := F0, bcheck_length := b0, gcheck_length := PySem.W.mg_of X G a0, fcheck_least := f1, dcheck_least := _, Fcheck_least := F1, bcheck_least := b1, gcheck_least := PySem.W.mg_of X G a1, fLoad_init := f2, dLoad_init := _, FLoad_init := F2, bLoad_init := b2, M_Load := ⟨mk_Load, a2, i2, kc_Load⟩, fLoad_zero := f3, dLoad_zero := _, FLoad_zero := F3, bLoad_zero := b3, m_Load_zero := ⟨⟨h_rd_Load, h_ga_Load⟩, ⟨_, _, RF.findCls_get f03 a3 t3 rfl g3, r3⟩, k3⟩, fLoad_of := f4, dLoad_of := _, FLoad_of := F4, bLoad_of := b4, m_Load_of := ⟨⟨h_rd_Load, h_ga_Load⟩, ⟨_, ⟨RF.findCls_get f04 a4 t4 rfl g4, ⟨_, r4⟩, n4⟩⟩⟩, fLoad_check_minute := f5, dLoad_check_minute := _, FLoad_check_minute := F5, bLoad_check_minute := b5, m_Load_check_minute := ⟨a5, i5, k5⟩, fLoad_pairs := f6, dLoad_pairs := _, FLoad_pairs := F6, bLoad_pairs := b6, m_Load_pairs := ⟨a6, i6, k6⟩, fLoad_len := f7, dLoad_len := _, FLoad_len := F7, bLoad_len := b7, m_Load_len := ⟨a7, i7, k7⟩, fLoad_iter := f8, dLoad_iter := _, FLoad_iter := F8, bLoad_iter := b8, m_Load_iter := ⟨a8, i8, k8⟩, fLoad_getitem := f9, dLoad_getitem := _, FLoad_getitem := F9, bLoad_getitem := b9, m_Load_getitem := ⟨a9, i9, k9⟩, n_Load_getitem := n9, fLoad_setitem := f10, dLoad_setitem := _, FLoad_setitem := F10, bLoad_setitem := b10, m_Load_setitem := ⟨a10, i10, k10⟩, fLoad_put := f11, dLoad_put := _, FLoad_put := F11, bLoad_put := b11, m_Load_put := ⟨a11, i11, k11⟩, fLoad_contains := f12, dLoad_contains := _, FLoad_contains := F12, bLoad_contains := b12, m_Load_contains := ⟨a12, i12, k12⟩, fLoad_bool := f13, dLoad_bool := _, FLoad_bool := F13, bLoad_bool := b13, m_Load_bool := ⟨a13, i13, k13⟩, fLoad_abs := f14, dLoad_abs := _, FLoad_abs := F14, bLoad_abs := b14, m_Load_abs := ⟨a14, i14, k14⟩, fLoad_eq := f15, dLoad_eq := _, FLoad_eq := F15, bLoad_eq := b15, m_Load_eq := ⟨a15, i15, k15⟩, fLoad_add := f16, dLoad_add := _, FLoad_add := F16, bLoad_add := b16, m_Load_add := ⟨a16, i16, k16⟩, fLoad_iadd := f17, dLoad_iadd := _, FLoad_iadd := F17, bLoad_iadd := b17, m_Load_iadd := ⟨a17, i17, k17⟩, fLoad_sub := f18, dLoad_sub := _, FLoad_sub := F18, bLoad_sub := b18, m_Load_sub := ⟨a18, i18, k18⟩, fLoad_or := f19, dLoad_or := _, FLoad_or := F19, bLoad_or := b19, m_Load_or := ⟨a19, i19, k19⟩, fLoad_and := f20, dLoad_and := _, FLoad_and := F20, bLoad_and := b20, m_Load_and := ⟨a20, i20, k20⟩, fLoad_xor := f21, dLoad_xor := _, FLoad_xor := F21, bLoad_xor := b21, m_Load_xor := ⟨a21, i21, k21⟩, fLoad_mul := f22, dLoad_mul := _, FLoad_mul := F22, bLoad_mul := b22, m_Load_mul := ⟨a22, i22, k22⟩, fLoad_rmul := f23, dLoad_rmul := _, FLoad_rmul := F23, bLoad_rmul := b23, m_Load_rmul := ⟨a23, i23, k23⟩, fLoad_floordiv := f24, dLoad_floordiv := _, FLoad_floordiv := F24, bLoad_floordiv := b24, m_Load_floordiv := ⟨a24, i24, k24⟩, fLoad_mod := f25, dLoad_mod := _, FLoad_mod := F25, bLoad_mod := b25, m_Load_mod := ⟨a25, i25, k25⟩, fLoad_lshift := f26, dLoad_lshift := _, FLoad_lshift := F26, bLoad_lshift := b26, m_Load_lshift := ⟨a26, i26, k26⟩, fLoad_rshift := f27, dLoad_rshift := _, FLoad_rshift := F27, bLoad_rshift := b27, m_Load_rshift := ⟨a27, i27, k27⟩, f_law_cell := f28, d_law_cell := _, F_law_cell := F28, b_law_cell := b28, g_law_cell := PySem.W.mg_of X G a28, f_law_pool := f29, d_law_pool := _, F_law_pool := F29, b_law_pool := b29, g_law_pool := PySem.W.mg_of X G a29, f_law_take := f30, d_law_take := _, F_law_take := F30, b_law_take := b30, g_law_take := PySem.W.mg_of X G a30, f_law_same := f31, d_law_same := _, F_law_same := F31, b_law_same := b31, g_law_same := PySem.W.mg_of X G a31, f_law_is_load := f32, d_law_is_load := _, F_law_is_load := F32, b_law_is_load := b32, g_law_is_load := PySem.W.mg_of X G a32, f_law_length := f33, d_law_length := _, F_law_length := F33, b_law_length := b33, g_law_length := PySem.W.mg_of X G a33, f_law_begin := f34, d_law_begin := _, F_law_begin := F34, b_law_begin := b34, g_law_begin := PySem.W.mg_of X G a34, f_law_stretch := f35, d_law_stretch := _, F_law_stretch := F35, b_law_stretch := b35, g_law_stretch := PySem.W.mg_of X G a35, f_law_walk := f36, d_law_walk := _, F_law_walk := F36, b_law_walk := b36, g_law_walk := PySem.W.mg_of X G a36, f_law_even := f37, d_law_even := _, F_law_even := F37, b_law_even := b37, g_law_even := PySem.W.mg_of X G a37, f_law_refuses := f38, d_law_refuses := _, F_law_refuses := F38, b_law_refuses := b38, g_law_refuses := PySem.W.mg_of X G a38, f_law_one := f39, d_law_one := _, F_law_one := F39, b_law_one := b39, g_law_one := PySem.W.mg_of X G a39, f_law_row := f40, d_law_row := _, F_law_row := F40, b_law_row := b40, g_law_row := PySem.W.mg_of X G a40, flaw := fa, dlaw := _, Flaw := F41, blaw := b41, glaw := PySem.W.mg_of X G a41, C_DepotError := CDepotError, g_DepotError := PySem.W.mg_of X G a_DepotError, C_BadLoad := CBadLoad, g_BadLoad := PySem.W.mg_of X G a_BadLoad, ty_DepotError := h_ty_DepotError, bs_DepotError := h_bs_DepotError, hd_DepotError := h_hd_DepotError, ty_BadLoad := h_ty_BadLoad, bs_BadLoad := h_bs_BadLoad, hd_BadLoad := h_hd_BadLoad, kp_BadLoad := h_kp_BadLoad, ga_BadLoad := h_ga_BadLoad, gg_BadLoad := h_gg_BadLoad, cl_BadLoad := h_cl_BadLoad, mr_BadLoad := h_mr_BadLoad, sb_BadLoad_ValueError := h_sb_BadLoad_ValueError, sb_BadLoad_BadLoad := h_sb_BadLoad_BadLoad, sb_BadLoad_DepotError := h_sb_BadLoad_DepotError, xo_BadLoad := h_xo_BadLoad, sp_class := h_sp_class, tk_class := h_tk_class, ic_Load := h_ic_Load, mr_Load := h_mr_Load, ity_Load := h_ity_Load, isb_Load := h_isb_Load, ihd_Load := h_ihd_Load, sf_Load := h_sf_Load, si_Load := h_si_Load, ti__add := h_ti__add, ti__radd := h_ti__radd, nr_Load_add := h_nr_Load_add, ti__sub := h_ti__sub, ti__rsub := h_ti__rsub, nr_Load_sub := h_nr_Load_sub, ti__or := h_ti__or, ti__ror := h_ti__ror, nr_Load_or := h_nr_Load_or, ti__and := h_ti__and, ti__rand := h_ti__rand, nr_Load_and := h_nr_Load_and, ti__xor := h_ti__xor, ti__rxor := h_ti__rxor, nr_Load_xor := h_nr_Load_xor, ti__mul := h_ti__mul, ti__rmul := h_ti__rmul, ti__floordiv := h_ti__floordiv, ti__rfloordiv := h_ti__rfloordiv, nr_Load_floordiv := h_nr_Load_floordiv, ti__mod := h_ti__mod, ti__rmod := h_ti__rmod, nr_Load_mod := h_nr_Load_mod, ti__lshift := h_ti__lshift, ti__rlshift := h_ti__rlshift, nr_Load_lshift := h_nr_Load_lshift, ti__rshift := h_ti__rshift, ti__rrshift := h_ti__rrshift, nr_Load_rshift := h_nr_Load_rshift, rd_Load := h_rd_Load, ga_Load := h_ga_Load }
  exact ⟨_, fun s v => .of_eq rfl, fun base _ _ => ok_law T⟩
end DD
open PySem PySem.W PyProof.Rows
set_option maxRecDepth 100000 in
set_option maxHeartbeats 0 in
theorem PySem.Challenge.cw_depotday_k04_load_of_stretches_holds : PySem.Challenge.rw_depotday_k04_load_of_stretches.Holds := by
  w_on; o_law; k_head; (case hw => w_witness2)
  k_fill
  refine L2.walk_of (l := PySem.Challenge.rw_depotday_k04_load_of_stretches) (n := 63) (k := 12) (x := "_law_script") (CX := fun _ => L2.CX0) (sp := fun w => DD.spLaw _) rfl (by decide) rfl ⟨rfl, by decide, by decide⟩ (fun w h Y => PySem.W.kIn_of Y) ?F (fun _ _ a ns hl _ hS => ⟨a, ns, rfl, hS, hl, fun _ => rfl⟩) (fun _ _ _ _ _ h => h)
  case F =>
    intro w mg fa h KX G hmg
    refine' DD.all_mk KX G hmg ?k_MOST_LENGTH ?k_MOST_MINUTES ?z_ValueError ?z_abs ?z_any ?z_bool ?z_classmethod ?z_divmod ?z_int ?z_isinstance ?z_iter ?z_len ?z_list ?z_max ?z_min ?z_range ?z_staticmethod ?z_str ?z_sum ?z_tuple ?z_zip ?a_Load ?pg_Load ?hd_Load ?po_Load ?sa_Load ?mk_Load ?kc_Load ?na_Load__counts ?a_DepotError ?a_BadLoad ?a0 ?l0 ?c0 ?k0 ?a1 ?l1 ?c1 ?k1 ?a2 ?i2 ?l2 ?c2 ?k2 ?a3 ?r3 ?f03 ?t3 ?g3 ?l3 ?c3 ?k3 ?a4 ?r4 ?f04 ?t4 ?g4 ?n4 ?l4 ?c4 ?k4 ?a5 ?i5 ?l5 ?c5 ?k5 ?a6 ?i6 ?l6 ?c6 ?k6 ?a7 ?i7 ?l7 ?c7 ?k7 ?a8 ?i8 ?l8 ?c8 ?k8 ?a9 ?i9 ?n9 ?l9 ?c9 ?k9 ?a10 ?i10 ?l10 ?c10 ?k10 ?a11 ?i11 ?l11 ?c11 ?k11 ?a12 ?i12 ?l12 ?c12 ?k12 ?a13 ?i13 ?l13 ?c13 ?k13 ?a14 ?i14 ?l14 ?c14 ?k14 ?a15 ?i15 ?l15 ?c15 ?k15 ?a16 ?i16 ?l16 ?c16 ?k16 ?a17 ?i17 ?l17 ?c17 ?k17 ?a18 ?i18 ?l18 ?c18 ?k18 ?a19 ?i19 ?l19 ?c19 ?k19 ?a20 ?i20 ?l20 ?c20 ?k20 ?a21 ?i21 ?l21 ?c21 ?k21 ?a22 ?i22 ?l22 ?c22 ?k22 ?a23 ?i23 ?l23 ?c23 ?k23 ?a24 ?i24 ?l24 ?c24 ?k24 ?a25 ?i25 ?l25 ?c25 ?k25 ?a26 ?i26 ?l26 ?c26 ?k26 ?a27 ?i27 ?l27 ?c27 ?k27 ?a28 ?l28 ?c28 ?k28 ?a29 ?l29 ?c29 ?k29 ?a30 ?l30 ?c30 ?k30 ?a31 ?l31 ?c31 ?k31 ?a32 ?l32 ?c32 ?k32 ?a33 ?l33 ?c33 ?k33 ?a34 ?l34 ?c34 ?k34 ?a35 ?l35 ?c35 ?k35 ?a36 ?l36 ?c36 ?k36 ?a37 ?l37 ?c37 ?k37 ?a38 ?l38 ?c38 ?k38 ?a39 ?l39 ?c39 ?k39 ?a40 ?l40 ?c40 ?k40 ?a41 ?l41 ?c41 ?k41 ?h_ty_DepotError ?h_bs_DepotError ?h_hd_DepotError ?h_ty_BadLoad ?h_bs_BadLoad ?h_hd_BadLoad ?h_kp_BadLoad ?h_ga_BadLoad ?h_gg_BadLoad ?h_cl_BadLoad ?h_mr_BadLoad ?h_sb_BadLoad_ValueError ?h_sb_BadLoad_BadLoad ?h_sb_BadLoad_DepotError ?h_xo_BadLoad ?h_sp_class ?h_tk_class ?h_ic_Load ?h_mr_Load ?h_ity_Load ?h_isb_Load ?h_ihd_Load ?h_sf_Load ?h_si_Load ?h_ti__add ?h_ti__radd ?h_nr_Load_add ?h_ti__sub ?h_ti__rsub ?h_nr_Load_sub ?h_ti__or ?h_ti__ror ?h_nr_Load_or ?h_ti__and ?h_ti__rand ?h_nr_Load_and ?h_ti__xor ?h_ti__rxor ?h_nr_Load_xor ?h_ti__mul ?h_ti__rmul ?h_ti__floordiv ?h_ti__rfloordiv ?h_nr_Load_floordiv ?h_ti__mod ?h_ti__rmod ?h_nr_Load_mod ?h_ti__lshift ?h_ti__rlshift ?h_nr_Load_lshift ?h_ti__rshift ?h_ti__rrshift ?h_nr_Load_rshift ?h_rd_Load ?h_ga_Load
    (case k_MOST_LENGTH => k_is)
    (case k_MOST_MINUTES => k_is)
    (case z_ValueError => k_is)
    (case z_abs => k_is)
    (case z_any => k_is)
    (case z_bool => k_is)
    (case z_classmethod => k_is)
    (case z_divmod => k_is)
    (case z_int => k_is)
    (case z_isinstance => k_is)
    (case z_iter => k_is)
    (case z_len => k_is)
    (case z_list => k_is)
    (case z_max => k_is)
    (case z_min => k_is)
    (case z_range => k_is)
    (case z_staticmethod => k_is)
    (case z_str => k_is)
    (case z_sum => k_is)
    (case z_tuple => k_is)
    (case z_zip => k_is)
    (case a_Load => k_is)
    (case pg_Load => k_is)
    (case hd_Load => k_is)
    (case po_Load => k_is)
    (case sa_Load => k_is)
    (case mk_Load => k_is)
    (case kc_Load => k_is)
    (case na_Load__counts => k_is)
    (case a_DepotError => k_is)
    (case a_BadLoad => k_is)
    (case a0 => k_is)
    (case l0 => k_is)
    (case c0 => k_is)
    (case k0 => k_is)
    (case a1 => k_is)
    (case l1 => k_is)
    (case c1 => k_is)
    (case k1 => k_is)
    (case a2 => k_is)
    (case i2 => k_is)
    (case l2 => k_is)
    (case c2 => k_is)
    (case k2 => k_is)
    (case a3 => k_is)
    (case r3 => k_is)
    (case f03 => k_is)
    (case t3 => k_is)
    (case g3 => k_is)
    (case l3 => k_is)
    (case c3 => k_is)
    (case k3 => k_is)
    (case a4 => k_is)
    (case r4 => k_is)
    (case f04 => k_is)
    (case t4 => k_is)
    (case g4 => k_is)
    (case n4 => k_is)
    (case l4 => k_is)
    (case c4 => k_is)
    (case k4 => k_is)
    (case a5 => k_is)
    (case i5 => k_is)
    (case l5 => k_is)
    (case c5 => k_is)
    (case k5 => k_is)
    (case a6 => k_is)
    (case i6 => k_is)
    (case l6 => k_is)
    (case c6 => k_is)
    (case k6 => k_is)
    (case a7 => k_is)
    (case i7 => k_is)
    (case l7 => k_is)
    (case c7 => k_is)
    (case k7 => k_is)
    (case a8 => k_is)
    (case i8 => k_is)
    (case l8 => k_is)
    (case c8 => k_is)
    (case k8 => k_is)
    (case a9 => k_is)
    (case i9 => k_is)
    (case n9 => k_is)
    (case l9 => k_is)
    (case c9 => k_is)
    (case k9 => k_is)
    (case a10 => k_is)
    (case i10 => k_is)
    (case l10 => k_is)
    (case c10 => k_is)
    (case k10 => k_is)
    (case a11 => k_is)
    (case i11 => k_is)
    (case l11 => k_is)
    (case c11 => k_is)
    (case k11 => k_is)
    (case a12 => k_is)
    (case i12 => k_is)
    (case l12 => k_is)
    (case c12 => k_is)
    (case k12 => k_is)
    (case a13 => k_is)
    (case i13 => k_is)
    (case l13 => k_is)
    (case c13 => k_is)
    (case k13 => k_is)
    (case a14 => k_is)
    (case i14 => k_is)
    (case l14 => k_is)
    (case c14 => k_is)
    (case k14 => k_is)
    (case a15 => k_is)
    (case i15 => k_is)
    (case l15 => k_is)
    (case c15 => k_is)
    (case k15 => k_is)
    (case a16 => k_is)
    (case i16 => k_is)
    (case l16 => k_is)
    (case c16 => k_is)
    (case k16 => k_is)
    (case a17 => k_is)
    (case i17 => k_is)
    (case l17 => k_is)
    (case c17 => k_is)
    (case k17 => k_is)
    (case a18 => k_is)
    (case i18 => k_is)
    (case l18 => k_is)
    (case c18 => k_is)
    (case k18 => k_is)
    (case a19 => k_is)
    (case i19 => k_is)
    (case l19 => k_is)
    (case c19 => k_is)
    (case k19 => k_is)
    (case a20 => k_is)
    (case i20 => k_is)
    (case l20 => k_is)
    (case c20 => k_is)
    (case k20 => k_is)
    (case a21 => k_is)
    (case i21 => k_is)
    (case l21 => k_is)
    (case c21 => k_is)
    (case k21 => k_is)
    (case a22 => k_is)
    (case i22 => k_is)
    (case l22 => k_is)
    (case c22 => k_is)
    (case k22 => k_is)
    (case a23 => k_is)
    (case i23 => k_is)
    (case l23 => k_is)
    (case c23 => k_is)
    (case k23 => k_is)
    (case a24 => k_is)
    (case i24 => k_is)
    (case l24 => k_is)
    (case c24 => k_is)
    (case k24 => k_is)
    (case a25 => k_is)
    (case i25 => k_is)
    (case l25 => k_is)
    (case c25 => k_is)
    (case k25 => k_is)
    (case a26 => k_is)
    (case i26 => k_is)
    (case l26 => k_is)
    (case c26 => k_is)
    (case k26 => k_is)
    (case a27 => k_is)
    (case i27 => k_is)
    (case l27 => k_is)
    (case c27 => k_is)
    (case k27 => k_is)
    (case a28 => k_is)
    (case l28 => k_is)
    (case c28 => k_is)
    (case k28 => k_is)
    (case a29 => k_is)
    (case l29 => k_is)
    (case c29 => k_is)
    (case k29 => k_is)
    (case a30 => k_is)
    (case l30 => k_is)
    (case c30 => k_is)
    (case k30 => k_is)
    (case a31 => k_is)
    (case l31 => k_is)
    (case c31 => k_is)
    (case k31 => k_is)
    (case a32 => k_is)
    (case l32 => k_is)
    (case c32 => k_is)
    (case k32 => k_is)
    (case a33 => k_is)
    (case l33 => k_is)
    (case c33 => k_is)
    (case k33 => k_is)
    (case a34 => k_is)
    (case l34 => k_is)
    (case c34 => k_is)
    (case k34 => k_is)
    (case a35 => k_is)
    (case l35 => k_is)
    (case c35 => k_is)
    (case k35 => k_is)
    (case a36 => k_is)
    (case l36 => k_is)
    (case c36 => k_is)
    (case k36 => k_is)
    (case a37 => k_is)
    (case l37 => k_is)
    (case c37 => k_is)
    (case k37 => k_is)
    (case a38 => k_is)
    (case l38 => k_is)
    (case c38 => k_is)
    (case k38 => k_is)
    (case a39 => k_is)
    (case l39 => k_is)
    (case c39 => k_is)
    (case k39 => k_is)
    (case a40 => k_is)
    (case l40 => k_is)
    (case c40 => k_is)
    (case k40 => k_is)
    (case a41 => k_is)
    (case l41 => k_is)
    (case c41 => k_is)
    (case k41 => k_is)
    (case h_ty_DepotError => k_is)
    (case h_bs_DepotError => k_is)
    (case h_hd_DepotError => k_is)
    (case h_ty_BadLoad => k_is)
    (case h_bs_BadLoad => k_is)
    (case h_hd_BadLoad => k_is)
    (case h_kp_BadLoad => k_is)
    (case h_ga_BadLoad => k_is)
    (case h_gg_BadLoad => k_is)
    (case h_cl_BadLoad => k_is)
    (case h_mr_BadLoad => k_is)
    (case h_sb_BadLoad_ValueError => k_is)
    (case h_sb_BadLoad_BadLoad => k_is)
    (case h_sb_BadLoad_DepotError => k_is)
    (case h_xo_BadLoad => k_exc)
    (case h_sp_class => k_is)
    (case h_tk_class => k_is)
    (case h_ic_Load => k_is)
    (case h_mr_Load => k_is)
    (case h_ity_Load => k_is)
    (case h_isb_Load => k_is)
    (case h_ihd_Load => k_is)
    (case h_sf_Load => k_is)
    (case h_si_Load => k_is)
    (case h_ti__add => k_is)
    (case h_ti__radd => k_is)
    (case h_nr_Load_add => k_is)
    (case h_ti__sub => k_is)
    (case h_ti__rsub => k_is)
    (case h_nr_Load_sub => k_is)
    (case h_ti__or => k_is)
    (case h_ti__ror => k_is)
    (case h_nr_Load_or => k_is)
    (case h_ti__and => k_is)
    (case h_ti__rand => k_is)
    (case h_nr_Load_and => k_is)
    (case h_ti__xor => k_is)
    (case h_ti__rxor => k_is)
    (case h_nr_Load_xor => k_is)
    (case h_ti__mul => k_is)
    (case h_ti__rmul => k_is)
    (case h_ti__floordiv => k_is)
    (case h_ti__rfloordiv => k_is)
    (case h_nr_Load_floordiv => k_is)
    (case h_ti__mod => k_is)
    (case h_ti__rmod => k_is)
    (case h_nr_Load_mod => k_is)
    (case h_ti__lshift => k_is)
    (case h_ti__rlshift => k_is)
    (case h_nr_Load_lshift => k_is)
    (case h_ti__rshift => k_is)
    (case h_ti__rrshift => k_is)
    (case h_nr_Load_rshift => k_is)
    (case h_rd_Load => k_is)
    (case h_ga_Load => k_is)
#print axioms PySem.Challenge.cw_depotday_k04_load_of_stretches_holds
