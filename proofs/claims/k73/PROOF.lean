import PyProof.Rows.All
import Wide.All
import OpenK.AllK
import Wide.FinOn
import HandS.ForMost
import HandS.ForExc
import HandS.IsInst
import HandS.Conv
import HandS.NoneIn
import HandS.OwnEq
import HandS.OwnIter
import HandS.ExcIs
import HandS.More
import KE.KOpsOwn
import HandS.IterNext
import HandS.ExcOwn
import PyProof.WalksMore
import KE.KDictZip
import HandS.Rev
import HandS.ExcInit
import HandS.ExcField
import HandS.FStr
import HandS.Codes
import HandS.Wide
import KE.KExcIs
import KE.GoesMore
import PyProof.EnumMake
import HandS.TryMany
import HandS.Exc
import HandS.Walk
import HandS.Style
import HandS.Text
import HandS.RaiseMore
import HandS.TupAny
import HandS.Deep
import KE.KCallOwn
import HandS.Defaults
import HandS.Strs
import HandS.Star
import HandS.SetIn
import HandS.SetFor
import HandS.TupSets
import KE.SortData
import KE.DataMinMax
import KE.DataFind
import KE.DataCmp
import KE.GoesEnum
import HandS.WordsDict
import HandS.Gcd
import HandS.ClsMeth
import PySem.Challenge.RW_depotday_k73_rule_texts
set_option Elab.async false
set_option linter.all false
set_option maxRecDepth 100000
set_option synthInstance.maxSize 400
set_option maxHeartbeats 8000000
namespace KO
open PySem PySem.Spec PyProof.Rows L2
section
variable {X : Cx} {CX : CXT} {k : Nat} {f C : Addr} {fd : FuncData} {ps : List Str} {sp : Sp} {E : L2.St → XK}
theorem own_run {A : Around} {pins : List (Addr × Obj)} {σ : L2.St} {H : Hp} {s : Shared} {Q : VK} {us : List Value} {vs : List V} (F : FnOk X.prog X.w X.K X.mg X.base CX k f fd ps sp) (hr : Room k A) (fr : A.frames = X.A.frames) (hb : Binds X.K fd ps [])
    (hx : PassesAt CX X σ (E σ)) (I : Inv X pins σ H s) (r : Vals vs us) (h : sp vs H Q (E σ)) : wpAny (model X.prog X.w) A (call (.ref f) us) (EP X pins σ Q) X.xe s := by
  have hl : us.length = ps.length := r.length.symm.trans (F.len _ _ _ _ h)
  have b := hb s us I.kIn (by rw [List.append_nil]; exact hl)
  rw [List.append_nil] at b
  have e := I.env0
  have e2 : Env0 X.prog X.w X.K X.mg X.base A X.stack s H := ⟨by rw [fr]; exact e.frames, e.mod, e.bs, e.bsz, e.funs, e.frf, e.hok, e.bare⟩
  refine wpAny_call (codeAny_mono (F.run A X.stack s H ⟨us, []⟩ us vs Q (E σ) hr e2 b r h) fun r s' hq => ?_)
  cases r with
  | error e => exact hx pins H s e s' I hq
  | ok fl =>
    cases fl with
    | ret u => exact I.after hq
    | next => exact hq.elim
    | brk => exact hq.elim
    | cont => exact hq.elim
theorem inst_at {pins : List (Addr × Obj)} {σ : L2.St} {H : Hp} {s : Shared} {a dx : Addr} {fs : List (Str × V)} (I : Inv X pins σ H s) (ha : H a = some (.ins C dx fs)) : ∃ ox od, PySem.W.InstAt s.heap a ox C od := by
  obtain ⟨mA, J, _⟩ := ins_get I.hok ha
  obtain ⟨od, J, _⟩ := J.look
  exact ⟨_, _, J⟩
theorem vref {a : Addr} : RelV (.ref a) (Value.ref a) := rfl
def rEqO (C : Addr) (sp : Sp) (E : XK) : R2 := fun x y H Q => ∃ a dx fs b dy gs, x = .ref a ∧ y = .ref b ∧ H a = some (.ins C dx fs) ∧ H b = some (.ins C dy gs) ∧ sp [.ref a, .ref b] H (fun v H' => ∃ c, v = .bl c ∧ Q (.bl c) H') E
theorem eq_own {E : XK} (m : Meth X.K C "__eq__" f) (F : FnOk X.prog X.w X.K X.mg X.base CX k f fd ps sp) (hr : Room k X.A) (hb : Binds X.K fd ps []) (hx : ∀ σ, PassesAt CX X σ E) : OpR X (compareOp .Eq) (rEqO C sp E) := by
  intro pins s σ H x y v u Q I rx ry h
  obtain ⟨a, dx, fs, b, dy, gs, rfl, rfl, ha, hb', q⟩ := h
  cases rx
  cases ry
  obtain ⟨ox, od, J⟩ := inst_at I ha
  obtain ⟨oy, od', J'⟩ := inst_at I hb'
  obtain ⟨m', hF⟩ := I.fr
  refine PySem.W.cmp_K (op := .Eq) (tb := .ref C) hr.units0 hF I.ok.mod.kin J J'.type (by simp [PySem.W.notFirst]) m.at_ m.fn (wpAny_mono (own_run (E := fun _ => E) F hr rfl hb (hx σ) I (.cons vref (.cons vref .nil)) q) (fun u s' hu => ?_) fun _ _ x => x)
  obtain ⟨v, H', I', rv, c, rfl, q'⟩ := hu
  cases rv
  exact ⟨.bl c, H', I', rfl, q'⟩
end
end KO
namespace KO
open PySem PySem.Spec PyProof.Rows L2
section
variable {prog : Program} {w : World} {A : Around} {E : Value → Shared → Prop} {s : Shared} {it l : Addr} {i : Nat} {items : Array Value}
end
section
variable {X : Cx} {k kl ki : Nat} {f fi fl C : Addr} {fd fdI fdL : FuncData} {ps psI psL : List Str} {sp spI spL : Sp}
end
end KO
namespace KO
open PySem PySem.Spec PyProof.Rows L2
section
variable {X : Cx} {CX : CXT} {k : Nat} {f C : Addr} {fd : FuncData} {ps : List Str} {sp : Sp} {E : L2.St → XK}
section
variable {prog : Program} {w : World} {A : Around} {E : Value → Shared → Prop} {s : Shared} {l : Addr} {xs : Array (Int × Tok)}
end
def rIsX (K : PySem.W.Frag) (D a : Addr) (cls : Value) (d : Option Addr) : List V → Hp → VK → Prop := fun xs H Q => cls = .ref D ∧ d = none ∧ rIsE K D a xs H Q
theorem call_isX {a D : Addr} {oe : Obj} {cls : Value} {d : Option Addr} {pn : List (Addr × Obj)} (Ce : ExcC X.K D) (hz : Zc cls d oe) (hf : ∃ vs, oe.data = .fields vs) : CallR (X.suite a ((a, oe) :: pn)) (.builtin "isinstance") (rIsX X.K D a cls d) := by
  intro pins s σ H xs us Q I r h
  obtain ⟨rfl, rfl, h⟩ := h
  exact call_isE Ce hz hf pins s σ H xs us Q I r h
def tMakeX (C : Addr) (sp : Sp) (E : L2.St → XK) (t : TA) : TE := fun σ H Q => t σ H fun vs H1 => ∀ x dx, H1 x = none → H1 dx = none → dx ≠ x →
  sp (.ref x :: vs) (upd (upd H1 dx (.own x)) x (.ins C dx [])) (fun v H2 => v = .non ∧ Q (.ref x) H2) (E σ)
theorem run_makeX {pins : List (Addr × Obj)} {σ : L2.St} {H : Hp} {s : Shared} {Q : VK} {us : List Value} {vs : List V} (M : Mk X.K C f) (F : FnOk X.prog X.w X.K X.mg X.base CX k f fd ps sp) (hr : Room (k + 1) X.A) (hb : Binds X.K fd ps [])
    (hx : PassesAt CX X σ (E σ)) (I : Inv X pins σ H s) (r : Vals vs us)
    (h : ∀ x dx, H x = none → H dx = none → dx ≠ x → sp (.ref x :: vs) (upd (upd H dx (.own x)) x (.ins C dx [])) (fun v H2 => v = .non ∧ Q (.ref x) H2) (E σ)) :
    wpAny (model X.prog X.w) X.A (call (.ref C) us) (EP X pins σ Q) X.xe s := by
  have hq := h (s.heap.objs.size + 1) s.heap.objs.size (I.hok.fresh (Nat.le_succ _)) (I.hok.fresh (Nat.le_refl _)) (Nat.ne_of_lt (Nat.lt_succ_self _))
  have I2 := Inv.made (C := C) I
  have r2 : Vals (V.ref (s.heap.objs.size + 1) :: vs) (Value.ref (s.heap.objs.size + 1) :: us) := .cons rfl r
  have hl : (Value.ref (s.heap.objs.size + 1) :: us ++ []).length = ps.length := by
    have e := r2.length
    rw [F.len _ _ _ _ hq] at e
    rw [List.append_nil]
    exact e.symm
  rw [List.append_nil] at hl
  refine wpAny_call (make_map (f := f) I.kIn M.makes M.init (beq_iff_eq.mp M.fn) (codeAny_mono (F.run _ X.stack _ _ ⟨Value.ref (s.heap.objs.size + 1) :: us, []⟩ (Value.ref (s.heap.objs.size + 1) :: us) _ _ (E σ) (hr.make C us [])
    (I2.env0.make C us []) (by have b := hb _ (Value.ref (s.heap.objs.size + 1) :: us) I2.kIn (by rw [List.append_nil]; exact hl); rw [List.append_nil] at b; exact b) r2 hq) fun r s' hq' => ?_))
  cases r with
  | error e => exact hx pins _ _ e s' I2 hq'
  | ok fl =>
    cases fl with
    | ret u =>
      obtain ⟨v, H', I3, rv, ev, q3⟩ := I2.after hq'
      subst ev
      exact ⟨rv, ⟨V.ref (s.heap.objs.size + 1), H', I3, rfl, q3⟩⟩
    | next => exact False.elim hq'
    | brk => exact False.elim hq'
    | cont => exact False.elim hq'
theorem pe_makeX {x : Str} {p pos : Pos} {e : Expr} {es : List Expr} {t : TA} (M : Mk X.K C f) (F : FnOk X.prog X.w X.K X.mg X.base CX k f fd ps sp) (hr : Room (k + 1) X.A) (hg : Gl X x) (hm : X.mg x = some (.ref C)) (hb : Binds X.K fd ps []) (hx : ∀ σ, PassesAt CX X σ (E σ))
    (ha : PA X (e :: es) t) (hdb : (x == ("__debug__" : Str)) = false := by decide) (he : starEach (e :: es) X.env = (false, eval e X.env) :: starEach es X.env := by rfl) (hpl : (backTo pos (starEach es X.env)).any (·.1) = false := by rfl) :
    PE X (.Call (.Name x p) (e :: es) [] pos) (tMakeX C sp E t) := by
  refine ⟨fun pins s σ H Q I h => ?_⟩
  refine wpAny_Call_Name_kw (ld_glob I hg hm ?_ hdb)
  refine PySem.W.callWith_K (h₀ := X.base) I.ok.mod.kin M.kp (thn (ha.run pos pins s σ H _ I h) fun us s1 ⟨vs, H1, I1, r, q⟩ => ⟨I1.kIn, ?_⟩) he hpl
  exact run_makeX M F hr hb (hx σ) I1 r q
end
end KO
namespace KO
open PySem PySem.Spec PyProof.Rows L2
def ZSt (z TI TO i1 i2 a b S : Addr) (h : Heap) (i : Nat) : Prop := IsPair h TI (.ref i1) (.ref i2) ∧ h.IsListIter i1 a i ∧ h.IsListIter i2 b i ∧ (∃ o, h.get? TO = some o) ∧
  ((IsZip h z TI TO .none ∧ ∃ u v, IsPair h TO u v) ∨ ∃ T f oT, IsZipHeld h z TI TO T f ∧ h.get? T = some oT ∧ T ≠ z ∧ T ≠ i1 ∧ T ≠ i2 ∧ T ≠ S)
section
variable {X : Cx} {pins : List (Addr × Obj)} {σ : L2.St}
theorem ZSt.other {z TI TO i1 i2 a b S : Addr} {h h' : Heap} {i : Nat} (st : ZSt z TI TO i1 i2 a b S h i) (n : ∀ c ∈ [z, TI, TO, i1, i2], c ≠ S) (k : ∀ c o, c ≠ S → h.get? c = some o → h'.get? c = some o) : ZSt z TI TO i1 i2 a b S h' i := by
  obtain ⟨p1, p2, p3, ⟨o, p4⟩, p5⟩ := st
  refine ⟨k _ _ (n TI (by simp)) p1, p2.at fun o e => k _ o (n i1 (by simp)) e, p3.at fun o e => k _ o (n i2 (by simp)) e, ⟨o, k _ _ (n TO (by simp)) p4⟩, ?_⟩
  rcases p5 with ⟨q1, u, v, q2⟩ | ⟨T, f, oT, q1, q2, q3, q4, q5, q6⟩
  · exact .inl ⟨k _ _ (n z (by simp)) q1, u, v, k _ _ (n TO (by simp)) q2⟩
  · exact .inr ⟨T, f, oT, k _ _ (n z (by simp)) q1, k _ _ q6 q2, q3, q4, q5, q6⟩
end
end KO
namespace KO
open PySem PySem.Spec PyProof.Rows L2 PySem.W
section
variable {prog : Program} {w : World} {A : Around} {E : Value → Shared → Prop} {s : Shared} {K : PySem.W.Frag} {x C L f g : Addr} {h₀ : Heap} {m : Str → Option Value} {ox : Obj} {od : Option Obj}
end
section
variable {X : Cx} {CX : CXT} {k : Nat} {f g C : Addr} {fd : FuncData} {ps : List Str} {sp : Sp} {E : XK}
end
end KO
namespace SX
open PySem PySem.Spec PyProof.Rows L2 KO
theorem iteD {c A B : Prop} [Decidable c] (hc : ¬ c) (h : B) : if decide c = true then A else B := by
  rw [decide_eq_false hc]
  exact iteF h
theorem iteDT {c A B : Prop} [Decidable c] (hc : c) (h : A) : if decide c = true then A else B := by
  rw [decide_eq_true hc]
  exact iteT h
theorem iteND {c A B : Prop} [Decidable c] (hc : c) (h : B) : if (!decide c) = true then A else B := iteNS hc h
theorem iteDs {c A B : Prop} [Decidable c] (h1 : c → A) (h2 : ¬ c → B) : if decide c = true then A else B := by
  by_cases h : c
  · exact iteDT h (h1 h)
  · exact iteD h (h2 h)
def But (p : Addr) (H H' : Hp) : Prop := ∀ b o, b ≠ p → H b = some o → H' b = some o
theorem But.refl (p : Addr) (H : Hp) : But p H H := fun _ _ _ h => h
theorem But.trans {p : Addr} {H H1 H2 : Hp} (a : But p H H1) (b : But p H1 H2) : But p H H2 := fun c o n h => b c o n (a c o n h)
theorem But.of {p : Addr} {H H' : Hp} (s : Same H H') : But p H H' := fun b o _ h => s b o h
theorem But.put {p : Addr} {H : Hp} {o : HO} : But p H (upd H p o) := fun b u n h => by
  rw [upd_ne n]
  exact h
theorem same_upd {H : Hp} {p : Addr} {o : HO} (h : H p = none) : Same H (upd H p o) := fun b x e => by
  rw [upd_ne (ne_of_none e h)]
  exact e
theorem Same.put {H H' : Hp} {p : Addr} {o : HO} (s : Same H H') (h : H p = none) : Same H (upd H' p o) := fun b x e => by
  rw [upd_ne (ne_of_none e h)]
  exact s b x e
theorem But.free {p : Addr} {H H' : Hp} (e : But p H H') {l : Addr} (hl : l ≠ p) (h : H' l = none) : H l = none := by
  cases q : H l with
  | none => rfl
  | some o =>
    rw [e l o hl q] at h
    cases h
def Pool (H : Hp) (p : Addr) : Prop := ∃ x f c : Int, H p = some (.lst [.int x, .int f, .int c])
theorem Pool.ne {H : Hp} {p l : Addr} (h : Pool H p) (hl : H l = none) : l ≠ p := fun e => by
  obtain ⟨x, f, c, h⟩ := h
  rw [e, h] at hl
  cases hl
theorem Pool.upd {H : Hp} {p l : Addr} {o : HO} (h : Pool H p) (hl : l ≠ p) : Pool (upd H l o) p := by
  obtain ⟨x, f, c, h⟩ := h
  exact ⟨x, f, c, by rw [upd_ne hl.symm]; exact h⟩

def Eqp (p : Addr) (H H' : Hp) : Prop := ∀ b, b ≠ p → H' b = H b
theorem Eqp.refl (p : Addr) (H : Hp) : Eqp p H H := fun _ _ => rfl
theorem Eqp.trans {p : Addr} {H H1 H2 : Hp} (a : Eqp p H H1) (b : Eqp p H1 H2) : Eqp p H H2 := fun c h => (b c h).trans (a c h)
def Run (p : Addr) (H H' : Hp) : Prop := But p H H' ∧ Pool H' p
theorem Run.trans {p : Addr} {H H1 H2 : Hp} (a : Run p H H1) (b : Run p H1 H2) : Run p H H2 := ⟨a.1.trans b.1, b.2⟩
theorem Run.get {p a : Addr} {H H' : Hp} {o : HO} (r : Run p H H') (h : H a = some o) (n : a ≠ p) : H' a = some o := r.1 _ _ n h
theorem upd_get {H : Hp} {p a : Addr} {u o : HO} (h : H a = some o) (hp : H p = none) : upd H p u a = some o := by
  rw [upd_ne (ne_of_none h hp)]; exact h
theorem Pool.tne {H : Hp} {p a : Addr} {xs : List V} (h : Pool H p) (ha : H a = some (.tup xs)) : a ≠ p := by
  obtain ⟨x, f, c, h⟩ := h
  exact ne_of ha h (by intro z; cases z)
section
variable {X : Cx} {CX : CXT} {k : Nat}
def rIsD (K : PySem.W.Frag) (D a : Addr) (cls : Value) (d : Option Addr) : List V → Hp → VK → Prop := fun xs H Q => cls = .ref D ∧ ∃ (dd : Addr) (fs : List (Str × V)), d = some dd ∧ H dd = some (.xd fs) ∧ rIsE K D a xs H Q
theorem call_isD {a D : Addr} {oe : Obj} {cls : Value} {d : Option Addr} {pn : List (Addr × Obj)} (C : ExcC X.K D) (hz : Zc cls d oe) (hf : ∃ vs, oe.data = .fields vs) : CallR (X.suite a ((a, oe) :: pn)) (.builtin "isinstance") (rIsD X.K D a cls d) := by
  intro pins s σ H xs us Q I r h
  obtain ⟨rfl, dd, fs, rfl, hdd, c, cv, b, rfl, hcv, e, q⟩ := h
  cases r with
  | cons rx rr =>
    cases rr with
    | cons rt rr =>
      cases rr
      cases rx
      have ec := hcv _ rt
      subst ec
      obtain ⟨hget, _⟩ := I.pin (a, oe) (List.mem_append.mpr (.inl List.mem_cons_self))
      obtain ⟨vs, hv⟩ := hf
      have hx : ObjOk X.prog X.w H s.heap dd (.xd fs) := I.hok dd _ hdd
      obtain ⟨mA, hns, hr⟩ := hx
      obtain ⟨od, ho, hl⟩ := lookIn_ns hns
      have J : PySem.W.InstAt s.heap a oe D (some od) := ⟨hget, hz.1, by unfold PySem.W.notCls; rw [hv] <;> rfl, by rw [hz.2]; exact ho⟩
      obtain ⟨cd, hc, _⟩ := PySem.W.any_some C.hd
      exact PySem.W.kia_one (PySem.W.kitx_exc (by rw [hc]; rfl) C.hg C.hk C.hs C.ha C.hn C.ht C.hm) I.kIn J e (fun z => nomatch z) fun tk => ⟨.bl b, H, I.kept (t' := tk) fun _ _ z => z, rfl, q⟩
theorem del_upd1 {H : Hp} {a dx : Addr} {o1 o2 o3 u : HO} (ha : H a = none) (ne : dx ≠ a) : upd (del (upd (upd (upd H a o1) dx o2) a o3) a) dx u = upd H dx u := by
  funext b
  unfold upd del
  by_cases h1 : b = dx
  · rw [if_pos h1, if_pos h1]
  · rw [if_neg h1, if_neg h1]
    by_cases h2 : b = a
    · rw [if_pos h2, h2, ha]
    · simp [h1, h2]
def spX1 (C : Addr) (f : Str) : Sp := fun vs H Q _ => ∃ (a : Addr) (v : V), vs = [.ref a, v] ∧ H a = some (exo a C none) ∧ ∀ dx, H dx = none → dx ≠ a → Q .non (upd (upd H dx (exd dx [(f, v)])) a (exo a C (some dx)))
def tR1 (C : Addr) (f : Str) (te : TE) : L2.St → Hp → XK → Prop := fun σ H Q => te σ H fun v H1 => ∀ d, H1 d = none → Q (.ref C) (some d) (upd H1 d (.xd [(f, v)]))
variable {x : Str} {C fI : Addr} {fd : FuncData} {f g : Str} {e e2 : Expr} {te tf : TE} {p pos : Pos} {ps : List Str}
theorem PMk.imp {e : Expr} {t u : L2.St → Hp → XK → Prop} (h : PMk X e t) (i : ∀ σ H Q, u σ H Q → t σ H Q) : PMk X e u := fun pins s σ H Q I q => h pins s σ H Q I (i σ H Q q)
theorem pmk_1 (T : OexC X.K C) (iC : PySem.W.findIn X.K (.ref C) "__init__" = some (some (.ref fI))) (tI : PySem.W.typeIn X.K (.ref fI) = some (.type "function"))
    (F1 : FnOk X.prog X.w X.K X.mg X.base CX0 k fI fd ps (spX1 C f)) (hr : Room (k + 1) X.A) (hb : Binds X.K fd ps []) (hg : Gl X x) (hm : X.mg x = some (.ref C)) (mono : ∀ σ H (Q Q' : VK), (∀ v H, Q v H → Q' v H) → te σ H Q → te σ H Q') (ha : PA X [e] (tCons te tNil))
    (hdb : (x == ("__debug__" : Str)) = false := by decide) (he : starEach [e] X.env = (false, eval e X.env) :: starEach [] X.env := by rfl) (hpl : (backTo pos (starEach [] X.env)).any (·.1) = false := by rfl) :
    PMk X (.Call (.Name x p) [e] [] pos) (tR1 C f te) := by
  refine PMk.imp (pmk_oex (dvs := []) T iC tI F1 hr hb .nil (fun _ _ _ _ _ _ _ h => h.elim) hg hm ha hdb he hpl) fun σ H Q q => ?_
  refine mono _ _ _ _ (fun v H1 q1 => ⟨by simp, fun a ha => ?_⟩) q
  refine ⟨a, v, rfl, upd_same, fun dx hdx ne => ⟨rfl, dx, [(f, v)], upd_same, ?_, ?_, ?_⟩⟩
  · rw [upd_ne ne, upd_same]
  · rw [upd_ne ne] at hdx; exact hdx
  · rw [del_upd1 ha ne]
    rw [upd_ne ne] at hdx
    exact q1 dx hdx
end
end SX
namespace SX
open PySem PySem.Spec PyProof.Rows L2 KO
theorem Run.upd {p a : Addr} {H H1 : Hp} {o : HO} (r : Run p H H1) (n : H1 a = none) : Run p H (upd H1 a o) :=
  ⟨fun b x h e => upd_get (r.1 b x h e) n, r.2.upd (r.2.ne n)⟩
theorem Run.nil {p : Addr} {H : Hp} (h : Pool H p) : Run p H H := ⟨But.refl p H, h⟩
theorem Run.put {p a : Addr} {H H1 : Hp} {o : HO} (r : Run p H H1) (n : H a = none) (ne : a ≠ p) : Run p H (L2.upd H1 a o) :=
  ⟨fun b x h e => by rw [upd_ne (ne_of_none e n)]; exact r.1 b x h e, r.2.upd ne⟩
theorem Run.free {p a : Addr} {H H1 : Hp} (r : Run p H H1) (n : H1 a = none) : H a = none := r.1.free (r.2.ne n) n
end SX
namespace SX
open PySem PySem.Spec PyProof.Rows L2 KO
theorem Same.get {H H' : Hp} {a : Addr} {o : HO} (s : Same H H') (h : H a = some o) : H' a = some o := s _ _ h
end SX
namespace SX
open PySem PySem.Spec PyProof.Rows L2 KO
theorem Pool.run {p : Addr} {H H' : Hp} (r : Run p H H') : Pool H' p := r.2
end SX
namespace SX
open PySem PySem.Spec PyProof.Rows L2 KO
end SX
namespace SX
open PySem PySem.Spec PyProof.Rows L2 KO
def Dq (p : Addr) : Nat → Hp → V → PyData → Prop
  | 0, _, _, _ => False
  | n + 1, H, v, d => match d with
    | .none => v = .non
    | .bool b => v = .bl b
    | .int i => v = .int i
    | .str s => v = .str s
    | .list ds => ∃ (a : Addr) (xs : List V), v = .ref a ∧ a ≠ p ∧ H a = some (.lst xs) ∧ xs.length = ds.length ∧ ds.length ≤ 1000 ∧ ∀ (i : Nat) (x : V) (e : PyData), xs[i]? = some x → ds[i]? = some e → Dq p n H x e
    | .tuple ds => ∃ (a : Addr) (xs : List V), v = .ref a ∧ a ≠ p ∧ H a = some (.tup xs) ∧ xs.length = ds.length ∧ ds.length ≤ 1000 ∧ ∀ (i : Nat) (x : V) (e : PyData), xs[i]? = some x → ds[i]? = some e → Dq p n H x e
    | .dict _ => False
variable {p : Addr} {H H' : Hp}
theorem Dq.keep (k : ∀ b o, b ≠ p → H b = some o → H' b = some o) : ∀ {n : Nat} {v : V} {d : PyData}, Dq p n H v d → Dq p n H' v d
  | 0, _, _, h => h.elim
  | n + 1, v, d, h => by
    cases d with
    | none => exact h
    | bool b => exact h
    | int i => exact h
    | str s => exact h
    | dict kv => exact h
    | list ds =>
      obtain ⟨a, xs, e, ne, ha, hl, hz, r⟩ := h
      exact ⟨a, xs, e, ne, k _ _ ne ha, hl, hz, fun i x e h1 h2 => Dq.keep k (r i x e h1 h2)⟩
    | tuple ds =>
      obtain ⟨a, xs, e, ne, ha, hl, hz, r⟩ := h
      exact ⟨a, xs, e, ne, k _ _ ne ha, hl, hz, fun i x e h1 h2 => Dq.keep k (r i x e h1 h2)⟩
theorem Dq.run {n : Nat} {v : V} {d : PyData} (h : Dq p n H v d) (s : Run p H H') : Dq p n H' v d := h.keep s.1
theorem Dq.up : ∀ {n : Nat} {v : V} {d : PyData}, Dq p n H v d → Dq p (n + 1) H v d
  | 0, _, _, h => h.elim
  | n + 1, v, d, h => by
    cases d with
    | none => exact h
    | bool b => exact h
    | int i => exact h
    | str s => exact h
    | dict kv => exact h
    | list ds =>
      obtain ⟨a, xs, e, ne, ha, hl, hz, r⟩ := h
      exact ⟨a, xs, e, ne, ha, hl, hz, fun i x e h1 h2 => Dq.up (r i x e h1 h2)⟩
    | tuple ds =>
      obtain ⟨a, xs, e, ne, ha, hl, hz, r⟩ := h
      exact ⟨a, xs, e, ne, ha, hl, hz, fun i x e h1 h2 => Dq.up (r i x e h1 h2)⟩
theorem Dq.le {n m : Nat} (hm : n ≤ m) {v : V} {d : PyData} (h : Dq p n H v d) : Dq p m H v d := by
  obtain ⟨k, rfl⟩ := Nat.exists_eq_add_of_le hm
  clear hm
  induction k with
  | zero => exact h
  | succ k ih => exact ih.up
theorem DpAll.of {K : PySem.W.Frag} : ∀ {xs : List V} {ds : List PyData}, xs.length = ds.length → (∀ (i : Nat) (x : V) (e : PyData), xs[i]? = some x → ds[i]? = some e → Dp K H x e) → DpAll K H xs ds
  | [], [], _, _ => .nil
  | [], _ :: _, h, _ => by simp at h
  | _ :: _, [], h, _ => by simp at h
  | x :: xs, d :: ds, h, r => .cons (r 0 x d rfl rfl) (DpAll.of (by simpa using h) fun i y e h1 h2 => r (i + 1) y e (by simpa using h1) (by simpa using h2))
def DqA (p : Addr) (n : Nat) (H : Hp) (xs : List V) (ds : List PyData) : Prop := xs.length = ds.length ∧ ∀ (i : Nat) (x : V) (e : PyData), xs[i]? = some x → ds[i]? = some e → Dq p n H x e
theorem DqA.nil {n : Nat} : DqA p n H [] [] := ⟨rfl, fun i x e h => by simp at h⟩
theorem DqA.cons {n : Nat} {x : V} {xs : List V} {d : PyData} {ds : List PyData} (h : Dq p n H x d) (r : DqA p n H xs ds) : DqA p n H (x :: xs) (d :: ds) := ⟨by simp [r.1], fun i y e h1 h2 => by
  cases i with
  | zero =>
    simp at h1 h2
    subst h1 h2
    exact h
  | succ i => exact r.2 i y e (by simpa using h1) (by simpa using h2)⟩
theorem DqA.keep {n : Nat} (k : ∀ b o, b ≠ p → H b = some o → H' b = some o) {xs : List V} {ds : List PyData} (h : DqA p n H xs ds) : DqA p n H' xs ds := ⟨h.1, fun i x e h1 h2 => (h.2 i x e h1 h2).keep k⟩
theorem DqA.run {n : Nat} {xs : List V} {ds : List PyData} (h : DqA p n H xs ds) (s : Run p H H') : DqA p n H' xs ds := h.keep s.1
theorem DqA.append {n : Nat} {xs ys : List V} {ds es : List PyData} (h : DqA p n H xs ds) (r : DqA p n H ys es) : DqA p n H (xs ++ ys) (ds ++ es) := by
  refine ⟨by simp [h.1, r.1], fun i x e h1 h2 => ?_⟩
  by_cases hi : i < xs.length
  · rw [List.getElem?_append_left hi] at h1
    rw [List.getElem?_append_left (by rw [← h.1]; exact hi)] at h2
    exact h.2 i x e h1 h2
  · rw [List.getElem?_append_right (by omega)] at h1
    rw [List.getElem?_append_right (by rw [← h.1]; omega), ← h.1] at h2
    exact r.2 _ x e h1 h2
theorem DqA.lst {n : Nat} {a : Addr} {xs : List V} {ds : List PyData} (r : DqA p n H xs ds) (ne : a ≠ p) (ha : H a = some (.lst xs)) (hz : ds.length ≤ 1000) : Dq p (n + 1) H (.ref a) (.list ds) := ⟨a, xs, rfl, ne, ha, r.1, hz, r.2⟩
theorem DqA.tup {n : Nat} {a : Addr} {xs : List V} {ds : List PyData} (r : DqA p n H xs ds) (ne : a ≠ p) (ha : H a = some (.tup xs)) (hz : ds.length ≤ 1000) : Dq p (n + 1) H (.ref a) (.tuple ds) := ⟨a, xs, rfl, ne, ha, r.1, hz, r.2⟩
variable {K : PySem.W.Frag}
theorem at_of' {α : Type} {xs : List α} {i : Int} {j : Nat} {x : α} (e : i = (j : Int)) (h : xs[j]? = some x) : atI xs i = some x := by
  subst e
  exact atI_nat h
end SX
namespace SX
open PySem PySem.Spec PyProof.Rows L2 KO
end SX
namespace SX
open PySem PySem.Spec PyProof.Rows L2 KO
def Tq : Nat → Hp → V → PyData → Prop
  | 0, _, _, _ => False
  | n + 1, H, v, d => match d with
    | .none => v = .non
    | .bool b => v = .bl b
    | .int i => v = .int i
    | .str s => v = .str s
    | .list _ => False
    | .tuple ds => ∃ (a : Addr) (xs : List V), v = .ref a ∧ H a = some (.tup xs) ∧ xs.length = ds.length ∧ ds.length ≤ 1000 ∧ ∀ (i : Nat) (x : V) (e : PyData), xs[i]? = some x → ds[i]? = some e → Tq n H x e
    | .dict _ => False
def TK (H H' : Hp) : Prop := ∀ b xs, H b = some (.tup xs) → H' b = some (.tup xs)
theorem TK.refl (H : Hp) : TK H H := fun _ _ h => h
theorem TK.trans {H H1 H2 : Hp} (a : TK H H1) (b : TK H1 H2) : TK H H2 := fun c xs h => b c xs (a c xs h)
theorem TK.run {p : Addr} {H H' : Hp} (hp : Pool H p) (r : Run p H H') : TK H H' := fun b xs h => r.1 b _ (hp.tne h) h
theorem TK.new {H : Hp} {a : Addr} {o : HO} (n : H a = none) : TK H (upd H a o) := fun b xs h => upd_get h n
theorem TK.put {H : Hp} {a : Addr} {ys : List V} {o : HO} (n : H a = some (.lst ys)) : TK H (upd H a o) := fun b xs h => by
  rw [upd_ne (ne_of h n (by intro z; cases z))]
  exact h
variable {p : Addr} {H H' : Hp}
theorem Tq.keep (k : TK H H') : ∀ {n : Nat} {v : V} {d : PyData}, Tq n H v d → Tq n H' v d
  | 0, _, _, h => h.elim
  | n + 1, v, d, h => by
    cases d with
    | none => exact h
    | bool b => exact h
    | int i => exact h
    | str s => exact h
    | dict kv => exact h
    | list ds => exact h
    | tuple ds =>
      obtain ⟨a, xs, e, ha, hl, hz, r⟩ := h
      exact ⟨a, xs, e, k _ _ ha, hl, hz, fun i x e h1 h2 => Tq.keep k (r i x e h1 h2)⟩
theorem Tq.up : ∀ {n : Nat} {v : V} {d : PyData}, Tq n H v d → Tq (n + 1) H v d
  | 0, _, _, h => h.elim
  | n + 1, v, d, h => by
    cases d with
    | none => exact h
    | bool b => exact h
    | int i => exact h
    | str s => exact h
    | dict kv => exact h
    | list ds => exact h
    | tuple ds =>
      obtain ⟨a, xs, e, ha, hl, hz, r⟩ := h
      exact ⟨a, xs, e, ha, hl, hz, fun i x e h1 h2 => Tq.up (r i x e h1 h2)⟩
theorem Tq.dq {ys : List V} (hp : H p = some (.lst ys)) : ∀ {n : Nat} {v : V} {d : PyData}, Tq n H v d → Dq p n H v d
  | 0, _, _, h => h.elim
  | n + 1, v, d, h => by
    cases d with
    | none => exact h
    | bool b => exact h
    | int i => exact h
    | str s => exact h
    | dict kv => exact h
    | list ds => exact h.elim
    | tuple ds =>
      obtain ⟨a, xs, e, ha, hl, hz, r⟩ := h
      exact ⟨a, xs, e, ne_of ha hp (by intro z; cases z), ha, hl, hz, fun i x e h1 h2 => Tq.dq hp (r i x e h1 h2)⟩
def TqA (n : Nat) (H : Hp) (xs : List V) (ds : List PyData) : Prop := xs.length = ds.length ∧ ∀ (i : Nat) (x : V) (e : PyData), xs[i]? = some x → ds[i]? = some e → Tq n H x e
theorem TqA.keep {n : Nat} {xs : List V} {ds : List PyData} (k : TK H H') (h : TqA n H xs ds) : TqA n H' xs ds := ⟨h.1, fun i x e h1 h2 => (h.2 i x e h1 h2).keep k⟩
theorem TqA.nil {n : Nat} : TqA n H [] [] := ⟨rfl, fun i x e h => by simp at h⟩
theorem TqA.cons {n : Nat} {x : V} {xs : List V} {d : PyData} {ds : List PyData} (h : Tq n H x d) (r : TqA n H xs ds) : TqA n H (x :: xs) (d :: ds) := ⟨by simp [r.1], fun i y e h1 h2 => by
  cases i with
  | zero =>
    simp at h1 h2
    subst h1 h2
    exact h
  | succ i => exact r.2 i y e (by simpa using h1) (by simpa using h2)⟩
theorem TqA.append {n : Nat} {xs ys : List V} {ds es : List PyData} (h : TqA n H xs ds) (r : TqA n H ys es) : TqA n H (xs ++ ys) (ds ++ es) := by
  refine ⟨by simp [h.1, r.1], fun i x e h1 h2 => ?_⟩
  by_cases hi : i < xs.length
  · rw [List.getElem?_append_left hi] at h1
    rw [List.getElem?_append_left (by rw [← h.1]; exact hi)] at h2
    exact h.2 i x e h1 h2
  · rw [List.getElem?_append_right (by omega)] at h1
    rw [List.getElem?_append_right (by rw [← h.1]; omega), ← h.1] at h2
    exact r.2 _ x e h1 h2
theorem TqA.dqa {n : Nat} {xs ys : List V} {ds : List PyData} (hp : H p = some (.lst ys)) (h : TqA n H xs ds) : DqA p n H xs ds := ⟨h.1, fun i x e h1 h2 => (h.2 i x e h1 h2).dq hp⟩
theorem TqA.tup {n : Nat} {a : Addr} {xs : List V} {ds : List PyData} (r : TqA n H xs ds) (ha : H a = some (.tup xs)) (hz : ds.length ≤ 1000) : Tq (n + 1) H (.ref a) (.tuple ds) := ⟨a, xs, rfl, ha, r.1, hz, r.2⟩
theorem TqA.lst {n : Nat} {a : Addr} {xs ys : List V} {ds : List PyData} (r : TqA n H xs ds) (hp : H p = some (.lst ys)) (ne : a ≠ p) (ha : H a = some (.lst xs)) (hz : ds.length ≤ 1000) : Dq p (n + 1) H (.ref a) (.list ds) := (r.dqa hp).lst ne ha hz
theorem TqA.get {n i : Nat} {xs : List V} {ds : List PyData} {d : PyData} (h : TqA n H xs ds) (hd : ds[i]? = some d) : ∃ x, xs[i]? = some x ∧ Tq n H x d := by
  have hi : i < ds.length := (List.getElem?_eq_some_iff.mp hd).1
  have hx := List.getElem?_eq_getElem (l := xs) (i := i) (by rw [h.1]; exact hi)
  exact ⟨_, hx, h.2 i _ d hx hd⟩
theorem TqA.get' {n i : Nat} {xs : List V} {ds : List PyData} {x : V} (h : TqA n H xs ds) (hx : xs[i]? = some x) : ∃ d, ds[i]? = some d ∧ Tq n H x d := by
  have hi : i < xs.length := (List.getElem?_eq_some_iff.mp hx).1
  have hd := List.getElem?_eq_getElem (l := ds) (i := i) (by rw [← h.1]; exact hi)
  exact ⟨_, hd, h.2 i _ _ hx hd⟩
section
variable {K : PySem.W.Frag} {p D : Addr} {H1 : Hp} {g : TG} {tt : TT} {te : TE} {vs : List Nat} {σ : L2.St} {Qd : Hp → Prop} {m : Nat}
def Fill (p D : Addr) (H1 H' : Hp) (m : Nat) (ds : List PyData) : Prop := ∃ xs, H' D = some (.lst xs) ∧ TqA m H' xs ds ∧ Run p H1 H'
theorem Fill.start (hD : H1 D = none) (hp : Pool H1 p) : Fill p D H1 (upd H1 D (.lst [])) m [] := ⟨[], upd_same, .nil, (Run.nil hp).upd hD⟩
theorem Fill.more {H' H4 : Hp} {ds : List PyData} {d : PyData} {y : V} (hD : H1 D = none) (hp : Pool H1 p) (f : Fill p D H1 H' m ds) (hz : ds.length ≤ 1000) (r : Run p H' H4) (hy : Tq m H4 y d) :
    ∃ acc, H4 D = some (.lst acc) ∧ acc.length < sizeLine ∧ Fill p D H1 (upd H4 D (.lst (acc ++ [y]))) m (ds ++ [d]) := by
  obtain ⟨xs, h1, h2, h3⟩ := f
  have Dp : D ≠ p := hp.ne hD
  have h1' : H4 D = some (.lst xs) := r.1 _ _ Dp h1
  have k : TK H4 (upd H4 D (.lst (xs ++ [y]))) := TK.put h1'
  exact ⟨xs, h1', by rw [h2.1, sizeLine_eq]; omega, xs ++ [y], upd_same, ((h2.keep (TK.run h3.2 r)).append (.cons hy .nil)).keep k, (h3.trans r).put hD Dp⟩
theorem Fill.none {H' H4 : Hp} {ds : List PyData} (hD : H1 D = none) (hp : Pool H1 p) (f : Fill p D H1 H' m ds) (r : Run p H' H4) : Fill p D H1 H4 m ds := by
  obtain ⟨xs, h1, h2, h3⟩ := f
  exact ⟨xs, r.1 _ _ (hp.ne hD) h1, h2.keep (TK.run h3.2 r), h3.trans r⟩
end
end SX
namespace SX
open PySem PySem.Spec PyProof.Rows L2 KO
end SX
namespace SX
open PySem PySem.Spec PyProof.Rows L2 KO
abbrev Sp4 := Int × Int × Int × Int
def dSp (s : Sp4) : PyData := .tuple [.int s.1, .int s.2.1, .int s.2.2.1, .int s.2.2.2]
def gSp (T n : Int) (s : Sp4) : Prop := 0 ≤ s.1 ∧ s.1 < n ∧ 0 ≤ s.2.1 ∧ s.2.1 < n ∧ s.1 ≠ s.2.1 ∧ 0 ≤ s.2.2.1 ∧ s.2.2.1 ≤ s.2.2.2 ∧ s.2.2.2 ≤ s.2.2.1 + T - 1 ∧ s.2.2.2 ≤ 999
theorem tq_sp {H : Hp} {a : Addr} {s e l m : Int} (h : H a = some (.tup [.int s, .int e, .int l, .int m])) : Tq 2 H (.ref a) (dSp (s, e, l, m)) :=
  TqA.tup (.cons rfl (.cons rfl (.cons rfl (.cons rfl .nil)))) h (by simp)
theorem TqA.set {n : Nat} {H : Hp} {xs : List V} {ds : List PyData} (h : TqA n H xs ds) {x : V} {d : PyData} (hx : Tq n H x d) (j : Nat) : TqA n H (xs.set j x) (ds.set j d) := by
  refine ⟨by simp [h.1], fun i y e h1 h2 => ?_⟩
  rw [List.getElem?_set] at h1 h2
  by_cases hij : j = i
  · subst hij
    rw [if_pos rfl] at h1 h2
    split at h1
    · rename_i hl
      rw [if_pos (by rw [← h.1]; exact hl)] at h2
      cases h1
      cases h2
      exact hx
    · cases h1
  · rw [if_neg hij] at h1 h2
    exact h.2 i y e h1 h2
end SX
namespace SX
open PySem PySem.Spec PyProof.Rows L2 KO
def spSpans (H H' : Hp) (p a : Addr) (T n c : Int) : Prop := ∃ (xs : List V) (sps : List Sp4), H' a = some (.lst xs) ∧ TqA 2 H' xs (sps.map dSp) ∧ (sps.length : Int) = c ∧ (∀ s ∈ sps, gSp T n s) ∧ Run p H H'
theorem spSpans.run {H H1 H2 : Hp} {p a : Addr} {T n c : Int} (ne : a ≠ p) (h : spSpans H H1 p a T n c) (r : Run p H1 H2) : spSpans H H2 p a T n c := by
  obtain ⟨xs, sps, h1, h2, h3, h4, h5⟩ := h
  exact ⟨xs, sps, r.1 _ _ ne h1, h2.keep (TK.run h5.2 r), h3, h4, h5.trans r⟩
theorem spSpans.more {H H1 H2 : Hp} {p a b : Addr} {T n c c' s e l m : Int} (hn : H a = none) (ne : a ≠ p) {xs : List V} {sps : List Sp4} (h1 : H1 a = some (.lst xs)) (h2 : TqA 2 H1 xs (sps.map dSp)) (h3 : (sps.length : Int) = c) (h4 : ∀ s ∈ sps, gSp T n s) (h5 : Run p H H1)
    (r : Run p H1 H2) (hb : H2 b = none) (g : gSp T n (s, e, l, m)) (hc : c' = c + 1) : spSpans H (upd (upd H2 b (.tup [.int s, .int e, .int l, .int m])) a (.lst (xs ++ [.ref b]))) p a T n c' := by
  have h1' : H2 a = some (.lst xs) := r.1 _ _ ne h1
  have nb : a ≠ b := ne_of_none h1' hb
  have k1 : TK H2 (upd H2 b (.tup [.int s, .int e, .int l, .int m])) := TK.new hb
  have h1'' : (upd H2 b (.tup [.int s, .int e, .int l, .int m])) a = some (.lst xs) := upd_get h1' hb
  have k2 : TK _ (upd (upd H2 b (.tup [.int s, .int e, .int l, .int m])) a (.lst (xs ++ [.ref b]))) := TK.put h1''
  refine ⟨_, sps ++ [(s, e, l, m)], upd_same, ?_, by simp; omega, fun x hx => ?_, (((h5.trans r).upd hb).put hn ne)⟩
  · rw [List.map_append]
    refine TqA.keep k2 (TqA.append (TqA.keep k1 (h2.keep (TK.run h5.2 r))) (.cons (tq_sp upd_same) .nil))
  · rcases List.mem_append.mp hx with h | h
    · exact h4 x h
    · rw [List.mem_singleton.mp h]
      exact g
end SX
namespace SX
end SX
namespace SX
open PySem PySem.Spec PyProof.Rows L2 KO
end SX
namespace SX
open PySem PySem.Spec PyProof.Rows L2 KO
def NetAt (C : Addr) (H : Hp) (a : Addr) (T n : Int) (sps : List Sp4) : Prop := ∃ (dx t : Addr) (xs : List V), H a = some (.ins C dx [("round_length", .int T), ("events", .int n), ("spans", .ref t)]) ∧ H t = some (.tup xs) ∧ TqA 2 H xs (sps.map dSp)
theorem NetAt.keep {C : Addr} {H H' : Hp} {a : Addr} {T n : Int} {sps : List Sp4} (k : ∀ b o, (∀ xs, o ≠ .lst xs) → H b = some o → H' b = some o) (h : NetAt C H a T n sps) : NetAt C H' a T n sps := by
  obtain ⟨dx, t, xs, h1, h2, h3⟩ := h
  exact ⟨dx, t, xs, k _ _ (fun _ z => nomatch z) h1, k _ _ (fun _ z => nomatch z) h2, h3.keep fun b ys e => k _ _ (fun _ z => nomatch z) e⟩
theorem NetAt.run {C p : Addr} {H H' : Hp} {a : Addr} {T n : Int} {sps : List Sp4} (hp : Pool H p) (r : Run p H H') (h : NetAt C H a T n sps) : NetAt C H' a T n sps :=
  h.keep fun b o nl e => r.1 b o (fun z => by
    obtain ⟨x, f, c, q⟩ := hp
    rw [z, q] at e
    exact nl _ (Option.some.inj e).symm) e
end SX
namespace SX
open PySem PySem.Spec PyProof.Rows L2 KO
end SX
namespace SX
open PySem PySem.Spec PyProof.Rows L2 KO
section
variable {X : Cx} {K : PySem.W.Frag}
end
end SX
namespace SXT
open PySem PySem.Spec PyProof.Rows
open Sem (wp)
open AutoSeq1 (wpAny_loadPart')
section
variable {prog : Program} {w : World} {A : Around} {E : Value → Shared → Prop} {s : Shared}
end
end SXT
namespace L2
open PySem PySem.Spec PyProof.Rows
section
variable {K : PySem.W.Frag} {a : Addr} {xs : List V} {g : TG} {tb : TS} {D : Ends} {σ : St} {H : Hp}
end
section
variable {K : PySem.W.Frag} {a : Addr} {xs : List V} {g : TG} {tt : TT} {te : TE} {vs : List Nat} {σ : St} {H1 : Hp} {D : Addr} {Qd : Hp → Prop}
end
end L2
namespace SX
open PySem PySem.Spec PyProof.Rows L2 KO
section
variable {K : PySem.W.Frag} {H : Hp} {p : Addr} {xs : List V} {r : Int} {Q : VK}
end
def AllI (xs : List V) : Prop := ∀ x ∈ xs, ∃ i : Int, x = .int i
theorem AllI.get : ∀ {xs : List V}, AllI xs → ∃ ns : List Int, xs = ns.map V.int
  | [], _ => ⟨[], rfl⟩
  | x :: xs, h => by
    obtain ⟨i, rfl⟩ := h _ List.mem_cons_self
    obtain ⟨ns, rfl⟩ := AllI.get (xs := xs) fun y hy => h y (List.mem_cons_of_mem _ hy)
    exact ⟨i :: ns, rfl⟩
theorem AllI.of (ns : List Int) : AllI (ns.map V.int) := fun x hx => by
  obtain ⟨i, _, rfl⟩ := List.mem_map.mp hx
  exact ⟨i, rfl⟩
theorem AllI.nil : AllI [] := fun x hx => by cases hx
theorem AllI.one (i : Int) : AllI [.int i] := AllI.of [i]
theorem AllI.app {xs ys : List V} (a : AllI xs) (b : AllI ys) : AllI (xs ++ ys) := fun x hx => (List.mem_append.mp hx).elim (a x) (b x)
theorem AllI.set {xs : List V} (a : AllI xs) (j : Nat) (i : Int) : AllI (xs.set j (.int i)) := fun x hx => (List.mem_or_eq_of_mem_set hx).elim (a x) fun e => ⟨i, e⟩
def NewI (H H' : Hp) (p b : Addr) (k : Nat) : Prop := ∃ ns : List Int, H b = none ∧ H' b = some (.lst (ns.map V.int)) ∧ ns.length ≤ k ∧ Run p H H'
theorem NewI.of {H H' : Hp} {p b : Addr} {k : Nat} {xs : List V} (n : H b = none) (h : H' b = some (.lst xs)) (a : AllI xs) (hk : xs.length ≤ k) (r : Run p H H') : NewI H H' p b k := by
  obtain ⟨ns, rfl⟩ := a.get
  exact ⟨ns, n, h, by rw [List.length_map] at hk; exact hk, r⟩
end SX
namespace SX
open PySem PySem.Spec PyProof.Rows L2 KO
end SX
namespace SX
open PySem PySem.Spec PyProof.Rows L2 KO
end SX
namespace SX
open PySem PySem.Spec PyProof.Rows L2 KO
end SX
namespace SX
open PySem PySem.Spec PyProof.Rows L2 KO
end SX
namespace L2
open PySem PySem.Spec PyProof.Rows
def wManyA (K : PySem.W.Frag) (Wout : WX) (D : Ends) : List (Value × Nat × (Addr → Value → Option Addr → TS)) → WX
  | [] => Wout
  | (c, i, ts) :: r => fun cls d σ H => ∃ b, PySem.W.exmOne K cls c = some b ∧ (b = true → ∀ a, H a = none → ts a cls d { nx := fun σ' H' => D.nx (σ'.set i none) H', rt := D.rt, bk := fun σ' H' => D.bk (σ'.set i none) H', ct := fun σ' H' => D.ct (σ'.set i none) H' } (σ.set i (some (.ref a))) H) ∧ (b = false → wManyA K Wout D r cls d σ H)
inductive HdsOkA (X : Cx) : List ExceptHandler → List (Value × Nat × (Addr → Value → Option Addr → TS)) → Prop
  | nil : HdsOkA X [] []
  | cons {x n : Str} {c : Value} {i : Nat} {ts : Addr → Value → Option Addr → TS} {b₀ : Stmt} {suite : List Stmt} {np pos' : Pos} {hds : List ExceptHandler} {l : List (Value × Nat × (Addr → Value → Option Addr → TS))} (hi : X.N[i]? = some n) (hln : X.env.kindOf n = some .local) (hc : Names X x c)
      (hsu : ∀ (a : Addr) (oe : Obj) (cls : Value) (d : Option Addr) (pn : List (Addr × Obj)), Zc cls d oe → (∃ vs, oe.data = .fields vs) → PSs (X.suite a ((a, oe) :: pn)) (b₀ :: suite) (ts a cls d)) (r : HdsOkA X hds l) :
      HdsOkA X (.ExceptHandler (some (.Name x np)) (some n) (b₀ :: suite) pos' :: hds) ((c, i, ts) :: l)
section
variable {X : Cx} {body : List Stmt} {h₀ : ExceptHandler} {hds : List ExceptHandler} {l : List (Value × Nat × (Addr → Value → Option Addr → TS))} {pos : Pos} {tb : WX → TS} {Wout : WX}
end
end L2
namespace SX
open PySem PySem.Spec PyProof.Rows L2 KO
theorem kit_oty {K : PySem.W.Frag} {C : Addr} {t : String} {b : Bool} (h : PySem.W.kitMeta t = true) (s : PySem.W.subIn K (.ref C) (.type t) = some b) : PySem.W.kitOne K (.ref C) (.type t) = some b := by
  unfold PySem.W.kitOne PySem.W.kitCls
  rw [if_neg (by simp)]
  dsimp only
  rw [if_pos h]
  exact s
theorem kit_ref {K : PySem.W.Frag} {C D : Addr} {b : Bool} (ss : PySem.W.subIn K (.ref C) (.ref C) = some true) (s : PySem.W.subIn K (.ref C) (.ref D) = some b) (hd : PySem.W.hasDictIn K D = true) (ty : PySem.W.typeIn K (.ref D) = some (.type "type")) : PySem.W.kitOne K (.ref C) (.ref D) = some b := by
  obtain ⟨cd, hc, _⟩ := PySem.W.any_some hd
  unfold PySem.W.kitOne PySem.W.kitCls
  by_cases e : C = D
  · subst e
    rw [ss] at s
    cases s
    simp
  · rw [if_neg (by simpa using e)]
    dsimp only
    rw [hc, ty]
    simpa using s
end SX
namespace SX
open PySem PySem.Spec PyProof.Rows L2 KO
end SX
namespace RF
open PySem PySem.Spec PyProof.Rows L2 KO SX

structure Ex where
  cls : Str
  fs : List (Str × PyData)
structure Mo (α : Type) where
  run : (α → Prop) → (Ex → Prop) → Prop
  mono : ∀ {Q Q' : α → Prop} {E E' : Ex → Prop}, (∀ x, Q x → Q' x) → (∀ x, E x → E' x) → run Q E → run Q' E'
namespace Mo
variable {α β : Type}
protected def pure (a : α) : Mo α := ⟨fun Q _ => Q a, fun h _ q => h _ q⟩
protected def bind (m : Mo α) (k : α → Mo β) : Mo β := ⟨fun Q E => m.run (fun x => (k x).run Q E) E, fun h e q => m.mono (fun x => (k x).mono h e) e q⟩
def throw (e : Ex) : Mo α := ⟨fun _ E => E e, fun _ e q => e _ q⟩
def stuck : Mo α := ⟨fun _ _ => False, fun _ _ q => q⟩
def get (o : Option α) : Mo α := ⟨fun Q _ => ∃ a, o = some a ∧ Q a, fun h _ q => by obtain ⟨a, e, q⟩ := q; exact ⟨a, e, h _ q⟩⟩
def req (p : Prop) : Mo Unit := ⟨fun Q _ => p ∧ Q (), fun h _ q => ⟨q.1, h _ q.2⟩⟩
def any (p : α → Prop) : Mo α := ⟨fun Q _ => ∀ a, p a → Q a, fun h _ q a x => h _ (q a x)⟩
def calm (m : Mo α) : Mo α := ⟨fun Q _ => m.run Q fun _ => False, fun h _ q => m.mono h (fun _ z => z) q⟩
instance : Monad Mo where
  pure := Mo.pure
  bind := Mo.bind
@[simp] theorem run_pure {a : α} {Q : α → Prop} {E : Ex → Prop} : (pure a : Mo α).run Q E = Q a := rfl
@[simp] theorem run_bind {m : Mo α} {k : α → Mo β} {Q : β → Prop} {E : Ex → Prop} : (m >>= k).run Q E = m.run (fun x => (k x).run Q E) E := rfl
@[simp] theorem run_map {m : Mo α} {f : α → β} {Q : β → Prop} {E : Ex → Prop} : (f <$> m).run Q E = m.run (fun x => Q (f x)) E := rfl
@[simp] theorem run_throw {e : Ex} {Q : α → Prop} {E : Ex → Prop} : (throw e : Mo α).run Q E = E e := rfl
@[simp] theorem run_stuck {Q : α → Prop} {E : Ex → Prop} : (stuck : Mo α).run Q E = False := rfl
@[simp] theorem run_get {o : Option α} {Q : α → Prop} {E : Ex → Prop} : (get o).run Q E = ∃ a, o = some a ∧ Q a := rfl
@[simp] theorem run_req {p : Prop} {Q : Unit → Prop} {E : Ex → Prop} : (req p).run Q E = (p ∧ Q ()) := rfl
@[simp] theorem run_any {p : α → Prop} {Q : α → Prop} {E : Ex → Prop} : (any p).run Q E = ∀ a, p a → Q a := rfl
@[simp] theorem run_calm {m : Mo α} {Q : α → Prop} {E : Ex → Prop} : (calm m).run Q E = m.run Q fun _ => False := rfl
@[simp] theorem run_ite {c : Prop} [Decidable c] {a b : Mo α} {Q : α → Prop} {E : Ex → Prop} : (if c then a else b).run Q E = if c then a.run Q E else b.run Q E := by split <;> rfl
end Mo

structure Pr where
  r : V → Hp → Prop
  mono : ∀ {v : V} {F F' : Hp}, Same F F' → r v F → r v F'
structure Po where
  r : HO → Hp → Prop
  mono : ∀ {o : HO} {F F' : Hp}, Same F F' → r o F → r o F'
inductive En where
  | un
  | fz (p : Pr)
  | ow (l : Bool) (a : Addr) (q : Po)
  | lk (f : Bool) (h : Hp) (p : Pr)
abbrev Ctx := List En
def En.own? : En → Option Addr
  | .ow _ a _ => some a
  | _ => none
def owns (Γ : Ctx) : List Addr := Γ.filterMap En.own?
theorem mem_owns {Γ : Ctx} {i : Nat} {l : Bool} {a : Addr} {q : Po} (h : Γ[i]? = some (.ow l a q)) : a ∈ owns Γ := List.mem_filterMap.mpr ⟨_, List.mem_of_getElem? h, rfl⟩
theorem of_owns {Γ : Ctx} {a : Addr} (h : a ∈ owns Γ) : ∃ (i : Nat) (l : Bool) (q : Po), Γ[i]? = some (.ow l a q) := by
  obtain ⟨e, he, q⟩ := List.mem_filterMap.mp h
  obtain ⟨i, hi⟩ := List.getElem?_of_mem he
  cases e with
  | un => cases q
  | fz p => cases q
  | ow l b p => cases q; exact ⟨i, l, p, hi⟩
  | lk f h p => cases q

structure Go (M : List Addr) (F H F' H' : Hp) : Prop where
  fs : Same F F'
  le : Same F' H'
  hs : ∀ b o, b ∉ M → H b = some o → H' b = some o
  fr : ∀ b o, H b = some o → F b = none → F' b = none
  th : ∀ b o, H b = some o → ∃ o', H' b = some o'
section
variable {M M' : List Addr} {F F' F1 F2 H H' H1 H2 : Hp}
theorem Go.refl (h : Same F H) : Go M F H F H := ⟨Same.refl _, h, fun _ _ _ e => e, fun _ _ _ e => e, fun _ o e => ⟨o, e⟩⟩
theorem Go.trans (a : Go M F H F1 H1) (b : Go M' F1 H1 F2 H2) (s : ∀ x ∈ M', x ∈ M ∨ H x = none) : Go M F H F2 H2 where
  fs := a.fs.trans b.fs
  le := b.le
  hs := fun x o n e => by
    refine b.hs x o (fun m => ?_) (a.hs x o n e)
    rcases s x m with h | h
    · exact n h
    · rw [h] at e; cases e
  fr := fun x o e f => by
    obtain ⟨o', e'⟩ := a.th x o e
    exact b.fr x o' e' (a.fr x o e f)
  th := fun x o e => by
    obtain ⟨o', e'⟩ := a.th x o e
    exact b.th x o' e'
theorem Go.mono (a : Go M F H F1 H1) (s : ∀ x ∈ M, x ∈ M' ∨ H x = none) : Go M' F H F1 H1 where
  fs := a.fs
  le := a.le
  hs := fun x o n e => by
    refine a.hs x o (fun m => ?_) e
    rcases s x m with h | h
    · exact n h
    · rw [h] at e; cases e
  fr := a.fr
  th := a.th
theorem Go.new {p : Addr} {o : HO} (s : Same F H) (h : H p = none) : Go M F H (upd F p o) (upd H p o) where
  fs := fun b x e => upd_get e (s.free h)
  le := fun b x e => by
    by_cases hb : b = p
    · subst hb; rw [upd_same] at e ⊢; exact e
    · rw [upd_ne hb] at e ⊢; exact s _ _ e
  hs := fun b x _ e => upd_get e h
  fr := fun b x e f => by rw [upd_ne (ne_of_none e h)]; exact f
  th := fun b x e => ⟨x, upd_get e h⟩
theorem Go.newO {p : Addr} {o : HO} (s : Same F H) (h : H p = none) : Go M F H F (upd H p o) where
  fs := Same.refl _
  le := fun b x e => upd_get (s _ _ e) h
  hs := fun b x _ e => upd_get e h
  fr := fun b x e f => f
  th := fun b x e => ⟨x, upd_get e h⟩
theorem Go.put {p : Addr} {o u : HO} (s : Same F H) (h : F p = none) (hp : H p = some u) : Go [p] F H F (upd H p o) where
  fs := Same.refl _
  le := fun b x e => by rw [upd_ne (ne_of_none e h)]; exact s _ _ e
  hs := fun b x n e => by rw [upd_ne (by simpa using n)]; exact e
  fr := fun b x e f => f
  th := fun b x e => by
    by_cases hb : b = p
    · subst hb; exact ⟨o, upd_same⟩
    · exact ⟨x, by rw [upd_ne hb]; exact e⟩
theorem Go.freeze {p : Addr} {o : HO} (a : Go M F H F1 H1) (s : Same F H) (hp : H1 p = some o) (h : H p = none) : Go M F H (upd F1 p o) H1 where
  fs := fun b x e => by
    rw [upd_ne (ne_of_none (s _ _ e) h)]
    exact a.fs b x e
  le := fun b x e => by
    by_cases hb : b = p
    · subst hb; rw [upd_same] at e; rw [hp]; exact e
    · rw [upd_ne hb] at e; exact a.le _ _ e
  hs := a.hs
  fr := fun b x e f => by rw [upd_ne (ne_of_none e h)]; exact a.fr b x e f
  th := a.th
end

structure Gf where
  F0 : Hp
  H0 : Hp
  M : List Addr
def EnOk (G : Gf) (F H : Hp) : En → Option (Option V) → Prop
  | .un, _ => True
  | .fz p, s => ∃ v, s = some (some v) ∧ p.r v F
  | .ow l a q, s => s = some (some (.ref a)) ∧ F a = none ∧ (if l = true then G.H0 a = none else a ∈ G.M) ∧ ∃ o, H a = some o ∧ q.r o F
  | .lk f h p, s => (∃ v, s = some (some v) ∧ p.r v F) ∧ (∀ b, h b = none → G.H0 b = none ∧ (f = true → G.F0 b = none)) ∧ ∀ b, H b = none → h b = none
theorem none_th {H H' : Hp} (th : ∀ b o, H b = some o → ∃ o', H' b = some o') {b : Addr} (h : H' b = none) : H b = none := by
  cases e : H b with
  | none => rfl
  | some o => obtain ⟨o', e'⟩ := th _ _ e; rw [h] at e'; cases e'
structure Ok (G : Gf) (Γ : Ctx) (σ : L2.St) (F H : Hp) : Prop where
  go : Go G.M G.F0 G.H0 F H
  en : ∀ (i : Nat) (e : En), Γ[i]? = some e → EnOk G F H e σ[i]?
  ap : ∀ (i j : Nat) (l m : Bool) (a : Addr) (p q : Po), Γ[i]? = some (.ow l a p) → Γ[j]? = some (.ow m a q) → i = j
  ln : σ.length = Γ.length
section
variable {G : Gf} {Γ Γ' : Ctx} {σ : L2.St} {F H F' H' : Hp}
theorem Ok.le (o : Ok G Γ σ F H) : Same F H := o.go.le
theorem own_of {l : Bool} {a : Addr} (h : if l = true then G.H0 a = none else a ∈ G.M) : a ∈ G.M ∨ G.H0 a = none := by
  cases l with
  | true => exact .inr h
  | false => exact .inl h
theorem Ok.own (o : Ok G Γ σ F H) {a : Addr} (h : a ∈ owns Γ) : a ∈ G.M ∨ G.H0 a = none := by
  obtain ⟨i, l, q, e⟩ := of_owns h
  exact own_of (o.en i _ e).2.2.1
theorem Ok.ownF (o : Ok G Γ σ F H) {a : Addr} (h : a ∈ owns Γ) : F a = none := by
  obtain ⟨i, l, q, e⟩ := of_owns h
  exact (o.en i _ e).2.1
theorem Ok.ownH (o : Ok G Γ σ F H) {a : Addr} (h : a ∈ owns Γ) : ∃ u, H a = some u := by
  obtain ⟨i, l, q, e⟩ := of_owns h
  obtain ⟨u, hu, _⟩ := (o.en i _ e).2.2.2
  exact ⟨u, hu⟩
theorem Ok.move {M : List Addr} (o : Ok G Γ σ F H) (g : Go M F H F' H') (hM : ∀ x ∈ M, H x = none ∨ (x ∈ G.M ∨ G.H0 x = none) ∧ x ∉ owns Γ) : Ok G Γ σ F' H' where
  go := o.go.trans g fun x m => by
    rcases hM x m with h | h
    · right
      cases e : G.H0 x with
      | none => rfl
      | some y =>
        obtain ⟨o', e'⟩ := o.go.th _ _ e
        rw [h] at e'; cases e'
    · exact h.1
  en := fun i e he => by
    have q := o.en i e he
    cases e with
    | un => trivial
    | fz p =>
      obtain ⟨v, h1, h2⟩ := q
      exact ⟨v, h1, p.mono g.fs h2⟩
    | ow l a p =>
      obtain ⟨h1, h2, h3, u, h4, h5⟩ := q
      refine ⟨h1, g.fr _ _ h4 h2, h3, u, g.hs _ _ (fun m => ?_) h4, p.mono g.fs h5⟩
      rcases hM a m with h | h
      · rw [h] at h4; cases h4
      · exact h.2 (mem_owns he)
    | lk f h p =>
      obtain ⟨⟨v, h1, h2⟩, h3, h4⟩ := q
      exact ⟨⟨v, h1, p.mono g.fs h2⟩, h3, fun b e => h4 b (none_th g.th e)⟩
  ap := o.ap
  ln := o.ln
def Le : Ctx → Ctx → Prop
  | [], [] => True
  | e :: l, e' :: l' => (e = .un ∨ e = e') ∧ Le l l'
  | _, _ => False
theorem Le.len : ∀ {Γ Γ' : Ctx}, Le Γ Γ' → Γ.length = Γ'.length
  | [], [], _ => rfl
  | _ :: _, _ :: _, h => by simp [Le.len h.2]
  | [], _ :: _, h => h.elim
  | _ :: _, [], h => h.elim
theorem Le.get : ∀ {Γ Γ' : Ctx} {i : Nat} {e : En}, Le Γ Γ' → Γ[i]? = some e → e = .un ∨ Γ'[i]? = some e
  | [], [], _, _, _, h => by simp at h
  | x :: l, y :: l', 0, e, h, q => by
    simp at q
    subst q
    rcases h.1 with h | h
    · exact .inl h
    · exact .inr (by simp [h])
  | x :: l, y :: l', i + 1, e, h, q => by
    have := Le.get (i := i) (e := e) h.2 (by simpa using q)
    simpa using this
  | [], _ :: _, _, _, h, _ => h.elim
  | _ :: _, [], _, _, h, _ => h.elim
theorem Le.refl : ∀ Γ : Ctx, Le Γ Γ
  | [] => trivial
  | _ :: l => ⟨.inr rfl, Le.refl l⟩
theorem Le.trans : ∀ {A B C : Ctx}, Le A B → Le B C → Le A C
  | [], [], [], _, _ => trivial
  | a :: A, b :: B, c :: C, h, k => ⟨by
      rcases h.1 with h1 | h1
      · exact .inl h1
      · rcases k.1 with k1 | k1
        · exact .inl (h1.trans k1)
        · exact .inr (h1.trans k1), Le.trans h.2 k.2⟩
  | [], _ :: _, _, h, _ => h.elim
  | _ :: _, [], _, h, _ => h.elim
  | [], [], _ :: _, _, k => k.elim
  | _ :: _, _ :: _, [], _, k => k.elim
theorem Le.set : ∀ {Γ Γ' : Ctx} {i : Nat} {e : En}, Le Γ Γ' → Γ[i]? = some .un → Le Γ (Γ'.set i e)
  | [], [], _, _, _, h => by simp at h
  | x :: l, y :: l', 0, e, h, q => by
    simp at q
    exact ⟨.inl q, h.2⟩
  | x :: l, y :: l', i + 1, e, h, q => ⟨h.1, Le.set (i := i) h.2 (by simpa using q)⟩
  | [], _ :: _, _, _, h, _ => h.elim
  | _ :: _, [], _, _, h, _ => h.elim
theorem Ok.weak (o : Ok G Γ σ F H) (l : Le Γ' Γ) : Ok G Γ' σ F H where
  go := o.go
  en := fun i e he => by
    rcases l.get he with h | h
    · subst h; trivial
    · exact o.en i e h
  ap := fun i j l1 l2 a p q h1 h2 => by
    rcases l.get h1 with h | h1
    · cases h
    · rcases l.get h2 with h | h2
      · cases h
      · exact o.ap i j _ _ a p q h1 h2
  ln := o.ln.trans l.len.symm
theorem Ok.set (o : Ok G Γ σ F H) {i : Nat} {v : V} {p : Pr} (h : p.r v F) : Ok G (Γ.set i (.fz p)) (σ.set i (some v)) F H where
  go := o.go
  en := fun j e he => by
    by_cases hij : i = j
    · subst hij
      have hl : i < Γ.length := by
        have := (List.getElem?_eq_some_iff.mp he).1
        simpa using this
      rw [List.getElem?_set_self hl] at he
      cases he
      exact ⟨v, List.getElem?_set_self (by rw [o.ln]; exact hl), h⟩
    · rw [List.getElem?_set_ne hij] at he ⊢
      exact o.en j e he
  ap := fun j k l1 l2 a p q h1 h2 => by
    have key : ∀ {j : Nat} {l : Bool} {p : Po}, (Γ.set i (.fz ‹Pr›))[j]? = some (.ow l a p) → Γ[j]? = some (.ow l a p) := fun {j l p} e => by
      by_cases hij : i = j
      · subst hij
        have hl : i < Γ.length := by
          have := (List.getElem?_eq_some_iff.mp e).1
          simpa using this
        rw [List.getElem?_set_self hl] at e
        cases e
      · rw [List.getElem?_set_ne hij] at e
        exact e
    exact o.ap j k _ _ a p q (key h1) (key h2)
  ln := by simp [o.ln]
theorem Ok.forget (o : Ok G Γ σ F H) (i : Nat) {v : Option V} : Ok G (Γ.set i .un) (σ.set i v) F H where
  go := o.go
  en := fun j e he => by
    by_cases hij : i = j
    · subst hij
      have hl : i < Γ.length := by
        have := (List.getElem?_eq_some_iff.mp he).1
        simpa using this
      rw [List.getElem?_set_self hl] at he
      cases he
      trivial
    · rw [List.getElem?_set_ne hij] at he ⊢
      exact o.en j e he
  ap := fun j k l1 l2 a p q h1 h2 => by
    have key : ∀ {j : Nat} {l : Bool} {p : Po}, (Γ.set i .un)[j]? = some (.ow l a p) → Γ[j]? = some (.ow l a p) := fun {j l p} e => by
      by_cases hij : i = j
      · subst hij
        have hl : i < Γ.length := by
          have := (List.getElem?_eq_some_iff.mp e).1
          simpa using this
        rw [List.getElem?_set_self hl] at e
        cases e
      · rw [List.getElem?_set_ne hij] at e
        exact e
    exact o.ap j k _ _ a p q (key h1) (key h2)
  ln := by simp [o.ln]
theorem Ok.setO (o : Ok G Γ σ F H) {i : Nat} {a : Addr} {u : HO} {q : Po} (h0 : G.H0 a = none) (hF : F a = none) (hn : a ∉ owns Γ) (hH : H a = some u) (h : q.r u F) : Ok G (Γ.set i (.ow true a q)) (σ.set i (some (.ref a))) F H where
  go := o.go
  en := fun j e he => by
    by_cases hij : i = j
    · subst hij
      have hl : i < Γ.length := by
        have := (List.getElem?_eq_some_iff.mp he).1
        simpa using this
      rw [List.getElem?_set_self hl] at he
      cases he
      exact ⟨List.getElem?_set_self (by rw [o.ln]; exact hl), hF, h0, u, hH, h⟩
    · rw [List.getElem?_set_ne hij] at he ⊢
      exact o.en j e he
  ap := fun j k l1 l2 b p r h1 h2 => by
    have key : ∀ {j : Nat} {l : Bool} {p : Po}, (Γ.set i (.ow true a q))[j]? = some (.ow l b p) → (j = i ∧ b = a) ∨ (j ≠ i ∧ Γ[j]? = some (.ow l b p)) := fun {j l p} e => by
      by_cases hij : i = j
      · subst hij
        have hl : i < Γ.length := by
          have := (List.getElem?_eq_some_iff.mp e).1
          simpa using this
        rw [List.getElem?_set_self hl] at e
        cases e
        exact .inl ⟨rfl, rfl⟩
      · rw [List.getElem?_set_ne hij] at e
        exact .inr ⟨Ne.symm hij, e⟩
    rcases key h1 with ⟨e1, e2⟩ | ⟨e1, e2⟩
    · rcases key h2 with ⟨f1, f2⟩ | ⟨f1, f2⟩
      · rw [e1, f1]
      · exact absurd (mem_owns f2) (by rw [e2]; exact hn)
    · rcases key h2 with ⟨f1, f2⟩ | ⟨f1, f2⟩
      · exact absurd (mem_owns e2) (by rw [f2]; exact hn)
      · exact o.ap j k _ _ b p r e2 f2
  ln := by simp [o.ln]
theorem Ok.put (o : Ok G Γ σ F H) {i : Nat} {l : Bool} {a : Addr} {u : HO} {p q : Po} (hi : Γ[i]? = some (.ow l a p)) (h : q.r u F) : Ok G (Γ.set i (.ow l a q)) σ F (upd H a u) where
  go := by
    obtain ⟨_, h2, h3, w, h4, _⟩ := o.en i _ hi
    exact o.go.trans (Go.put o.le h2 h4) fun x m => by
      rw [List.mem_singleton.mp m]
      exact own_of h3
  en := fun j e he => by
    obtain ⟨k1, k2, k3, w, k4, _⟩ := o.en i _ hi
    by_cases hij : i = j
    · subst hij
      have hl : i < Γ.length := by
        have := (List.getElem?_eq_some_iff.mp he).1
        simpa using this
      rw [List.getElem?_set_self hl] at he
      cases he
      exact ⟨k1, k2, k3, u, upd_same, h⟩
    · rw [List.getElem?_set_ne hij] at he
      have z := o.en j e he
      cases e with
      | un => trivial
      | fz r => exact z
      | ow l b r =>
        obtain ⟨z1, z2, z3, y, z4, z5⟩ := z
        refine ⟨z1, z2, z3, y, ?_, z5⟩
        rw [upd_ne]
        · exact z4
        · rintro rfl
          exact hij (o.ap i j _ _ _ _ _ hi he)
      | lk f h r =>
        refine ⟨z.1, z.2.1, fun b e => z.2.2 b ?_⟩
        by_cases hb : b = a
        · subst hb; rw [upd_same] at e; cases e
        · rw [upd_ne hb] at e; exact e
  ap := fun j k l1 l2 b r s h1 h2 => by
    have key : ∀ {j : Nat} {m : Bool} {r : Po}, (Γ.set i (.ow l a q))[j]? = some (.ow m b r) → ∃ m' r', Γ[j]? = some (.ow m' b r') := fun {j m r} e => by
      by_cases hij : i = j
      · subst hij
        have hl : i < Γ.length := by
          have := (List.getElem?_eq_some_iff.mp e).1
          simpa using this
        rw [List.getElem?_set_self hl] at e
        cases e
        exact ⟨_, p, hi⟩
      · rw [List.getElem?_set_ne hij] at e
        exact ⟨_, r, e⟩
    obtain ⟨_, r1, e1⟩ := key h1
    obtain ⟨_, r2, e2⟩ := key h2
    exact o.ap j k _ _ b r1 r2 e1 e2
  ln := by simp [o.ln]
theorem Ok.frz (o : Ok G Γ σ F H) {i : Nat} {a : Addr} {q : Po} (hi : Γ[i]? = some (.ow true a q)) : ∃ u, H a = some u ∧ q.r u F ∧ Ok G (Γ.set i .un) σ (upd F a u) H := by
  obtain ⟨k1, k2, k3, w, k4, k5⟩ := o.en i _ hi
  have h0 : G.H0 a = none := k3
  have s : Same F (upd F a w) := same_upd k2
  refine ⟨w, k4, k5, ⟨?_, fun j e he => ?_, fun j k l1 l2 b p r h1 h2 => ?_, by simp [o.ln]⟩⟩
  · by_cases hs : Same G.F0 G.H0
    · exact o.go.freeze hs k4 h0
    · refine ⟨fun b x e => s _ _ (o.go.fs _ _ e), fun b x e => ?_, o.go.hs, fun b x e f => ?_, o.go.th⟩
      · by_cases hb : b = a
        · subst hb; rw [upd_same] at e; rw [k4]; exact e
        · rw [upd_ne hb] at e; exact o.go.le _ _ e
      · rw [upd_ne (ne_of_none e h0)]; exact o.go.fr _ _ e f
  · by_cases hij : i = j
    · subst hij
      have hl : i < Γ.length := by
        have := (List.getElem?_eq_some_iff.mp he).1
        simpa using this
      rw [List.getElem?_set_self hl] at he
      cases he
      trivial
    · rw [List.getElem?_set_ne hij] at he
      have z := o.en j e he
      cases e with
      | un => trivial
      | fz r =>
        obtain ⟨v, e1, e2⟩ := z
        exact ⟨v, e1, r.mono s e2⟩
      | ow l b r =>
        obtain ⟨z1, z2, z3, y, z4, z5⟩ := z
        refine ⟨z1, ?_, z3, y, z4, r.mono s z5⟩
        rw [upd_ne]
        · exact z2
        · rintro rfl
          exact hij (o.ap i j _ _ _ _ _ hi he)
      | lk f h r =>
        obtain ⟨⟨v, e1, e2⟩, z⟩ := z
        exact ⟨⟨v, e1, r.mono s e2⟩, z⟩
  · have key : ∀ {j : Nat} {l : Bool} {p : Po}, (Γ.set i .un)[j]? = some (.ow l b p) → Γ[j]? = some (.ow l b p) := fun {j l p} e => by
      by_cases hij : i = j
      · subst hij
        have hl : i < Γ.length := by
          have := (List.getElem?_eq_some_iff.mp e).1
          simpa using this
        rw [List.getElem?_set_self hl] at e
        cases e
      · rw [List.getElem?_set_ne hij] at e
        exact e
    exact o.ap j k _ _ b p r (key h1) (key h2)
end

theorem SqT.ofR {K : PySem.W.Frag} {H : Hp} {a : Addr} {xs : List V} (h : Rd H a (.tup xs)) : SqT K H a xs := .inl h
theorem Rd.mono {H H' : Hp} {a : Addr} {u : HO} (h : Rd H a u) (s : Same H H') : Rd H' a u := by
  rcases h with h | ⟨o, h⟩
  · exact .inl (s _ _ h)
  · exact .inr ⟨o, s _ _ h⟩
def Dt : Nat → Hp → V → PyData → Prop
  | 0, _, _, _ => False
  | n + 1, H, v, d => match d with
    | .none => v = .non
    | .bool b => v = .bl b
    | .int i => v = .int i
    | .str s => v = .str s
    | .list ds => ∃ (a : Addr) (xs : List V), v = .ref a ∧ H a = some (.lst xs) ∧ xs.length = ds.length ∧ ds.length ≤ 1000 ∧ ∀ (i : Nat) (x : V) (e : PyData), xs[i]? = some x → ds[i]? = some e → Dt n H x e
    | .tuple ds => ∃ (a : Addr) (xs : List V), v = .ref a ∧ Rd H a (.tup xs) ∧ xs.length = ds.length ∧ ds.length ≤ 1000 ∧ ∀ (i : Nat) (x : V) (e : PyData), xs[i]? = some x → ds[i]? = some e → Dt n H x e
    | .dict _ => False
section
variable {H H' : Hp}
theorem Dt.mono (s : Same H H') : ∀ {n : Nat} {v : V} {d : PyData}, Dt n H v d → Dt n H' v d
  | 0, _, _, h => h.elim
  | n + 1, v, d, h => by
    cases d with
    | none => exact h
    | bool b => exact h
    | int i => exact h
    | str s => exact h
    | dict kv => exact h
    | list ds =>
      obtain ⟨a, xs, e, ha, hl, hz, r⟩ := h
      exact ⟨a, xs, e, s _ _ ha, hl, hz, fun i x e h1 h2 => Dt.mono s (r i x e h1 h2)⟩
    | tuple ds =>
      obtain ⟨a, xs, e, ha, hl, hz, r⟩ := h
      exact ⟨a, xs, e, Rd.mono ha s, hl, hz, fun i x e h1 h2 => Dt.mono s (r i x e h1 h2)⟩
theorem Dt.up : ∀ {n : Nat} {v : V} {d : PyData}, Dt n H v d → Dt (n + 1) H v d
  | 0, _, _, h => h.elim
  | n + 1, v, d, h => by
    cases d with
    | none => exact h
    | bool b => exact h
    | int i => exact h
    | str s => exact h
    | dict kv => exact h
    | list ds =>
      obtain ⟨a, xs, e, ha, hl, hz, r⟩ := h
      exact ⟨a, xs, e, ha, hl, hz, fun i x e h1 h2 => Dt.up (r i x e h1 h2)⟩
    | tuple ds =>
      obtain ⟨a, xs, e, ha, hl, hz, r⟩ := h
      exact ⟨a, xs, e, ha, hl, hz, fun i x e h1 h2 => Dt.up (r i x e h1 h2)⟩
theorem Dt.le {n m : Nat} (hm : n ≤ m) {v : V} {d : PyData} (h : Dt n H v d) : Dt m H v d := by
  obtain ⟨k, rfl⟩ := Nat.exists_eq_add_of_le hm
  clear hm
  induction k with
  | zero => exact h
  | succ k ih => exact ih.up
end
def rD (d : PyData) : Pr := ⟨fun v F => Dt 8 F v d, fun s h => h.mono s⟩
end RF
namespace RF
open PySem PySem.Spec PyProof.Rows L2 KO SX

@[irreducible] def tE (X : Cx) (e : Expr) : TE := fun σ H Q => ∀ (pins : List (Addr × Obj)) (s : Shared), Inv X pins σ H s → wpAny (model X.prog X.w) X.A (eval e X.env) (EP X pins σ Q) X.xe s
@[irreducible] def tT (X : Cx) (e : Expr) : TT := fun σ H Q => ∀ (pins : List (Addr × Obj)) (s : Shared), Inv X pins σ H s → wpAny (model X.prog X.w) X.A (isTrue e X.env (eval e X.env)) (TP X pins σ Q) X.xe s
@[irreducible] def tW (X : Cx) (e : Expr) : TT := fun σ H Q => ∀ (whole : Sem Value) (pins : List (Addr × Obj)) (s : Shared), Inv X pins σ H s → wpAny (model X.prog X.w) X.A (isTrue e X.env whole) (TP X pins σ Q) X.xe s
@[irreducible] def tAs (X : Cx) (es : List Expr) : TA := fun σ H Q => ∀ (pos : Pos) (pins : List (Addr × Obj)) (s : Shared), Inv X pins σ H s → wpAny (model X.prog X.w) X.A (spliced (backTo pos (starEach es X.env))) (AP X pins σ Q) X.xe s
@[irreducible] def tS (X : Cx) (st : Stmt) : TS := fun D σ H => ∀ (pins : List (Addr × Obj)) (s : Shared), Inv X pins σ H s → wpAny (model X.prog X.w) X.A (exec st X.env) (SP X pins D) X.xe s
@[irreducible] def tSs (X : Cx) (l : List Stmt) : TS := fun D σ H => ∀ (pins : List (Addr × Obj)) (s : Shared), Inv X pins σ H s → wpAny (model X.prog X.w) X.A (execs l X.env) (SP X pins D) X.xe s
section
variable {X : Cx} {e : Expr} {es : List Expr} {st : Stmt} {l : List Stmt}
theorem tE_i {σ : L2.St} {H : Hp} {Q : VK} (h : ∀ (pins : List (Addr × Obj)) (s : Shared), Inv X pins σ H s → wpAny (model X.prog X.w) X.A (eval e X.env) (EP X pins σ Q) X.xe s) : tE X e σ H Q := by unfold tE; exact h
theorem tT_i {σ : L2.St} {H : Hp} {Q : Bool → Hp → Prop} (h : ∀ (pins : List (Addr × Obj)) (s : Shared), Inv X pins σ H s → wpAny (model X.prog X.w) X.A (isTrue e X.env (eval e X.env)) (TP X pins σ Q) X.xe s) : tT X e σ H Q := by unfold tT; exact h
theorem tW_i {σ : L2.St} {H : Hp} {Q : Bool → Hp → Prop} (h : ∀ (whole : Sem Value) (pins : List (Addr × Obj)) (s : Shared), Inv X pins σ H s → wpAny (model X.prog X.w) X.A (isTrue e X.env whole) (TP X pins σ Q) X.xe s) : tW X e σ H Q := by unfold tW; exact h
theorem tAs_i {σ : L2.St} {H : Hp} {Q : List V → Hp → Prop} (h : ∀ (pos : Pos) (pins : List (Addr × Obj)) (s : Shared), Inv X pins σ H s → wpAny (model X.prog X.w) X.A (spliced (backTo pos (starEach es X.env))) (AP X pins σ Q) X.xe s) : tAs X es σ H Q := by unfold tAs; exact h
theorem tSs_i {D : Ends} {σ : L2.St} {H : Hp} (h : ∀ (pins : List (Addr × Obj)) (s : Shared), Inv X pins σ H s → wpAny (model X.prog X.w) X.A (execs l X.env) (SP X pins D) X.xe s) : tSs X l D σ H := by unfold tSs; exact h
theorem peE : PE X e (tE X e) := ⟨fun pins s σ H Q I h => by unfold tE at h; exact h pins s I⟩
theorem ptT : L2.PT X e (tT X e) := ⟨fun pins s σ H Q I h => by unfold tT at h; exact h pins s I⟩
theorem pwW : PW X e (tW X e) := ⟨fun wh pins s σ H Q I h => by unfold tW at h; exact h wh pins s I⟩
theorem paA : PA X es (tAs X es) := ⟨fun pos pins s σ H Q I h => by unfold tAs at h; exact h pos pins s I⟩
theorem pssS : PSs X l (tSs X l) := ⟨fun pins s σ H D I h => by unfold tSs at h; exact h pins s I⟩
end

def del (F : Hp) (a : Addr) : Hp := fun b => if b = a then none else F b
theorem del_ne {F : Hp} {a b : Addr} (h : b ≠ a) : del F a b = F b := if_neg h
theorem del_same {F : Hp} {a : Addr} : del F a a = none := if_pos rfl
theorem del_ok {F : Hp} {a b : Addr} {x : HO} (h : F b = some x) (n : b ≠ a) : del F a b = some x := (del_ne n).trans h
inductive RK (γ : Type) where
  | fz (ρ : γ → Pr)
  | ow (ρ : γ → Po)
  | nw (ρ : γ → Pr)
  | n2 (ρ ρ' : γ → Pr)
  | on (ps : γ → List Pr)
def nwp (h : Hp) (p : Pr) : Pr := ⟨fun v F => p.r v F ∧ ∀ a vs, h a ≠ none → F a = some (.lst vs) → p.r v (del F a), fun {v F F'} s q => ⟨p.mono s q.1, fun a vs n e => by
  cases ea : F a with
  | none => exact p.mono (fun b o e2 => del_ok (s _ _ e2) (by rintro rfl; rw [ea] at e2; cases e2)) q.1
  | some o =>
    have := s _ _ ea
    rw [e] at this
    obtain rfl := Option.some.inj this
    refine p.mono (fun b o e2 => ?_) (q.2 a vs n ea)
    unfold del at e2
    split at e2
    · cases e2
    · rename_i hb; exact del_ok (s _ _ e2) hb⟩⟩
def RK.ok {γ : Type} (k : RK γ) (x : γ) (v : V) (H F' H' : Hp) : Prop :=
  match k with
  | .fz ρ => (ρ x).r v F'
  | .ow ρ => ∃ a u, v = .ref a ∧ H a = none ∧ F' a = none ∧ H' a = some u ∧ (ρ x).r u F'
  | .nw ρ => (nwp H (ρ x)).r v F'
  | .n2 ρ ρ' => (ρ x).r v F' ∧ (nwp H (ρ' x)).r v F'
  | .on ps => ∃ (a : Addr) (vs : List V), v = .ref a ∧ H a = none ∧ F' a = none ∧ H' a = some (.lst vs) ∧ vs.length = (ps x).length ∧ ∀ (i : Nat) (p : Pr) (w : V), (ps x)[i]? = some p → (vs : List V)[i]? = some w → (nwp H p).r w F'
def ErrOk (_K : PySem.W.Frag) (mg : Str → Option Value) (ex : Ex) (cls : Value) (d : Option Addr) (F : Hp) : Prop :=
  ∃ C, mg ex.cls = some (.ref C) ∧ cls = .ref C ∧ ((d = none ∧ ex.fs = []) ∨ ∃ dd fs, d = some dd ∧ F dd = some (.xd fs) ∧ ∀ f y, ex.fs.lookup f = some y → ∃ v, fs.lookup f = some v ∧ Dt 8 F v y)
section
variable {α β γ : Type} (X : Cx) (W : WX) (G : Gf) (Γ : Ctx) (σ : L2.St) (F H : Hp)
def NQ (k : RK γ) (Q : VK) (x : γ) : Prop := ∀ v F' H', Ok G Γ σ F' H' → Go (owns Γ) F H F' H' → k.ok x v H F' H' → Q v H'
def EQ (ex : Ex) : Prop := ∀ cls d F' H', Ok G Γ σ F' H' → Go (owns Γ) F H F' H' → ErrOk X.K X.mg ex cls d F' → W cls d σ H'
end
section
variable {α β γ : Type} (X : Cx) (W : WX) (Γ : Ctx)
def RTE (t : TE) (m : Mo γ) (k : RK γ) : Prop := ∀ G σ F H Q, Ok G Γ σ F H → m.run (NQ G Γ σ F H k Q) (EQ X W G Γ σ F H) → t σ H Q
def RE (e : Expr) (m : Mo γ) (k : RK γ) : Prop := RTE X W Γ (tE X e) m k
def RTT (t : TT) (m : Mo Bool) : Prop := ∀ G σ F H Q, Ok G Γ σ F H → m.run (fun b => ∀ F' H', Ok G Γ σ F' H' → Go (owns Γ) F H F' H' → Q b H') (EQ X W G Γ σ F H) → t σ H Q
def ArEn (F H : Hp) : En → V → Prop
  | .un, _ => True
  | .fz p, v => p.r v F
  | .ow _ a q, v => v = .ref a ∧ F a = none ∧ ∃ u, H a = some u ∧ q.r u F
  | .lk _ _ _, _ => False
def ArgOk (F H : Hp) (p : Ctx) (vs : List V) : Prop := vs.length = p.length ∧ (∀ (i : Nat) (e : En) (v : V), p[i]? = some e → vs[i]? = some v → ArEn F H e v) ∧ ∀ (j : Nat) (l : Bool) (a : Addr) (q : Po), p[j]? = some (.ow l a q) → ∃ (i : Nat) (l' : Bool), Γ[i]? = some (En.ow l' a q)
def RTA (t : TA) (m : Mo β) (p : β → Ctx) : Prop := ∀ G σ F H Q, Ok G Γ σ F H → m.run (fun x => ∀ vs F' H', Ok G Γ σ F' H' → Go (owns Γ) F H F' H' → ArgOk Γ F' H' (p x) vs → Q vs H') (EQ X W G Γ σ F H) → t σ H Q
def ROp (r : R2) (p q : Pr) (m : Mo γ) (k : RK γ) : Prop := ∀ G σ F H Q x y, Ok G Γ σ F H → p.r x F → q.r y F → m.run (NQ G Γ σ F H k Q) (EQ X W G Γ σ F H) → r x y H Q
end
section
variable {α β γ : Type} {X : Cx} {W : WX} {G : Gf} {Γ : Ctx} {σ : L2.St} {F F1 F2 H H1 H2 : Hp} {k : RK γ} {Q : VK} {e a b : Expr} {t ta tb : TE} {m : Mo γ}
theorem RK.ok.back {k : RK γ} {x : γ} {v : V} (h : k.ok x v H1 F2 H2) (g : ∀ b o, H b = some o → ∃ o', H1 b = some o') : k.ok x v H F2 H2 := by
  cases k with
  | fz ρ => exact h
  | ow ρ =>
    obtain ⟨a, u, e, h1, h2⟩ := h
    refine ⟨a, u, e, ?_, h2⟩
    cases q : H a with
    | none => rfl
    | some o => obtain ⟨o', e'⟩ := g _ _ q; rw [h1] at e'; cases e'
  | nw ρ => exact ⟨h.1, fun a vs n e => h.2 a vs (fun z => n (none_th g z)) e⟩
  | n2 ρ ρ' => exact ⟨h.1, h.2.1, fun a vs n e => h.2.2 a vs (fun z => n (none_th g z)) e⟩
  | on ps =>
    obtain ⟨a, vs, e, h1, h2, h3, h4, h5⟩ := h
    exact ⟨a, vs, e, none_th g h1, h2, h3, h4, fun i p w e1 e2 => ⟨(h5 i p w e1 e2).1, fun a vs n e => (h5 i p w e1 e2).2 a vs (fun z => n (none_th g z)) e⟩⟩
theorem owns_tr : ∀ x ∈ owns Γ, x ∈ owns Γ ∨ H x = none := fun _ h => .inl h
theorem NQ.step {x : γ} (g : Go (owns Γ) F H F1 H1) (q : NQ G Γ σ F H k Q x) : NQ G Γ σ F1 H1 k Q x := fun v F' H' o g' z => q v F' H' o (g.trans g' owns_tr) (z.back g.th)
theorem EQ.step {ex : Ex} (g : Go (owns Γ) F H F1 H1) (q : EQ X W G Γ σ F H ex) : EQ X W G Γ σ F1 H1 ex := fun c d F' H' o g' z => q c d F' H' o (g.trans g' owns_tr) z
theorem NQ.here {ρ : γ → Pr} {x : γ} {v : V} (q : NQ G Γ σ F H (.fz ρ) Q x) (o : Ok G Γ σ F H) (h : (ρ x).r v F) : Q v H := q v F H o (Go.refl o.le) h
theorem run_step {m : Mo γ} (g : Go (owns Γ) F H F1 H1) (q : m.run (NQ G Γ σ F H k Q) (EQ X W G Γ σ F H)) : m.run (NQ G Γ σ F1 H1 k Q) (EQ X W G Γ σ F1 H1) := m.mono (fun _ => NQ.step g) (fun _ => EQ.step g) q
theorem re_of (h : PE X e t) (r : RTE X W Γ t m k) : RE X W Γ e m k := fun G σ F H Q o q => tE_i fun pins s I => h.run pins s σ H Q I (r G σ F H Q o q)
theorem Ok.frzNew {a : Addr} {u : HO} (o0 : Ok G Γ σ F H) (o : Ok G Γ σ F1 H1) (g : Go (owns Γ) F H F1 H1) (h0 : H a = none) (hF : F1 a = none) (hH : H1 a = some u) : Ok G Γ σ (upd F1 a u) H1 ∧ Go (owns Γ) F H (upd F1 a u) H1 := by
  have s : Same F1 (upd F1 a u) := same_upd hF
  have g0 : G.H0 a = none := by
    cases q : G.H0 a with
    | none => rfl
    | some y =>
      obtain ⟨o', e'⟩ := o0.go.th _ _ q
      rw [h0] at e'; cases e'
  refine ⟨⟨⟨fun b x e => s _ _ (o.go.fs _ _ e), fun b x e => ?_, o.go.hs, fun b x e f => ?_, o.go.th⟩, fun i e he => ?_, o.ap, o.ln⟩, g.freeze o0.le hH h0⟩
  · by_cases hb : b = a
    · subst hb; rw [upd_same] at e; rw [hH]; exact e
    · rw [upd_ne hb] at e; exact o.go.le _ _ e
  · rw [upd_ne (ne_of_none e g0)]; exact o.go.fr _ _ e f
  · have z := o.en i e he
    cases e with
    | un => trivial
    | fz r =>
      obtain ⟨v, e1, e2⟩ := z
      exact ⟨v, e1, r.mono s e2⟩
    | ow l b r =>
      obtain ⟨z1, z2, z3, y, z4, z5⟩ := z
      refine ⟨z1, ?_, z3, y, z4, r.mono s z5⟩
      rw [upd_ne]
      · exact z2
      · rintro rfl
        obtain ⟨w, hw⟩ := o0.ownH (mem_owns he)
        rw [h0] at hw; cases hw
    | lk f h r =>
      obtain ⟨⟨v, e1, e2⟩, z⟩ := z
      exact ⟨⟨v, e1, r.mono s e2⟩, z⟩
theorem rte_frz {ρ : γ → Po} {ρ' : γ → Pr} (h : RTE X W Γ t m (.ow ρ)) (hc : ∀ x a u F, F a = some u → (ρ x).r u F → (ρ' x).r (.ref a) F) : RTE X W Γ t m (.fz ρ') := fun G σ F H Q o q => by
  refine h G σ F H Q o (m.mono (fun x hx v F' H' o' g' z => ?_) (fun _ z => z) q)
  obtain ⟨a, u, rfl, h1, h2, h3, h4⟩ := z
  obtain ⟨o2, g2⟩ := o.frzNew o' g' h1 h2 h3
  exact hx _ _ _ o2 g2 (hc x a u _ upd_same ((ρ x).mono (same_upd h2) h4))
theorem re_frz {ρ : γ → Po} {ρ' : γ → Pr} (h : RE X W Γ e m (.ow ρ)) (hc : ∀ x a u F, F a = some u → (ρ x).r u F → (ρ' x).r (.ref a) F) : RE X W Γ e m (.fz ρ') := rte_frz h hc
theorem re_map {ρ : γ → Pr} {ρ' : β → Pr} (f : γ → β) (h : RE X W Γ e m (.fz ρ)) (hc : ∀ x v F, (ρ x).r v F → (ρ' (f x)).r v F) : RE X W Γ e (f <$> m) (.fz ρ') := fun G σ F H Q o q =>
  h G σ F H Q o (m.mono (fun x hx v F' H' o' g' z => hx v F' H' o' g' (hc x v F' z)) (fun _ z => z) q)
section
variable {ma : Mo α} {mb : Mo β} {mr : α → β → Mo γ} {ρa : α → Pr} {ρb : β → Pr} {r r' : R2}
theorem rte_two {ta tb : TE} (ha : RTE X W Γ ta ma (.fz ρa)) (hb : RTE X W Γ tb mb (.fz ρb)) (hr : ∀ x y, ROp X W Γ r (ρa x) (ρb y) (mr x y) k) : RTE X W Γ (tOp r ta tb) (ma >>= fun x => mb >>= fun y => mr x y) k := fun G σ F H Q o q => by
  refine ha G σ F H _ o (ma.mono (fun x hx v F' H' o' g' z => ?_) (fun _ z => z) q)
  refine hb G σ F' H' _ o' (mb.mono (fun y hy u F2 H2 o2 g2 z2 => ?_) (fun _ => EQ.step g') hx)
  have g3 := g'.trans g2 owns_tr
  exact hr x y G σ F2 H2 Q v u o2 ((ρa x).mono g2.fs z) z2 (run_step g3 hy)
theorem re_bin {op : Operator} {pos : Pos} (ho : OpR X (binaryOp op) r) (hr : ∀ x y, ROp X W Γ r (ρa x) (ρb y) (mr x y) k) (ha : RE X W Γ a ma (.fz ρa)) (hb : RE X W Γ b mb (.fz ρb)) : RE X W Γ (.BinOp a op b pos) (ma >>= fun x => mb >>= fun y => mr x y) k :=
  re_of (pe_op ho peE peE) (rte_two ha hb hr)
theorem re_ix {pos : Pos} (hi : IxR X r) (hr : ∀ x y, ROp X W Γ r (ρa x) (ρb y) (mr x y) k) (ha : RE X W Γ a ma (.fz ρa)) (hb : RE X W Γ b mb (.fz ρb)) (hs : PlainIx b) : RE X W Γ (.Subscript a b pos) (ma >>= fun x => mb >>= fun y => mr x y) k :=
  re_of (pe_ix hi peE peE hs) (rte_two ha hb hr)
end
section
variable {es : List Expr} {ma : Mo α} {mb : Mo β} {ρ : α → Pr} {p : β → Ctx}
def RA (X : Cx) (W : WX) (Γ : Ctx) (es : List Expr) (m : Mo β) (p : β → Ctx) : Prop := RTA X W Γ (tAs X es) m p
theorem ra_of {ta : TA} (h : PA X es ta) (r : RTA X W Γ ta mb p) : RA X W Γ es mb p := fun G σ F H Q o q => tAs_i fun pos pins s I => h.run pos pins s σ H Q I (r G σ F H Q o q)
theorem ra_nil : RA X W Γ [] (pure ()) (fun _ => []) := ra_of pa_nil fun G σ F H Q o q => q [] F H o (Go.refl o.le) ⟨rfl, fun i e v h => by simp at h, fun i l a q h => by simp at h⟩
theorem ra_cons (ha : RE X W Γ e ma (.fz ρ)) (hb : RA X W Γ es mb p) (hc : starEach (e :: es) X.env = (false, eval e X.env) :: starEach es X.env := by rfl) :
    RA X W Γ (e :: es) (ma >>= fun x => mb >>= fun y => pure (x, y)) (fun z => .fz (ρ z.1) :: p z.2) := by
  refine ra_of (pa_cons (hs := hc) peE paA) fun G σ F H Q o q => ?_
  refine ha G σ F H _ o (ma.mono (fun x hx v F' H' o' g' z => ?_) (fun _ z => z) q)
  refine hb G σ F' H' _ o' (mb.mono (fun y hy vs F2 H2 o2 g2 z2 => ?_) (fun _ => EQ.step g') hx)
  refine hy (v :: vs) F2 H2 o2 (g'.trans g2 owns_tr) ⟨by simp [z2.1], fun i en u h1 h2 => ?_, fun i l a q h => ?_⟩
  · cases i with
    | zero =>
      simp at h1 h2
      subst h1 h2
      exact (ρ x).mono g2.fs z
    | succ i => exact z2.2.1 i en u (by simpa using h1) (by simpa using h2)
  · cases i with
    | zero => simp at h
    | succ i => exact z2.2.2 i l a q (by simpa using h)
theorem ra_own {i : Nat} {l : Bool} {a : Addr} {qo : Po} {x : Str} {pos : Pos} (hi : Γ[i]? = some (.ow l a qo)) (hp : PE X (.Name x pos) (tVar i)) (hb : RA X W Γ es mb p) (hc : starEach (.Name x pos :: es) X.env = (false, eval (.Name x pos) X.env) :: starEach es X.env := by rfl) :
    RA X W Γ (.Name x pos :: es) mb (fun z => .ow false a qo :: p z) := by
  refine ra_of (pa_cons (hs := hc) hp paA) fun G σ F H Q o q => ?_
  refine ⟨.ref a, (o.en i _ hi).1, ?_⟩
  refine hb G σ F H _ o (mb.mono (fun y hy vs F2 H2 o2 g2 z2 => ?_) (fun _ z => z) q)
  refine hy (.ref a :: vs) F2 H2 o2 g2 ⟨by simp [z2.1], fun j en u h1 h2 => ?_, fun j l a q h => ?_⟩
  · cases j with
    | zero =>
      simp at h1 h2
      subst h1 h2
      have z := o2.en i _ hi
      exact ⟨rfl, z.2.1, z.2.2.2⟩
    | succ j => exact z2.2.1 j en u (by simpa using h1) (by simpa using h2)
  · cases j with
    | zero =>
      simp at h
      obtain ⟨h1, h2, h3⟩ := h
      subst h1 h2 h3
      exact ⟨i, _, hi⟩
    | succ j => exact z2.2.2 j l a q (by simpa using h)
end

def rI (i : Int) : Pr := ⟨fun v _ => v = .int i, fun _ h => h⟩
def rB (b : Bool) : Pr := ⟨fun v _ => v = .bl b, fun _ h => h⟩
def rS (s : Str) : Pr := ⟨fun v _ => v = .str s, fun _ h => h⟩
def rN (_ : Unit) : Pr := ⟨fun v _ => v = .non, fun _ h => h⟩
def rO (ρ : α → Pr) : Option α → Pr
  | none => ⟨fun v _ => v = .non, fun _ h => h⟩
  | some x => ρ x
theorem re_var {ρ : α → Pr} {x : α} (i : Nat) {n : Str} {pos : Pos} (hi : Γ[i]? = some (.fz (ρ x))) (hp : PE X (.Name n pos) (tVar i)) : RE X W Γ (.Name n pos) (pure x) (.fz ρ) :=
  re_of hp fun G σ F H Q o q => by
    obtain ⟨v, h1, h2⟩ := o.en i _ hi
    exact ⟨v, h1, NQ.here (ρ := ρ) q o h2⟩
theorem re_con {ρ : α → Pr} {v : V} (x : α) (hp : PE X e (tC v)) (h : ∀ F, (ρ x).r v F) : RE X W Γ e (pure x) (.fz ρ) := re_of hp fun G σ F H Q o q => NQ.here (ρ := ρ) q o (h F)
theorem re_int {i : Int} {j pos} : RE X W Γ (.Constant (.int i) j pos) (pure i) (.fz rI) := re_con i pe_int fun _ => rfl
theorem re_bl {b : Bool} {j pos} : RE X W Γ (.Constant (.bool b) j pos) (pure b) (.fz rB) := re_con b pe_bl fun _ => rfl
theorem re_str {s : Str} {j pos} : RE X W Γ (.Constant (.str s) j pos) (pure s) (.fz rS) := re_con s pe_str fun _ => rfl
theorem re_non {j pos} : RE X W Γ (.Constant .none j pos) (pure ()) (.fz rN) := re_con () pe_non fun _ => rfl
theorem rop_i0 {g : Int → Int → V} {ρ : γ → Pr} {f : Int → Int → γ} (h : ∀ i j F, (ρ (f i j)).r (g i j) F) (i j : Int) : ROp X W Γ (rI0 g) (rI i) (rI j) (pure (f i j)) (.fz ρ) := by
  intro G σ F H Q x y o hx hy q
  obtain rfl : x = .int i := hx
  obtain rfl : y = .int j := hy
  exact ⟨i, j, rfl, rfl, NQ.here (ρ := ρ) q o (h i j F)⟩
def Mo.rq (p : Prop) (a : α) : Mo α := ⟨fun Q _ => p ∧ Q a, fun h _ q => ⟨q.1, h _ q.2⟩⟩
@[simp] theorem Mo.run_rq {p : Prop} {a : α} {Q : α → Prop} {E : Ex → Prop} : (Mo.rq p a).run Q E = (p ∧ Q a) := rfl
theorem rop_i {C : Int → Int → Prop} {g : Int → Int → V} {ρ : γ → Pr} {f : Int → Int → γ} (h : ∀ i j F, (ρ (f i j)).r (g i j) F) (i j : Int) : ROp X W Γ (L2.rI C g) (rI i) (rI j) (Mo.rq (C i j) (f i j)) (.fz ρ) := by
  intro G σ F H Q x y o hx hy q
  obtain rfl : x = .int i := hx
  obtain rfl : y = .int j := hy
  exact ⟨i, j, rfl, rfl, q.1, NQ.here (ρ := ρ) q.2 o (h i j F)⟩
section
variable {ma mb : Mo Int} {pos : Pos}
theorem re_add (ha : RE X W Γ a ma (.fz rI)) (hb : RE X W Γ b mb (.fz rI)) : RE X W Γ (.BinOp a .Add b pos) (ma >>= fun i => mb >>= fun j => pure (i + j)) (.fz rI) := re_bin op_add (rop_i0 fun _ _ _ => rfl) ha hb
theorem re_sub (ha : RE X W Γ a ma (.fz rI)) (hb : RE X W Γ b mb (.fz rI)) : RE X W Γ (.BinOp a .Sub b pos) (ma >>= fun i => mb >>= fun j => pure (i - j)) (.fz rI) := re_bin op_sub (rop_i0 fun _ _ _ => rfl) ha hb
theorem re_mul (ha : RE X W Γ a ma (.fz rI)) (hb : RE X W Γ b mb (.fz rI)) : RE X W Γ (.BinOp a .Mult b pos) (ma >>= fun i => mb >>= fun j => Mo.rq (CMul i j) (i * j)) (.fz rI) := re_bin op_mul (rop_i fun _ _ _ => rfl) ha hb
theorem re_div (ha : RE X W Γ a ma (.fz rI)) (hb : RE X W Γ b mb (.fz rI)) : RE X W Γ (.BinOp a .FloorDiv b pos) (ma >>= fun i => mb >>= fun j => Mo.rq (CDiv i j) (i / j)) (.fz rI) := re_bin op_fdiv (rop_i fun _ _ _ => rfl) ha hb
end
class Sc (ρ : α → Pr) where
  v : α → V
  is : ∀ {x : α} {u : V} {F : Hp}, (ρ x).r u F → u = v x
instance scI : Sc rI := ⟨V.int, fun h => h⟩
instance scB : Sc rB := ⟨V.bl, fun h => h⟩
instance scS : Sc rS := ⟨V.str, fun h => h⟩
instance scN : Sc rN := ⟨fun _ => .non, fun h => h⟩
instance scO {ρ : α → Pr} [s : Sc ρ] : Sc (rO ρ) := ⟨fun o => match o with | none => .non | some x => s.v x, fun {x u F} h => by
  cases x with
  | none => exact h
  | some x => exact s.is h⟩
theorem rop_eq {ρa : α → Pr} {ρb : β → Pr} [sa : Sc ρa] [sb : Sc ρb] (hs : ∀ x y, scal (sa.v x) (sb.v y) = true) (x : α) (y : β) : ROp X W Γ rEq (ρa x) (ρb y) (pure (decide (sa.v x = sb.v y))) (.fz rB) := fun G σ F H Q u w o hu hw q => by
  rw [sa.is hu, sb.is hw]
  exact ⟨hs x y, NQ.here (ρ := rB) q o rfl⟩
theorem rop_ne {ρa : α → Pr} {ρb : β → Pr} [sa : Sc ρa] [sb : Sc ρb] (hs : ∀ x y, scal (sa.v x) (sb.v y) = true) (x : α) (y : β) : ROp X W Γ rNe (ρa x) (ρb y) (pure (!decide (sa.v x = sb.v y))) (.fz rB) := fun G σ F H Q u w o hu hw q => by
  rw [sa.is hu, sb.is hw]
  exact ⟨hs x y, NQ.here (ρ := rB) q o rfl⟩
section
variable {ma : Mo α} {mb : Mo β} {pos : Pos} {ρa : α → Pr} {ρb : β → Pr} [sa : Sc ρa] [sb : Sc ρb]
end
section
variable {ma mb : Mo Int} {pos : Pos}
end
section
variable {ma : Mo (Option α)} {pos : Pos} {ρ : α → Pr} {j : Nat} {p2 : Pos}
end
section
variable {ma mb : Mo Bool} {pos : Pos} {rest : List Expr}
theorem re_not (ha : RE X W Γ a ma (.fz rB)) : RE X W Γ (.UnaryOp .Not a pos) (ma >>= fun c => pure (!c)) (.fz rB) := by
  refine re_of (pe_not peE) fun G σ F H Q o q => ?_
  refine ha G σ F H _ o (ma.mono (fun x hx v F' H' o' g' z => ?_) (fun _ z => z) q)
  exact ⟨x, z, hx _ F' H' o' g' rfl⟩
theorem re_one {op} {ρ : γ → Pr} {m : Mo γ} (ha : RE X W Γ a m (.fz ρ)) : RE X W Γ (.BoolOp op [a] pos) m (.fz ρ) := re_of (pe_one peE) fun G σ F H Q o q => ha G σ F H Q o q
theorem re_and (ha : RE X W Γ a ma (.fz rB)) (hb : RE X W Γ (.BoolOp .And (b :: rest) pos) mb (.fz rB)) : RE X W Γ (.BoolOp .And (a :: b :: rest) pos) (ma >>= fun c => if c then mb else pure false) (.fz rB) := by
  refine re_of (pe_and peE peE) fun G σ F H Q o q => ?_
  refine ha G σ F H _ o (ma.mono (fun x hx v F' H' o' g' z => ?_) (fun _ z => z) q)
  refine ⟨x, z, ?_⟩
  cases x with
  | false => exact iteF (hx _ F' H' o' g' rfl)
  | true => exact iteT (hb G σ F' H' Q o' (run_step g' hx))
end
def RT (X : Cx) (W : WX) (Γ : Ctx) (e : Expr) (m : Mo Bool) : Prop := RTT X W Γ (tT X e) m
def RW (X : Cx) (W : WX) (Γ : Ctx) (e : Expr) (m : Mo Bool) : Prop := RTT X W Γ (tW X e) m
section
variable {ma mb : Mo Bool} {pos : Pos} {rest : List Expr}
theorem rt_of {t : TT} (h : L2.PT X e t) (r : RTT X W Γ t ma) : RT X W Γ e ma := fun G σ F H Q o q => tT_i fun pins s I => h.run pins s σ H Q I (r G σ F H Q o q)
theorem rw_of {t : TT} (h : L2.PW X e t) (r : RTT X W Γ t ma) : RW X W Γ e ma := fun G σ F H Q o q => tW_i fun wh pins s I => h.run wh pins s σ H Q I (r G σ F H Q o q)
theorem rt_val (h : RE X W Γ e ma (.fz rB)) (he : ∀ whole, isTrue e X.env whole = (do let v ← whole; standAt e.pos; holding [v] (truthy v)) := by intro _; rfl) : RT X W Γ e ma :=
  rt_of (pt_val peE he) fun G σ F H Q o q => h G σ F H _ o (ma.mono (fun x hx v F' H' o' g' z => ⟨x, z, hx F' H' o' g'⟩) (fun _ z => z) q)
theorem rt_not (h : RT X W Γ a ma) : RT X W Γ (.UnaryOp .Not a pos) (ma >>= fun c => pure (!c)) :=
  rt_of (pt_not ptT) fun G σ F H Q o q => h G σ F H _ o q
theorem rt_w (h : RW X W Γ e ma) : RT X W Γ e ma := rt_of pwW.pt h
theorem rw_or1 (h : RT X W Γ a ma) : RW X W Γ (.BoolOp .Or [a] pos) ma := rw_of (pw_or1 ptT) h
theorem rw_or (ha : RT X W Γ a ma) (hb : RW X W Γ (.BoolOp .Or (b :: rest) pos) mb) : RW X W Γ (.BoolOp .Or (a :: b :: rest) pos) (ma >>= fun c => if c then pure true else mb) := by
  refine rw_of (pw_or ptT pwW) fun G σ F H Q o q => ?_
  refine ha G σ F H _ o (ma.mono (fun x hx F' H' o' g' => ?_) (fun _ z => z) q)
  cases x with
  | true => exact iteT (hx F' H' o' g')
  | false => exact iteF (hb G σ F' H' Q o' (mb.mono (fun c hc F2 H2 o2 g2 => hc F2 H2 o2 (g'.trans g2 owns_tr)) (fun _ => EQ.step g') hx))
end
end
end RF
namespace RF
open PySem PySem.Spec PyProof.Rows L2 KO SX

def Ps (F : Hp) : List Pr → List V → Prop
  | [], [] => True
  | p :: ps, v :: vs => p.r v F ∧ Ps F ps vs
  | _, _ => False
section
variable {F F' : Hp}
theorem Ps.len : ∀ {ps : List Pr} {vs : List V}, Ps F ps vs → vs.length = ps.length
  | [], [], _ => rfl
  | _ :: _, _ :: _, h => by simp [Ps.len h.2]
  | [], _ :: _, h => h.elim
  | _ :: _, [], h => h.elim
theorem Ps.mono (s : Same F F') : ∀ {ps : List Pr} {vs : List V}, Ps F ps vs → Ps F' ps vs
  | [], [], _ => trivial
  | p :: _, _ :: _, h => ⟨p.mono s h.1, Ps.mono s h.2⟩
  | [], _ :: _, h => h.elim
  | _ :: _, [], h => h.elim
theorem Ps.get : ∀ {ps : List Pr} {vs : List V} {i : Nat} {p : Pr}, Ps F ps vs → ps[i]? = some p → ∃ v, vs[i]? = some v ∧ p.r v F
  | [], [], _, _, _, h => by simp at h
  | q :: ps, v :: vs, 0, p, h, e => by
    simp at e
    subst e
    exact ⟨v, rfl, h.1⟩
  | q :: ps, v :: vs, i + 1, p, h, e => by
    obtain ⟨w, h1, h2⟩ := Ps.get (i := i) h.2 (by simpa using e)
    exact ⟨w, by simpa using h1, h2⟩
  | [], _ :: _, _, _, h, _ => h.elim
  | _ :: _, [], _, _, h, _ => h.elim
theorem Ps.get' {ps : List Pr} {vs : List V} {i : Nat} {v : V} (h : Ps F ps vs) (e : vs[i]? = some v) : ∃ p, ps[i]? = some p ∧ p.r v F := by
  have hi : i < ps.length := by rw [← h.len]; exact (List.getElem?_eq_some_iff.mp e).1
  obtain ⟨w, h1, h2⟩ := h.get (List.getElem?_eq_getElem hi)
  rw [e] at h1
  cases h1
  exact ⟨_, List.getElem?_eq_getElem hi, h2⟩
theorem Ps.at {ps : List Pr} {vs : List V} {i : Int} {p : Pr} (h : Ps F ps vs) (e : atI ps i = some p) : ∃ v, atI vs i = some v ∧ p.r v F := by
  unfold atI at e ⊢
  rw [h.len]
  cases q : ixN ps.length i with
  | none => rw [q] at e; cases e
  | some j =>
    rw [q] at e
    exact h.get (show ps[j]? = some p from e)
theorem Ps.app : ∀ {ps qs : List Pr} {vs us : List V}, Ps F ps vs → Ps F qs us → Ps F (ps ++ qs) (vs ++ us)
  | [], _, [], _, _, h => h
  | _ :: _, _, _ :: _, _, h, k => ⟨h.1, Ps.app h.2 k⟩
  | [], _, _ :: _, _, h, _ => h.elim
  | _ :: _, _, [], _, h, _ => h.elim
theorem Ps.take : ∀ {ps : List Pr} {vs : List V} (n : Nat), Ps F ps vs → Ps F (ps.take n) (vs.take n)
  | _, _, 0, _ => by simp [Ps]
  | [], [], _ + 1, _ => trivial
  | _ :: _, _ :: _, n + 1, h => ⟨h.1, Ps.take n h.2⟩
  | [], _ :: _, _, h => h.elim
  | _ :: _, [], _, h => h.elim
theorem Ps.drop : ∀ {ps : List Pr} {vs : List V} (n : Nat), Ps F ps vs → Ps F (ps.drop n) (vs.drop n)
  | _, _, 0, h => h
  | [], [], _ + 1, _ => trivial
  | _ :: _, _ :: _, n + 1, h => Ps.drop n h.2
  | [], _ :: _, _, h => h.elim
  | _ :: _, [], _, h => h.elim
theorem Ps.set : ∀ {ps : List Pr} {vs : List V} {p : Pr} {v : V} (n : Nat), Ps F ps vs → p.r v F → Ps F (ps.set n p) (vs.set n v)
  | [], [], _, _, _, _, _ => trivial
  | _ :: _, _ :: _, _, _, 0, h, k => ⟨k, h.2⟩
  | _ :: _, _ :: _, _, _, n + 1, h, k => ⟨h.1, Ps.set n h.2 k⟩
  | [], _ :: _, _, _, _, h, _ => h.elim
  | _ :: _, [], _, _, _, h, _ => h.elim
theorem Ps.sc {α : Type} {ρ : α → Pr} [s : Sc ρ] : ∀ {xs : List α} {vs : List V}, Ps F (xs.map ρ) vs → vs = xs.map s.v
  | [], [], _ => rfl
  | _ :: _, _ :: _, h => by rw [List.map_cons, ← s.is h.1, ← Ps.sc h.2]
  | [], _ :: _, h => h.elim
  | _ :: _, [], h => h.elim
end
def oLu (ps : List Pr) : Po := ⟨fun o F => ∃ vs, o = .lst vs ∧ Ps F ps vs, fun s ⟨vs, e, h⟩ => ⟨vs, e, h.mono s⟩⟩
def rLu (ps : List Pr) : Pr := ⟨fun v F => ∃ a vs, v = .ref a ∧ F a = some (.lst vs) ∧ Ps F ps vs, fun s ⟨a, vs, e, h, k⟩ => ⟨a, vs, e, s _ _ h, k.mono s⟩⟩
def rTu (ps : List Pr) : Pr := ⟨fun v F => ∃ a vs, v = .ref a ∧ Rd F a (.tup vs) ∧ Ps F ps vs, fun s ⟨a, vs, e, h, k⟩ => ⟨a, vs, e, Rd.mono h s, k.mono s⟩⟩
section
variable {α β γ δ ε ζ : Type}
def oL (ρ : α → Pr) (xs : List α) : Po := oLu (xs.map ρ)
def rL (ρ : α → Pr) (xs : List α) : Pr := rLu (xs.map ρ)
def rTs (ρ : α → Pr) (xs : List α) : Pr := rTu (xs.map ρ)
def rT1 (ρ : α → Pr) (x : α) : Pr := rTu [ρ x]
def rT2 (ρ : α → Pr) (σ : β → Pr) (x : α × β) : Pr := rTu [ρ x.1, σ x.2]
def rT3 (ρ : α → Pr) (σ : β → Pr) (τ : γ → Pr) (x : α × β × γ) : Pr := rTu [ρ x.1, σ x.2.1, τ x.2.2]
def rT4 (ρ : α → Pr) (σ : β → Pr) (τ : γ → Pr) (υ : δ → Pr) (x : α × β × γ × δ) : Pr := rTu [ρ x.1, σ x.2.1, τ x.2.2.1, υ x.2.2.2]
def rT5 (ρ : α → Pr) (σ : β → Pr) (τ : γ → Pr) (υ : δ → Pr) (φ : ε → Pr) (x : α × β × γ × δ × ε) : Pr := rTu [ρ x.1, σ x.2.1, τ x.2.2.1, υ x.2.2.2.1, φ x.2.2.2.2]
theorem frz_L {ρ : α → Pr} (xs : List α) (a : Addr) (u : HO) (F : Hp) (h : F a = some u) (k : (oL ρ xs).r u F) : (rL ρ xs).r (.ref a) F := by
  obtain ⟨vs, rfl, k⟩ := k
  exact ⟨a, vs, rfl, h, k⟩
theorem atI_map {f : α → β} {xs : List α} {i : Int} : atI (xs.map f) i = (atI xs i).map f := by
  unfold atI
  rw [List.length_map]
  cases ixN xs.length i with
  | none => rfl
  | some j => simp
end
section
variable {α β γ : Type} {X : Cx} {W : WX} {Γ : Ctx} {e a b : Expr} {es : List Expr} {pos : Pos} {m : Mo β}
theorem Ok.new {G : Gf} {σ : L2.St} {F H : Hp} {d : Addr} {u : HO} (o : Ok G Γ σ F H) (hd : H d = none) : Ok G Γ σ (upd F d u) (upd H d u) ∧ Go (owns Γ) F H (upd F d u) (upd H d u) :=
  ⟨o.move (M := []) (Go.new o.le hd) (fun _ h => by simp at h), Go.new o.le hd⟩
theorem Ok.newO {G : Gf} {σ : L2.St} {F H : Hp} {d : Addr} {u : HO} (o : Ok G Γ σ F H) (hd : H d = none) : Ok G Γ σ F (upd H d u) ∧ Go (owns Γ) F H F (upd H d u) :=
  ⟨o.move (M := []) (Go.newO o.le hd) (fun _ h => by simp at h), Go.newO o.le hd⟩
theorem ArgOk.ps {F H : Hp} : ∀ {ps : List Pr} {vs : List V}, ArgOk Γ F H (ps.map .fz) vs → Ps F ps vs
  | [], [], _ => trivial
  | p :: ps, v :: vs, h => ⟨h.2.1 0 (.fz p) v rfl rfl, ArgOk.ps ⟨by simpa using h.1, fun i en u h2 h3 => h.2.1 (i + 1) en u (by simpa using h2) (by simpa using h3), fun j l a q h2 => h.2.2 (j + 1) l a q (by simpa using h2)⟩⟩
  | [], _ :: _, h => absurd h.1 (by simp)
  | _ :: _, [], h => absurd h.1 (by simp)
theorem re_tup {x1} {p : β → Ctx} (f : β → γ) (ρ : γ → Pr) (ps : β → List Pr) (ha : RA X W Γ es m p) (hp : ∀ y, p y = (ps y).map .fz := by intro _; rfl) (hρ : ∀ y, ρ (f y) = rTu (ps y) := by intro _; rfl) (hl : ∀ y, (ps y).length ≤ sizeLine := by intro _; simp [sizeLine_eq]) :
    RE X W Γ (.Tuple es x1 pos) (m >>= fun y => pure (f y)) (.fz ρ) := by
  refine re_of (pe_tup paA) fun G σ F H Q o q => ?_
  refine ha G σ F H _ o (m.mono (fun y hy vs F' H' o' g' z => ?_) (fun _ z => z) q)
  rw [hp y] at z
  have k := z.ps
  refine ⟨by rw [k.len]; exact hl y, fun d hd => ?_⟩
  obtain ⟨o2, g2⟩ := o'.new (u := .tup vs) hd
  refine hy _ _ _ o2 (g'.trans g2 owns_tr) ?_
  show (ρ (f y)).r _ _
  rw [hρ y]
  exact ⟨d, vs, rfl, .inl upd_same, k.mono g2.fs⟩
theorem NQ.own {k : γ → Po} {G : Gf} {σ : L2.St} {F H F1 H1 : Hp} {Q : VK} {x : γ} {d : Addr} {u : HO} (q : NQ G Γ σ F H (.ow k) Q x) (o : Ok G Γ σ F1 H1) (g : Go (owns Γ) F H F1 H1) (hd : H1 d = none) (h : (k x).r u F1) : Q (.ref d) (upd H1 d u) := by
  obtain ⟨o2, g2⟩ := o.newO (u := u) hd
  have hf : ∀ {A B : Hp}, Same A B → B d = none → A d = none := fun s e => s.free e
  refine q _ _ _ o2 (g.trans g2 owns_tr) ⟨d, u, rfl, ?_, o.le.free hd, upd_same, h⟩
  cases e : H d with
  | none => rfl
  | some y =>
    obtain ⟨y', e'⟩ := g.th _ _ e
    rw [hd] at e'; cases e'
theorem NQ.ownF {k : γ → Pr} {G : Gf} {σ : L2.St} {F H F1 H1 : Hp} {Q : VK} {x : γ} {d : Addr} {u : HO} (q : NQ G Γ σ F H (.fz k) Q x) (o : Ok G Γ σ F1 H1) (g : Go (owns Γ) F H F1 H1) (hd : H1 d = none) (h : (k x).r (.ref d) (upd F1 d u)) : Q (.ref d) (upd H1 d u) := by
  obtain ⟨o2, g2⟩ := o.new (u := u) hd
  exact q _ _ _ o2 (g.trans g2 owns_tr) h
theorem re_lst {p : β → Ctx} (f : β → List γ) (ρ : γ → Pr) (ha : RA X W Γ es m p) (hp : ∀ y, p y = ((f y).map ρ).map .fz := by intro _; rfl) (hl : ∀ y, ((f y).map ρ).length ≤ sizeLine := by intro _; simp [sizeLine_eq]) :
    RE X W Γ (.List es pos) (m >>= fun y => pure (f y)) (.ow (oL ρ)) := by
  refine re_of (pe_lst paA) fun G σ F H Q o q => ?_
  refine ha G σ F H _ o (m.mono (fun y hy vs F' H' o' g' z => ?_) (fun _ z => z) q)
  rw [hp y] at z
  have k := z.ps
  exact ⟨by rw [k.len]; exact hl y, fun d hd => hy.own o' g' hd ⟨vs, rfl, k⟩⟩
section
variable {ma : Mo (List γ)} {mb : Mo Int} {ρ : γ → Pr} {α : Type} {mt : Mo α} {ρt : α → Pr}
theorem rop_ixL (hK : True) (xs : List γ) (i : Int) : ROp X W Γ (rIxL X.K) (rL ρ xs) (rI i) (Mo.get (atI xs i)) (.fz ρ) := by
  intro G σ F H Q x y o hx hy q
  obtain ⟨a, vs, rfl, h1, h2⟩ := hx
  obtain rfl : y = .int i := hy
  obtain ⟨z, hz, q⟩ := q
  obtain ⟨v, hv, hr⟩ := h2.at (i := i) (p := ρ z) (by rw [atI_map, hz]; rfl)
  exact ⟨a, vs, i, v, rfl, rfl, SqL.of (o.le _ _ h1), hv, NQ.here (ρ := ρ) q o hr⟩
theorem re_ixL (ha : RE X W Γ a ma (.fz (rL ρ))) (hb : RE X W Γ b mb (.fz rI)) (hs : PlainIx b := by exact fun _ _ => rfl) : RE X W Γ (.Subscript a b pos) (ma >>= fun xs => mb >>= fun i => Mo.get (atI xs i)) (.fz ρ) := re_ix ix_list (rop_ixL trivial) ha hb hs
theorem re_at {g : α → γ} (ps : α → List Pr) (c : Int) (ha : RE X W Γ a mt (.fz ρt)) (hρ : ∀ x, ρt x = rTu (ps x) := by intro _; rfl) (hc : RE X W Γ b (pure c) (.fz rI)) (hg : ∀ x, atI (ps x) c = some (ρ (g x)) := by intro _; rfl) (hs : PlainIx b := by exact fun _ _ => rfl) : RE X W Γ (.Subscript a b pos) (mt >>= fun x => pure (g x)) (.fz ρ) := by
  refine re_of (pe_ix ix_tup peE peE hs) fun G σ F H Q o q => ?_
  refine ha G σ F H _ o (mt.mono (fun y hy v F' H' o' g' z => ?_) (fun _ z => z) q)
  have z : (ρt y).r v F' := z
  rw [hρ y] at z
  obtain ⟨t, vs, rfl, h1, h2⟩ := z
  obtain ⟨v, hv, hr⟩ := h2.at (hg y)
  refine hc G σ F' H' _ o' fun w F2 H2 o2 g2 e => ?_
  obtain rfl : w = .int c := e
  exact ⟨t, vs, c, v, rfl, rfl, SqT.ofR (Rd.mono h1 (g2.fs.trans o2.le)), hv, hy v F2 H2 o2 (g'.trans g2 owns_tr) ((ρ _).mono g2.fs hr)⟩
end
section
variable {ρ : γ → Pr} {i : Nat} {l : Bool} {ad : Addr} {xs : List γ} {mb : Mo Int} {x : Str} {p2 : Pos}
theorem re_ixO (hi : Γ[i]? = some (.ow l ad (oL ρ xs))) (hp : PE X (.Name x p2) (tVar i)) (hb : RE X W Γ b mb (.fz rI)) (hs : PlainIx b := by exact fun _ _ => rfl) : RE X W Γ (.Subscript (.Name x p2) b pos) (mb >>= fun i => Mo.get (atI xs i)) (.fz ρ) := by
  refine re_of (pe_ix ix_list hp peE hs) fun G σ F H Q o q => ?_
  refine ⟨.ref ad, (o.en i _ hi).1, ?_⟩
  refine hb G σ F H _ o (mb.mono (fun j hy v F' H' o' g' z => ?_) (fun _ z => z) q)
  obtain rfl : v = .int j := z
  obtain ⟨_, _, _, u, hu, vs, rfl, hps⟩ := o'.en i _ hi
  obtain ⟨z, hz, hy⟩ := hy
  obtain ⟨v, hv, hr⟩ := hps.at (i := j) (p := ρ z) (by rw [atI_map, hz]; rfl)
  exact ⟨ad, vs, j, v, rfl, rfl, SqL.of hu, hv, hy v F' H' o' g' hr⟩
end
section
variable {lo hi : Option Expr} {ml mh : Mo (Option Int)} {ma : Mo (List γ)} {ρ : γ → Pr} {p2 : Pos}
def tP (X : Cx) (e : Option Expr) : TO := fun σ H Q => ∀ (pins : List (Addr × Obj)) (s : Shared), Inv X pins σ H s → wpAny (model X.prog X.w) X.A (evalPart e X.env) (fun u s' => ∃ o H', Inv X pins σ H' s' ∧ IsPart u o ∧ Q o H') X.xe s
theorem poP {e : Option Expr} : PO X e (tP X e) := ⟨fun pins s σ H Q I h => h pins s I⟩
def RP (X : Cx) (W : WX) (Γ : Ctx) (e : Option Expr) (m : Mo (Option Int)) : Prop := ∀ G σ F H Q, Ok G Γ σ F H → m.run (fun x => ∀ F' H', Ok G Γ σ F' H' → Go (owns Γ) F H F' H' → Q x H') (EQ X W G Γ σ F H) → tP X e σ H Q
theorem rp_none : RP X W Γ none (pure none) := fun G σ F H Q o q pins s I => po_none.run pins s σ H Q I (q F H o (Go.refl o.le))
theorem rp_some {m : Mo Int} (h : RE X W Γ e m (.fz rI)) : RP X W Γ (some e) (m >>= fun i => pure (some i)) := fun G σ F H Q o q pins s I =>
  (po_some peE).run pins s σ H Q I (h G σ F H _ o (m.mono (fun x hx v F' H' o' g' z => ⟨x, z, hx F' H' o' g'⟩) (fun _ z => z) q))
end
section
variable {ma mb : Mo (List γ)} {ρ : γ → Pr}
theorem re_cat (ha : RE X W Γ a ma (.fz (rL ρ))) (hb : RE X W Γ b mb (.fz (rL ρ))) : RE X W Γ (.BinOp a .Add b pos) (ma >>= fun xs => mb >>= fun ys => Mo.rq (xs.length + ys.length ≤ sizeLine) (xs ++ ys)) (.ow (oL ρ)) :=
  re_bin op_cat (fun xs ys G σ F H Q x y o hx hy q => by
    obtain ⟨a, vs, rfl, h1, h2⟩ := hx
    obtain ⟨b, us, rfl, k1, k2⟩ := hy
    refine ⟨a, b, vs, us, rfl, rfl, o.le _ _ h1, o.le _ _ k1, by rw [h2.len, k2.len, List.length_map, List.length_map]; exact q.1, fun d hd => NQ.own q.2 o (Go.refl o.le) hd ⟨_, rfl, ?_⟩⟩
    rw [List.map_append]
    exact h2.app k2) ha hb
end
def SqAt (k : Bool) (F H : Hp) (a : Addr) (vs : List V) : Prop := if k = true then H a = some (.lst vs) else Rd F a (.tup vs)
def RSq (X : Cx) (W : WX) (Γ : Ctx) (k : Bool) (e : Expr) (m : Mo (List γ)) (ρ : γ → Pr) : Prop :=
  ∀ G σ F H Q, Ok G Γ σ F H → m.run (fun xs => ∀ a vs F' H', Ok G Γ σ F' H' → Go (owns Γ) F H F' H' → SqAt k F' H' a vs → Ps F' (xs.map ρ) vs → Q (.ref a) H') (EQ X W G Γ σ F H) → tE X e σ H Q
section
variable {m : Mo (List γ)} {ρ : γ → Pr} {k : Bool}
theorem SqAt.or {K : PySem.W.Frag} {F H : Hp} {a : Addr} {vs : List V} (h : SqAt k F H a vs) (s : Same F H) : SqL K H a vs ∨ SqT K H a vs := by
  cases k with
  | true => exact .inl (SqL.of h)
  | false => exact .inr (SqT.ofR (Rd.mono h s))
theorem rsq_L (h : RE X W Γ e m (.fz (rL ρ))) : RSq X W Γ true e m ρ := fun G σ F H Q o q =>
  h G σ F H Q o (m.mono (fun xs hx v F' H' o' g' z => by
    obtain ⟨a, vs, rfl, h1, h2⟩ := z
    exact hx a vs F' H' o' g' (o'.le _ _ h1) h2) (fun _ z => z) q)
theorem rsq_O {i : Nat} {l : Bool} {ad : Addr} {xs : List γ} {x : Str} (hi : Γ[i]? = some (.ow l ad (oL ρ xs))) (hp : PE X (.Name x pos) (tVar i)) : RSq X W Γ true (.Name x pos) (pure xs) ρ := fun G σ F H Q o q => by
  refine tE_i fun pins s I => ?_
  obtain ⟨h1, _, _, u, hu, vs, rfl, hps⟩ := o.en i _ hi
  exact hp.run pins s σ H Q I ⟨.ref ad, h1, q ad vs F H o (Go.refl o.le) hu hps⟩
theorem rsq_F (h : RE X W Γ e m (.ow (oL ρ))) : RSq X W Γ true e m ρ := rsq_L (re_frz h frz_L)
theorem re_bi1 {id : String} {r : List V → Hp → VK → Prop} {x : Str} {p : Pos} {mr : List γ → Mo β} {kr : RK β} (hc : CallR X (.builtin id) r) (hr : ∀ xs G σ F H Q a vs, Ok G Γ σ F H → SqAt k F H a vs → Ps F (xs.map ρ) vs → (mr xs).run (NQ G Γ σ F H kr Q) (EQ X W G Γ σ F H) → r [.ref a] H Q) (h : RSq X W Γ k e m ρ)
    (hg : Gl X x) (hm : X.mg x = none) (hv : bootBuiltins x = some (.builtin id)) (hn : x ≠ "__name__" := by decide) (hdb : (x == ("__debug__" : Str)) = false := by decide) (he : starEach [e] X.env = [(false, eval e X.env)] := by rfl) :
    RE X W Γ (.Call (.Name x p) [e] [] pos) (m >>= mr) kr := by
  refine re_of (pe_callB hc hg hm hv (pa_cons peE pa_nil he) hn hdb he rfl) fun G σ F H Q o q => ?_
  refine h G σ F H _ o (m.mono (fun xs hx a vs F' H' o' g' z1 z2 => ?_) (fun _ z => z) q)
  exact hr xs G σ F' H' Q a vs o' z1 z2 (run_step g' hx)
theorem re_ty1 {T : String} {r : List V → Hp → VK → Prop} {x : Str} {p : Pos} {mr : List γ → Mo β} {kr : RK β} (hc : CallR X (.type T) r) (hr : ∀ xs G σ F H Q a vs, Ok G Γ σ F H → SqAt k F H a vs → Ps F (xs.map ρ) vs → (mr xs).run (NQ G Γ σ F H kr Q) (EQ X W G Γ σ F H) → r [.ref a] H Q) (h : RSq X W Γ k e m ρ)
    (hg : Gl X x) (hm : X.mg x = none) (hv : bootBuiltins x = some (.type T)) (hn : x ≠ "__name__" := by decide) (hdb : (x == ("__debug__" : Str)) = false := by decide) (he : starEach [e] X.env = [(false, eval e X.env)] := by rfl) :
    RE X W Γ (.Call (.Name x p) [e] [] pos) (m >>= mr) kr := by
  refine re_of (pe_callTy hc hg hm hv (pa_cons peE pa_nil he) hn hdb he rfl) fun G σ F H Q o q => ?_
  refine h G σ F H _ o (m.mono (fun xs hx a vs F' H' o' g' z1 z2 => ?_) (fun _ z => z) q)
  exact hr xs G σ F' H' Q a vs o' z1 z2 (run_step g' hx)
section
variable {p : Pos}
theorem re_len (h : RSq X W Γ k e m ρ) (hm : X.mg "len" = none) (hg : Gl X "len" := by rfl) (he : starEach [e] X.env = [(false, eval e X.env)] := by rfl) : RE X W Γ (.Call (.Name "len" p) [e] [] pos) (m >>= fun xs => pure (xs.length : Int)) (.fz rI) :=
  re_bi1 call_len_seq (fun xs G σ F H Q a vs o z1 z2 q => ⟨a, vs, rfl, z1.or o.le, by have := NQ.here (ρ := rI) q o rfl; rw [z2.len, List.length_map]; exact this⟩) h hg hm (by decide +kernel) (he := he)
theorem re_tuple (h : RSq X W Γ k e m ρ) (hm : X.mg "tuple" = none) (hg : Gl X "tuple" := by rfl) (he : starEach [e] X.env = [(false, eval e X.env)] := by rfl) : RE X W Γ (.Call (.Name "tuple" p) [e] [] pos) (m >>= fun xs => pure xs) (.fz (rTs ρ)) :=
  re_ty1 call_tuple_of (fun xs G σ F H Q a vs o z1 z2 q => by
    cases k with
    | true => exact ⟨a, vs, rfl, .inl ⟨SqL.of z1, fun d hd => NQ.ownF q o (Go.refl o.le) hd ⟨d, vs, rfl, .inl upd_same, z2.mono (same_upd (o.le.free hd))⟩⟩⟩
    | false => exact ⟨a, vs, rfl, .inr ⟨SqT.ofR (Rd.mono z1 o.le), NQ.here (ρ := rTs ρ) q o ⟨a, vs, rfl, z1, z2⟩⟩⟩) h hg hm (by decide +kernel) (he := he)
end
end
section
variable {p : Pos} {mi : Mo (List Int)} {k : Bool}
variable {mb : Mo (List Bool)}
end
section
variable {mi mj : Mo Int} {mb : Mo Bool} {p : Pos}
end
section
variable {γ : Type} {ma : Mo γ} {mb : Mo (List γ)} {ρ : γ → Pr} [s : Sc ρ] {k : Bool}
end
theorem eqV_str (i j : Str) : eqV (.str i) (.str j) = decide (V.str i = V.str j) := dec_str.symm
theorem anyS (i : Str) (xs : List Str) : (xs.any fun y => decide (V.str y = V.str i)) = decide (i ∈ xs) := by
  rw [Bool.eq_iff_iff]
  simp
section
variable {mi : Mo Int} {ms : Mo Str} {mis : Mo (List Int)} {mss : Mo (List Str)} {k : Bool}
end
end
end RF
namespace RF
open PySem PySem.Spec PyProof.Rows L2 KO SX

inductive Fin where
  | ret (R : V → Hp → Hp → Hp → Prop)
  | nx (Γ : Ctx)
  | nxa (Γ : (Nat → Addr) → Ctx)
  | bk (Γ : Ctx)
  | nc (Γ : Ctx)
def FinOk (G : Gf) (Γe : Ctx) (D : Ends) (F0 : Hp) : Fin → Prop
  | .ret R => ∀ v σ F H, Same G.F0 F → Ok G Γe σ F H → R v G.H0 F H → D.rt v H
  | .nx Γ => ∀ σ F H, Same G.F0 F → Ok G Γ σ F H → D.nx σ H
  | .nxa Γ => ∀ f σ F H, Same G.F0 F → Ok G (Γ f) σ F H → D.nx σ H
  | .bk Γ => ∀ σ F H, Same G.F0 F → Ok G Γ σ F H → D.bk σ H
  | .nc Γ => ∀ σ F H, Same G.F0 F → Ok G Γ σ F H → D.nx σ H ∧ D.ct σ H
theorem FinOk.step {G : Gf} {Γe : Ctx} {D : Ends} {F0 F1 : Hp} {z : Fin} (q : FinOk G Γe D F0 z) : FinOk G Γe D F1 z := by
  cases z <;> exact q
def XQ (X : Cx) (W : WX) (G : Gf) (Γe : Ctx) (F0 : Hp) (ex : Ex) : Prop := ∀ cls d σ F H, Same G.F0 F → Ok G Γe σ F H → ErrOk X.K X.mg ex cls d F → W cls d σ H
theorem XQ.step {X : Cx} {W : WX} {G : Gf} {Γe : Ctx} {F0 F1 : Hp} {ex : Ex} (_s : Same F0 F1) (q : XQ X W G Γe F0 ex) : XQ X W G Γe F1 ex := q
theorem XQ.any {X : Cx} {W : WX} {G : Gf} {Γe : Ctx} {F0 F1 : Hp} {ex : Ex} (q : XQ X W G Γe F0 ex) : XQ X W G Γe F1 ex := q
section
variable {α β γ δ : Type}
def RB (X : Cx) (W : WX) (Γe : Ctx) (lv : Bool) (Γ : Ctx) (l : List Stmt) (m : Mo γ) (Z : γ → Fin) : Prop :=
  Le Γe Γ → ∀ G σ F H (D : Ends) (nx' : L2.St → Hp → Prop), (lv = false → nx' = D.nx) → Ok G Γ σ F H → m.run (fun x => FinOk G Γe D F (Z x)) (XQ X W G Γe F) → tSs X l { D with nx := nx' } σ H
variable {X : Cx} {W : WX} {Γe Γ Γ' : Ctx} {lv : Bool} {st : Stmt} {rest : List Stmt} {m : Mo γ} {Z : γ → Fin} {t : TE} {e : Expr} {pos : Pos}
theorem run_fin {G : Gf} {D : Ends} {F F1 : Hp} {m : Mo γ} (_s : Same F F1) (q : m.run (fun x => FinOk G Γe D F (Z x)) (XQ X W G Γe F)) : m.run (fun x => FinOk G Γe D F1 (Z x)) (XQ X W G Γe F1) := m.mono (fun _ => FinOk.step) (fun _ => XQ.any) q
theorem run_any {G : Gf} {D : Ends} {F F1 : Hp} {m : Mo γ} (q : m.run (fun x => FinOk G Γe D F (Z x)) (XQ X W G Γe F)) : m.run (fun x => FinOk G Γe D F1 (Z x)) (XQ X W G Γe F1) := m.mono (fun _ => FinOk.step) (fun _ => XQ.any) q
theorem XQ.eq {G : Gf} {σ : L2.St} {F H : Hp} {ex : Ex} (le : Le Γe Γ) (q : XQ X W G Γe F ex) : EQ X W G Γ σ F H ex := fun c d F' H' o g z => q c d σ F' H' o.go.fs (o.weak le) z
theorem rb_nil {x : γ} (hz : Z x = .nx Γ' ∨ Z x = .nc Γ') (hl : Le Γ' Γ) : RB X W Γe false Γ [] (pure x) Z := fun le G σ F H D nx' hn o q => by
  obtain rfl := hn rfl
  refine tSs_i fun pins s I => pss_nil.run pins s σ H _ I ?_
  have q : FinOk G Γe D F (Z x) := q
  rcases hz with hz | hz
  · rw [hz] at q; exact q σ F H o.go.fs (o.weak hl)
  · rw [hz] at q; exact (q σ F H o.go.fs (o.weak hl)).1
theorem tSs_cons {t : TS} {D : Ends} {σ : L2.St} {H : Hp} (h : PS X st t) (q : t { D with nx := tSs X rest D } σ H) : tSs X (st :: rest) D σ H := by
  unfold tSs
  exact fun pins s I => (pss_cons h pssS).run pins s σ H D I q
theorem rb_set {i : Nat} {me : Mo α} {ρ : α → Pr} {mr : α → Mo γ} (hs : PS X st (tAsg t (gName i))) (he : RTE X W Γ t me (.fz ρ)) (hi : Γe[i]? = some .un) (hr : ∀ x, RB X W Γe lv (Γ.set i (.fz (ρ x))) rest (mr x) Z) : RB X W Γe lv Γ (st :: rest) (me >>= mr) Z := fun le G σ F H D nx' hn o q =>
  tSs_cons hs (he G σ F H _ o (me.mono (fun x hx v F' H' o' g' z => hr x (le.set hi) G _ F' H' D nx' hn (o'.set z) (run_fin g'.fs hx)) (fun _ => XQ.eq le) q))
theorem rb_setO {i : Nat} {me : Mo α} {ρ : α → Po} {mr : α → Mo γ} (hs : PS X st (tAsg t (gName i))) (he : RTE X W Γ t me (.ow ρ)) (hi : Γe[i]? = some .un) (hr : ∀ x a, RB X W Γe lv (Γ.set i (.ow true a (ρ x))) rest (mr x) Z) : RB X W Γe lv Γ (st :: rest) (me >>= mr) Z := fun le G σ F H D nx' hn o q =>
  tSs_cons hs (he G σ F H _ o (me.mono (fun x hx v F' H' o' g' z => by
    obtain ⟨a, u, rfl, h1, h2, h3, h4⟩ := z
    refine hr x a (le.set hi) G _ F' H' D nx' hn (o'.setO ?_ h2 (fun hm => ?_) h3 h4) (run_fin g'.fs hx)
    · cases q : G.H0 a with
      | none => rfl
      | some y =>
        obtain ⟨y', e'⟩ := o.go.th _ _ q
        rw [h1] at e'; cases e'
    · obtain ⟨w, hw⟩ := o.ownH hm
      rw [h1] at hw; cases hw) (fun _ => XQ.eq le) q))
theorem rb_weak (hl : Le Γ' Γ) (he : Le Γe Γ') (hr : RB X W Γe lv Γ' rest m Z) : RB X W Γe lv Γ rest m Z := fun _ G σ F H D nx' hn o r => hr he G σ F H D nx' hn (o.weak hl) r
theorem rb_ret {me : Mo α} {k : RK α} (kx : α → γ) (he : RE X W Γ e me k) (hz : ∀ x, Z (kx x) = .ret (k.ok x)) : RB X W Γe lv Γ (.Return (some e) pos :: rest) (me >>= fun x => pure (kx x)) Z := fun le G σ F H D nx' hn o q =>
  tSs_cons (ps_ret peE) (he G σ F H _ o (me.mono (fun x hx v F' H' o' g' z => by
    have hx : FinOk G Γe D F (Z (kx x)) := hx
    rw [hz x] at hx
    exact hx v σ F' H' o'.go.fs (o'.weak le) (z.back o.go.th)) (fun _ => XQ.eq le) q))
theorem rb_if1 {c : Expr} {a : List Stmt} {mc : Mo Bool} {ma mr : Mo γ} (hc : RT X W Γ c mc) (ha : RB X W Γe true Γ a ma Z) (hr : RB X W Γe lv Γ rest mr Z) : RB X W Γe lv Γ (.If c a [] pos :: rest) (mc >>= fun b => if b = true then ma else mr) Z := fun le G σ F H D nx' hn o q =>
  tSs_cons (ps_if ptT pssS pss_nil) (hc G σ F H _ o (mc.mono (fun b hx F' H' o' g' => by
    cases b with
    | true => exact iteT (ha le G σ F' H' D _ (fun z => by cases z) o' (run_fin g'.fs (by simpa using hx)))
    | false => exact iteF (hr le G σ F' H' D nx' hn o' (run_fin g'.fs (by simpa using hx)))) (fun _ => XQ.eq le) q))
theorem rb_if0 {c : Expr} {a b : List Stmt} {mc : Mo Bool} {ma mb : Mo γ} (hc : RT X W Γ c mc) (ha : RB X W Γe lv Γ a ma Z) (hb : RB X W Γe lv Γ b mb Z) : RB X W Γe lv Γ [.If c a b pos] (mc >>= fun k => if k = true then ma else mb) Z := fun le G σ F H D nx' hn o q => by
  refine tSs_i fun pins s I => (pss_one (ps_if ptT pssS pssS)).run pins s σ H _ I ?_
  exact hc G σ F H _ o (mc.mono (fun k hx F' H' o' g' => by
    cases k with
    | true => exact iteT (ha le G σ F' H' D nx' hn o' (run_fin g'.fs (by simpa using hx)))
    | false => exact iteF (hb le G σ F' H' D nx' hn o' (run_fin g'.fs (by simpa using hx)))) (fun _ => XQ.eq le) q)
variable {ρ : α → Pr} {i : Nat} {l : Bool} {ad : Addr} {xs : List α}
end
end RF
namespace RF
open PySem PySem.Spec PyProof.Rows L2 KO SX

def Src {α : Type} (J : It) (xs : List α) (ρ : α → Pr) (F1 : Hp) : Prop :=
  ∀ F2 H2, Same F1 F2 → Same F2 H2 → (∀ i, i < xs.length → J.go i H2) ∧ J.stop xs.length H2 ∧ ∀ i x v H3, xs[i]? = some x → J.yld i H2 v H3 → ∃ F3, Go [] F2 H2 F3 H3 ∧ (ρ x).r v F3
section
variable {α β γ δ : Type} {X : Cx} {W : WX} {Γe Γ Γ' : Ctx} {lv : Bool} {e tg iter : Expr} {pos : Pos}
def RI (X : Cx) (W : WX) (Γ : Ctx) (wi : TI) (m : Mo (List α)) (ρ : α → Pr) : Prop := ∀ G σ F H R, Ok G Γ σ F H → m.run (fun xs => ∀ J F' H', Ok G Γ σ F' H' → Go (owns Γ) F H F' H' → Src J xs ρ F' → R J H') (EQ X W G Γ σ F H) → wi σ H R
variable {m : Mo (List α)} {ρ : α → Pr}
theorem src_list {K : PySem.W.Frag} {F : Hp} {a : Addr} {vs : List V} {xs : List α} (h : F a = some (.lst vs)) (hp : Ps F (xs.map ρ) vs) : Src (Itl K a) xs ρ F := fun F2 H2 s1 s2 => by
  have h2 : SqL K H2 a vs := SqL.of (s2 _ _ (s1 _ _ h))
  have w := walk_list (K := K) (a := a) (xs := vs)
  have hl : vs.length = xs.length := by rw [hp.len, List.length_map]
  refine ⟨fun i hi => w.goes i H2 (by rw [hl]; exact hi) h2, hl ▸ w.stops H2 h2, fun i x v H3 hx y => ?_⟩
  obtain ⟨rfl, e⟩ := w.yields i H2 v H3 (by rw [hl]; exact (List.getElem?_eq_some_iff.mp hx).1) h2 y
  obtain ⟨u, h3, h4⟩ := hp.get (i := i) (p := ρ x) (by rw [List.getElem?_map, hx]; rfl)
  rw [e] at h3
  cases h3
  exact ⟨F2, Go.refl s2, (ρ x).mono s1 h4⟩
theorem ri_list (h : RE X W Γ e m (.fz (rL ρ))) : RI X W Γ (iList X.K (tE X e)) m ρ := fun G σ F H R o q => by
  refine h G σ F H _ o (m.mono (fun xs hx v F' H' o' g' z => ?_) (fun _ z => z) q)
  obtain ⟨a, vs, rfl, h1, h2⟩ := z
  exact ⟨a, rfl, ⟨vs, SqL.of (o'.le _ _ h1)⟩, hx _ F' H' o' g' (src_list h1 h2)⟩
def rangeL (lo : Int) (n : Nat) : List Int := (List.range n).map fun (i : Nat) => lo + (i : Int)
theorem src_range {lo : Int} {n : Nat} {F : Hp} : Src (Itr lo n) (rangeL lo n) rI F := fun F2 H2 s1 s2 => by
  have w := walk_range (lo := lo) (n := n)
  have hl : (rangeL lo n).length = n := by simp [rangeL]
  refine ⟨fun i hi => w.goes i H2 (by rw [← hl]; exact hi) trivial, by rw [hl]; exact w.stops H2 trivial, fun i x v H3 hx y => ?_⟩
  have hi : i < n := by rw [← hl]; exact (List.getElem?_eq_some_iff.mp hx).1
  obtain ⟨rfl, e⟩ := w.yields i H2 v H3 hi trivial y
  refine ⟨F2, Go.refl s2, ?_⟩
  have : x = lo + (i : Int) := by
    simp [rangeL, List.getElem?_map, List.getElem?_range hi] at hx
    exact hx.symm
  rw [this]
  exact e
theorem ri_range1 {me : Mo Int} (h : RE X W Γ e me (.fz rI)) : RI X W Γ (iRng1 (tCons (tE X e) tNil)) (me >>= fun j => Mo.rq (-(2 ^ 62) ≤ j ∧ j < 2 ^ 62) (rangeL 0 j.toNat)) rI := fun G σ F H R o q => by
  refine h G σ F H _ o (me.mono (fun j hx v F' H' o' g' z => ?_) (fun _ z => z) q)
  obtain rfl : v = .int j := z
  exact ⟨j, rfl, hx.1.1, hx.1.2, hx.2 _ F' H' o' g' src_range⟩
def RG (K : PySem.W.Frag) (g : TG) (p : Pr) (f : Ctx → Ctx) (vs : List Nat) : Prop := ∀ G Γ σ F H Q v, Ok G Γ σ F H → p.r v F → (∀ σ', Ok G (f Γ) σ' F H → wipe σ' vs = wipe σ vs → Q σ' H) → g v σ H Q
theorem wipe_set {σ : L2.St} {i : Nat} {v : Option V} : ∀ {vs : List Nat}, i ∈ vs → wipe (σ.set i v) vs = wipe σ vs
  | [], h => by simp at h
  | j :: vs, h => by
    unfold wipe
    by_cases hj : j = i
    · subst hj
      by_cases hm : j ∈ vs
      · rw [wipe_set hm]
      · clear h
        -- set commutes with the wiping of others, and is then overwritten
        have key : ∀ ws : List Nat, j ∉ ws → wipe (σ.set j v) ws = (wipe σ ws).set j v := by
          intro ws
          induction ws with
          | nil => intro _; rfl
          | cons k ws ih =>
            intro hk
            unfold wipe
            rw [ih (fun h => hk (List.mem_cons_of_mem _ h)), List.set_comm _ _ (fun e => hk (by rw [e]; exact List.mem_cons_self))]
        rw [key vs hm, List.set_set]
    · rw [wipe_set ((List.mem_cons.mp h).resolve_left (fun e => hj e.symm))]
theorem rg_name {K : PySem.W.Frag} {p : Pr} {i : Nat} : RG K (gName i) p (fun Γ => Γ.set i (.fz p)) [i] := fun G Γ σ F H Q v o hv q => q _ (o.set hv) (wipe_set (by simp))
inductive Lp (S α : Type) where
  | go (s : S)
  | brk (s : S)
  | ret (a : α)
def Mo.loop {S : Type} (f : S → β → Mo (Lp S δ)) : List β → S → Mo (Lp S δ)
  | [], s => pure (.go s)
  | x :: xs, s => f s x >>= fun o => match o with
    | .go s' => Mo.loop f xs s'
    | .brk s' => pure (.brk s')
    | .ret a => pure (.ret a)
def Lp.fin {S : Type} (ΓI : S → Ctx) (Zr : δ → Fin) : Lp S δ → Fin
  | .go s => .nc (ΓI s)
  | .brk s => .bk (ΓI s)
  | .ret a => Zr a
def Lp.out {S : Type} (mr : S → Mo γ) (kr : δ → γ) : Lp S δ → Mo γ
  | .go s => mr s
  | .brk s => mr s
  | .ret a => pure (kr a)
section
variable {S : Type} {Z : γ → Fin} {st : Stmt} {rest body : List Stmt} {wi : TI} {g : TG} {mi : Mo (List β)} {ρi : β → Pr}
def noLk : Ctx → Bool
  | [] => true
  | .lk true _ _ :: _ => false
  | _ :: l => noLk l
theorem noLk.get : ∀ {Γ : Ctx} {i : Nat} {h : Hp} {p : Pr}, noLk Γ = true → Γ[i]? = some (.lk true h p) → False
  | [], _, _, _, _, e => by simp at e
  | en :: l, 0, h, p, n, e => by
    simp at e
    subst e
    cases n
  | en :: l, i + 1, h, p, n, e => noLk.get (Γ := l) (i := i) (by cases en with
    | lk f h p => cases f with
      | true => cases n
      | false => exact n
    | _ => exact n) (by simpa using e)
theorem Ok.reb {G : Gf} {Γ : Ctx} {σ : L2.St} {F H : Hp} (o : Ok G Γ σ F H) (n : noLk Γ = true) : Ok ⟨F, G.H0, G.M⟩ Γ σ F H where
  go := ⟨Same.refl _, o.le, o.go.hs, fun _ _ _ h => h, o.go.th⟩
  en := fun i e he => by
    have z := o.en i e he
    cases e with
    | un => trivial
    | fz p => exact z
    | ow l a q => exact z
    | lk f h p => cases f with
      | true => exact (noLk.get n he).elim
      | false => exact ⟨z.1, fun b hb => ⟨(z.2.1 b hb).1, fun x => by cases x⟩, z.2.2⟩
  ap := o.ap
  ln := o.ln
theorem Ok.unreb {G : Gf} {Γ Γ2 : Ctx} {σ σ2 : L2.St} {F H F2 H2 : Hp} (o : Ok G Γ σ F H) (o2 : Ok ⟨F, G.H0, G.M⟩ Γ2 σ2 F2 H2) : Ok G Γ2 σ2 F2 H2 where
  go := ⟨o.go.fs.trans o2.go.fs, o2.le, o2.go.hs, fun b x e f => o2.go.fr b x e (o.go.fr b x e f), o2.go.th⟩
  en := fun i e he => by
    have z := o2.en i e he
    cases e with
    | un => trivial
    | fz p => exact z
    | ow l a q => exact z
    | lk f h p => exact ⟨z.1, fun b hb => ⟨(z.2.1 b hb).1, fun hf => by
        have k := (z.2.1 b hb).2 hf
        cases e : G.F0 b with
        | none => rfl
        | some x =>
          have k : F b = none := k
          rw [o.go.fs _ _ e] at k; cases k⟩, z.2.2⟩
  ap := o2.ap
  ln := o2.ln
theorem rb_for {s0 : S} {vs : List Nat} (ΓI : S → Ctx) (tg : β → Ctx → Ctx) {mb : S → β → Mo (Lp S δ)} {mr : S → Mo γ} {kr : δ → γ} {Zr : δ → Fin} (hs : PS X st (tFor wi g (tSs X body))) (hi : RI X W Γ wi mi ρi) (hg : ∀ x, RG X.K g (ρi x) (tg x) vs)
    (h0 : Le (ΓI s0) Γ) (hle : ∀ s, Le Γe (ΓI s)) (hlt : ∀ x s, Le Γe (tg x (ΓI s))) (hb : ∀ s x, RB X W Γe false (tg x (ΓI s)) body (mb s x) (Lp.fin ΓI Zr)) (hz : ∀ a, Z (kr a) = Zr a) (hret : ∀ a, ∃ R, Zr a = .ret R) (hr : ∀ s, RB X W Γe lv (ΓI s) rest (mr s) Z) (hk : ∀ s, noLk (ΓI s) = true := by intro _; rfl) :
    RB X W Γe lv Γ (st :: rest) (mi >>= fun xs => Mo.loop mb xs s0 >>= Lp.out mr kr) Z := fun le G σ F H D nx' hn o q =>
  tSs_cons hs (by
    refine hi G σ F H _ o (mi.mono (fun xs hx J F' H' o' g' src => ?_) (fun _ => XQ.eq le) q)
    let Fn : Hp → Lp S δ → Prop := fun F2 l => (Lp.out mr kr l).run (fun x => FinOk G Γe D F2 (Z x)) (XQ X W G Γe F2)
    have fstep : ∀ {A B : Hp} {l : Lp S δ}, Fn A l → Fn B l := fun h => run_any h
    have hx : (Mo.loop mb xs s0).run (Fn F') (XQ X W G Γe F') := Mo.mono _ (fun l h => fstep h) (fun _ => XQ.any) hx
    refine ⟨fun i k σ2 H2 => k = xs.length - i ∧ i ≤ xs.length ∧ ∃ s F2, Ok G (ΓI s) σ2 F2 H2 ∧ Same F' F2 ∧ (Mo.loop mb (xs.drop i) s).run (Fn F2) (XQ X W G Γe F2), ⟨_, rfl, Nat.zero_le _, s0, F', o'.weak h0, Same.refl _, hx⟩, ?_⟩
    rintro i k σ2 H2 ⟨rfl, hik, s, F2, o2, s2, r⟩
    obtain ⟨w1, w2, w3⟩ := src F2 H2 s2 o2.le
    by_cases hlt' : i < xs.length
    · refine .inr ⟨w1 i hlt', fun σ' H' => ∃ m', m' < xs.length - i ∧ m' = xs.length - (i + 1) ∧ i + 1 ≤ xs.length ∧ ∃ s F2, Ok G (ΓI s) σ' F2 H' ∧ Same F' F2 ∧ (Mo.loop mb (xs.drop (i + 1)) s).run (Fn F2) (XQ X W G Γe F2), fun σ' H' ⟨m', h1, h2, h3, h4⟩ => ⟨m', h1, h2, h3, h4⟩, fun v H3 y => ?_⟩
      have hget : xs[i]? = some xs[i] := List.getElem?_eq_getElem hlt'
      obtain ⟨F3, g3, hv⟩ := w3 i xs[i] v H3 hget y
      have o3 : Ok G (ΓI s) σ2 F3 H3 := o2.move g3 (fun _ h => by simp at h)
      have o3r := o3.reb (hk s)
      refine hg xs[i] ⟨F3, G.H0, G.M⟩ _ σ2 F3 H3 _ v o3r hv fun σ4 o4 _ => ?_
      rw [List.drop_eq_getElem_cons hlt'] at r
      refine hb s xs[i] (hlt _ _) ⟨F3, G.H0, G.M⟩ σ4 F3 H3 { nx := _, rt := D.rt, bk := tSs X rest { D with nx := nx' }, ct := _ } _ (fun _ => rfl) o4 (Mo.mono _ (fun l hl => ?_) (fun _ hq cls d σ6 F6 H6 _ o6 z => hq cls d σ6 F6 H6 (o3.unreb o6).go.fs (o3.unreb o6) z) r)
      have next : ∀ s', (Mo.loop mb (xs.drop (i + 1)) s').run (Fn F2) (XQ X W G Γe F2) → ∀ σ5 F5 H5, Same F3 F5 → Ok G (ΓI s') σ5 F5 H5 → ∃ m', m' < xs.length - i ∧ m' = xs.length - (i + 1) ∧ i + 1 ≤ xs.length ∧ ∃ s F2, Ok G (ΓI s) σ5 F2 H5 ∧ Same F' F2 ∧ (Mo.loop mb (xs.drop (i + 1)) s).run (Fn F2) (XQ X W G Γe F2) := fun s' hl σ5 F5 H5 s5 o5 =>
        ⟨_, by omega, rfl, by omega, s', F5, o5, (s2.trans g3.fs).trans s5, Mo.mono _ (fun l h => fstep h) (fun _ => XQ.any) hl⟩
      cases l with
      | go s' =>
        have hl : (Mo.loop mb (xs.drop (i + 1)) s').run (Fn F2) (XQ X W G Γe F2) := hl
        exact fun σ5 F5 H5 s5 o5 => ⟨next s' hl σ5 F5 H5 s5 (o3.unreb o5), next s' hl σ5 F5 H5 s5 (o3.unreb o5)⟩
      | brk s' =>
        have hl : Fn F2 (.brk s') := hl
        exact fun σ5 F5 H5 s5 o5 => hr s' (hle s') G σ5 F5 H5 D nx' hn (o3.unreb o5) (run_any hl)
      | ret a =>
        have hl : FinOk G Γe D F2 (Z (kr a)) := hl
        rw [hz a] at hl
        obtain ⟨R, hR⟩ := hret a
        show FinOk ⟨F3, G.H0, G.M⟩ Γe _ F3 (Zr a)
        rw [hR] at hl ⊢
        exact fun v5 σ5 F5 H5 s5 o5 => hl v5 σ5 F5 H5 (o3.unreb o5).go.fs (o3.unreb o5)
    · have e : i = xs.length := by omega
      subst e
      refine .inl ⟨w2, ?_⟩
      rw [List.drop_length] at r
      have r : Fn F2 (.go s) := r
      exact hr s (hle s) G σ2 F2 H2 D nx' hn o2 r)
end
end
end RF
namespace RF
open PySem PySem.Spec PyProof.Rows L2 KO SX

section
variable {α β γ δ : Type} {X : Cx} {W : WX} {Γe Γ Γ' : Ctx} {lv : Bool}
def whN {S : Type} (c : S → Mo Bool) (f : S → Mo (Lp S δ)) : Nat → S → (Lp S δ → Prop) → (Ex → Prop) → Prop
  | 0, _, _, _ => False
  | n + 1, s, Q, E => (c s).run (fun b => if b = true then (f s).run (fun l => match l with
      | .go s' => whN c f n s' Q E
      | .brk s' => Q (.brk s')
      | .ret a => Q (.ret a)) E else Q (.go s)) E
theorem whN_mono {S : Type} {c : S → Mo Bool} {f : S → Mo (Lp S δ)} {Q Q' : Lp S δ → Prop} {E E' : Ex → Prop} (hq : ∀ x, Q x → Q' x) (he : ∀ x, E x → E' x) : ∀ (n : Nat) (s : S), whN c f n s Q E → whN c f n s Q' E'
  | 0, _, h => h
  | n + 1, s, h => (c s).mono (fun b hb => by
      cases b with
      | true =>
        rw [if_pos rfl] at hb ⊢
        refine (f s).mono (fun l hl => ?_) he hb
        cases l with
        | go s' => exact whN_mono hq he n s' hl
        | brk s' => exact hq _ hl
        | ret a => exact hq _ hl
      | false =>
        rw [if_neg Bool.false_ne_true] at hb ⊢
        exact hq _ hb) he h
def Mo.while {S : Type} (c : S → Mo Bool) (f : S → Mo (Lp S δ)) (s : S) : Mo (Lp S δ) := ⟨fun Q E => ∃ n, whN c f n s Q E, fun hq he ⟨n, h⟩ => ⟨n, whN_mono hq he n s h⟩⟩
@[simp] theorem Mo.run_while {S : Type} {c : S → Mo Bool} {f : S → Mo (Lp S δ)} {s : S} {Q : Lp S δ → Prop} {E : Ex → Prop} : (Mo.while c f s).run Q E = ∃ n, whN c f n s Q E := rfl
end

abbrev W0 : WX := fun _ _ _ _ => False
section
variable {α β γ δ : Type} {X : Cx} {W : WX} {Γe Γ Γ' : Ctx} {lv : Bool} {scope : Scope} {elt c : Expr} {ifs : List Expr}
def tEi (X : Cx) (scope : Scope) (elt : Expr) : TE := fun σ H Q => ∀ (s : Shared) (H0 : Hp) (C : Addr) (cl : List (Str × Addr)) (fp : List Addr), tE (X.blk s H0 scope (compEnvC scope cl C X.env) fp) elt σ H Q
def tPi (X : Cx) (scope : Scope) (ifs : List Expr) : TT := fun σ H Q => ∀ (s : Shared) (H0 : Hp) (C : Addr) (cl : List (Str × Addr)) (fp : List Addr) (pins : List (Addr × Obj)) (s' : Shared), Inv (X.blk s H0 scope (compEnvC scope cl C X.env) fp) pins σ H s' →
  wpAny (model X.prog X.w) X.A (forIn ifs true fun c r => if r = true then do let ok ← isTrue c (compEnvC scope cl C X.env) (eval c (compEnvC scope cl C X.env)); pure (ForInStep.yield ok) else pure (ForInStep.yield r)) (TP (X.blk s H0 scope (compEnvC scope cl C X.env) fp) pins σ Q) (fun _ _ => False) s'
theorem peEi (s : Shared) (H0 : Hp) (C : Addr) (cl : List (Str × Addr)) (fp : List Addr) : PE (X.blk s H0 scope (compEnvC scope cl C X.env) fp) elt (tEi X scope elt) := ⟨fun pins s' σ H Q I h => peE.run pins s' σ H Q I (h s H0 C cl fp)⟩
theorem ptPi (s : Shared) (H0 : Hp) (C : Addr) (cl : List (Str × Addr)) (fp : List Addr) : PTs (X.blk s H0 scope (compEnvC scope cl C X.env) fp) ifs (tPi X scope ifs) := ⟨fun pins s' σ H Q I h => h s H0 C cl fp pins s' I⟩
def REi (X : Cx) (scope : Scope) (Γ : Ctx) (e : Expr) (m : Mo γ) (k : RK γ) : Prop := ∀ (s : Shared) (H0 : Hp) (C : Addr) (cl : List (Str × Addr)) (fp : List Addr), RE (X.blk s H0 scope (compEnvC scope cl C X.env) fp) W0 Γ e m k
def RTi (X : Cx) (scope : Scope) (Γ : Ctx) (ifs : List Expr) (m : Mo Bool) : Prop := ∀ G σ F H Q, Ok G Γ σ F H → m.run (fun b => ∀ F' H', Ok G Γ σ F' H' → Go (owns Γ) F H F' H' → Q b H') (fun _ => False) → tPi X scope ifs σ H Q
theorem rti_nil : RTi X scope Γ [] (pure true) := fun G σ F H Q o q s H0 C cl fp pins s' I => (pts_nil (X := X.blk s H0 scope (compEnvC scope cl C X.env) fp)).run pins s' σ H Q I (q F H o (Go.refl o.le))
def Mo.comp (c : β → Mo Bool) (f : β → Mo γ) : List β → Mo (List γ)
  | [] => pure []
  | x :: xs => c x >>= fun b => if b = true then f x >>= fun y => Mo.comp c f xs >>= fun ys => pure (y :: ys) else Mo.comp c f xs
def Mo.lc (c : β → Mo Bool) (f : β → Mo γ) (xs : List β) : Mo (List γ) := Mo.rq (xs.length ≤ sizeLine) () >>= fun _ => Mo.calm (Mo.comp c f xs)
def wipeC (Γ : Ctx) : List Nat → Ctx
  | [] => Γ
  | v :: vs => (wipeC Γ vs).set v .un
theorem Ok.wipe {G : Gf} {σ : L2.St} {F H : Hp} (o : Ok G Γ σ F H) : ∀ vs : List Nat, Ok G (wipeC Γ vs) (wipe σ vs) F H
  | [] => o
  | v :: vs => by unfold wipeC L2.wipe; exact (Ok.wipe o vs).forget v
theorem owns_set {i : Nat} {en : En} {a : Addr} (hen : en.own? = none) (h : a ∈ owns (Γ.set i en)) : a ∈ owns Γ := by
  obtain ⟨j, l, q, e⟩ := of_owns h
  by_cases hij : i = j
  · subst hij
    have hl : i < Γ.length := by
      have := (List.getElem?_eq_some_iff.mp e).1
      simpa using this
    rw [List.getElem?_set_self hl] at e
    cases e
    cases hen
  · rw [List.getElem?_set_ne hij] at e
    exact mem_owns e
theorem owns_wipe {a : Addr} : ∀ {vs : List Nat}, a ∈ owns (wipeC Γ vs) → a ∈ owns Γ
  | [], h => h
  | v :: vs, h => owns_wipe (vs := vs) (owns_set rfl h)
structure RGo (f : Ctx → Ctx) (vs : List Nat) : Prop where
  sub : ∀ Γ a, a ∈ owns (f Γ) → a ∈ owns Γ
  keep : ∀ (Γ : Ctx) (i : Nat), i ∉ vs → (f Γ)[i]? = Γ[i]?
theorem rgo_name {p : Pr} {i : Nat} : RGo (fun Γ => Γ.set i (.fz p)) [i] := ⟨fun _ _ h => owns_set rfl h, fun Γ j h => List.getElem?_set_ne (fun e => h (by simp [e]))⟩
theorem wipe_get {σ : L2.St} {i : Nat} : ∀ {vs : List Nat}, (wipe σ vs)[i]? = if i ∈ vs then (σ[i]?).map (fun _ => none) else σ[i]?
  | [] => by simp [wipe]
  | v :: vs => by
    unfold wipe
    by_cases hv : v = i
    · subst hv
      rw [List.getElem?_set, if_pos rfl, wipe_length, if_pos List.mem_cons_self]
      by_cases hl : v < σ.length
      · rw [if_pos hl, List.getElem?_eq_getElem hl]; rfl
      · rw [if_neg hl, List.getElem?_eq_none (by omega)]; rfl
    · rw [List.getElem?_set_ne hv, wipe_get]
      have : (i ∈ v :: vs) ↔ i ∈ vs := by
        rw [List.mem_cons]
        exact ⟨fun h => h.resolve_left (fun e => hv e.symm), .inr⟩
      simp only [this]
theorem wipe_wipe (σ : L2.St) (vs : List Nat) : wipe (wipe σ vs) vs = wipe σ vs := by
  refine List.ext_getElem? fun i => ?_
  rw [wipe_get, wipe_get]
  by_cases h : i ∈ vs
  · rw [if_pos h, if_pos h]
    cases σ[i]? <;> rfl
  · rw [if_neg h, if_neg h]
theorem wipeC_keep {j : Nat} : ∀ {vs : List Nat}, j ∉ vs → (wipeC Γ vs)[j]? = Γ[j]?
  | [], _ => rfl
  | v :: vs, h => by
    unfold wipeC
    rw [List.getElem?_set_ne (fun e => h (by simp [e])), wipeC_keep (fun m => h (List.mem_cons_of_mem _ m))]
theorem un1 {i : Nat} (h : Γ[i]? = some .un) : ∀ v ∈ [i], Γ[v]? = some .un := fun v hv => by rw [List.mem_singleton.mp hv]; exact h
theorem un2 {i j : Nat} (h : Γ[i]? = some .un) (h2 : Γ[j]? = some .un) : ∀ v ∈ [i, j], Γ[v]? = some .un := fun v hv => by
  rcases List.mem_cons.mp hv with e | hv
  · rw [e]; exact h
  · exact un1 h2 v hv
theorem Ok.back {G : Gf} {f : Ctx → Ctx} {vs : List Nat} {σ σ3 : L2.St} {F H F5 H5 : Hp} (o : Ok G Γ σ F H) (hf : RGo f vs) (hun : ∀ v ∈ vs, Γ[v]? = some .un) (s : Same F F5) (o5 : Ok G (f (wipeC Γ vs)) σ3 F5 H5) : Ok G Γ σ F5 H5 where
  go := o5.go
  en := fun i e he => by
    cases e with
    | un => trivial
    | fz p =>
      obtain ⟨v, h1, h2⟩ := o.en i _ he
      exact ⟨v, h1, p.mono s h2⟩
    | ow l a q =>
      have hi : i ∉ vs := fun h => by rw [hun i h] at he; cases he
      have h5 := o5.en i (.ow l a q) (by rw [hf.keep _ _ hi, wipeC_keep hi]; exact he)
      exact ⟨(o.en i _ he).1, h5.2⟩
    | lk f h p =>
      have hi : i ∉ vs := fun h => by rw [hun i h] at he; cases he
      have h5 := o5.en i (.lk f h p) (by rw [hf.keep _ _ hi, wipeC_keep hi]; exact he)
      obtain ⟨⟨v, h1, h2⟩, z, _⟩ := o.en i _ he
      exact ⟨⟨v, h1, p.mono s h2⟩, z, h5.2.2⟩
  ap := o.ap
  ln := o.ln
theorem rte_lc {wi : TI} {g : TG} {mi : Mo (List β)} {ρi : β → Pr} {vs : List Nat} {mc : β → Mo Bool} {mf : β → Mo γ} {ρ : γ → Pr} (tg : β → Ctx → Ctx) (hi : RI X W Γ wi mi ρi) (hg : ∀ x, RG X.K g (ρi x) (tg x) vs) (hgo : ∀ x, RGo (tg x) vs) (hun : ∀ v ∈ vs, Γ[v]? = some .un)
    (ht : ∀ x, RTi X scope (tg x (wipeC Γ vs)) ifs (mc x)) (he : ∀ x, REi X scope (tg x (wipeC Γ vs)) elt (mf x) (.fz ρ)) : RTE X W Γ (tLc wi g (tPi X scope ifs) (tEi X scope elt) vs) (mi >>= Mo.lc mc mf) (.ow (oL ρ)) := fun G σ F H Q o q => by
  refine hi G σ F H _ o (mi.mono (fun xs hx J F1 H1 o1 g1 src D hD => ?_) (fun _ z => z) q)
  obtain ⟨hz, hx⟩ := hx
  have hD0 : H D = none := by
    cases e : H D with
    | none => rfl
    | some y => obtain ⟨y', e'⟩ := g1.th _ _ e; rw [hD] at e'; cases e'
  have hG0 : G.H0 D = none := by
    cases e : G.H0 D with
    | none => rfl
    | some y => obtain ⟨y', e'⟩ := o.go.th _ _ e; rw [hD0] at e'; cases e'
  have hDo : D ∉ owns Γ := fun h => by
    obtain ⟨y, hy⟩ := o.ownH h
    rw [hD0] at hy; cases hy
  have hF1 : F1 D = none := o1.le.free hD
  let St : Nat → Hp → Prop := fun i H' => ∃ F' ys us, Ok G Γ σ F' H' ∧ Go (owns Γ) F H F' H' ∧ Same F1 F' ∧ F' D = none ∧ H' D = some (.lst us) ∧ Ps F' (ys.map ρ) us ∧ ys.length ≤ i ∧ (Mo.comp mc mf (xs.drop i)).run (fun zs => NQ G Γ σ F H (.ow (oL ρ)) Q (ys ++ zs)) (fun _ => False)
  obtain ⟨oD, gD⟩ := o1.newO (u := .lst []) hD
  refine ⟨fun i k H' => k = xs.length - i ∧ i ≤ xs.length ∧ St i H', ⟨_, rfl, Nat.zero_le _, F1, [], [], oD, g1.trans gD owns_tr, Same.refl _, hF1, upd_same, trivial, Nat.le_refl _, hx⟩, ?_⟩
  rintro i k H' ⟨rfl, hik, F', ys, us, o', g', s1, hF', hH', hps, hle, r⟩
  obtain ⟨w1, w2, w3⟩ := src F' H' s1 o'.le
  by_cases hlt : i < xs.length
  · refine .inr ⟨w1 i hlt, fun H'' => i + 1 ≤ xs.length ∧ St (i + 1) H'', fun H'' h => ⟨_, by omega, rfl, h.1, h.2⟩, fun v H2 y => ?_⟩
    rw [List.drop_eq_getElem_cons hlt] at r
    obtain ⟨F2, g2, hv⟩ := w3 i xs[i] v H2 (List.getElem?_eq_getElem hlt) y
    have o2 : Ok G Γ σ F2 H2 := o'.move g2 (fun _ h => by simp at h)
    have g2' : Go (owns Γ) F' H' F2 H2 := g2.mono (fun _ h => by simp at h)
    refine hg xs[i] G _ _ F2 H2 _ v (o2.wipe vs) hv fun σ3 o3 hw => ⟨by rw [hw]; exact wipe_wipe σ vs, ?_⟩
    have sub : ∀ a ∈ owns (tg xs[i] (wipeC Γ vs)), a ∈ owns Γ := fun a h => owns_wipe ((hgo _).sub _ _ h)
    refine ht xs[i] G σ3 F2 H2 _ o3 ((mc xs[i]).mono (fun b hb F3 H3 o4 g3 => ?_) (fun _ z => z) r)
    have g2D : H2 D = some (.lst us) := g2.hs _ _ (by simp) hH'
    have f2D : F2 D = none := g2.fr _ _ hH' hF'
    have back : ∀ {F5 H5 : Hp}, Go (owns (tg xs[i] (wipeC Γ vs))) F2 H2 F5 H5 → Ok G (tg xs[i] (wipeC Γ vs)) σ3 F5 H5 → Ok G Γ σ F5 H5 ∧ Go (owns Γ) F H F5 H5 ∧ Same F1 F5 ∧ F5 D = none ∧ H5 D = some (.lst us) ∧ Same F' F5 := fun {F5 H5} g5 o5 => by
      have s5 : Same F' F5 := g2.fs.trans g5.fs
      refine ⟨o'.back (hgo _) hun s5 o5, (g'.trans g2' owns_tr).trans g5 (fun a h => .inl (sub a h)), s1.trans s5, g5.fr _ _ g2D f2D, g5.hs _ _ (fun h => hDo (sub _ h)) g2D, s5⟩
    cases b with
    | false =>
      obtain ⟨b1, b2, b3, b4, b5, b6⟩ := back g3 o4
      exact iteF ⟨hlt, F3, ys, us, b1, b2, b3, b4, b5, hps.mono b6, by omega, hb⟩
    | true =>
      refine iteT fun s H0 C cl fp => ?_
      have hb : (mf xs[i] >>= fun y => Mo.comp mc mf (xs.drop (i + 1)) >>= fun ys => pure (y :: ys)).run (fun zs => NQ G Γ σ F H (.ow (oL ρ)) Q (ys ++ zs)) (fun _ => False) := hb
      refine he xs[i] s H0 C cl fp G σ3 F3 H3 _ o4 ((mf xs[i]).mono (fun y hy w F4 H4 o5 g5 z => ?_) (fun _ z => z.elim) hb)
      obtain ⟨b1, b2, b3, b4, b5, b6⟩ := back (g3.trans g5 owns_tr) o5
      have hul : us.length < xs.length := by rw [hps.len, List.length_map]; omega
      refine ⟨us, b5, by omega, hlt, F4, ys ++ [y], us ++ [w], b1.move (Go.put b1.le b4 b5) (fun a h => ?_), b2.trans (Go.put b1.le b4 b5) (fun a h => ?_), b3, b4, upd_same, ?_, by simp; omega, ?_⟩
      · rw [List.mem_singleton.mp h]
        exact .inr ⟨.inr hG0, hDo⟩
      · rw [List.mem_singleton.mp h]
        exact .inr hD0
      · rw [List.map_append]
        exact (hps.mono b6).app ⟨z, trivial⟩
      · refine Mo.mono _ (fun zs h => ?_) (fun _ z => z) hy
        rw [List.append_assoc]
        exact h
  · have e : i = xs.length := by omega
    subst e
    refine .inl ⟨w2, ?_⟩
    rw [List.drop_length] at r
    have r : NQ G Γ σ F H (.ow (oL ρ)) Q (ys ++ []) := r
    rw [List.append_nil] at r
    exact r _ F' H' o' g' ⟨D, _, rfl, hD0, hF', hH', us, rfl, hps⟩
end
end RF
namespace RF
open PySem PySem.Spec PyProof.Rows L2 KO SX

def OwnOk (F H : Hp) (Γ : Ctx) : Prop := ∀ (i : Nat) (l : Bool) (a : Addr) (q : Po), Γ[i]? = some (.ow l a q) → F a = none ∧ ∃ u, H a = some u ∧ q.r u F
def spR {ι β γ : Type} (K : PySem.W.Frag) (mg : Str → Option Value) (pp : ι → β → Ctx) (m : β → Mo γ) (kr : RK γ) : Sp := fun vs H Q E => ∃ (i : ι) (x : β) (F : Hp), Ok ⟨F, H, owns (pp i x)⟩ (pp i x) (vs.map some) F H ∧
  (m x).run (fun y => ∀ v F' H', Go (owns (pp i x)) F H F' H' → OwnOk F' H' (pp i x) → kr.ok y v H F' H' → Q v H') (fun ex => ∀ cls d F' H', Go (owns (pp i x)) F H F' H' → OwnOk F' H' (pp i x) → ErrOk K mg ex cls d F' → E cls d H')
section
variable {α β γ δ : Type} {X : Cx} {W : WX} {Γe Γ Γ' : Ctx} {lv : Bool} {e : Expr} {es : List Expr}
theorem ap_of {Γ : Ctx} (h : (owns Γ).Nodup) : ∀ (i j : Nat) (l m : Bool) (a : Addr) (p q : Po), Γ[i]? = some (.ow l a p) → Γ[j]? = some (.ow m a q) → i = j := by
  intro i j l m a p q h1 h2
  induction Γ generalizing i j with
  | nil => simp at h1
  | cons en Γ ih =>
    have tail : (owns Γ).Nodup := by
      unfold owns at h
      rw [List.filterMap_cons] at h
      cases e : en.own? with
      | none => rw [e] at h; exact h
      | some b => rw [e] at h; exact (List.nodup_cons.mp h).2
    have head : ∀ {k : Nat} {l : Bool} {q : Po} {l' : Bool} {q' : Po}, en = .ow l a q → Γ[k]? = some (.ow l' a q') → False := fun {k l q l' q'} e1 e2 => by
      subst e1
      unfold owns at h
      rw [List.filterMap_cons] at h
      exact (List.nodup_cons.mp h).1 (mem_owns e2)
    cases i with
    | zero =>
      cases j with
      | zero => rfl
      | succ j => exact (head (by simpa using h1) (by simpa using h2)).elim
    | succ i =>
      cases j with
      | zero => exact (head (by simpa using h2) (by simpa using h1)).elim
      | succ j => rw [ih tail i j (by simpa using h1) (by simpa using h2)]
theorem Ok.ofArgs {F H : Hp} {p : Ctx} {vs : List V} (s : Same F H) (h : ArgOk Γ F H p vs) (hap : (owns p).Nodup) (hl : ∀ (i : Nat) (l : Bool) (a : Addr) (q : Po), p[i]? = some (.ow l a q) → l = false) : Ok ⟨F, H, owns p⟩ p (vs.map some) F H where
  go := Go.refl s
  en := fun i en he => by
    have hi : i < vs.length := by rw [h.1]; exact (List.getElem?_eq_some_iff.mp he).1
    have hv := List.getElem?_eq_getElem hi
    have z := h.2.1 i en _ he hv
    have e : (vs.map some)[i]? = some (some vs[i]) := by rw [List.getElem?_map, hv]; rfl
    rw [e]
    cases en with
    | un => trivial
    | fz p => exact ⟨_, rfl, z⟩
    | ow l a q =>
      obtain ⟨z1, z2, z3⟩ := z
      refine ⟨by rw [z1], z2, ?_, z3⟩
      rw [hl i l a q he]
      exact mem_owns he
    | lk f h p => exact z.elim
  ap := ap_of hap
  ln := by rw [List.length_map, h.1]
theorem Ok.afterCall {G : Gf} {σ : L2.St} {F H F' H' : Hp} {p : Ctx} {vs : List V} (o : Ok G Γ σ F H) (h : ArgOk Γ F H p vs) (g : Go (owns p) F H F' H') (w : OwnOk F' H' p) : Ok G Γ σ F' H' ∧ Go (owns Γ) F H F' H' := by
  have sub : ∀ a ∈ owns p, a ∈ owns Γ := fun a ha => by
    obtain ⟨j, l, q, e⟩ := of_owns ha
    obtain ⟨i, l', e'⟩ := h.2.2 j l a q e
    exact mem_owns e'
  have g2 : Go (owns Γ) F H F' H' := g.mono fun a ha => .inl (sub a ha)
  refine ⟨⟨o.go.trans g2 fun a ha => ?_, fun i en he => ?_, o.ap, o.ln⟩, g2⟩
  · rcases o.own ha with h | h
    · exact .inl h
    · exact .inr h
  · have z := o.en i en he
    cases en with
    | un => trivial
    | fz r =>
      obtain ⟨v, z1, z2⟩ := z
      exact ⟨v, z1, r.mono g.fs z2⟩
    | ow l a q =>
      obtain ⟨z1, z2, z3, u, z4, z5⟩ := z
      by_cases hm : a ∈ owns p
      · obtain ⟨j, l2, q2, e⟩ := of_owns hm
        obtain ⟨i2, l3, e2⟩ := h.2.2 j l2 a q2 e
        have hii := o.ap i i2 l l3 a q q2 he e2
        subst hii
        rw [he] at e2
        cases e2
        obtain ⟨w1, w2⟩ := w j l2 a q e
        exact ⟨z1, w1, z3, w2⟩
      · exact ⟨z1, g.fr _ _ z4 z2, z3, u, g.hs _ _ hm z4, q.mono g.fs z5⟩
    | lk f h r =>
      obtain ⟨⟨v, z1, z2⟩, z3, z4⟩ := z
      exact ⟨⟨v, z1, r.mono g.fs z2⟩, z3, fun b e => z4 b (none_th g.th e)⟩
def oneOwn : Ctx → Bool
  | [] => true
  | .ow false _ _ :: l => l.all fun e => e.own?.isNone
  | l => l.all fun e => e.own?.isNone
theorem noOwn {l : Ctx} (h : (l.all fun e => e.own?.isNone) = true) : owns l = [] := by
  unfold owns
  rw [List.filterMap_eq_nil_iff]
  intro e he
  have := List.all_eq_true.mp h e he
  simpa using this
theorem one_ap {l : Ctx} (h : oneOwn l = true) : (owns l).Nodup ∧ ∀ (i : Nat) (b : Bool) (a : Addr) (q : Po), l[i]? = some (.ow b a q) → b = false := by
  have key : ∀ {l : Ctx} {i : Nat} {b : Bool} {a : Addr} {q : Po}, (l.all fun e => e.own?.isNone) = true → l[i]? = some (.ow b a q) → False := fun {l i b a q} h e => by
    have := List.all_eq_true.mp h _ (List.mem_of_getElem? e)
    simp [En.own?] at this
  cases l with
  | nil => exact ⟨by simp [owns], fun i b a q e => by simp at e⟩
  | cons en l =>
    cases en with
    | un => exact ⟨by rw [noOwn (show ((En.un :: l).all fun e => e.own?.isNone) = true from h)]; exact List.nodup_nil, fun i b a q e => (key h e).elim⟩
    | fz p => exact ⟨by rw [noOwn (show ((En.fz p :: l).all fun e => e.own?.isNone) = true from h)]; exact List.nodup_nil, fun i b a q e => (key h e).elim⟩
    | lk f hh p => exact ⟨by rw [noOwn (show ((En.lk f hh p :: l).all fun e => e.own?.isNone) = true from h)]; exact List.nodup_nil, fun i b a q e => (key h e).elim⟩
    | ow b a q =>
      cases b with
      | true => exact (key (show ((En.ow true a q :: l).all fun e => e.own?.isNone) = true from h) (i := 0) rfl).elim
      | false =>
        have h : (l.all fun e => e.own?.isNone) = true := h
        refine ⟨?_, fun i b a' q' e => ?_⟩
        · have : owns (En.ow false a q :: l) = a :: owns l := rfl
          rw [this, noOwn h]
          simp
        · cases i with
          | zero => simp at e; exact e.1
          | succ i => exact (key h (i := i) (by simpa using e)).elim
section
variable {k : Nat} {f C : Addr} {fd : FuncData} {ps : List Str} {ι : Type} {pp : ι → β → Ctx} {m : β → Mo γ} {kr : RK γ} {ma : Mo β} {x : Str} {p pos : Pos}
theorem run_spR {G : Gf} {σ : L2.St} {F H : Hp} {vs : List V} {Q : VK} {i : ι} {y : β} (o : Ok G Γ σ F H) (h : ArgOk Γ F H (pp i y) vs) (hap : oneOwn (pp i y) = true) (q : (m y).run (NQ G Γ σ F H kr Q) (EQ X W G Γ σ F H)) : spR X.K X.mg pp m kr vs H Q (WE W σ) := by
  obtain ⟨h1, h2⟩ := one_ap hap
  refine ⟨i, y, F, Ok.ofArgs o.le h h1 h2, (m y).mono (fun z hz v F' H' g w r => ?_) (fun ex hex cls d F' H' g w r => ?_) q⟩
  · obtain ⟨o2, g2⟩ := o.afterCall h g w
    exact hz v F' H' o2 g2 r
  · obtain ⟨o2, g2⟩ := o.afterCall h g w
    exact hex cls d F' H' o2 g2 r
theorem own_none {l : Ctx} {i : Nat} {b : Bool} {a : Addr} {q : Po} (h : (l.all fun e => e.own?.isNone) = true) (e : l[i]? = some (.ow b a q)) : False := by
  have := List.all_eq_true.mp h _ (List.mem_of_getElem? e)
  simp [En.own?] at this
theorem own_first {a : Addr} {q : Po} {tail us : Ctx} (h : (tail.all fun e => e.own?.isNone) = true) (i : Nat) (l : Bool) (b : Addr) (p : Po) (e : (En.ow false a q :: tail)[i]? = some (.ow l b p)) : (En.ow false a q :: us)[i]? = some (.ow l b p) := by
  cases i with
  | zero => exact e
  | succ i => exact (own_none h (i := i) (by simpa using e)).elim
theorem re_call {pa : β → Ctx} (i : ι) (Fn : FnOk X.prog X.w X.K X.mg X.base (L2.CX X.prog X.w) k f fd ps (spR X.K X.mg pp m kr)) (hr : Room k X.A) (tk : Takes X W) (ha : RA X W Γ (e :: es) ma pa) (hm : X.mg x = some (.ref f)) (hk : PySem.W.keepIn X.K (.ref f) = true) (hb : Binds X.K fd ps [])
    (hpp : ∀ y, pa y = pp i y := by intro _; rfl) (hap : ∀ y, oneOwn (pp i y) = true := by intro _; rfl) (hg : Gl X x := by rfl) (hdb : (x == ("__debug__" : Str)) = false := by decide) (he : starEach (e :: es) X.env = (false, eval e X.env) :: starEach es X.env := by rfl) (hpl : (backTo pos (starEach es X.env)).any (·.1) = false := by rfl) :
    RE X W Γ (.Call (.Name x p) (e :: es) [] pos) (ma >>= m) kr := by
  refine re_of (pe_callS Fn hr hg hm hk hb (fun σ => passAt tk σ) paA hdb he hpl) fun G σ F H Q o q => ?_
  refine ha G σ F H _ o (ma.mono (fun y hy vs F' H' o' g' z => ?_) (fun _ z => z) q)
  rw [hpp y] at z
  exact run_spR o' z (hap y) (run_step g' hy)
end
theorem fn_mk {P : Program} {w : World} {K : PySem.W.Frag} {mg : Str → Option Value} {base : Heap} {x qual : Str} {st : Stmt} {f : Addr} {fd : FuncData} {N ps : List Str} {k : Nat} {ι : Type} {pp : ι → β → Ctx} {m : β → Mo γ} {kr : RK γ} {Γe Γ0 : ι → β → Ctx} {Z : ι → β → γ → Fin}
    (F : Fun K x qual st f fd) (S : FnScope N ps (defScope st)) (hlen : ∀ c y, (pp c y).length = ps.length) (hΓ : ∀ c y, Γ0 c y = pp c y ++ List.replicate (N.length - ps.length) .un) (hle : ∀ c y, Le (Γe c y) (Γ0 c y))
    (hown : ∀ c y (i : Nat) (l : Bool) (a : Addr) (q : Po), (pp c y)[i]? = some (.ow l a q) → (Γe c y)[i]? = some (.ow l a q)) (hz : ∀ c y z, Z c y z = .ret (kr.ok z) ∨ (Z c y z = .nx (Γe c y) ∧ ∀ H F' H', kr.ok z .non H F' H'))
    (hbody : ∀ (cdv : Value) (A : Around) (outer : List Env) (s : Shared) (H : Hp) (E : XK) (c : ι) (y : β), Room k (A.deeper (envOfC qual (defScope st) s.heap.objs.size f cdv)) →
      RB (cxOf (L2.CX P w) P w K mg base N qual (defScope st) f cdv A outer s H E) (fun cls d _ H => E cls d H) (Γe c y) false (Γ0 c y) (defBody st) (m y) (Z c y)) :
    FnOk P w K mg base (L2.CX P w) (k + 1) f fd ps (spR K mg pp m kr) := by
  have ln : ∀ {vs : List V} {c : ι} {y : β} {F0 H : Hp}, Ok ⟨F0, H, owns (pp c y)⟩ (pp c y) (vs.map some) F0 H → vs.length = ps.length := fun {vs c y F0 H} o => by
    have := o.ln
    rw [List.length_map, hlen] at this
    exact this
  refine F.okX S (fun vs H Q E ⟨c, y, F0, o, _⟩ => ln o) fun cdv A outer s H vs Q E hr ⟨c, y, F0, o, q⟩ => ?_
  refine ⟨_, pssS, ?_⟩
  have hl := ln o
  have o0 : Ok ⟨F0, H, owns (pp c y)⟩ (Γ0 c y) (L2.start N vs) F0 H := by
    rw [hΓ c y]
    refine ⟨o.go, fun i en he => ?_, fun i j l l' a p q h1 h2 => ?_, by unfold L2.start; simp [hl, hlen c y]⟩
    · by_cases hi : i < (pp c y).length
      · rw [List.getElem?_append_left hi] at he
        have z := o.en i en he
        have e : (L2.start N vs)[i]? = (vs.map some)[i]? := by
          unfold L2.start
          rw [List.getElem?_append_left (by rw [List.length_map, hl, ← hlen c y]; exact hi)]
        rw [e]
        exact z
      · rw [List.getElem?_append_right (by omega), List.getElem?_replicate] at he
        split at he
        · cases he; trivial
        · cases he
    · have key : ∀ {i : Nat} {l : Bool} {p : Po}, (pp c y ++ List.replicate (N.length - ps.length) En.un)[i]? = some (.ow l a p) → (pp c y)[i]? = some (.ow l a p) := fun {i l p} h => by
        by_cases hi : i < (pp c y).length
        · rw [List.getElem?_append_left hi] at h; exact h
        · rw [List.getElem?_append_right (by omega), List.getElem?_replicate] at h
          split at h
          · cases h
          · cases h
      exact o.ap i j l l' a p q (key h1) (key h2)
  have own : ∀ {σ : L2.St} {F' H' : Hp}, Ok ⟨F0, H, owns (pp c y)⟩ (Γe c y) σ F' H' → OwnOk F' H' (pp c y) := fun {σ F' H'} o i l a q h => by
    obtain ⟨_, h2, _, u, h4, h5⟩ := o.en i _ (hown c y i l a q h)
    exact ⟨h2, u, h4, h5⟩
  refine hbody cdv A outer s H E c y hr (hle c y) ⟨F0, H, owns (pp c y)⟩ (L2.start N vs) F0 H { nx := fun _ H' => Q .non H', rt := Q } _ (fun _ => rfl) o0 ((m y).mono (fun z hzq => ?_) (fun ex hex cls d σ F' H' _ o' r => ?_) q)
  · rcases hz c y z with h | ⟨h, h2⟩
    · rw [h]
      exact fun v σ F' H' _ o' r => hzq v F' H' o'.go (own o') r
    · rw [h]
      exact fun σ F' H' _ o' => hzq .non F' H' o'.go (own o') (h2 _ _ _)
  · exact hex cls d F' H' o'.go (own o') r
end
end RF
namespace RF
open PySem PySem.Spec PyProof.Rows L2 KO SX

def Fs (F : Hp) : List (Str × Pr) → List (Str × V) → Prop
  | [], [] => True
  | (n, p) :: fs, (n', v) :: gs => n = n' ∧ p.r v F ∧ Fs F fs gs
  | _, _ => False
section
variable {F F' : Hp}
theorem Fs.mono (s : Same F F') : ∀ {fs : List (Str × Pr)} {gs : List (Str × V)}, Fs F fs gs → Fs F' fs gs
  | [], [], _ => trivial
  | (_, p) :: _, (_, _) :: _, h => ⟨h.1, p.mono s h.2.1, Fs.mono s h.2.2⟩
  | [], _ :: _, h => h.elim
  | _ :: _, [], h => h.elim
theorem Fs.len : ∀ {fs : List (Str × Pr)} {gs : List (Str × V)}, Fs F fs gs → gs.length = fs.length
  | [], [], _ => rfl
  | (_, _) :: _, (_, _) :: _, h => by simp [Fs.len h.2.2]
  | [], _ :: _, h => h.elim
  | _ :: _, [], h => h.elim
theorem Fs.look {f : Str} {p : Pr} : ∀ {fs : List (Str × Pr)} {gs : List (Str × V)}, Fs F fs gs → fs.lookup f = some p → ∃ v, gs.lookup f = some v ∧ p.r v F
  | [], [], _, e => by cases e
  | (n, q) :: fs, (n', v) :: gs, h, e => by
    obtain ⟨rfl, h1, h2⟩ := h
    rw [List.lookup_cons] at e ⊢
    cases c : (f == n) with
    | true => rw [c] at e; cases e; exact ⟨v, rfl, h1⟩
    | false => rw [c] at e; exact Fs.look h2 e
  | [], _ :: _, h, _ => h.elim
  | _ :: _, [], h, _ => h.elim
def putP (f : Str) (p : Pr) : List (Str × Pr) → List (Str × Pr)
  | [] => [(f, p)]
  | (n, q) :: fs => if n = f then (f, p) :: fs else (n, q) :: putP f p fs
end
def oIn (C : Addr) (fs : List (Str × Pr)) : Po := ⟨fun o F => ∃ dx gs, o = .ins C dx gs ∧ Fs F fs gs, fun s ⟨dx, gs, e, h⟩ => ⟨dx, gs, e, h.mono s⟩⟩
def rIn (C : Addr) (fs : List (Str × Pr)) : Pr := ⟨fun v F => ∃ a dx gs, v = .ref a ∧ F a = some (.ins C dx gs) ∧ Fs F fs gs, fun s ⟨a, dx, gs, e, h, k⟩ => ⟨a, dx, gs, e, s _ _ h, k.mono s⟩⟩
theorem frz_In {C : Addr} {fs : List (Str × Pr)} (a : Addr) (u : HO) (F : Hp) (h : F a = some u) (k : (oIn C fs).r u F) : (rIn C fs).r (.ref a) F := by
  obtain ⟨dx, gs, rfl, k⟩ := k
  exact ⟨a, dx, gs, rfl, h, k⟩
section
variable {F : Hp}
theorem Fs.put {f : Str} {p : Pr} {v : V} (hv : p.r v F) : ∀ {fs : List (Str × Pr)} {gs : List (Str × V)}, Fs F fs gs → Fs F (putP f p fs) (putF f v gs)
  | [], [], _ => ⟨rfl, hv, trivial⟩
  | (n, q) :: fs, (n', u) :: gs, h => by
    obtain ⟨rfl, h1, h2⟩ := h
    unfold putP putF
    by_cases e : n = f
    · subst e
      simp [Fs, hv, h2]
    · simp [e, Fs, h1, Fs.put hv h2]
  | [], _ :: _, h => h.elim
  | _ :: _, [], h => h.elim
end
section
variable {α β γ δ : Type} {X : Cx} {W : WX} {Γe Γ Γ' : Ctx} {lv : Bool} {e o : Expr} {es : List Expr} {st : Stmt} {rest : List Stmt} {Z : γ → Fin} {pos : Pos}
theorem re_fld {C : Addr} {f : Str} {me : Mo α} {ρ : α → Pr} {ρ' : β → Pr} {g : α → β} (fs : α → List (Str × Pr)) (he : RE X W Γ e me (.fz ρ)) (c : Cls X.K C) (n : NoAttr X.K C f) (hρ : ∀ x, ρ x = rIn C (fs x) := by intro _; rfl) (hf : ∀ x, (fs x).lookup f = some (ρ' (g x)) := by intro _; rfl) (hb : attributeBase e f X.env (eval e X.env) = eval e X.env := by rfl) :
    RE X W Γ (.Attribute e f pos) (me >>= fun x => pure (g x)) (.fz ρ') := by
  refine re_of (pe_fld peE hb) fun G σ F H Q o q => ?_
  refine he G σ F H _ o (me.mono (fun x hx v F' H' o' g' z => ?_) (fun _ z => z) q)
  have z : (ρ x).r v F' := z
  rw [hρ x] at z
  obtain ⟨a, dx, gs, rfl, h1, h2⟩ := z
  obtain ⟨u, h3, h4⟩ := h2.look (hf x)
  exact ⟨a, C, dx, gs, u, rfl, o'.le _ _ h1, c, n, h3, hx u F' H' o' g' h4⟩
theorem rb_setfld {C a : Addr} {i : Nat} {l : Bool} {f : Str} {fs : List (Str × Pr)} {me : Mo α} {ρ : α → Pr} {mr : α → Mo γ} (hs : PS X st (sFld X.K (tVar i) (tE X e) f)) (hi : Γ[i]? = some (.ow l a (oIn C fs))) (he : RE X W Γ e me (.fz ρ)) (c : Cls X.K C) (n : NoAttr X.K C f) (hlen : fs.length < 1000) (hie : Γe[i]? = some .un)
    (hr : ∀ x, RB X W Γe lv (Γ.set i (.ow l a (oIn C (putP f (ρ x) fs)))) rest (mr x) Z) : RB X W Γe lv Γ (st :: rest) (me >>= mr) Z := fun le G σ F H D nx' hn o q =>
  tSs_cons hs (he G σ F H _ o (me.mono (fun x hx v F' H' o' g' z => by
    obtain ⟨h1, _, _, u, hu, dx, gs, rfl, hg⟩ := o'.en i _ hi
    refine ⟨.ref a, h1, a, C, dx, gs, rfl, hu, c, n, by rw [hg.len]; exact hlen, ?_⟩
    exact hr x (le.set hie) G σ F' _ D nx' hn (o'.put (q := oIn C (putP f (ρ x) fs)) hi ⟨dx, _, rfl, hg.put z⟩) (run_fin g'.fs hx)) (fun _ => XQ.eq le) q))
section
variable {k : Nat} {f C : Addr} {fd : FuncData} {ps : List Str} {pp : β → Ctx} {m : α × β → Mo γ} {kr : RK γ} {ma : Mo β} {n : Str} {apos : Pos} {pl : Sem Bool} {mo : Mo α} {ρo : α → Pr}
theorem ra_both {F H : Hp} {p : Ctx} {vs : List V} {v : V} {q : Pr} (h : ArgOk Γ F H p vs) (hv : q.r v F) : ArgOk Γ F H (.fz q :: p) (v :: vs) := ⟨by simp [h.1], fun i en u h1 h2 => by
    cases i with
    | zero =>
      simp at h1 h2
      subst h1 h2
      exact hv
    | succ i => exact h.2.1 i en u (by simpa using h1) (by simpa using h2), fun j l a q h1 => by
    cases j with
    | zero => simp at h1
    | succ j => exact h.2.2 j l a q (by simpa using h1)⟩
end
def spI {β γ : Type} (K : PySem.W.Frag) (mg : Str → Option Value) (C : Addr) (pp : β → Ctx) (m : β → Mo γ) (fo : γ → List (Str × Pr)) : Sp := fun vs H Q E => ∃ (x : β) (F : Hp) (a : Addr) (ws : List V), vs = .ref a :: ws ∧ Ok ⟨F, H, [a]⟩ (.ow false a (oIn C []) :: pp x) (vs.map some) F H ∧
  (m x).run (fun y => ∀ F' H', Go [a] F H F' H' → F' a = none → (∃ u, H' a = some u ∧ (oIn C (fo y)).r u F') → Q .non H') (fun ex => ∀ cls d F' H', Go [a] F H F' H' → ErrOk K mg ex cls d F' → E cls d H')
section
variable {k : Nat} {f C : Addr} {fd : FuncData} {ps : List Str} {pp : β → Ctx} {m : β → Mo γ} {fo : γ → List (Str × Pr)} {ma : Mo β} {x : Str} {p : Pos}
theorem re_make {pa : β → Ctx} (M : Mk X.K C f) (Fn : FnOk X.prog X.w X.K X.mg X.base (L2.CX X.prog X.w) k f fd ps (spI X.K X.mg C pp m fo)) (hr : Room (k + 1) X.A) (tk : Takes X W) (ha : RA X W Γ (e :: es) ma pa) (hm : X.mg x = some (.ref C)) (hb : Binds X.K fd ps [])
    (hpp : ∀ y, pa y = pp y := by intro _; rfl) (hno : ∀ y, ((pp y).all fun e => e.own?.isNone) = true := by intro _; rfl) (hg : Gl X x := by rfl) (hdb : (x == ("__debug__" : Str)) = false := by decide) (he : starEach (e :: es) X.env = (false, eval e X.env) :: starEach es X.env := by rfl) (hpl : (backTo pos (starEach es X.env)).any (·.1) = false := by rfl) :
    RE X W Γ (.Call (.Name x p) (e :: es) [] pos) (ma >>= m) (.ow fun y => oIn C (fo y)) := by
  refine re_of (pe_makeX M Fn hr hg hm hb (fun σ => passAt tk σ) paA hdb he hpl) fun G σ F H Q o q => ?_
  refine ha G σ F H _ o (ma.mono (fun y hy vs F1 H1 o1 g1 z x dx hx hdx ne => ?_) (fun _ z => z) q)
  rw [hpp y] at z
  have gA : Go [x] F1 H1 F1 (upd H1 dx (.own x)) := Go.newO o1.le hdx
  have hx2 : (upd H1 dx (.own x)) x = none := by rw [upd_ne (Ne.symm ne)]; exact hx
  have gB : Go [x] F1 (upd H1 dx (.own x)) F1 (upd (upd H1 dx (.own x)) x (.ins C dx [])) := Go.newO gA.le hx2
  have gC := gA.trans gB (fun a h => .inl h)
  generalize hH2 : upd (upd H1 dx (.own x)) x (.ins C dx []) = H2 at gB gC ⊢
  have hH2x : H2 x = some (.ins C dx []) := by rw [← hH2]; exact upd_same
  have hFx : F1 x = none := o1.le.free hx
  have lift : ∀ {F' H'}, Go [x] F1 H2 F' H' → Ok G Γ σ F' H' ∧ Go (owns Γ) F H F' H' := fun {F' H'} g => by
    have g2 : Go [x] F1 H1 F' H' := gC.trans g (fun a h => .inl h)
    exact ⟨o1.move g2 (fun a h => .inl (by rw [List.mem_singleton.mp h]; exact hx)), g1.trans g2 (fun a h => .inr (by
      rw [List.mem_singleton.mp h]
      cases e : H x with
      | none => rfl
      | some y => obtain ⟨y', e'⟩ := g1.th _ _ e; rw [hx] at e'; cases e'))⟩
  have hHx : H x = none := by
    cases e : H x with
    | none => rfl
    | some y => obtain ⟨y', e'⟩ := g1.th _ _ e; rw [hx] at e'; cases e'
  refine ⟨y, F1, x, vs, rfl, ⟨Go.refl gB.le, fun i en he => ?_, ap_of ?_, by simp [z.1]⟩, (m y).mono (fun w hw F' H' g h1 h2 => ⟨rfl, ?_⟩) (fun ex hex cls d F' H' g r => ?_) hy⟩
  · cases i with
    | zero =>
      simp at he
      subst he
      exact ⟨rfl, hFx, by simp, _, hH2x, dx, [], rfl, trivial⟩
    | succ i =>
      have he : (pp y)[i]? = some en := by simpa using he
      have hi : i < vs.length := by rw [z.1]; exact (List.getElem?_eq_some_iff.mp he).1
      have hv := List.getElem?_eq_getElem hi
      have zz := z.2.1 i en _ he hv
      have ee : ((V.ref x :: vs).map some)[i + 1]? = some (some vs[i]) := by
        rw [List.getElem?_map, List.getElem?_cons_succ, hv]; rfl
      rw [ee]
      cases en with
      | un => trivial
      | fz r => exact ⟨_, rfl, zz⟩
      | ow l b q =>
        have := List.all_eq_true.mp (hno y) _ (List.mem_of_getElem? he)
        simp [En.own?] at this
      | lk f h r => exact zz.elim
  · have : owns (En.ow false x (oIn C []) :: pp y) = x :: owns (pp y) := rfl
    rw [this, noOwn (hno y)]
    simp
  · obtain ⟨o2, g2⟩ := lift g
    obtain ⟨u, hu, hr2⟩ := h2
    exact hw (.ref x) F' H' o2 g2 ⟨x, u, rfl, hHx, h1, hu, hr2⟩
  · obtain ⟨o2, g2⟩ := lift g
    exact hex cls d F' H' o2 g2 r
end
end
section
variable {β γ : Type}
theorem init_mk {P : Program} {w : World} {K : PySem.W.Frag} {mg : Str → Option Value} {base : Heap} {x qual : Str} {st : Stmt} {f C : Addr} {fd : FuncData} {N ps : List Str} {k : Nat} {pp : β → Ctx} {m : β → Mo γ} {fo : γ → List (Str × Pr)} {Γe : Ctx} {Γ0 : Addr → β → Ctx} {Γo : Addr → γ → Ctx}
    (F : Fun K x qual st f fd) (S : FnScope N ps (defScope st)) (hlen : ∀ y, (pp y).length + 1 = ps.length) (hΓ : ∀ a y, Γ0 a y = .ow false a (oIn C []) :: pp y ++ List.replicate (N.length - ps.length) .un) (hle : ∀ a y, Le Γe (Γ0 a y)) (hno : ∀ y, ((pp y).all fun e => e.own?.isNone) = true)
    (hout : ∀ a z, (Γo a z)[0]? = some (.ow false a (oIn C (fo z))))
    (hbody : ∀ (cdv : Value) (A : Around) (outer : List Env) (s : Shared) (H : Hp) (E : XK) (a : Addr) (y : β), Room k (A.deeper (envOfC qual (defScope st) s.heap.objs.size f cdv)) →
      RB (cxOf (L2.CX P w) P w K mg base N qual (defScope st) f cdv A outer s H E) (fun cls d _ H => E cls d H) Γe false (Γ0 a y) (defBody st) (m y) (fun z => .nx (Γo a z))) :
    FnOk P w K mg base (L2.CX P w) (k + 1) f fd ps (spI K mg C pp m fo) := by
  have ln : ∀ {vs : List V} {y : β} {a : Addr} {F0 H : Hp}, Ok ⟨F0, H, [a]⟩ (.ow false a (oIn C []) :: pp y) (vs.map some) F0 H → vs.length = ps.length := fun {vs y a F0 H} o => by
    have := o.ln
    rw [List.length_map, List.length_cons, hlen] at this
    exact this
  refine F.okX S (fun vs H Q E ⟨y, F0, a, ws, _, o, _⟩ => ln o) fun cdv A outer s H vs Q E hr ⟨y, F0, a, ws, _, o, q⟩ => ?_
  refine ⟨_, pssS, ?_⟩
  have hl := ln o
  have key : ∀ {i : Nat} {en : En}, (Γ0 a y)[i]? = some en → en = .un ∨ (En.ow false a (oIn C []) :: pp y)[i]? = some en := fun {i en} h => by
    rw [hΓ a y] at h
    by_cases hi : i < (En.ow false a (oIn C []) :: pp y).length
    · rw [List.getElem?_append_left hi] at h; exact .inr h
    · rw [List.getElem?_append_right (by omega), List.getElem?_replicate] at h
      split at h
      · cases h; exact .inl rfl
      · cases h
  have o0 : Ok ⟨F0, H, [a]⟩ (Γ0 a y) (L2.start N vs) F0 H := by
    refine ⟨o.go, fun i en he => ?_, fun i j l l' b p q h1 h2 => ?_, by rw [hΓ]; unfold L2.start; simp [hl, ← hlen y]; omega⟩
    · rcases key he with h | h
      · subst h; trivial
      · have hi : i < ps.length := by rw [← hlen y]; exact (by simpa using (List.getElem?_eq_some_iff.mp h).1)
        have z := o.en i en h
        have e : (L2.start N vs)[i]? = (vs.map some)[i]? := by
          unfold L2.start
          rw [List.getElem?_append_left (by rw [List.length_map, hl]; exact hi)]
        rw [e]
        exact z
    · rcases key h1 with h | h1
      · cases h
      · rcases key h2 with h | h2
        · cases h
        · exact o.ap i j l l' b p q h1 h2
  refine hbody cdv A outer s H E a y hr (hle a y) ⟨F0, H, [a]⟩ (L2.start N vs) F0 H { nx := fun _ H' => Q .non H', rt := Q } _ (fun _ => rfl) o0 ((m y).mono (fun z hzq σ F' H' _ o' => ?_) (fun ex hex cls d σ F' H' _ o' r => hex cls d F' H' o'.go r) q)
  obtain ⟨_, h2, _, h4⟩ := o'.en 0 _ (hout a z)
  exact hzq F' H' o'.go h2 h4
end
end RF
namespace RF
open PySem PySem.Spec PyProof.Rows L2 KO SX

class Enc {α : Type} (ρ : α → Pr) where
  n : Nat
  d : α → PyData
  ok : α → Prop
  is : ∀ {x : α} {v : V} {F : Hp}, ok x → (ρ x).r v F → Dt n F v (d x)
section
variable {α β γ δ ε : Type}
instance encI : Enc rI := ⟨1, .int, fun _ => True, fun _ h => h⟩
instance encB : Enc rB := ⟨1, .bool, fun _ => True, fun _ h => h⟩
instance encS : Enc rS := ⟨1, .str, fun _ => True, fun _ h => h⟩
instance encN : Enc rN := ⟨1, fun _ => .none, fun _ => True, fun _ h => h⟩
instance encD : Enc rD := ⟨8, id, fun _ => True, fun _ h => h⟩
instance encO {ρ : α → Pr} [s : Enc ρ] : Enc (rO ρ) := ⟨s.n + 1, fun o => match o with | none => .none | some x => s.d x, fun o => match o with | none => True | some x => s.ok x, fun {x v F} k h => by
  cases x with
  | none => exact h
  | some x => exact (s.is k h).up⟩
theorem dt_ps {F : Hp} {n : Nat} : ∀ {ps : List Pr} {ds : List PyData} {vs : List V}, ps.length = ds.length → (∀ (i : Nat) (p : Pr) (d : PyData), ps[i]? = some p → ds[i]? = some d → ∀ v, p.r v F → Dt n F v d) → Ps F ps vs → vs.length = ds.length ∧ ∀ (i : Nat) (x : V) (e : PyData), vs[i]? = some x → ds[i]? = some e → Dt n F x e := fun {ps ds vs} hl h k => by
  refine ⟨by rw [k.len, hl], fun i x e h1 h2 => ?_⟩
  obtain ⟨p, h3, h4⟩ := k.get' h1
  exact h i p e h3 h2 x h4
theorem dt_map {ρ : α → Pr} [s : Enc ρ] {F : Hp} {xs : List α} (hk : ∀ x ∈ xs, s.ok x) (i : Nat) (p : Pr) (d : PyData) (h1 : (xs.map ρ)[i]? = some p) (h2 : (xs.map s.d)[i]? = some d) (v : V) (h : p.r v F) : Dt s.n F v d := by
  rw [List.getElem?_map] at h1 h2
  cases e : xs[i]? with
  | none => rw [e] at h1; cases h1
  | some x =>
    rw [e] at h1 h2
    obtain rfl := Option.some.inj h1
    obtain rfl := Option.some.inj h2
    exact s.is (hk x (List.mem_of_getElem? e)) h
instance encL {ρ : α → Pr} [s : Enc ρ] : Enc (rL ρ) := ⟨s.n + 1, fun xs => .list (xs.map s.d), fun xs => xs.length ≤ 1000 ∧ ∀ x ∈ xs, s.ok x, fun {xs v F} k h => by
  obtain ⟨a, vs, rfl, h1, h2⟩ := h
  obtain ⟨h3, h4⟩ := dt_ps (ds := xs.map s.d) (by simp) (dt_map k.2) h2
  exact ⟨a, vs, rfl, h1, h3, by simpa using k.1, h4⟩⟩
instance encTs {ρ : α → Pr} [s : Enc ρ] : Enc (rTs ρ) := ⟨s.n + 1, fun xs => .tuple (xs.map s.d), fun xs => xs.length ≤ 1000 ∧ ∀ x ∈ xs, s.ok x, fun {xs v F} k h => by
  obtain ⟨a, vs, rfl, h1, h2⟩ := h
  obtain ⟨h3, h4⟩ := dt_ps (ds := xs.map s.d) (by simp) (dt_map k.2) h2
  exact ⟨a, vs, rfl, h1, h3, by simpa using k.1, h4⟩⟩
theorem dt_tu {F : Hp} {n : Nat} {ps : List Pr} {ds : List PyData} {v : V} (hl : ps.length = ds.length) (hz : ds.length ≤ 1000) (h : (rTu ps).r v F) (r : ∀ (i : Nat) (p : Pr) (d : PyData), ps[i]? = some p → ds[i]? = some d → ∀ v, p.r v F → Dt n F v d) : Dt (n + 1) F v (.tuple ds) := by
  obtain ⟨a, vs, rfl, h1, h2⟩ := h
  obtain ⟨h3, h4⟩ := dt_ps hl r h2
  exact ⟨a, vs, rfl, h1, h3, hz, h4⟩
theorem all2 {P : Pr → PyData → Prop} : ∀ {ps : List Pr} {ds : List PyData}, Paired P ps ds → ∀ (i : Nat) (p : Pr) (d : PyData), ps[i]? = some p → ds[i]? = some d → P p d
  | _, _, .nil, _, _, _, h, _ => by simp at h
  | _, _, .cons h t, 0, p, d, h1, h2 => by simp at h1 h2; subst h1 h2; exact h
  | _, _, .cons h t, i + 1, p, d, h1, h2 => all2 t i p d (by simpa using h1) (by simpa using h2)
section
variable {ρ : α → Pr} {σ : β → Pr} {τ : γ → Pr} {υ : δ → Pr} {φ : ε → Pr} [r : Enc ρ] [s : Enc σ] [t : Enc τ] [u : Enc υ] [w : Enc φ]
instance encT1 : Enc (rT1 ρ) := ⟨r.n + 1, fun x => .tuple [r.d x], fun x => r.ok x, fun {x v F} k h =>
  dt_tu rfl (by show 1 ≤ 1000; decide) h (all2 (.cons (fun v h => r.is k h) .nil))⟩
instance encT2 : Enc (rT2 ρ σ) := ⟨max r.n s.n + 1, fun x => .tuple [r.d x.1, s.d x.2], fun x => r.ok x.1 ∧ s.ok x.2, fun {x v F} k h =>
  dt_tu rfl (by show 2 ≤ 1000; decide) h (all2 (.cons (fun v h => (r.is k.1 h).le (by omega)) (.cons (fun v h => (s.is k.2 h).le (by omega)) .nil)))⟩
instance encT3 : Enc (rT3 ρ σ τ) := ⟨max r.n (max s.n t.n) + 1, fun x => .tuple [r.d x.1, s.d x.2.1, t.d x.2.2], fun x => r.ok x.1 ∧ s.ok x.2.1 ∧ t.ok x.2.2, fun {x v F} k h =>
  dt_tu rfl (by show 3 ≤ 1000; decide) h (all2 (.cons (fun v h => (r.is k.1 h).le (by omega)) (.cons (fun v h => (s.is k.2.1 h).le (by omega)) (.cons (fun v h => (t.is k.2.2 h).le (by omega)) .nil))))⟩
instance encT4 : Enc (rT4 ρ σ τ υ) := ⟨max r.n (max s.n (max t.n u.n)) + 1, fun x => .tuple [r.d x.1, s.d x.2.1, t.d x.2.2.1, u.d x.2.2.2], fun x => r.ok x.1 ∧ s.ok x.2.1 ∧ t.ok x.2.2.1 ∧ u.ok x.2.2.2, fun {x v F} k h =>
  dt_tu rfl (by show 4 ≤ 1000; decide) h (all2 (.cons (fun v h => (r.is k.1 h).le (by omega)) (.cons (fun v h => (s.is k.2.1 h).le (by omega)) (.cons (fun v h => (t.is k.2.2.1 h).le (by omega)) (.cons (fun v h => (u.is k.2.2.2 h).le (by omega)) .nil)))))⟩
instance encT5 : Enc (rT5 ρ σ τ υ φ) := ⟨max r.n (max s.n (max t.n (max u.n w.n))) + 1, fun x => .tuple [r.d x.1, s.d x.2.1, t.d x.2.2.1, u.d x.2.2.2.1, w.d x.2.2.2.2], fun x => r.ok x.1 ∧ s.ok x.2.1 ∧ t.ok x.2.2.1 ∧ u.ok x.2.2.2.1 ∧ w.ok x.2.2.2.2, fun {x v F} k h =>
  dt_tu rfl (by show 5 ≤ 1000; decide) h (all2 (.cons (fun v h => (r.is k.1 h).le (by omega)) (.cons (fun v h => (s.is k.2.1 h).le (by omega)) (.cons (fun v h => (t.is k.2.2.1 h).le (by omega)) (.cons (fun v h => (u.is k.2.2.2.1 h).le (by omega)) (.cons (fun v h => (w.is k.2.2.2.2 h).le (by omega)) .nil))))))⟩
end
end
section
variable {α β γ δ : Type} {X : Cx} {W : WX} {Γe Γ Γ' : Ctx} {lv : Bool} {e ee o : Expr} {es : List Expr} {st : Stmt} {rest : List Stmt} {Z : γ → Fin} {pos : Pos}
theorem re_enc {ρ : α → Pr} [s : Enc ρ] {m : Mo α} (h : RE X W Γ e m (.fz ρ)) (hn : s.n ≤ 8 := by decide) : RE X W Γ e (m >>= fun x => Mo.rq (s.ok x) (s.d x)) (.fz rD) := fun G σ F H Q o q =>
  h G σ F H Q o (m.mono (fun x hx v F' H' o' g' z => hx.2 v F' H' o' g' ((s.is hx.1 z).le hn)) (fun _ z => z) q)
theorem tE_mono : ∀ (σ : L2.St) (H : Hp) (Q Q' : VK), (∀ v H, Q v H → Q' v H) → tE X e σ H Q → tE X e σ H Q' := fun σ H Q Q' h q => by
  unfold tE at q ⊢
  exact fun pins s I => thn (q pins s I) fun u s' ⟨v, H', I', r, k⟩ => ⟨v, H', I', r, h v H' k⟩
def RX (X : Cx) (W : WX) (Γ : Ctx) (t : L2.St → Hp → XK → Prop) (m : Mo Ex) : Prop := ∀ G σ F H (Q : XK), Ok G Γ σ F H → m.run (fun ex => ∀ cls d F' H', Ok G Γ σ F' H' → Go (owns Γ) F H F' H' → ErrOk X.K X.mg ex cls d F' → Q cls d H') (EQ X W G Γ σ F H) → t σ H Q
theorem rx_1 {C : Addr} {c f : Str} {ρ : α → Pr} [s : Enc ρ] {me : Mo α} (he : RE X W Γ e me (.fz ρ)) (hm : X.mg c = some (.ref C)) (hn : s.n ≤ 8 := by decide) : RX X W Γ (tR1 C f (tE X e)) (me >>= fun x => Mo.rq (s.ok x) ⟨c, [(f, s.d x)]⟩) := fun G σ F H Q o q => by
  refine he G σ F H _ o (me.mono (fun x hx v F' H' o' g' z d hd => ?_) (fun _ z => z) q)
  obtain ⟨o2, g2⟩ := o'.new (u := .xd [(f, v)]) hd
  refine hx.2 _ _ _ _ o2 (g'.trans g2 owns_tr) ⟨C, hm, rfl, .inr ⟨d, _, rfl, upd_same, fun f' y h => ?_⟩⟩
  have h : List.lookup f' [(f, s.d x)] = some y := h
  rw [List.lookup_cons] at h ⊢
  cases k : (f' == f) with
  | true =>
    rw [k] at h
    cases h
    exact ⟨v, rfl, ((s.is hx.1 z).mono g2.fs).le hn⟩
  | false => rw [k] at h; cases h
theorem rb_raise {t : L2.St → Hp → XK → Prop} {mx : Mo Ex} (hp : PMk X ee t) (tk : Takes X W) (hx : RX X W Γ t mx) (hc : X.calm = true := by rfl) : RB X W Γe lv Γ (.Raise (some ee) none pos :: rest) (mx >>= fun ex => Mo.throw ex) Z := fun le G σ F H D nx' hn o q =>
  tSs_cons (ps_raise hc tk hp) (hx G σ F H _ o (mx.mono (fun ex h cls d F' H' o' g' z => h cls d σ F' H' o'.go.fs (o'.weak le) z) (fun _ => XQ.eq le) q))
end
end RF
namespace RF
open PySem PySem.Spec PyProof.Rows L2 KO SX

section
variable {α β γ δ : Type}
def Mo.catch1 (m : Mo α) (cn : Str) (fls : List Str) (h : Ex → Mo α) : Mo α := ⟨fun Q E => m.run Q fun ex => if ex.cls = cn then (h ex).run Q (fun _ => False) else (ex.cls ∈ fls ∧ E ex), fun {Q Q' E E'} hq he r => m.mono hq (fun ex hx => by
  by_cases c : ex.cls = cn
  · rw [if_pos c] at hx ⊢
    exact (h ex).mono hq (fun _ z => z) hx
  · rw [if_neg c] at hx ⊢
    exact ⟨hx.1, he _ hx.2⟩) r⟩
@[simp] theorem Mo.run_catch1 {m : Mo α} {cn : Str} {fls : List Str} {h : Ex → Mo α} {Q : α → Prop} {E : Ex → Prop} : (Mo.catch1 m cn fls h).run Q E = m.run Q fun ex => if ex.cls = cn then (h ex).run Q (fun _ => False) else (ex.cls ∈ fls ∧ E ex) := rfl
def exP (a : Addr) (d : Option Addr) (ex : Ex) : Pr := ⟨fun v F => v = .ref a ∧ ((d = none ∧ ex.fs = []) ∨ ∃ dd fs, d = some dd ∧ F dd = some (.xd fs) ∧ ∀ f y, ex.fs.lookup f = some y → ∃ v, fs.lookup f = some v ∧ Dt 8 F v y), fun s h => ⟨h.1, h.2.imp id fun ⟨dd, fs, h1, h2, h3⟩ => ⟨dd, fs, h1, s _ _ h2, fun f y h => by
  obtain ⟨v, h4, h5⟩ := h3 f y h
  exact ⟨v, h4, h5.mono s⟩⟩⟩⟩
variable {X : Cx} {W : WX} {Γe Γx Γ Γ' : Ctx} {lv : Bool} {e : Expr} {st : Stmt} {rest body suite : List Stmt} {Z : γ → Fin} {pos : Pos}
def tTb (X : Cx) (body : List Stmt) (W : WX) : TS := fun D σ H => ∀ (pn : List (Addr × Obj)) (xe : Value → Shared → Prop), Takes (X.tr pn xe) W → PassesOwn (model X.prog X.w) X.A X.env xe → tSs (X.tr pn xe) body D σ H
def tTs (X : Cx) (suite : List Stmt) (a : Addr) (cls : Value) (d : Option Addr) : TS := fun D σ H => ∀ (oe : Obj) (pn : List (Addr × Obj)), Zc cls d oe → (∃ vs, oe.data = .fields vs) → tSs (X.suite a ((a, oe) :: pn)) suite D σ H
theorem tb_ok (W : WX) (pn : List (Addr × Obj)) (xe : Value → Shared → Prop) (h1 : Takes (X.tr pn xe) W) (h2 : PassesOwn (model X.prog X.w) X.A X.env xe) : PSs (X.tr pn xe) body (tTb X body W) := ⟨fun pins s σ H D I h => pssS.run pins s σ H D I (h pn xe h1 h2)⟩
theorem ts_ok (a : Addr) (oe : Obj) (cls : Value) (d : Option Addr) (pn : List (Addr × Obj)) (h1 : Zc cls d oe) (h2 : ∃ vs, oe.data = .fields vs) : PSs (X.suite a ((a, oe) :: pn)) suite (tTs X suite a cls d) := ⟨fun pins s σ H D I h => pssS.run pins s σ H D I (h oe pn h1 h2)⟩
theorem Ok.toSuite {G : Gf} {σ : L2.St} {F H : Hp} {i : Nat} {a : Addr} {cls : Value} {d : Option Addr} {ex : Ex} (o : Ok G Γ σ F H) (z : ErrOk X.K X.mg ex cls d F) : Ok G (Γ.set i (.fz (exP a d ex))) (σ.set i (some (.ref a))) F H := by
  obtain ⟨C, h1, h2, h3⟩ := z
  exact o.set ⟨rfl, h3⟩
theorem le_un {n : Nat} {p : Pr} : ∀ {B : Ctx} {i : Nat}, Le (List.replicate n .un) (B.set i .un) → Le (List.replicate n .un) (B.set i (.fz p)) := by
  induction n with
  | zero => 
    intro B i h
    cases B with
    | nil => exact trivial
    | cons b B => cases i <;> exact h.elim
  | succ n ih =>
    intro B i h
    cases B with
    | nil => exact h.elim
    | cons b B =>
      cases i with
      | zero => exact ⟨.inl rfl, h.2⟩
      | succ i => exact ⟨.inl rfl, ih h.2⟩
end
def spPool (K : PySem.W.Frag) : Sp := fun vs H Q _ => ∃ (a : Addr) (ns : List Int) (k : Nat), vs = [.ref a, .int k] ∧ SqL K H a (ns.map V.int) ∧ k ≤ 1000 ∧ ∀ H' p, H p = none → Same H H' → Pool H' p → Q (.ref p) H'
def spTake : Sp := fun vs H Q _ => ∃ (p : Addr) (m : Int), vs = [.ref p, .int m] ∧ Pool H p ∧ 0 < m ∧ m < 1152921504606846976 ∧ ∀ H' r, 0 ≤ r → r < m → Run p H H' → Q (.int r) H'
def oPool : Po := ⟨fun o _ => ∃ x f c : Int, o = .lst [.int x, .int f, .int c], fun _ h => h⟩
def rScr (K : PySem.W.Frag) (ns : List Int) : Pr := ⟨fun v F => ∃ a, v = .ref a ∧ SqL K F a (ns.map V.int), fun s ⟨a, e, h⟩ => ⟨a, e, s.seq h⟩⟩
def Mo.take (m : Int) : Mo Int := Mo.rq (0 < m ∧ m < 1152921504606846976) () >>= fun _ => Mo.any (fun r : Int => 0 ≤ r ∧ r < m)
theorem args2 {G : Gf} {p q : Pr} {vs : List V} {F H : Hp} (o : Ok G [.fz p, .fz q] (vs.map some) F H) : ∃ u, (∃ v, vs = [u, v] ∧ q.r v F) ∧ p.r u F := by
  have hl : vs.length = 2 := by
    have := o.ln
    rw [List.length_map] at this
    exact this
  obtain ⟨u, v, rfl⟩ : ∃ u v, vs = [u, v] := by
    match vs, hl with
    | [u, v], _ => exact ⟨u, v, rfl⟩
  obtain ⟨v', e, h6⟩ := o.en 0 _ rfl
  obtain ⟨v2, e2, h7⟩ := o.en 1 _ rfl
  have e : some (some u) = some (some v') := e
  have e2 : some (some v) = some (some v2) := e2
  cases e
  cases e2
  exact ⟨u, ⟨v, rfl, h7⟩, h6⟩
section
variable {P : Program} {w : World} {K : PySem.W.Frag} {mg : Str → Option Value} {base : Heap} {k : Nat} {f : Addr} {fd : FuncData} {ps : List Str} {sp sp' : Sp}
theorem _root_.L2.FnOk.cx (F : FnOk P w K mg base CX0 k f fd ps sp) : FnOk P w K mg base (L2.CX P w) k f fd ps sp := ⟨F.len, fun A outer s H args us vs Q E hr e0 hb hv hs => codeAny_mono (F.run A outer s H args us vs Q E hr e0 hb hv hs) fun r s' h => by
  cases r with
  | error e => exact h.elim
  | ok fl => cases fl <;> exact h⟩
theorem _root_.L2.FnOk.c0 (F : FnOk P w K mg base (L2.CX P w) k f fd ps sp) (hi : ∀ vs H Q E, sp' vs H Q E → sp vs H Q E0) : FnOk P w K mg base CX0 k f fd ps sp' := ⟨fun vs H Q E h => F.len vs H Q E0 (hi vs H Q E h), fun A outer s H args us vs Q E hr e0 hb hv hs => codeAny_mono (F.run A outer s H args us vs Q E0 hr e0 hb hv (hi vs H Q E hs)) fun r s' h => by
  cases r with
  | error e =>
    obtain ⟨_, _, _, _, _, _, _, _, _, _, _, _, z⟩ := h
    exact z.elim
  | ok fl => cases fl <;> exact h⟩
theorem run_go {p : Addr} {F H H' : Hp} (s : Same F H) (hF : F p = none) (r : Run p H H') : Go [p] F H F H' where
  fs := Same.refl _
  le := fun b o e => r.1 b o (ne_of_none e hF) (s b o e)
  hs := fun b o n e => r.1 b o (by simpa using n) e
  fr := fun b o _ e => e
  th := fun b o e => by
    by_cases h : b = p
    · subst h
      obtain ⟨x, f, c, q⟩ := r.2
      exact ⟨_, q⟩
    · exact ⟨o, r.1 b o h e⟩
theorem take_sp {vs : List V} {H : Hp} {Q : VK} {E : XK} (h : spR K mg (fun (a : Addr) (z : Int × Unit) => [.ow false a oPool, .fz (rI z.1)]) (fun z => Mo.take z.1) (.fz rI) vs H Q E) : spTake vs H Q E := by
  obtain ⟨a, ⟨m, _⟩, F, o, q⟩ := h
  have hl : vs.length = 2 := by
    have := o.ln
    rw [List.length_map] at this
    exact this
  obtain ⟨u, v, rfl⟩ : ∃ u v, vs = [u, v] := by
    match vs, hl with
    | [u, v], _ => exact ⟨u, v, rfl⟩
  obtain ⟨h1, h2, _, x, h4, h5⟩ := o.en 0 _ rfl
  obtain ⟨v', e, h6⟩ := o.en 1 _ rfl
  have h1 : some (some u) = some (some (V.ref a)) := h1
  have e : some (some v) = some (some v') := e
  cases h1
  cases e
  obtain rfl : v = .int m := h6
  obtain ⟨x, f, c, rfl⟩ := h5
  refine ⟨a, m, rfl, ⟨x, f, c, h4⟩, q.1.1, q.1.2, fun H' r h0 h1 R => ?_⟩
  refine q.2 r ⟨h0, h1⟩ _ F H' (run_go o.le h2 R) (fun i l b p h => ?_) rfl
  match i, h with
  | 0, h =>
    cases h
    obtain ⟨x, f, c, h⟩ := R.2
    exact ⟨h2, _, h, x, f, c, rfl⟩
  | 1, h => cases h
  | i + 2, h => cases h
theorem pool_sp {vs : List V} {H : Hp} {Q : VK} {E : XK} (h : spR K mg (fun (_ : Unit) (z : List Int × Int × Unit) => [.fz (rScr K z.1), .fz (rI z.2.1)]) (fun z => Mo.rq (0 ≤ z.2.1 ∧ z.2.1 ≤ 1000) ()) (.ow fun _ => oPool) vs H Q E) : spPool K vs H Q E := by
  obtain ⟨_, ⟨ns, k, _⟩, F, o, q⟩ := h
  obtain ⟨u, ⟨v, rfl, h2⟩, a, rfl, h1⟩ := args2 o
  obtain rfl : v = .int k := h2
  obtain ⟨⟨k0, k1⟩, q⟩ := q
  obtain ⟨j, rfl⟩ := Int.eq_ofNat_of_zero_le k0
  have k1 : (j : Int) ≤ 1000 := k1
  refine ⟨a, ns, j, rfl, o.le.seq h1, by omega, fun H' p hp s pl => ?_⟩
  obtain ⟨x, f, c, hpl⟩ := pl
  exact q _ F H' ⟨Same.refl _, o.le.trans s, fun b o _ e => s b o e, fun b o _ e => e, fun b o e => ⟨o, s b o e⟩⟩ (fun i l b p h => by
    match i, h with
    | 0, h => cases h
    | 1, h => cases h
    | i + 2, h => cases h) ⟨p, _, rfl, hp, o.le.free hp, hpl, x, f, c, rfl⟩
end
end RF
namespace RF
open PySem PySem.Spec PyProof.Rows L2 KO SX

section
variable {α β γ δ : Type} {X : Cx} {W : WX} {Γ : Ctx} {e a b c d : Expr} {pos : Pos} {op op' op2 : CmpOp}
def RC (X : Cx) (W : WX) (Γ : Ctx) (op : CmpOp) (a b : Expr) (m : Mo Bool) : Prop := ∃ r, OpR X (compareOp op) r ∧ RTE X W Γ (tOp r (tE X a) (tE X b)) m (.fz rB)
theorem re_rc {m : Mo Bool} (h : RC X W Γ op a b m) (hm : behindInMarks op b = false := by rfl) : RE X W Γ (.Compare a [op] [b] pos) m (.fz rB) := by
  obtain ⟨r, ho, h⟩ := h
  exact re_of (pe_cmpR ho peE peE hm) h
theorem rt_rc {m : Mo Bool} (h : RC X W Γ op a b m) (hm : behindInMarks op b = false := by rfl) : RT X W Γ (.Compare a [op] [b] pos) m := by
  obtain ⟨r, ho, h⟩ := h
  exact rt_of (pt_cmpR ho peE peE hm) fun G σ F H Q o q => h G σ F H _ o (Mo.mono _ (fun x hx v F' H' o' g' z => ⟨x, z, hx F' H' o' g'⟩) (fun _ z => z) q)
section
variable {ma : Mo α} {mb : Mo β} {ρa : α → Pr} {ρb : β → Pr} {r : R2} {f : α → β → Bool}
theorem rc_of (ho : OpR X (compareOp op) r) (hr : ∀ x y, ROp X W Γ r (ρa x) (ρb y) (pure (f x y)) (.fz rB)) (ha : RE X W Γ a ma (.fz ρa)) (hb : RE X W Γ b mb (.fz ρb)) : RC X W Γ op a b (ma >>= fun x => mb >>= fun y => pure (f x y)) := ⟨r, ho, rte_two ha hb hr⟩
end
structure ICmp (X : Cx) (op : CmpOp) (f : Int → Int → Bool) : Prop where
  h : ∃ r, OpR X (compareOp op) r ∧ ∀ (W : WX) (Γ : Ctx) (x y : Int), ROp X W Γ r (rI x) (rI y) (pure (f x y)) (.fz rB)
theorem i_eq : ICmp X .Eq (fun i j => decide (i = j)) := ⟨rEq, op_eq, fun W Γ i j G σ F H Q u w o hu hw q => by
    obtain rfl : u = .int i := hu
    obtain rfl : w = .int j := hw
    refine ⟨rfl, NQ.here (ρ := rB) q o ?_⟩
    show V.bl (decide (V.int i = V.int j)) = V.bl (decide (i = j))
    congr 1
    exact decide_eq_decide.mpr ⟨fun h => V.int.inj h, fun h => by rw [h]⟩⟩
theorem i_ne : ICmp X .NotEq (fun i j => decide (i ≠ j)) := ⟨rNe, op_ne, fun W Γ i j G σ F H Q u w o hu hw q => by
    obtain rfl : u = .int i := hu
    obtain rfl : w = .int j := hw
    refine ⟨rfl, NQ.here (ρ := rB) q o ?_⟩
    show V.bl (!decide (V.int i = V.int j)) = V.bl (decide (i ≠ j))
    congr 1
    by_cases h : i = j
    · subst h; simp
    · have : V.int i ≠ V.int j := fun z => h (V.int.inj z)
      simp [h, this]⟩
section
variable {ma mb mc md : Mo Int} {f f' f2 : Int → Int → Bool}
theorem rc_i (hi : ICmp X op f) (ha : RE X W Γ a ma (.fz rI)) (hb : RE X W Γ b mb (.fz rI)) : RC X W Γ op a b (ma >>= fun i => mb >>= fun j => pure (f i j)) := by
  obtain ⟨r, ho, hr⟩ := hi.h
  exact rc_of ho (hr W Γ) ha hb
end
section
variable {ma : Mo (Option α)} {ρ : α → Pr} {j : Nat} {p2 : Pos}
class NN (ρ : α → Pr) : Prop where
  nn : ∀ x v F, (ρ x).r v F → v ≠ .non
instance : NN rI := ⟨fun x v F h z => by subst z; cases h⟩
instance : NN rB := ⟨fun x v F h z => by subst z; cases h⟩
instance : NN rS := ⟨fun x v F h z => by subst z; cases h⟩
instance {ρ : α → Pr} : NN (rL ρ) := ⟨fun x v F ⟨a, vs, e, _⟩ z => by subst z; cases e⟩
instance {ρ : α → Pr} : NN (rTs ρ) := ⟨fun x v F ⟨a, vs, e, _⟩ z => by subst z; cases e⟩
theorem nn_tu {ps : List Pr} {v : V} {F : Hp} (h : (rTu ps).r v F) : v ≠ .non := fun z => by
  obtain ⟨a, vs, e, _⟩ := h
  subst z; cases e
instance {ρ : α → Pr} {σ : β → Pr} : NN (rT2 ρ σ) := ⟨fun x v F h => nn_tu h⟩
instance {ρ : α → Pr} {σ : β → Pr} {τ : γ → Pr} : NN (rT3 ρ σ τ) := ⟨fun x v F h => nn_tu h⟩
theorem rc_isN [n : NN ρ] (ha : RE X W Γ a ma (.fz (rO ρ))) : RC X W Γ .Is a (.Constant .none j p2) (ma >>= fun x => pure x.isNone) := ⟨_, op_isN, fun G σ F H Q o q => by
  refine ha G σ F H _ o (ma.mono (fun x hx v F' H' o' g' z => tE_i fun pins s I => pe_non.run pins s σ H' _ I ⟨rfl, ?_⟩) (fun _ z => z) q)
  refine hx _ F' H' o' g' ?_
  cases x with
  | none => obtain rfl : v = .non := z; rfl
  | some x => show V.bl (decide (v = .non)) = V.bl false; rw [decide_eq_false (n.nn x v F' z)]⟩
end
section
variable {ma : Mo α} {mb : Mo β} {ρa : α → Pr} {ρb : β → Pr} [sa : Sc ρa] [sb : Sc ρb]
theorem rc_eqS (hs : ∀ x y, scal (sa.v x) (sb.v y) = true) (ha : RE X W Γ a ma (.fz ρa)) (hb : RE X W Γ b mb (.fz ρb)) : RC X W Γ .Eq a b (ma >>= fun i => mb >>= fun j => pure (decide (sa.v i = sb.v j))) := rc_of op_eq (rop_eq hs) ha hb
theorem rc_neS (hs : ∀ x y, scal (sa.v x) (sb.v y) = true) (ha : RE X W Γ a ma (.fz ρa)) (hb : RE X W Γ b mb (.fz ρb)) : RC X W Γ .NotEq a b (ma >>= fun i => mb >>= fun j => pure (!decide (sa.v i = sb.v j))) := rc_of op_ne (rop_ne hs) ha hb
end
section
variable {ma : Mo γ} {mb : Mo (List γ)} {ρ : γ → Pr} [s : Sc ρ] {k : Bool}
end
section
variable {mi : Mo Int} {ms : Mo Str} {mis : Mo (List Int)} {mss : Mo (List Str)} {k : Bool}
end
section
variable {ma : Mo PyData} {mb : Mo PyData}
end
end
end RF
namespace RF
open PySem PySem.Spec PyProof.Rows L2 KO SX
section
variable {α β γ δ : Type} {X : Cx} {W : WX} {Γe Γx Γ Γ' : Ctx} {lv : Bool} {e ee o a b c : Expr} {es : List Expr} {st : Stmt} {rest body suite : List Stmt} {Z : γ → Fin} {pos : Pos} {t : TE}
section
variable {ad C : Addr} {oe : Obj} {d : Option Addr} {pn : List (Addr × Obj)} {ex : Ex} {n f : Str} {i : Nat} {p : Pos}
theorem re_exf (T : XfC X.K C) (hno : PySem.W.findIn X.K (.ref C) f = some none) (hz : Zc (.ref C) d oe) (hf : ∃ vs, oe.data = .fields vs) (hi : Γ[i]? = some (.fz (exP ad d ex))) (hp : PE (X.suite ad ((ad, oe) :: pn)) (.Name n p) (tVar i)) (hb : attributeBase (.Name n p) f X.env (eval (.Name n p) X.env) = eval (.Name n p) X.env := by rfl) :
    RE (X.suite ad ((ad, oe) :: pn)) W Γ (.Attribute (.Name n p) f pos) (Mo.get (ex.fs.lookup f)) (.fz rD) :=
  re_of (pe_xf T hno hz hf hp hb) fun G σ F H Q o q => by
    obtain ⟨v, h1, rfl, h2⟩ := o.en i _ hi
    obtain ⟨y, hy, q⟩ := q
    refine ⟨.ref ad, h1, rfl, rfl, ?_⟩
    rcases h2 with ⟨_, h2⟩ | ⟨dd, fs, h2, h3, h4⟩
    · rw [h2] at hy; cases hy
    · obtain ⟨u, h5, h6⟩ := h4 f y hy
      exact ⟨dd, fs, u, h2, o.le _ _ h3, h5, NQ.here (ρ := rD) q o h6⟩
theorem call_isA {D : Addr} (Ce : ExcC X.K D) (hz : Zc (.ref D) d oe) (hf : ∃ vs, oe.data = .fields vs) : CallR (X.suite ad ((ad, oe) :: pn)) (.builtin "isinstance") (fun xs H Q => rIsX X.K D ad (.ref D) d xs H Q ∨ rIsD X.K D ad (.ref D) d xs H Q) := by
  intro pins s σ H xs us Q I r h
  rcases h with h | h
  · exact call_isX Ce hz hf pins s σ H xs us Q I r h
  · exact call_isD Ce hz hf pins s σ H xs us Q I r h
theorem re_exis {r : Bool} {cv : Value} {v : V} {p2 p3 : Pos} {n2 : Str} (Ce : ExcC X.K C) (hz : Zc (.ref C) d oe) (hf : ∃ vs, oe.data = .fields vs) (hi : Γ[i]? = some (.fz (exP ad d ex))) (hp : PE (X.suite ad ((ad, oe) :: pn)) (.Name n p) (tVar i)) (hc : PE (X.suite ad ((ad, oe) :: pn)) (.Name n2 p2) (tC v)) (hcv : ∀ u, RelV v u → u = cv) (hk : PySem.W.kitOne X.K (.ref C) cv = some r)
    (hm : X.mg "isinstance" = none) (hg : Gl X "isinstance" := by rfl) :
    RE (X.suite ad ((ad, oe) :: pn)) W Γ (.Call (.Name "isinstance" p3) [.Name n p, .Name n2 p2] [] pos) (pure r) (.fz rB) :=
  re_of (pe_callB (X := X.suite ad ((ad, oe) :: pn)) (call_isA Ce hz hf) hg hm (by decide +kernel) (pa_cons hp (pa_cons hc pa_nil))) fun G σ F H Q o q => by
    obtain ⟨u, h1, rfl, h2⟩ := o.en i _ hi
    refine ⟨.ref ad, h1, ?_⟩
    have fin : rIsE X.K C ad [.ref ad, v] H Q := ⟨v, cv, r, rfl, hcv, hk, NQ.here (ρ := rB) q o rfl⟩
    rcases h2 with ⟨h2, _⟩ | ⟨dd, fs, h2, h3, _⟩
    · exact .inl ⟨rfl, h2, fin⟩
    · exact .inr ⟨rfl, dd, fs, h2, o.le _ _ h3, fin⟩
end
end
end RF
namespace RF
open PySem PySem.Spec PyProof.Rows L2 KO SX
section
variable {α β γ δ : Type}
def Ks (F : Hp) (ρ : α → Pr) : List (Int × α) → List (Key × V) → Prop
  | [], [] => True
  | (k, x) :: r, (k', v) :: r' => k' = .inl k ∧ (ρ x).r v F ∧ Ks F ρ r r'
  | _, _ => False
def dget (kvs : List (Int × α)) (k : Int) : Option α := (kvs.find? fun p => decide (p.1 = k)).map (·.2)
def dput (kvs : List (Int × α)) (k : Int) (x : α) : List (Int × α) := if (kvs.any fun p => decide (p.1 = k)) = true then kvs.map (fun p => if p.1 = k then (p.1, x) else p) else kvs ++ [(k, x)]
section
variable {F F' : Hp} {ρ : α → Pr}
theorem Ks.mono (s : Same F F') : ∀ {kvs : List (Int × α)} {gs : List (Key × V)}, Ks F ρ kvs gs → Ks F' ρ kvs gs
  | [], [], _ => trivial
  | (_, x) :: _, (_, _) :: _, h => ⟨h.1, (ρ x).mono s h.2.1, Ks.mono s h.2.2⟩
  | [], _ :: _, h => h.elim
  | _ :: _, [], h => h.elim
theorem Ks.len : ∀ {kvs : List (Int × α)} {gs : List (Key × V)}, Ks F ρ kvs gs → gs.length = kvs.length
  | [], [], _ => rfl
  | (_, _) :: _, (_, _) :: _, h => by simp [Ks.len h.2.2]
  | [], _ :: _, h => h.elim
  | _ :: _, [], h => h.elim
theorem keydec (a b : Int) : (decide ((Sum.inl a : Key) = Sum.inl b)) = decide (a = b) := by
  by_cases h : a = b
  · subst h; simp
  · have : ¬ (Sum.inl a : Key) = Sum.inl b := fun q => h (Sum.inl.inj q)
    simp [h, this]
theorem Ks.get {k : Int} : ∀ {kvs : List (Int × α)} {gs : List (Key × V)}, Ks F ρ kvs gs → (∃ x v, dget kvs k = some x ∧ valV gs (Sum.inl k) = some v ∧ (ρ x).r v F) ∨ (dget kvs k = none ∧ valV gs (Sum.inl k) = none)
  | [], [], _ => .inr ⟨rfl, rfl⟩
  | (k1, x) :: r, (k2, v) :: r', h => by
    obtain ⟨rfl, h1, h2⟩ := h
    unfold dget valV
    rw [List.find?_cons, List.find?_cons, keydec]
    by_cases e : k1 = k
    · simp only [e, decide_true]
      exact .inl ⟨x, v, rfl, rfl, h1⟩
    · simp only [e, decide_false]
      exact Ks.get h2
  | [], _ :: _, h => h.elim
  | _ :: _, [], h => h.elim
theorem Ks.any {k : Int} : ∀ {kvs : List (Int × α)} {gs : List (Key × V)}, Ks F ρ kvs gs → (gs.any fun kv => decide (kv.1 = (Sum.inl k : Key))) = kvs.any fun p => decide (p.1 = k)
  | [], [], _ => rfl
  | (k1, x) :: r, (k2, v) :: r', h => by
    obtain ⟨rfl, h1, h2⟩ := h
    rw [List.any_cons, List.any_cons, Ks.any h2, keydec]
  | [], _ :: _, h => h.elim
  | _ :: _, [], h => h.elim
theorem Ks.app : ∀ {kvs kvs2 : List (Int × α)} {gs gs2 : List (Key × V)}, Ks F ρ kvs gs → Ks F ρ kvs2 gs2 → Ks F ρ (kvs ++ kvs2) (gs ++ gs2)
  | [], _, [], _, _, h => h
  | (_, _) :: _, _, (_, _) :: _, _, h, k => ⟨h.1, h.2.1, Ks.app h.2.2 k⟩
  | [], _, _ :: _, _, h, _ => h.elim
  | _ :: _, _, [], _, h, _ => h.elim
theorem Ks.rep {k : Int} {x : α} {v : V} (hv : (ρ x).r v F) : ∀ {kvs : List (Int × α)} {gs : List (Key × V)}, Ks F ρ kvs gs → Ks F ρ (kvs.map fun p => if p.1 = k then (p.1, x) else p) (gs.map fun kv => if kv.1 = (Sum.inl k : Key) then (kv.1, v) else kv)
  | [], [], _ => trivial
  | (k1, y) :: r, (k2, u) :: r', h => by
    obtain ⟨rfl, h1, h2⟩ := h
    have ih := Ks.rep (k := k) hv h2
    by_cases e : k1 = k
    · simp only [List.map_cons, e, if_true]
      exact ⟨rfl, hv, ih⟩
    · have e2 : ¬ (Sum.inl k1 : Key) = Sum.inl k := fun q => e (Sum.inl.inj q)
      simp only [List.map_cons, e, e2, if_false]
      exact ⟨rfl, h1, ih⟩
  | [], _ :: _, h => h.elim
  | _ :: _, [], h => h.elim
theorem Ks.put {k : Int} {x : α} {v : V} {kvs : List (Int × α)} {gs : List (Key × V)} (h : Ks F ρ kvs gs) (hv : (ρ x).r v F) : Ks F ρ (dput kvs k x) (putK gs (Sum.inl k) v) := by
  unfold dput putK
  rw [h.any]
  split
  · exact h.rep hv
  · exact h.app ⟨rfl, hv, trivial⟩
end
def oDk (ρ : α → Pr) (kvs : List (Int × α)) : Po := ⟨fun o F => ∃ gs, o = .dK gs ∧ Ks F ρ kvs gs, fun s ⟨gs, e, h⟩ => ⟨gs, e, h.mono s⟩⟩
variable {X : Cx} {W : WX} {Γe Γx Γ Γ' : Ctx} {lv : Bool} {e ee o a b c : Expr} {es : List Expr} {st : Stmt} {rest body suite : List Stmt} {Z : γ → Fin} {pos p2 p3 : Pos} {t : TE} {ρ : α → Pr}
section
variable {i : Nat} {l : Bool} {ad : Addr} {kvs : List (Int × α)} {x : Str} {mk : Mo Int}
end
section
variable {C : Addr} {oe : Obj} {d : Option Addr} {pn : List (Addr × Obj)} {ex : Ex} {n f : Str} {i : Nat} {p : Pos}
inductive ClsEs (X : Cx) : List Expr → List Addr → Prop where
  | nil : ClsEs X [] []
  | cons {n : Str} {p : Pos} {C : Addr} {es : List Expr} {cs : List Addr} (h : PE X (.Name n p) (tC (.ref C))) (hc : starEach (.Name n p :: es) X.env = (false, eval (.Name n p) X.env) :: starEach es X.env) (r : ClsEs X es cs) : ClsEs X (.Name n p :: es) (C :: cs)
def tCs : List Addr → TA
  | [] => tNil
  | c :: cs => tCons (tC (.ref c)) (tCs cs)
theorem ClsEs.pa {X : Cx} : ∀ {es : List Expr} {cs : List Addr}, ClsEs X es cs → PA X es (tCs cs)
  | _, _, .nil => pa_nil
  | _, _, .cons h hc r => pa_cons h r.pa hc
end
end
end RF
namespace RF
open PySem PySem.Spec PyProof.Rows L2 KO SX
section
variable {α β γ δ : Type} {X : Cx} {W : WX} {Γe Γ Γ' : Ctx} {lv : Bool} {e ee o a b c : Expr} {es : List Expr} {st : Stmt} {rest body suite : List Stmt} {Z : γ → Fin} {pos p2 p3 : Pos} {t : TE}
theorem re_get {ρ : α → Pr} {m : Mo (Option α)} (h : RE X W Γ e m (.fz (rO ρ))) : RE X W Γ e (m >>= Mo.get) (.fz ρ) := fun G σ F H Q o q =>
  h G σ F H Q o (m.mono (fun x hx v F' H' o' g' z => by
    obtain ⟨y, rfl, hx⟩ := hx
    exact hx v F' H' o' g' z) (fun _ z => z) q)
class NL (ρ : α → Pr) : Prop where
  nl : ∀ {x : α} {v : V} {F : Hp} {a : Addr} {vs : List V}, F a = some (.lst vs) → (ρ x).r v F → (ρ x).r v (del F a)
class NLP (q : Po) : Prop where
  nl : ∀ {u : HO} {F : Hp} {a : Addr} {vs : List V}, F a = some (.lst vs) → q.r u F → q.r u (del F a)
def NLr (p : Pr) : Prop := ∀ {v : V} {F : Hp} {a : Addr} {vs : List V}, F a = some (.lst vs) → p.r v F → p.r v (del F a)
instance : NL rI := ⟨fun _ h => h⟩
instance : NL rB := ⟨fun _ h => h⟩
instance : NL rS := ⟨fun _ h => h⟩
instance : NL rN := ⟨fun _ h => h⟩
instance {ρ : α → Pr} [n : NL ρ] : NL (rO ρ) := ⟨fun {x} {v F a vs} h k => by
  cases x with
  | none => exact k
  | some y => exact n.nl h k⟩
theorem Ps.nl {F : Hp} {a : Addr} {us : List V} (h : F a = some (.lst us)) : ∀ {ps : List Pr} {vs : List V}, (∀ p ∈ ps, NLr p) → Ps F ps vs → Ps (del F a) ps vs
  | [], [], _, _ => trivial
  | p :: ps, v :: vs, n, k => ⟨n p List.mem_cons_self h k.1, Ps.nl h (fun q hq => n q (List.mem_cons_of_mem _ hq)) k.2⟩
  | [], _ :: _, _, k => k.elim
  | _ :: _, [], _, k => k.elim
theorem nl_T {ps : List Pr} (n : ∀ p ∈ ps, NLr p) : NLr (rTu ps) := fun {v F a vs} h k => by
  obtain ⟨t, ws, rfl, h1, h2⟩ := k
  have hne : t ≠ a := by
    rintro rfl
    rcases h1 with h1 | ⟨o, h1⟩ <;> (rw [h] at h1; cases h1)
  exact ⟨t, ws, rfl, h1.imp (fun h => del_ok h hne) (fun ⟨o, h⟩ => ⟨o, del_ok h hne⟩), h2.nl h n⟩
theorem nlr {ρ : α → Pr} [n : NL ρ] (x : α) : NLr (ρ x) := fun h k => n.nl h k
theorem nl_mem1 {p : Pr} (h : NLr p) : ∀ q ∈ [p], NLr q := fun q hq => by rw [List.mem_singleton.mp hq]; exact h
theorem nl_memc {p : Pr} {ps : List Pr} (h : NLr p) (k : ∀ q ∈ ps, NLr q) : ∀ q ∈ p :: ps, NLr q := fun q hq => by
  rcases List.mem_cons.mp hq with e | e
  · rw [e]; exact h
  · exact k q e
section
variable {ε ζ : Type} {ρ : α → Pr} {σ : β → Pr} {τ : γ → Pr} {υ : δ → Pr} {φ : ε → Pr}
instance [NL ρ] : NL (rTs ρ) := ⟨fun {xs} {v F a vs} h k => nl_T (fun p hp => by
  obtain ⟨x, _, rfl⟩ := List.mem_map.mp hp
  exact nlr x) h k⟩
instance [NL ρ] : NL (rT1 ρ) := ⟨fun {x} {v F a vs} h k => nl_T (nl_mem1 (nlr _)) h k⟩
instance [NL ρ] [NL σ] : NL (rT2 ρ σ) := ⟨fun {x} {v F a vs} h k => nl_T (nl_memc (nlr _) (nl_mem1 (nlr _))) h k⟩
instance [NL ρ] [NL σ] [NL τ] : NL (rT3 ρ σ τ) := ⟨fun {x} {v F a vs} h k => nl_T (nl_memc (nlr _) (nl_memc (nlr _) (nl_mem1 (nlr _)))) h k⟩
instance [NL ρ] [NL σ] [NL τ] [NL υ] : NL (rT4 ρ σ τ υ) := ⟨fun {x} {v F a vs} h k => nl_T (nl_memc (nlr _) (nl_memc (nlr _) (nl_memc (nlr _) (nl_mem1 (nlr _))))) h k⟩
instance [NL ρ] [NL σ] [NL τ] [NL υ] [NL φ] : NL (rT5 ρ σ τ υ φ) := ⟨fun {x} {v F a vs} h k => nl_T (nl_memc (nlr _) (nl_memc (nlr _) (nl_memc (nlr _) (nl_memc (nlr _) (nl_mem1 (nlr _)))))) h k⟩
instance [n : NL ρ] {xs : List α} : NLP (oL ρ xs) := ⟨fun {u F a vs} h k => by
  obtain ⟨ws, rfl, h2⟩ := k
  exact ⟨ws, rfl, h2.nl h (fun p hp => by
    obtain ⟨x, _, rfl⟩ := List.mem_map.mp hp
    exact nlr x)⟩⟩
end
instance : NLP oPool := ⟨fun _ h => h⟩
instance {C : Addr} : NLP (oIn C []) := ⟨fun {u F a vs} h k => by
  obtain ⟨dx, gs, rfl, k⟩ := k
  cases gs with
  | nil => exact ⟨dx, [], rfl, trivial⟩
  | cons _ _ => exact k.elim⟩
theorem ks_nl {ρ : α → Pr} [NL ρ] {F : Hp} {a : Addr} {us : List V} (h : F a = some (.lst us)) : ∀ {kvs : List (Int × α)} {gs : List (Key × V)}, Ks F ρ kvs gs → Ks (del F a) ρ kvs gs
  | [], [], _ => trivial
  | (_, x) :: _, (_, _) :: _, k => ⟨k.1, nlr x h k.2.1, ks_nl h k.2.2⟩
  | [], _ :: _, k => k.elim
  | _ :: _, [], k => k.elim
instance {ρ : α → Pr} [NL ρ] {kvs : List (Int × α)} : NLP (oDk ρ kvs) := ⟨fun {u F a vs} h k => by
  obtain ⟨gs, rfl, k⟩ := k
  exact ⟨gs, rfl, ks_nl h k⟩⟩
def rNN (_ : α) : Pr := ⟨fun v _ => v ≠ .non, fun _ h => h⟩
instance : NL (rNN (α := α)) := ⟨fun _ h => h⟩
class NLK (k : RK γ) : Prop where
  nl : ∀ {x : γ} {v : V} {H F H' : Hp} {a : Addr} {vs : List V}, F a = some (.lst vs) → k.ok x v H F H' → k.ok x v H (del F a) H'
instance {ρ : γ → Pr} [n : NL ρ] : NLK (.fz ρ) := ⟨fun h k => n.nl h k⟩
instance {ρ : γ → Po} [n : ∀ x, NLP (ρ x)] : NLK (.ow ρ) := ⟨fun {x v H F H' a vs} h k => by
  obtain ⟨b, u, rfl, h1, h2, h3, h4⟩ := k
  refine ⟨b, u, rfl, h1, ?_, h3, (n x).nl h h4⟩
  unfold del
  split
  · rfl
  · exact h2⟩
def NLC : Ctx → Prop
  | [] => True
  | .ow _ _ q :: r => NLP q ∧ NLC r
  | _ :: r => NLC r
theorem NLC.get : ∀ {Γ : Ctx} {i : Nat} {l : Bool} {a : Addr} {q : Po}, NLC Γ → Γ[i]? = some (.ow l a q) → NLP q
  | [], _, _, _, _, _, h => by simp at h
  | en :: r, 0, l, a, q, n, h => by
    simp at h
    subst h
    exact n.1
  | en :: r, i + 1, l, a, q, n, h => by
    have n' : NLC r := by
      cases en with
      | un => exact n
      | fz p => exact n
      | ow l' a' q' => exact n.2
      | lk f h p => exact n
    exact NLC.get n' (by simpa using h)
section
variable {j : Nat} {l : Bool} {ad : Addr} {ρ : α → Pr} {xs : List α}
theorem Ok.bor {G : Gf} {σ : L2.St} {F H : Hp} (o : Ok G Γ σ F H) (hj : Γ[j]? = some (.ow l ad (oL ρ xs))) : ∃ (G' : Gf) (F1 : Hp) (vs : List V), F1 ad = some (.lst vs) ∧ Ok G' (Γ.set j (.fz (rL ρ xs))) σ F1 H ∧ Same F F1 ∧ H ad = some (.lst vs) ∧
    ∀ F' H', NLC (Γ.set j (.fz (rL ρ xs))) → Ok G' (Γ.set j (.fz (rL ρ xs))) σ F' H' → Go (owns (Γ.set j (.fz (rL ρ xs)))) F1 H F' H' → F' ad = some (.lst vs) ∧ Ok G Γ σ (del F' ad) H' ∧ Go (owns Γ) F H (del F' ad) H' := by
  obtain ⟨k1, k2, k3, u, k4, vs, rfl, k5⟩ := o.en j _ hj
  have s : Same F (upd F ad (.lst vs)) := same_upd k2
  have hF0 : G.F0 ad = none := by
    cases e : G.F0 ad with
    | none => rfl
    | some y => rw [o.go.fs _ _ e] at k2; cases k2
  have hlt : j < Γ.length := (List.getElem?_eq_some_iff.mp hj).1
  have other : ∀ {i : Nat} {e : En}, i ≠ j → (Γ.set j (.fz (rL ρ xs)))[i]? = some e → Γ[i]? = some e := fun {i e} n h => by
    rw [List.getElem?_set_ne (Ne.symm n)] at h; exact h
  have keyo : ∀ {i : Nat} {m : Bool} {b : Addr} {q : Po}, (Γ.set j (.fz (rL ρ xs)))[i]? = some (.ow m b q) → i ≠ j ∧ Γ[i]? = some (.ow m b q) := fun {i m b q} h => by
    by_cases hij : i = j
    · subst hij
      rw [List.getElem?_set_self hlt] at h
      cases h
    · exact ⟨hij, other hij h⟩
  refine ⟨⟨G.F0, fun b => if b = ad then none else G.H0 b, G.M⟩, upd F ad (.lst vs), vs, upd_same, ⟨⟨?_, ?_, ?_, ?_, ?_⟩, fun i e he => ?_, fun i i2 m m2 b p q h1 h2 => ?_, ?_⟩, s, k4, fun F' H' hn o' g' => ?_⟩
  · exact fun b x e => s _ _ (o.go.fs _ _ e)
  · intro b x e
    by_cases hb : b = ad
    · subst hb; rw [upd_same] at e; rw [k4]; exact e
    · rw [upd_ne hb] at e; exact o.le _ _ e
  · intro b x n e
    dsimp only at e
    split at e
    · cases e
    · exact o.go.hs b x n e
  · intro b x e f
    dsimp only at e
    split at e
    · cases e
    · rename_i hb
      rw [upd_ne hb]; exact o.go.fr b x e f
  · intro b x e
    dsimp only at e
    split at e
    · cases e
    · exact o.go.th b x e
  · by_cases hij : i = j
    · subst hij
      rw [List.getElem?_set_self hlt] at he
      cases he
      exact ⟨.ref ad, k1, ad, vs, rfl, upd_same, k5.mono s⟩
    · have z := o.en i e (other hij he)
      cases e with
      | un => trivial
      | fz p =>
        obtain ⟨v, e1, e2⟩ := z
        exact ⟨v, e1, p.mono s e2⟩
      | ow m b r =>
        obtain ⟨z1, z2, z3, y, z4, z5⟩ := z
        have hb : b ≠ ad := by
          rintro rfl
          exact hij (o.ap i j _ _ _ _ _ (other hij he) hj)
        refine ⟨z1, by rw [upd_ne hb]; exact z2, ?_, y, z4, r.mono s z5⟩
        cases m with
        | true => exact (if_neg hb).trans z3
        | false => exact z3
      | lk f h p =>
        obtain ⟨⟨v, e1, e2⟩, e3, e4⟩ := z
        refine ⟨⟨v, e1, p.mono s e2⟩, fun b hb => ?_, e4⟩
        refine ⟨?_, (e3 b hb).2⟩
        show (if b = ad then none else G.H0 b) = none
        split
        · rfl
        · exact (e3 b hb).1
  · exact o.ap i i2 _ _ b p q (keyo h1).2 (keyo h2).2
  · rw [o.ln]; simp
  · have ha' : F' ad = some (.lst vs) := g'.fs _ _ upd_same
    have sub : ∀ b ∈ owns (Γ.set j (.fz (rL ρ xs))), b ∈ owns Γ := fun b hb => owns_set rfl hb
    have g : Go (owns Γ) F H (del F' ad) H' := by
      refine ⟨fun b x e => ?_, fun b x e => ?_, fun b x n e => g'.hs b x (fun h => n (sub _ h)) e, fun b x e f => ?_, g'.th⟩
      · have hb : b ≠ ad := by rintro rfl; rw [k2] at e; cases e
        exact del_ok (g'.fs _ _ (s _ _ e)) hb
      · unfold del at e
        split at e
        · cases e
        · exact g'.le _ _ e
      · unfold del
        split
        · rfl
        · rename_i hb
          exact g'.fr b x e (by rw [upd_ne hb]; exact f)
    refine ⟨ha', ⟨o.go.trans g fun x m => o.own m, fun i e he => ?_, o.ap, o.ln⟩, g⟩
    have z := o.en i e he
    cases e with
    | un => trivial
    | fz p =>
      obtain ⟨v, e1, e2⟩ := z
      exact ⟨v, e1, p.mono g.fs e2⟩
    | ow m b r =>
      obtain ⟨z1, z2, z3, y, z4, z5⟩ := z
      by_cases hij : i = j
      · subst hij
        rw [hj] at he
        cases he
        exact ⟨z1, del_same, z3, _, g'.le _ _ ha', vs, rfl, k5.mono g.fs⟩
      · have he2 : (Γ.set j (.fz (rL ρ xs)))[i]? = some (.ow m b r) := by rw [List.getElem?_set_ne (Ne.symm hij)]; exact he
        obtain ⟨y1, y2, y3, w, y4, y5⟩ := o'.en i _ he2
        refine ⟨z1, ?_, z3, w, y4, (hn.get he2).nl ha' y5⟩
        unfold del
        split
        · rfl
        · exact y2
    | lk f h p =>
      obtain ⟨⟨v, e1, e2⟩, e3, e4⟩ := z
      exact ⟨⟨v, e1, p.mono g.fs e2⟩, e3, fun b e => e4 b (none_th g.th e)⟩
theorem rte_bor {k : RK γ} {m : Mo γ} [nk : NLK k] (hj : Γ[j]? = some (.ow l ad (oL ρ xs))) (hn : NLC (Γ.set j (.fz (rL ρ xs)))) (h : RTE X W (Γ.set j (.fz (rL ρ xs))) t m k) : RTE X W Γ t (Mo.calm m) k := fun G σ F H Q o q => by
  obtain ⟨G', F1, vs, h1, o1, s, _, back⟩ := o.bor hj
  refine h G' σ F1 H Q o1 (m.mono (fun x hx v F' H' o' g' z => ?_) (fun _ z => z.elim) q)
  obtain ⟨b1, b2, b3⟩ := back F' H' hn o' g'
  exact hx v _ H' b2 b3 (nk.nl b1 z)
theorem re_bor {k : RK γ} {m : Mo γ} [nk : NLK k] (hj : Γ[j]? = some (.ow l ad (oL ρ xs))) (hn : NLC (Γ.set j (.fz (rL ρ xs)))) (h : RE X W (Γ.set j (.fz (rL ρ xs))) e m k) : RE X W Γ e (Mo.calm m) k := rte_bor hj hn h
end
section
variable {k : Nat} {f C : Addr} {fd : FuncData} {ps : List Str} {pp : Addr → β → Ctx} {m : β → Mo γ} {kr : RK γ} {me : Mo Unit} {ma : Mo β} {x : Str} {p : Pos} {qo : Po}
end
theorem re_isL {ρ : α → Pr} {m : Mo (Option (List α))} {p : Pos} (h : RE X W Γ e m (.fz (rO (rL ρ)))) (h1 : PySem.W.kitOne X.K (.type "list") (.type "list") = some true) (h2 : PySem.W.kitOne X.K (.type "NoneType") (.type "list") = some false) (hm : X.mg "isinstance" = none) (hml : X.mg "list" = none) (hg : Gl X "isinstance" := by rfl) (hgl : Gl X "list" := by rfl)
    (hst : starEach [e, .Name "list" p2] X.env = (false, eval e X.env) :: starEach [.Name "list" p2] X.env := by rfl) (hst2 : starEach [.Name "list" p2] X.env = (false, eval (.Name "list" p2) X.env) :: starEach [] X.env := by rfl) :
    RE X W Γ (.Call (.Name "isinstance" p) [e, .Name "list" p2] [] pos) (m >>= fun x => pure x.isSome) (.fz rB) :=
  re_of (pe_callB call_isi hg hm (by decide +kernel) (pa_cons (hs := hst) peE (pa_cons (hs := hst2) (pe_bltn (v := .ty "list") hgl hml (by decide +kernel) rfl) pa_nil)) (by decide) (by decide) hst rfl) fun G σ F H Q o q => by
    refine h G σ F H _ o (m.mono (fun x hx v F' H' o' g' z => ?_) (fun _ z => z) q)
    cases x with
    | none =>
      obtain rfl : v = .non := z
      exact ⟨.non, .ty "list", _, _, _, rfl, .ty _, .base .non, h2, hx _ F' H' o' g' rfl⟩
    | some xs =>
      obtain ⟨a, vs, rfl, k1, k2⟩ := z
      exact ⟨.ref a, .ty "list", _, _, _, rfl, .ty _, .base (.lst (o'.le _ _ k1)), h1, hx _ F' H' o' g' rfl⟩
end
end RF
namespace RF
open PySem PySem.Spec PyProof.Rows L2 KO SX
section
variable {α β β' γ δ : Type} {X : Cx} {W : WX} {Γe Γ Γ' : Ctx} {lv : Bool} {scope : Scope} {elt c : Expr} {ifs ifs1 : List Expr} {t : TE}
theorem rte_i {e : Expr} {m : Mo γ} {k : RK γ} (h : REi X scope Γ e m k) : RTE X W0 Γ (tEi X scope e) m k := fun G σ F H Q o q s H0 C cl fp => h s H0 C cl fp G σ F H Q o q
theorem RG.more {K : PySem.W.Frag} {g : TG} {p : Pr} {f : Ctx → Ctx} {vs ws : List Nat} (h : RG K g p f vs) (s : ∀ v ∈ vs, v ∈ ws) : RG K g p f ws := fun G Γ σ F H Q v o hv q => h G Γ σ F H Q v o hv fun σ' o' e => q σ' o' (by
  refine List.ext_getElem? fun i => ?_
  by_cases hi : i ∈ ws
  · by_cases hv2 : i ∈ vs
    · have := congrArg (fun l : L2.St => l[i]?) e
      simp only [wipe_get, if_pos hv2] at this
      simp only [wipe_get, if_pos hi, this]
    · have := congrArg (fun l : L2.St => l[i]?) e
      simp only [wipe_get, if_neg hv2] at this
      simp only [wipe_get, if_pos hi, this]
  · have hv2 : i ∉ vs := fun h => hi (s _ h)
    have := congrArg (fun l : L2.St => l[i]?) e
    simp only [wipe_get, if_neg hv2] at this
    simp only [wipe_get, if_neg hi, this])
theorem RGo.more {f : Ctx → Ctx} {vs ws : List Nat} (h : RGo f vs) (s : ∀ v ∈ vs, v ∈ ws) : RGo f ws := ⟨h.sub, fun Γ i n => h.keep Γ i fun m => n (s _ m)⟩
def Mo.comp2 (c : β → Mo Bool) (f : β → Mo (List γ)) : List β → Mo (List γ)
  | [] => pure []
  | x :: xs => c x >>= fun b => if b = true then f x >>= fun ys => Mo.comp2 c f xs >>= fun zs => pure (ys ++ zs) else Mo.comp2 c f xs
def Mo.lc2 (c : β → Mo Bool) (mi : β → Mo (List β')) (c1 : β → β' → Mo Bool) (f : β → β' → Mo γ) (xs : List β) : Mo (List γ) :=
  Mo.rq (xs.length ≤ 4096) () >>= fun _ => Mo.calm (Mo.comp2 c (fun x => mi x >>= fun ws => Mo.rq (ws.length ≤ 4096) () >>= fun _ => Mo.comp (c1 x) (f x) ws) xs)
theorem rte_lc2 {wi wi1 : TI} {g g1 : TG} {mi : Mo (List β)} {ρi : β → Pr} {vs vs1 : List Nat} {mc : β → Mo Bool} {mi1 : β → Mo (List β')} {ρi1 : β' → Pr} {mc1 : β → β' → Mo Bool} {mf : β → β' → Mo γ} {ρ : γ → Pr} (tg : β → Ctx → Ctx) (tg1 : β' → Ctx → Ctx) (hi : RI X W Γ wi mi ρi) (hg : ∀ x, RG X.K g (ρi x) (tg x) vs) (hgo : ∀ x, RGo (tg x) vs) (hun : ∀ v ∈ vs, Γ[v]? = some .un)
    (ht : ∀ x, RTi X scope (tg x (wipeC Γ vs)) ifs (mc x)) (hi1 : ∀ x, RI X W0 (tg x (wipeC Γ vs)) wi1 (mi1 x) ρi1) (hg1 : ∀ y, RG X.K g1 (ρi1 y) (tg1 y) vs1) (hgo1 : ∀ y, RGo (tg1 y) vs1) (hun1 : ∀ x, ∀ v ∈ vs1, (tg x (wipeC Γ vs))[v]? = some .un)
    (ht1 : ∀ x y, RTi X scope (tg1 y (wipeC (tg x (wipeC Γ vs)) vs1)) ifs1 (mc1 x y)) (he : ∀ x y, REi X scope (tg1 y (wipeC (tg x (wipeC Γ vs)) vs1)) elt (mf x y) (.fz ρ)) :
    RTE X W Γ (tLc2 wi g (tPi X scope ifs) wi1 g1 (tPi X scope ifs1) (tEi X scope elt) vs vs1) (mi >>= Mo.lc2 mc mi1 mc1 mf) (.ow (oL ρ)) := fun G σ F H Q o q => by
  refine hi G σ F H _ o (mi.mono (fun xs hx J F1 H1 o1 g1 src D hD => ?_) (fun _ z => z) q)
  obtain ⟨hz, hx⟩ := hx
  have hD0 : H D = none := by
    cases e : H D with
    | none => rfl
    | some y => obtain ⟨y', e'⟩ := g1.th _ _ e; rw [hD] at e'; cases e'
  have hG0 : G.H0 D = none := by
    cases e : G.H0 D with
    | none => rfl
    | some y => obtain ⟨y', e'⟩ := o.go.th _ _ e; rw [hD0] at e'; cases e'
  have hDo : D ∉ owns Γ := fun h => by
    obtain ⟨y, hy⟩ := o.ownH h
    rw [hD0] at hy; cases hy
  have hF1 : F1 D = none := o1.le.free hD
  let f : β → Mo (List γ) := fun x => mi1 x >>= fun ws => Mo.rq (ws.length ≤ 4096) () >>= fun _ => Mo.comp (mc1 x) (mf x) ws
  let St : Nat → Hp → Prop := fun i H' => ∃ F' ys us, Ok G Γ σ F' H' ∧ Go (owns Γ) F H F' H' ∧ Same F1 F' ∧ F' D = none ∧ H' D = some (.lst us) ∧ Ps F' (ys.map ρ) us ∧ ys.length ≤ i * 4096 ∧ (Mo.comp2 mc f (xs.drop i)).run (fun zs => NQ G Γ σ F H (.ow (oL ρ)) Q (ys ++ zs)) (fun _ => False)
  obtain ⟨oD, gD⟩ := o1.newO (u := .lst []) hD
  refine ⟨fun i k H' => k = xs.length - i ∧ i ≤ xs.length ∧ St i H', ⟨_, rfl, Nat.zero_le _, F1, [], [], oD, g1.trans gD owns_tr, Same.refl _, hF1, upd_same, trivial, Nat.zero_le _, hx⟩, ?_⟩
  rintro i k H' ⟨rfl, hik, F', ys, us, o', g', s1, hF', hH', hps, hle, r⟩
  obtain ⟨w1, w2, w3⟩ := src F' H' s1 o'.le
  by_cases hlt : i < xs.length
  · refine .inr ⟨w1 i hlt, fun H'' => i + 1 ≤ xs.length ∧ St (i + 1) H'', fun H'' h => ⟨_, by omega, rfl, h.1, h.2⟩, fun v H2 y => ?_⟩
    rw [List.drop_eq_getElem_cons hlt] at r
    obtain ⟨F2, g2, hv⟩ := w3 i xs[i] v H2 (List.getElem?_eq_getElem hlt) y
    have o2 : Ok G Γ σ F2 H2 := o'.move g2 (fun _ h => by simp at h)
    have g2' : Go (owns Γ) F' H' F2 H2 := g2.mono (fun _ h => by simp at h)
    refine hg xs[i] G _ _ F2 H2 _ v (o2.wipe vs) hv fun σ3 o3 hw => ⟨by rw [hw]; exact wipe_wipe σ vs, ?_⟩
    have sub : ∀ a ∈ owns (tg xs[i] (wipeC Γ vs)), a ∈ owns Γ := fun a h => owns_wipe ((hgo _).sub _ _ h)
    refine ht xs[i] G σ3 F2 H2 _ o3 ((mc xs[i]).mono (fun b hb F3 H3 o4 g3 => ?_) (fun _ z => z) r)
    have g2D : H2 D = some (.lst us) := g2.hs _ _ (by simp) hH'
    have f2D : F2 D = none := g2.fr _ _ hH' hF'
    have back : ∀ {F5 H5 : Hp}, Go (owns (tg xs[i] (wipeC Γ vs))) F2 H2 F5 H5 → Ok G (tg xs[i] (wipeC Γ vs)) σ3 F5 H5 → Ok G Γ σ F5 H5 ∧ Go (owns Γ) F H F5 H5 ∧ Same F1 F5 ∧ F5 D = none ∧ H5 D = some (.lst us) ∧ Same F' F5 := fun {F5 H5} g5 o5 => by
      have s5 : Same F' F5 := g2.fs.trans g5.fs
      refine ⟨o'.back (hgo _) hun s5 o5, (g'.trans g2' owns_tr).trans g5 (fun a h => .inl (sub a h)), s1.trans s5, g5.fr _ _ g2D f2D, g5.hs _ _ (fun h => hDo (sub _ h)) g2D, s5⟩
    cases b with
    | false =>
      obtain ⟨b1, b2, b3, b4, b5, b6⟩ := back g3 o4
      exact iteF ⟨hlt, F3, ys, us, b1, b2, b3, b4, b5, hps.mono b6, by omega, hb⟩
    | true =>
      refine iteT ?_
      have hb : (mi1 xs[i] >>= fun ws => Mo.rq (ws.length ≤ 4096) () >>= fun _ => Mo.comp (mc1 xs[i]) (mf xs[i]) ws).run (fun ys' => (Mo.comp2 mc f (xs.drop (i + 1))).run (fun zs => NQ G Γ σ F H (.ow (oL ρ)) Q (ys ++ (ys' ++ zs))) (fun _ => False)) (fun _ => False) := hb
      generalize hΓ1 : tg xs[i] (wipeC Γ vs) = Γ1 at *
      have hi1' := hi1 xs[i]
      have ht1' := ht1 xs[i]
      have he' := he xs[i]
      have hun1' := hun1 xs[i]
      rw [hΓ1] at hi1' hun1'
      simp only [hΓ1] at ht1' he'
      refine hi1' G σ3 F3 H3 _ o4 ((mi1 xs[i]).mono (fun ws hws J1 F4 H4 o5 g4 src1 => ?_) (fun _ z => z.elim) hb)
      obtain ⟨hwz, hws⟩ := hws
      let S1 : Nat → Hp → Prop := fun j H' => ∃ F' ys us, Ok G Γ1 σ3 F' H' ∧ Ok G Γ σ F' H' ∧ Go (owns Γ) F H F' H' ∧ Same F1 F' ∧ Same F4 F' ∧ F' D = none ∧ H' D = some (.lst us) ∧ Ps F' (ys.map ρ) us ∧ ys.length ≤ i * 4096 + j ∧ (Mo.comp (mc1 xs[i]) (mf xs[i]) (ws.drop j)).run (fun ys' => (Mo.comp2 mc f (xs.drop (i + 1))).run (fun zs => NQ G Γ σ F H (.ow (oL ρ)) Q (ys ++ (ys' ++ zs))) (fun _ => False)) (fun _ => False)
      obtain ⟨b1, b2, b3, b4, b5, b6⟩ := back (g3.trans g4 owns_tr) o5
      refine ⟨fun j k H' => k = ws.length - j ∧ j ≤ ws.length ∧ S1 j H', ⟨_, rfl, Nat.zero_le _, F4, ys, us, o5, b1, b2, b3, Same.refl _, b4, b5, hps.mono b6, by omega, hws⟩, ?_⟩
      rintro j k H6 ⟨rfl, hjk, F6, ys6, us6, p1, p2, p3, p4, p5, p6, p7, p8, p9, r6⟩
      obtain ⟨x1, x2, x3⟩ := src1 F6 H6 p5 p1.le
      by_cases hjt : j < ws.length
      · refine .inr ⟨x1 j hjt, fun H'' => j + 1 ≤ ws.length ∧ S1 (j + 1) H'', fun H'' h => ⟨_, by omega, rfl, h.1, h.2⟩, fun v7 H7 y7 => ?_⟩
        rw [List.drop_eq_getElem_cons hjt] at r6
        obtain ⟨F7, g7, hv7⟩ := x3 j ws[j] v7 H7 (List.getElem?_eq_getElem hjt) y7
        have o7 : Ok G Γ1 σ3 F7 H7 := p1.move g7 (fun _ h => by simp at h)
        have g7' : Go (owns Γ) F6 H6 F7 H7 := g7.mono (fun _ h => by simp at h)
        refine hg1 ws[j] G _ _ F7 H7 _ v7 (o7.wipe vs1) hv7 fun σ8 o8 hw8 => ⟨by rw [hw8]; exact wipe_wipe σ3 vs1, ?_⟩
        have sub8 : ∀ a ∈ owns (tg1 ws[j] (wipeC Γ1 vs1)), a ∈ owns Γ1 := fun a h => owns_wipe ((hgo1 _).sub _ _ h)
        refine ht1' ws[j] G σ8 F7 H7 _ o8 ((mc1 xs[i] ws[j]).mono (fun b9 hb9 F9 H9 o9 g9 => ?_) (fun _ z => z) r6)
        have g7D : H7 D = some (.lst us6) := g7.hs _ _ (by simp) p7
        have f7D : F7 D = none := g7.fr _ _ p7 p6
        have back2 : ∀ {F5 H5 : Hp}, Go (owns (tg1 ws[j] (wipeC Γ1 vs1))) F7 H7 F5 H5 → Ok G (tg1 ws[j] (wipeC Γ1 vs1)) σ8 F5 H5 → Ok G Γ1 σ3 F5 H5 ∧ Ok G Γ σ F5 H5 ∧ Go (owns Γ) F H F5 H5 ∧ Same F1 F5 ∧ Same F4 F5 ∧ F5 D = none ∧ H5 D = some (.lst us6) ∧ Same F6 F5 := fun {F5 H5} g5 o5' => by
          have s5 : Same F6 F5 := g7.fs.trans g5.fs
          have q1 := p1.back (hgo1 _) hun1' s5 o5'
          have q2 : Ok G Γ σ F5 H5 := p2.back (f := tg xs[i]) (vs := vs) (hgo _) hun s5 (by rw [hΓ1]; exact q1)
          refine ⟨q1, q2, (p3.trans g7' owns_tr).trans g5 (fun a h => .inl (sub a (sub8 a h))), p4.trans s5, p5.trans s5, g5.fr _ _ g7D f7D, g5.hs _ _ (fun h => hDo (sub _ (sub8 _ h))) g7D, s5⟩
        cases b9 with
        | false =>
          obtain ⟨c1, c2, c3, c4, c5, c6, c7, c8⟩ := back2 g9 o9
          exact iteF ⟨hjt, F9, ys6, us6, c1, c2, c3, c4, c5, c6, c7, p8.mono c8, by omega, hb9⟩
        | true =>
          refine iteT fun s H0 C cl fp => ?_
          have hb9 : (mf xs[i] ws[j] >>= fun y => Mo.comp (mc1 xs[i]) (mf xs[i]) (ws.drop (j + 1)) >>= fun ys => pure (y :: ys)).run (fun ys' => (Mo.comp2 mc f (xs.drop (i + 1))).run (fun zs => NQ G Γ σ F H (.ow (oL ρ)) Q (ys6 ++ (ys' ++ zs))) (fun _ => False)) (fun _ => False) := hb9
          refine he' ws[j] s H0 C cl fp G σ8 F9 H9 _ o9 ((mf xs[i] ws[j]).mono (fun y hy w F10 H10 o10 g10 z10 => ?_) (fun _ z => z.elim) hb9)
          obtain ⟨c1, c2, c3, c4, c5, c6, c7, c8⟩ := back2 (g9.trans g10 owns_tr) o10
          have hul : us6.length < 2 ^ 24 := by rw [p8.len, List.length_map]; omega
          have gp : Go [D] F10 H10 F10 (upd H10 D (.lst (us6 ++ [w]))) := Go.put c2.le c6 c7
          have hm : ∀ {Γ' : Ctx}, D ∉ owns Γ' → ∀ x ∈ [D], H10 x = none ∨ (x ∈ G.M ∨ G.H0 x = none) ∧ x ∉ owns Γ' := fun {Γ'} h x hx => by
            rw [List.mem_singleton.mp hx]
            exact .inr ⟨.inr hG0, h⟩
          refine ⟨us6, c7, hul, hjt, F10, ys6 ++ [y], us6 ++ [w], c1.move gp (hm fun h => hDo (sub _ h)), c2.move gp (hm hDo), c3.trans gp (fun a h => ?_), c4, c5, c6, upd_same, ?_, by simp; omega, ?_⟩
          · rw [List.mem_singleton.mp h]
            exact .inr hD0
          · rw [List.map_append]
            exact (p8.mono c8).app ⟨z10, trivial⟩
          · refine Mo.mono _ (fun ys' h => ?_) (fun _ z => z) hy
            have h : (Mo.comp2 mc f (xs.drop (i + 1))).run (fun zs => NQ G Γ σ F H (.ow (oL ρ)) Q (ys6 ++ ((y :: ys') ++ zs))) (fun _ => False) := h
            refine Mo.mono _ (fun zs h => ?_) (fun _ z => z) h
            rw [List.append_assoc]
            exact h
      · have e : j = ws.length := by omega
        subst e
        refine .inl ⟨x2, hlt, F6, ys6, us6, p2, p3, p4, p6, p7, p8, by omega, ?_⟩
        rw [List.drop_length] at r6
        exact r6
  · have e : i = xs.length := by omega
    subst e
    refine .inl ⟨w2, ?_⟩
    rw [List.drop_length] at r
    have r : NQ G Γ σ F H (.ow (oL ρ)) Q (ys ++ []) := r
    rw [List.append_nil] at r
    exact r _ F' H' o' g' ⟨D, _, rfl, hD0, hF', hH', us, rfl, hps⟩
end
end RF
namespace RF
open PySem PySem.Spec PyProof.Rows L2 KO SX
theorem pl0 : ([] : List (Str × Pr)).length ≤ 0 := Nat.le_refl _
theorem pl1 {f : Str} {p : Pr} {n : Nat} : ∀ {fs : List (Str × Pr)}, fs.length ≤ n → (putP f p fs).length ≤ n + 1
  | [], _ => by simp [putP]
  | (g, q) :: fs, h => by
    unfold putP
    split
    · simp at h ⊢; omega
    · simp at h ⊢
      have := pl1 (f := f) (p := p) (n := n - 1) (fs := fs) (by omega)
      omega
theorem plt {n : Nat} {fs : List (Str × Pr)} (h : fs.length ≤ n) (k : n < 1000 := by decide) : fs.length < 1000 := by omega
section
variable {α β γ δ : Type} {X : Cx} {W : WX} {Γe Γx Γ Γ' : Ctx} {lv : Bool} {e : Expr} {st bst : Stmt} {rest body suite : List Stmt} {Z : γ → Fin} {pos : Pos}
theorem rb_try1S {i : Nat} {cn : Str} {Cc : Addr} {fls : List Str} {me : Mo α} {jb : α → δ} {mh : Ex → Mo δ} {mr : δ → Mo γ} {tgt : α → Ctx → Ctx} (Γj Γs : δ → Ctx) (hs : PS X st (fun D σ H => tTb X [bst] (wAs X.K (.ref Cc) i (tTs X suite) W D) D σ H)) (hcn : X.mg cn = some (.ref Cc)) (hsub : PySem.W.exmOne X.K (.ref Cc) (.ref Cc) = some true)
    (hfls : ∀ n ∈ fls, ∀ C', X.mg n = some (.ref C') → PySem.W.exmOne X.K (.ref C') (.ref Cc) = some false)
    (hb : ∀ pn xe W', Takes (X.tr pn xe) W' → PassesOwn (model X.prog X.w) X.A X.env xe → ∀ G σ F H D, Ok G Γ σ F H → me.run (fun x => ∀ σ' F' H', Same F F' → Ok G (tgt x Γ) σ' F' H' → D.nx σ' H') (EQ X W' G Γ σ F H) → tSs (X.tr pn xe) [bst] D σ H)
    (hjb : ∀ x, Le (Γj (jb x)) (tgt x Γ))
    (hh : ∀ a oe d pn ex, ex.cls = cn → Zc (.ref Cc) d oe → (∃ vs, oe.data = .fields vs) → RB (X.suite a ((a, oe) :: pn)) W0 (List.replicate Γ.length .un) false (Γ.set i (.fz (exP a d ex))) suite (mh ex) (fun j => .nx (Γs j)))
    (hex : Le Γe Γ) (hjs : ∀ j, Le (Γj j) ((Γs j).set i .un)) (hj : ∀ j, Le Γe (Γj j)) (hu : Le (List.replicate Γ.length .un) (Γ.set i .un)) (hr : ∀ j, RB X W Γe lv (Γj j) rest (mr j) Z) :
    RB X W Γe lv Γ (st :: rest) (Mo.catch1 (me >>= fun x => pure (jb x)) cn fls mh >>= mr) Z := fun le G σ F H D nx' hn o q =>
  tSs_cons hs fun pn xe tk po => by
    have key : ∀ j, (mr j).run (fun x => FinOk G Γe D F (Z x)) (XQ X W G Γe F) → ∀ σ2 F2 H2, Same G.F0 F2 → Ok G (Γj j) σ2 F2 H2 → tSs X rest { D with nx := nx' } σ2 H2 := fun j hj' σ2 F2 H2 s2 o2 => hr j (hj j) G σ2 F2 H2 D nx' hn o2 (run_any hj')
    refine hb pn xe _ tk po G σ F H { D with nx := tSs X rest { D with nx := nx' } } o (me.mono (fun x hx σ2 F2 H2 s2 o2 => key (jb x) hx σ2 F2 H2 o2.go.fs (o2.weak (hjb x))) (fun ex hx' cls d F2 H2 o2 g2 z => ?_) q)
    obtain ⟨C, hC, rfl, hd⟩ := id z
    by_cases c : ex.cls = cn
    · rw [if_pos c] at hx'
      rw [c, hcn] at hC
      cases hC
      refine ⟨true, hsub, fun _ a ha => ?_, fun h => by cases h⟩
      intro oe pn' hz hf
      refine hh a oe d pn' ex c hz hf ?_ G _ F2 H2 { nx := _, rt := D.rt, bk := _, ct := _ } _ (fun _ => rfl) (o2.toSuite (a := a) z) ((mh ex).mono (fun j hj' σ3 F3 H3 s3 o3 => ?_) (fun _ z => z.elim) hx')
      · exact le_un hu
      · have o4 := o3.forget i (v := none)
        exact key j hj' _ F3 H3 s3 (o4.weak (hjs j))
    · rw [if_neg c] at hx'
      refine ⟨false, hfls _ hx'.1 C hC, fun h => (by cases h), fun _ => ?_⟩
      exact hx'.2 _ d σ F2 H2 o2.go.fs (o2.weak hex) z
theorem body_set {i : Nat} {me : Mo α} {ρ : α → Pr} {t : TE} (hs : PS X bst (tAsg t (gName i))) (he : RTE X W Γ t me (.fz ρ)) : ∀ G σ F H D, Ok G Γ σ F H → me.run (fun x => ∀ σ' F' H', Same F F' → Ok G (Γ.set i (.fz (ρ x))) σ' F' H' → D.nx σ' H') (EQ X W G Γ σ F H) → tSs X [bst] D σ H := fun G σ F H D o q => by
  refine tSs_i fun pins s I => (pss_one hs).run pins s σ H D I (he G σ F H _ o (me.mono (fun x hx v F' H' o' g' z => hx _ F' H' g'.fs (o'.set z)) (fun _ z => z) q))
def Mo.tryO (mb : Mo δ) (cn : Str) (fls : List Str) (mh : Mo γ) (mr : δ → Mo γ) : Mo γ := ⟨fun Q E => mb.run (fun j => (mr j).run Q E) fun ex => if ex.cls = cn then mh.run Q (fun _ => False) else (ex.cls ∈ fls ∧ E ex), fun {Q Q' E E'} hq he r => mb.mono (fun j => (mr j).mono hq he) (fun ex hx => by
  by_cases c : ex.cls = cn
  · rw [if_pos c] at hx ⊢
    exact mh.mono hq (fun _ z => z) hx
  · rw [if_neg c] at hx ⊢
    exact ⟨hx.1, he _ hx.2⟩) r⟩
@[simp] theorem Mo.run_tryO {mb : Mo δ} {cn : Str} {fls : List Str} {mh : Mo γ} {mr : δ → Mo γ} {Q : γ → Prop} {E : Ex → Prop} : (Mo.tryO mb cn fls mh mr).run Q E = mb.run (fun j => (mr j).run Q E) (fun ex => if ex.cls = cn then mh.run Q (fun _ => False) else (ex.cls ∈ fls ∧ E ex)) := rfl
def asI : PyData → Option Int
  | .int i => some i
  | _ => none
end
end RF
namespace RF
open PySem PySem.Spec PyProof.Rows L2 KO SX
theorem Mo.ext' {α : Type} {m n : Mo α} (h : ∀ Q E, m.run Q E = n.run Q E) : m = n := by
  cases m; cases n
  congr
  funext Q E
  exact h Q E
instance : LawfulMonad Mo := LawfulMonad.mk' (m := Mo) (id_map := fun x => rfl) (pure_bind := fun x f => rfl) (bind_assoc := fun x f g => rfl)
section
variable {α β γ δ : Type}
@[simp] theorem Mo.get_some {x : α} : Mo.get (some x) = (pure x : Mo α) := Mo.ext' fun Q E => by simp
theorem Mo.rq_of {p : Prop} {x : α} (h : p) : Mo.rq p x = (pure x : Mo α) := Mo.ext' fun Q E => by simp [h]
@[simp] theorem Mo.throw_bind {e : Ex} {f : α → Mo β} : (Mo.throw e >>= f) = Mo.throw e := rfl
@[simp] theorem Mo.calm_pure {x : α} : Mo.calm (pure x) = (pure x : Mo α) := rfl
theorem Mo.run_take {m : Int} {Q : Int → Prop} {E : Ex → Prop} : (Mo.take m).run Q E = ((0 < m ∧ m < 1152921504606846976) ∧ ∀ r, 0 ≤ r ∧ r < m → Q r) := rfl
theorem Mo.comp_pure {c : β → Mo Bool} {f : β → Mo γ} {p : β → Bool} {g : β → γ} : ∀ {xs : List β}, (∀ x ∈ xs, c x = pure (p x)) → (∀ x ∈ xs, p x = true → f x = pure (g x)) → Mo.comp c f xs = pure ((xs.filter p).map g)
  | [], _, _ => rfl
  | x :: xs, hc, hf => by
    have ih := Mo.comp_pure (xs := xs) (fun y hy => hc y (List.mem_cons_of_mem _ hy)) (fun y hy => hf y (List.mem_cons_of_mem _ hy))
    unfold Mo.comp
    rw [hc x List.mem_cons_self]
    simp only [pure_bind]
    cases h : p x with
    | true => rw [if_pos rfl, hf x List.mem_cons_self h, ih]; simp [h]
    | false => rw [if_neg (by simp), ih]; simp [h]
theorem Mo.comp_each {f : β → Mo γ} {R : β → γ → Prop} {E : Ex → Prop} : ∀ {xs : List β} {Q : List γ → Prop}, (∀ x ∈ xs, (f x).run (R x) E) → (∀ ys, ys.length = xs.length → (∀ (i : Nat) (x : β) (y : γ), xs[i]? = some x → ys[i]? = some y → R x y) → Q ys) → (Mo.comp (fun _ => pure true) f xs).run Q E
  | [], Q, _, q => q [] rfl (by simp)
  | x :: xs, Q, hf, q => by
    unfold Mo.comp
    refine (f x).mono (fun y hy => ?_) (fun _ z => z) (hf x List.mem_cons_self)
    refine Mo.comp_each (fun z hz => hf z (List.mem_cons_of_mem _ hz)) fun ys h1 h2 => q (y :: ys) (by simp [h1]) fun i a b ha hb => ?_
    cases i with
    | zero => simp at ha hb; subst ha hb; exact hy
    | succ i => exact h2 i a b (by simpa using ha) (by simpa using hb)
def Lp.is {S : Type} (I B : S → Prop) (R : δ → Prop) : Lp S δ → Prop
  | .go s => I s
  | .brk s => B s
  | .ret a => R a
theorem Mo.loop_inv {σ : Type} {f : σ → β → Mo (Lp σ δ)} {E : Ex → Prop} (I : Nat → σ → Prop) {Q : Lp σ δ → Prop} : ∀ {xs : List β} {k : Nat} {s : σ}, I k s → (∀ (i : Nat) (x : β) s, xs[i]? = some x → I (k + i) s → (f s x).run (Lp.is (I (k + i + 1)) (fun s => Q (.brk s)) (fun a => Q (.ret a))) E) → (∀ s, I (k + xs.length) s → Q (.go s)) → (Mo.loop f xs s).run Q E
  | [], k, s, h, _, q => q s (by simpa using h)
  | x :: xs, k, s, h, hf, q => by
    unfold Mo.loop
    refine (f s x).mono (fun l hl => ?_) (fun _ z => z) (hf 0 x s rfl h)
    cases l with
    | brk s' => exact hl
    | ret a => exact hl
    | go s' =>
      refine Mo.loop_inv I (k := k + 1) hl (fun i y t hy ht => ?_) fun t ht => q t ?_
      · have := hf (i + 1) y t (by simpa using hy) (by rw [show k + (i + 1) = k + 1 + i by omega]; exact ht)
        rw [show k + 1 + i + 1 = k + (i + 1) + 1 by omega]
        exact this
      · rw [show k + (x :: xs).length = k + 1 + xs.length by simp; omega]; exact ht
end
end RF
namespace RF
open PySem PySem.Spec PyProof.Rows L2 KO SX
section
variable {α β γ δ : Type} {X : Cx} {W : WX} {Γe Γ Γ' : Ctx} {lv : Bool} {e a b : Expr} {pos : Pos} {ρ : α → Pr}
def rQ (ρ : α → Pr) (xs : List α) : Pr := ⟨fun v F => ∃ a vs, v = .ref a ∧ (F a = some (.lst vs) ∨ Rd F a (.tup vs)) ∧ Ps F (xs.map ρ) vs, fun s ⟨a, vs, e, h, k⟩ => ⟨a, vs, e, h.imp (s _ _) (fun h => Rd.mono h s), k.mono s⟩⟩
end
end RF
namespace RF
open PySem PySem.Spec PyProof.Rows L2 KO SX
section
variable {α β γ δ : Type}
def Mo.disp : List (Str × (Ex → Mo α)) → Ex → (α → Prop) → (Ex → Prop) → Prop
  | [], ex, _, E => E ex
  | (cn, h) :: r, ex, Q, E => if ex.cls = cn then (h ex).run Q (fun _ => False) else Mo.disp r ex Q E
theorem Mo.disp_mono {Q Q' : α → Prop} {E E' : Ex → Prop} (hq : ∀ x, Q x → Q' x) (he : ∀ x, E x → E' x) : ∀ {hs : List (Str × (Ex → Mo α))} {ex : Ex}, Mo.disp hs ex Q E → Mo.disp hs ex Q' E'
  | [], ex, h => he _ h
  | (cn, h) :: r, ex, k => by
    unfold Mo.disp at k ⊢
    split
    · rename_i c
      rw [if_pos c] at k
      exact (h ex).mono hq (fun _ z => z) k
    · rename_i c
      rw [if_neg c] at k
      exact Mo.disp_mono hq he k
def Mo.catchN (m : Mo α) (ks : List Str) (hs : List (Str × (Ex → Mo α))) : Mo α := ⟨fun Q E => m.run Q fun ex => ex.cls ∈ ks ∧ Mo.disp hs ex Q E, fun {Q Q' E E'} hq he r => m.mono hq (fun ex hx => ⟨hx.1, Mo.disp_mono hq he hx.2⟩) r⟩
@[simp] theorem Mo.run_catchN {m : Mo α} {ks : List Str} {hs : List (Str × (Ex → Mo α))} {Q : α → Prop} {E : Ex → Prop} : (Mo.catchN m ks hs).run Q E = m.run Q fun ex => ex.cls ∈ ks ∧ Mo.disp hs ex Q E := rfl
variable {X : Cx} {W : WX} {Γe Γ Γ' : Ctx} {lv : Bool} {e : Expr} {st bst : Stmt} {rest body : List Stmt} {Z : γ → Fin} {pos : Pos}
inductive RHs (X : Cx) (Γ : Ctx) (Γj : δ → Ctx) (ks : List Str) : List (Value × Nat × (Addr → Value → Option Addr → TS)) → List (Str × (Ex → Mo δ)) → Prop where
  | nil : RHs X Γ Γj ks [] []
  | cons {Cc : Addr} {i : Nat} {cn : Str} {suite : List Stmt} {mh : Ex → Mo δ} {l : List (Value × Nat × (Addr → Value → Option Addr → TS))} {hs : List (Str × (Ex → Mo δ))} (hcn : X.mg cn = some (.ref Cc)) (hsub : PySem.W.exmOne X.K (.ref Cc) (.ref Cc) = some true)
    (hfls : ∀ n ∈ ks, n ≠ cn → ∀ C', X.mg n = some (.ref C') → PySem.W.exmOne X.K (.ref C') (.ref Cc) = some false)
    (hh : ∀ a oe d pn ex, ex.cls = cn → Zc (.ref Cc) d oe → (∃ vs, oe.data = .fields vs) → RB (X.suite a ((a, oe) :: pn)) W0 (List.replicate Γ.length .un) false (Γ.set i (.fz (exP a d ex))) suite (mh ex) (fun j => .nx (Γj j)))
    (hjs : ∀ j, Le (Γj j) ((Γj j).set i .un)) (hu : Le (List.replicate Γ.length .un) (Γ.set i .un)) (r : RHs X Γ Γj ks l hs) : RHs X Γ Γj ks ((.ref Cc, i, tTs X suite) :: l) ((cn, mh) :: hs)
theorem RHs.run {Γj : δ → Ctx} {ks : List Str} {l : List (Value × Nat × (Addr → Value → Option Addr → TS))} {hs : List (Str × (Ex → Mo δ))} (h : RHs X Γ Γj ks l hs) {G : Gf} {D : Ends} {σ : L2.St} {F H : Hp} {ex : Ex} {C : Addr} {d : Option Addr} {Q : δ → Prop} {E : Ex → Prop} (o : Ok G Γ σ F H) (hk : ex.cls ∈ ks) (hC : X.mg ex.cls = some (.ref C)) (z : ErrOk X.K X.mg ex (.ref C) d F)
    (key : ∀ j, Q j → ∀ σ2 F2 H2, Same G.F0 F2 → Ok G (Γj j) σ2 F2 H2 → D.nx σ2 H2) (out : E ex → W (.ref C) d σ H) (q : Mo.disp hs ex Q E) : wManyA X.K W D l (.ref C) d σ H := by
  induction h with
  | nil => exact out q
  | @cons Cc i cn suite mh l hs hcn hsub hfls hh hjs hu r ih =>
    show ∃ b, _
    by_cases c : ex.cls = cn
    · unfold Mo.disp at q
      rw [if_pos c] at q
      have hCC := hC
      rw [c, hcn] at hCC
      cases hCC
      refine ⟨true, hsub, fun _ a ha => ?_, fun h => by cases h⟩
      intro oe pn' hz hf
      refine hh a oe d pn' ex c hz hf (le_un hu) G _ F H { nx := _, rt := D.rt, bk := _, ct := _ } _ (fun _ => rfl) (o.toSuite (a := a) z) ((mh ex).mono (fun j hj' σ3 F3 H3 s3 o3 => ?_) (fun _ z => z.elim) q)
      have o4 := o3.forget i (v := none)
      exact key j hj' _ F3 H3 s3 (o4.weak (hjs j))
    · unfold Mo.disp at q
      rw [if_neg c] at q
      exact ⟨false, hfls _ hk c C hC, fun h => (by cases h), fun _ => ih q⟩
end
end RF
namespace RF
open PySem PySem.Spec PyProof.Rows L2 KO SX
section
variable {α β γ : Type} {X : Cx} {W : WX} {Γ : Ctx} {e a b c : Expr} {es : List Expr} {pos : Pos} {op op' : CmpOp} {ma mb mc : Mo Str} {mi : Mo Int}
def chars (z : Str) : List Str := z.cps.toList.map fun c => ⟨#[c]⟩
theorem re_addS (ha : RE X W Γ a ma (.fz rS)) (hb : RE X W Γ b mb (.fz rS)) : RE X W Γ (.BinOp a .Add b pos) (ma >>= fun x => mb >>= fun y => Mo.rq (x.length + y.length ≤ sizeLine) (x ++ y)) (.fz rS) :=
  re_bin op_add_str (fun x y G σ F H Q u w o hu hw q => by
    obtain rfl : u = .str x := hu
    obtain rfl : w = .str y := hw
    exact ⟨x, y, rfl, rfl, q.1, NQ.here (ρ := rS) q.2 o rfl⟩) ha hb
theorem re_ixS (ha : RE X W Γ a ma (.fz rS)) (hb : RE X W Γ b mi (.fz rI)) (hs : PlainIx b := by exact fun _ _ => rfl) : RE X W Γ (.Subscript a b pos) (ma >>= fun z => mi >>= fun i => Mo.rq (z.length ≤ sizeLine) () >>= fun _ => Mo.get (atI (chars z) i)) (.fz rS) :=
  re_ix ix_str (fun z i G σ F H Q u w o hu hw q => by
    obtain rfl : u = .str z := hu
    obtain rfl : w = .int i := hw
    obtain ⟨q1, x, hx, q2⟩ := q
    unfold chars at hx
    rw [atI_map] at hx
    cases e : atI z.cps.toList i with
    | none => rw [e] at hx; cases hx
    | some c =>
      rw [e] at hx
      cases hx
      exact ⟨z, i, c, rfl, rfl, q1, e, NQ.here (ρ := rS) q2 o rfl⟩) ha hb hs
theorem re_slS {lo hi : Option Expr} {ml mh : Mo (Option Int)} {p2 : Pos} (ha : RE X W Γ a ma (.fz rS)) (hl : RP X W Γ lo ml) (hh : RP X W Γ hi mh) : RE X W Γ (.Subscript a (.Slice lo hi none p2) pos) (ma >>= fun z => ml >>= fun l => mh >>= fun h => Mo.rq (z.length ≤ sizeLine) (cutS z l h)) (.fz rS) := by
  refine re_of (pe_slice sl_str peE poP poP) fun G σ F H Q o q => ?_
  refine ha G σ F H _ o (ma.mono (fun z hx v F1 H1 o1 g1 zz => ?_) (fun _ z => z) q)
  obtain rfl : v = .str z := zz
  refine hl G σ F1 H1 _ o1 (ml.mono (fun l hx F2 H2 o2 g2 => ?_) (fun _ => EQ.step g1) hx)
  have g12 := g1.trans g2 owns_tr
  refine hh G σ F2 H2 _ o2 (mh.mono (fun h hx F3 H3 o3 g3 => ?_) (fun _ => EQ.step g12) hx)
  exact ⟨z, rfl, hx.1, hx.2 _ F3 H3 o3 (g12.trans g3 owns_tr) rfl⟩
theorem re_lenS {p : Pos} (h : RE X W Γ e ma (.fz rS)) (hm : X.mg "len" = none) (hg : Gl X "len" := by rfl) (he : starEach [e] X.env = [(false, eval e X.env)] := by rfl) : RE X W Γ (.Call (.Name "len" p) [e] [] pos) (ma >>= fun z => Mo.rq (z.length ≤ sizeLine) (z.length : Int)) (.fz rI) := by
  refine re_of (pe_callB call_len_str hg hm (by decide +kernel) (pa_cons peE pa_nil he) (by decide) (by decide) he rfl) fun G σ F H Q o q => ?_
  refine h G σ F H _ o (ma.mono (fun z hx v F' H' o' g' zz => ?_) (fun _ z => z) q)
  obtain rfl : v = .str z := zz
  exact ⟨z, rfl, hx.1, hx.2 _ F' H' o' g' rfl⟩
theorem re_fmtS (h : RE X W Γ e ma (.fz rS)) : RE X W Γ (.FormattedValue e (-1) none pos) (ma >>= fun y => Mo.rq (y.length ≤ sizeLine) y) (.fz rS) :=
  re_of (pe_fmt peE) fun G σ F H Q o q => h G σ F H _ o (ma.mono (fun z hx v F' H' o' g' zz => .inl ⟨z, zz, hx.1, hx.2 _ F' H' o' g' rfl⟩) (fun _ z => z) q)
def RJ (X : Cx) (W : WX) (Γ : Ctx) (es : List Expr) (m : Str → Mo Str) : Prop := ∃ ts, PJ X es ts ∧ ∀ (acc : Str) G σ F H (Q : Str → Hp → Prop), Ok G Γ σ F H → (m acc).run (fun x => ∀ F' H', Ok G Γ σ F' H' → Go (owns Γ) F H F' H' → Q x H') (EQ X W G Γ σ F H) → tJs ts acc σ H Q
theorem rj_nil : RJ X W Γ [] (fun acc => pure acc) := ⟨[], .nil, fun acc G σ F H Q o q => q F H o (Go.refl o.le)⟩
theorem rj_cons {m : Str → Mo Str} (h : RE X W Γ e ma (.fz rS)) (r : RJ X W Γ es m) : RJ X W Γ (e :: es) (fun acc => ma >>= fun y => Mo.rq ((acc ++ y).length ≤ sizeLine) (acc ++ y) >>= m) := by
  obtain ⟨ts, hp, hr⟩ := r
  refine ⟨_, .cons peE hp, fun acc G σ F H Q o q => ?_⟩
  refine h G σ F H _ o (ma.mono (fun y hx v F' H' o' g' zz => ⟨y, zz, hx.1, ?_⟩) (fun _ z => z) q)
  exact hr _ G σ F' H' Q o' ((m (acc ++ y)).mono (fun c hc F2 H2 o2 g2 => hc F2 H2 o2 (g'.trans g2 owns_tr)) (fun _ => EQ.step g') hx.2)
theorem re_fs {v1 v2 : Expr} {rest : List Expr} {m : Str → Mo Str} (h : RJ X W Γ (v1 :: v2 :: rest) m) : RE X W Γ (.JoinedStr (v1 :: v2 :: rest) pos) (m Str.empty) (.fz rS) := by
  obtain ⟨ts, hp, hr⟩ := h
  exact re_of (pe_joined hp) fun G σ F H Q o q => hr _ G σ F H _ o (Mo.mono _ (fun x hx F' H' o' g' => hx _ F' H' o' g' rfl) (fun _ z => z) q)
theorem re_join {k : Bool} {apos : Pos} {ml : Mo (List Str)} (ha : RE X W Γ a ma (.fz rS)) (hb : RSq X W Γ k e ml rS) (hs : starEach [e] X.env = [(false, eval e X.env)] := by rfl) (hbase : attributeBase a "join" X.env (eval a X.env) = eval a X.env := by rfl) (hline : (apos.endLine == pos.line) = true := by rfl) :
    RE X W Γ (.Call (.Attribute a "join" apos) [e] [] pos) (ma >>= fun x => ml >>= fun ys => Mo.rq ((ys.map (·.length)).sum + ys.length * x.length ≤ 16777216) (Txt.join x ys)) (.fz rS) := by
  refine re_of (pe_join peE peE hs hbase hline) fun G σ F H Q o q => ?_
  refine ha G σ F H _ o (ma.mono (fun z hx v F1 H1 o1 g1 zz => ?_) (fun _ z => z) q)
  obtain rfl : v = .str z := zz
  refine ⟨⟨z, rfl⟩, hb G σ F1 H1 _ o1 (ml.mono (fun ys hy p vs F2 H2 o2 g2 z1 z2 => ?_) (fun _ => EQ.step g1) hx)⟩
  have e : vs = ys.map V.str := Ps.sc (s := scS) z2
  subst e
  exact ⟨z, p, ys, rfl, rfl, z1.or o2.le, hy.1, hy.2 _ F2 H2 o2 (g1.trans g2 owns_tr) rfl⟩
structure SCmp (X : Cx) (op : CmpOp) (f : Str → Str → Bool) : Prop where
  h : ∃ r, OpR X (compareOp op) r ∧ ∀ (W : WX) (Γ : Ctx) (x y : Str), ROp X W Γ r (rS x) (rS y) (pure (f x y)) (.fz rB)
section
variable {f f' : Str → Str → Bool}
end
theorem calmE2 {G : Gf} {σ : L2.St} {F H : Hp} {Q : VK} {m : Mo Bool} (q : (Mo.calm m).run (NQ G Γ σ F H (.fz rB) Q) (EQ X W G Γ σ F H)) : m.run (NQ G Γ σ F H (.fz rB) fun v H' => ∃ c, v = .bl c ∧ Q (.bl c) H') (EQ X W0 G Γ σ F H) := m.mono (fun c h v F' H' o' g' z => by
    have z : v = .bl c := z
    subst z
    exact ⟨c, rfl, h _ F' H' o' g' rfl⟩) (fun _ z => z.elim) q
theorem pass_calm (tk : Takes X W) : ∀ σ, PassesAt (L2.CX X.prog X.w) X σ (fun _ _ _ => False) := fun σ pins H s e s' I h => tk e s' (XE.of_call I (fun _ _ _ z => z.elim) h)
theorem rc_eqO {k : Nat} {f C : Addr} {fd : FuncData} {ps : List Str} {m : α × β × Unit → Mo Bool} {mx : Mo α} {my : Mo β} {ρ : α → Pr} {ρ' : β → Pr} (fs : α → List (Str × Pr)) (fs' : β → List (Str × Pr)) (hm : Meth X.K C "__eq__" f) (Fn : FnOk X.prog X.w X.K X.mg X.base (L2.CX X.prog X.w) k f fd ps (spR X.K X.mg (fun (_ : Unit) (z : α × β × Unit) => [.fz (ρ z.1), .fz (ρ' z.2.1)]) m (.fz rB))) (hr : Room k X.A) (tk : Takes X W) (hb : Binds X.K fd ps [])
    (ha : RE X W Γ a mx (.fz ρ)) (hb2 : RE X W Γ b my (.fz ρ')) (hρ : ∀ x, ρ x = rIn C (fs x) := by intro _; rfl) (hρ' : ∀ x, ρ' x = rIn C (fs' x) := by intro _; rfl) : RC X W Γ .Eq a b (mx >>= fun x => my >>= fun y => Mo.calm (m (x, y, ()))) :=
  ⟨_, eq_own hm Fn hr hb (pass_calm tk), rte_two ha hb2 fun x y G σ F H Q u w o hu hw q => by
    have hu' := hu
    have hw' := hw
    rw [hρ x] at hu'
    rw [hρ' y] at hw'
    obtain ⟨p, dx, gs, rfl, h1, _⟩ := hu'
    obtain ⟨p2, dy, gs2, rfl, h2, _⟩ := hw'
    refine ⟨p, dx, gs, p2, dy, gs2, rfl, rfl, o.le _ _ h1, o.le _ _ h2, ?_⟩
    refine run_spR (W := W0) (Γ := Γ) (i := ()) (y := (x, y, ())) o ⟨rfl, fun i en v e1 e2 => ?_, fun i l a q h => ?_⟩ rfl (calmE2 q)
    · match i, e1, e2 with
      | 0, e1, e2 => cases e1; cases e2; exact hu
      | 1, e1, e2 => cases e1; cases e2; exact hw
    · match i, h with
      | 0, h => cases h
      | 1, h => cases h⟩
theorem re_isC {C : Addr} {p p2 : Pos} {n : Str} {mx : Mo α} {ρ : α → Pr} (fs : α → List (Str × Pr)) (ci : C8.InsC X.K C) (h : RE X W Γ e mx (.fz ρ)) (hn : PE X (.Name n p2) (tC (.ref C))) (hm : X.mg "isinstance" = none) (hρ : ∀ x, ρ x = rIn C (fs x) := by intro _; rfl) (hg : Gl X "isinstance" := by rfl)
    (he2 : starEach [.Name n p2] X.env = [(false, eval (.Name n p2) X.env)] := by rfl) (he : starEach [e, .Name n p2] X.env = (false, eval e X.env) :: starEach [.Name n p2] X.env := by rfl) (hpl : (backTo pos (starEach [.Name n p2] X.env)).any (·.1) = false := by rfl) :
    RE X W Γ (.Call (.Name "isinstance" p) [e, .Name n p2] [] pos) (mx >>= fun _ => pure true) (.fz rB) := by
  refine re_of (pe_callB (C8.call_isC ci) hg hm (by decide +kernel) (pa_cons peE (pa_cons hn pa_nil he2) he) (by decide) (by decide) he hpl) fun G σ F H Q o q => ?_
  refine h G σ F H _ o (mx.mono (fun x hx v F' H' o' g' z => ?_) (fun _ z => z) q)
  have z' : (ρ x).r v F' := z
  rw [hρ x] at z'
  obtain ⟨a, dx, gs, rfl, h1, _⟩ := z'
  exact ⟨a, dx, gs, rfl, o'.le _ _ h1, hx _ F' H' o' g' rfl⟩
end
end RF
namespace RF
open PySem PySem.Spec PyProof.Rows L2 KO SX
section
variable {α β γ δ ε ζ η θ : Type}
def rT6 (ρ : α → Pr) (σ : β → Pr) (τ : γ → Pr) (υ : δ → Pr) (φ : ε → Pr) (χ : ζ → Pr) (x : α × β × γ × δ × ε × ζ) : Pr := rTu [ρ x.1, σ x.2.1, τ x.2.2.1, υ x.2.2.2.1, φ x.2.2.2.2.1, χ x.2.2.2.2.2]
def rT7 (ρ : α → Pr) (σ : β → Pr) (τ : γ → Pr) (υ : δ → Pr) (φ : ε → Pr) (χ : ζ → Pr) (ψ : η → Pr) (x : α × β × γ × δ × ε × ζ × η) : Pr := rTu [ρ x.1, σ x.2.1, τ x.2.2.1, υ x.2.2.2.1, φ x.2.2.2.2.1, χ x.2.2.2.2.2.1, ψ x.2.2.2.2.2.2]
def rT8 (ρ : α → Pr) (σ : β → Pr) (τ : γ → Pr) (υ : δ → Pr) (φ : ε → Pr) (χ : ζ → Pr) (ψ : η → Pr) (ω : θ → Pr) (x : α × β × γ × δ × ε × ζ × η × θ) : Pr := rTu [ρ x.1, σ x.2.1, τ x.2.2.1, υ x.2.2.2.1, φ x.2.2.2.2.1, χ x.2.2.2.2.2.1, ψ x.2.2.2.2.2.2.1, ω x.2.2.2.2.2.2.2]
section
variable {ρ : α → Pr} {σ : β → Pr} {τ : γ → Pr} {υ : δ → Pr} {φ : ε → Pr} {χ : ζ → Pr} {ψ : η → Pr} {ω : θ → Pr}
section
variable [r : Enc ρ] [s : Enc σ] [t : Enc τ] [u : Enc υ] [w : Enc φ] [y : Enc χ] [z : Enc ψ] [z2 : Enc ω]
instance encT6 : Enc (rT6 ρ σ τ υ φ χ) := ⟨max r.n (max s.n (max t.n (max u.n (max w.n y.n)))) + 1, fun x => .tuple [r.d x.1, s.d x.2.1, t.d x.2.2.1, u.d x.2.2.2.1, w.d x.2.2.2.2.1, y.d x.2.2.2.2.2], fun x => r.ok x.1 ∧ s.ok x.2.1 ∧ t.ok x.2.2.1 ∧ u.ok x.2.2.2.1 ∧ w.ok x.2.2.2.2.1 ∧ y.ok x.2.2.2.2.2, fun {x v F} k h =>
  dt_tu rfl (by show 6 ≤ 1000; decide) h (all2 (.cons (fun v h => (r.is k.1 h).le (by omega)) (.cons (fun v h => (s.is k.2.1 h).le (by omega)) (.cons (fun v h => (t.is k.2.2.1 h).le (by omega)) (.cons (fun v h => (u.is k.2.2.2.1 h).le (by omega)) (.cons (fun v h => (w.is k.2.2.2.2.1 h).le (by omega)) (.cons (fun v h => (y.is k.2.2.2.2.2 h).le (by omega)) .nil)))))))⟩
instance encT7 : Enc (rT7 ρ σ τ υ φ χ ψ) := ⟨max r.n (max s.n (max t.n (max u.n (max w.n (max y.n z.n))))) + 1, fun x => .tuple [r.d x.1, s.d x.2.1, t.d x.2.2.1, u.d x.2.2.2.1, w.d x.2.2.2.2.1, y.d x.2.2.2.2.2.1, z.d x.2.2.2.2.2.2], fun x => r.ok x.1 ∧ s.ok x.2.1 ∧ t.ok x.2.2.1 ∧ u.ok x.2.2.2.1 ∧ w.ok x.2.2.2.2.1 ∧ y.ok x.2.2.2.2.2.1 ∧ z.ok x.2.2.2.2.2.2, fun {x v F} k h =>
  dt_tu rfl (by show 7 ≤ 1000; decide) h (all2 (.cons (fun v h => (r.is k.1 h).le (by omega)) (.cons (fun v h => (s.is k.2.1 h).le (by omega)) (.cons (fun v h => (t.is k.2.2.1 h).le (by omega)) (.cons (fun v h => (u.is k.2.2.2.1 h).le (by omega)) (.cons (fun v h => (w.is k.2.2.2.2.1 h).le (by omega)) (.cons (fun v h => (y.is k.2.2.2.2.2.1 h).le (by omega)) (.cons (fun v h => (z.is k.2.2.2.2.2.2 h).le (by omega)) .nil))))))))⟩
instance encT8 : Enc (rT8 ρ σ τ υ φ χ ψ ω) := ⟨max r.n (max s.n (max t.n (max u.n (max w.n (max y.n (max z.n z2.n)))))) + 1, fun x => .tuple [r.d x.1, s.d x.2.1, t.d x.2.2.1, u.d x.2.2.2.1, w.d x.2.2.2.2.1, y.d x.2.2.2.2.2.1, z.d x.2.2.2.2.2.2.1, z2.d x.2.2.2.2.2.2.2], fun x => r.ok x.1 ∧ s.ok x.2.1 ∧ t.ok x.2.2.1 ∧ u.ok x.2.2.2.1 ∧ w.ok x.2.2.2.2.1 ∧ y.ok x.2.2.2.2.2.1 ∧ z.ok x.2.2.2.2.2.2.1 ∧ z2.ok x.2.2.2.2.2.2.2, fun {x v F} k h =>
  dt_tu rfl (by show 8 ≤ 1000; decide) h (all2 (.cons (fun v h => (r.is k.1 h).le (by omega)) (.cons (fun v h => (s.is k.2.1 h).le (by omega)) (.cons (fun v h => (t.is k.2.2.1 h).le (by omega)) (.cons (fun v h => (u.is k.2.2.2.1 h).le (by omega)) (.cons (fun v h => (w.is k.2.2.2.2.1 h).le (by omega)) (.cons (fun v h => (y.is k.2.2.2.2.2.1 h).le (by omega)) (.cons (fun v h => (z.is k.2.2.2.2.2.2.1 h).le (by omega)) (.cons (fun v h => (z2.is k.2.2.2.2.2.2.2 h).le (by omega)) .nil)))))))))⟩
end
instance {ρ : α → Pr} : NN (rQ ρ) := ⟨fun x v F ⟨a, vs, e, _⟩ z => by subst z; cases e⟩
instance : NN (rT1 ρ) := ⟨fun x v F h => nn_tu h⟩
instance : NN (rT4 ρ σ τ υ) := ⟨fun x v F h => nn_tu h⟩
instance : NN (rT5 ρ σ τ υ φ) := ⟨fun x v F h => nn_tu h⟩
instance : NN (rT6 ρ σ τ υ φ χ) := ⟨fun x v F h => nn_tu h⟩
instance : NN (rT7 ρ σ τ υ φ χ ψ) := ⟨fun x v F h => nn_tu h⟩
instance : NN (rT8 ρ σ τ υ φ χ ψ ω) := ⟨fun x v F h => nn_tu h⟩
theorem nn_in {C : Addr} {fs : List (Str × Pr)} {v : V} {F : Hp} (h : (rIn C fs).r v F) : v ≠ .non := fun z => by
  obtain ⟨a, dx, gs, e, _⟩ := h
  subst z; cases e
instance [NL ρ] [NL σ] [NL τ] [NL υ] [NL φ] [NL χ] : NL (rT6 ρ σ τ υ φ χ) := ⟨fun {x} {v F a vs} h k => nl_T (nl_memc (nlr _) (nl_memc (nlr _) (nl_memc (nlr _) (nl_memc (nlr _) (nl_memc (nlr _) (nl_mem1 (nlr _))))))) h k⟩
end
end
section
variable {α β γ δ ε ζ α' β' γ' δ' ε' ζ' : Type} {ρ : α → Pr} {ρ' : α' → Pr} {σ : β → Pr} {σ' : β' → Pr} {τ : γ → Pr} {τ' : γ' → Pr} {υ : δ → Pr} {υ' : δ' → Pr} {φ : ε → Pr} {φ' : ε' → Pr} {χ : ζ → Pr} {χ' : ζ' → Pr}
def Coe (ρ : α → Pr) (ρ' : α' → Pr) (f : α → α') : Prop := ∀ x v F, (ρ x).r v F → (ρ' (f x)).r v F
theorem co_id : Coe ρ ρ (fun x => x) := fun _ _ _ h => h
theorem co_none : Coe rN (rO ρ) (fun _ => none) := fun _ _ _ h => h
theorem co_some {f : α → α'} (h : Coe ρ ρ' f) : Coe ρ (rO ρ') (fun x => some (f x)) := fun x v F k => h x v F k
inductive CoP (F : Hp) : List Pr → List Pr → Prop where
  | nil : CoP F [] []
  | cons {p q : Pr} {ps qs : List Pr} (h : ∀ v, p.r v F → q.r v F) (t : CoP F ps qs) : CoP F (p :: ps) (q :: qs)
theorem CoP.ps {F : Hp} : ∀ {ps qs : List Pr} {vs : List V}, CoP F ps qs → Ps F ps vs → Ps F qs vs
  | _, _, [], .nil, _ => trivial
  | _, _, v :: vs, .cons h t, k => ⟨h v k.1, t.ps k.2⟩
  | _, _, [], .cons _ _, k => k.elim
  | _, _, _ :: _, .nil, k => k.elim
end
section
variable {α β γ δ : Type} {X : Cx} {W : WX} {Γe Γ Γ' : Ctx} {lv : Bool} {e a b : Expr} {es : List Expr} {pos : Pos} {ρ : α → Pr} {m : Mo α}
theorem re_coe {ρ' : β → Pr} {f : α → β} (c : Coe ρ ρ' f) (h : RE X W Γ e m (.fz ρ)) : RE X W Γ e (f <$> m) (.fz ρ') := re_map f h c
class Dec (ρ : α → Pr) where
  d : PyData → Option α
  is : ∀ {x : PyData} {y : α} {v : V} {F : Hp} {n : Nat}, n ≤ 8 → d x = some y → Dt n F v x → (ρ y).r v F
def asS : PyData → Option Str
  | .str i => some i
  | _ => none
def asB : PyData → Option Bool
  | .bool i => some i
  | _ => none
theorem dt_pos {n : Nat} {F : Hp} {v : V} {x : PyData} (h : Dt n F v x) : ∃ k, n = k + 1 := by
  cases n with
  | zero => exact h.elim
  | succ k => exact ⟨k, rfl⟩
instance decI : Dec rI := ⟨asI, fun {x y v F n} hn e h => by
  obtain ⟨k, rfl⟩ := dt_pos h
  cases x with
  | int j => obtain rfl := Option.some.inj e; exact h
  | _ => cases e⟩
instance decS : Dec rS := ⟨asS, fun {x y v F n} hn e h => by
  obtain ⟨k, rfl⟩ := dt_pos h
  cases x with
  | str j => obtain rfl := Option.some.inj e; exact h
  | _ => cases e⟩
instance decB : Dec rB := ⟨asB, fun {x y v F n} hn e h => by
  obtain ⟨k, rfl⟩ := dt_pos h
  cases x with
  | bool j => obtain rfl := Option.some.inj e; exact h
  | _ => cases e⟩
instance decD : Dec rD := ⟨some, fun {x y v F n} hn e h => by
  obtain rfl := Option.some.inj e
  exact h.le hn⟩
instance decO {ρ : α → Pr} [s : Dec ρ] : Dec (rO ρ) := ⟨fun x => match x with | .none => some none | x => (s.d x).map some, fun {x y v F n} hn e h => by
  obtain ⟨k, rfl⟩ := dt_pos h
  cases x with
  | none => cases e; exact h
  | int _ => simp only [Option.map_eq_some_iff] at e; obtain ⟨a, e, rfl⟩ := e; exact s.is hn e h
  | bool _ => simp only [Option.map_eq_some_iff] at e; obtain ⟨a, e, rfl⟩ := e; exact s.is hn e h
  | str _ => simp only [Option.map_eq_some_iff] at e; obtain ⟨a, e, rfl⟩ := e; exact s.is hn e h
  | list _ => simp only [Option.map_eq_some_iff] at e; obtain ⟨a, e, rfl⟩ := e; exact s.is hn e h
  | tuple _ => simp only [Option.map_eq_some_iff] at e; obtain ⟨a, e, rfl⟩ := e; exact s.is hn e h
  | dict _ => exact h.elim⟩
theorem dec_ps {ρ : α → Pr} [s : Dec ρ] {F : Hp} {n : Nat} (hn : n ≤ 8) : ∀ {ds : List PyData} {ys : List α} {vs : List V}, ds.mapM s.d = some ys → vs.length = ds.length → (∀ (i : Nat) (x : V) (e : PyData), vs[i]? = some x → ds[i]? = some e → Dt n F x e) → Ps F (ys.map ρ) vs
  | [], ys, [], e, _, _ => by simp at e; subst e; trivial
  | d :: ds, ys, v :: vs, e, hl, h => by
    rw [List.mapM_cons] at e
    cases e1 : s.d d with
    | none => rw [e1] at e; simp at e
    | some y =>
      cases e2 : ds.mapM s.d with
      | none => rw [e1, e2] at e; simp at e
      | some zs =>
        rw [e1, e2] at e
        simp at e
        subst e
        exact ⟨s.is hn e1 (h 0 v d rfl rfl), dec_ps hn e2 (by simpa using hl) fun i x c h1 h2 => h (i + 1) x c (by simpa using h1) (by simpa using h2)⟩
  | [], _, _ :: _, _, hl, _ => by simp at hl
  | _ :: _, _, [], _, hl, _ => by simp at hl
instance decL {ρ : α → Pr} [s : Dec ρ] : Dec (rL ρ) := ⟨fun x => match x with | .list ds => ds.mapM s.d | _ => none, fun {x y v F n} hn e h => by
  obtain ⟨k, rfl⟩ := dt_pos h
  cases x with
  | list ds =>
    obtain ⟨a, xs, rfl, h1, h2, _, h3⟩ := h
    exact ⟨a, xs, rfl, h1, dec_ps (by omega) e h2 h3⟩
  | _ => cases e⟩
instance decTs {ρ : α → Pr} [s : Dec ρ] : Dec (rTs ρ) := ⟨fun x => match x with | .tuple ds => ds.mapM s.d | _ => none, fun {x y v F n} hn e h => by
  obtain ⟨k, rfl⟩ := dt_pos h
  cases x with
  | tuple ds =>
    obtain ⟨a, xs, rfl, h1, h2, _, h3⟩ := h
    exact ⟨a, xs, rfl, h1, dec_ps (by omega) e h2 h3⟩
  | _ => cases e⟩
theorem re_dec {ρ : α → Pr} [s : Dec ρ] {m : Mo PyData} (h : RE X W Γ e m (.fz rD)) : RE X W Γ e (m >>= fun d => Mo.get (s.d d)) (.fz ρ) := fun G σ F H Q o q =>
  h G σ F H Q o (m.mono (fun x hx v F' H' o' g' z => by
    obtain ⟨i, hi, hx⟩ := hx
    exact hx v F' H' o' g' (s.is (Nat.le_refl 8) hi z)) (fun _ z => z) q)
class DecP (ps : List Pr) (ds : List PyData) : Prop where
  is : ∀ {vs : List V} {F : Hp}, Ps F (ds.map rD) vs → Ps F ps vs
section
variable {ε : Type} {ρ2 : β → Pr} {τ : γ → Pr} {υ : δ → Pr} {φ : ε → Pr} [r : Dec ρ] [s : Dec ρ2] [t : Dec τ] [u : Dec υ] [w : Dec φ]
def dT2 (ρ : α → Pr) (ρ2 : β → Pr) [r : Dec ρ] [s : Dec ρ2] : List PyData → Option (α × β)
  | [a, b] => do let a ← r.d a; let b ← s.d b; pure (a, b)
  | _ => none
theorem some_bind {A B : Type} {o : Option A} {f : A → Option B} {y : B} (h : (o >>= f) = some y) : ∃ a, o = some a ∧ f a = some y := by
  cases o with
  | none => cases h
  | some a => exact ⟨a, rfl, h⟩
end
end
end RF
namespace RF
open PySem PySem.Spec PyProof.Rows L2 KO SX
section
variable {α β γ δ : Type} {X : Cx} {W : WX} {Γe Γ Γ' : Ctx} {lv : Bool} {e a b : Expr} {es : List Expr} {pos : Pos}
section
variable {lo hi : Option Expr} {ml mh : Mo (Option Int)} {p2 : Pos}
end
end
end RF
namespace RF
open PySem PySem.Spec PyProof.Rows L2 KO SX
section
variable {α β γ δ : Type} {X : Cx} {W : WX} {Γ : Ctx} {e a b : Expr} {pos : Pos} {k : Nat} {f C : Addr} {fd : FuncData} {ps : List Str} {CX : CXT} {sp : Sp}
def rStrO (C : Addr) (sp : Sp) (E : XK) : List V → Hp → VK → Prop := fun xs H Q => ∃ a dx fs, xs = [.ref a] ∧ H a = some (.ins C dx fs) ∧ sp [.ref a] H (fun v H' => ∃ z, v = .str z ∧ Q (.str z) H') E
theorem str_own {E : XK} (m : Meth X.K C "__str__" f) (F : FnOk X.prog X.w X.K X.mg X.base CX k f fd ps sp) (hr : Room (k + 2) X.A) (hb : Binds X.K fd ps []) (hx : ∀ σ, PassesAt CX X σ E) : CallR X (.type "str") (rStrO C sp E) := by
  intro pins s σ H xs us Q I r h
  obtain ⟨a, dx, fs, rfl, ha, q⟩ := h
  rw [Vals.ref1 r]
  obtain ⟨ox, od, J⟩ := inst_at I ha
  refine PySem.W.kso_call (by have := hr.in1.in1.un; omega) I.kIn J m.at_ m.fn (wpAny_mono (own_run (E := fun _ => E) (A := X.A.in1.in1) F hr.in1.in1 rfl hb (hx σ) I (.cons vref .nil) q) (fun u s' hu => ?_) fun _ _ x => x)
  obtain ⟨v, H', I', rv, z, rfl, q'⟩ := hu
  obtain ⟨t, rfl⟩ := rv
  exact ⟨.str z, H', I', ⟨t, rfl⟩, q'⟩
theorem calmF {Q' : VK} {G : Gf} {σ : L2.St} {F H : Hp} {Q : VK} {kr : RK γ} {m : Mo γ} (hq : ∀ y, NQ G Γ σ F H kr Q y → NQ G Γ σ F H kr Q' y) (q : (Mo.calm m).run (NQ G Γ σ F H kr Q) (EQ X W G Γ σ F H)) : m.run (NQ G Γ σ F H kr Q') (EQ X W0 G Γ σ F H) := m.mono (fun c h => hq c h) (fun _ z => z.elim) q
theorem arg1 {F H : Hp} {p : Pr} {v : V} (h : p.r v F) : ArgOk Γ F H [.fz p] [v] := ⟨rfl, fun i en u e1 e2 => by
  match i, e1, e2 with
  | 0, e1, e2 => cases e1; cases e2; exact h, fun i l a q h => by
  match i, h with
  | 0, h => cases h⟩
theorem re_strO {p : Pos} {m : α × Unit → Mo Str} {mx : Mo α} {ρ : α → Pr} (fs : α → List (Str × Pr)) (hm : Meth X.K C "__str__" f) (Fn : FnOk X.prog X.w X.K X.mg X.base (L2.CX X.prog X.w) k f fd ps (spR X.K X.mg (fun (_ : Unit) (z : α × Unit) => [.fz (ρ z.1)]) m (.fz rS))) (hr : Room (k + 2) X.A) (tk : Takes X W) (hb : Binds X.K fd ps [])
    (ha : RE X W Γ e mx (.fz ρ)) (hms : X.mg "str" = none) (hρ : ∀ x, ρ x = rIn C (fs x) := by intro _; rfl) (hg : Gl X "str" := by rfl) (he : starEach [e] X.env = [(false, eval e X.env)] := by rfl) : RE X W Γ (.Call (.Name "str" p) [e] [] pos) (mx >>= fun x => Mo.calm (m (x, ()))) (.fz rS) := by
  refine re_of (pe_callTy (str_own hm Fn hr hb (pass_calm tk)) hg hms (by decide +kernel) (pa_cons peE pa_nil he) (by decide) (by decide) he rfl) fun G σ F H Q o q => ?_
  refine ha G σ F H _ o (mx.mono (fun x hx v F' H' o' g' z => ?_) (fun _ z => z) q)
  have z' : (ρ x).r v F' := z
  have z0 : (ρ x).r v F' := z
  rw [hρ x] at z'
  obtain ⟨ad, dx, gs, rfl, h1, _⟩ := z'
  refine ⟨ad, dx, gs, rfl, o'.le _ _ h1, ?_⟩
  exact run_spR (W := W0) (Γ := Γ) (i := ()) (y := (x, ())) o' (arg1 z0) rfl (calmF (fun y hy v F' H' o' g' z => by
    have z : v = .str y := z
    subst z
    exact ⟨y, rfl, hy _ F' H' o' g' rfl⟩) (run_step g' hx))
end
end RF
namespace RF
open PySem PySem.Spec PyProof.Rows L2 KO SX
def tl (z : Str) : List Nat := z.cps.toList
theorem len_tl (z : Str) : z.length = (tl z).length := by unfold tl Str.length; rw [Array.length_toList]
theorem tl_app (x y : Str) : tl (x ++ y) = tl x ++ tl y := by show (x.cps ++ y.cps).toList = _; simp [tl]
theorem len_app (x y : Str) : (x ++ y).length = x.length + y.length := by rw [len_tl, tl_app, List.length_append, ← len_tl, ← len_tl]
section
variable {α : Type}
theorem atI_in {xs : List α} {i : Int} (h : 0 ≤ i) (h2 : i < xs.length) : ∃ x, atI xs i = some x ∧ xs[i.toNat]? = some x := by
  have h3 : i.toNat < xs.length := by omega
  refine ⟨xs[i.toNat], ?_, List.getElem?_eq_getElem h3⟩
  unfold atI ixN
  rw [if_pos h, if_pos h2]
  exact List.getElem?_eq_getElem h3
end
def isw (z : Str) : Prop := (1 ≤ z.length ∧ z.length ≤ 8) ∧ ∀ c ∈ tl z, 97 ≤ c ∧ c ≤ 122
instance (z : Str) : Decidable (isw z) := by unfold isw; infer_instance
theorem mem_chars {z w : Str} (h : w ∈ chars z) : ∃ c, c ∈ tl z ∧ w = ⟨#[c]⟩ := by
  unfold chars at h
  obtain ⟨c, hc, rfl⟩ := List.mem_map.mp h
  exact ⟨c, hc, rfl⟩
theorem len_chars (z : Str) : (chars z).length = z.length := by unfold chars; rw [List.length_map, len_tl]; rfl
end RF
namespace RF
open PySem PySem.Spec PyProof.Rows L2 KO SX
theorem eqvAll_map {α : Type} {d : α → PyData} (h : ∀ x y, PyData.eqv (d x) (d y) = true ↔ x = y) : ∀ xs ys : List α, PyData.eqvAll (xs.map d) (ys.map d) = true ↔ xs = ys
  | [], [] => by simp [PyData.eqvAll]
  | x :: xs, [] => by simp [PyData.eqvAll]
  | [], y :: ys => by simp [PyData.eqvAll]
  | x :: xs, y :: ys => by simp [PyData.eqvAll, h, eqvAll_map h xs ys]
def Lay (n : Nat) (d : PyData) : Prop := d.canLay0 = true ∧ d.depth ≤ n
theorem lay_all {α : Type} {d : α → PyData} {n : Nat} : ∀ {xs : List α}, (∀ x ∈ xs, Lay n (d x)) → PyData.canLayAll0 (xs.map d) = true ∧ PyData.depthAll (xs.map d) ≤ n
  | [], _ => by simp [PyData.canLayAll0, PyData.depthAll]
  | x :: xs, h => by
    have h1 := h x List.mem_cons_self
    have h2 := lay_all fun y hy => h y (List.mem_cons_of_mem _ hy)
    simp [PyData.canLayAll0, PyData.depthAll]
    exact ⟨⟨h1.1, h2.1⟩, Nat.max_le.mpr ⟨h1.2, h2.2⟩⟩
theorem lay_tup {n : Nat} {ds : List PyData} (h : ∀ d ∈ ds, Lay n d) : Lay (n + 1) (.tuple ds) := by
  have := lay_all (d := fun d => d) (n := n) h
  rw [List.map_id'] at this
  exact ⟨by simp [PyData.canLay0, this.1], by simp [PyData.depth, this.2]⟩
theorem lay_lst {n : Nat} {ds : List PyData} (h : ∀ d ∈ ds, Lay n d) : Lay (n + 1) (.list ds) := by
  have := lay_all (d := fun d => d) (n := n) h
  rw [List.map_id'] at this
  exact ⟨by simp [PyData.canLay0, this.1], by simp [PyData.depth, this.2]⟩
theorem Lay.le {n m : Nat} {d : PyData} (h : Lay n d) (k : n ≤ m) : Lay m d := ⟨h.1, by have := h.2; omega⟩
class EqE {α : Type} (ρ : α → Pr) extends Enc ρ where
  k : α → Prop
  kok : ∀ {x}, k x → ok x
  lay : ∀ {x}, k x → Lay n (d x)
  eqv : ∀ x y, PyData.eqv (d x) (d y) = true ↔ x = y
section
variable {α β γ δ ε ζ : Type}
instance eqI : EqE rI := { encI with k := fun _ => True, kok := fun h => h, lay := fun _ => ⟨by show PyData.canLay0 (.int _) = true; simp [PyData.canLay0], by show PyData.depth (.int _) ≤ _; simp [PyData.depth]⟩, eqv := fun x y => by show PyData.eqv (.int x) (.int y) = true ↔ _; simp [PyData.eqv] }
instance eqB : EqE rB := { encB with k := fun _ => True, kok := fun h => h, lay := fun _ => ⟨by show PyData.canLay0 (.bool _) = true; simp [PyData.canLay0], by show PyData.depth (.bool _) ≤ _; simp [PyData.depth]⟩, eqv := fun x y => by show PyData.eqv (.bool x) (.bool y) = true ↔ _; simp [PyData.eqv] }
instance eqN : EqE rN := { encN with k := fun _ => True, kok := fun h => h, lay := fun _ => ⟨by show PyData.canLay0 .none = true; simp [PyData.canLay0], by show PyData.depth .none ≤ _; simp [PyData.depth]⟩, eqv := fun x y => by show PyData.eqv .none .none = true ↔ _; simp [PyData.eqv] }
instance eqS : EqE rS := { encS with k := fun x => PyData.strOk x = true, kok := fun _ => trivial, lay := fun h => ⟨by show PyData.canLay0 (.str _) = true; simpa [PyData.canLay0] using h, by show PyData.depth (.str _) ≤ _; simp [PyData.depth]⟩, eqv := fun x y => by show PyData.eqv (.str x) (.str y) = true ↔ _; simp [PyData.eqv] }
class NoN {α : Type} (ρ : α → Pr) [Enc ρ] : Prop where
  nn : ∀ x, PyData.eqv (Enc.d ρ x) .none = false ∧ PyData.eqv .none (Enc.d ρ x) = false
instance : NoN rI := ⟨fun x => by constructor <;> simp [Enc.d, PyData.eqv]⟩
instance : NoN rB := ⟨fun x => by constructor <;> simp [Enc.d, PyData.eqv]⟩
instance : NoN rS := ⟨fun x => by constructor <;> simp [Enc.d, PyData.eqv]⟩
section
variable {ρ : α → Pr} {σ : β → Pr} {τ : γ → Pr} {υ : δ → Pr} {φ : ε → Pr} {χ : ζ → Pr}
instance [Enc ρ] : NoN (rL ρ) := ⟨fun x => by constructor <;> simp [Enc.d, PyData.eqv]⟩
instance [Enc ρ] : NoN (rTs ρ) := ⟨fun x => by constructor <;> simp [Enc.d, PyData.eqv]⟩
instance [Enc ρ] [Enc σ] : NoN (rT2 ρ σ) := ⟨fun x => by constructor <;> simp [Enc.d, PyData.eqv]⟩
instance [Enc ρ] [Enc σ] [Enc τ] : NoN (rT3 ρ σ τ) := ⟨fun x => by constructor <;> simp [Enc.d, PyData.eqv]⟩
instance [Enc ρ] [Enc σ] [Enc τ] [Enc υ] : NoN (rT4 ρ σ τ υ) := ⟨fun x => by constructor <;> simp [Enc.d, PyData.eqv]⟩
instance [Enc ρ] [Enc σ] [Enc τ] [Enc υ] [Enc φ] : NoN (rT5 ρ σ τ υ φ) := ⟨fun x => by constructor <;> simp [Enc.d, PyData.eqv]⟩
instance [Enc ρ] [Enc σ] [Enc τ] [Enc υ] [Enc φ] [Enc χ] : NoN (rT6 ρ σ τ υ φ χ) := ⟨fun x => by constructor <;> simp [Enc.d, PyData.eqv]⟩
instance eqO [s : EqE ρ] [NoN ρ] : EqE (rO ρ) := { encO (ρ := ρ) with
  k := fun o => match o with | none => True | some x => s.k x
  kok := fun {x} h => by cases x with
    | none => exact h
    | some x => exact s.kok h
  lay := fun {x} h => by cases x with
    | none => exact ⟨by show PyData.canLay0 .none = true; simp [PyData.canLay0], by show PyData.depth .none ≤ _; simp [PyData.depth]⟩
    | some x => exact (s.lay h).le (Nat.le_succ _)
  eqv := fun x y => by
    cases x with
    | none => cases y with
      | none => show PyData.eqv .none .none = true ↔ _; simp [PyData.eqv]
      | some y => show PyData.eqv .none (s.d y) = true ↔ _; rw [show PyData.eqv .none (s.d y) = false from (NoN.nn (ρ := ρ) y).2]; simp
    | some x => cases y with
      | none => show PyData.eqv (s.d x) .none = true ↔ _; rw [show PyData.eqv (s.d x) .none = false from (NoN.nn (ρ := ρ) x).1]; simp
      | some y => show PyData.eqv (s.d x) (s.d y) = true ↔ _; rw [s.eqv]; simp }
instance eqL [s : EqE ρ] : EqE (rL ρ) := { encL (ρ := ρ) with
  k := fun xs => xs.length ≤ 1000 ∧ ∀ x ∈ xs, s.k x
  kok := fun h => ⟨h.1, fun x hx => s.kok (h.2 x hx)⟩
  lay := fun h => lay_lst fun d hd => by
    obtain ⟨x, hx, rfl⟩ := List.mem_map.mp hd
    exact s.lay (h.2 x hx)
  eqv := fun x y => by show PyData.eqv (.list (x.map s.d)) (.list (y.map s.d)) = true ↔ _; simp only [PyData.eqv]; exact eqvAll_map s.eqv x y }
instance eqTs [s : EqE ρ] : EqE (rTs ρ) := { encTs (ρ := ρ) with
  k := fun xs => xs.length ≤ 1000 ∧ ∀ x ∈ xs, s.k x
  kok := fun h => ⟨h.1, fun x hx => s.kok (h.2 x hx)⟩
  lay := fun h => lay_tup fun d hd => by
    obtain ⟨x, hx, rfl⟩ := List.mem_map.mp hd
    exact s.lay (h.2 x hx)
  eqv := fun x y => by show PyData.eqv (.tuple (x.map s.d)) (.tuple (y.map s.d)) = true ↔ _; simp only [PyData.eqv]; exact eqvAll_map s.eqv x y }
theorem mem1 {P : PyData → Prop} {d : PyData} (h : P d) : ∀ e ∈ [d], P e := fun e he => by rw [List.mem_singleton.mp he]; exact h
theorem memc {P : PyData → Prop} {d : PyData} {ds : List PyData} (h : P d) (k : ∀ e ∈ ds, P e) : ∀ e ∈ d :: ds, P e := fun e he => by
  rcases List.mem_cons.mp he with q | q
  · rw [q]; exact h
  · exact k e q
variable [r : EqE ρ] [s : EqE σ] [t : EqE τ] [u : EqE υ] [w : EqE φ] [z : EqE χ]
instance eqT1 : EqE (rT1 ρ) := { encT1 (ρ := ρ) with
  k := fun x => r.k x, kok := fun h => r.kok h, lay := fun h => lay_tup (mem1 (r.lay h)), eqv := fun x y => by show PyData.eqv (.tuple [r.d x]) (.tuple [r.d y]) = true ↔ _; simp [PyData.eqv, PyData.eqvAll, r.eqv] }
instance eqT2 : EqE (rT2 ρ σ) := { encT2 (ρ := ρ) (σ := σ) with
  k := fun x => r.k x.1 ∧ s.k x.2
  kok := fun h => ⟨r.kok h.1, s.kok h.2⟩
  lay := fun h => lay_tup (memc ((r.lay h.1).le (by omega)) (mem1 ((s.lay h.2).le (by omega))))
  eqv := fun x y => by obtain ⟨x1, x2⟩ := x; obtain ⟨y1, y2⟩ := y; show PyData.eqv (.tuple [r.d x1, s.d x2]) (.tuple [r.d y1, s.d y2]) = true ↔ _; simp [PyData.eqv, PyData.eqvAll, r.eqv, s.eqv] }
instance eqT3 : EqE (rT3 ρ σ τ) := { encT3 (ρ := ρ) (σ := σ) (τ := τ) with
  k := fun x => r.k x.1 ∧ s.k x.2.1 ∧ t.k x.2.2
  kok := fun h => ⟨r.kok h.1, s.kok h.2.1, t.kok h.2.2⟩
  lay := fun h => lay_tup (memc ((r.lay h.1).le (by omega)) (memc ((s.lay h.2.1).le (by omega)) (mem1 ((t.lay h.2.2).le (by omega)))))
  eqv := fun x y => by obtain ⟨x1, x2, x3⟩ := x; obtain ⟨y1, y2, y3⟩ := y; show PyData.eqv (.tuple [r.d x1, s.d x2, t.d x3]) (.tuple [r.d y1, s.d y2, t.d y3]) = true ↔ _; simp [PyData.eqv, PyData.eqvAll, r.eqv, s.eqv, t.eqv] }
instance eqT4 : EqE (rT4 ρ σ τ υ) := { encT4 (ρ := ρ) (σ := σ) (τ := τ) (υ := υ) with
  k := fun x => r.k x.1 ∧ s.k x.2.1 ∧ t.k x.2.2.1 ∧ u.k x.2.2.2
  kok := fun h => ⟨r.kok h.1, s.kok h.2.1, t.kok h.2.2.1, u.kok h.2.2.2⟩
  lay := fun h => lay_tup (memc ((r.lay h.1).le (by omega)) (memc ((s.lay h.2.1).le (by omega)) (memc ((t.lay h.2.2.1).le (by omega)) (mem1 ((u.lay h.2.2.2).le (by omega))))))
  eqv := fun x y => by obtain ⟨x1, x2, x3, x4⟩ := x; obtain ⟨y1, y2, y3, y4⟩ := y; show PyData.eqv (.tuple [r.d x1, s.d x2, t.d x3, u.d x4]) (.tuple [r.d y1, s.d y2, t.d y3, u.d y4]) = true ↔ _; simp [PyData.eqv, PyData.eqvAll, r.eqv, s.eqv, t.eqv, u.eqv] }
instance eqT5 : EqE (rT5 ρ σ τ υ φ) := { encT5 (ρ := ρ) (σ := σ) (τ := τ) (υ := υ) (φ := φ) with
  k := fun x => r.k x.1 ∧ s.k x.2.1 ∧ t.k x.2.2.1 ∧ u.k x.2.2.2.1 ∧ w.k x.2.2.2.2
  kok := fun h => ⟨r.kok h.1, s.kok h.2.1, t.kok h.2.2.1, u.kok h.2.2.2.1, w.kok h.2.2.2.2⟩
  lay := fun h => lay_tup (memc ((r.lay h.1).le (by omega)) (memc ((s.lay h.2.1).le (by omega)) (memc ((t.lay h.2.2.1).le (by omega)) (memc ((u.lay h.2.2.2.1).le (by omega)) (mem1 ((w.lay h.2.2.2.2).le (by omega)))))))
  eqv := fun x y => by obtain ⟨x1, x2, x3, x4, x5⟩ := x; obtain ⟨y1, y2, y3, y4, y5⟩ := y; show PyData.eqv (.tuple [r.d x1, s.d x2, t.d x3, u.d x4, w.d x5]) (.tuple [r.d y1, s.d y2, t.d y3, u.d y4, w.d y5]) = true ↔ _; simp [PyData.eqv, PyData.eqvAll, r.eqv, s.eqv, t.eqv, u.eqv, w.eqv] }
instance eqT6 : EqE (rT6 ρ σ τ υ φ χ) := { encT6 (ρ := ρ) (σ := σ) (τ := τ) (υ := υ) (φ := φ) (χ := χ) with
  k := fun x => r.k x.1 ∧ s.k x.2.1 ∧ t.k x.2.2.1 ∧ u.k x.2.2.2.1 ∧ w.k x.2.2.2.2.1 ∧ z.k x.2.2.2.2.2
  kok := fun h => ⟨r.kok h.1, s.kok h.2.1, t.kok h.2.2.1, u.kok h.2.2.2.1, w.kok h.2.2.2.2.1, z.kok h.2.2.2.2.2⟩
  lay := fun h => lay_tup (memc ((r.lay h.1).le (by omega)) (memc ((s.lay h.2.1).le (by omega)) (memc ((t.lay h.2.2.1).le (by omega)) (memc ((u.lay h.2.2.2.1).le (by omega)) (memc ((w.lay h.2.2.2.2.1).le (by omega)) (mem1 ((z.lay h.2.2.2.2.2).le (by omega))))))))
  eqv := fun x y => by obtain ⟨x1, x2, x3, x4, x5, x6⟩ := x; obtain ⟨y1, y2, y3, y4, y5, y6⟩ := y; show PyData.eqv (.tuple [r.d x1, s.d x2, t.d x3, u.d x4, w.d x5, z.d x6]) (.tuple [r.d y1, s.d y2, t.d y3, u.d y4, w.d y5, z.d y6]) = true ↔ _; simp [PyData.eqv, PyData.eqvAll, r.eqv, s.eqv, t.eqv, u.eqv, w.eqv, z.eqv] }
end
end
section
variable {α β γ δ : Type} {X : Cx} {W : WX} {Γ : Ctx} {e a b : Expr} {pos : Pos} {ρ : α → Pr}
variable [s : EqE ρ] [DecidableEq α] {ma mb : Mo α}
variable {ml : Mo (List α)}
end
end RF
namespace RF
open PySem PySem.Spec PyProof.Rows L2 KO SX
theorem tyx_tup {K : PySem.W.Frag} {H : Hp} {a : Addr} {vs : List V} (h : Rd H a (.tup vs)) : TyX K H (.ref a) (.type "tuple") := by
  rcases h with h | ⟨o, h⟩
  · exact .base (.tup h)
  · exact .fTuple h
section
variable {α β γ δ ε ζ : Type} {X : Cx} {W : WX} {Γe Γ Γ' : Ctx} {lv : Bool} {e a b : Expr} {es : List Expr} {pos : Pos}
class Kn (ρ : α → Pr) where
  t : String
  is : ∀ {K : PySem.W.Frag} {x : α} {v : V} {F H : Hp}, Same F H → (ρ x).r v F → TyX K H v (.type t)
instance : Kn rI := ⟨"int", fun _ h => by obtain rfl : _ = V.int _ := h; exact .base (.int _)⟩
instance : Kn rB := ⟨"bool", fun _ h => by obtain rfl : _ = V.bl _ := h; exact .base (.bl _)⟩
instance : Kn rS := ⟨"str", fun _ h => by obtain rfl : _ = V.str _ := h; exact .base (.str _)⟩
instance {ρ : α → Pr} : Kn (rL ρ) := ⟨"list", fun s ⟨a, vs, e, h, _⟩ => by subst e; exact .base (.lst (s _ _ h))⟩
instance {ρ : α → Pr} : Kn (rTs ρ) := ⟨"tuple", fun s ⟨a, vs, e, h, _⟩ => by subst e; exact tyx_tup (Rd.mono h s)⟩
theorem kn_tu {K : PySem.W.Frag} {ps : List Pr} {v : V} {F H : Hp} (s : Same F H) (h : (rTu ps).r v F) : TyX K H v (.type "tuple") := by
  obtain ⟨a, vs, e, h, _⟩ := h
  subst e
  exact tyx_tup (Rd.mono h s)
section
variable {ρ : α → Pr} {σ : β → Pr} {τ : γ → Pr} {υ : δ → Pr} {φ : ε → Pr} {χ : ζ → Pr}
instance : Kn (rT1 ρ) := ⟨"tuple", fun s h => kn_tu s h⟩
instance : Kn (rT2 ρ σ) := ⟨"tuple", fun s h => kn_tu s h⟩
instance : Kn (rT3 ρ σ τ) := ⟨"tuple", fun s h => kn_tu s h⟩
instance : Kn (rT4 ρ σ τ υ) := ⟨"tuple", fun s h => kn_tu s h⟩
instance : Kn (rT5 ρ σ τ υ φ) := ⟨"tuple", fun s h => kn_tu s h⟩
instance : Kn (rT6 ρ σ τ υ φ χ) := ⟨"tuple", fun s h => kn_tu s h⟩
end
theorem nlp_in {C : Addr} {fs : List (Str × Pr)} (h : ∀ p ∈ fs, NLr p.2) : NLP (oIn C fs) := ⟨fun {u F a vs} hl k => by
  obtain ⟨dx, gs, rfl, k⟩ := k
  refine ⟨dx, gs, rfl, ?_⟩
  have key : ∀ {fs : List (Str × Pr)} {gs : List (Str × V)}, (∀ p ∈ fs, NLr p.2) → Fs F fs gs → Fs (del F a) fs gs := fun {fs} => by
    induction fs with
    | nil => intro gs _ k; cases gs with
      | nil => trivial
      | cons _ _ => exact k.elim
    | cons p fs ih => intro gs h k; cases gs with
      | nil => exact k.elim
      | cons g gs => exact ⟨k.1, h p List.mem_cons_self hl k.2.1, ih (fun q hq => h q (List.mem_cons_of_mem _ hq)) k.2.2⟩
  exact key h k⟩
theorem nl_in {C : Addr} {fs : List (Str × Pr)} (h : ∀ p ∈ fs, NLr p.2) : NLr (rIn C fs) := fun {v F a vs} hl k => by
  obtain ⟨b, dx, gs, rfl, h1, k⟩ := k
  refine ⟨b, dx, gs, rfl, del_ok h1 (by rintro rfl; rw [hl] at h1; cases h1), ?_⟩
  have key : ∀ {fs : List (Str × Pr)} {gs : List (Str × V)}, (∀ p ∈ fs, NLr p.2) → Fs F fs gs → Fs (del F a) fs gs := fun {fs} => by
    induction fs with
    | nil => intro gs _ k; cases gs with
      | nil => trivial
      | cons _ _ => exact k.elim
    | cons p fs ih => intro gs h k; cases gs with
      | nil => exact k.elim
      | cons g gs => exact ⟨k.1, h p List.mem_cons_self hl k.2.1, ih (fun q hq => h q (List.mem_cons_of_mem _ hq)) k.2.2⟩
  exact key h k
theorem nlf1 {f : Str} {p : Pr} (h : NLr p) : ∀ q ∈ [(f, p)], NLr q.2 := fun q hq => by rw [List.mem_singleton.mp hq]; exact h
theorem nlfc {f : Str} {p : Pr} {ps : List (Str × Pr)} (h : NLr p) (k : ∀ q ∈ ps, NLr q.2) : ∀ q ∈ (f, p) :: ps, NLr q.2 := fun q hq => by
  rcases List.mem_cons.mp hq with e | e
  · rw [e]; exact h
  · exact k q e
section
variable {st : Stmt} {rest : List Stmt} {Z : γ → Fin} {i : Nat} {n : Int} {me : Mo Int} {mr : Int → Mo γ}
end
end
end RF
namespace RF
open PySem PySem.Spec PyProof.Rows L2 KO SX
structure FunB (P : Program) (w : World) (K : PySem.W.Frag) (mg : Str → Option Value) (base : Heap) (x qual : Str) (st : Stmt) (f : Addr) (fd : FuncData) : Prop where
  okX : ∀ {N ps : List Str} {k : Nat} {sp : Sp} (S : FnScope N ps (defScope st)) (len : ∀ vs H Q E, sp vs H Q E → vs.length = ps.length)
    (hbody : ∀ (cdv : Value) (A : Around) (outer : List Env) (s : Shared) (H : Hp) (vs : List V) (Q : VK) (E : XK), Room k (A.deeper (envOfC qual (defScope st) s.heap.objs.size f cdv)) → sp vs H Q E →
      ∃ t, PSs (cxOf (L2.CX P w) P w K mg base N qual (defScope st) f cdv A outer s H E) (defBody st) t ∧ t { nx := fun _ H' => Q .non H', rt := Q } (L2.start N vs) H), FnOk P w K mg base (L2.CX P w) (k + 1) f fd ps sp
section
variable {α β γ δ : Type} {X : Cx} {W : WX} {Γe Γ Γ' : Ctx} {lv : Bool} {e : Expr} {es : List Expr}
end
section
variable {β γ : Type}
end
def KTup (K : PySem.W.Frag) (p : Addr) (vs : List V) : Prop := ∃ (o : Obj) (its : Array Value) (n : Nat), K.lookup p = some o ∧ o.cls = .type "tuple" ∧ o.dict = none ∧ o.data = .seq its n ∧ its.size ≤ sizeLine ∧ Vals vs its.toList
theorem KTup.sq {K : PySem.W.Frag} {p : Addr} {vs : List V} (h : KTup K p vs) (H : Hp) : SqT K H p vs := by
  obtain ⟨o, its, n, h1, h2, _, h3, h4, h5⟩ := h
  exact .inr ⟨o, its, n, h1, h2, h3, h4, h5⟩
section
variable {α β γ δ : Type} {X : Cx} {W : WX} {Γ : Ctx} {a : Expr} {pos p2 apos : Pos} {n : Str} {ws : List Str} {ma : Mo Str} {tp : Addr}
end
end RF
namespace RF
open PySem PySem.Spec PyProof.Rows L2 KO SX
section
variable {α β γ δ : Type}
def Lp.of {S : Type} (s : S) : Option δ → Lp S δ
  | some r => .ret r
  | none => .go s
theorem Mo.loop_find {f : Unit → β → Mo (Lp Unit δ)} {g : β → Option δ} : ∀ {xs : List β}, (∀ x ∈ xs, f () x = pure (Lp.of () (g x))) → Mo.loop f xs () = pure (Lp.of () (xs.findSome? g))
  | [], _ => rfl
  | x :: xs, h => by
    unfold Mo.loop
    rw [h x List.mem_cons_self, List.findSome?_cons]
    cases g x with
    | some r => rfl
    | none => simp only [Lp.of, pure_bind]; exact Mo.loop_find fun y hy => h y (List.mem_cons_of_mem _ hy)
theorem rangeL_len {lo : Int} {n : Nat} : (rangeL lo n).length = n := by simp [rangeL]
theorem rangeL_mem {lo x : Int} {n : Nat} : x ∈ rangeL lo n ↔ lo ≤ x ∧ x < lo + n := by
  unfold rangeL
  rw [List.mem_map]
  constructor
  · rintro ⟨i, hi, rfl⟩
    have := List.mem_range.mp hi
    omega
  · rintro ⟨h1, h2⟩
    exact ⟨(x - lo).toNat, List.mem_range.mpr (by omega), by omega⟩
theorem Mo.lc_each {f : β → Mo γ} {R : β → γ → Prop} {E : Ex → Prop} {xs : List β} {Q : List γ → Prop} (hl : xs.length ≤ sizeLine) (hf : ∀ x ∈ xs, (f x).run (R x) (fun _ => False)) (q : ∀ ys, ys.length = xs.length → (∀ (i : Nat) (x : β) (y : γ), xs[i]? = some x → ys[i]? = some y → R x y) → Q ys) : (Mo.lc (fun _ => pure true) f xs).run Q E :=
  ⟨hl, Mo.comp_each hf q⟩
end
end RF
namespace RF
open PySem PySem.Spec PyProof.Rows L2 KO SX
section
variable {X : Cx} {W : WX} {Γ : Ctx} {a : Expr} {ma : Mo Str} {pos : Pos}
end
end RF
namespace RF
open PySem PySem.Spec PyProof.Rows L2 KO SX
section
variable {α : Type} {X : Cx} {W : WX} {Γ : Ctx} {e : Expr} {ρ : α → Pr}
end
end RF
namespace RF
open PySem PySem.Spec PyProof.Rows L2 KO SX
section
variable {α β : Type} {X : Cx} {W : WX} {Γ : Ctx} {e : Expr} {es : List Expr} {ρ : α → Pr} {dd : Addr} {pos p : Pos}
end
section
variable {X : Cx} {CX : CXT} {k : Nat} {f C : Addr} {fd : FuncData} {ps : List Str} {sp : Sp} {E : L2.St → XK} {dvs : List V} {ds : List Value}
end
section
variable {α β γ : Type} {X : Cx} {W : WX} {Γ : Ctx} {e : Expr} {es : List Expr} {k : Nat} {f C : Addr} {fd : FuncData} {ps : List Str} {pp : α → Ctx} {m : α → Mo γ} {fo : γ → List (Str × Pr)} {ma : Mo β} {x : Str} {p pos : Pos}
end
end RF
namespace RF
open PySem PySem.Spec PyProof.Rows L2 KO SX
section
variable {α β γ : Type} {X : Cx} {W : WX} {Γ : Ctx} {a b : Expr} {ρ : α → Pr} {dd : Addr} {pos p2 : Pos} {lo hi : Option Expr} {ml mh : Mo (Option Int)}
variable [s : EqE ρ] [DecidableEq α] {ma : Mo α} {mq : Mo (List α)}
def rT0 (_ : Unit) : Pr := rTu []
end
end RF
namespace GQ
open PySem PySem.SeqAt
open AutoSeq1 (wpAny_loadPart')
open MeetsSeq MeetsSeq2 MeetsSeq3 SeqRoads2
section
variable {prog : Program} {w : World} {A : Around} {R : Result → Shared → Prop}
end
section
variable {prog : Program} {w : World} {A : Around} {E : Value → Shared → Prop} {s : Shared}
end
end GQ
namespace RF
open PySem PySem.Spec PyProof.Rows L2 KO SX
section
variable {X : Cx} {CX : CXT} {k : Nat} {f C : Addr} {fd : FuncData} {ps : List Str} {sp : Sp} {E : XK}
end
class FI {α : Type} (ρ : α → Pr) : Prop where
  inj : ∀ {x y : α} {v : V} {F : Hp}, (ρ x).r v F → (ρ y).r v F → x = y
section
variable {α β γ δ ε ζ : Type} {ρ : α → Pr} {σ : β → Pr} {τ : γ → Pr} {υ : δ → Pr} {φ : ε → Pr} {χ : ζ → Pr} {F : Hp}
instance : FI rI := ⟨fun {x y v F} h k => by have h : v = V.int x := h; have k : v = V.int y := k; rw [h] at k; injection k⟩
instance : FI rB := ⟨fun {x y v F} h k => by have h : v = V.bl x := h; have k : v = V.bl y := k; rw [h] at k; injection k⟩
instance : FI rS := ⟨fun {x y v F} h k => by have h : v = V.str x := h; have k : v = V.str y := k; rw [h] at k; injection k⟩
instance : FI rN := ⟨fun {x y v F} h k => rfl⟩
theorem Ps.inj [FI ρ] : ∀ {xs ys : List α} {vs : List V}, Ps F (xs.map ρ) vs → Ps F (ys.map ρ) vs → xs = ys
  | [], [], [], _, _ => rfl
  | x :: xs, y :: ys, v :: vs, h, k => by rw [FI.inj h.1 k.1, Ps.inj h.2 k.2]
  | [], _ :: _, [], _, k => k.elim
  | _ :: _, [], [], h, _ => h.elim
  | [], _, _ :: _, h, _ => h.elim
  | _, [], _ :: _, _, k => k.elim
  | _ :: _, _ :: _, [], h, _ => h.elim
theorem rLu_at {ps : List Pr} {v : V} (h : (rLu ps).r v F) : ∃ a vs, v = .ref a ∧ F a = some (.lst vs) ∧ Ps F ps vs := h
theorem rTu_at {ps : List Pr} {v : V} (h : (rTu ps).r v F) : ∃ a vs, v = .ref a ∧ Rd F a (.tup vs) ∧ Ps F ps vs := h
theorem rTu_two {ps qs : List Pr} {v : V} (h : (rTu ps).r v F) (k : (rTu qs).r v F) : ∃ vs, Ps F ps vs ∧ Ps F qs vs := by
  obtain ⟨a, vs, rfl, h1, h2⟩ := rTu_at h
  obtain ⟨b, us, e, k1, k2⟩ := rTu_at k
  cases e
  have hv : vs = us := by
    rcases h1 with h1 | ⟨o, h1⟩ <;> rcases k1 with k1 | ⟨o', k1⟩ <;> rw [h1] at k1 <;> cases k1 <;> rfl
  subst hv
  exact ⟨vs, h2, k2⟩
theorem rLu_two {ps qs : List Pr} {v : V} (h : (rLu ps).r v F) (k : (rLu qs).r v F) : ∃ vs, Ps F ps vs ∧ Ps F qs vs := by
  obtain ⟨a, vs, rfl, h1, h2⟩ := rLu_at h
  obtain ⟨b, us, e, k1, k2⟩ := rLu_at k
  cases e
  rw [h1] at k1
  cases k1
  exact ⟨vs, h2, k2⟩
instance [FI ρ] : FI (rL ρ) := ⟨fun h k => by obtain ⟨vs, h, k⟩ := rLu_two h k; exact Ps.inj h k⟩
instance [FI ρ] : FI (rTs ρ) := ⟨fun h k => by obtain ⟨vs, h, k⟩ := rTu_two h k; exact Ps.inj h k⟩
theorem ps_two {p q : Pr} {ps qs : List Pr} {vs : List V} (h : Ps F (p :: ps) vs) (k : Ps F (q :: qs) vs) : ∃ v us, p.r v F ∧ q.r v F ∧ Ps F ps us ∧ Ps F qs us := by
  match vs, h, k with
  | v :: vs, h, k => exact ⟨v, vs, h.1, k.1, h.2, k.2⟩
instance [FI ρ] [FI σ] : FI (rT2 ρ σ) := ⟨fun {x y v F} h k => by
  obtain ⟨vs, h, k⟩ := rTu_two h k
  obtain ⟨_, _, a1, b1, h, k⟩ := ps_two h k
  obtain ⟨_, _, a2, b2, h, k⟩ := ps_two h k
  exact Prod.ext (FI.inj a1 b1) (FI.inj a2 b2)⟩
instance [FI ρ] [FI σ] [FI τ] : FI (rT3 ρ σ τ) := ⟨fun {x y v F} h k => by
  obtain ⟨vs, h, k⟩ := rTu_two h k
  obtain ⟨_, _, a1, b1, h, k⟩ := ps_two h k
  obtain ⟨_, _, a2, b2, h, k⟩ := ps_two h k
  obtain ⟨_, _, a3, b3, h, k⟩ := ps_two h k
  exact Prod.ext (FI.inj a1 b1) (Prod.ext (FI.inj a2 b2) (FI.inj a3 b3))⟩
instance [FI ρ] [FI σ] [FI τ] [FI υ] : FI (rT4 ρ σ τ υ) := ⟨fun {x y v F} h k => by
  obtain ⟨vs, h, k⟩ := rTu_two h k
  obtain ⟨_, _, a1, b1, h, k⟩ := ps_two h k
  obtain ⟨_, _, a2, b2, h, k⟩ := ps_two h k
  obtain ⟨_, _, a3, b3, h, k⟩ := ps_two h k
  obtain ⟨_, _, a4, b4, h, k⟩ := ps_two h k
  exact Prod.ext (FI.inj a1 b1) (Prod.ext (FI.inj a2 b2) (Prod.ext (FI.inj a3 b3) (FI.inj a4 b4)))⟩
instance [FI ρ] [FI σ] [FI τ] [FI υ] [FI φ] [FI χ] : FI (rT6 ρ σ τ υ φ χ) := ⟨fun {x y v F} h k => by
  obtain ⟨vs, h, k⟩ := rTu_two h k
  obtain ⟨_, _, a1, b1, h, k⟩ := ps_two h k
  obtain ⟨_, _, a2, b2, h, k⟩ := ps_two h k
  obtain ⟨_, _, a3, b3, h, k⟩ := ps_two h k
  obtain ⟨_, _, a4, b4, h, k⟩ := ps_two h k
  obtain ⟨_, _, a5, b5, h, k⟩ := ps_two h k
  obtain ⟨_, _, a6, b6, h, k⟩ := ps_two h k
  exact Prod.ext (FI.inj a1 b1) (Prod.ext (FI.inj a2 b2) (Prod.ext (FI.inj a3 b3) (Prod.ext (FI.inj a4 b4) (Prod.ext (FI.inj a5 b5) (FI.inj a6 b6)))))⟩
instance [FI ρ] [NN ρ] : FI (rO ρ) := ⟨fun {x y v F} h k => by
  cases x with
  | none => cases y with
    | none => rfl
    | some y => exact absurd (show v = .non from h) (NN.nn y v F k)
  | some x => cases y with
    | none => exact absurd (show v = .non from k) (NN.nn x v F h)
    | some y => exact congrArg some (FI.inj (ρ := ρ) h k)⟩
theorem fi_in {α : Type} {C : Addr} {fs : α → List (Str × Pr)} {x y : α} {v : V} (h : (rIn C (fs x)).r v F) (k : (rIn C (fs y)).r v F) : ∃ gs, Fs F (fs x) gs ∧ Fs F (fs y) gs := by
  obtain ⟨a, dx, gs, rfl, h1, h2⟩ := h
  obtain ⟨b, dy, gs2, e, k1, k2⟩ := k
  cases e
  rw [h1] at k1
  cases k1
  exact ⟨gs, h2, k2⟩
theorem fs_two {n m : Str} {p q : Pr} {ps qs : List (Str × Pr)} {vs : List (Str × V)} (h : Fs F ((n, p) :: ps) vs) (k : Fs F ((m, q) :: qs) vs) : ∃ v us, p.r v F ∧ q.r v F ∧ Fs F ps us ∧ Fs F qs us := by
  match vs, h, k with
  | (_, v) :: vs, h, k => exact ⟨v, vs, h.2.1, k.2.1, h.2.2, k.2.2⟩
end
section
variable {α : Type} {X : Cx} {W : WX} {Γ : Ctx} {a b : Expr}
end
end RF
namespace RF
open PySem PySem.Spec PyProof.Rows L2 KO SX
section
variable {X : Cx} {CX : CXT} {k : Nat} {f C : Addr} {sp : Sp} {E : L2.St → XK}
end
section
variable {α β γ δ : Type} {X : Cx} {W : WX} {Γ : Ctx} {o e : Expr} {es : List Expr} {k : Nat} {f C : Addr} {n : Str} {mo : Mo α} {ma : Mo β} {ρo : α → Pr} {ρe : δ → Pr} {kr : RK γ} {apos pos : Pos} {pl : Sem Bool} {m : α × List δ × Unit → Mo γ}
end
end RF
namespace RF
open PySem PySem.Spec PyProof.Rows L2 KO SX
section
variable {α β γ δ : Type}
theorem Mo.catch1_throw {e : Ex} {cn : Str} {fls : List Str} {h : Ex → Mo α} (he : e.cls = cn) : Mo.catch1 (Mo.throw e) cn fls h = Mo.calm (h e) := Mo.ext' fun Q E => by
  show (if e.cls = cn then (h e).run Q (fun _ => False) else _) = _
  rw [if_pos he]; rfl
def Mo.fin (bc : β → Ex) (x : α) : Option β → Mo α
  | some p => Mo.throw (bc p)
  | none => pure x
end
end RF
namespace RF
open PySem PySem.Spec PyProof.Rows L2 KO SX
section
variable {K : PySem.W.Frag} {g : TG} {t : TGs} {p : Pr} {ps : List Pr} {f f' : Ctx → Ctx} {vs : List Nat}
theorem RGo.then (h : RGo f vs) (k : RGo f' vs) : RGo (fun Γ => f' (f Γ)) vs := ⟨fun Γ a q => h.sub _ a (k.sub _ a q), fun Γ i q => (k.keep _ i q).trans (h.keep Γ i q)⟩
end
section
variable {γ δ S : Type} {X : Cx} {W : WX} {Γe Γ Γ' : Ctx} {lv : Bool} {rest : List Stmt} {Z : γ → Fin} {pos : Pos}
end
section
variable {X : Cx} {W : WX} {Γ : Ctx} {e a b : Expr} {pos p p2 : Pos} {ma mb : Mo Int}
end
section
variable {X : Cx} {W : WX} {Γ : Ctx} {a b : Expr} {ma mb : Mo Int} {pos : Pos}
end
section
variable {X : Cx} {W : WX} {Γ : Ctx} {a b : Expr} {ma mb : Mo Str} {pos : Pos}
end
def PT (o : Obj) : Prop := o.dict = none ∧ o.slots = #[]
def rTf {α : Type} (ρ : α → Pr) (xs : List α) : Pr := ⟨fun v F => ∃ a vs o, v = .ref a ∧ F a = some (.frz o (.tup vs)) ∧ PT o ∧ Ps F (xs.map ρ) vs, fun s ⟨a, vs, o, e, h, k, m⟩ => ⟨a, vs, o, e, s _ _ h, k, m.mono s⟩⟩
section
variable {α β : Type} {X : Cx} {W : WX} {Γ : Ctx} {e a b : Expr} {pos p : Pos} {ρ : α → Pr} {ml : Mo (List α)}
instance nlTf [NL ρ] : NL (rTf ρ) := ⟨fun {xs v F b us} h k => by
  obtain ⟨a, vs, o, rfl, h1, h2, h3⟩ := k
  refine ⟨a, vs, o, rfl, del_ok h1 ?_, h2, h3.nl h (fun p hp => by
    obtain ⟨x, _, rfl⟩ := List.mem_map.mp hp
    exact nlr x)⟩
  rintro rfl
  rw [h] at h1; cases h1⟩
instance fiTf [FI ρ] : FI (rTf ρ) := ⟨fun {x y v F} h k => by
  obtain ⟨a, vs, o, rfl, h1, h2, h3⟩ := h
  obtain ⟨b, us, o', e, k1, k2, k3⟩ := k
  cases e
  rw [h1] at k1
  cases k1
  exact Ps.inj h3 k3⟩
end
section
variable {X : Cx} {o e : Expr} {es : List Expr} {to : TE} {t : TA} {name : Str} {apos cpos : Pos} {id : String} {r : V → List V → Hp → VK → Prop}
end
section
variable {X : Cx} {W : WX} {Γ : Ctx} {a b : Expr} {pos p : Pos} {ml : Mo (List Str)} {ma : Mo Str}
end
end RF
namespace RF
open PySem PySem.Spec PyProof.Rows L2 KO SX
section
variable {α γ : Type} {X : Cx} {W : WX} {Γe Γ : Ctx} {lv : Bool} {st : Stmt} {rest : List Stmt} {Z : γ → Fin} {e : Expr} {ρ : α → Pr} {i : Nat} {l : Bool} {ad : Addr} {xs : List α}
theorem rb_clear (hs : PS X st (tDrop (tBM0 X.K "list" rClear (tVar i)))) {m : Mo γ} (hi : Γ[i]? = some (.ow l ad (oL ρ xs))) (hie : Γe[i]? = some .un) (hr : RB X W Γe lv (Γ.set i (.ow l ad (oL ρ []))) rest m Z) : RB X W Γe lv Γ (st :: rest) m Z := fun le G σ F H D nx' hn o q =>
  tSs_cons hs (by
    obtain ⟨h1, _, _, u, hu, vs, rfl, hps⟩ := o.en i _ hi
    refine ⟨.ref ad, h1, .inl ⟨rfl, vs, SqL.of hu⟩, ad, vs, rfl, rfl, hu, ?_⟩
    exact hr (le.set hie) G _ F _ D nx' hn (o.put (q := oL ρ []) (u := .lst []) hi ⟨_, rfl, trivial⟩) q)
end
end RF
namespace RF
open PySem PySem.Spec PyProof.Rows L2 KO SX
def setLen {α : Type} [DecidableEq α] (xs : List α) : Nat := xs.eraseDups.length
section
variable {P : Program} {w : World} {A : Around} {E : Value → Shared → Prop} {s : Shared}
abbrev SetS (P : Program) (w : World) (h : Heap) (S : Addr) (ws : List Str) : Prop := h.SetOf (strKind P w) S (fun k => decide (k ∈ ws)) (setLen ws)
theorem SetS.at {h h2 : Heap} {S : Addr} {ws : List Str} (q : SetS P w h S ws) (k : ∀ o, h.get? S = some o → h2.get? S = some o) : SetS P w h2 S ws := by
  obtain ⟨o, es, ep, t, ho, z⟩ := q
  exact ⟨o, es, ep, t, k _ ho, z⟩
end
section
variable {α : Type} {X : Cx} {W : WX} {Γ : Ctx} {a : Expr} {ml : Mo (List Str)}
end
end RF
namespace RF
open PySem PySem.Spec PyProof.Rows L2 KO SX
class OrE {α : Type} (ρ : α → Pr) [s : EqE ρ] where
  lt : α → α → Bool
  ak : ∀ x y, PySem.W.alike (s.d x) (s.d y) = true
  nn : ∀ x, s.d x ≠ .none
  eq : ∀ x y, PySem.W.dataLt (s.d x) (s.d y) = lt x y
class SoE {α : Type} (ρ : α → Pr) [s : EqE ρ] : Prop where
  so : (∀ x, ∃ a r, s.d x = .tuple (a :: r)) ∨ ∀ x xs, s.d x ≠ .tuple xs
section
variable {α β γ δ ε ζ : Type} {ρ : α → Pr} {σ : β → Pr} {τ : γ → Pr} {υ : δ → Pr} {φ : ε → Pr} {χ : ζ → Pr}
instance orI : OrE rI := ⟨fun x y => decide (x < y), fun x y => by show PySem.W.alike (.int x) (.int y) = true; simp only [PySem.W.alike], fun x e => (nomatch e), fun x y => PySem.W.dataLt_int x y⟩
instance orS : OrE rS := ⟨fun x y => decide (x.cps.toList < y.cps.toList), fun x y => by show PySem.W.alike (.str x) (.str y) = true; simp only [PySem.W.alike], fun x e => (nomatch e), fun x y => PySem.W.dataLt_str x y⟩
instance soI : SoE rI := ⟨.inr fun _ _ e => nomatch e⟩
instance soS : SoE rS := ⟨.inr fun _ _ e => nomatch e⟩
theorem OrE.irr [s : EqE ρ] [o : OrE ρ] (x : α) : o.lt x x = false := by rw [← o.eq]; exact lex_irrefl _
section
variable [s : EqE ρ] [o : OrE ρ] [DecidableEq α]
def ltL (ρ : α → Pr) [s : EqE ρ] [o : OrE ρ] [DecidableEq α] : List α → List α → Bool
  | [], [] => false
  | [], _ :: _ => true
  | _ :: _, [] => false
  | x :: xs, y :: ys => if x = y then ltL ρ xs ys else o.lt x y
theorem akL : ∀ xs ys : List α, PySem.W.alikeAll (xs.map s.d) (ys.map s.d) = true
  | [], _ => by rw [List.map_nil, PySem.W.alikeAll]
  | _ :: _, [] => by rw [List.map_nil, List.map_cons, PySem.W.alikeAll]
  | x :: xs, y :: ys => by rw [List.map_cons, List.map_cons, PySem.W.alikeAll, o.ak x y, akL xs ys]; rfl
theorem eqv_dec (x y : α) : PyData.eqv (s.d x) (s.d y) = decide (x = y) := by rw [Bool.eq_iff_iff, s.eqv]; simp
theorem lexL : ∀ xs ys : List α, PyProof.Rows.lexLt itemOrd (PySem.W.keyToksAll (xs.map s.d)) (PySem.W.keyToksAll (ys.map s.d)) = ltL ρ xs ys
  | [], [] => lex_irrefl _
  | [], y :: ys => by
    rw [List.map_nil, List.map_cons, PySem.W.toks_all_cons]
    simp only [PySem.W.keyToksAll]
    rfl
  | x :: xs, [] => by
    rw [List.map_nil, List.map_cons, PySem.W.toks_all_cons]
    simp only [PySem.W.keyToksAll]
    rfl
  | x :: xs, y :: ys => by
    rw [List.map_cons, List.map_cons, PySem.W.dataLt_cons (o.ak x y), eqv_dec, lexL xs ys, o.eq]
    simp only [decide_eq_true_eq]
    rfl
instance orL : OrE (rL ρ) := ⟨ltL ρ, fun x y => by show PySem.W.alike (.list (x.map s.d)) (.list (y.map s.d)) = true; rw [PySem.W.alike]; exact akL x y, fun x e => (nomatch e), fun x y => (PySem.W.dataLt_list _ _).trans (lexL x y)⟩
instance soL : SoE (rL ρ) := ⟨.inr fun _ _ e => nomatch e⟩
instance orTs : OrE (rTs ρ) := ⟨ltL ρ, fun x y => by show PySem.W.alike (.tuple (x.map s.d)) (.tuple (y.map s.d)) = true; rw [PySem.W.alike]; exact akL x y, fun x e => (nomatch e), fun x y => (PySem.W.dataLt_tuple _ _).trans (lexL x y)⟩
end
section
variable [r : EqE ρ] [s : EqE σ] [t : EqE τ] [u : EqE υ] [w : EqE φ] [z : EqE χ] [r' : OrE ρ] [s' : OrE σ] [t' : OrE τ] [u' : OrE υ] [w' : OrE φ] [z' : OrE χ] [DecidableEq α] [DecidableEq β] [DecidableEq γ] [DecidableEq δ] [DecidableEq ε] [DecidableEq ζ]
theorem lexC {x y : α} {xs ys : List PyData} : PyProof.Rows.lexLt itemOrd (PySem.W.keyToksAll (r.d x :: xs)) (PySem.W.keyToksAll (r.d y :: ys)) = if x = y then PyProof.Rows.lexLt itemOrd (PySem.W.keyToksAll xs) (PySem.W.keyToksAll ys) else r'.lt x y := by
  rw [PySem.W.dataLt_cons (r'.ak x y), eqv_dec, r'.eq]; simp only [decide_eq_true_eq]
theorem lexE {x y : α} : PyProof.Rows.lexLt itemOrd (PySem.W.keyToksAll [r.d x]) (PySem.W.keyToksAll [r.d y]) = r'.lt x y := by
  rw [lexC]
  split
  · rename_i e; subst e; rw [r'.irr]; exact lex_irrefl _
  · rfl
theorem akC {x y : α} {xs ys : List PyData} (h : PySem.W.alikeAll xs ys = true) : PySem.W.alikeAll (r.d x :: xs) (r.d y :: ys) = true := by rw [PySem.W.alikeAll, r'.ak, h]; rfl
theorem ak0 : PySem.W.alikeAll [] [] = true := by rw [PySem.W.alikeAll]
theorem akT {xs ys : List PyData} (h : PySem.W.alikeAll xs ys = true) : PySem.W.alike (.tuple xs) (.tuple ys) = true := by rw [PySem.W.alike]; exact h
instance orT1 : OrE (rT1 ρ) := ⟨fun x y => r'.lt x y, fun x y => akT (akC ak0), fun x e => (nomatch (show PyData.tuple _ = .none from e)), fun x y => by
  show PySem.W.dataLt (.tuple [r.d x]) (.tuple [r.d y]) = _
  rw [PySem.W.dataLt_tuple, lexE]⟩
instance orT2 : OrE (rT2 ρ σ) := ⟨fun x y => if x.1 = y.1 then s'.lt x.2 y.2 else r'.lt x.1 y.1, fun x y => akT (akC (akC ak0)), fun x e => (nomatch (show PyData.tuple _ = .none from e)), fun x y => by
  show PySem.W.dataLt (.tuple [r.d x.1, s.d x.2]) (.tuple [r.d y.1, s.d y.2]) = _
  rw [PySem.W.dataLt_tuple, lexC, lexE]⟩
instance orT3 : OrE (rT3 ρ σ τ) := ⟨fun x y => if x.1 = y.1 then (if x.2.1 = y.2.1 then t'.lt x.2.2 y.2.2 else s'.lt x.2.1 y.2.1) else r'.lt x.1 y.1, fun x y => akT (akC (akC (akC ak0))), fun x e => (nomatch (show PyData.tuple _ = .none from e)), fun x y => by
  show PySem.W.dataLt (.tuple [r.d x.1, s.d x.2.1, t.d x.2.2]) (.tuple [r.d y.1, s.d y.2.1, t.d y.2.2]) = _
  rw [PySem.W.dataLt_tuple, lexC, lexC, lexE]⟩
instance orT4 : OrE (rT4 ρ σ τ υ) := ⟨fun x y => if x.1 = y.1 then (if x.2.1 = y.2.1 then (if x.2.2.1 = y.2.2.1 then u'.lt x.2.2.2 y.2.2.2 else t'.lt x.2.2.1 y.2.2.1) else s'.lt x.2.1 y.2.1) else r'.lt x.1 y.1, fun x y => akT (akC (akC (akC (akC ak0)))), fun x e => (nomatch (show PyData.tuple _ = .none from e)), fun x y => by
  show PySem.W.dataLt (.tuple [r.d x.1, s.d x.2.1, t.d x.2.2.1, u.d x.2.2.2]) (.tuple [r.d y.1, s.d y.2.1, t.d y.2.2.1, u.d y.2.2.2]) = _
  rw [PySem.W.dataLt_tuple, lexC, lexC, lexC, lexE]⟩
instance soT1 : SoE (rT1 ρ) := ⟨.inl fun x => ⟨_, _, rfl⟩⟩
instance soT2 : SoE (rT2 ρ σ) := ⟨.inl fun x => ⟨_, _, rfl⟩⟩
instance soT3 : SoE (rT3 ρ σ τ) := ⟨.inl fun x => ⟨_, _, rfl⟩⟩
instance soT4 : SoE (rT4 ρ σ τ υ) := ⟨.inl fun x => ⟨_, _, rfl⟩⟩
end
end
section
variable {X : Cx}
end
section
variable {α : Type} {X : Cx} {W : WX} {Γ : Ctx} {e a b : Expr} {pos p : Pos} {ρ : α → Pr} [s : EqE ρ] [t : OrE ρ] {ma mb : Mo α} {ml : Mo (List α)}
end
section
variable {X : Cx}
end
section
variable {α : Type} [DecidableEq α] {X : Cx} {W : WX} {Γ : Ctx} {e a b : Expr} {pos p : Pos} {ρ : α → Pr} [s : EqE ρ] [t : OrE ρ] {ma mb : Mo α} {ml : Mo (List α)}
end
end RF
namespace RF
open PySem PySem.Spec PyProof.Rows L2 KO SX
def agp (h : Hp) (p : Pr) : Pr := ⟨fun v F => ∃ f, Same f F ∧ (∀ a vs, f a = some (.lst vs) → h a ≠ none) ∧ p.r v f, fun s ⟨f, a, b, c⟩ => ⟨f, a.trans s, b, c⟩⟩
def rNw {α : Type} (h : Hp) (ρ : α → Pr) (x : α) : Pr := nwp h (ρ x)
def rAny (_ : Unit) : Pr := ⟨fun _ _ => True, fun _ h => h⟩
instance : NL rAny := ⟨fun _ h => h⟩
inductive AgE (h : Hp) : En → En → Prop
  | id (e : En) : AgE h e e
  | un (e : En) : AgE h e .un
  | ag (p : Pr) : AgE h (.fz p) (.fz (agp h p))
  | lk (p : Pr) : AgE h (.fz p) (.lk true h p)
  | re (f : Bool) (p : Pr) (h0 : Hp) : AgE h (.lk f h0 p) (.lk true h p)
def AgC (h : Hp) : Ctx → Ctx → Prop
  | [], [] => True
  | e :: l, e' :: l' => AgE h e e' ∧ AgC h l l'
  | _, _ => False
theorem AgC.len {h : Hp} : ∀ {Γ Γ' : Ctx}, AgC h Γ Γ' → Γ'.length = Γ.length
  | [], [], _ => rfl
  | _ :: _, _ :: _, k => by simp [AgC.len k.2]
  | [], _ :: _, k => k.elim
  | _ :: _, [], k => k.elim
theorem AgC.get {h : Hp} : ∀ {Γ Γ' : Ctx} {i : Nat} {e' : En}, AgC h Γ Γ' → Γ'[i]? = some e' → ∃ e, Γ[i]? = some e ∧ AgE h e e'
  | [], [], _, _, _, q => by simp at q
  | e :: _, _ :: _, 0, _, k, q => by simp at q; subst q; exact ⟨e, rfl, k.1⟩
  | _ :: _, _ :: _, i + 1, _, k, q => by
    obtain ⟨e, h1, h2⟩ := AgC.get (i := i) k.2 (by simpa using q)
    exact ⟨e, by simpa using h1, h2⟩
  | [], _ :: _, _, _, k, _ => k.elim
  | _ :: _, [], _, _, k, _ => k.elim
section
variable {G : Gf} {Γ Γ' : Ctx} {σ : L2.St} {F H : Hp}
end
inductive SvE (h : Hp) : En → En → Prop
  | un (e : En) : SvE h e .un
  | nl {p : Pr} : NLr p → SvE h (.fz p) (.fz p)
  | ag (p : Pr) : SvE h (.fz (agp h p)) (.fz (agp h p))
  | lk {f : Bool} {h0 : Hp} {p : Pr} : NLr p → SvE h (.lk f h0 p) (.lk f h0 p)
  | ow {l : Bool} {a : Addr} {q : Po} : NLP q → SvE h (.ow l a q) (.ow l a q)
def SvC (h : Hp) : Ctx → Ctx → Prop
  | [], [] => True
  | e :: l, e' :: l' => SvE h e e' ∧ SvC h l l'
  | _, _ => False
theorem SvC.len {h : Hp} : ∀ {Γ Γ' : Ctx}, SvC h Γ Γ' → Γ'.length = Γ.length
  | [], [], _ => rfl
  | _ :: _, _ :: _, k => by simp [SvC.len k.2]
  | [], _ :: _, k => k.elim
  | _ :: _, [], k => k.elim
theorem SvC.get {h : Hp} : ∀ {Γ Γ' : Ctx} {i : Nat} {e' : En}, SvC h Γ Γ' → Γ'[i]? = some e' → ∃ e, Γ[i]? = some e ∧ SvE h e e'
  | [], [], _, _, _, q => by simp at q
  | e :: _, _ :: _, 0, _, k, q => by simp at q; subst q; exact ⟨e, rfl, k.1⟩
  | _ :: _, _ :: _, i + 1, _, k, q => by
    obtain ⟨e, h1, h2⟩ := SvC.get (i := i) k.2 (by simpa using q)
    exact ⟨e, by simpa using h1, h2⟩
  | [], _ :: _, _, _, k, _ => k.elim
  | _ :: _, [], _, _, k, _ => k.elim
section
variable {G : Gf} {Γ Γ' : Ctx} {σ : L2.St} {F H h : Hp} {a : Addr} {vs : List V}
end
def NwR (h : Hp) (p' p : Pr) : Prop := ∀ v F, p'.r v F → (nwp h p).r v F
class NwC {α : Type} (h : Hp) (ρ' ρ : α → Pr) : Prop where
  nw : ∀ x, NwR h (ρ' x) (ρ x)
theorem nwr_nl {h : Hp} {p : Pr} (n : NLr p) : NwR h p p := fun v F k => ⟨k, fun a vs _ e => n e k⟩
theorem nwr_self {h : Hp} {p : Pr} : NwR h (nwp h p) p := fun v F k => k
section
variable {α β γ δ ε : Type} {h : Hp}
instance (priority := 90) nwcNL {ρ : α → Pr} [NL ρ] : NwC h ρ ρ := ⟨fun x => nwr_nl (nlr x)⟩
instance nwcNw {ρ : α → Pr} : NwC h (rNw h ρ) ρ := ⟨fun x => nwr_self⟩
instance nwcO {ρ' ρ : α → Pr} [n : NwC h ρ' ρ] : NwC h (rO ρ') (rO ρ) := ⟨fun x v F k => by
  cases x with
  | none => exact ⟨k, fun _ _ _ _ => k⟩
  | some y => exact n.nw y v F k⟩
def NwL (h : Hp) : List Pr → List Pr → Prop
  | [], [] => True
  | p' :: ps', p :: ps => NwR h p' p ∧ NwL h ps' ps
  | _, _ => False
theorem NwL.ps {F : Hp} : ∀ {ps' ps : List Pr} {vs : List V}, NwL h ps' ps → Ps F ps' vs → Ps F ps vs ∧ ∀ a us, h a ≠ none → F a = some (.lst us) → Ps (del F a) ps vs
  | [], [], [], _, _ => ⟨trivial, fun _ _ _ _ => trivial⟩
  | p' :: ps', p :: ps, v :: vs, n, k => by
    obtain ⟨a1, a2⟩ := n.1 v F k.1
    obtain ⟨b1, b2⟩ := NwL.ps n.2 k.2
    exact ⟨⟨a1, b1⟩, fun a us e1 e2 => ⟨a2 a us e1 e2, b2 a us e1 e2⟩⟩
  | [], _ :: _, _, n, _ => n.elim
  | _ :: _, [], _, n, _ => n.elim
  | [], [], _ :: _, _, k => k.elim
  | _ :: _, _ :: _, [], _, k => k.elim
theorem NwL.map {ρ' ρ : α → Pr} [n : NwC h ρ' ρ] : ∀ xs : List α, NwL h (xs.map ρ') (xs.map ρ)
  | [] => trivial
  | x :: xs => ⟨n.nw x, NwL.map xs⟩
theorem nw_tu {ps' ps : List Pr} (n : NwL h ps' ps) : NwR h (rTu ps') (rTu ps) := fun v F k => by
  obtain ⟨t, ws, rfl, h1, h2⟩ := k
  obtain ⟨a1, a2⟩ := n.ps h2
  refine ⟨⟨t, ws, rfl, h1, a1⟩, fun a us e1 e2 => ⟨t, ws, rfl, ?_, a2 a us e1 e2⟩⟩
  have ht : t ≠ a := by
    rintro rfl
    rcases h1 with h1 | ⟨o, h1⟩ <;> (rw [e2] at h1; cases h1)
  exact h1.imp (fun e => del_ok e ht) (fun ⟨o, e⟩ => ⟨o, del_ok e ht⟩)
instance nwcTs {ρ' ρ : α → Pr} [NwC h ρ' ρ] : NwC h (rTs ρ') (rTs ρ) := ⟨fun xs => nw_tu (NwL.map xs)⟩
instance nwcT2 {a' a : α → Pr} {b' b : β → Pr} [m : NwC h a' a] [n : NwC h b' b] : NwC h (rT2 a' b') (rT2 a b) := ⟨fun x => nw_tu ⟨m.nw _, n.nw _, trivial⟩⟩
instance nwcT3 {a' a : α → Pr} {b' b : β → Pr} {c' c : γ → Pr} [m : NwC h a' a] [n : NwC h b' b] [k : NwC h c' c] : NwC h (rT3 a' b' c') (rT3 a b c) := ⟨fun x => nw_tu ⟨m.nw _, n.nw _, k.nw _, trivial⟩⟩
instance nwcT4 {a' a : α → Pr} {b' b : β → Pr} {c' c : γ → Pr} {d' d : δ → Pr} [m : NwC h a' a] [n : NwC h b' b] [k : NwC h c' c] [l : NwC h d' d] : NwC h (rT4 a' b' c' d') (rT4 a b c d) := ⟨fun x => nw_tu ⟨m.nw _, n.nw _, k.nw _, l.nw _, trivial⟩⟩
end
section
variable {α β γ δ : Type} {X : Cx} {W : WX} {Γe Γ Γ' : Ctx} {Γa : Hp → Ctx} {lv : Bool} {e b : Expr} {st : Stmt} {rest : List Stmt} {Z : γ → Fin} {pos : Pos} {t : TE} {h : Hp} {p0 : Pr} {j : Nat} {f : Bool}
inductive UaE : En → En → Prop
  | id (e : En) : UaE e e
  | un (e : En) : UaE e .un
  | ag (h : Hp) (p : Pr) : UaE (.fz (agp h p)) (.fz p)
  | nw (h : Hp) (p : Pr) : UaE (.fz (nwp h p)) (.fz p)
  | lk (f : Bool) (h : Hp) (p : Pr) : UaE (.lk f h p) (.fz p)
  | lf (f : Bool) (h : Hp) (p : Pr) : UaE (.lk f h p) (.lk false h p)
  | la (f : Bool) (h h' : Hp) (p : Pr) : UaE (.lk f h (agp h' p)) (.fz p)
def UaC : Ctx → Ctx → Prop
  | [], [] => True
  | e :: l, e' :: l' => UaE e e' ∧ UaC l l'
  | _, _ => False
theorem UaC.len : ∀ {Γ Γ' : Ctx}, UaC Γ Γ' → Γ'.length = Γ.length
  | [], [], _ => rfl
  | _ :: _, _ :: _, k => by simp [UaC.len k.2]
  | [], _ :: _, k => k.elim
  | _ :: _, [], k => k.elim
theorem UaC.get : ∀ {Γ Γ' : Ctx} {i : Nat} {e' : En}, UaC Γ Γ' → Γ'[i]? = some e' → ∃ e, Γ[i]? = some e ∧ UaE e e'
  | [], [], _, _, _, q => by simp at q
  | e :: _, _ :: _, 0, _, k, q => by simp at q; subst q; exact ⟨e, rfl, k.1⟩
  | _ :: _, _ :: _, i + 1, _, k, q => by
    obtain ⟨e, h1, h2⟩ := UaC.get (i := i) k.2 (by simpa using q)
    exact ⟨e, by simpa using h1, h2⟩
  | [], _ :: _, _, _, k, _ => k.elim
  | _ :: _, [], _, _, k, _ => k.elim
end
end RF
namespace RF
open PySem PySem.Spec PyProof.Rows L2 KO SX
inductive RpE (h : Hp) (b : Addr) (vs ws : List V) : En → En → Prop
  | un (e : En) : RpE h b vs ws e .un
  | cf {p p' : Pr} : (∀ v F, F b = some (.lst vs) → p.r v F → p'.r v (upd F b (.lst ws))) → RpE h b vs ws (.fz p) (.fz p')
  | lk {f : Bool} {h0 : Hp} {p : Pr} : NLr p → RpE h b vs ws (.lk f h0 p) (.lk f h0 p)
  | ow {l : Bool} {a : Addr} {q q' : Po} : (∀ u F, F b = some (.lst vs) → q.r u F → q'.r u (upd F b (.lst ws))) → RpE h b vs ws (.ow l a q) (.ow l a q')
def RpC (h : Hp) (b : Addr) (vs ws : List V) : Ctx → Ctx → Prop
  | [], [] => True
  | e :: l, e' :: l' => RpE h b vs ws e e' ∧ RpC h b vs ws l l'
  | _, _ => False
theorem RpC.len {h : Hp} {b : Addr} {vs ws : List V} : ∀ {Γ Γ' : Ctx}, RpC h b vs ws Γ Γ' → Γ'.length = Γ.length
  | [], [], _ => rfl
  | _ :: _, _ :: _, k => by simp [RpC.len k.2]
  | [], _ :: _, k => k.elim
  | _ :: _, [], k => k.elim
theorem RpC.get {h : Hp} {b : Addr} {vs ws : List V} : ∀ {Γ Γ' : Ctx} {i : Nat} {e' : En}, RpC h b vs ws Γ Γ' → Γ'[i]? = some e' → ∃ e, Γ[i]? = some e ∧ RpE h b vs ws e e'
  | [], [], _, _, _, q => by simp at q
  | e :: _, _ :: _, 0, _, k, q => by simp at q; subst q; exact ⟨e, rfl, k.1⟩
  | _ :: _, _ :: _, i + 1, _, k, q => by
    obtain ⟨e, h1, h2⟩ := RpC.get (i := i) k.2 (by simpa using q)
    exact ⟨e, by simpa using h1, h2⟩
  | [], _ :: _, _, _, k, _ => k.elim
  | _ :: _, [], _, _, k, _ => k.elim
section
variable {G : Gf} {Γ Γ' : Ctx} {σ : L2.St} {F H h : Hp} {b : Addr} {vs ws : List V} {j : Nat} {p0 : Pr}
end
section
variable {α β γ δ : Type} {X : Cx} {W : WX} {Γe Γ Γ' : Ctx} {lv : Bool} {e e0 : Expr} {st : Stmt} {rest : List Stmt} {Z : γ → Fin} {pos : Pos} {h : Hp} {p0 : Pr} {i j : Nat} {N : Nat} {m : Mo γ} {me : Mo α} {ρ : α → Pr}
end
end RF
namespace RF
open PySem PySem.Spec PyProof.Rows L2 KO SX
inductive RlE : En → En → En → Prop
  | id (e e' : En) : RlE e e' e'
  | up {f : Bool} {h : Hp} {p p' : Pr} : RlE (.lk true h p) (.lk f h p') (.lk true h p')
def RlC : Ctx → Ctx → Ctx → Prop
  | [], [], [] => True
  | e :: l, e' :: l', e2 :: l2 => RlE e e' e2 ∧ RlC l l' l2
  | _, _, _ => False
theorem RlC.len : ∀ {A B C : Ctx}, RlC A B C → C.length = B.length
  | [], [], [], _ => rfl
  | _ :: _, _ :: _, _ :: _, k => by simp [RlC.len k.2]
  | [], _ :: _, _, k => k.elim
  | [], [], _ :: _, k => k.elim
  | _ :: _, [], _, k => k.elim
  | _ :: _, _ :: _, [], k => k.elim
theorem RlC.get : ∀ {A B C : Ctx} {i : Nat} {e : En}, RlC A B C → C[i]? = some e → ∃ a b, A[i]? = some a ∧ B[i]? = some b ∧ RlE a b e
  | [], [], [], _, _, _, q => by simp at q
  | a :: _, b :: _, _ :: _, 0, _, k, q => by simp at q; subst q; exact ⟨a, b, rfl, rfl, k.1⟩
  | _ :: _, _ :: _, _ :: _, i + 1, _, k, q => by
    obtain ⟨a, b, h1, h2, h3⟩ := RlC.get (i := i) k.2 (by simpa using q)
    exact ⟨a, b, by simpa using h1, by simpa using h2, h3⟩
  | [], _ :: _, _, _, _, k, _ => k.elim
  | [], [], _ :: _, _, _, k, _ => k.elim
  | _ :: _, [], _, _, _, k, _ => k.elim
  | _ :: _, _ :: _, [], _, _, k, _ => k.elim
section
variable {α β γ δ : Type} {X : Cx} {W : WX} {Γe Γ Γ' : Ctx} {lv : Bool} {e tg iter : Expr} {pos : Pos}
variable {S : Type} {Z : γ → Fin} {st : Stmt} {rest body : List Stmt} {wi : TI} {g : TG} {mi : Mo (List β)} {ρi : β → Pr}
end
end RF
namespace PySem
open Sem (wp)
section
variable {prog : Program} {w : World} {A : Around} {E : Value → Shared → Prop} {s : Shared} {z TI TO T i1 i2 : Addr} {fp1 fp2 : List Addr} {n1 n2 i : Nat} {P1 P2 : Nat → Value → Prop} {St1 St2 : Nat → Heap → Prop} {f : Bool} {oT : Obj}
end
end PySem
namespace KO
open PySem PySem.Spec PyProof.Rows L2
section
variable {X : Cx} {pins : List (Addr × Obj)} {σ : L2.St}
end
end KO
namespace RF
open PySem PySem.Spec PyProof.Rows L2 KO SX
section
variable {α β γ δ : Type}
variable {X : Cx} {W : WX} {Γe Γx Γ Γ' : Ctx} {lv : Bool} {e ee o a b c : Expr} {es : List Expr} {st : Stmt} {rest body suite : List Stmt} {Z : γ → Fin} {pos p2 p3 : Pos} {t : TE} {ρ : α → Pr}
section
variable {md : Mo (List (Int × α))} {mk : Mo Int}
end
theorem Ks.zip {F : Hp} : ∀ {ks : List Int} {xs : List α} {vs : List V}, Ps F (xs.map ρ) vs → Ks F ρ (ks.zip xs) ((ks.map (Sum.inl : Int → Key)).zip vs)
  | [], _, _, _ => trivial
  | _ :: _, [], [], _ => trivial
  | k :: ks, x :: xs, v :: vs, h => ⟨rfl, h.1, Ks.zip h.2⟩
  | _ :: _, [], _ :: _, h => h.elim
  | _ :: _, _ :: _, [], h => h.elim
end
end RF
namespace DD
open PySem PySem.Spec PyProof.Rows L2
section
variable {P : Program} {w : World} {A : Around} {E : Value → Shared → Prop} {s : Shared}
end
section
variable {X : Cx}
end
end DD

namespace RF
open PySem PySem.Spec PyProof.Rows L2 KO SX
section
variable {X : Cx} {W : WX} {Γ : Ctx} {a : Expr} {mi : Mo (List Int)}
end
end RF
namespace RF
open PySem PySem.Spec PyProof.Rows L2 KO SX
section
variable {X : Cx} {k : Nat} {x : Str} {C fI : Addr} {fd : FuncData} {f c : Str} {e : Expr} {te : TE} {p pos : Pos} {ps : List Str} {W : WX} {Γ : Ctx} {α : Type}
end
end RF
namespace RF
open PySem PySem.Spec PyProof.Rows L2 KO SX
section
variable {X : Cx} {W : WX} {Γ : Ctx} {a : Expr} {ma : Mo Int} {p p2 pos : Pos}
instance encT0 : Enc rT0 := ⟨1, fun _ => .tuple [], fun _ => True, fun {x v F} _ h => dt_tu (n := 0) (ps := []) rfl (by decide) h (fun i p d e => by simp at e)⟩
end
end RF
namespace RF
open PySem PySem.Spec PyProof.Rows L2 KO SX
section
variable {es : List Expr} {p : Pos} {env : Env}
end
end RF
namespace RF
open PySem PySem.Spec PyProof.Rows L2 KO SX
theorem dT2_ex {α β : Type} {ρ : α → Pr} {ρ2 : β → Pr} [r : Dec ρ] [s : Dec ρ2] : ∀ {ds : List PyData} {y : α × β}, dT2 ρ ρ2 ds = some y → ∃ da db, ds = [da, db] ∧ r.d da = some y.1 ∧ s.d db = some y.2
  | [a, b], y, e => by
    obtain ⟨y1, e1, e⟩ := some_bind e
    obtain ⟨y2, e2, e⟩ := some_bind e
    obtain rfl := Option.some.inj e
    exact ⟨a, b, rfl, e1, e2⟩
  | [], _, e => by cases e
  | [_], _, e => by cases e
  | _ :: _ :: _ :: _, _, e => by cases e
theorem len2 {α : Type} : ∀ {xs : List α}, xs.length = 2 → ∃ a b, xs = [a, b]
  | [a, b], _ => ⟨a, b, rfl⟩
  | [], h => by cases h
  | [_], h => by cases h
  | _ :: _ :: _ :: _, h => by simp at h
def dP2 {α β : Type} (ρ : α → Pr) (ρ2 : β → Pr) [r : Dec ρ] [s : Dec ρ2] : PyData → Option (α × β)
  | .tuple ds => dT2 ρ ρ2 ds
  | _ => none
theorem dP2_ok {α β : Type} {ρ : α → Pr} {ρ2 : β → Pr} [r : Dec ρ] [s : Dec ρ2] {x : PyData} {y : α × β} {v : V} {F : Hp} {n : Nat} (hn : n ≤ 8) (e : dP2 ρ ρ2 x = some y) (h : Dt n F v x) : (rT2 ρ ρ2 y).r v F := by
  obtain ⟨k, rfl⟩ := dt_pos h
  cases x with
  | tuple ds =>
    obtain ⟨da, db, e0, e1, e2⟩ := dT2_ex e
    obtain ⟨a, xs, rfl, h1, h2, _, h3⟩ := h
    subst e0
    obtain ⟨v1, v2, rfl⟩ := len2 h2
    have g1 := r.is (show k ≤ 8 by omega) e1 (h3 0 v1 da rfl rfl)
    have g2 := s.is (show k ≤ 8 by omega) e2 (h3 1 v2 db rfl rfl)
    exact ⟨a, [v1, v2], rfl, h1, g1, g2, trivial⟩
  | _ => cases e
instance decT2 {α β : Type} {ρ : α → Pr} {ρ2 : β → Pr} [r : Dec ρ] [s : Dec ρ2] : Dec (rT2 ρ ρ2) := ⟨dP2 ρ ρ2, dP2_ok⟩
section
variable {α β γ δ : Type} {X : Cx} {W : WX} {Γe Γ : Ctx} {e b : Expr} {pos : Pos} {h : Hp} {lv f : Bool} {p0 : Pr} {j : Nat} {rest : List Stmt} {Z : γ → Fin}
end
end RF
namespace RF
open PySem PySem.Spec PyProof.Rows L2 KO SX
section
variable {α β γ : Type} {X : Cx} {W : WX} {Γ : Ctx} {pos : Pos} {C : Addr} {oe : Obj} {d : Option Addr} {pn : List (Addr × Obj)} {ex : Ex} {n f : Str} {i : Nat} {p : Pos}
end
end RF
namespace RF
open PySem PySem.Spec PyProof.Rows L2 KO SX
section
variable {α β γ δ : Type}
def KsS (F : Hp) (ρ : α → Pr) : List (Str × α) → List (Key × V) → Prop
  | [], [] => True
  | (k, x) :: r, (k', v) :: r' => k' = .inr k ∧ (ρ x).r v F ∧ KsS F ρ r r'
  | _, _ => False
def dgetS (kvs : List (Str × α)) (k : Str) : Option α := (kvs.find? fun p => decide (p.1 = k)).map (·.2)
def dputS (kvs : List (Str × α)) (k : Str) (x : α) : List (Str × α) := if (kvs.any fun p => decide (p.1 = k)) = true then kvs.map (fun p => if p.1 = k then (p.1, x) else p) else kvs ++ [(k, x)]
section
variable {F F' : Hp} {ρ : α → Pr}
theorem KsS.mono (s : Same F F') : ∀ {kvs : List (Str × α)} {gs : List (Key × V)}, KsS F ρ kvs gs → KsS F' ρ kvs gs
  | [], [], _ => trivial
  | (_, x) :: _, (_, _) :: _, h => ⟨h.1, (ρ x).mono s h.2.1, KsS.mono s h.2.2⟩
  | [], _ :: _, h => h.elim
  | _ :: _, [], h => h.elim
theorem KsS.len : ∀ {kvs : List (Str × α)} {gs : List (Key × V)}, KsS F ρ kvs gs → gs.length = kvs.length
  | [], [], _ => rfl
  | (_, _) :: _, (_, _) :: _, h => by simp [KsS.len h.2.2]
  | [], _ :: _, h => h.elim
  | _ :: _, [], h => h.elim
theorem keydecS (a b : Str) : (decide ((Sum.inr a : Key) = Sum.inr b)) = decide (a = b) := by
  by_cases h : a = b
  · subst h; simp
  · have : ¬ (Sum.inr a : Key) = Sum.inr b := fun q => h (Sum.inr.inj q)
    simp [h, this]
theorem KsS.get {k : Str} : ∀ {kvs : List (Str × α)} {gs : List (Key × V)}, KsS F ρ kvs gs → (∃ x v, dgetS kvs k = some x ∧ valV gs (Sum.inr k) = some v ∧ (ρ x).r v F) ∨ (dgetS kvs k = none ∧ valV gs (Sum.inr k) = none)
  | [], [], _ => .inr ⟨rfl, rfl⟩
  | (k1, x) :: r, (k2, v) :: r', h => by
    obtain ⟨rfl, h1, h2⟩ := h
    unfold dgetS valV
    rw [List.find?_cons, List.find?_cons, keydecS]
    by_cases e : k1 = k
    · simp only [e, decide_true]
      exact .inl ⟨x, v, rfl, rfl, h1⟩
    · simp only [e, decide_false]
      exact KsS.get h2
  | [], _ :: _, h => h.elim
  | _ :: _, [], h => h.elim
theorem KsS.any {k : Str} : ∀ {kvs : List (Str × α)} {gs : List (Key × V)}, KsS F ρ kvs gs → (gs.any fun kv => decide (kv.1 = (Sum.inr k : Key))) = kvs.any fun p => decide (p.1 = k)
  | [], [], _ => rfl
  | (k1, x) :: r, (k2, v) :: r', h => by
    obtain ⟨rfl, h1, h2⟩ := h
    rw [List.any_cons, List.any_cons, KsS.any h2, keydecS]
  | [], _ :: _, h => h.elim
  | _ :: _, [], h => h.elim
theorem KsS.app : ∀ {kvs kvs2 : List (Str × α)} {gs gs2 : List (Key × V)}, KsS F ρ kvs gs → KsS F ρ kvs2 gs2 → KsS F ρ (kvs ++ kvs2) (gs ++ gs2)
  | [], _, [], _, _, h => h
  | (_, _) :: _, _, (_, _) :: _, _, h, k => ⟨h.1, h.2.1, KsS.app h.2.2 k⟩
  | [], _, _ :: _, _, h, _ => h.elim
  | _ :: _, _, [], _, h, _ => h.elim
theorem KsS.rep {k : Str} {x : α} {v : V} (hv : (ρ x).r v F) : ∀ {kvs : List (Str × α)} {gs : List (Key × V)}, KsS F ρ kvs gs → KsS F ρ (kvs.map fun p => if p.1 = k then (p.1, x) else p) (gs.map fun kv => if kv.1 = (Sum.inr k : Key) then (kv.1, v) else kv)
  | [], [], _ => trivial
  | (k1, y) :: r, (k2, u) :: r', h => by
    obtain ⟨rfl, h1, h2⟩ := h
    have ih := KsS.rep (k := k) hv h2
    by_cases e : k1 = k
    · simp only [List.map_cons, e, if_true]
      exact ⟨rfl, hv, ih⟩
    · have e2 : ¬ (Sum.inr k1 : Key) = Sum.inr k := fun q => e (Sum.inr.inj q)
      simp only [List.map_cons, e, e2, if_false]
      exact ⟨rfl, h1, ih⟩
  | [], _ :: _, h => h.elim
  | _ :: _, [], h => h.elim
theorem KsS.put {k : Str} {x : α} {v : V} {kvs : List (Str × α)} {gs : List (Key × V)} (h : KsS F ρ kvs gs) (hv : (ρ x).r v F) : KsS F ρ (dputS kvs k x) (putK gs (Sum.inr k) v) := by
  unfold dputS putK
  rw [h.any]
  split
  · exact h.rep hv
  · exact h.app ⟨rfl, hv, trivial⟩
end
def oDkS (ρ : α → Pr) (kvs : List (Str × α)) : Po := ⟨fun o F => ∃ gs, o = .dK gs ∧ KsS F ρ kvs gs, fun s ⟨gs, e, h⟩ => ⟨gs, e, h.mono s⟩⟩
variable {X : Cx} {W : WX} {Γe Γx Γ Γ' : Ctx} {lv : Bool} {e ee o a b c : Expr} {es : List Expr} {st : Stmt} {rest body suite : List Stmt} {Z : γ → Fin} {pos p2 p3 : Pos} {t : TE} {ρ : α → Pr}
section
variable {i : Nat} {l : Bool} {ad : Addr} {kvs : List (Str × α)} {x : Str} {mk : Mo Str}
end
section
variable {md : Mo (List (Str × α))} {mk : Mo Str}
end
end
end RF
namespace RF
open PySem PySem.Spec PyProof.Rows L2 KO SX
section
def dQ3 {α β γ : Type} (ρ : α → Pr) (σ : β → Pr) (τ : γ → Pr) [s0 : Dec ρ] [s1 : Dec σ] [s2 : Dec τ] : PyData → Option (α × β × γ)
  | .tuple [x0, x1, x2] => do let y0 ← s0.d x0; let y1 ← s1.d x1; let y2 ← s2.d x2; pure (y0, y1, y2)
  | _ => none
theorem len_3 {α : Type} : ∀ {xs : List α}, xs.length = 3 → ∃ x0 x1 x2, xs = [x0, x1, x2]
  | [x0, x1, x2], _ => ⟨x0, x1, x2, rfl⟩
  | [], h => by cases h
  | [_], h => by cases h
  | [_, _], h => by cases h
  | _ :: _ :: _ :: _ :: _, h => by simp at h
theorem dQ3_ok {α β γ : Type} {ρ : α → Pr} {σ : β → Pr} {τ : γ → Pr} [s0 : Dec ρ] [s1 : Dec σ] [s2 : Dec τ] {x : PyData} {y : α × β × γ} {v : V} {F : Hp} {n : Nat} (hn : n ≤ 8) (e : dQ3 ρ σ τ x = some y) (h : Dt n F v x) : (rT3 ρ σ τ y).r v F := by
  obtain ⟨k, rfl⟩ := dt_pos h
  cases x with
  | tuple ds =>
    by_cases hl : ds.length = 3
    · obtain ⟨x0, x1, x2, rfl⟩ := len_3 hl
      obtain ⟨y0, e0, e⟩ := some_bind e
      obtain ⟨y1, e1, e⟩ := some_bind e
      obtain ⟨y2, e2, e⟩ := some_bind e
      obtain rfl := Option.some.inj e
      obtain ⟨a, us, rfl, h1, h2, _, h3⟩ := h
      obtain ⟨v0, v1, v2, rfl⟩ := len_3 h2
      have g0 := s0.is (show k ≤ 8 by omega) e0 (h3 0 v0 x0 rfl rfl)
      have g1 := s1.is (show k ≤ 8 by omega) e1 (h3 1 v1 x1 rfl rfl)
      have g2 := s2.is (show k ≤ 8 by omega) e2 (h3 2 v2 x2 rfl rfl)
      exact ⟨a, [v0, v1, v2], rfl, h1, g0, g1, g2, trivial⟩
    · exfalso
      match ds, hl, e with
      | [x0, x1, x2], hl, _ => exact hl rfl
      | [], _, e => cases e
      | [_], _, e => cases e
      | [_, _], _, e => cases e
      | _ :: _ :: _ :: _ :: _, _, e => cases e
  | _ => cases e
instance decT3 {α β γ : Type} {ρ : α → Pr} {σ : β → Pr} {τ : γ → Pr} [s0 : Dec ρ] [s1 : Dec σ] [s2 : Dec τ] : Dec (rT3 ρ σ τ) := ⟨dQ3 ρ σ τ, dQ3_ok⟩
def dQ4 {α β γ δ : Type} (ρ : α → Pr) (σ : β → Pr) (τ : γ → Pr) (υ : δ → Pr) [s0 : Dec ρ] [s1 : Dec σ] [s2 : Dec τ] [s3 : Dec υ] : PyData → Option (α × β × γ × δ)
  | .tuple [x0, x1, x2, x3] => do let y0 ← s0.d x0; let y1 ← s1.d x1; let y2 ← s2.d x2; let y3 ← s3.d x3; pure (y0, y1, y2, y3)
  | _ => none
theorem len_4 {α : Type} : ∀ {xs : List α}, xs.length = 4 → ∃ x0 x1 x2 x3, xs = [x0, x1, x2, x3]
  | [x0, x1, x2, x3], _ => ⟨x0, x1, x2, x3, rfl⟩
  | [], h => by cases h
  | [_], h => by cases h
  | [_, _], h => by cases h
  | [_, _, _], h => by cases h
  | _ :: _ :: _ :: _ :: _ :: _, h => by simp at h
theorem dQ4_ok {α β γ δ : Type} {ρ : α → Pr} {σ : β → Pr} {τ : γ → Pr} {υ : δ → Pr} [s0 : Dec ρ] [s1 : Dec σ] [s2 : Dec τ] [s3 : Dec υ] {x : PyData} {y : α × β × γ × δ} {v : V} {F : Hp} {n : Nat} (hn : n ≤ 8) (e : dQ4 ρ σ τ υ x = some y) (h : Dt n F v x) : (rT4 ρ σ τ υ y).r v F := by
  obtain ⟨k, rfl⟩ := dt_pos h
  cases x with
  | tuple ds =>
    by_cases hl : ds.length = 4
    · obtain ⟨x0, x1, x2, x3, rfl⟩ := len_4 hl
      obtain ⟨y0, e0, e⟩ := some_bind e
      obtain ⟨y1, e1, e⟩ := some_bind e
      obtain ⟨y2, e2, e⟩ := some_bind e
      obtain ⟨y3, e3, e⟩ := some_bind e
      obtain rfl := Option.some.inj e
      obtain ⟨a, us, rfl, h1, h2, _, h3⟩ := h
      obtain ⟨v0, v1, v2, v3, rfl⟩ := len_4 h2
      have g0 := s0.is (show k ≤ 8 by omega) e0 (h3 0 v0 x0 rfl rfl)
      have g1 := s1.is (show k ≤ 8 by omega) e1 (h3 1 v1 x1 rfl rfl)
      have g2 := s2.is (show k ≤ 8 by omega) e2 (h3 2 v2 x2 rfl rfl)
      have g3 := s3.is (show k ≤ 8 by omega) e3 (h3 3 v3 x3 rfl rfl)
      exact ⟨a, [v0, v1, v2, v3], rfl, h1, g0, g1, g2, g3, trivial⟩
    · exfalso
      match ds, hl, e with
      | [x0, x1, x2, x3], hl, _ => exact hl rfl
      | [], _, e => cases e
      | [_], _, e => cases e
      | [_, _], _, e => cases e
      | [_, _, _], _, e => cases e
      | _ :: _ :: _ :: _ :: _ :: _, _, e => cases e
  | _ => cases e
instance decT4 {α β γ δ : Type} {ρ : α → Pr} {σ : β → Pr} {τ : γ → Pr} {υ : δ → Pr} [s0 : Dec ρ] [s1 : Dec σ] [s2 : Dec τ] [s3 : Dec υ] : Dec (rT4 ρ σ τ υ) := ⟨dQ4 ρ σ τ υ, dQ4_ok⟩
def dQ5 {α β γ δ ε : Type} (ρ : α → Pr) (σ : β → Pr) (τ : γ → Pr) (υ : δ → Pr) (φ : ε → Pr) [s0 : Dec ρ] [s1 : Dec σ] [s2 : Dec τ] [s3 : Dec υ] [s4 : Dec φ] : PyData → Option (α × β × γ × δ × ε)
  | .tuple [x0, x1, x2, x3, x4] => do let y0 ← s0.d x0; let y1 ← s1.d x1; let y2 ← s2.d x2; let y3 ← s3.d x3; let y4 ← s4.d x4; pure (y0, y1, y2, y3, y4)
  | _ => none
theorem len_5 {α : Type} : ∀ {xs : List α}, xs.length = 5 → ∃ x0 x1 x2 x3 x4, xs = [x0, x1, x2, x3, x4]
  | [x0, x1, x2, x3, x4], _ => ⟨x0, x1, x2, x3, x4, rfl⟩
  | [], h => by cases h
  | [_], h => by cases h
  | [_, _], h => by cases h
  | [_, _, _], h => by cases h
  | [_, _, _, _], h => by cases h
  | _ :: _ :: _ :: _ :: _ :: _ :: _, h => by simp at h
theorem dQ5_ok {α β γ δ ε : Type} {ρ : α → Pr} {σ : β → Pr} {τ : γ → Pr} {υ : δ → Pr} {φ : ε → Pr} [s0 : Dec ρ] [s1 : Dec σ] [s2 : Dec τ] [s3 : Dec υ] [s4 : Dec φ] {x : PyData} {y : α × β × γ × δ × ε} {v : V} {F : Hp} {n : Nat} (hn : n ≤ 8) (e : dQ5 ρ σ τ υ φ x = some y) (h : Dt n F v x) : (rT5 ρ σ τ υ φ y).r v F := by
  obtain ⟨k, rfl⟩ := dt_pos h
  cases x with
  | tuple ds =>
    by_cases hl : ds.length = 5
    · obtain ⟨x0, x1, x2, x3, x4, rfl⟩ := len_5 hl
      obtain ⟨y0, e0, e⟩ := some_bind e
      obtain ⟨y1, e1, e⟩ := some_bind e
      obtain ⟨y2, e2, e⟩ := some_bind e
      obtain ⟨y3, e3, e⟩ := some_bind e
      obtain ⟨y4, e4, e⟩ := some_bind e
      obtain rfl := Option.some.inj e
      obtain ⟨a, us, rfl, h1, h2, _, h3⟩ := h
      obtain ⟨v0, v1, v2, v3, v4, rfl⟩ := len_5 h2
      have g0 := s0.is (show k ≤ 8 by omega) e0 (h3 0 v0 x0 rfl rfl)
      have g1 := s1.is (show k ≤ 8 by omega) e1 (h3 1 v1 x1 rfl rfl)
      have g2 := s2.is (show k ≤ 8 by omega) e2 (h3 2 v2 x2 rfl rfl)
      have g3 := s3.is (show k ≤ 8 by omega) e3 (h3 3 v3 x3 rfl rfl)
      have g4 := s4.is (show k ≤ 8 by omega) e4 (h3 4 v4 x4 rfl rfl)
      exact ⟨a, [v0, v1, v2, v3, v4], rfl, h1, g0, g1, g2, g3, g4, trivial⟩
    · exfalso
      match ds, hl, e with
      | [x0, x1, x2, x3, x4], hl, _ => exact hl rfl
      | [], _, e => cases e
      | [_], _, e => cases e
      | [_, _], _, e => cases e
      | [_, _, _], _, e => cases e
      | [_, _, _, _], _, e => cases e
      | _ :: _ :: _ :: _ :: _ :: _ :: _, _, e => cases e
  | _ => cases e
instance decT5 {α β γ δ ε : Type} {ρ : α → Pr} {σ : β → Pr} {τ : γ → Pr} {υ : δ → Pr} {φ : ε → Pr} [s0 : Dec ρ] [s1 : Dec σ] [s2 : Dec τ] [s3 : Dec υ] [s4 : Dec φ] : Dec (rT5 ρ σ τ υ φ) := ⟨dQ5 ρ σ τ υ φ, dQ5_ok⟩
def dQ6 {α β γ δ ε ζ : Type} (ρ : α → Pr) (σ : β → Pr) (τ : γ → Pr) (υ : δ → Pr) (φ : ε → Pr) (χ : ζ → Pr) [s0 : Dec ρ] [s1 : Dec σ] [s2 : Dec τ] [s3 : Dec υ] [s4 : Dec φ] [s5 : Dec χ] : PyData → Option (α × β × γ × δ × ε × ζ)
  | .tuple [x0, x1, x2, x3, x4, x5] => do let y0 ← s0.d x0; let y1 ← s1.d x1; let y2 ← s2.d x2; let y3 ← s3.d x3; let y4 ← s4.d x4; let y5 ← s5.d x5; pure (y0, y1, y2, y3, y4, y5)
  | _ => none
theorem len_6 {α : Type} : ∀ {xs : List α}, xs.length = 6 → ∃ x0 x1 x2 x3 x4 x5, xs = [x0, x1, x2, x3, x4, x5]
  | [x0, x1, x2, x3, x4, x5], _ => ⟨x0, x1, x2, x3, x4, x5, rfl⟩
  | [], h => by cases h
  | [_], h => by cases h
  | [_, _], h => by cases h
  | [_, _, _], h => by cases h
  | [_, _, _, _], h => by cases h
  | [_, _, _, _, _], h => by cases h
  | _ :: _ :: _ :: _ :: _ :: _ :: _ :: _, h => by simp at h
theorem dQ6_ok {α β γ δ ε ζ : Type} {ρ : α → Pr} {σ : β → Pr} {τ : γ → Pr} {υ : δ → Pr} {φ : ε → Pr} {χ : ζ → Pr} [s0 : Dec ρ] [s1 : Dec σ] [s2 : Dec τ] [s3 : Dec υ] [s4 : Dec φ] [s5 : Dec χ] {x : PyData} {y : α × β × γ × δ × ε × ζ} {v : V} {F : Hp} {n : Nat} (hn : n ≤ 8) (e : dQ6 ρ σ τ υ φ χ x = some y) (h : Dt n F v x) : (rT6 ρ σ τ υ φ χ y).r v F := by
  obtain ⟨k, rfl⟩ := dt_pos h
  cases x with
  | tuple ds =>
    by_cases hl : ds.length = 6
    · obtain ⟨x0, x1, x2, x3, x4, x5, rfl⟩ := len_6 hl
      obtain ⟨y0, e0, e⟩ := some_bind e
      obtain ⟨y1, e1, e⟩ := some_bind e
      obtain ⟨y2, e2, e⟩ := some_bind e
      obtain ⟨y3, e3, e⟩ := some_bind e
      obtain ⟨y4, e4, e⟩ := some_bind e
      obtain ⟨y5, e5, e⟩ := some_bind e
      obtain rfl := Option.some.inj e
      obtain ⟨a, us, rfl, h1, h2, _, h3⟩ := h
      obtain ⟨v0, v1, v2, v3, v4, v5, rfl⟩ := len_6 h2
      have g0 := s0.is (show k ≤ 8 by omega) e0 (h3 0 v0 x0 rfl rfl)
      have g1 := s1.is (show k ≤ 8 by omega) e1 (h3 1 v1 x1 rfl rfl)
      have g2 := s2.is (show k ≤ 8 by omega) e2 (h3 2 v2 x2 rfl rfl)
      have g3 := s3.is (show k ≤ 8 by omega) e3 (h3 3 v3 x3 rfl rfl)
      have g4 := s4.is (show k ≤ 8 by omega) e4 (h3 4 v4 x4 rfl rfl)
      have g5 := s5.is (show k ≤ 8 by omega) e5 (h3 5 v5 x5 rfl rfl)
      exact ⟨a, [v0, v1, v2, v3, v4, v5], rfl, h1, g0, g1, g2, g3, g4, g5, trivial⟩
    · exfalso
      match ds, hl, e with
      | [x0, x1, x2, x3, x4, x5], hl, _ => exact hl rfl
      | [], _, e => cases e
      | [_], _, e => cases e
      | [_, _], _, e => cases e
      | [_, _, _], _, e => cases e
      | [_, _, _, _], _, e => cases e
      | [_, _, _, _, _], _, e => cases e
      | _ :: _ :: _ :: _ :: _ :: _ :: _ :: _, _, e => cases e
  | _ => cases e
instance decT6 {α β γ δ ε ζ : Type} {ρ : α → Pr} {σ : β → Pr} {τ : γ → Pr} {υ : δ → Pr} {φ : ε → Pr} {χ : ζ → Pr} [s0 : Dec ρ] [s1 : Dec σ] [s2 : Dec τ] [s3 : Dec υ] [s4 : Dec φ] [s5 : Dec χ] : Dec (rT6 ρ σ τ υ φ χ) := ⟨dQ6 ρ σ τ υ φ χ, dQ6_ok⟩
end
end RF
namespace RF
open PySem PySem.Spec PyProof.Rows L2 KO SX
section
variable {α β γ δ : Type} {X : Cx} {W : WX} {Γ : Ctx} {a b e : Expr} {pos p : Pos} {ρ : α → Pr} {md : Mo (List (Str × α))}
end
end RF
namespace RF
open PySem PySem.Spec PyProof.Rows L2 KO SX
section
variable {α β γ δ : Type} {X : Cx} {W : WX} {Γe Γ Γ' : Ctx} {lv : Bool} {e ee o a b c : Expr} {es : List Expr} {st : Stmt} {rest body suite : List Stmt} {Z : γ → Fin} {pos p2 p3 : Pos} {t : TE}
class ND (ρ : α → Pr) : Prop where
  nl : ∀ {x : α} {v : V} {F : Hp} {a : Addr} {vs : List (Key × V)}, Rd F a (.dK vs) → (ρ x).r v F → (ρ x).r v (del F a)
class NDP (q : Po) : Prop where
  nl : ∀ {u : HO} {F : Hp} {a : Addr} {vs : List (Key × V)}, Rd F a (.dK vs) → q.r u F → q.r u (del F a)
def NDr (p : Pr) : Prop := ∀ {v : V} {F : Hp} {a : Addr} {vs : List (Key × V)}, Rd F a (.dK vs) → p.r v F → p.r v (del F a)
instance : ND rI := ⟨fun _ h => h⟩
instance : ND rB := ⟨fun _ h => h⟩
instance : ND rS := ⟨fun _ h => h⟩
instance : ND rN := ⟨fun _ h => h⟩
instance {ρ : α → Pr} [n : ND ρ] : ND (rO ρ) := ⟨fun {x} {v F a vs} h k => by
  cases x with
  | none => exact k
  | some y => exact n.nl h k⟩
theorem Ps.nd {F : Hp} {a : Addr} {us : List (Key × V)} (h : Rd F a (.dK us)) : ∀ {ps : List Pr} {vs : List V}, (∀ p ∈ ps, NDr p) → Ps F ps vs → Ps (del F a) ps vs
  | [], [], _, _ => trivial
  | p :: ps, v :: vs, n, k => ⟨n p List.mem_cons_self h k.1, Ps.nd h (fun q hq => n q (List.mem_cons_of_mem _ hq)) k.2⟩
  | [], _ :: _, _, k => k.elim
  | _ :: _, [], _, k => k.elim
theorem nd_T {ps : List Pr} (n : ∀ p ∈ ps, NDr p) : NDr (rTu ps) := fun {v F a vs} h k => by
  obtain ⟨t, ws, rfl, h1, h2⟩ := k
  have hne : t ≠ a := by
    rintro rfl
    rcases h1 with h1 | ⟨o, h1⟩ <;> rcases h with h | ⟨o2, h⟩ <;> (rw [h] at h1; cases h1)
  exact ⟨t, ws, rfl, h1.imp (fun h => del_ok h hne) (fun ⟨o, h⟩ => ⟨o, del_ok h hne⟩), h2.nd h n⟩
theorem ndr {ρ : α → Pr} [n : ND ρ] (x : α) : NDr (ρ x) := fun h k => n.nl h k
theorem nd_mem1 {p : Pr} (h : NDr p) : ∀ q ∈ [p], NDr q := fun q hq => by rw [List.mem_singleton.mp hq]; exact h
theorem nd_memc {p : Pr} {ps : List Pr} (h : NDr p) (k : ∀ q ∈ ps, NDr q) : ∀ q ∈ p :: ps, NDr q := fun q hq => by
  rcases List.mem_cons.mp hq with e | e
  · rw [e]; exact h
  · exact k q e
section
variable {ε ζ : Type} {ρ : α → Pr} {σ : β → Pr} {τ : γ → Pr} {υ : δ → Pr} {φ : ε → Pr}
instance [ND ρ] : ND (rTs ρ) := ⟨fun {xs} {v F a vs} h k => nd_T (fun p hp => by
  obtain ⟨x, _, rfl⟩ := List.mem_map.mp hp
  exact ndr x) h k⟩
instance [ND ρ] : ND (rT1 ρ) := ⟨fun {x} {v F a vs} h k => nd_T (nd_mem1 (ndr _)) h k⟩
instance [ND ρ] [ND σ] : ND (rT2 ρ σ) := ⟨fun {x} {v F a vs} h k => nd_T (nd_memc (ndr _) (nd_mem1 (ndr _))) h k⟩
instance [ND ρ] [ND σ] [ND τ] : ND (rT3 ρ σ τ) := ⟨fun {x} {v F a vs} h k => nd_T (nd_memc (ndr _) (nd_memc (ndr _) (nd_mem1 (ndr _)))) h k⟩
instance [ND ρ] [ND σ] [ND τ] [ND υ] : ND (rT4 ρ σ τ υ) := ⟨fun {x} {v F a vs} h k => nd_T (nd_memc (ndr _) (nd_memc (ndr _) (nd_memc (ndr _) (nd_mem1 (ndr _))))) h k⟩
instance [ND ρ] [ND σ] [ND τ] [ND υ] [ND φ] : ND (rT5 ρ σ τ υ φ) := ⟨fun {x} {v F a vs} h k => nd_T (nd_memc (ndr _) (nd_memc (ndr _) (nd_memc (ndr _) (nd_memc (ndr _) (nd_mem1 (ndr _)))))) h k⟩
instance [n : ND ρ] {xs : List α} : NDP (oL ρ xs) := ⟨fun {u F a vs} h k => by
  obtain ⟨ws, rfl, h2⟩ := k
  exact ⟨ws, rfl, h2.nd h (fun p hp => by
    obtain ⟨x, _, rfl⟩ := List.mem_map.mp hp
    exact ndr x)⟩⟩
end
instance : NDP oPool := ⟨fun _ h => h⟩
instance {C : Addr} : NDP (oIn C []) := ⟨fun {u F a vs} h k => by
  obtain ⟨dx, gs, rfl, k⟩ := k
  cases gs with
  | nil => exact ⟨dx, [], rfl, trivial⟩
  | cons _ _ => exact k.elim⟩
theorem ks_nd {ρ : α → Pr} [ND ρ] {F : Hp} {a : Addr} {us : List (Key × V)} (h : Rd F a (.dK us)) : ∀ {kvs : List (Int × α)} {gs : List (Key × V)}, Ks F ρ kvs gs → Ks (del F a) ρ kvs gs
  | [], [], _ => trivial
  | (_, x) :: _, (_, _) :: _, k => ⟨k.1, ndr x h k.2.1, ks_nd h k.2.2⟩
  | [], _ :: _, k => k.elim
  | _ :: _, [], k => k.elim
instance {ρ : α → Pr} [ND ρ] {kvs : List (Int × α)} : NDP (oDk ρ kvs) := ⟨fun {u F a vs} h k => by
  obtain ⟨gs, rfl, k⟩ := k
  exact ⟨gs, rfl, ks_nd h k⟩⟩
instance : ND (rNN (α := α)) := ⟨fun _ h => h⟩
class NDK (k : RK γ) : Prop where
  nl : ∀ {x : γ} {v : V} {H F H' : Hp} {a : Addr} {vs : List (Key × V)}, Rd F a (.dK vs) → k.ok x v H F H' → k.ok x v H (del F a) H'
instance {ρ : γ → Pr} [n : ND ρ] : NDK (.fz ρ) := ⟨fun h k => n.nl h k⟩
instance {ρ : γ → Po} [n : ∀ x, NDP (ρ x)] : NDK (.ow ρ) := ⟨fun {x v H F H' a vs} h k => by
  obtain ⟨b, u, rfl, h1, h2, h3, h4⟩ := k
  refine ⟨b, u, rfl, h1, ?_, h3, (n x).nl h h4⟩
  unfold del
  split
  · rfl
  · exact h2⟩
def NDC : Ctx → Prop
  | [] => True
  | .ow _ _ q :: r => NDP q ∧ NDC r
  | _ :: r => NDC r
theorem NDC.get : ∀ {Γ : Ctx} {i : Nat} {l : Bool} {a : Addr} {q : Po}, NDC Γ → Γ[i]? = some (.ow l a q) → NDP q
  | [], _, _, _, _, _, h => by simp at h
  | en :: r, 0, l, a, q, n, h => by
    simp at h
    subst h
    exact n.1
  | en :: r, i + 1, l, a, q, n, h => by
    have n' : NDC r := by
      cases en with
      | un => exact n
      | fz p => exact n
      | ow l' a' q' => exact n.2
      | lk f h p => exact n
    exact NDC.get n' (by simpa using h)
section
variable {j : Nat} {l : Bool} {ad : Addr} {ρ : α → Pr} {xs : List (Str × α)}
end

section
variable {ρ : α → Pr}
instance ndL [ND ρ] : ND (rL ρ) := ⟨fun {xs} {v F a vs} h k => by
  obtain ⟨t, ws, rfl, h1, h2⟩ := k
  have hne : t ≠ a := by
    rintro rfl
    rcases h with h | ⟨o2, h⟩ <;> (rw [h] at h1; cases h1)
  exact ⟨t, ws, rfl, del_ok h1 hne, h2.nd h (fun p hp => by
    obtain ⟨x, _, rfl⟩ := List.mem_map.mp hp
    exact ndr x)⟩⟩
theorem dt_nd {F : Hp} {a : Addr} {us : List (Key × V)} (h : Rd F a (.dK us)) : ∀ (n : Nat) {v : V} {x : PyData}, Dt n F v x → Dt n (del F a) v x
  | 0, _, _, k => k
  | n + 1, v, x, k => by
    cases x with
    | none => exact k
    | bool _ => exact k
    | int _ => exact k
    | str _ => exact k
    | list ds =>
      obtain ⟨t, xs, rfl, h1, h2, h3, h4⟩ := k
      have hne : t ≠ a := by
        rintro rfl
        rcases h with h | ⟨o2, h⟩ <;> (rw [h] at h1; cases h1)
      exact ⟨t, xs, rfl, del_ok h1 hne, h2, h3, fun i w d e1 e2 => dt_nd h n (h4 i w d e1 e2)⟩
    | tuple ds =>
      obtain ⟨t, xs, rfl, h1, h2, h3, h4⟩ := k
      have hne : t ≠ a := by
        rintro rfl
        rcases h1 with h1 | ⟨o, h1⟩ <;> rcases h with h | ⟨o2, h⟩ <;> (rw [h] at h1; cases h1)
      exact ⟨t, xs, rfl, h1.imp (fun h => del_ok h hne) (fun ⟨o, h⟩ => ⟨o, del_ok h hne⟩), h2, h3, fun i w d e1 e2 => dt_nd h n (h4 i w d e1 e2)⟩
    | dict _ => exact k.elim
instance ndD : ND rD := ⟨fun {x} {v F a vs} h k => dt_nd h 8 k⟩
end
end
end RF
namespace RF
open PySem PySem.Spec PyProof.Rows L2 KO SX
section
variable {α β γ δ : Type} {X : Cx} {W : WX} {Γe Γ Γ' : Ctx} {lv : Bool} {e ee o a b c : Expr} {es : List Expr} {st : Stmt} {pos p2 p3 : Pos} {t : TE}
theorem fs_nd {F : Hp} {a : Addr} {vs : List (Key × V)} (hl : Rd F a (.dK vs)) : ∀ {fs : List (Str × Pr)} {gs : List (Str × V)}, (∀ p ∈ fs, NDr p.2) → Fs F fs gs → Fs (del F a) fs gs
  | [], [], _, _ => trivial
  | p :: fs, g :: gs, h, k => ⟨k.1, h p List.mem_cons_self hl k.2.1, fs_nd hl (fun q hq => h q (List.mem_cons_of_mem _ hq)) k.2.2⟩
  | [], _ :: _, _, k => k.elim
  | _ :: _, [], _, k => k.elim
theorem ndp_in {C : Addr} {fs : List (Str × Pr)} (h : ∀ p ∈ fs, NDr p.2) : NDP (oIn C fs) := ⟨fun {u F a vs} hl k => by
  obtain ⟨dx, gs, rfl, k⟩ := k
  exact ⟨dx, gs, rfl, fs_nd hl h k⟩⟩
theorem nd_in {C : Addr} {fs : List (Str × Pr)} (h : ∀ p ∈ fs, NDr p.2) : NDr (rIn C fs) := fun {v F a vs} hl k => by
  obtain ⟨b, dx, gs, rfl, h1, k⟩ := k
  exact ⟨b, dx, gs, rfl, del_ok h1 (by rintro rfl; rcases hl with hl | ⟨o2, hl⟩ <;> (rw [hl] at h1; cases h1)), fs_nd hl h k⟩
theorem ndf1 {f : Str} {p : Pr} (h : NDr p) : ∀ q ∈ [(f, p)], NDr q.2 := fun q hq => by rw [List.mem_singleton.mp hq]; exact h
theorem ndfc {f : Str} {p : Pr} {ps : List (Str × Pr)} (h : NDr p) (k : ∀ q ∈ ps, NDr q.2) : ∀ q ∈ (f, p) :: ps, NDr q.2 := fun q hq => by
  rcases List.mem_cons.mp hq with e | e
  · rw [e]; exact h
  · exact k q e
theorem ks_ndS {ρ : α → Pr} [ND ρ] {F : Hp} {a : Addr} {us : List (Key × V)} (h : Rd F a (.dK us)) : ∀ {kvs : List (Str × α)} {gs : List (Key × V)}, KsS F ρ kvs gs → KsS (del F a) ρ kvs gs
  | [], [], _ => trivial
  | (_, x) :: _, (_, _) :: _, k => ⟨k.1, ndr x h k.2.1, ks_ndS h k.2.2⟩
  | [], _ :: _, k => k.elim
  | _ :: _, [], k => k.elim
instance {ρ : α → Pr} [ND ρ] {kvs : List (Str × α)} : NDP (oDkS ρ kvs) := ⟨fun {u F a vs} h k => by
  obtain ⟨gs, rfl, k⟩ := k
  exact ⟨gs, rfl, ks_ndS h k⟩⟩
instance ndTf {ρ : α → Pr} [ND ρ] : ND (rTf ρ) := ⟨fun {xs} {v F b us} h k => by
  obtain ⟨a, vs, o, rfl, h1, h2, h3⟩ := k
  exact ⟨a, vs, o, rfl, del_ok h1 (by rintro rfl; rcases h with h | ⟨o2, h⟩ <;> (rw [h] at h1; cases h1)), h2, h3.nd h (fun p hp => by
    obtain ⟨x, _, rfl⟩ := List.mem_map.mp hp
    exact ndr x)⟩⟩
end
end RF
namespace RF
open PySem PySem.Spec PyProof.Rows L2 KO SX
section
variable {X : Cx} {W : WX} {Γ : Ctx} {a b : Expr} {pos p : Pos} {mi mj : Mo Int}
end
end RF
namespace RF
open PySem PySem.Spec PyProof.Rows L2 KO SX
section
variable {α β γ δ : Type} {X : Cx} {W : WX} {Γe Γ Γ' : Ctx} {lv : Bool} {e ee o a b c : Expr} {es : List Expr} {st : Stmt} {pos p2 p3 : Pos} {t : TE} {ρ : α → Pr}
theorem KsS.at {F : Hp} : ∀ {kvs : List (Str × α)} {gs : List (Key × V)} {i : Nat} {k : Str} {x : α}, KsS F ρ kvs gs → kvs[i]? = some (k, x) → ∃ v, gs[i]? = some (.inr k, v) ∧ (ρ x).r v F
  | [], _, _, _, _, _, h => by simp at h
  | _ :: _, [], _, _, _, k, _ => k.elim
  | (k0, x0) :: r, (k1, v1) :: r', 0, k, x, h, e => by
    simp at e
    obtain ⟨rfl, rfl⟩ := e
    exact ⟨v1, by rw [h.1]; rfl, h.2.1⟩
  | (k0, x0) :: r, (k1, v1) :: r', i + 1, k, x, h, e => KsS.at (kvs := r) (gs := r') h.2.2 (by simpa using e)
class NDLK (k : RK γ) : Prop where
  lk : ∀ {x : γ} {v : V} {H F H' : Hp} {a : Addr} {od : Obj} {vs : List (Key × V)}, F a = some (.frz od (.dK vs)) → k.ok x v (upd H a (.frz od (.dK vs))) F H' → k.ok x v H (del F a) (upd H' a (.dK vs))
instance {ρ : γ → Pr} [n : ND ρ] : NDLK (.fz ρ) := ⟨fun h k => n.nl (.inr ⟨_, h⟩) k⟩
instance {ρ : γ → Po} [n : ∀ x, NDP (ρ x)] : NDLK (.ow ρ) := ⟨fun {x v H F H' a od vs} h k => by
  obtain ⟨b, u, rfl, h1, h2, h3, h4⟩ := k
  have hb : b ≠ a := by rintro rfl; rw [h] at h2; cases h2
  refine ⟨b, u, rfl, by rw [upd_ne hb] at h1; exact h1, ?_, by rw [upd_ne hb]; exact h3, (n x).nl (.inr ⟨_, h⟩) h4⟩
  unfold del
  split
  · rfl
  · exact h2⟩
section
variable {j : Nat} {l : Bool} {ad : Addr} {xs : List (Str × α)}
end
end
end RF
namespace RF
open PySem PySem.Spec PyProof.Rows L2 KO SX
section
variable {K : PySem.W.Frag} {C p : Addr} {n : Str} {T : String} {g : Value}
theorem findCls_get (h1 : PySem.W.findIn K (.type "type") n = some none) (h2 : PySem.W.findIn K (.ref C) n = some (some (.ref p))) (h3 : PySem.W.typeIn K (.ref p) = some (.type T)) (hb : PySem.W.bareKinds.contains (.type T) = false) (h4 : PySem.W.specialIn K (.ref p) "__get__" = some (some g)) : PySem.W.findCls K (.ref C) (.type "type") n = some (.get g (.ref p) .none (.ref C)) := by
  unfold PySem.W.findCls
  simp only [h1, h2, h3, h4, Option.bind_some, hb, Bool.false_eq_true, if_false, Builtin.heldUnderItsOwnName]
theorem findCls_val (h1 : PySem.W.findIn K (.type "type") n = some none) (h2 : PySem.W.findIn K (.ref C) n = some (some (.ref p))) (h3 : PySem.W.typeIn K (.ref p) = some (.type T)) (hb : PySem.W.bareKinds.contains (.type T) = false) (h4 : PySem.W.specialIn K (.ref p) "__get__" = some none) : PySem.W.findCls K (.ref C) (.type "type") n = some (.val (.ref p)) := by
  unfold PySem.W.findCls
  simp only [h1, h2, h3, h4, Option.bind_some, hb, Bool.false_eq_true, if_false, Builtin.heldUnderItsOwnName]
  rfl
structure SMet (K : PySem.W.Frag) (C : Addr) (m : Str) (f : Addr) : Prop where
  rd : ClX.CRead K C (.type "type")
  at_ : ∃ (p : Addr) (rest : List Value), PySem.W.findCls K (.ref C) (.type "type") m = some (.get (.builtin "staticmethod.__get__") (.ref p) .none (.ref C)) ∧ PySem.W.recIn K p "staticmethod" = some (.ref f :: rest)
  kp : PySem.W.keepIn K (.ref f) = true
structure KMet (K : PySem.W.Frag) (C : Addr) (m : Str) (f : Addr) : Prop where
  rd : ClX.CRead K C (.type "type")
  at_ : ∃ p : Addr, ClX.CMet K C (.type "type") m p f
end
section
variable {CX : CXT} {k : Nat} {X : Cx} {pins : List (Addr × Obj)} {σ : L2.St} {H : Hp} {s : Shared} {C f : Addr} {fd : FuncData} {ps : List Str} {m : Str} {A : Around} {E : L2.St → XK} {E' : Value → Shared → Prop} {o e : Expr} {es : List Expr} {ta : TE} {t : TA} {apos pos : Pos} {pl : Sem Bool} {sp : Sp} {Q : VK}
theorem getsm_ok {b : Bool} {Q : Value → Shared → Prop} (I : Inv X pins σ H s) (c : SMet X.K C m f) (h : ∀ s', Inv X pins σ H s' → Q (.ref f) s') : wpAny (model X.prog X.w) A (getAttr (.ref C) m b) Q E' s := by
  obtain ⟨p, rest, e, hp⟩ := c.at_
  refine PySem.W.cls_bind I.kIn c.rd.rd e ?_
  refine wpAny_call (PySem.W.sm_get (s := { s with toks := s.toks + 1 }) I.kIn hp (PySem.W.handed_on rfl ?_))
  exact h _ (I.tok _)
theorem getmethsm_ok {Q : Value × List Value → Shared → Prop} (I : Inv X pins σ H s) (c : SMet X.K C m f) (h : ∀ s', Inv X pins σ H s' → Q (.ref f, []) s') : wpAny (model X.prog X.w) A (getMethod (.ref C) m pl) Q E' s :=
  PySem.W.method_cls I.kIn c.rd.ga (getsm_ok I c h)
def tSm (C : Addr) (sp : Sp) (E : L2.St → XK) (ta : TE) (t : TA) : TE := fun σ H Q => ta σ H fun x H1 => x = .ref C ∧ t σ H1 fun vs H2 => sp vs H2 Q (E σ)
theorem pe_sm0 (he : PE X o ta) (c : SMet X.K C m f) (F : FnOk X.prog X.w X.K X.mg X.base CX k f fd ps sp) (hr : Room k X.A) (hb : Binds X.K fd ps []) (hx : ∀ σ, PassesAt CX X σ (E σ))
    (ht : eval (.Call (.Attribute o m apos) [] [] pos) X.env = (do
      let ov ← eval o X.env
      standAt apos.atName
      let (f, first) ← holding [ov] (getMethod ov m pl)
      callWith pos f first (backTo pos (starEach [] X.env)) (backToKw pos (keywordEach [] X.env))) := by rfl) :
    PE X (.Call (.Attribute o m apos) [] [] pos) (tSm C sp E ta tNil) := by
  refine ⟨fun pins s σ H Q I h => ?_⟩
  refine PySem.W.methodCall_KW (pl := pl) (thn (he.run pins s σ H _ I h) fun u s1 ⟨x, H1, I1, rx, ex, q⟩ => ?_) ht
  subst ex
  obtain rfl : u = Value.ref C := rx
  refine getmethsm_ok I1 c fun s2 I2 => ?_
  exact PySem.W.callWith_K0 (first := []) I2.kIn c.kp (run_fnS (us := []) (vs := []) F hr hb (hx σ) I2 .nil q)
theorem code_fnS {us : List Value} {vs : List V} (F : FnOk X.prog X.w X.K X.mg X.base CX k f fd ps sp) (hr : Room k X.A) (hb : Binds X.K fd ps []) (hx : PassesAt CX X σ (E σ))
    (I : Inv X pins σ H s) (r : Vals vs us) (h : sp vs H Q (E σ)) : codeAny (model X.prog X.w) X.A (.call (.ref f) ⟨us, []⟩) (fun r s' => match r with | .ok (.ret v) => EP X pins σ Q v s' | .ok _ => False | .error e => X.xe e s') s := by
  have hl : us.length = ps.length := by rw [← r.length]; exact F.len _ _ _ _ h
  have b := hb s us I.kIn (by rw [List.append_nil]; exact hl)
  rw [List.append_nil] at b
  refine codeAny_mono (F.run X.A X.stack s H ⟨us, []⟩ us vs Q (E σ) hr I.env0 b r h) fun r s' hq => ?_
  cases r with
  | error e => exact hx pins H s e s' I hq
  | ok fl =>
    cases fl with
    | ret u => exact I.after hq
    | next => exact False.elim hq
    | brk => exact False.elim hq
    | cont => exact False.elim hq
theorem run_kmS {q : Addr} {us : List Value} {vs : List V} (F : FnOk X.prog X.w X.K X.mg X.base CX k f fd ps sp) (hr : Room k X.A) (hb : Binds X.K fd ps []) (hx : PassesAt CX X σ (E σ)) (I : Inv X ((q, PySem.W.methodObj (.ref f) (.ref C)) :: pins) σ H s) (r : Vals vs us)
    (h : sp (.ref C :: vs) H Q (E σ)) : wpAny (model X.prog X.w) X.A (call (.ref q) us) (EP X pins σ Q) X.xe s := by
  have z : wpAny (model X.prog X.w) X.A (call (.ref q) us) (EP X ((q, PySem.W.methodObj (.ref f) (.ref C)) :: pins) σ Q) X.xe s :=
    wpAny_call (PySem.W.method_call (ClX.pin_at I) (code_fnS (us := .ref C :: us) (vs := .ref C :: vs) F hr hb hx I (.cons rfl r) h))
  exact thn z fun _ _ y => ClX.unpinE y
def tKm (C : Addr) (sp : Sp) (E : L2.St → XK) (ta : TE) (t : TA) : TE := fun σ H Q => ta σ H fun x H1 => x = .ref C ∧ t σ H1 fun vs H2 => sp (.ref C :: vs) H2 Q (E σ)
theorem pe_km (he : PE X o ta) (c : KMet X.K C m f) (F : FnOk X.prog X.w X.K X.mg X.base CX k f fd ps sp) (hr : Room k X.A) (hb : Binds X.K fd ps []) (hx : ∀ σ, PassesAt CX X σ (E σ)) (ha : PA X (e :: es) t)
    (hst : starEach (e :: es) X.env = (false, eval e X.env) :: starEach es X.env := by rfl) (hpl : (backTo pos (starEach es X.env)).any (·.1) = false := by rfl)
    (ht : eval (.Call (.Attribute o m apos) (e :: es) [] pos) X.env = (do
      let ov ← eval o X.env
      standAt apos.atName
      let (f, first) ← holding [ov] (getMethod ov m pl)
      callWith pos f first (backTo pos (starEach (e :: es) X.env)) (backToKw pos (keywordEach [] X.env))) := by rfl) :
    PE X (.Call (.Attribute o m apos) (e :: es) [] pos) (tKm C sp E ta t) := by
  refine ⟨fun pins s σ H Q I h => ?_⟩
  refine PySem.W.methodCall_KW (pl := pl) (thn (he.run pins s σ H _ I h) fun u s1 ⟨x, H1, I1, rx, ex, q⟩ => ?_) ht
  subst ex
  obtain rfl : u = Value.ref C := rx
  obtain ⟨p, cm⟩ := c.at_
  refine ClX.getmethcm_ok I1 c.rd cm fun s2 I2 => ?_
  refine ClX.callwith_cm I2 (ClX.base_none I1 (Nat.le_refl _)) cm.fi (thn (ha.run pos _ s2 σ H1 _ I2 q) fun us s3 ⟨vs, H2, I3, rv, q2⟩ => ⟨⟨ClX.pin_at I3, I3.kIn⟩, ?_⟩) hst hpl
  exact run_kmS F hr hb (hx σ) I3 rv q2
end
def rK (C : Addr) : Unit → Pr := fun _ => ⟨fun v _ => v = .ref C, fun _ h => h⟩
section
variable {α β γ δ : Type} {X : Cx} {W : WX} {Γe Γ Γ' : Ctx} {lv : Bool} {e o a b c : Expr} {es : List Expr} {st : Stmt} {pos apos p2 p3 : Pos} {t : TE} {C f : Addr} {fd : FuncData} {ps : List Str} {k : Nat} {n : Str} {kr : RK γ} {mo : Mo Unit} {pl : Sem Bool}
theorem re_cls (hn : PE X e (tC (.ref C))) : RE X W Γ e (pure ()) (.fz (rK C)) := re_con (ρ := rK C) () hn (fun _ => rfl)
theorem re_sm0 {m : Unit → Mo γ} (ho : RE X W Γ o mo (.fz (rK C))) (c : SMet X.K C n f) (Fn : FnOk X.prog X.w X.K X.mg X.base (L2.CX X.prog X.w) k f fd ps (spR X.K X.mg (fun (_ : Unit) (_ : Unit) => []) m kr)) (hr : Room k X.A) (tk : Takes X W) (hb : Binds X.K fd ps [])
    (ht : eval (.Call (.Attribute o n apos) [] [] pos) X.env = (do
      let ov ← eval o X.env
      standAt apos.atName
      let (f, first) ← holding [ov] (getMethod ov n pl)
      callWith pos f first (backTo pos (starEach [] X.env)) (backToKw pos (keywordEach [] X.env))) := by rfl) :
    RE X W Γ (.Call (.Attribute o n apos) [] [] pos) (mo >>= m) kr := by
  refine re_of (pe_sm0 peE c Fn hr hb (fun σ => passAt tk σ) ht) fun G σ F H Q o q => ?_
  refine ho G σ F H _ o (mo.mono (fun x hx v F1 H1 o1 g1 z => ?_) (fun _ z => z) q)
  obtain rfl : v = .ref C := z
  refine ⟨rfl, ?_⟩
  exact run_spR (pp := fun (_ : Unit) (_ : Unit) => []) (i := ()) (y := x) o1 ⟨rfl, fun i en u h1 => by simp at h1, fun i l a q h1 => by simp at h1⟩ rfl (run_step g1 hx)
theorem re_km {ma : Mo β} {m : Unit × β → Mo γ} {pa : β → Ctx} {pp : β → Ctx} (ho : RE X W Γ o mo (.fz (rK C))) (c : KMet X.K C n f) (Fn : FnOk X.prog X.w X.K X.mg X.base (L2.CX X.prog X.w) k f fd ps (spR X.K X.mg (fun (_ : Unit) z => .fz (rK C z.1) :: pp z.2) m kr)) (hr : Room k X.A) (tk : Takes X W) (ha : RA X W Γ (e :: es) ma pa) (hb : Binds X.K fd ps [])
    (hpp : ∀ y, pa y = pp y := by intro _; rfl) (hap : ∀ x y, oneOwn (.fz (rK C x) :: pp y) = true := by intro _ _; rfl) (hst : starEach (e :: es) X.env = (false, eval e X.env) :: starEach es X.env := by rfl) (hpl : (backTo pos (starEach es X.env)).any (·.1) = false := by rfl)
    (ht : eval (.Call (.Attribute o n apos) (e :: es) [] pos) X.env = (do
      let ov ← eval o X.env
      standAt apos.atName
      let (f, first) ← holding [ov] (getMethod ov n pl)
      callWith pos f first (backTo pos (starEach (e :: es) X.env)) (backToKw pos (keywordEach [] X.env))) := by rfl) :
    RE X W Γ (.Call (.Attribute o n apos) (e :: es) [] pos) (mo >>= fun x => ma >>= fun y => m (x, y)) kr := by
  refine re_of (pe_km peE c Fn hr hb (fun σ => passAt tk σ) paA hst hpl ht) fun G σ F H Q o q => ?_
  refine ho G σ F H _ o (mo.mono (fun x hx v F1 H1 o1 g1 z => ?_) (fun _ z => z) q)
  obtain rfl : v = .ref C := z
  refine ⟨rfl, ?_⟩
  refine ha G σ F1 H1 _ o1 (ma.mono (fun y hy vs F' H' o' g' z => ?_) (fun _ => EQ.step g1) hx)
  rw [hpp y] at z
  exact run_spR (pp := fun (_ : Unit) z => .fz (rK C z.1) :: pp z.2) (i := ()) (y := (x, y)) o' (ra_both z rfl) (hap x y) (run_step (g1.trans g' owns_tr) hy)
theorem pe_cT {tp : Addr} (hn : PE X e (tC (.ref C))) (r : ClX.CRead X.K C (.type "type")) (h : PySem.W.findCls X.K (.ref C) (.type "type") n = some (.val (.ref tp))) (hb : attributeBase e n X.env (eval e X.env) = eval e X.env := by rfl) : PE X (.Attribute e n pos) (tC (.ref tp)) :=
  ⟨fun pins s σ H Q I q => (ClX.pe_cval hn hb).run pins s σ H Q I ⟨C, .type "type", .ref tp, .ref tp, rfl, r, ⟨h, rfl⟩, q⟩⟩
theorem rc_ninKE {ws : List Str} {ma : Mo Str} {tp : Addr} (hn : PE X e (tC (.ref tp))) (hk : KTup X.K tp (ws.map V.str)) (ha : RE X W Γ a ma (.fz rS)) : RC X W Γ .NotIn a e (ma >>= fun x => pure (!decide (x ∈ ws))) :=
  ⟨_, op_notIn_seq, fun G σ F H Q o q => ha G σ F H _ o (ma.mono (fun x hx v F' H' o' g' z => by
    obtain rfl : v = .str x := z
    refine tE_i fun pins s I => hn.run pins s σ H' _ I ?_
    refine ⟨tp, ws.map V.str, rfl, .inr (hk.sq _), rfl, by simp [flatV], ?_⟩
    have e3 : inV (.str x) (ws.map V.str) = decide (x ∈ ws) := by
      unfold inV
      rw [List.any_map]
      have : (fun y => L2.eqV y (.str x)) ∘ V.str = fun y => decide (V.str y = V.str x) := by funext y; exact eqV_str y x
      rw [this, anyS]
    show Q (.bl (!inV (.str x) (ws.map V.str))) _
    rw [e3]
    exact hx _ F' H' o' g' rfl) (fun _ z => z) q)⟩
theorem src_kts {F : Hp} {tp : Addr} {ws : List Str} (hk : KTup X.K tp (ws.map V.str)) : Src (Itt X.K tp) ws rS F := fun F2 H2 s1 s2 => by
  refine ⟨fun i hi => ⟨ws.map V.str, .str ws[i], hk.sq _, by simp [hi]⟩, ⟨ws.map V.str, hk.sq _, by simp⟩, fun i x v H3 hx y => ?_⟩
  obtain ⟨rfl, y⟩ := y
  have := y _ (hk.sq _)
  rw [List.getElem?_map, hx] at this
  exact ⟨F2, Go.refl s2, (Option.some.inj this).symm⟩
theorem rit_K {tp : Addr} {ws : List Str} (h : RTE X W Γ t mo (.fz (rK tp))) (hk : KTup X.K tp (ws.map V.str)) : RI X W Γ (iTup X.K t) (mo >>= fun _ => pure ws) rS := fun G σ F H R o q => by
  refine h G σ F H _ o (mo.mono (fun _ hx v F' H' o' g' z => ?_) (fun _ z => z) q)
  obtain rfl : v = .ref tp := z
  exact ⟨tp, rfl, ⟨ws.map V.str, hk.sq _⟩, hx _ F' H' o' g' (src_kts hk)⟩
theorem re_boolB {p : Pos} {mb : Mo Bool} (h : RE X W Γ e mb (.fz rB)) (hm : X.mg "bool" = none) (hg : Gl X "bool" := by rfl) (he : starEach [e] X.env = [(false, eval e X.env)] := by rfl) : RE X W Γ (.Call (.Name "bool" p) [e] [] pos) (mb >>= fun c => pure c) (.fz rB) :=
  re_of (pe_callTy (T := "bool") call_bool1 hg hm (by decide +kernel) (pa_cons peE pa_nil he) (by decide) (by decide) he rfl) fun G σ F H Q o q => h G σ F H _ o (mb.mono (fun c hx v F' H' o' g' z => by
    obtain rfl : v = .bl c := z
    exact .inr ⟨c, rfl, hx _ F' H' o' g' rfl⟩) (fun _ z => z) q)
end
end RF
namespace DD
open PySem L2
/-! the text by its places -/
def topS (i : Nat) : Stmt := PySem.Challenge.pw_depotday_k73_rule_texts.main.body.getD i (.Pass ⟨0, 0, 0, 0⟩)
abbrev sBadRuleInit : Stmt := inClass (topS 4) 0
abbrev spasses : Stmt := topS 6
abbrev slastknown : Stmt := topS 10
abbrev sathome : Stmt := topS 11
abbrev scomingpages : Stmt := topS 12
abbrev smustcome : Stmt := topS 13
abbrev smaycome : Stmt := topS 14
abbrev sisnews : Stmt := topS 15
abbrev squeuewith : Stmt := topS 16
abbrev squeueafter : Stmt := topS 17
abbrev sbarindexes : Stmt := topS 19
abbrev scanrun : Stmt := topS 20
abbrev scountsafter : Stmt := topS 21
abbrev sispatient : Stmt := topS 22
abbrev schargeable : Stmt := topS 23
abbrev schargecount : Stmt := topS 24
abbrev spicked : Stmt := topS 26
abbrev sRuleInit : Stmt := inClass (topS 27) 1
abbrev sRuleEvery : Stmt := inClass (topS 27) 2
abbrev sRuleParse : Stmt := inClass (topS 27) 3
abbrev sRuleEq : Stmt := inClass (topS 27) 4
abbrev sRuleStr : Stmt := inClass (topS 27) 5
abbrev sRuleSent : Stmt := inClass (topS 27) 6
abbrev sRuleCharged : Stmt := inClass (topS 27) 7
abbrev sRuleCall : Stmt := inClass (topS 27) 8
abbrev sLcell : Stmt := topS 29
abbrev sLpool : Stmt := topS 30
abbrev sLtake : Stmt := topS 31
abbrev sLsame : Stmt := topS 32
abbrev sLchar : Stmt := topS 33
abbrev sLwritten : Stmt := topS 34
abbrev sLtext : Stmt := topS 35
abbrev sLparsed : Stmt := topS 36
abbrev sLis : Stmt := topS 37
abbrev sLreads : Stmt := topS 38
abbrev sLrow : Stmt := topS 39
abbrev sLaw : Stmt := topS 40
/-- what the top has written, as the walks ask for it -/
structure Tx (K : PySem.W.Frag) (mg : Str → Option Value) where
  z_ValueError : mg "ValueError" = none
  z_abs : mg "abs" = none
  z_all : mg "all" = none
  z_bool : mg "bool" = none
  z_classmethod : mg "classmethod" = none
  z_enumerate : mg "enumerate" = none
  z_int : mg "int" = none
  z_isinstance : mg "isinstance" = none
  z_len : mg "len" = none
  z_list : mg "list" = none
  z_max : mg "max" = none
  z_min : mg "min" = none
  z_range : mg "range" = none
  z_set : mg "set" = none
  z_sorted : mg "sorted" = none
  z_staticmethod : mg "staticmethod" = none
  z_str : mg "str" = none
  z_tuple : mg "tuple" = none
  z_zip : mg "zip" = none
  C_Rule : Addr
  g_Rule : mg "Rule" = some (.ref C_Rule)
  cl_Rule : Cls K C_Rule
  na_Rule_send_word : NoAttr K C_Rule "send_word"
  na_Rule_charge_word : NoAttr K C_Rule "charge_word"
  fBadRule_init : Addr
  dBadRule_init : FuncData
  FBadRule_init : Fun K "__init__" "BadRule.__init__" sBadRuleInit fBadRule_init dBadRule_init
  bBadRule_init : Binds K dBadRule_init ["self", "part"] []
  fpasses : Addr
  dpasses : FuncData
  Fpasses : Fun K "passes" "passes" spasses fpasses dpasses
  bpasses : Binds K dpasses ["lasts", "orders", "bars"] []
  gpasses : mg "passes" = some (.ref fpasses)
  flast_known : Addr
  dlast_known : FuncData
  Flast_known : Fun K "last_known" "last_known" slastknown flast_known dlast_known
  blast_known : Binds K dlast_known ["depot", "line"] []
  glast_known : mg "last_known" = some (.ref flast_known)
  fat_home : Addr
  dat_home : FuncData
  Fat_home : Fun K "at_home" "at_home" sathome fat_home dat_home
  bat_home : Binds K dat_home ["depot", "vehicles"] []
  gat_home : mg "at_home" = some (.ref fat_home)
  fcoming_pages : Addr
  dcoming_pages : FuncData
  Fcoming_pages : Fun K "coming_pages" "coming_pages" scomingpages fcoming_pages dcoming_pages
  bcoming_pages : Binds K dcoming_pages ["book", "standing"] []
  gcoming_pages : mg "coming_pages" = some (.ref fcoming_pages)
  fmust_come : Addr
  dmust_come : FuncData
  Fmust_come : Fun K "must_come" "must_come" smustcome fmust_come dmust_come
  bmust_come : Binds K dmust_come ["day", "standing"] []
  gmust_come : mg "must_come" = some (.ref fmust_come)
  fmay_come : Addr
  dmay_come : FuncData
  Fmay_come : Fun K "may_come" "may_come" smaycome fmay_come dmay_come
  bmay_come : Binds K dmay_come ["standing"] []
  gmay_come : mg "may_come" = some (.ref fmay_come)
  fis_news : Addr
  dis_news : FuncData
  Fis_news : Fun K "is_news" "is_news" sisnews fis_news dis_news
  bis_news : Binds K dis_news ["day", "standing", "news"] []
  gis_news : mg "is_news" = some (.ref fis_news)
  fqueue_with : Addr
  dqueue_with : FuncData
  Fqueue_with : Fun K "queue_with" "queue_with" squeuewith fqueue_with dqueue_with
  bqueue_with : Binds K dqueue_with ["day", "standing", "came"] []
  gqueue_with : mg "queue_with" = some (.ref fqueue_with)
  fqueue_after : Addr
  dqueue_after : FuncData
  Fqueue_after : Fun K "queue_after" "queue_after" squeueafter fqueue_after dqueue_after
  bqueue_after : Binds K dqueue_after ["day", "standing", "news"] []
  gqueue_after : mg "queue_after" = some (.ref fqueue_after)
  fbar_indexes : Addr
  dbar_indexes : FuncData
  Fbar_indexes : Fun K "bar_indexes" "bar_indexes" sbarindexes fbar_indexes dbar_indexes
  bbar_indexes : Binds K dbar_indexes ["depot"] []
  gbar_indexes : mg "bar_indexes" = some (.ref fbar_indexes)
  fcan_run : Addr
  dcan_run : FuncData
  Fcan_run : Fun K "can_run" "can_run" scanrun fcan_run dcan_run
  bcan_run : Binds K dcan_run ["day", "vehicle", "line"] []
  gcan_run : mg "can_run" = some (.ref fcan_run)
  fcounts_after : Addr
  dcounts_after : FuncData
  Fcounts_after : Fun K "counts_after" "counts_after" scountsafter fcounts_after dcounts_after
  bcounts_after : Binds K dcounts_after ["day", "queue", "lines", "sent"] []
  gcounts_after : mg "counts_after" = some (.ref fcounts_after)
  fis_patient : Addr
  dis_patient : FuncData
  Fis_patient : Fun K "is_patient" "is_patient" sispatient fis_patient dis_patient
  bis_patient : Binds K dis_patient ["day", "queue", "lines", "sent"] []
  gis_patient : mg "is_patient" = some (.ref fis_patient)
  fchargeable : Addr
  dchargeable : FuncData
  Fchargeable : Fun K "chargeable" "chargeable" schargeable fchargeable dchargeable
  bchargeable : Binds K dchargeable ["day", "queue", "sent"] []
  gchargeable : mg "chargeable" = some (.ref fchargeable)
  fcharge_count : Addr
  dcharge_count : FuncData
  Fcharge_count : Fun K "charge_count" "charge_count" schargecount fcharge_count dcharge_count
  bcharge_count : Binds K dcharge_count ["day", "queue", "sent"] []
  gcharge_count : mg "charge_count" = some (.ref fcharge_count)
  fpicked : Addr
  dpicked : FuncData
  Fpicked : Fun K "picked" "picked" spicked fpicked dpicked
  bpicked : Binds K dpicked ["word", "queue", "places"] []
  gpicked : mg "picked" = some (.ref fpicked)
  fRule_init : Addr
  dRule_init : FuncData
  FRule_init : Fun K "__init__" "Rule.__init__" sRuleInit fRule_init dRule_init
  bRule_init : Binds K dRule_init ["self", "send_word", "charge_word"] []
  M_Rule : Mk K C_Rule fRule_init
  fRule_every : Addr
  dRule_every : FuncData
  FRule_every : Fun K "every" "Rule.every" sRuleEvery fRule_every dRule_every
  bRule_every : Binds K dRule_every [] []
  m_Rule_every : RF.SMet K C_Rule "every" fRule_every
  fRule_parse : Addr
  dRule_parse : FuncData
  FRule_parse : Fun K "parse" "Rule.parse" sRuleParse fRule_parse dRule_parse
  bRule_parse : Binds K dRule_parse ["cls", "text"] []
  m_Rule_parse : RF.KMet K C_Rule "parse" fRule_parse
  fRule_eq : Addr
  dRule_eq : FuncData
  FRule_eq : Fun K "__eq__" "Rule.__eq__" sRuleEq fRule_eq dRule_eq
  bRule_eq : Binds K dRule_eq ["self", "other"] []
  m_Rule_eq : Meth K C_Rule "__eq__" fRule_eq
  fRule_str : Addr
  dRule_str : FuncData
  FRule_str : Fun K "__str__" "Rule.__str__" sRuleStr fRule_str dRule_str
  bRule_str : Binds K dRule_str ["self"] []
  m_Rule_str : Meth K C_Rule "__str__" fRule_str
  fRule_sent : Addr
  dRule_sent : FuncData
  FRule_sent : Fun K "_sent" "Rule._sent" sRuleSent fRule_sent dRule_sent
  bRule_sent : Binds K dRule_sent ["self", "day", "queue", "lines"] []
  m_Rule_sent : Meth K C_Rule "_sent" fRule_sent
  fRule_charged : Addr
  dRule_charged : FuncData
  FRule_charged : Fun K "_charged" "Rule._charged" sRuleCharged fRule_charged dRule_charged
  bRule_charged : Binds K dRule_charged ["self", "day", "queue", "sent"] []
  m_Rule_charged : Meth K C_Rule "_charged" fRule_charged
  fRule_call : Addr
  dRule_call : FuncData
  FRule_call : Fun K "__call__" "Rule.__call__" sRuleCall fRule_call dRule_call
  bRule_call : Binds K dRule_call ["self", "day", "standing", "news"] []
  m_Rule_call : Meth K C_Rule "__call__" fRule_call
  f_law_cell : Addr
  d_law_cell : FuncData
  F_law_cell : Fun K "_law_cell" "_law_cell" sLcell f_law_cell d_law_cell
  b_law_cell : Binds K d_law_cell ["_law_script", "_law_k"] []
  g_law_cell : mg "_law_cell" = some (.ref f_law_cell)
  f_law_pool : Addr
  d_law_pool : FuncData
  F_law_pool : Fun K "_law_pool" "_law_pool" sLpool f_law_pool d_law_pool
  b_law_pool : Binds K d_law_pool ["_law_script", "_law_k"] []
  g_law_pool : mg "_law_pool" = some (.ref f_law_pool)
  f_law_take : Addr
  d_law_take : FuncData
  F_law_take : Fun K "_law_take" "_law_take" sLtake f_law_take d_law_take
  b_law_take : Binds K d_law_take ["_law_pool_here", "_law_many"] []
  g_law_take : mg "_law_take" = some (.ref f_law_take)
  f_law_same : Addr
  d_law_same : FuncData
  F_law_same : Fun K "_law_same" "_law_same" sLsame f_law_same d_law_same
  b_law_same : Binds K d_law_same ["_law_got", "_law_due"] []
  g_law_same : mg "_law_same" = some (.ref f_law_same)
  f_law_char : Addr
  d_law_char : FuncData
  F_law_char : Fun K "_law_char" "_law_char" sLchar f_law_char d_law_char
  b_law_char : Binds K d_law_char ["_law_place"] []
  g_law_char : mg "_law_char" = some (.ref f_law_char)
  f_law_written : Addr
  d_law_written : FuncData
  F_law_written : Fun K "_law_written" "_law_written" sLwritten f_law_written d_law_written
  b_law_written : Binds K d_law_written ["_law_first", "_law_second"] []
  g_law_written : mg "_law_written" = some (.ref f_law_written)
  f_law_text : Addr
  d_law_text : FuncData
  F_law_text : Fun K "_law_text" "_law_text" sLtext f_law_text d_law_text
  b_law_text : Binds K d_law_text ["_law_pool_here", "_law_first", "_law_second"] []
  g_law_text : mg "_law_text" = some (.ref f_law_text)
  f_law_parsed : Addr
  d_law_parsed : FuncData
  F_law_parsed : Fun K "_law_parsed" "_law_parsed" sLparsed f_law_parsed d_law_parsed
  b_law_parsed : Binds K d_law_parsed ["_law_text_here"] []
  g_law_parsed : mg "_law_parsed" = some (.ref f_law_parsed)
  f_law_is : Addr
  d_law_is : FuncData
  F_law_is : Fun K "_law_is" "_law_is" sLis f_law_is d_law_is
  b_law_is : Binds K d_law_is ["_law_rule", "_law_first", "_law_second"] []
  g_law_is : mg "_law_is" = some (.ref f_law_is)
  f_law_reads : Addr
  d_law_reads : FuncData
  F_law_reads : Fun K "_law_reads" "_law_reads" sLreads f_law_reads d_law_reads
  b_law_reads : Binds K d_law_reads ["_law_text_here", "_law_words"] []
  g_law_reads : mg "_law_reads" = some (.ref f_law_reads)
  f_law_row : Addr
  d_law_row : FuncData
  F_law_row : Fun K "_law_row" "_law_row" sLrow f_law_row d_law_row
  b_law_row : Binds K d_law_row ["_law_words"] []
  g_law_row : mg "_law_row" = some (.ref f_law_row)
  flaw : Addr
  dlaw : FuncData
  Flaw : Fun K "law" "law" sLaw flaw dlaw
  blaw : Binds K dlaw ["_law_script"] []
  glaw : mg "law" = some (.ref flaw)
  C_DepotError : Addr
  g_DepotError : mg "DepotError" = some (.ref C_DepotError)
  C_NoNews : Addr
  g_NoNews : mg "NoNews" = some (.ref C_NoNews)
  C_BadCable : Addr
  g_BadCable : mg "BadCable" = some (.ref C_BadCable)
  C_BadRule : Addr
  g_BadRule : mg "BadRule" = some (.ref C_BadRule)
  ty_DepotError : PySem.W.typeIn K (.ref C_DepotError) = some (.type "type")
  bs_DepotError : PySem.W.subIn K (.ref C_DepotError) (.type "BaseException") = some true
  hd_DepotError : PySem.W.hasDictIn K C_DepotError = true
  ty_NoNews : PySem.W.typeIn K (.ref C_NoNews) = some (.type "type")
  bs_NoNews : PySem.W.subIn K (.ref C_NoNews) (.type "BaseException") = some true
  hd_NoNews : PySem.W.hasDictIn K C_NoNews = true
  ty_BadCable : PySem.W.typeIn K (.ref C_BadCable) = some (.type "type")
  bs_BadCable : PySem.W.subIn K (.ref C_BadCable) (.type "BaseException") = some true
  hd_BadCable : PySem.W.hasDictIn K C_BadCable = true
  ty_BadRule : PySem.W.typeIn K (.ref C_BadRule) = some (.type "type")
  bs_BadRule : PySem.W.subIn K (.ref C_BadRule) (.type "BaseException") = some true
  hd_BadRule : PySem.W.hasDictIn K C_BadRule = true
  kp_BadRule : PySem.W.keepIn K (.ref C_BadRule) = true
  ga_BadRule : PySem.W.findIn K (.ref C_BadRule) "__getattribute__" = some (some (.builtin "BaseException.__getattribute__"))
  gg_BadRule : PySem.W.findIn K (.ref C_BadRule) "__getattr__" = some none
  cl_BadRule : PySem.W.findIn K (.ref C_BadRule) "__class__" = some (some (.builtin "object.__class__"))
  mr_BadRule : PySem.W.mroIn K C_BadRule (.type "object") = some true
  sb_BadRule_ValueError : PySem.W.subIn K (.ref C_BadRule) (.type "ValueError") = some true
  sb_BadRule_BadCable : PySem.W.subIn K (.ref C_BadRule) (.ref C_BadCable) = some false
  sb_BadRule_BadRule : PySem.W.subIn K (.ref C_BadRule) (.ref C_BadRule) = some true
  sb_BadRule_DepotError : PySem.W.subIn K (.ref C_BadRule) (.ref C_DepotError) = some true
  no_BadRule_part : PySem.W.findIn K (.ref C_BadRule) "part" = some none
  sa_BadRule : PySem.W.findIn K (.ref C_BadRule) "__setattr__" = some (some (.builtin "object.__setattr__"))
  kp_NoNews : PySem.W.keepIn K (.ref C_NoNews) = true
  ga_NoNews : PySem.W.findIn K (.ref C_NoNews) "__getattribute__" = some (some (.builtin "BaseException.__getattribute__"))
  gg_NoNews : PySem.W.findIn K (.ref C_NoNews) "__getattr__" = some none
  cl_NoNews : PySem.W.findIn K (.ref C_NoNews) "__class__" = some (some (.builtin "object.__class__"))
  mr_NoNews : PySem.W.mroIn K C_NoNews (.type "object") = some true
  sb_NoNews_ValueError : PySem.W.subIn K (.ref C_NoNews) (.type "ValueError") = some true
  sb_NoNews_BadCable : PySem.W.subIn K (.ref C_NoNews) (.ref C_BadCable) = some false
  sb_NoNews_BadRule : PySem.W.subIn K (.ref C_NoNews) (.ref C_BadRule) = some false
  sb_NoNews_DepotError : PySem.W.subIn K (.ref C_NoNews) (.ref C_DepotError) = some true
  xo_NoNews : PySem.W.excIn K C_NoNews [.type "ValueError", .type "Exception", .type "BaseException", .type "object"] "ValueError.__new__" = true
  sp_class : PySem.W.specialIn K (.builtin "object.__class__") "__get__" = some (some (.builtin "getset_descriptor.__get__"))
  tk_class : PySem.W.takesIn K (.builtin "object.__class__") = some true
  ic_Rule : PySem.W.findIn K (.ref C_Rule) "__class__" = some (some (.builtin "object.__class__"))
  mr_Rule : PySem.W.mroIn K C_Rule (.type "object") = some true
  ity_Rule : PySem.W.typeIn K (.ref C_Rule) = some (.type "type")
  isb_Rule : PySem.W.subIn K (.ref C_Rule) (.ref C_Rule) = some true
  ihd_Rule : PySem.W.hasDictIn K C_Rule = true
  rd_Rule : PySem.W.readsIn K C_Rule (.type "type") = true
  ga_Rule : PySem.W.specialIn K (.ref C_Rule) "__getattribute__" = some (some (.builtin "type.__getattribute__"))
  t_Rule_WORDS : Addr
  kc_Rule_WORDS : PySem.W.findCls K (.ref C_Rule) (.type "type") "WORDS" = some (.val (.ref t_Rule_WORDS))
  kt_Rule_WORDS : RF.KTup K t_Rule_WORDS ((["first", "last", "fullest", "emptiest"] : List Str).map V.str)
  ox_BadRule : OexC K C_BadRule
  ni_BadRule : PySem.W.findIn K (.ref C_BadRule) "__init__" = some (some (.ref fBadRule_init))
  ti_BadRule : PySem.W.typeIn K (.ref fBadRule_init) = some (.type "function")
end DD
namespace DD
open PySem PySem.Spec PyProof.Rows L2 KO SX RF
section
variable {P : Program} {w : World} {K : PySem.W.Frag} {mg : Str → Option Value} {base : Heap}
/-! ### cell, pool, take -/
def spCell (K : PySem.W.Frag) : Sp := fun vs H Q _ => ∃ (a : Addr) (ns : List Int) (k : Nat), vs = [.ref a, .int k] ∧ SqL K H a (ns.map V.int) ∧ ∀ i : Int, Q (.int i) H
theorem scCell : FnScope ["_law_script", "_law_k"] ["_law_script", "_law_k"] (defScope sLcell) := ⟨rfl, rfl, rfl, by decide +kernel, rfl, by decide +kernel, by decide +kernel⟩
theorem ok_cell (T : Tx K mg) : FnOk P w K mg base CX0 1 T.f_law_cell T.d_law_cell ["_law_script", "_law_k"] (spCell K) := by
  refine T.F_law_cell.ok scCell (fun vs H Q E h => ?_) (fun cdv A outer s H vs Q E hr h => ?_)
  · obtain ⟨a, ns, k, rfl, _⟩ := h
    rfl
  · obtain ⟨a, ns, k, rfl, hS, q⟩ := h
    refine ⟨_, pss_cons (ps_if (pt_cmpR op_lt (pv 1) (pe_callB call_len_seq (by rfl) T.z_len (by decide +kernel) (pa_cons (pv 0) pa_nil)) (nomark _)) (pss_one (ps_ret (pe_callB call_abs (by rfl) T.z_abs (by decide +kernel) (pa_cons (pe_ix ix_list (pv 0) (pv 1) (fun _ _ => rfl)) pa_nil)))) (pss_nil))
      (pss_one (ps_ret pe_int)), ?_⟩
    refine ⟨_, rfl, _, rfl, a, _, rfl, .inl hS, _, _, rfl, rfl, _, rfl, iteDs (fun h => ?_) (fun _ => q _)⟩
    have hk : k < ns.length := by
      rw [List.length_map] at h
      omega
    refine ⟨_, rfl, _, rfl, a, _, _, .int ns[k], rfl, rfl, hS, atI_nat (by rw [List.getElem?_map, List.getElem?_eq_getElem hk]; rfl), _, rfl, q _⟩
theorem scPool : FnScope ["_law_script", "_law_k", "_law_cell_here"] ["_law_script", "_law_k"] (defScope sLpool) := ⟨rfl, rfl, rfl, by decide +kernel, rfl, by decide +kernel, by decide +kernel⟩
theorem ok_pool (T : Tx K mg) : FnOk P w K mg base CX0 2 T.f_law_pool T.d_law_pool ["_law_script", "_law_k"] (spPool K) := by
  have G_law_cell := ok_cell (P := P) (w := w) (base := base) T
  refine T.F_law_pool.ok scPool (fun vs H Q E h => ?_) (fun cdv A outer s H vs Q E hr h => ?_)
  · obtain ⟨a, ns, k, rfl, _⟩ := h
    rfl
  · obtain ⟨a, ns, k, rfl, hS, hk, q⟩ := h
    refine ⟨_, pss_cons (ps_set (i := 2) scPool.nd rfl (.inl rfl) (pe_call G_law_cell hr (by rfl) T.g_law_cell T.F_law_cell.kp T.b_law_cell .nil pass0 (pa_cons (pv 0) (pa_cons (pv 1) pa_nil))))
      (pss_one (ps_ret (pe_lst (pa_cons (pv 2) (pa_cons (pe_callTy call_int1 (by rfl) T.z_int (by decide +kernel) (pa_cons (pe_cmpR op_ge (pv 2) (pe_op op_pow pe_int pe_int) (nomark _)) pa_nil)) (pa_cons (pe_op op_mul pe_int (pv 1)) pa_nil)))))), ?_⟩
    refine ⟨_, rfl, _, rfl, a, ns, k, rfl, hS, fun i => ?_⟩
    refine ⟨_, rfl, _, rfl, _, _, rfl, rfl, ⟨by decide, by decide, by decide⟩, _, _, rfl, rfl, .inr ⟨_, rfl, _, rfl, _, _, rfl, rfl, .inl ⟨by decide, by decide⟩, (by show 3 ≤ sizeLine; decide), fun p hp => ?_⟩⟩
    exact q _ p hp (same_upd hp) ⟨_, _, _, upd_same⟩
theorem scTake : FnScope ["_law_pool_here", "_law_many", "_law_drawn", "_law_mixed"] ["_law_pool_here", "_law_many"] (defScope sLtake) := ⟨rfl, rfl, rfl, by decide +kernel, rfl, by decide +kernel, by decide +kernel⟩
theorem mulOk {i j : Int} (h : 0 ≤ j) (h2 : j < 1000000) : CMul i j := .inr ⟨by omega, by omega⟩
/-- a remainder as a letter -/
theorem rmod {i j : Int} {R : Int → Prop} (hj : 0 < j) (q : ∀ r : Int, 0 ≤ r → r < j → R r) : ∃ r : Int, i % j = r ∧ 0 ≤ r ∧ r < j ∧ R r :=
  ⟨i % j, rfl, Int.emod_nonneg _ (by omega), Int.emod_lt_of_pos _ hj, q _ (Int.emod_nonneg _ (by omega)) (Int.emod_lt_of_pos _ hj)⟩
theorem emod_b (i : Int) {j : Int} (hj : 0 < j) : 0 ≤ i % j ∧ i % j < j := ⟨Int.emod_nonneg _ (by omega), Int.emod_lt_of_pos _ hj⟩
theorem ok_take (T : Tx K mg) : FnOk P w K mg base CX0 1 T.f_law_take T.d_law_take ["_law_pool_here", "_law_many"] spTake := by
  refine T.F_law_take.ok scTake (fun vs H Q E h => ?_) (fun cdv A outer s H vs Q E hr h => ?_)
  · obtain ⟨p, m, rfl, _⟩ := h
    rfl
  · obtain ⟨p, m, rfl, ⟨x, f, c, hp⟩, hm, hm2, q⟩ := h
    refine ⟨_, pss_cons (ps_if (PW.pt (pw_and (pt_cmpR op_eq (pe_ix ix_list (pv 0) pe_int (fun _ _ => rfl)) pe_int (nomark _)) (pw_and1 (pt_cmpR op_gt (pe_ix ix_list (pv 0) pe_int (fun _ _ => rfl)) pe_int (nomark _))))) (pss_cons (ps_set (i := 2) scTake.nd rfl (.inl rfl) (pe_op op_mod (pe_callTy call_int1 (by rfl) T.z_int (by decide +kernel) (pa_cons (pe_ix ix_list (pv 0) pe_int (fun _ _ => rfl)) pa_nil)) (pv 1)))
      (pss_cons (ps_asg (pe_op op_fdivW (pe_ix ix_list (pv 0) pe_int (fun _ _ => rfl)) (pv 1)) (pg_sub (pv 0) pe_int set_list))
      (pss_one (ps_ret (pv 2))))) (pss_nil))
      (pss_cons (ps_asg (pe_op op_add (pe_ix ix_list (pv 0) pe_int (fun _ _ => rfl)) pe_int) (pg_sub (pv 0) pe_int set_list))
      (pss_cons (ps_set (i := 3) scTake.nd rfl (.inl rfl) (pe_op op_mod (pe_callTy call_int1 (by rfl) T.z_int (by decide +kernel) (pa_cons (pe_op op_add (pe_op op_mul (pe_op op_add (pe_ix ix_list (pv 0) pe_int (fun _ _ => rfl)) pe_int) pe_int) (pe_op op_mul (pe_ix ix_list (pv 0) pe_int (fun _ _ => rfl)) pe_int)) pa_nil)) pe_int))
      (pss_cons (ps_set (i := 3) scTake.nd rfl (.inl rfl) (pe_op op_mod (pe_callTy call_int1 (by rfl) T.z_int (by decide +kernel) (pa_cons (pe_op op_add (pe_op op_mul (pv 3) pe_int) (pe_op op_mul (pe_ix ix_list (pv 0) pe_int (fun _ _ => rfl)) pe_int)) pa_nil)) pe_int))
      (pss_cons (ps_if (pt_cmpR op_gt (pe_ix ix_list (pv 0) pe_int (fun _ _ => rfl)) pe_int (nomark _)) (pss_one (ps_set (i := 3) scTake.nd rfl (.inl rfl) (pe_op op_mod (pe_callTy call_int1 (by rfl) T.z_int (by decide +kernel) (pa_cons (pe_op op_mul (pe_op op_fdiv (pv 3) pe_int) (pe_op op_add (pe_op op_add (pe_op op_fdiv (pv 3) pe_int) (pe_ix ix_list (pv 0) pe_int (fun _ _ => rfl))) pe_int)) pa_nil)) pe_int))) (pss_nil))
      (pss_one (ps_ret (pe_op op_mod (pe_callTy call_int1 (by rfl) T.z_int (by decide +kernel) (pa_cons (pe_op op_fdiv (pv 3) pe_int) pa_nil)) (pv 1)))))))), ?_⟩
    have hL := SqL.of (K := K) hp
    -- pool[1] == 1 and pool[0] > 1
    refine ⟨_, rfl, p, _, _, _, rfl, rfl, hL, rfl, rfl, _, rfl, ?_⟩
    refine iteDs (fun h1 => ⟨_, rfl, p, _, _, _, rfl, rfl, hL, rfl, _, _, rfl, rfl, _, rfl, iteDs (fun h2 => ?c) (fun _ => ?t1)⟩) (fun _ => ?t2)
    case c =>
      refine ⟨_, rfl, p, _, _, _, rfl, rfl, hL, rfl, .inl ⟨_, rfl, _, rfl, _, _, rfl, rfl, hm, ?_⟩⟩
      have hb := emod_b x hm
      refine ⟨_, rfl, p, _, _, _, rfl, rfl, hL, rfl, _, rfl, _, _, rfl, rfl, wide_div (b := 60) hm (by omega) (by decide) (by decide), _, rfl, p, _, _, _, rfl, rfl, hp, rfl, ?_⟩
      exact ⟨_, rfl, q _ _ hb.1 hb.2 ⟨But.put, _, _, _, upd_same⟩⟩
    all_goals
      refine ⟨_, rfl, p, _, _, _, rfl, rfl, hL, rfl, _, _, rfl, rfl, _, rfl, p, _, _, _, rfl, rfl, hp, rfl, ?_⟩
      have hp1 : (upd H p (.lst (([.int x, .int f, .int c] : List V).set 2 (.int (c + 1))))) p = some (.lst [.int x, .int f, .int (c + 1)]) := upd_same
      have hL1 := SqL.of (K := K) hp1
      refine ⟨_, rfl, p, _, _, _, rfl, rfl, hL1, rfl, _, _, rfl, rfl, _, _, rfl, rfl, mulOk (by decide) (by decide), _, rfl, p, _, _, _, rfl, rfl, hL1, rfl, _, _, rfl, rfl, mulOk (by decide) (by decide), _, _, rfl, rfl, .inl ⟨_, rfl, _, _, rfl, rfl, (show (0 : Int) < 2147483629 by decide), ?_⟩⟩
      refine ⟨_, rfl, _, _, rfl, rfl, mulOk (by decide) (by decide), _, rfl, p, _, _, _, rfl, rfl, hL1, rfl, _, _, rfl, rfl, mulOk (by decide) (by decide), _, _, rfl, rfl, .inl ⟨_, rfl, _, _, rfl, rfl, (show (0 : Int) < 2147483587 by decide), ?_⟩⟩
      refine ⟨_, rfl, p, _, _, _, rfl, rfl, hL1, rfl, _, _, rfl, rfl, _, rfl, iteDs (fun _ => ?_) (fun _ => ?_)⟩
      · refine ⟨_, rfl, _, _, rfl, rfl, ⟨by decide, by decide⟩, _, rfl, _, _, rfl, rfl, ⟨by decide, by decide⟩, _, rfl, p, _, _, _, rfl, rfl, hL1, rfl, _, _, rfl, rfl, _, _, rfl, rfl, _, _, rfl, rfl, .inl ⟨by omega, by omega⟩, .inl ⟨_, rfl, _, _, rfl, rfl, (show (0 : Int) < 2147483563 by decide), ?_⟩⟩
        refine ⟨_, rfl, _, _, rfl, rfl, ⟨by decide, by decide⟩, .inl ⟨_, rfl, _, rfl, _, _, rfl, rfl, hm, ?_⟩⟩
        exact q _ _ (emod_b _ hm).1 (emod_b _ hm).2 ⟨But.put, _, _, _, hp1⟩
      · refine ⟨_, rfl, _, _, rfl, rfl, ⟨by decide, by decide⟩, .inl ⟨_, rfl, _, rfl, _, _, rfl, rfl, hm, ?_⟩⟩
        exact q _ _ (emod_b _ hm).1 (emod_b _ hm).2 ⟨But.put, _, _, _, hp1⟩
end
end DD
namespace DD
open PySem PySem.Spec PyProof.Rows L2 KO SX RF
section
variable {P : Program} {w : World} {K : PySem.W.Frag} {mg : Str → Option Value} {base : Heap}
def spSame (n : Nat) : Sp := fun vs H Q _ => ∃ (u v : V) (d : PyData), vs = [u, v] ∧ Dt n H u d ∧ Dt n H v d ∧ Q (.bl true) H
theorem scSame : FnScope ["_law_got", "_law_due", "_law_k"] ["_law_got", "_law_due"] (defScope sLsame) := ⟨rfl, rfl, rfl, by decide +kernel, rfl, by decide +kernel, by decide +kernel⟩
theorem ok_same (T : Tx K mg) : ∀ n : Nat, FnOk P w K mg base CX0 n T.f_law_same T.d_law_same ["_law_got", "_law_due"] (spSame n)
  | 0 => ⟨fun vs H Q E ⟨u, v, d, _, h, _⟩ => h.elim, fun A outer s H args us vs Q E _ _ _ _ ⟨u, v, d, _, h, _⟩ => h.elim⟩
  | n + 1 => by
    have G_law_same := ok_same T n
    refine T.F_law_same.ok scSame (fun vs H Q E h => ?_) (fun cdv A outer s H vs Q E hr h => ?_)
    · obtain ⟨u, v, d, rfl, _⟩ := h
      rfl
    · obtain ⟨u, v, d, rfl, hR, hR2, q⟩ := h
      cases d with
      | dict kv => exact hR.elim
      | bool i =>
        obtain rfl : u = _ := hR
        obtain rfl : v = _ := hR2
        refine ⟨_, pss_cons (ps_if (PW.pt (pw_or (pt_val (pe_callB call_isi (by rfl) T.z_isinstance (by decide +kernel) (pa_cons (pv 0) (pa_cons (pe_bltn (v := .ty "bool") (by rfl) T.z_bool (by decide +kernel) rfl) pa_nil)))) (pw_or1 (pt_val (pe_callB call_isi (by rfl) T.z_isinstance (by decide +kernel) (pa_cons (pv 1) (pa_cons (pe_bltn (v := .ty "bool") (by rfl) T.z_bool (by decide +kernel) rfl) pa_nil))))))) (pss_one (ps_ret (pe_and (pe_callB call_isi (by rfl) T.z_isinstance (by decide +kernel) (pa_cons (pv 0) (pa_cons (pe_bltn (v := .ty "bool") (by rfl) T.z_bool (by decide +kernel) rfl) pa_nil))) (pe_and (pe_callB call_isi (by rfl) T.z_isinstance (by decide +kernel) (pa_cons (pv 1) (pa_cons (pe_bltn (v := .ty "bool") (by rfl) T.z_bool (by decide +kernel) rfl) pa_nil))) (pe_one (pe_cmpR op_eq (pv 0) (pv 1) (nomark _))))))) (pss_nil)) (pss_cons ps_never (pss_cons ps_never (pss_cons ps_never (pss_cons ps_never (pss_cons ps_never (pss_cons ps_never (pss_cons ps_never (pss_one ps_never)))))))), ?_⟩
        refine ⟨_, rfl, _, _, _, _, _, rfl, .ty _, (.base (.bl i)), kit_ty (by decide +kernel), ⟨_, rfl, iteT (iteT ?_)⟩⟩
        refine ⟨_, rfl, _, _, _, _, _, rfl, .ty _, (.base (.bl i)), kit_ty (by decide +kernel), ⟨_, rfl, iteT ⟨_, rfl, _, _, _, _, _, rfl, .ty _, (.base (.bl i)), kit_ty (by decide +kernel), ⟨_, rfl, iteT ⟨_, rfl, _, rfl, rfl, ?_⟩⟩⟩⟩⟩
        rw [decide_eq_true rfl]
        exact q
      | none =>
        obtain rfl : u = _ := hR
        obtain rfl : v = _ := hR2
        refine ⟨_, pss_cons (ps_if (PW.pt (pw_or (pt_val (pe_callB call_isi (by rfl) T.z_isinstance (by decide +kernel) (pa_cons (pv 0) (pa_cons (pe_bltn (v := .ty "bool") (by rfl) T.z_bool (by decide +kernel) rfl) pa_nil)))) (pw_or1 (pt_val (pe_callB call_isi (by rfl) T.z_isinstance (by decide +kernel) (pa_cons (pv 1) (pa_cons (pe_bltn (v := .ty "bool") (by rfl) T.z_bool (by decide +kernel) rfl) pa_nil))))))) (pss_one ps_never) (pss_nil))
          (pss_cons (ps_if (PW.pt (pw_or (pt_cmpR op_isN (pv 0) pe_non (nomark _)) (pw_or1 (pt_cmpR op_isN (pv 1) pe_non (nomark _))))) (pss_one (ps_ret (pe_and (pe_cmpR op_isN (pv 0) pe_non (nomark _)) (pe_one (pe_cmpR op_isN (pv 1) pe_non (nomark _)))))) (pss_nil)) (pss_cons ps_never (pss_cons ps_never (pss_cons ps_never (pss_cons ps_never (pss_cons ps_never (pss_cons ps_never (pss_one ps_never)))))))), ?_⟩
        refine ⟨_, rfl, _, _, _, _, _, rfl, .ty _, (.base .non), kit_ty (by decide +kernel), ⟨_, rfl, iteF ⟨_, rfl, _, _, _, _, _, rfl, .ty _, (.base .non), kit_ty (by decide +kernel), ⟨_, rfl, iteF ?_⟩⟩⟩⟩
        refine ⟨_, rfl, rfl, _, rfl, iteDT rfl (iteT ?_)⟩
        refine ⟨_, rfl, rfl, _, rfl, iteDT rfl ?_⟩
        refine ⟨_, rfl, rfl, ?_⟩
        rw [decide_eq_true rfl]
        exact q
      | str i =>
        obtain rfl : u = _ := hR
        obtain rfl : v = _ := hR2
        refine ⟨_, pss_cons (ps_if (PW.pt (pw_or (pt_val (pe_callB call_isi (by rfl) T.z_isinstance (by decide +kernel) (pa_cons (pv 0) (pa_cons (pe_bltn (v := .ty "bool") (by rfl) T.z_bool (by decide +kernel) rfl) pa_nil)))) (pw_or1 (pt_val (pe_callB call_isi (by rfl) T.z_isinstance (by decide +kernel) (pa_cons (pv 1) (pa_cons (pe_bltn (v := .ty "bool") (by rfl) T.z_bool (by decide +kernel) rfl) pa_nil))))))) (pss_one ps_never) (pss_nil))
          (pss_cons (ps_if (PW.pt (pw_or (pt_cmpR op_isN (pv 0) pe_non (nomark _)) (pw_or1 (pt_cmpR op_isN (pv 1) pe_non (nomark _))))) (pss_one ps_never) (pss_nil))
          (pss_cons (ps_if (pt_val (pe_callB call_isi (by rfl) T.z_isinstance (by decide +kernel) (pa_cons (pv 1) (pa_cons (pe_bltn (v := .ty "int") (by rfl) T.z_int (by decide +kernel) rfl) pa_nil)))) (pss_one ps_never) (pss_nil))
          (pss_cons (ps_if (pt_val (pe_callB call_isi (by rfl) T.z_isinstance (by decide +kernel) (pa_cons (pv 1) (pa_cons (pe_bltn (v := .ty "str") (by rfl) T.z_str (by decide +kernel) rfl) pa_nil)))) (pss_one (ps_ret (pe_and (pe_callB call_isi (by rfl) T.z_isinstance (by decide +kernel) (pa_cons (pv 0) (pa_cons (pe_bltn (v := .ty "str") (by rfl) T.z_str (by decide +kernel) rfl) pa_nil))) (pe_one (pe_cmpR op_eq (pv 0) (pv 1) (nomark _)))))) (pss_nil)) (pss_cons ps_never (pss_cons ps_never (pss_cons ps_never (pss_cons ps_never (pss_one ps_never)))))))), ?_⟩
        refine ⟨_, rfl, _, _, _, _, _, rfl, .ty _, (.base (.str i)), kit_ty (by decide +kernel), ⟨_, rfl, iteF ⟨_, rfl, _, _, _, _, _, rfl, .ty _, (.base (.str i)), kit_ty (by decide +kernel), ⟨_, rfl, iteF ?_⟩⟩⟩⟩
        refine ⟨_, rfl, rfl, _, rfl, iteD (by intro z; cases z) ⟨_, rfl, rfl, _, rfl, iteD (by intro z; cases z) ?_⟩⟩
        refine ⟨_, rfl, _, _, _, _, _, rfl, .ty _, (.base (.str i)), kit_ty (by decide +kernel), ⟨_, rfl, iteF ?_⟩⟩
        refine ⟨_, rfl, _, _, _, _, _, rfl, .ty _, (.base (.str i)), kit_ty (by decide +kernel), ⟨_, rfl, iteT ⟨_, rfl, _, _, _, _, _, rfl, .ty _, (.base (.str i)), kit_ty (by decide +kernel), ⟨_, rfl, iteT ⟨_, rfl, _, rfl, rfl, ?_⟩⟩⟩⟩⟩
        rw [decide_eq_true rfl]
        exact q
      | int i =>
        obtain rfl : u = _ := hR
        obtain rfl : v = _ := hR2
        refine ⟨_, pss_cons (ps_if (PW.pt (pw_or (pt_val (pe_callB call_isi (by rfl) T.z_isinstance (by decide +kernel) (pa_cons (pv 0) (pa_cons (pe_bltn (v := .ty "bool") (by rfl) T.z_bool (by decide +kernel) rfl) pa_nil)))) (pw_or1 (pt_val (pe_callB call_isi (by rfl) T.z_isinstance (by decide +kernel) (pa_cons (pv 1) (pa_cons (pe_bltn (v := .ty "bool") (by rfl) T.z_bool (by decide +kernel) rfl) pa_nil))))))) (pss_one ps_never) (pss_nil))
          (pss_cons (ps_if (PW.pt (pw_or (pt_cmpR op_isN (pv 0) pe_non (nomark _)) (pw_or1 (pt_cmpR op_isN (pv 1) pe_non (nomark _))))) (pss_one ps_never) (pss_nil))
          (pss_cons (ps_if (pt_val (pe_callB call_isi (by rfl) T.z_isinstance (by decide +kernel) (pa_cons (pv 1) (pa_cons (pe_bltn (v := .ty "int") (by rfl) T.z_int (by decide +kernel) rfl) pa_nil)))) (pss_one (ps_ret (pe_and (pe_callB call_isi (by rfl) T.z_isinstance (by decide +kernel) (pa_cons (pv 0) (pa_cons (pe_bltn (v := .ty "int") (by rfl) T.z_int (by decide +kernel) rfl) pa_nil))) (pe_one (pe_cmpR op_eq (pv 0) (pv 1) (nomark _)))))) (pss_nil))
          (pss_cons ps_never (pss_cons ps_never (pss_cons ps_never (pss_cons ps_never (pss_cons ps_never (pss_one ps_never)))))))), ?_⟩
        refine ⟨_, rfl, _, _, _, _, _, rfl, .ty _, (.base (.int i)), kit_ty (by decide +kernel), ⟨_, rfl, iteF ⟨_, rfl, _, _, _, _, _, rfl, .ty _, (.base (.int i)), kit_ty (by decide +kernel), ⟨_, rfl, iteF ?_⟩⟩⟩⟩
        refine ⟨_, rfl, rfl, _, rfl, iteD (by intro z; cases z) ⟨_, rfl, rfl, _, rfl, iteD (by intro z; cases z) ?_⟩⟩
        refine ⟨_, rfl, _, _, _, _, _, rfl, .ty _, (.base (.int i)), kit_ty (by decide +kernel), ⟨_, rfl, iteT ⟨_, rfl, _, _, _, _, _, rfl, .ty _, (.base (.int i)), kit_ty (by decide +kernel), ⟨_, rfl, iteT ⟨_, rfl, _, rfl, rfl, ?_⟩⟩⟩⟩⟩
        rw [decide_eq_true rfl]
        exact q
      | list ds =>
        obtain ⟨a, xs, rfl, h1, hl1, hz, r1⟩ := hR
        obtain ⟨b, ys, rfl, h2, hl2, _, r2⟩ := hR2
        refine ⟨_, pss_cons (ps_if (PW.pt (pw_or (pt_val (pe_callB call_isi (by rfl) T.z_isinstance (by decide +kernel) (pa_cons (pv 0) (pa_cons (pe_bltn (v := .ty "bool") (by rfl) T.z_bool (by decide +kernel) rfl) pa_nil)))) (pw_or1 (pt_val (pe_callB call_isi (by rfl) T.z_isinstance (by decide +kernel) (pa_cons (pv 1) (pa_cons (pe_bltn (v := .ty "bool") (by rfl) T.z_bool (by decide +kernel) rfl) pa_nil))))))) (pss_one ps_never) (pss_nil))
          (pss_cons (ps_if (PW.pt (pw_or (pt_cmpR op_isN (pv 0) pe_non (nomark _)) (pw_or1 (pt_cmpR op_isN (pv 1) pe_non (nomark _))))) (pss_one ps_never) (pss_nil))
          (pss_cons (ps_if (pt_val (pe_callB call_isi (by rfl) T.z_isinstance (by decide +kernel) (pa_cons (pv 1) (pa_cons (pe_bltn (v := .ty "int") (by rfl) T.z_int (by decide +kernel) rfl) pa_nil)))) (pss_one ps_never) (pss_nil))
          (pss_cons (ps_if (pt_val (pe_callB call_isi (by rfl) T.z_isinstance (by decide +kernel) (pa_cons (pv 1) (pa_cons (pe_bltn (v := .ty "str") (by rfl) T.z_str (by decide +kernel) rfl) pa_nil)))) (pss_one ps_never) (pss_nil))
          (pss_cons (ps_if (PW.pt (pw_and (pt_val (pe_callB call_isi (by rfl) T.z_isinstance (by decide +kernel) (pa_cons (pv 1) (pa_cons (pe_bltn (v := .ty "list") (by rfl) T.z_list (by decide +kernel) rfl) pa_nil)))) (pw_and1 (pt_not (pt_val (pe_callB call_isi (by rfl) T.z_isinstance (by decide +kernel) (pa_cons (pv 0) (pa_cons (pe_bltn (v := .ty "list") (by rfl) T.z_list (by decide +kernel) rfl) pa_nil)))))))) (pss_one ps_never) (pss_nil))
          (pss_cons (ps_if (PW.pt (pw_and (pt_val (pe_callB call_isi (by rfl) T.z_isinstance (by decide +kernel) (pa_cons (pv 1) (pa_cons (pe_bltn (v := .ty "tuple") (by rfl) T.z_tuple (by decide +kernel) rfl) pa_nil)))) (pw_and1 (pt_not (pt_val (pe_callB call_isi (by rfl) T.z_isinstance (by decide +kernel) (pa_cons (pv 0) (pa_cons (pe_bltn (v := .ty "tuple") (by rfl) T.z_tuple (by decide +kernel) rfl) pa_nil)))))))) (pss_one ps_never) (pss_nil))
          (pss_cons (ps_if (pt_cmpR op_ne (pe_callB call_len_seq (by rfl) T.z_len (by decide +kernel) (pa_cons (pv 0) pa_nil)) (pe_callB call_len_seq (by rfl) T.z_len (by decide +kernel) (pa_cons (pv 1) pa_nil)) (nomark _)) (pss_one ps_never) (pss_nil))
          (pss_cons (ps_for PassesOwn.never rfl (pi_range1 (by rfl) T.z_range (pa_cons (pe_callB call_len_seq (by rfl) T.z_len (by decide +kernel) (pa_cons (pv 1) pa_nil)) pa_nil)) (pg_name (i := 2) scSame.nd rfl (.inl rfl))
            (pss_one (ps_if (pt_not (pt_val (pe_call G_law_same hr (by rfl) T.g_law_same T.F_law_same.kp T.b_law_same .nil pass0 (pa_cons (pe_ix ix_seq (pv 0) (pv 2) (fun _ _ => rfl)) (pa_cons (pe_ix ix_seq (pv 1) (pv 2) (fun _ _ => rfl)) pa_nil))))) (pss_one ps_never) (pss_nil))))
          (pss_one (ps_ret pe_bl))))))))), ?_⟩
        have ta : TyX K H (.ref a) (.type "list") := .base (.lst h1)
        have tb : TyX K H (.ref b) (.type "list") := .base (.lst h2)
        refine ⟨_, rfl, _, _, _, _, _, rfl, .ty _, ta, kit_ty (by decide +kernel), ⟨_, rfl, iteF ⟨_, rfl, _, _, _, _, _, rfl, .ty _, tb, kit_ty (by decide +kernel), ⟨_, rfl, iteF ?_⟩⟩⟩⟩
        refine ⟨_, rfl, rfl, _, rfl, iteD (by intro z; cases z) ⟨_, rfl, rfl, _, rfl, iteD (by intro z; cases z) ?_⟩⟩
        refine ⟨_, rfl, _, _, _, _, _, rfl, .ty _, tb, kit_ty (by decide +kernel), ⟨_, rfl, iteF ⟨_, rfl, _, _, _, _, _, rfl, .ty _, tb, kit_ty (by decide +kernel), ⟨_, rfl, iteF ?_⟩⟩⟩⟩
        refine ⟨_, rfl, _, _, _, _, _, rfl, .ty _, tb, kit_ty (by decide +kernel), _, rfl, iteT ⟨_, rfl, _, _, _, _, _, rfl, .ty _, ta, kit_ty (r := true) (by decide +kernel), _, rfl, iteF ?_⟩⟩
        refine ⟨_, rfl, _, _, _, _, _, rfl, .ty _, tb, kit_ty (by decide +kernel), _, rfl, iteF (iteF ?_)⟩
        refine ⟨_, rfl, a, _, rfl, .inl (SqL.of h1), _, rfl, b, _, rfl, .inl (SqL.of h2), rfl, _, rfl, iteND (by rw [hl1, hl2]) ?_⟩
        refine ⟨_, rfl, b, _, rfl, .inl (SqL.of h2), _, rfl, by omega, by omega, for_range (lo := 0) (n := ys.length) (fun _ σ H' => (∃ v, σ = [some (.ref a), some (.ref b), v]) ∧ H' = H) ⟨⟨none, rfl⟩, rfl⟩ ?_ ?_⟩
        · rintro i σ H' hi ⟨⟨v, rfl⟩, rfl⟩
          have hx := List.getElem?_eq_getElem (l := xs) (i := i) (by omega)
          have hy := List.getElem?_eq_getElem (l := ys) (i := i) (by omega)
          have hd := List.getElem?_eq_getElem (l := ds) (i := i) (by omega)
          have e0 : (0 : Int) + (i : Int) = (i : Int) := by omega
          refine ⟨_, rfl, _, rfl, .inl ⟨a, xs, _, _, rfl, rfl, SqL.of h1, at_of' e0 hx, ?_⟩⟩
          refine ⟨_, rfl, _, rfl, .inl ⟨b, ys, _, _, rfl, rfl, SqL.of h2, at_of' e0 hy, ?_⟩⟩
          exact ⟨_, _, _, rfl, r1 i _ _ hx hd, r2 i _ _ hy hd, _, rfl, iteF ⟨⟨_, rfl⟩, rfl⟩⟩
        · rintro σ H' ⟨⟨v, rfl⟩, rfl⟩
          exact q
      | tuple ds =>
        obtain ⟨a, xs, rfl, h1, hl1, hz, r1⟩ := hR
        obtain ⟨b, ys, rfl, h2, hl2, _, r2⟩ := hR2
        refine ⟨_, pss_cons (ps_if (PW.pt (pw_or (pt_val (pe_callB call_isi (by rfl) T.z_isinstance (by decide +kernel) (pa_cons (pv 0) (pa_cons (pe_bltn (v := .ty "bool") (by rfl) T.z_bool (by decide +kernel) rfl) pa_nil)))) (pw_or1 (pt_val (pe_callB call_isi (by rfl) T.z_isinstance (by decide +kernel) (pa_cons (pv 1) (pa_cons (pe_bltn (v := .ty "bool") (by rfl) T.z_bool (by decide +kernel) rfl) pa_nil))))))) (pss_one ps_never) (pss_nil))
          (pss_cons (ps_if (PW.pt (pw_or (pt_cmpR op_isN (pv 0) pe_non (nomark _)) (pw_or1 (pt_cmpR op_isN (pv 1) pe_non (nomark _))))) (pss_one ps_never) (pss_nil))
          (pss_cons (ps_if (pt_val (pe_callB call_isi (by rfl) T.z_isinstance (by decide +kernel) (pa_cons (pv 1) (pa_cons (pe_bltn (v := .ty "int") (by rfl) T.z_int (by decide +kernel) rfl) pa_nil)))) (pss_one ps_never) (pss_nil))
          (pss_cons (ps_if (pt_val (pe_callB call_isi (by rfl) T.z_isinstance (by decide +kernel) (pa_cons (pv 1) (pa_cons (pe_bltn (v := .ty "str") (by rfl) T.z_str (by decide +kernel) rfl) pa_nil)))) (pss_one ps_never) (pss_nil))
          (pss_cons (ps_if (PW.pt (pw_and (pt_val (pe_callB call_isi (by rfl) T.z_isinstance (by decide +kernel) (pa_cons (pv 1) (pa_cons (pe_bltn (v := .ty "list") (by rfl) T.z_list (by decide +kernel) rfl) pa_nil)))) (pw_and1 (pt_not (pt_val (pe_callB call_isi (by rfl) T.z_isinstance (by decide +kernel) (pa_cons (pv 0) (pa_cons (pe_bltn (v := .ty "list") (by rfl) T.z_list (by decide +kernel) rfl) pa_nil)))))))) (pss_one ps_never) (pss_nil))
          (pss_cons (ps_if (PW.pt (pw_and (pt_val (pe_callB call_isi (by rfl) T.z_isinstance (by decide +kernel) (pa_cons (pv 1) (pa_cons (pe_bltn (v := .ty "tuple") (by rfl) T.z_tuple (by decide +kernel) rfl) pa_nil)))) (pw_and1 (pt_not (pt_val (pe_callB call_isi (by rfl) T.z_isinstance (by decide +kernel) (pa_cons (pv 0) (pa_cons (pe_bltn (v := .ty "tuple") (by rfl) T.z_tuple (by decide +kernel) rfl) pa_nil)))))))) (pss_one ps_never) (pss_nil))
          (pss_cons (ps_if (pt_cmpR op_ne (pe_callB call_len_seq (by rfl) T.z_len (by decide +kernel) (pa_cons (pv 0) pa_nil)) (pe_callB call_len_seq (by rfl) T.z_len (by decide +kernel) (pa_cons (pv 1) pa_nil)) (nomark _)) (pss_one ps_never) (pss_nil))
          (pss_cons (ps_for PassesOwn.never rfl (pi_range1 (by rfl) T.z_range (pa_cons (pe_callB call_len_seq (by rfl) T.z_len (by decide +kernel) (pa_cons (pv 1) pa_nil)) pa_nil)) (pg_name (i := 2) scSame.nd rfl (.inl rfl))
            (pss_one (ps_if (pt_not (pt_val (pe_call G_law_same hr (by rfl) T.g_law_same T.F_law_same.kp T.b_law_same .nil pass0 (pa_cons (pe_ix ix_seq (pv 0) (pv 2) (fun _ _ => rfl)) (pa_cons (pe_ix ix_seq (pv 1) (pv 2) (fun _ _ => rfl)) pa_nil))))) (pss_one ps_never) (pss_nil))))
          (pss_one (ps_ret pe_bl))))))))), ?_⟩
        have ta : TyX K H (.ref a) (.type "tuple") := tyx_tup h1
        have tb : TyX K H (.ref b) (.type "tuple") := tyx_tup h2
        refine ⟨_, rfl, _, _, _, _, _, rfl, .ty _, ta, kit_ty (by decide +kernel), ⟨_, rfl, iteF ⟨_, rfl, _, _, _, _, _, rfl, .ty _, tb, kit_ty (by decide +kernel), ⟨_, rfl, iteF ?_⟩⟩⟩⟩
        refine ⟨_, rfl, rfl, _, rfl, iteD (by intro z; cases z) ⟨_, rfl, rfl, _, rfl, iteD (by intro z; cases z) ?_⟩⟩
        refine ⟨_, rfl, _, _, _, _, _, rfl, .ty _, tb, kit_ty (by decide +kernel), ⟨_, rfl, iteF ⟨_, rfl, _, _, _, _, _, rfl, .ty _, tb, kit_ty (by decide +kernel), ⟨_, rfl, iteF ?_⟩⟩⟩⟩
        refine ⟨_, rfl, _, _, _, _, _, rfl, .ty _, tb, kit_ty (by decide +kernel), _, rfl, iteF (iteF ?_)⟩
        refine ⟨_, rfl, _, _, _, _, _, rfl, .ty _, tb, kit_ty (by decide +kernel), _, rfl, iteT ⟨_, rfl, _, _, _, _, _, rfl, .ty _, ta, kit_ty (r := true) (by decide +kernel), _, rfl, iteF ?_⟩⟩
        refine ⟨_, rfl, a, _, rfl, .inr (SqT.ofR h1), _, rfl, b, _, rfl, .inr (SqT.ofR h2), rfl, _, rfl, iteND (by rw [hl1, hl2]) ?_⟩
        refine ⟨_, rfl, b, _, rfl, .inr (SqT.ofR h2), _, rfl, by omega, by omega, for_range (lo := 0) (n := ys.length) (fun _ σ H' => (∃ v, σ = [some (.ref a), some (.ref b), v]) ∧ H' = H) ⟨⟨none, rfl⟩, rfl⟩ ?_ ?_⟩
        · rintro i σ H' hi ⟨⟨v, rfl⟩, rfl⟩
          have hx := List.getElem?_eq_getElem (l := xs) (i := i) (by omega)
          have hy := List.getElem?_eq_getElem (l := ys) (i := i) (by omega)
          have hd := List.getElem?_eq_getElem (l := ds) (i := i) (by omega)
          have e0 : (0 : Int) + (i : Int) = (i : Int) := by omega
          refine ⟨_, rfl, _, rfl, .inr (.inl ⟨a, xs, _, _, rfl, rfl, SqT.ofR h1, at_of' e0 hx, ?_⟩)⟩
          refine ⟨_, rfl, _, rfl, .inr (.inl ⟨b, ys, _, _, rfl, rfl, SqT.ofR h2, at_of' e0 hy, ?_⟩)⟩
          exact ⟨_, _, _, rfl, r1 i _ _ hx hd, r2 i _ _ hy hd, _, rfl, iteF ⟨⟨_, rfl⟩, rfl⟩⟩
        · rintro σ H' ⟨⟨v, rfl⟩, rfl⟩
          exact q
/-! ### as programs over data -/
theorem fn_same (T : Tx K mg) : FnOk P w K mg base (L2.CX P w) 8 T.f_law_same T.d_law_same ["_law_got", "_law_due"] (spR K mg (fun (_ : Unit) (z : PyData × PyData × Unit) => [.fz (rD z.1), .fz (rD z.2.1)]) (fun z => Mo.rq (z.1 = z.2.1) true) (.fz rB)) :=
  (ok_same T 8).cx.imp fun vs H Q E ⟨_, x, F, o, q⟩ => by
    obtain ⟨x, y, _⟩ := x
    obtain ⟨u, ⟨v, rfl, h2⟩, h1⟩ := args2 o
    have q : x = y ∧ _ := q
    obtain ⟨rfl, q⟩ := q
    exact ⟨u, v, x, rfl, Dt.mono o.le h1, Dt.mono o.le h2, q _ F H (Go.refl o.le) (fun i l a q h => by rcases i with _ | _ | i <;> simp at h) rfl⟩
theorem fn_take (T : Tx K mg) : FnOk P w K mg base (L2.CX P w) 1 T.f_law_take T.d_law_take ["_law_pool_here", "_law_many"] (spR K mg (fun (a : Addr) (z : Int × Unit) => [.ow false a oPool, .fz (rI z.1)]) (fun z => Mo.take z.1) (.fz rI)) :=
  (ok_take T).cx.imp fun vs H Q E h => take_sp h
theorem fn_pool (T : Tx K mg) : FnOk P w K mg base (L2.CX P w) 2 T.f_law_pool T.d_law_pool ["_law_script", "_law_k"] (spR K mg (fun (_ : Unit) (z : List Int × Int × Unit) => [.fz (rScr K z.1), .fz (rI z.2.1)]) (fun z => Mo.rq (0 ≤ z.2.1 ∧ z.2.1 ≤ 1000) ()) (.ow fun _ => oPool)) :=
  (ok_pool T).cx.imp fun vs H Q E h => pool_sp h
end
end DD
namespace DD
open PySem PySem.Spec PyProof.Rows L2 KO SX RF
section
variable {P : Program} {w : World} {K : PySem.W.Frag} {mg : Str → Option Value} {base : Heap}
theorem kTy {H : Hp} {a : Addr} {vs : List V} (h : KTup K a vs) : TyX K H (.ref a) (.type "tuple") := by
  obtain ⟨o, _, _, h1, h2, _⟩ := h
  exact .kTuple h1 h2
def spSameK (a : Addr) (ws : List Str) : Sp := fun vs H Q _ => ∃ (v : V), vs = [.ref a, v] ∧ Dt 8 H v (.tuple (ws.map .str)) ∧ Q (.bl true) H
theorem ok_same_kt (T : Tx K mg) {a : Addr} {ws : List Str} (hk : KTup K a (ws.map V.str)) : FnOk P w K mg base CX0 8 T.f_law_same T.d_law_same ["_law_got", "_law_due"] (spSameK a ws) := by
    have G_law_same := ok_same (P := P) (w := w) (base := base) T 7
    refine T.F_law_same.ok scSame (fun vs H Q E h => ?_) (fun cdv A outer s H vs Q E hr h => ?_)
    · obtain ⟨v, rfl, _⟩ := h
      rfl
    · obtain ⟨v, rfl, hR2, q⟩ := h
      obtain ⟨b, ys, rfl, h2, hl2, hz, r2⟩ := hR2
      have hl1 : (ws.map V.str).length = (ws.map PyData.str).length := by rw [List.length_map, List.length_map]
      generalize hxs : ws.map V.str = xs at hk hl1
      generalize hds : ws.map PyData.str = ds at hl1 hl2 hz r2
      have h1 : SqT K H a xs := hk.sq H
      have r1 : ∀ (i : Nat) (x : V) (e : PyData), xs[i]? = some x → ds[i]? = some e → Dt 7 H x e := fun i x e e1 e2 => by
        rw [← hxs, List.getElem?_map] at e1
        rw [← hds, List.getElem?_map] at e2
        cases q : ws[i]? with
        | none => rw [q] at e1; cases e1
        | some w => rw [q] at e1 e2; cases e1; cases e2; rfl
      refine ⟨_, pss_cons (ps_if (PW.pt (pw_or (pt_val (pe_callB call_isi (by rfl) T.z_isinstance (by decide +kernel) (pa_cons (pv 0) (pa_cons (pe_bltn (v := .ty "bool") (by rfl) T.z_bool (by decide +kernel) rfl) pa_nil)))) (pw_or1 (pt_val (pe_callB call_isi (by rfl) T.z_isinstance (by decide +kernel) (pa_cons (pv 1) (pa_cons (pe_bltn (v := .ty "bool") (by rfl) T.z_bool (by decide +kernel) rfl) pa_nil))))))) (pss_one ps_never) (pss_nil))
        (pss_cons (ps_if (PW.pt (pw_or (pt_cmpR op_isN (pv 0) pe_non (nomark _)) (pw_or1 (pt_cmpR op_isN (pv 1) pe_non (nomark _))))) (pss_one ps_never) (pss_nil))
        (pss_cons (ps_if (pt_val (pe_callB call_isi (by rfl) T.z_isinstance (by decide +kernel) (pa_cons (pv 1) (pa_cons (pe_bltn (v := .ty "int") (by rfl) T.z_int (by decide +kernel) rfl) pa_nil)))) (pss_one ps_never) (pss_nil))
        (pss_cons (ps_if (pt_val (pe_callB call_isi (by rfl) T.z_isinstance (by decide +kernel) (pa_cons (pv 1) (pa_cons (pe_bltn (v := .ty "str") (by rfl) T.z_str (by decide +kernel) rfl) pa_nil)))) (pss_one ps_never) (pss_nil))
        (pss_cons (ps_if (PW.pt (pw_and (pt_val (pe_callB call_isi (by rfl) T.z_isinstance (by decide +kernel) (pa_cons (pv 1) (pa_cons (pe_bltn (v := .ty "list") (by rfl) T.z_list (by decide +kernel) rfl) pa_nil)))) (pw_and1 (pt_not (pt_val (pe_callB call_isi (by rfl) T.z_isinstance (by decide +kernel) (pa_cons (pv 0) (pa_cons (pe_bltn (v := .ty "list") (by rfl) T.z_list (by decide +kernel) rfl) pa_nil)))))))) (pss_one ps_never) (pss_nil))
        (pss_cons (ps_if (PW.pt (pw_and (pt_val (pe_callB call_isi (by rfl) T.z_isinstance (by decide +kernel) (pa_cons (pv 1) (pa_cons (pe_bltn (v := .ty "tuple") (by rfl) T.z_tuple (by decide +kernel) rfl) pa_nil)))) (pw_and1 (pt_not (pt_val (pe_callB call_isi (by rfl) T.z_isinstance (by decide +kernel) (pa_cons (pv 0) (pa_cons (pe_bltn (v := .ty "tuple") (by rfl) T.z_tuple (by decide +kernel) rfl) pa_nil)))))))) (pss_one ps_never) (pss_nil))
        (pss_cons (ps_if (pt_cmpR op_ne (pe_callB call_len_seq (by rfl) T.z_len (by decide +kernel) (pa_cons (pv 0) pa_nil)) (pe_callB call_len_seq (by rfl) T.z_len (by decide +kernel) (pa_cons (pv 1) pa_nil)) (nomark _)) (pss_one ps_never) (pss_nil))
        (pss_cons (ps_for PassesOwn.never rfl (pi_range1 (by rfl) T.z_range (pa_cons (pe_callB call_len_seq (by rfl) T.z_len (by decide +kernel) (pa_cons (pv 1) pa_nil)) pa_nil)) (pg_name (i := 2) scSame.nd rfl (.inl rfl))
          (pss_one (ps_if (pt_not (pt_val (pe_call G_law_same hr (by rfl) T.g_law_same T.F_law_same.kp T.b_law_same .nil pass0 (pa_cons (pe_ix ix_seq (pv 0) (pv 2) (fun _ _ => rfl)) (pa_cons (pe_ix ix_seq (pv 1) (pv 2) (fun _ _ => rfl)) pa_nil))))) (pss_one ps_never) (pss_nil))))
        (pss_one (ps_ret pe_bl))))))))), ?_⟩
      have ta : TyX K H (.ref a) (.type "tuple") := kTy hk
      have tb : TyX K H (.ref b) (.type "tuple") := tyx_tup h2
      refine ⟨_, rfl, _, _, _, _, _, rfl, .ty _, ta, kit_ty (by decide +kernel), ⟨_, rfl, iteF ⟨_, rfl, _, _, _, _, _, rfl, .ty _, tb, kit_ty (by decide +kernel), ⟨_, rfl, iteF ?_⟩⟩⟩⟩
      refine ⟨_, rfl, rfl, _, rfl, iteD (by intro z; cases z) ⟨_, rfl, rfl, _, rfl, iteD (by intro z; cases z) ?_⟩⟩
      refine ⟨_, rfl, _, _, _, _, _, rfl, .ty _, tb, kit_ty (by decide +kernel), ⟨_, rfl, iteF ⟨_, rfl, _, _, _, _, _, rfl, .ty _, tb, kit_ty (by decide +kernel), ⟨_, rfl, iteF ?_⟩⟩⟩⟩
      refine ⟨_, rfl, _, _, _, _, _, rfl, .ty _, tb, kit_ty (by decide +kernel), _, rfl, iteF (iteF ?_)⟩
      refine ⟨_, rfl, _, _, _, _, _, rfl, .ty _, tb, kit_ty (by decide +kernel), _, rfl, iteT ⟨_, rfl, _, _, _, _, _, rfl, .ty _, ta, kit_ty (r := true) (by decide +kernel), _, rfl, iteF ?_⟩⟩
      refine ⟨_, rfl, a, _, rfl, .inr (h1), _, rfl, b, _, rfl, .inr (SqT.ofR h2), rfl, _, rfl, iteND (by rw [hl1, hl2]) ?_⟩
      refine ⟨_, rfl, b, _, rfl, .inr (SqT.ofR h2), _, rfl, by omega, by omega, for_range (lo := 0) (n := ys.length) (fun _ σ H' => (∃ v, σ = [some (.ref a), some (.ref b), v]) ∧ H' = H) ⟨⟨none, rfl⟩, rfl⟩ ?_ ?_⟩
      · rintro i σ H' hi ⟨⟨v, rfl⟩, rfl⟩
        have hx := List.getElem?_eq_getElem (l := xs) (i := i) (by omega)
        have hy := List.getElem?_eq_getElem (l := ys) (i := i) (by omega)
        have hd := List.getElem?_eq_getElem (l := ds) (i := i) (by omega)
        have e0 : (0 : Int) + (i : Int) = (i : Int) := by omega
        refine ⟨_, rfl, _, rfl, .inr (.inl ⟨a, xs, _, _, rfl, rfl, h1, at_of' e0 hx, ?_⟩)⟩
        refine ⟨_, rfl, _, rfl, .inr (.inl ⟨b, ys, _, _, rfl, rfl, SqT.ofR h2, at_of' e0 hy, ?_⟩)⟩
        exact ⟨_, _, _, rfl, r1 i _ _ hx hd, r2 i _ _ hy hd, _, rfl, iteF ⟨⟨_, rfl⟩, rfl⟩⟩
      · rintro σ H' ⟨⟨v, rfl⟩, rfl⟩
        exact q
theorem fn_same_kt (T : Tx K mg) {a : Addr} {ws : List Str} (hk : KTup K a (ws.map V.str)) : FnOk P w K mg base (L2.CX P w) 8 T.f_law_same T.d_law_same ["_law_got", "_law_due"] (spR K mg (fun (_ : Unit) (z : Unit × PyData × Unit) => [.fz (rK a z.1), .fz (rD z.2.1)]) (fun z => Mo.rq (PyData.tuple (ws.map .str) = z.2.1) true) (.fz rB)) :=
  (ok_same_kt T hk).cx.imp fun vs H Q E ⟨_, x, F, o, q⟩ => by
    obtain ⟨x, y, _⟩ := x
    obtain ⟨u, ⟨v, rfl, h2⟩, h1⟩ := args2 o
    obtain rfl : u = .ref a := h1
    have q : PyData.tuple (ws.map .str) = y ∧ _ := q
    obtain ⟨rfl, q⟩ := q
    exact ⟨v, rfl, Dt.mono o.le h2, q _ F H (Go.refl o.le) (fun i l a q h => by rcases i with _ | _ | i <;> simp at h) rfl⟩
end
end DD
namespace DD
open PySem PySem.Spec PyProof.Rows L2 KO SX RF
section
variable {P : Program} {w : World} {K : PySem.W.Frag} {mg : Str → Option Value} {base : Heap}

section
variable {K : PySem.W.Frag} {mg : Str → Option Value}
theorem excC_BadRule (T : Tx K mg) : ExcC K T.C_BadRule := ⟨T.ga_BadRule, T.gg_BadRule, T.bs_BadRule, T.hd_BadRule, T.cl_BadRule, T.sp_class, T.tk_class, T.mr_BadRule⟩
theorem xfC_BadRule (T : Tx K mg) : XfC K T.C_BadRule := ⟨T.ga_BadRule, T.gg_BadRule, T.bs_BadRule, T.hd_BadRule⟩
theorem kit_BadRule_VE (T : Tx K mg) : PySem.W.kitOne K (.ref T.C_BadRule) (.type "ValueError") = some true := kit_oty (by decide +kernel) T.sb_BadRule_ValueError
theorem exm_BadRule_BadCable (T : Tx K mg) : PySem.W.exmOne K (.ref T.C_BadRule) (.ref T.C_BadCable) = some false := PySem.W.exm_ref T.bs_BadCable T.hd_BadCable T.ty_BadCable T.sb_BadRule_BadCable
theorem kit_BadRule_BadCable (T : Tx K mg) : PySem.W.kitOne K (.ref T.C_BadRule) (.ref T.C_BadCable) = some false := kit_ref T.sb_BadRule_BadRule T.sb_BadRule_BadCable T.hd_BadCable T.ty_BadCable
theorem exm_BadRule_BadRule (T : Tx K mg) : PySem.W.exmOne K (.ref T.C_BadRule) (.ref T.C_BadRule) = some true := PySem.W.exm_ref T.bs_BadRule T.hd_BadRule T.ty_BadRule T.sb_BadRule_BadRule
theorem kit_BadRule_BadRule (T : Tx K mg) : PySem.W.kitOne K (.ref T.C_BadRule) (.ref T.C_BadRule) = some true := kit_ref T.sb_BadRule_BadRule T.sb_BadRule_BadRule T.hd_BadRule T.ty_BadRule
theorem exm_BadRule_DepotError (T : Tx K mg) : PySem.W.exmOne K (.ref T.C_BadRule) (.ref T.C_DepotError) = some true := PySem.W.exm_ref T.bs_DepotError T.hd_DepotError T.ty_DepotError T.sb_BadRule_DepotError
theorem kit_BadRule_DepotError (T : Tx K mg) : PySem.W.kitOne K (.ref T.C_BadRule) (.ref T.C_DepotError) = some true := kit_ref T.sb_BadRule_BadRule T.sb_BadRule_DepotError T.hd_DepotError T.ty_DepotError
theorem excC_NoNews (T : Tx K mg) : ExcC K T.C_NoNews := ⟨T.ga_NoNews, T.gg_NoNews, T.bs_NoNews, T.hd_NoNews, T.cl_NoNews, T.sp_class, T.tk_class, T.mr_NoNews⟩
theorem xfC_NoNews (T : Tx K mg) : XfC K T.C_NoNews := ⟨T.ga_NoNews, T.gg_NoNews, T.bs_NoNews, T.hd_NoNews⟩
theorem exm_NoNews_BadCable (T : Tx K mg) : PySem.W.exmOne K (.ref T.C_NoNews) (.ref T.C_BadCable) = some false := PySem.W.exm_ref T.bs_BadCable T.hd_BadCable T.ty_BadCable T.sb_NoNews_BadCable
theorem exm_NoNews_BadRule (T : Tx K mg) : PySem.W.exmOne K (.ref T.C_NoNews) (.ref T.C_BadRule) = some false := PySem.W.exm_ref T.bs_BadRule T.hd_BadRule T.ty_BadRule T.sb_NoNews_BadRule
theorem exm_NoNews_DepotError (T : Tx K mg) : PySem.W.exmOne K (.ref T.C_NoNews) (.ref T.C_DepotError) = some true := PySem.W.exm_ref T.bs_DepotError T.hd_DepotError T.ty_DepotError T.sb_NoNews_DepotError
theorem insC_Rule (T : Tx K mg) : C8.InsC K T.C_Rule := ⟨T.cl_Rule, T.ic_Rule, T.sp_class, T.tk_class, T.mr_Rule, kit_ref T.isb_Rule T.isb_Rule T.ihd_Rule T.ity_Rule⟩
end

abbrev ORule := Str × Str
def fsRule (x : ORule) : List (Str × Pr) := [("send_word", rS x.1), ("charge_word", rS x.2)]
def rRule (C_Rule : Addr) (x : ORule) : Pr := RF.rIn C_Rule (fsRule  x)
instance {C_Rule : Addr} : FI (rRule C_Rule) := ⟨fun {x y v F} h k => by
  obtain ⟨gs, h, k⟩ := fi_in (fs := fsRule ) h k
  obtain ⟨_, _, a0, b0, h, k⟩ := fs_two h k
  obtain ⟨_, _, a1, b1, h, k⟩ := fs_two h k
  exact Prod.ext (FI.inj a0 b0) (FI.inj a1 b1)⟩
instance {C_Rule : Addr} : NL (rRule C_Rule) := ⟨fun {x} {v F a vs} h k => nl_in (fs := fsRule  x) (nlfc (nlr _) (nlf1 (nlr _))) h k⟩
instance {C_Rule : Addr} {x : ORule} : NLP (oIn C_Rule (fsRule  x)) := nlp_in (nlfc (nlr _) (nlf1 (nlr _)))
instance {C_Rule : Addr} : ND (rRule C_Rule) := ⟨fun {x} {v F a vs} h k => nd_in (fs := fsRule  x) (ndfc (ndr _) (ndf1 (ndr _))) h k⟩
instance {C_Rule : Addr} {x : ORule} : NDP (oIn C_Rule (fsRule  x)) := ndp_in (ndfc (ndr _) (ndf1 (ndr _)))
instance {C_Rule : Addr} : NN (rRule C_Rule) := ⟨fun x v F h => nn_in h⟩
theorem scBadRuleInit : FnScope ["self", "part"] ["self", "part"] (defScope sBadRuleInit) := ⟨rfl, rfl, rfl, by decide +kernel, rfl, by decide +kernel, by decide +kernel⟩
theorem ok_BadRuleInit (T : Tx K mg) : FnOk P w K mg base CX0 1 T.fBadRule_init T.dBadRule_init ["self", "part"] (spX1 T.C_BadRule "part") := by
  refine T.FBadRule_init.ok scBadRuleInit (fun vs H Q E h => ?_) (fun cdv A outer s H vs Q E hr h => ?_)
  · obtain ⟨a, v, rfl, _⟩ := h
    rfl
  · obtain ⟨a, v, rfl, ha, q⟩ := h
    exact ⟨_, pss_one (ps_ost (pv 0) (pv 1)), _, rfl, _, rfl, a, _, rfl, T.ox_BadRule, T.no_BadRule_part, .inl ⟨ha, q⟩⟩

end
end DD
namespace DD
open PySem PySem.Spec PyProof.Rows L2 KO SX RF
section
variable {P : Program} {w : World} {K : PySem.W.Frag} {mg : Str → Option Value} {base : Heap}
theorem scRuleInit : FnScope ["self", "send_word", "charge_word"] ["self", "send_word", "charge_word"] (defScope sRuleInit) := ⟨rfl, rfl, rfl, by decide +kernel, rfl, by decide +kernel, by decide +kernel⟩
def P_RuleInit (send_word_ : Str) (charge_word_ : Str) : Mo (ORule) :=
  (((pure send_word_) >>= fun x1 => pure (!decide (x1 ∈ (["first", "last", "fullest", "emptiest"] : List Str)))) >>= fun c2 => if c2 = true then (((pure ("send" : Str)) >>= fun x3 => Mo.rq (Enc.ok rS x3) ⟨"BadRule", [("part", Enc.d rS x3)]⟩) >>= fun e4 => Mo.throw e4) else (((pure charge_word_) >>= fun x5 => pure (!decide (x5 ∈ (["first", "last", "fullest", "emptiest"] : List Str)))) >>= fun c6 => if c6 = true then (((pure ("charge" : Str)) >>= fun x7 => Mo.rq (Enc.ok rS x7) ⟨"BadRule", [("part", Enc.d rS x7)]⟩) >>= fun e8 => Mo.throw e8) else ((pure send_word_) >>= fun send_word_9 => ((pure charge_word_) >>= fun charge_word_10 => (pure (send_word_9, charge_word_10))))))
theorem fn_RuleInit (T : Tx K mg) : FnOk P w K mg base (L2.CX P w) 3 T.fRule_init T.dRule_init ["self", "send_word", "charge_word"] (spI K mg T.C_Rule (fun (z : Str × Str × Unit) => [.fz (rS z.1), .fz (rS z.2.1)]) (fun z => P_RuleInit z.1 z.2.1) (fsRule)) := by
  have GBadRule_init := ok_BadRuleInit (P := P) (w := w) (base := base) T
  refine init_mk (Γe := [.un, .un, .un]) (Γ0 := fun a z => [.ow false a (oIn T.C_Rule []), .fz (rS z.1), .fz (rS z.2.1)]) (Γo := fun a z => [.ow false a (oIn T.C_Rule (fsRule z)), .un, .un]) T.FRule_init scRuleInit (fun _ => rfl) (fun _ _ => rfl) (fun _ _ => ⟨.inl rfl, .inl rfl, .inl rfl, trivial⟩) (fun _ => rfl) (fun _ _ => rfl) (fun cdv A outer s H E a0 y hr => ?_)
  obtain ⟨send_word_, charge_word_, _⟩ := y
  show RB _ _ ([.un, .un, .un] : RF.Ctx) false [.ow false a0 (oIn T.C_Rule []), .fz (rS send_word_), .fz (rS charge_word_)] _ (P_RuleInit send_word_ charge_word_) _
  exact (rb_if1 (rt_rc (rc_ninKE (ws := (["first", "last", "fullest", "emptiest"] : List Str)) (pe_cT (pe_glob (v := .ref T.C_Rule) (by rfl) T.g_Rule (by rfl)) ⟨T.rd_Rule, T.ga_Rule⟩ T.kc_Rule_WORDS) T.kt_Rule_WORDS (re_var (ρ := rS) (x := send_word_) 1 rfl (pv 1)))) (rb_raise (pmk_1 T.ox_BadRule T.ni_BadRule T.ti_BadRule GBadRule_init (hr.mono (by decide)) T.bBadRule_init (by rfl) T.g_BadRule tE_mono (pa_cons peE pa_nil)) (takes_of rfl rfl rfl rfl) (rx_1 re_str T.g_BadRule)) (rb_if1 (rt_rc (rc_ninKE (ws := (["first", "last", "fullest", "emptiest"] : List Str)) (pe_cT (pe_glob (v := .ref T.C_Rule) (by rfl) T.g_Rule (by rfl)) ⟨T.rd_Rule, T.ga_Rule⟩ T.kc_Rule_WORDS) T.kt_Rule_WORDS (re_var (ρ := rS) (x := charge_word_) 2 rfl (pv 2)))) (rb_raise (pmk_1 T.ox_BadRule T.ni_BadRule T.ti_BadRule GBadRule_init (hr.mono (by decide)) T.bBadRule_init (by rfl) T.g_BadRule tE_mono (pa_cons peE pa_nil)) (takes_of rfl rfl rfl rfl) (rx_1 re_str T.g_BadRule)) (rb_setfld (ps_fld (pv 0) peE rfl) rfl (re_var (ρ := rS) (x := send_word_) 1 rfl (pv 1)) T.cl_Rule T.na_Rule_send_word (plt pl0) rfl fun send_word_9 => (rb_setfld (ps_fld (pv 0) peE rfl) rfl (re_var (ρ := rS) (x := charge_word_) 2 rfl (pv 2)) T.cl_Rule T.na_Rule_charge_word (plt (pl1 pl0)) rfl fun charge_word_10 => (rb_nil (x := (send_word_9, charge_word_10)) (.inl rfl) ⟨.inr rfl, .inl rfl, .inl rfl, trivial⟩)))))

theorem scRuleEvery : FnScope ["send_word", "charge_word"] [] (defScope sRuleEvery) := ⟨rfl, rfl, rfl, by decide +kernel, rfl, by decide +kernel, by decide +kernel⟩
def P_RuleEvery  : Mo (List ORule) :=
  ((((pure ()) >>= fun _ => pure (["first", "last", "fullest", "emptiest"] : List Str)) >>= Mo.lc2 (fun w2 => (pure true)) (fun w2 => ((pure ()) >>= fun _ => pure (["first", "last", "fullest", "emptiest"] : List Str))) (fun w2 w3 => (pure true)) (fun w2 w3 => (((pure w2) >>= fun x7 => ((pure w3) >>= fun x5 => (pure ()) >>= fun y6 => pure (x5, y6)) >>= fun y8 => pure (x7, y8)) >>= fun y4 => P_RuleInit y4.1 y4.2.1))) >>= fun r1 => pure r1)
theorem fn_RuleEvery (T : Tx K mg) : FnOk P w K mg base (L2.CX P w) 5 T.fRule_every T.dRule_every [] (spR K mg (fun (c : Unit) (z : Unit) => []) (fun z => P_RuleEvery ) (RK.ow (oL (rRule T.C_Rule)))) := by
  have GRule_init := fn_RuleInit (P := P) (w := w) (base := base) T
  refine fn_mk (Γe := fun c z => [.un, .un]) (Γ0 := fun c z => [.un, .un]) (Z := (fun _ _ x => .ret ((RK.ow (oL (rRule T.C_Rule))).ok x))) T.FRule_every scRuleEvery (fun _ _ => rfl) (fun _ _ => rfl) (fun _ _ => ⟨.inl rfl, .inl rfl, trivial⟩) (fun _ _ _ _ _ _ h => (own_none rfl h).elim) (fun _ _ _ => .inl rfl) (fun cdv A outer s H E a0 y hr => ?_)
  skip
  show RB _ _ ([.un, .un] : RF.Ctx) false [.un, .un] _ (P_RuleEvery ) _
  exact (rb_ret (fun (r1 : (List ORule)) => r1) (re_of (pe_lc2 (own := [("send_word", 0), ("charge_word", 1)]) (vs1 := [1]) (g := gName 0) (g1 := gName 1) rfl scRuleEvery.nd (pi_tup peE) (blkOk_by (own := [("send_word", 0), ("charge_word", 1)]) (N := ["send_word", "charge_word"]) (sc := defScope sRuleEvery) (by decide +kernel)) (by decide) (fun _ _ _ _ _ => pg_name (i := 0) scRuleEvery.nd rfl (.inl rfl)) ptPi (fun _ _ _ _ _ => (pi_tup (peEi _ _ _ _ _))) (fun _ _ _ _ _ => pg_name (i := 1) scRuleEvery.nd rfl (.inl rfl)) ptPi peEi) (rte_lc2 (vs := [0, 1]) (vs1 := [1]) (fun (x : Str) Γ => Γ.set 0 (.fz (rS x))) (fun (x : Str) Γ => Γ.set 1 (.fz (rS x))) (rit_K (re_cls (pe_cT (pe_glob (v := .ref T.C_Rule) (by rfl) T.g_Rule (by rfl)) ⟨T.rd_Rule, T.ga_Rule⟩ T.kc_Rule_WORDS)) T.kt_Rule_WORDS) (fun x => ((fun _ => rg_name) x).more (by decide)) (fun x => ((fun _ => rgo_name) x).more (by decide)) (un2 rfl rfl) (fun (w2 : Str) => rti_nil) (fun (w2 : Str) => (rit_K (rte_i (fun _ _ _ _ _ => (re_cls (pe_cT (pe_glob (v := .ref T.C_Rule) (by rfl) T.g_Rule (by rfl)) ⟨T.rd_Rule, T.ga_Rule⟩ T.kc_Rule_WORDS)))) T.kt_Rule_WORDS)) (fun _ => rg_name) (fun _ => rgo_name) (fun _ => (un1 rfl)) (fun (w2 : Str) (w3 : Str) => rti_nil) (fun (w2 : Str) (w3 : Str) _ _ _ _ _ => (re_frz (ρ' := (rRule T.C_Rule)) (re_make T.M_Rule GRule_init (hr.mono (by decide)) takes0 (ra_cons (re_var (ρ := rS) (x := w2) 0 rfl (pv 0)) (ra_cons (re_var (ρ := rS) (x := w3) 1 rfl (pv 1)) ra_nil)) T.g_Rule T.bRule_init) (fun _ => frz_In))))) (fun _ => rfl))

theorem scRuleEq : FnScope ["self", "other"] ["self", "other"] (defScope sRuleEq) := ⟨rfl, rfl, rfl, by decide +kernel, rfl, by decide +kernel, by decide +kernel⟩
def P_RuleEq (self_ : ORule) (other_ : ORule) : Mo Bool :=
  ((((pure other_) >>= fun _ => pure true) >>= fun b11 => if b11 then ((((pure self_) >>= fun x4 => pure (x4.1)) >>= fun x2 => ((pure other_) >>= fun x5 => pure (x5.1)) >>= fun y3 => pure (decide (Sc.v rS x2 = Sc.v rS y3))) >>= fun b10 => if b10 then (((pure self_) >>= fun x8 => pure (x8.2)) >>= fun x6 => ((pure other_) >>= fun x9 => pure (x9.2)) >>= fun y7 => pure (decide (Sc.v rS x6 = Sc.v rS y7))) else pure false) else pure false) >>= fun r1 => pure r1)
theorem fn_RuleEq (T : Tx K mg) : FnOk P w K mg base (L2.CX P w) 2 T.fRule_eq T.dRule_eq ["self", "other"] (spR K mg (fun (c : Unit) (z : ORule × ORule × Unit) => [.fz ((rRule T.C_Rule) z.1), .fz ((rRule T.C_Rule) z.2.1)]) (fun z => P_RuleEq z.1 z.2.1) (RK.fz rB)) := by
  refine fn_mk (Γe := fun c z => [.un, .un]) (Γ0 := fun c z => [.fz ((rRule T.C_Rule) z.1), .fz ((rRule T.C_Rule) z.2.1)]) (Z := (fun _ _ x => .ret ((RK.fz rB).ok x))) T.FRule_eq scRuleEq (fun _ _ => rfl) (fun _ _ => rfl) (fun _ _ => ⟨.inl rfl, .inl rfl, trivial⟩) (fun _ _ _ _ _ _ h => (own_none rfl h).elim) (fun _ _ _ => .inl rfl) (fun cdv A outer s H E a0 y hr => ?_)
  obtain ⟨self_, other_, _⟩ := y
  show RB _ _ ([.un, .un] : RF.Ctx) false [.fz ((rRule T.C_Rule) self_), .fz ((rRule T.C_Rule) other_)] _ (P_RuleEq self_ other_) _
  exact (rb_ret (fun (r1 : Bool) => r1) (re_and (re_isC (fsRule) (insC_Rule T) (re_var (ρ := (rRule T.C_Rule)) (x := other_) 1 rfl (pv 1)) (pe_glob (v := .ref T.C_Rule) rfl T.g_Rule rfl) T.z_isinstance) (re_and (re_rc (rc_eqS (by intro x y; first | rfl | (cases x <;> rfl) | (cases y <;> rfl) | (cases x <;> cases y <;> rfl)) (re_fld (ρ' := rS) (g := fun (x : ORule) => x.1) (fsRule) (re_var (ρ := (rRule T.C_Rule)) (x := self_) 0 rfl (pv 0)) T.cl_Rule T.na_Rule_send_word) (re_fld (ρ' := rS) (g := fun (x : ORule) => x.1) (fsRule) (re_var (ρ := (rRule T.C_Rule)) (x := other_) 1 rfl (pv 1)) T.cl_Rule T.na_Rule_send_word))) (re_one (re_rc (rc_eqS (by intro x y; first | rfl | (cases x <;> rfl) | (cases y <;> rfl) | (cases x <;> cases y <;> rfl)) (re_fld (ρ' := rS) (g := fun (x : ORule) => x.2) (fsRule) (re_var (ρ := (rRule T.C_Rule)) (x := self_) 0 rfl (pv 0)) T.cl_Rule T.na_Rule_charge_word) (re_fld (ρ' := rS) (g := fun (x : ORule) => x.2) (fsRule) (re_var (ρ := (rRule T.C_Rule)) (x := other_) 1 rfl (pv 1)) T.cl_Rule T.na_Rule_charge_word)))))) (fun _ => rfl))

theorem scRuleStr : FnScope ["self"] ["self"] (defScope sRuleStr) := ⟨rfl, rfl, rfl, by decide +kernel, rfl, by decide +kernel, by decide +kernel⟩
def P_RuleStr (self_ : ORule) : Mo Str :=
  (((fun acc13 => (pure ("send " : Str)) >>= fun y12 => Mo.rq ((acc13 ++ y12).length ≤ sizeLine) (acc13 ++ y12) >>= (fun acc11 => (((pure self_) >>= fun x8 => pure (x8.1)) >>= fun y9 => Mo.rq (y9.length ≤ sizeLine) y9) >>= fun y10 => Mo.rq ((acc11 ++ y10).length ≤ sizeLine) (acc11 ++ y10) >>= (fun acc7 => (pure (", charge " : Str)) >>= fun y6 => Mo.rq ((acc7 ++ y6).length ≤ sizeLine) (acc7 ++ y6) >>= (fun acc5 => (((pure self_) >>= fun x2 => pure (x2.2)) >>= fun y3 => Mo.rq (y3.length ≤ sizeLine) y3) >>= fun y4 => Mo.rq ((acc5 ++ y4).length ≤ sizeLine) (acc5 ++ y4) >>= (fun acc => pure acc))))) Str.empty) >>= fun r1 => pure r1)
theorem fn_RuleStr (T : Tx K mg) : FnOk P w K mg base (L2.CX P w) 2 T.fRule_str T.dRule_str ["self"] (spR K mg (fun (c : Unit) (z : ORule × Unit) => [.fz ((rRule T.C_Rule) z.1)]) (fun z => P_RuleStr z.1) (RK.fz rS)) := by
  refine fn_mk (Γe := fun c z => [.un]) (Γ0 := fun c z => [.fz ((rRule T.C_Rule) z.1)]) (Z := (fun _ _ x => .ret ((RK.fz rS).ok x))) T.FRule_str scRuleStr (fun _ _ => rfl) (fun _ _ => rfl) (fun _ _ => ⟨.inl rfl, trivial⟩) (fun _ _ _ _ _ _ h => (own_none rfl h).elim) (fun _ _ _ => .inl rfl) (fun cdv A outer s H E a0 y hr => ?_)
  obtain ⟨self_, _⟩ := y
  show RB _ _ ([.un] : RF.Ctx) false [.fz ((rRule T.C_Rule) self_)] _ (P_RuleStr self_) _
  exact (rb_ret (fun (r1 : Str) => r1) (re_fs (rj_cons re_str (rj_cons (re_fmtS (re_fld (ρ' := rS) (g := fun (x : ORule) => x.1) (fsRule) (re_var (ρ := (rRule T.C_Rule)) (x := self_) 0 rfl (pv 0)) T.cl_Rule T.na_Rule_send_word)) (rj_cons re_str (rj_cons (re_fmtS (re_fld (ρ' := rS) (g := fun (x : ORule) => x.2) (fsRule) (re_var (ρ := (rRule T.C_Rule)) (x := self_) 0 rfl (pv 0)) T.cl_Rule T.na_Rule_charge_word)) rj_nil))))) (fun _ => rfl))

theorem scRuleParse : FnScope ["cls", "text", "rule"] ["cls", "text"] (defScope sRuleParse) := ⟨rfl, rfl, rfl, by decide +kernel, rfl, by decide +kernel, by decide +kernel⟩
def P_RuleParse (cls_ : Unit) (text_ : Str) : Mo ORule :=
  (((pure cls_) >>= fun _ => P_RuleEvery) >>= fun xs => Mo.loop (fun s3 w4 => ((((pure w4) >>= fun x7 => Mo.calm (P_RuleStr x7)) >>= fun x5 => (pure text_) >>= fun y6 => pure (decide (Sc.v rS x5 = Sc.v rS y6))) >>= fun c8 => if c8 = true then ((pure w4) >>= fun r9 => pure (Lp.ret r9)) else (pure (Lp.go ())))) xs () >>= Lp.out (fun s10 => (((pure ("text" : Str)) >>= fun x11 => Mo.rq (Enc.ok rS x11) ⟨"BadRule", [("part", Enc.d rS x11)]⟩) >>= fun e12 => Mo.throw e12)) (fun x => x))
theorem fn_RuleParse (T : Tx K mg) : FnOk P w K mg base (L2.CX P w) 6 T.fRule_parse T.dRule_parse ["cls", "text"] (spR K mg (fun (c : Unit) (z : Unit × Str × Unit) => [.fz ((rK T.C_Rule) z.1), .fz (rS z.2.1)]) (fun z => P_RuleParse z.1 z.2.1) (RK.fz (rRule T.C_Rule))) := by
  have GBadRule_init := ok_BadRuleInit (P := P) (w := w) (base := base) T
  have GRule_str := fn_RuleStr (P := P) (w := w) (base := base) T
  have GRule_every := fn_RuleEvery (P := P) (w := w) (base := base) T
  refine fn_mk (Γe := fun c z => [.un, .un, .un]) (Γ0 := fun c z => [.fz ((rK T.C_Rule) z.1), .fz (rS z.2.1), .un]) (Z := (fun _ _ x => .ret ((RK.fz (rRule T.C_Rule)).ok x))) T.FRule_parse scRuleParse (fun _ _ => rfl) (fun _ _ => rfl) (fun _ _ => ⟨.inl rfl, .inl rfl, .inl rfl, trivial⟩) (fun _ _ _ _ _ _ h => (own_none rfl h).elim) (fun _ _ _ => .inl rfl) (fun cdv A outer s H E a0 y hr => ?_)
  obtain ⟨cls_, text_, _⟩ := y
  show RB _ _ ([.un, .un, .un] : RF.Ctx) false [.fz ((rK T.C_Rule) cls_), .fz (rS text_), .un] _ (P_RuleParse cls_ text_) _
  exact (rb_for (s0 := ()) (vs := [2]) (Zr := (fun x => .ret ((RK.fz (rRule T.C_Rule)).ok x))) (kr := (fun x => x)) (fun (s3 : Unit) => [.fz ((rK T.C_Rule) cls_), .fz (rS text_), .un]) (fun (x : ORule) Γ => Γ.set 2 (.fz ((rRule T.C_Rule) x))) (ps_for (passes_of rfl) rfl (pi_list peE) (pg_name (i := 2) scRuleParse.nd rfl (.inl rfl)) pssS) (ri_list (re_frz (re_sm0 (mo := (pure cls_)) (m := fun _ => P_RuleEvery) (re_var (ρ := (rK T.C_Rule)) (x := cls_) 0 rfl (pv 0)) T.m_Rule_every GRule_every (hr.mono (by decide)) (takes_of rfl rfl rfl rfl) T.bRule_every) frz_L)) (fun _ => rg_name) ⟨.inr rfl, .inr rfl, .inl rfl, trivial⟩ (fun _ => ⟨.inl rfl, .inl rfl, .inl rfl, trivial⟩) (fun _ _ => ⟨.inl rfl, .inl rfl, .inl rfl, trivial⟩) (fun (s3 : Unit) (w4 : ORule) => (rb_if0 (rt_rc (rc_eqS (by intro x y; first | rfl | (cases x <;> rfl) | (cases y <;> rfl) | (cases x <;> cases y <;> rfl)) (re_strO (m := fun z => P_RuleStr z.1) (fsRule) T.m_Rule_str GRule_str (hr.mono (by decide)) (takes_of rfl rfl rfl rfl) T.bRule_str (re_var (ρ := (rRule T.C_Rule)) (x := w4) 2 rfl (pv 2)) T.z_str) (re_var (ρ := rS) (x := text_) 1 rfl (pv 1)))) (rb_ret (fun (r9 : ORule) => (Lp.ret r9)) (re_var (ρ := (rRule T.C_Rule)) (x := w4) 2 rfl (pv 2)) (fun _ => rfl)) (rb_nil (x := (Lp.go ())) (.inr rfl) ⟨.inr rfl, .inr rfl, .inl rfl, trivial⟩))) (fun _ => rfl) (fun _ => ⟨_, rfl⟩) fun (s10 : Unit) => (rb_raise (pmk_1 T.ox_BadRule T.ni_BadRule T.ti_BadRule GBadRule_init (hr.mono (by decide)) T.bBadRule_init (by rfl) T.g_BadRule tE_mono (pa_cons peE pa_nil)) (takes_of rfl rfl rfl rfl) (rx_1 re_str T.g_BadRule)))
end
end DD
namespace DD
open PySem PySem.Spec PyProof.Rows L2 KO SX RF
section
variable {P : Program} {w : World} {K : PySem.W.Frag} {mg : Str → Option Value} {base : Heap}
theorem scLchar : FnScope ["_law_place", "_law_chars"] ["_law_place"] (defScope sLchar) := ⟨rfl, rfl, rfl, by decide +kernel, rfl, by decide +kernel, by decide +kernel⟩
def P_Lchar (place_ : Int) : Mo Str :=
  ((pure (" !\"#$&'()*+,-./0123456789:;<=>?@ABCDEFGHIJKLMNOPQRSTUVWXYZ[\\]^_`" : Str)) >>= fun chars_1 => (((pure chars_1) >>= fun x2 => (pure ("abcdefghijklmnopqrstuvwxyz{|}~" : Str)) >>= fun y3 => Mo.rq (x2.length + y3.length ≤ sizeLine) (x2 ++ y3)) >>= fun chars_4 => (((pure chars_4) >>= fun x6 => (pure place_) >>= fun i7 => Mo.rq (x6.length ≤ sizeLine) () >>= fun _ => Mo.get (atI (chars x6) i7)) >>= fun r5 => pure r5)))
theorem fn_Lchar (T : Tx K mg) : FnOk P w K mg base (L2.CX P w) 2 T.f_law_char T.d_law_char ["_law_place"] (spR K mg (fun (c : Unit) (z : Int × Unit) => [.fz (rI z.1)]) (fun z => P_Lchar z.1) (RK.fz rS)) := by
  refine fn_mk (Γe := fun c z => [.un, .un]) (Γ0 := fun c z => [.fz (rI z.1), .un]) (Z := (fun _ _ x => .ret ((RK.fz rS).ok x))) T.F_law_char scLchar (fun _ _ => rfl) (fun _ _ => rfl) (fun _ _ => ⟨.inl rfl, .inl rfl, trivial⟩) (fun _ _ _ _ _ _ h => (own_none rfl h).elim) (fun _ _ _ => .inl rfl) (fun cdv A outer s H E a0 y hr => ?_)
  obtain ⟨place_, _⟩ := y
  show RB _ _ ([.un, .un] : RF.Ctx) false [.fz (rI place_), .un] _ (P_Lchar place_) _
  exact (rb_set (ps_set (i := 1) scLchar.nd rfl (.inl rfl) peE) re_str rfl fun (chars_1 : Str) => (rb_set (ps_set (i := 1) scLchar.nd rfl (.inl rfl) peE) (re_addS (re_var (ρ := rS) (x := chars_1) 1 rfl (pv 1)) re_str) rfl fun (chars_4 : Str) => (rb_ret (fun (r5 : Str) => r5) (re_ixS (re_var (ρ := rS) (x := chars_4) 1 rfl (pv 1)) (re_var (ρ := rI) (x := place_) 0 rfl (pv 0))) (fun _ => rfl))))

theorem scLwritten : FnScope ["_law_first", "_law_second"] ["_law_first", "_law_second"] (defScope sLwritten) := ⟨rfl, rfl, rfl, by decide +kernel, rfl, by decide +kernel, by decide +kernel⟩
def P_Lwritten (first_ : Str) (second_ : Str) : Mo Str :=
  (((((pure ("send " : Str)) >>= fun x2 => (pure first_) >>= fun y3 => Mo.rq (x2.length + y3.length ≤ sizeLine) (x2 ++ y3)) >>= fun x4 => (pure (", charge " : Str)) >>= fun y5 => Mo.rq (x4.length + y5.length ≤ sizeLine) (x4 ++ y5)) >>= fun x6 => (pure second_) >>= fun y7 => Mo.rq (x6.length + y7.length ≤ sizeLine) (x6 ++ y7)) >>= fun r1 => pure r1)
theorem fn_Lwritten (T : Tx K mg) : FnOk P w K mg base (L2.CX P w) 2 T.f_law_written T.d_law_written ["_law_first", "_law_second"] (spR K mg (fun (c : Unit) (z : Str × Str × Unit) => [.fz (rS z.1), .fz (rS z.2.1)]) (fun z => P_Lwritten z.1 z.2.1) (RK.fz rS)) := by
  refine fn_mk (Γe := fun c z => [.un, .un]) (Γ0 := fun c z => [.fz (rS z.1), .fz (rS z.2.1)]) (Z := (fun _ _ x => .ret ((RK.fz rS).ok x))) T.F_law_written scLwritten (fun _ _ => rfl) (fun _ _ => rfl) (fun _ _ => ⟨.inl rfl, .inl rfl, trivial⟩) (fun _ _ _ _ _ _ h => (own_none rfl h).elim) (fun _ _ _ => .inl rfl) (fun cdv A outer s H E a0 y hr => ?_)
  obtain ⟨first_, second_, _⟩ := y
  show RB _ _ ([.un, .un] : RF.Ctx) false [.fz (rS first_), .fz (rS second_)] _ (P_Lwritten first_ second_) _
  exact (rb_ret (fun (r1 : Str) => r1) (re_addS (re_addS (re_addS re_str (re_var (ρ := rS) (x := first_) 0 rfl (pv 0))) re_str) (re_var (ρ := rS) (x := second_) 1 rfl (pv 1))) (fun _ => rfl))

theorem scLtext : FnScope ["_law_pool_here", "_law_first", "_law_second", "_law_good", "_law_kind", "_law_place", "_law_char_here", "_law_odd", "_law_near", "_law_many", "_law_k"] ["_law_pool_here", "_law_first", "_law_second"] (defScope sLtext) := ⟨rfl, rfl, rfl, by decide +kernel, rfl, by decide +kernel, by decide +kernel⟩
def P_Ltext (first_ : Str) (second_ : Str) : Mo Str :=
  ((((pure first_) >>= fun x4 => ((pure second_) >>= fun x2 => (pure ()) >>= fun y3 => pure (x2, y3)) >>= fun y5 => pure (x4, y5)) >>= fun y1 => P_Lwritten y1.1 y1.2.1) >>= fun good_6 => ((((pure (8 : Int)) >>= fun x8 => (pure ()) >>= fun y9 => pure (x8, y9)) >>= fun y7 => Mo.take y7.1) >>= fun kind_10 => ((((((pure good_6) >>= fun x11 => Mo.rq (x11.length ≤ sizeLine) (x11.length : Int)) >>= fun i12 => (pure (1 : Int)) >>= fun j13 => pure (i12 + j13)) >>= fun x15 => (pure ()) >>= fun y16 => pure (x15, y16)) >>= fun y14 => Mo.take y14.1) >>= fun place_17 => ((((((pure (94 : Int)) >>= fun x20 => (pure ()) >>= fun y21 => pure (x20, y21)) >>= fun y19 => Mo.take y19.1) >>= fun x22 => (pure ()) >>= fun y23 => pure (x22, y23)) >>= fun y18 => P_Lchar y18.1) >>= fun char_24 => (((pure kind_10) >>= fun i25 => (pure (0 : Int)) >>= fun j26 => pure (decide (i25 = j26))) >>= fun c27 => if c27 = true then (((((pure good_6) >>= fun x30 => (pure none) >>= fun l31 => ((pure place_17) >>= fun i29 => pure (some i29)) >>= fun h32 => Mo.rq (x30.length ≤ sizeLine) (cutS x30 l31 h32)) >>= fun x33 => (pure char_24) >>= fun y34 => Mo.rq (x33.length + y34.length ≤ sizeLine) (x33 ++ y34)) >>= fun x39 => ((pure good_6) >>= fun x36 => ((pure place_17) >>= fun i35 => pure (some i35)) >>= fun l37 => (pure none) >>= fun h38 => Mo.rq (x36.length ≤ sizeLine) (cutS x36 l37 h38)) >>= fun y40 => Mo.rq (x39.length + y40.length ≤ sizeLine) (x39 ++ y40)) >>= fun r28 => pure r28) else (((pure kind_10) >>= fun i41 => (pure (1 : Int)) >>= fun j42 => pure (decide (i41 = j42))) >>= fun c43 => if c43 = true then ((((pure good_6) >>= fun x46 => (pure none) >>= fun l47 => ((pure place_17) >>= fun i45 => pure (some i45)) >>= fun h48 => Mo.rq (x46.length ≤ sizeLine) (cutS x46 l47 h48)) >>= fun x55 => ((pure good_6) >>= fun x52 => (((pure place_17) >>= fun i49 => (pure (1 : Int)) >>= fun j50 => pure (i49 + j50)) >>= fun i51 => pure (some i51)) >>= fun l53 => (pure none) >>= fun h54 => Mo.rq (x52.length ≤ sizeLine) (cutS x52 l53 h54)) >>= fun y56 => Mo.rq (x55.length + y56.length ≤ sizeLine) (x55 ++ y56)) >>= fun r44 => pure r44) else (((pure kind_10) >>= fun i57 => (pure (2 : Int)) >>= fun j58 => pure (decide (i57 = j58))) >>= fun c59 => if c59 = true then (((((pure good_6) >>= fun x62 => (pure none) >>= fun l63 => ((pure place_17) >>= fun i61 => pure (some i61)) >>= fun h64 => Mo.rq (x62.length ≤ sizeLine) (cutS x62 l63 h64)) >>= fun x65 => (pure char_24) >>= fun y66 => Mo.rq (x65.length + y66.length ≤ sizeLine) (x65 ++ y66)) >>= fun x73 => ((pure good_6) >>= fun x70 => (((pure place_17) >>= fun i67 => (pure (1 : Int)) >>= fun j68 => pure (i67 + j68)) >>= fun i69 => pure (some i69)) >>= fun l71 => (pure none) >>= fun h72 => Mo.rq (x70.length ≤ sizeLine) (cutS x70 l71 h72)) >>= fun y74 => Mo.rq (x73.length + y74.length ≤ sizeLine) (x73 ++ y74)) >>= fun r60 => pure r60) else (((pure kind_10) >>= fun i75 => (pure (3 : Int)) >>= fun j76 => pure (decide (i75 = j76))) >>= fun c77 => if c77 = true then (((((pure ("charge " : Str)) >>= fun x79 => (pure second_) >>= fun y80 => Mo.rq (x79.length + y80.length ≤ sizeLine) (x79 ++ y80)) >>= fun x81 => (pure (", send " : Str)) >>= fun y82 => Mo.rq (x81.length + y82.length ≤ sizeLine) (x81 ++ y82)) >>= fun x83 => (pure first_) >>= fun y84 => Mo.rq (x83.length + y84.length ≤ sizeLine) (x83 ++ y84)) >>= fun r78 => pure r78) else (((pure kind_10) >>= fun i85 => (pure (4 : Int)) >>= fun j86 => pure (decide (i85 = j86))) >>= fun c87 => if c87 = true then ((((pure ("" : Str)) >>= fun x98 => ((pure ("send first" : Str)) >>= fun x96 => ((pure ("send first, charge" : Str)) >>= fun x94 => ((pure ("send first,charge last" : Str)) >>= fun x92 => ((pure ("send first charge last" : Str)) >>= fun x90 => ((pure ("first, last" : Str)) >>= fun x88 => (pure ()) >>= fun y89 => pure (x88, y89)) >>= fun y91 => pure (x90, y91)) >>= fun y93 => pure (x92, y93)) >>= fun y95 => pure (x94, y95)) >>= fun y97 => pure (x96, y97)) >>= fun y99 => pure (x98, y99)) >>= fun y100 => pure [y100.1, y100.2.1, y100.2.2.1, y100.2.2.2.1, y100.2.2.2.2.1, y100.2.2.2.2.2.1]) >>= fun odd_101 => (((pure odd_101) >>= fun x111 => (((pure ("send  first, charge last" : Str)) >>= fun x108 => ((pure (" send first, charge last" : Str)) >>= fun x106 => ((pure ("send first, charge last " : Str)) >>= fun x104 => ((pure ("charge last" : Str)) >>= fun x102 => (pure ()) >>= fun y103 => pure (x102, y103)) >>= fun y105 => pure (x104, y105)) >>= fun y107 => pure (x106, y107)) >>= fun y109 => pure (x108, y109)) >>= fun y110 => pure [y110.1, y110.2.1, y110.2.2.1, y110.2.2.2.1]) >>= fun y112 => Mo.rq (x111.length + y112.length ≤ sizeLine) (x111 ++ y112)) >>= fun odd_113 => (((pure odd_113) >>= fun x121 => (((pure ("send first, charge last, charge last" : Str)) >>= fun x118 => ((pure ("send first; charge last" : Str)) >>= fun x116 => ((pure ("SEND first, CHARGE last" : Str)) >>= fun x114 => (pure ()) >>= fun y115 => pure (x114, y115)) >>= fun y117 => pure (x116, y117)) >>= fun y119 => pure (x118, y119)) >>= fun y120 => pure [y120.1, y120.2.1, y120.2.2.1]) >>= fun y122 => Mo.rq (x121.length + y122.length ≤ sizeLine) (x121 ++ y122)) >>= fun odd_123 => (((pure odd_123) >>= fun x128 => (((pure (13 : Int)) >>= fun x126 => (pure ()) >>= fun y127 => pure (x126, y127)) >>= fun y125 => Mo.take y125.1) >>= fun i129 => Mo.get (atI x128 i129)) >>= fun r124 => pure r124)))) else (((pure kind_10) >>= fun i130 => (pure (5 : Int)) >>= fun j131 => pure (decide (i130 = j131))) >>= fun c132 => if c132 = true then ((((pure ("first" : Str)) >>= fun x151 => ((pure ("last" : Str)) >>= fun x149 => ((pure ("fullest" : Str)) >>= fun x147 => ((pure ("emptiest" : Str)) >>= fun x145 => ((pure ("" : Str)) >>= fun x143 => ((pure ("First" : Str)) >>= fun x141 => ((pure ("full" : Str)) >>= fun x139 => ((pure ("empty" : Str)) >>= fun x137 => ((pure ("fulles" : Str)) >>= fun x135 => ((pure ("lastt" : Str)) >>= fun x133 => (pure ()) >>= fun y134 => pure (x133, y134)) >>= fun y136 => pure (x135, y136)) >>= fun y138 => pure (x137, y138)) >>= fun y140 => pure (x139, y140)) >>= fun y142 => pure (x141, y142)) >>= fun y144 => pure (x143, y144)) >>= fun y146 => pure (x145, y146)) >>= fun y148 => pure (x147, y148)) >>= fun y150 => pure (x149, y150)) >>= fun y152 => pure (x151, y152)) >>= fun y153 => pure [y153.1, y153.2.1, y153.2.2.1, y153.2.2.2.1, y153.2.2.2.2.1, y153.2.2.2.2.2.1, y153.2.2.2.2.2.2.1, y153.2.2.2.2.2.2.2.1, y153.2.2.2.2.2.2.2.2.1, y153.2.2.2.2.2.2.2.2.2.1]) >>= fun near_154 => (((((pure near_154) >>= fun x160 => (((pure (10 : Int)) >>= fun x158 => (pure ()) >>= fun y159 => pure (x158, y159)) >>= fun y157 => Mo.take y157.1) >>= fun i161 => Mo.get (atI x160 i161)) >>= fun x169 => (((pure near_154) >>= fun x165 => (((pure (10 : Int)) >>= fun x163 => (pure ()) >>= fun y164 => pure (x163, y164)) >>= fun y162 => Mo.take y162.1) >>= fun i166 => Mo.get (atI x165 i166)) >>= fun x167 => (pure ()) >>= fun y168 => pure (x167, y168)) >>= fun y170 => pure (x169, y170)) >>= fun y156 => P_Lwritten y156.1 y156.2.1) >>= fun r155 => pure r155)) else (((pure kind_10) >>= fun i171 => (pure (6 : Int)) >>= fun j172 => pure (decide (i171 = j172))) >>= fun c173 => if c173 = true then ((((pure (41 : Int)) >>= fun x175 => (pure ()) >>= fun y176 => pure (x175, y176)) >>= fun y174 => Mo.take y174.1) >>= fun many_177 => (((pure ("" : Str)) >>= fun x188 => (((pure many_177) >>= fun i179 => Mo.rq (-(2 ^ 62) ≤ i179 ∧ i179 < 2 ^ 62) (rangeL 0 i179.toNat)) >>= Mo.lc (fun w181 => (pure true)) (fun w181 => (((((pure (94 : Int)) >>= fun x184 => (pure ()) >>= fun y185 => pure (x184, y185)) >>= fun y183 => Mo.take y183.1) >>= fun x186 => (pure ()) >>= fun y187 => pure (x186, y187)) >>= fun y182 => P_Lchar y182.1))) >>= fun y189 => Mo.rq ((y189.map (·.length)).sum + y189.length * x188.length ≤ 16777216) (Txt.join x188 y189)) >>= fun r178 => pure r178)) else ((pure good_6) >>= fun r190 => pure r190))))))))))))
theorem fn_Ltext (T : Tx K mg) : FnOk P w K mg base (L2.CX P w) 3 T.f_law_text T.d_law_text ["_law_pool_here", "_law_first", "_law_second"] (spR K mg (fun (c : Addr) (z : Str × Str × Unit) => [.ow false c oPool, .fz (rS z.1), .fz (rS z.2.1)]) (fun z => P_Ltext z.1 z.2.1) (RK.fz rS)) := by
  have G_law_char := fn_Lchar (P := P) (w := w) (base := base) T
  have G_law_take := fn_take (P := P) (w := w) (base := base) T
  have G_law_written := fn_Lwritten (P := P) (w := w) (base := base) T
  refine fn_mk (Γe := fun c z => [.ow false c oPool, .un, .un, .un, .un, .un, .un, .un, .un, .un, .un]) (Γ0 := fun c z => [.ow false c oPool, .fz (rS z.1), .fz (rS z.2.1), .un, .un, .un, .un, .un, .un, .un, .un]) (Z := (fun _ _ x => .ret ((RK.fz rS).ok x))) T.F_law_text scLtext (fun _ _ => rfl) (fun _ _ => rfl) (fun _ _ => ⟨.inr rfl, .inl rfl, .inl rfl, .inl rfl, .inl rfl, .inl rfl, .inl rfl, .inl rfl, .inl rfl, .inl rfl, .inl rfl, trivial⟩) (fun _ _ => own_first rfl) (fun _ _ _ => .inl rfl) (fun cdv A outer s H E a0 y hr => ?_)
  obtain ⟨first_, second_, _⟩ := y
  show RB _ _ ([.ow false a0 oPool, .un, .un, .un, .un, .un, .un, .un, .un, .un, .un] : RF.Ctx) false [.ow false a0 oPool, .fz (rS first_), .fz (rS second_), .un, .un, .un, .un, .un, .un, .un, .un] _ (P_Ltext first_ second_) _
  exact (rb_set (ps_set (i := 3) scLtext.nd rfl (.inl rfl) peE) (re_call () G_law_written (hr.mono (by decide)) (takes_of rfl rfl rfl rfl) (ra_cons (re_var (ρ := rS) (x := first_) 1 rfl (pv 1)) (ra_cons (re_var (ρ := rS) (x := second_) 2 rfl (pv 2)) ra_nil)) T.g_law_written T.F_law_written.kp T.b_law_written) rfl fun (good_6 : Str) => (rb_set (ps_set (i := 4) scLtext.nd rfl (.inl rfl) peE) (re_call a0 G_law_take (hr.mono (by decide)) (takes_of rfl rfl rfl rfl) (ra_own (qo := oPool) rfl (pv 0) (ra_cons re_int ra_nil)) T.g_law_take T.F_law_take.kp T.b_law_take) rfl fun (kind_10 : Int) => (rb_set (ps_set (i := 5) scLtext.nd rfl (.inl rfl) peE) (re_call a0 G_law_take (hr.mono (by decide)) (takes_of rfl rfl rfl rfl) (ra_own (qo := oPool) rfl (pv 0) (ra_cons (re_add (re_lenS (re_var (ρ := rS) (x := good_6) 3 rfl (pv 3)) T.z_len) re_int) ra_nil)) T.g_law_take T.F_law_take.kp T.b_law_take) rfl fun (place_17 : Int) => (rb_set (ps_set (i := 6) scLtext.nd rfl (.inl rfl) peE) (re_call () G_law_char (hr.mono (by decide)) (takes_of rfl rfl rfl rfl) (ra_cons (re_call a0 G_law_take (hr.mono (by decide)) (takes_of rfl rfl rfl rfl) (ra_own (qo := oPool) rfl (pv 0) (ra_cons re_int ra_nil)) T.g_law_take T.F_law_take.kp T.b_law_take) ra_nil) T.g_law_char T.F_law_char.kp T.b_law_char) rfl fun (char_24 : Str) => (rb_if1 (rt_rc (rc_i i_eq (re_var (ρ := rI) (x := kind_10) 4 rfl (pv 4)) re_int)) (rb_ret (fun (r28 : Str) => r28) (re_addS (re_addS (re_slS (re_var (ρ := rS) (x := good_6) 3 rfl (pv 3)) rp_none (rp_some (re_var (ρ := rI) (x := place_17) 5 rfl (pv 5)))) (re_var (ρ := rS) (x := char_24) 6 rfl (pv 6))) (re_slS (re_var (ρ := rS) (x := good_6) 3 rfl (pv 3)) (rp_some (re_var (ρ := rI) (x := place_17) 5 rfl (pv 5))) rp_none)) (fun _ => rfl)) (rb_if1 (rt_rc (rc_i i_eq (re_var (ρ := rI) (x := kind_10) 4 rfl (pv 4)) re_int)) (rb_ret (fun (r44 : Str) => r44) (re_addS (re_slS (re_var (ρ := rS) (x := good_6) 3 rfl (pv 3)) rp_none (rp_some (re_var (ρ := rI) (x := place_17) 5 rfl (pv 5)))) (re_slS (re_var (ρ := rS) (x := good_6) 3 rfl (pv 3)) (rp_some (re_add (re_var (ρ := rI) (x := place_17) 5 rfl (pv 5)) re_int)) rp_none)) (fun _ => rfl)) (rb_if1 (rt_rc (rc_i i_eq (re_var (ρ := rI) (x := kind_10) 4 rfl (pv 4)) re_int)) (rb_ret (fun (r60 : Str) => r60) (re_addS (re_addS (re_slS (re_var (ρ := rS) (x := good_6) 3 rfl (pv 3)) rp_none (rp_some (re_var (ρ := rI) (x := place_17) 5 rfl (pv 5)))) (re_var (ρ := rS) (x := char_24) 6 rfl (pv 6))) (re_slS (re_var (ρ := rS) (x := good_6) 3 rfl (pv 3)) (rp_some (re_add (re_var (ρ := rI) (x := place_17) 5 rfl (pv 5)) re_int)) rp_none)) (fun _ => rfl)) (rb_if1 (rt_rc (rc_i i_eq (re_var (ρ := rI) (x := kind_10) 4 rfl (pv 4)) re_int)) (rb_ret (fun (r78 : Str) => r78) (re_addS (re_addS (re_addS re_str (re_var (ρ := rS) (x := second_) 2 rfl (pv 2))) re_str) (re_var (ρ := rS) (x := first_) 1 rfl (pv 1))) (fun _ => rfl)) (rb_if1 (rt_rc (rc_i i_eq (re_var (ρ := rI) (x := kind_10) 4 rfl (pv 4)) re_int)) (rb_set (ps_set (i := 7) scLtext.nd rfl (.inl rfl) peE) (re_frz (re_lst (fun (y100 : Str × Str × Str × Str × Str × Str × Unit) => [y100.1, y100.2.1, y100.2.2.1, y100.2.2.2.1, y100.2.2.2.2.1, y100.2.2.2.2.2.1]) rS (ra_cons re_str (ra_cons re_str (ra_cons re_str (ra_cons re_str (ra_cons re_str (ra_cons re_str ra_nil))))))) frz_L) rfl fun (odd_101 : (List Str)) => (rb_set (ps_set (i := 7) scLtext.nd rfl (.inl rfl) peE) (re_frz (re_cat (re_var (ρ := (rL rS)) (x := odd_101) 7 rfl (pv 7)) (re_frz (re_lst (fun (y110 : Str × Str × Str × Str × Unit) => [y110.1, y110.2.1, y110.2.2.1, y110.2.2.2.1]) rS (ra_cons re_str (ra_cons re_str (ra_cons re_str (ra_cons re_str ra_nil))))) frz_L)) frz_L) rfl fun (odd_113 : (List Str)) => (rb_set (ps_set (i := 7) scLtext.nd rfl (.inl rfl) peE) (re_frz (re_cat (re_var (ρ := (rL rS)) (x := odd_113) 7 rfl (pv 7)) (re_frz (re_lst (fun (y120 : Str × Str × Str × Unit) => [y120.1, y120.2.1, y120.2.2.1]) rS (ra_cons re_str (ra_cons re_str (ra_cons re_str ra_nil)))) frz_L)) frz_L) rfl fun (odd_123 : (List Str)) => (rb_ret (fun (r124 : Str) => r124) (re_ixL (re_var (ρ := (rL rS)) (x := odd_123) 7 rfl (pv 7)) (re_call a0 G_law_take (hr.mono (by decide)) (takes_of rfl rfl rfl rfl) (ra_own (qo := oPool) rfl (pv 0) (ra_cons re_int ra_nil)) T.g_law_take T.F_law_take.kp T.b_law_take)) (fun _ => rfl))))) (rb_if1 (rt_rc (rc_i i_eq (re_var (ρ := rI) (x := kind_10) 4 rfl (pv 4)) re_int)) (rb_set (ps_set (i := 8) scLtext.nd rfl (.inl rfl) peE) (re_frz (re_lst (fun (y153 : Str × Str × Str × Str × Str × Str × Str × Str × Str × Str × Unit) => [y153.1, y153.2.1, y153.2.2.1, y153.2.2.2.1, y153.2.2.2.2.1, y153.2.2.2.2.2.1, y153.2.2.2.2.2.2.1, y153.2.2.2.2.2.2.2.1, y153.2.2.2.2.2.2.2.2.1, y153.2.2.2.2.2.2.2.2.2.1]) rS (ra_cons re_str (ra_cons re_str (ra_cons re_str (ra_cons re_str (ra_cons re_str (ra_cons re_str (ra_cons re_str (ra_cons re_str (ra_cons re_str (ra_cons re_str ra_nil))))))))))) frz_L) rfl fun (near_154 : (List Str)) => (rb_ret (fun (r155 : Str) => r155) (re_call () G_law_written (hr.mono (by decide)) (takes_of rfl rfl rfl rfl) (ra_cons (re_ixL (re_var (ρ := (rL rS)) (x := near_154) 8 rfl (pv 8)) (re_call a0 G_law_take (hr.mono (by decide)) (takes_of rfl rfl rfl rfl) (ra_own (qo := oPool) rfl (pv 0) (ra_cons re_int ra_nil)) T.g_law_take T.F_law_take.kp T.b_law_take)) (ra_cons (re_ixL (re_var (ρ := (rL rS)) (x := near_154) 8 rfl (pv 8)) (re_call a0 G_law_take (hr.mono (by decide)) (takes_of rfl rfl rfl rfl) (ra_own (qo := oPool) rfl (pv 0) (ra_cons re_int ra_nil)) T.g_law_take T.F_law_take.kp T.b_law_take)) ra_nil)) T.g_law_written T.F_law_written.kp T.b_law_written) (fun _ => rfl))) (rb_if1 (rt_rc (rc_i i_eq (re_var (ρ := rI) (x := kind_10) 4 rfl (pv 4)) re_int)) (rb_set (ps_set (i := 9) scLtext.nd rfl (.inl rfl) peE) (re_call a0 G_law_take (hr.mono (by decide)) (takes_of rfl rfl rfl rfl) (ra_own (qo := oPool) rfl (pv 0) (ra_cons re_int ra_nil)) T.g_law_take T.F_law_take.kp T.b_law_take) rfl fun (many_177 : Int) => (rb_ret (fun (r178 : Str) => r178) (re_join re_str (rsq_F (re_of (pe_lc (own := [("_law_k", 10)]) (g := gName 10) rfl scLtext.nd (pi_range1 (by rfl) T.z_range (pa_cons peE pa_nil)) (blkOk_by (own := [("_law_k", 10)]) (N := ["_law_pool_here", "_law_first", "_law_second", "_law_good", "_law_kind", "_law_place", "_law_char_here", "_law_odd", "_law_near", "_law_many", "_law_k"]) (sc := defScope sLtext) (by decide +kernel)) (fun _ _ _ _ _ => pg_name (i := 10) scLtext.nd rfl (.inl rfl)) ptPi peEi) (rte_lc (vs := [10]) (fun (x : Int) Γ => Γ.set 10 (.fz (rI x))) (ri_range1 (re_var (ρ := rI) (x := many_177) 9 rfl (pv 9))) (fun _ => rg_name) (fun _ => rgo_name) (un1 rfl) (fun (w181 : Int) => rti_nil) (fun (w181 : Int) _ _ _ _ _ => (re_call () G_law_char (hr.mono (by decide)) takes0 (ra_cons (re_call a0 G_law_take (hr.mono (by decide)) takes0 (ra_own (qo := oPool) rfl (pv 0) (ra_cons re_int ra_nil)) T.g_law_take T.F_law_take.kp T.b_law_take) ra_nil) T.g_law_char T.F_law_char.kp T.b_law_char)))))) (fun _ => rfl))) (rb_ret (fun (r190 : Str) => r190) (re_var (ρ := rS) (x := good_6) 3 rfl (pv 3)) (fun _ => rfl)))))))))))))

theorem scLparsed : FnScope ["_law_text_here", "_law_rule", "_law_part", "e"] ["_law_text_here"] (defScope sLparsed) := ⟨rfl, rfl, rfl, by decide +kernel, rfl, by decide +kernel, by decide +kernel⟩
def P_Lparsed (text_here_ : Str) : Mo ((Option ORule) × (Option (Str × Bool))) :=
  (((fun _ => none) <$> (pure ())) >>= fun rule_1 => (((fun _ => none) <$> (pure ())) >>= fun part_2 => (Mo.catch1 (((fun x => some ((fun x => x) x)) <$> ((pure ()) >>= fun x3 => ((pure text_here_) >>= fun x5 => (pure ()) >>= fun y6 => pure (x5, y6)) >>= fun y4 => P_RuleParse x3 y4.1)) >>= fun rule_7 => pure (rule_7, part_2)) "BadRule" [] (fun ex8 => (((fun x => some ((fun x => x) x)) <$> ((((Mo.get (ex8.fs.lookup ("part" : Str))) >>= fun d9 => Mo.get (Dec.d rS d9)) >>= fun x15 => (((pure true) >>= fun b12 => if b12 then ((pure true) >>= fun b11 => if b11 then ((pure false) >>= fun b10 => pure (!b10)) else pure false) else pure false) >>= fun x13 => (pure ()) >>= fun y14 => pure (x13, y14)) >>= fun y16 => pure (x15, y16)) >>= fun y17 => pure (y17.1, y17.2.1))) >>= fun part_18 => (pure (rule_1, part_18)))) >>= fun j19 => ((((pure j19.1) >>= fun x23 => ((pure j19.2) >>= fun x21 => (pure ()) >>= fun y22 => pure (x21, y22)) >>= fun y24 => pure (x23, y24)) >>= fun y25 => pure (y25.1, y25.2.1)) >>= fun r20 => pure r20))))
theorem fn_Lparsed (T : Tx K mg) : FnOk P w K mg base (L2.CX P w) 7 T.f_law_parsed T.d_law_parsed ["_law_text_here"] (spR K mg (fun (c : Unit) (z : Str × Unit) => [.fz (rS z.1)]) (fun z => P_Lparsed z.1) (RK.fz (rT2 (rO (rRule T.C_Rule)) (rO (rT2 rS rB))))) := by
  have GRule_parse := fn_RuleParse (P := P) (w := w) (base := base) T
  refine fn_mk (Γe := fun c z => [.un, .un, .un, .un]) (Γ0 := fun c z => [.fz (rS z.1), .un, .un, .un]) (Z := (fun _ _ x => .ret ((RK.fz (rT2 (rO (rRule T.C_Rule)) (rO (rT2 rS rB)))).ok x))) T.F_law_parsed scLparsed (fun _ _ => rfl) (fun _ _ => rfl) (fun _ _ => ⟨.inl rfl, .inl rfl, .inl rfl, .inl rfl, trivial⟩) (fun _ _ _ _ _ _ h => (own_none rfl h).elim) (fun _ _ _ => .inl rfl) (fun cdv A outer s H E a0 y hr => ?_)
  obtain ⟨text_here_, _⟩ := y
  show RB _ _ ([.un, .un, .un, .un] : RF.Ctx) false [.fz (rS text_here_), .un, .un, .un] _ (P_Lparsed text_here_) _
  exact (rb_set (ps_set (i := 1) scLparsed.nd rfl (.inl rfl) peE) (re_coe (ρ' := (rO (rRule T.C_Rule))) (f := (fun _ => none)) co_none re_non) rfl fun (rule_1 : (Option ORule)) => (rb_set (ps_set (i := 2) scLparsed.nd rfl (.inl rfl) peE) (re_coe (ρ' := (rO (rT2 rS rB))) (f := (fun _ => none)) co_none re_non) rfl fun (part_2 : (Option (Str × Bool))) => (rb_try1S (i := 3) (fls := []) (tgt := (fun (x : (Option ORule)) Γ => Γ.set 1 (.fz ((rO (rRule T.C_Rule)) x)))) (jb := fun (rule_7 : (Option ORule)) => (rule_7, part_2)) (fun (j19 : (Option ORule) × (Option (Str × Bool))) => [.fz (rS text_here_), .fz ((rO (rRule T.C_Rule)) j19.1), .fz ((rO (rT2 rS rB)) j19.2), .un]) (fun (j19 : (Option ORule) × (Option (Str × Bool))) => [.fz (rS text_here_), .fz ((rO (rRule T.C_Rule)) j19.1), .fz ((rO (rT2 rS rB)) j19.2), .un]) (ps_try_as (i := 3) rfl rfl scLparsed.nd rfl rfl ⟨rfl, by decide, .inl T.g_BadRule⟩ (takes_of rfl rfl rfl rfl) (fun W pn xe => tb_ok W pn xe) (fun a oe cls d pn => ts_ok a oe cls d pn)) T.g_BadRule (exm_BadRule_BadRule T) (by intro n hn; cases hn) (fun pn xe W tk po => body_set (ps_set (i := 1) scLparsed.nd rfl (.inl rfl) peE) (re_coe (ρ' := (rO (rRule T.C_Rule))) (f := (fun x => some ((fun x => x) x))) (co_some co_id) (re_km (mo := (pure ())) (ma := ((pure text_here_) >>= fun x5 => (pure ()) >>= fun y6 => pure (x5, y6))) (pp := fun (y : Str × Unit) => [.fz (rS y.1)]) (m := fun z => P_RuleParse z.1 z.2.1) (re_cls (pe_glob (v := .ref T.C_Rule) (by rfl) T.g_Rule (by rfl))) T.m_Rule_parse GRule_parse (hr.mono (by decide)) tk (ra_cons (re_var (ρ := rS) (x := text_here_) 0 rfl (pv 0)) ra_nil) T.bRule_parse))) (fun (rule_7 : (Option ORule)) => ⟨.inr rfl, .inr rfl, .inr rfl, .inl rfl, trivial⟩) (fun a oe d pn ex8 hcl hz hf => (rb_set (ps_set (i := 2) scLparsed.nd rfl (.inl rfl) peE) (re_coe (ρ' := (rO (rT2 rS rB))) (f := (fun x => some ((fun x => x) x))) (co_some co_id) (re_tup (fun (y17 : Str × Bool × Unit) => (y17.1, y17.2.1)) (rT2 rS rB) (fun (y17 : Str × Bool × Unit) => [rS y17.1, rB y17.2.1]) (ra_cons (re_dec (ρ := rS) (re_exf (xfC_BadRule T) T.no_BadRule_part hz hf rfl (pv 3))) (ra_cons (re_and (re_exis (excC_BadRule T) hz hf rfl (pv 3) (pe_glob (v := .ref T.C_DepotError) rfl T.g_DepotError rfl) (fun u r => r) (kit_BadRule_DepotError T) T.z_isinstance) (re_and (re_exis (excC_BadRule T) hz hf rfl (pv 3) (pe_bltn (v := .ty "ValueError") (by rfl) T.z_ValueError (by decide +kernel) rfl) (fun u r => r) (kit_BadRule_VE T) T.z_isinstance) (re_one (re_not (re_exis (excC_BadRule T) hz hf rfl (pv 3) (pe_glob (v := .ref T.C_BadCable) rfl T.g_BadCable rfl) (fun u r => r) (kit_BadRule_BadCable T) T.z_isinstance))))) ra_nil)))) rfl fun (part_18 : (Option (Str × Bool))) => (rb_nil (x := (rule_1, part_18)) (.inl rfl) ⟨.inr rfl, .inr rfl, .inr rfl, .inl rfl, trivial⟩))) ⟨.inl rfl, .inl rfl, .inl rfl, .inl rfl, trivial⟩ (fun _ => ⟨.inr rfl, .inr rfl, .inr rfl, .inl rfl, trivial⟩) (fun _ => ⟨.inl rfl, .inl rfl, .inl rfl, .inl rfl, trivial⟩) ⟨.inl rfl, .inl rfl, .inl rfl, .inl rfl, trivial⟩ fun (j19 : (Option ORule) × (Option (Str × Bool))) => (rb_ret (fun (r20 : ((Option ORule) × (Option (Str × Bool)))) => r20) (re_tup (fun (y25 : (Option ORule) × (Option (Str × Bool)) × Unit) => (y25.1, y25.2.1)) (rT2 (rO (rRule T.C_Rule)) (rO (rT2 rS rB))) (fun (y25 : (Option ORule) × (Option (Str × Bool)) × Unit) => [(rO (rRule T.C_Rule)) y25.1, (rO (rT2 rS rB)) y25.2.1]) (ra_cons (re_var (ρ := (rO (rRule T.C_Rule))) (x := j19.1) 1 rfl (pv 1)) (ra_cons (re_var (ρ := (rO (rT2 rS rB))) (x := j19.2) 2 rfl (pv 2)) ra_nil))) (fun _ => rfl)))))

theorem scLis : FnScope ["_law_rule", "_law_first", "_law_second"] ["_law_rule", "_law_first", "_law_second"] (defScope sLis) := ⟨rfl, rfl, rfl, by decide +kernel, rfl, by decide +kernel, by decide +kernel⟩
def P_Lis (rule_ : ORule) (first_ : Str) (second_ : Str) : Mo Bool :=
  (((((pure rule_) >>= fun _ => pure true) >>= fun b1 => pure (!b1)) >>= fun b16 => if b16 then pure true else ((((((pure rule_) >>= fun x2 => Mo.calm (P_RuleStr x2)) >>= fun v3 => Mo.rq (Enc.ok rS v3) (Enc.d rS v3)) >>= fun x13 => (((((pure first_) >>= fun x7 => ((pure second_) >>= fun x5 => (pure ()) >>= fun y6 => pure (x5, y6)) >>= fun y8 => pure (x7, y8)) >>= fun y4 => P_Lwritten y4.1 y4.2.1) >>= fun v9 => Mo.rq (Enc.ok rS v9) (Enc.d rS v9)) >>= fun x11 => (pure ()) >>= fun y12 => pure (x11, y12)) >>= fun y14 => pure (x13, y14)) >>= fun y10 => Mo.rq (y10.1 = y10.2.1) true) >>= fun b15 => pure (!b15))) >>= fun c17 => if c17 = true then ((pure false) >>= fun r18 => pure r18) else (((((((pure rule_) >>= fun x20 => pure (x20.1)) >>= fun v21 => Mo.rq (Enc.ok rS v21) (Enc.d rS v21)) >>= fun x26 => (((pure first_) >>= fun v22 => Mo.rq (Enc.ok rS v22) (Enc.d rS v22)) >>= fun x24 => (pure ()) >>= fun y25 => pure (x24, y25)) >>= fun y27 => pure (x26, y27)) >>= fun y23 => Mo.rq (y23.1 = y23.2.1) true) >>= fun b36 => if b36 then (((((pure rule_) >>= fun x28 => pure (x28.2)) >>= fun v29 => Mo.rq (Enc.ok rS v29) (Enc.d rS v29)) >>= fun x34 => (((pure second_) >>= fun v30 => Mo.rq (Enc.ok rS v30) (Enc.d rS v30)) >>= fun x32 => (pure ()) >>= fun y33 => pure (x32, y33)) >>= fun y35 => pure (x34, y35)) >>= fun y31 => Mo.rq (y31.1 = y31.2.1) true) else pure false) >>= fun r19 => pure r19))
theorem fn_Lis (T : Tx K mg) : FnOk P w K mg base (L2.CX P w) 9 T.f_law_is T.d_law_is ["_law_rule", "_law_first", "_law_second"] (spR K mg (fun (c : Unit) (z : ORule × Str × Str × Unit) => [.fz ((rRule T.C_Rule) z.1), .fz (rS z.2.1), .fz (rS z.2.2.1)]) (fun z => P_Lis z.1 z.2.1 z.2.2.1) (RK.fz rB)) := by
  have GRule_str := fn_RuleStr (P := P) (w := w) (base := base) T
  have G_law_same := fn_same (P := P) (w := w) (base := base) T
  have G_law_written := fn_Lwritten (P := P) (w := w) (base := base) T
  refine fn_mk (Γe := fun c z => [.un, .un, .un]) (Γ0 := fun c z => [.fz ((rRule T.C_Rule) z.1), .fz (rS z.2.1), .fz (rS z.2.2.1)]) (Z := (fun _ _ x => .ret ((RK.fz rB).ok x))) T.F_law_is scLis (fun _ _ => rfl) (fun _ _ => rfl) (fun _ _ => ⟨.inl rfl, .inl rfl, .inl rfl, trivial⟩) (fun _ _ _ _ _ _ h => (own_none rfl h).elim) (fun _ _ _ => .inl rfl) (fun cdv A outer s H E a0 y hr => ?_)
  obtain ⟨rule_, first_, second_, _⟩ := y
  show RB _ _ ([.un, .un, .un] : RF.Ctx) false [.fz ((rRule T.C_Rule) rule_), .fz (rS first_), .fz (rS second_)] _ (P_Lis rule_ first_ second_) _
  exact (rb_if1 (rt_w (rw_or (rt_not (rt_val (re_isC (fsRule) (insC_Rule T) (re_var (ρ := (rRule T.C_Rule)) (x := rule_) 0 rfl (pv 0)) (pe_glob (v := .ref T.C_Rule) rfl T.g_Rule rfl) T.z_isinstance))) (rw_or1 (rt_not (rt_val (re_call () G_law_same (hr.mono (by decide)) (takes_of rfl rfl rfl rfl) (ra_cons (re_enc (ρ := rS) (re_strO (m := fun z => P_RuleStr z.1) (fsRule) T.m_Rule_str GRule_str (hr.mono (by decide)) (takes_of rfl rfl rfl rfl) T.bRule_str (re_var (ρ := (rRule T.C_Rule)) (x := rule_) 0 rfl (pv 0)) T.z_str)) (ra_cons (re_enc (ρ := rS) (re_call () G_law_written (hr.mono (by decide)) (takes_of rfl rfl rfl rfl) (ra_cons (re_var (ρ := rS) (x := first_) 1 rfl (pv 1)) (ra_cons (re_var (ρ := rS) (x := second_) 2 rfl (pv 2)) ra_nil)) T.g_law_written T.F_law_written.kp T.b_law_written)) ra_nil)) T.g_law_same T.F_law_same.kp T.b_law_same)))))) (rb_ret (fun (r18 : Bool) => r18) re_bl (fun _ => rfl)) (rb_ret (fun (r19 : Bool) => r19) (re_and (re_call () G_law_same (hr.mono (by decide)) (takes_of rfl rfl rfl rfl) (ra_cons (re_enc (ρ := rS) (re_fld (ρ' := rS) (g := fun (x : ORule) => x.1) (fsRule) (re_var (ρ := (rRule T.C_Rule)) (x := rule_) 0 rfl (pv 0)) T.cl_Rule T.na_Rule_send_word)) (ra_cons (re_enc (ρ := rS) (re_var (ρ := rS) (x := first_) 1 rfl (pv 1))) ra_nil)) T.g_law_same T.F_law_same.kp T.b_law_same) (re_one (re_call () G_law_same (hr.mono (by decide)) (takes_of rfl rfl rfl rfl) (ra_cons (re_enc (ρ := rS) (re_fld (ρ' := rS) (g := fun (x : ORule) => x.2) (fsRule) (re_var (ρ := (rRule T.C_Rule)) (x := rule_) 0 rfl (pv 0)) T.cl_Rule T.na_Rule_charge_word)) (ra_cons (re_enc (ρ := rS) (re_var (ρ := rS) (x := second_) 2 rfl (pv 2))) ra_nil)) T.g_law_same T.F_law_same.kp T.b_law_same))) (fun _ => rfl)))
end
end DD
namespace DD
open PySem PySem.Spec PyProof.Rows L2 KO SX RF
section
variable {P : Program} {w : World} {K : PySem.W.Frag} {mg : Str → Option Value} {base : Heap}
theorem scLreads : FnScope ["_law_text_here", "_law_words", "_law_back", "_law_first", "_law_second"] ["_law_text_here", "_law_words"] (defScope sLreads) := ⟨rfl, rfl, rfl, by decide +kernel, rfl, by decide +kernel, by decide +kernel⟩
def P_Lreads (text_here_ : Str) (words_ : (List Str)) : Mo Bool :=
  ((((pure text_here_) >>= fun x2 => (pure ()) >>= fun y3 => pure (x2, y3)) >>= fun y1 => P_Lparsed y1.1) >>= fun back_4 => ((pure words_) >>= fun xs => Mo.loop (fun s5 w6 => ((pure words_) >>= fun xs => Mo.loop (fun s7 w8 => (((pure text_here_) >>= fun x9 => (((pure w6) >>= fun x14 => ((pure w8) >>= fun x12 => (pure ()) >>= fun y13 => pure (x12, y13)) >>= fun y15 => pure (x14, y15)) >>= fun y11 => P_Lwritten y11.1 y11.2.1) >>= fun y10 => pure (decide (Sc.v rS x9 = Sc.v rS y10))) >>= fun c16 => if c16 = true then (((((pure back_4) >>= fun x18 => pure x18.2) >>= fun x19 => pure x19.isNone) >>= fun b37 => if b37 then ((((((pure back_4) >>= fun x21 => pure x21.1) >>= Mo.get) >>= fun x26 => ((pure w6) >>= fun x24 => ((pure w8) >>= fun x22 => (pure ()) >>= fun y23 => pure (x22, y23)) >>= fun y25 => pure (x24, y25)) >>= fun y27 => pure (x26, y27)) >>= fun y20 => P_Lis y20.1 y20.2.1 y20.2.2.1) >>= fun b36 => if b36 then ((((pure back_4) >>= fun x28 => pure x28.1) >>= Mo.get) >>= fun x34 => (((pure w6) >>= fun x32 => ((pure w8) >>= fun x30 => (pure ()) >>= fun y31 => pure (x30, y31)) >>= fun y33 => pure (x32, y33)) >>= fun y29 => P_RuleInit y29.1 y29.2.1) >>= fun y35 => Mo.calm (P_RuleEq x34 y35)) else pure false) else pure false) >>= fun r17 => pure (Lp.ret r17)) else (pure (Lp.go ())))) xs () >>= Lp.out (fun s38 => (pure (Lp.go ()))) (fun x => (Lp.ret x)))) xs () >>= Lp.out (fun s39 => (((((pure back_4) >>= fun x41 => pure x41.1) >>= fun x42 => pure x42.isNone) >>= fun b56 => if b56 then (((((pure back_4) >>= fun x43 => pure x43.2) >>= fun v44 => Mo.rq (Enc.ok (rO (rT2 rS rB)) v44) (Enc.d (rO (rT2 rS rB)) v44)) >>= fun x54 => (((((pure ("text" : Str)) >>= fun x47 => ((pure true) >>= fun x45 => (pure ()) >>= fun y46 => pure (x45, y46)) >>= fun y48 => pure (x47, y48)) >>= fun y49 => pure (y49.1, y49.2.1)) >>= fun v50 => Mo.rq (Enc.ok (rT2 rS rB) v50) (Enc.d (rT2 rS rB) v50)) >>= fun x52 => (pure ()) >>= fun y53 => pure (x52, y53)) >>= fun y55 => pure (x54, y55)) >>= fun y51 => Mo.rq (y51.1 = y51.2.1) true) else pure false) >>= fun r40 => pure r40)) (fun x => x)))
theorem fn_Lreads (T : Tx K mg) : FnOk P w K mg base (L2.CX P w) 10 T.f_law_reads T.d_law_reads ["_law_text_here", "_law_words"] (spR K mg (fun (c : Unit) (z : Str × (List Str) × Unit) => [.fz (rS z.1), .fz ((rL rS) z.2.1)]) (fun z => P_Lreads z.1 z.2.1) (RK.fz rB)) := by
  have GRule_eq := fn_RuleEq (P := P) (w := w) (base := base) T
  have GRule_init := fn_RuleInit (P := P) (w := w) (base := base) T
  have G_law_is := fn_Lis (P := P) (w := w) (base := base) T
  have G_law_parsed := fn_Lparsed (P := P) (w := w) (base := base) T
  have G_law_same := fn_same (P := P) (w := w) (base := base) T
  have G_law_written := fn_Lwritten (P := P) (w := w) (base := base) T
  refine fn_mk (Γe := fun c z => [.un, .un, .un, .un, .un]) (Γ0 := fun c z => [.fz (rS z.1), .fz ((rL rS) z.2.1), .un, .un, .un]) (Z := (fun _ _ x => .ret ((RK.fz rB).ok x))) T.F_law_reads scLreads (fun _ _ => rfl) (fun _ _ => rfl) (fun _ _ => ⟨.inl rfl, .inl rfl, .inl rfl, .inl rfl, .inl rfl, trivial⟩) (fun _ _ _ _ _ _ h => (own_none rfl h).elim) (fun _ _ _ => .inl rfl) (fun cdv A outer s H E a0 y hr => ?_)
  obtain ⟨text_here_, words_, _⟩ := y
  show RB _ _ ([.un, .un, .un, .un, .un] : RF.Ctx) false [.fz (rS text_here_), .fz ((rL rS) words_), .un, .un, .un] _ (P_Lreads text_here_ words_) _
  exact (rb_set (ps_set (i := 2) scLreads.nd rfl (.inl rfl) peE) (re_call () G_law_parsed (hr.mono (by decide)) (takes_of rfl rfl rfl rfl) (ra_cons (re_var (ρ := rS) (x := text_here_) 0 rfl (pv 0)) ra_nil) T.g_law_parsed T.F_law_parsed.kp T.b_law_parsed) rfl fun (back_4 : ((Option ORule) × (Option (Str × Bool)))) => (rb_for (s0 := ()) (vs := [3]) (Zr := (fun x => .ret ((RK.fz rB).ok x))) (kr := (fun x => x)) (fun (s5 : Unit) => [.fz (rS text_here_), .fz ((rL rS) words_), .fz ((rT2 (rO (rRule T.C_Rule)) (rO (rT2 rS rB))) back_4), .un, .un]) (fun (x : Str) Γ => Γ.set 3 (.fz (rS x))) (ps_for (passes_of rfl) rfl (pi_list peE) (pg_name (i := 3) scLreads.nd rfl (.inl rfl)) pssS) (ri_list (re_var (ρ := (rL rS)) (x := words_) 1 rfl (pv 1))) (fun _ => rg_name) ⟨.inr rfl, .inr rfl, .inr rfl, .inl rfl, .inl rfl, trivial⟩ (fun _ => ⟨.inl rfl, .inl rfl, .inl rfl, .inl rfl, .inl rfl, trivial⟩) (fun _ _ => ⟨.inl rfl, .inl rfl, .inl rfl, .inl rfl, .inl rfl, trivial⟩) (fun (s5 : Unit) (w6 : Str) => (rb_for (s0 := ()) (vs := [4]) (Zr := (fun x => .ret ((RK.fz rB).ok x))) (kr := (fun x => (Lp.ret x))) (fun (s7 : Unit) => [.fz (rS text_here_), .fz ((rL rS) words_), .fz ((rT2 (rO (rRule T.C_Rule)) (rO (rT2 rS rB))) back_4), .fz (rS w6), .un]) (fun (x : Str) Γ => Γ.set 4 (.fz (rS x))) (ps_for (passes_of rfl) rfl (pi_list peE) (pg_name (i := 4) scLreads.nd rfl (.inl rfl)) pssS) (ri_list (re_var (ρ := (rL rS)) (x := words_) 1 rfl (pv 1))) (fun _ => rg_name) ⟨.inr rfl, .inr rfl, .inr rfl, .inr rfl, .inl rfl, trivial⟩ (fun _ => ⟨.inl rfl, .inl rfl, .inl rfl, .inl rfl, .inl rfl, trivial⟩) (fun _ _ => ⟨.inl rfl, .inl rfl, .inl rfl, .inl rfl, .inl rfl, trivial⟩) (fun (s7 : Unit) (w8 : Str) => (rb_if0 (rt_rc (rc_eqS (by intro x y; first | rfl | (cases x <;> rfl) | (cases y <;> rfl) | (cases x <;> cases y <;> rfl)) (re_var (ρ := rS) (x := text_here_) 0 rfl (pv 0)) (re_call () G_law_written (hr.mono (by decide)) (takes_of rfl rfl rfl rfl) (ra_cons (re_var (ρ := rS) (x := w6) 3 rfl (pv 3)) (ra_cons (re_var (ρ := rS) (x := w8) 4 rfl (pv 4)) ra_nil)) T.g_law_written T.F_law_written.kp T.b_law_written))) (rb_ret (fun (r17 : Bool) => (Lp.ret r17)) (re_and (re_rc (rc_isN (re_at (ρ := (rO (rT2 rS rB))) (g := fun (x : ((Option ORule) × (Option (Str × Bool)))) => x.2) (fun (x : ((Option ORule) × (Option (Str × Bool)))) => [(rO (rRule T.C_Rule)) x.1, (rO (rT2 rS rB)) x.2]) (1) (re_var (ρ := (rT2 (rO (rRule T.C_Rule)) (rO (rT2 rS rB)))) (x := back_4) 2 rfl (pv 2)) (hc := re_int)))) (re_and (re_call () G_law_is (hr.mono (by decide)) (takes_of rfl rfl rfl rfl) (ra_cons (re_get (re_at (ρ := (rO (rRule T.C_Rule))) (g := fun (x : ((Option ORule) × (Option (Str × Bool)))) => x.1) (fun (x : ((Option ORule) × (Option (Str × Bool)))) => [(rO (rRule T.C_Rule)) x.1, (rO (rT2 rS rB)) x.2]) (0) (re_var (ρ := (rT2 (rO (rRule T.C_Rule)) (rO (rT2 rS rB)))) (x := back_4) 2 rfl (pv 2)) (hc := re_int))) (ra_cons (re_var (ρ := rS) (x := w6) 3 rfl (pv 3)) (ra_cons (re_var (ρ := rS) (x := w8) 4 rfl (pv 4)) ra_nil))) T.g_law_is T.F_law_is.kp T.b_law_is) (re_one (re_rc (rc_eqO (m := fun z => P_RuleEq z.1 z.2.1) (fsRule) (fsRule) T.m_Rule_eq GRule_eq (hr.mono (by decide)) (takes_of rfl rfl rfl rfl) T.bRule_eq (re_get (re_at (ρ := (rO (rRule T.C_Rule))) (g := fun (x : ((Option ORule) × (Option (Str × Bool)))) => x.1) (fun (x : ((Option ORule) × (Option (Str × Bool)))) => [(rO (rRule T.C_Rule)) x.1, (rO (rT2 rS rB)) x.2]) (0) (re_var (ρ := (rT2 (rO (rRule T.C_Rule)) (rO (rT2 rS rB)))) (x := back_4) 2 rfl (pv 2)) (hc := re_int))) (re_frz (ρ' := (rRule T.C_Rule)) (re_make T.M_Rule GRule_init (hr.mono (by decide)) (takes_of rfl rfl rfl rfl) (ra_cons (re_var (ρ := rS) (x := w6) 3 rfl (pv 3)) (ra_cons (re_var (ρ := rS) (x := w8) 4 rfl (pv 4)) ra_nil)) T.g_Rule T.bRule_init) (fun _ => frz_In))))))) (fun _ => rfl)) (rb_nil (x := (Lp.go ())) (.inr rfl) ⟨.inr rfl, .inr rfl, .inr rfl, .inr rfl, .inl rfl, trivial⟩))) (fun _ => rfl) (fun _ => ⟨_, rfl⟩) fun (s38 : Unit) => (rb_nil (x := (Lp.go ())) (.inr rfl) ⟨.inr rfl, .inr rfl, .inr rfl, .inl rfl, .inl rfl, trivial⟩))) (fun _ => rfl) (fun _ => ⟨_, rfl⟩) fun (s39 : Unit) => (rb_ret (fun (r40 : Bool) => r40) (re_and (re_rc (rc_isN (re_at (ρ := (rO (rRule T.C_Rule))) (g := fun (x : ((Option ORule) × (Option (Str × Bool)))) => x.1) (fun (x : ((Option ORule) × (Option (Str × Bool)))) => [(rO (rRule T.C_Rule)) x.1, (rO (rT2 rS rB)) x.2]) (0) (re_var (ρ := (rT2 (rO (rRule T.C_Rule)) (rO (rT2 rS rB)))) (x := back_4) 2 rfl (pv 2)) (hc := re_int)))) (re_one (re_call () G_law_same (hr.mono (by decide)) (takes_of rfl rfl rfl rfl) (ra_cons (re_enc (ρ := (rO (rT2 rS rB))) (re_at (ρ := (rO (rT2 rS rB))) (g := fun (x : ((Option ORule) × (Option (Str × Bool)))) => x.2) (fun (x : ((Option ORule) × (Option (Str × Bool)))) => [(rO (rRule T.C_Rule)) x.1, (rO (rT2 rS rB)) x.2]) (1) (re_var (ρ := (rT2 (rO (rRule T.C_Rule)) (rO (rT2 rS rB)))) (x := back_4) 2 rfl (pv 2)) (hc := re_int))) (ra_cons (re_enc (ρ := (rT2 rS rB)) (re_tup (fun (y49 : Str × Bool × Unit) => (y49.1, y49.2.1)) (rT2 rS rB) (fun (y49 : Str × Bool × Unit) => [rS y49.1, rB y49.2.1]) (ra_cons re_str (ra_cons re_bl ra_nil)))) ra_nil)) T.g_law_same T.F_law_same.kp T.b_law_same))) (fun _ => rfl))))

theorem scLrow : FnScope ["_law_words", "_law_rows", "_law_k"] ["_law_words"] (defScope sLrow) := ⟨rfl, rfl, rfl, by decide +kernel, rfl, by decide +kernel, by decide +kernel⟩
def P_Lrow (words_ : (List Str)) : Mo Bool :=
  (((pure ()) >>= fun _ => P_RuleEvery) >>= fun rows_3 => ((((Mo.calm (((fun x => some ((fun x => x) x)) <$> (pure rows_3)) >>= fun x5 => pure x5.isSome)) >>= fun b6 => pure (!b6)) >>= fun b10 => if b10 then pure true else (((pure rows_3) >>= fun x7 => pure (x7.length : Int)) >>= fun i8 => (pure (16 : Int)) >>= fun j9 => pure (decide (i8 ≠ j9)))) >>= fun c11 => if c11 = true then ((pure false) >>= fun r12 => pure r12) else (((pure (16 : Int)) >>= fun i13 => Mo.rq (-(2 ^ 62) ≤ i13 ∧ i13 < 2 ^ 62) (rangeL 0 i13.toNat)) >>= fun xs => Mo.loop (fun s15 w16 => ((((((pure w16) >>= fun i18 => Mo.get (atI rows_3 i18)) >>= fun x35 => (((pure words_) >>= fun x21 => ((pure w16) >>= fun i19 => (pure (4 : Int)) >>= fun j20 => Mo.rq (CDiv i19 j20) (i19 / j20)) >>= fun i22 => Mo.get (atI x21 i22)) >>= fun x33 => (((pure words_) >>= fun x29 => ((pure w16) >>= fun i27 => ((pure (4 : Int)) >>= fun i25 => ((pure w16) >>= fun i23 => (pure (4 : Int)) >>= fun j24 => Mo.rq (CDiv i23 j24) (i23 / j24)) >>= fun j26 => Mo.rq (CMul i25 j26) (i25 * j26)) >>= fun j28 => pure (i27 - j28)) >>= fun i30 => Mo.get (atI x29 i30)) >>= fun x31 => (pure ()) >>= fun y32 => pure (x31, y32)) >>= fun y34 => pure (x33, y34)) >>= fun y36 => pure (x35, y36)) >>= fun y17 => P_Lis y17.1 y17.2.1 y17.2.2.1) >>= fun b37 => pure (!b37)) >>= fun c38 => if c38 = true then ((pure false) >>= fun r39 => pure (Lp.ret r39)) else (pure (Lp.go ())))) xs () >>= Lp.out (fun s40 => ((pure true) >>= fun r41 => pure r41)) (fun x => x))))
theorem fn_Lrow (T : Tx K mg) : FnOk P w K mg base (L2.CX P w) 10 T.f_law_row T.d_law_row ["_law_words"] (spR K mg (fun (c : Unit) (z : (List Str) × Unit) => [.fz ((rL rS) z.1)]) (fun z => P_Lrow z.1) (RK.fz rB)) := by
  have GRule_every := fn_RuleEvery (P := P) (w := w) (base := base) T
  have G_law_is := fn_Lis (P := P) (w := w) (base := base) T
  refine fn_mk (Γe := fun c z => [.un, .un, .un]) (Γ0 := fun c z => [.fz ((rL rS) z.1), .un, .un]) (Z := (fun _ _ x => .ret ((RK.fz rB).ok x))) T.F_law_row scLrow (fun _ _ => rfl) (fun _ _ => rfl) (fun _ _ => ⟨.inl rfl, .inl rfl, .inl rfl, trivial⟩) (fun _ _ _ _ _ _ h => (own_none rfl h).elim) (fun _ _ _ => .inl rfl) (fun cdv A outer s H E a0 y hr => ?_)
  obtain ⟨words_, _⟩ := y
  show RB _ _ ([.un, .un, .un] : RF.Ctx) false [.fz ((rL rS) words_), .un, .un] _ (P_Lrow words_) _
  exact (rb_setO (ps_set (i := 1) scLrow.nd rfl (.inl rfl) peE) (re_sm0 (mo := (pure ())) (m := fun _ => P_RuleEvery) (re_cls (pe_glob (v := .ref T.C_Rule) (by rfl) T.g_Rule (by rfl))) T.m_Rule_every GRule_every (hr.mono (by decide)) (takes_of rfl rfl rfl rfl) T.bRule_every) rfl fun (rows_3 : (List ORule)) a4 => (rb_if1 (rt_w (rw_or (rt_not (rt_val (re_bor (j := 1) rfl trivial (re_isL (re_coe (ρ' := (rO (rL (rRule T.C_Rule)))) (f := (fun x => some ((fun x => x) x))) (co_some co_id) (re_var (ρ := (rL (rRule T.C_Rule))) (x := rows_3) 1 rfl (pv 1))) (kit_ty (by decide +kernel)) (kit_ty (by decide +kernel)) T.z_isinstance T.z_list)))) (rw_or1 (rt_rc (rc_i i_ne (re_len (rsq_O rfl (pv 1)) T.z_len) re_int))))) (rb_weak (Γ' := [.fz ((rL rS) words_), .un, .un]) ⟨.inr rfl, .inl rfl, .inl rfl, trivial⟩ ⟨.inl rfl, .inl rfl, .inl rfl, trivial⟩ (rb_ret (fun (r12 : Bool) => r12) re_bl (fun _ => rfl))) (rb_for (s0 := ()) (vs := [2]) (Zr := (fun x => .ret ((RK.fz rB).ok x))) (kr := (fun x => x)) (fun (s15 : Unit) => [.fz ((rL rS) words_), .ow true a4 (oL (rRule T.C_Rule) rows_3), .un]) (fun (x : Int) Γ => Γ.set 2 (.fz (rI x))) (ps_for (passes_of rfl) rfl (pi_range1 (by rfl) T.z_range (pa_cons peE pa_nil)) (pg_name (i := 2) scLrow.nd rfl (.inl rfl)) pssS) (ri_range1 re_int) (fun _ => rg_name) ⟨.inr rfl, .inr rfl, .inl rfl, trivial⟩ (fun _ => ⟨.inl rfl, .inl rfl, .inl rfl, trivial⟩) (fun _ _ => ⟨.inl rfl, .inl rfl, .inl rfl, trivial⟩) (fun (s15 : Unit) (w16 : Int) => (rb_if0 (rt_not (rt_val (re_call () G_law_is (hr.mono (by decide)) (takes_of rfl rfl rfl rfl) (ra_cons (re_ixO rfl (pv 1) (re_var (ρ := rI) (x := w16) 2 rfl (pv 2))) (ra_cons (re_ixL (re_var (ρ := (rL rS)) (x := words_) 0 rfl (pv 0)) (re_div (re_var (ρ := rI) (x := w16) 2 rfl (pv 2)) re_int)) (ra_cons (re_ixL (re_var (ρ := (rL rS)) (x := words_) 0 rfl (pv 0)) (re_sub (re_var (ρ := rI) (x := w16) 2 rfl (pv 2)) (re_mul re_int (re_div (re_var (ρ := rI) (x := w16) 2 rfl (pv 2)) re_int)))) ra_nil))) T.g_law_is T.F_law_is.kp T.b_law_is))) (rb_ret (fun (r39 : Bool) => (Lp.ret r39)) re_bl (fun _ => rfl)) (rb_nil (x := (Lp.go ())) (.inr rfl) ⟨.inr rfl, .inr rfl, .inl rfl, trivial⟩))) (fun _ => rfl) (fun _ => ⟨_, rfl⟩) fun (s40 : Unit) => (rb_clear (ps_expr (pe_bm0 PySem.F.plainAttrs_list PySem.F.slot_list_clear PySem.F.type_list_clear mt_clear (pv 1))) rfl rfl (rb_weak (Γ' := [.fz ((rL rS) words_), .un, .un]) ⟨.inr rfl, .inl rfl, .inl rfl, trivial⟩ ⟨.inl rfl, .inl rfl, .inl rfl, trivial⟩ (rb_ret (fun (r41 : Bool) => r41) re_bl (fun _ => rfl)))))))

theorem scLaw : FnScope ["_law_script", "_law_shape", "_law_words", "_law_first", "_law_second", "_law_rule", "_law_one", "_law_other", "_law_pool_here", "_law_k"] ["_law_script"] (defScope sLaw) := ⟨rfl, rfl, rfl, by decide +kernel, rfl, by decide +kernel, by decide +kernel⟩
def P_Law (script_ : List Int) : Mo Bool :=
  ((((pure script_) >>= fun x4 => ((pure (0 : Int)) >>= fun x2 => (pure ()) >>= fun y3 => pure (x2, y3)) >>= fun y5 => pure (x4, y5)) >>= fun y1 => Mo.rq (0 ≤ y1.2.1 ∧ y1.2.1 ≤ 1000) ()) >>= fun shape_6 => ((((pure ("first" : Str)) >>= fun x14 => ((pure ("last" : Str)) >>= fun x12 => ((pure ("fullest" : Str)) >>= fun x10 => ((pure ("emptiest" : Str)) >>= fun x8 => (pure ()) >>= fun y9 => pure (x8, y9)) >>= fun y11 => pure (x10, y11)) >>= fun y13 => pure (x12, y13)) >>= fun y15 => pure (x14, y15)) >>= fun y16 => pure [y16.1, y16.2.1, y16.2.2.1, y16.2.2.2.1]) >>= fun words_17 => (((pure words_17) >>= fun x21 => (((pure (4 : Int)) >>= fun x19 => (pure ()) >>= fun y20 => pure (x19, y20)) >>= fun y18 => Mo.take y18.1) >>= fun i22 => Mo.get (atI x21 i22)) >>= fun first_23 => (((pure words_17) >>= fun x27 => (((pure (4 : Int)) >>= fun x25 => (pure ()) >>= fun y26 => pure (x25, y26)) >>= fun y24 => Mo.take y24.1) >>= fun i28 => Mo.get (atI x27 i28)) >>= fun second_29 => ((((pure first_23) >>= fun x33 => ((pure second_29) >>= fun x31 => (pure ()) >>= fun y32 => pure (x31, y32)) >>= fun y34 => pure (x33, y34)) >>= fun y30 => P_RuleInit y30.1 y30.2.1) >>= fun rule_35 => ((((((pure ()) >>= fun x41 => ((((pure words_17) >>= fun x36 => pure x36) >>= fun v37 => Mo.rq (Enc.ok (rTs rS) v37) (Enc.d (rTs rS) v37)) >>= fun x39 => (pure ()) >>= fun y40 => pure (x39, y40)) >>= fun y42 => pure (x41, y42)) >>= fun y38 => Mo.rq (PyData.tuple ((["first", "last", "fullest", "emptiest"] : List Str).map .str) = y38.2.1) true) >>= fun b43 => pure (!b43)) >>= fun b57 => if b57 then pure true else (((((pure rule_35) >>= fun x49 => ((pure first_23) >>= fun x47 => ((pure second_29) >>= fun x45 => (pure ()) >>= fun y46 => pure (x45, y46)) >>= fun y48 => pure (x47, y48)) >>= fun y50 => pure (x49, y50)) >>= fun y44 => P_Lis y44.1 y44.2.1 y44.2.2.1) >>= fun b51 => pure (!b51)) >>= fun b56 => if b56 then pure true else ((((pure words_17) >>= fun x53 => (pure ()) >>= fun y54 => pure (x53, y54)) >>= fun y52 => P_Lrow y52.1) >>= fun b55 => pure (!b55)))) >>= fun c58 => if c58 = true then ((pure false) >>= fun r59 => pure r59) else ((pure words_17) >>= fun xs => Mo.loop (fun s60 w61 => ((pure words_17) >>= fun xs => Mo.loop (fun s62 w63 => (((((pure rule_35) >>= fun x71 => (((pure w61) >>= fun x69 => ((pure w63) >>= fun x67 => (pure ()) >>= fun y68 => pure (x67, y68)) >>= fun y70 => pure (x69, y70)) >>= fun y66 => P_RuleInit y66.1 y66.2.1) >>= fun y72 => Mo.calm (P_RuleEq x71 y72)) >>= fun b73 => pure b73) >>= fun x64 => (((pure w61) >>= fun x74 => (pure first_23) >>= fun y75 => pure (decide (Sc.v rS x74 = Sc.v rS y75))) >>= fun b78 => if b78 then ((pure w63) >>= fun x76 => (pure second_29) >>= fun y77 => pure (decide (Sc.v rS x76 = Sc.v rS y77))) else pure false) >>= fun y65 => pure (!decide (Sc.v rB x64 = Sc.v rB y65))) >>= fun c79 => if c79 = true then ((pure false) >>= fun r80 => pure (Lp.ret r80)) else (((((((pure w61) >>= fun x85 => ((pure w63) >>= fun x83 => (pure ()) >>= fun y84 => pure (x83, y84)) >>= fun y86 => pure (x85, y86)) >>= fun y82 => P_Lwritten y82.1 y82.2.1) >>= fun x89 => ((pure words_17) >>= fun x87 => (pure ()) >>= fun y88 => pure (x87, y88)) >>= fun y90 => pure (x89, y90)) >>= fun y81 => P_Lreads y81.1 y81.2.1) >>= fun b91 => pure (!b91)) >>= fun c92 => if c92 = true then ((pure false) >>= fun r93 => pure (Lp.ret r93)) else (pure (Lp.go ()))))) xs () >>= Lp.out (fun s94 => (pure (Lp.go ()))) (fun x => (Lp.ret x)))) xs () >>= Lp.out (fun s95 => ((((pure script_) >>= fun x99 => ((pure (1 : Int)) >>= fun x97 => (pure ()) >>= fun y98 => pure (x97, y98)) >>= fun y100 => pure (x99, y100)) >>= fun y96 => Mo.rq (0 ≤ y96.2.1 ∧ y96.2.1 ≤ 1000) ()) >>= fun pool_101 => (((pure (4 : Int)) >>= fun i103 => Mo.rq (-(2 ^ 62) ≤ i103 ∧ i103 < 2 ^ 62) (rangeL 0 i103.toNat)) >>= fun xs => Mo.loop (fun s105 w106 => (((((((pure first_23) >>= fun x111 => ((pure second_29) >>= fun x109 => (pure ()) >>= fun y110 => pure (x109, y110)) >>= fun y112 => pure (x111, y112)) >>= fun y108 => P_Ltext y108.1 y108.2.1) >>= fun x115 => ((pure words_17) >>= fun x113 => (pure ()) >>= fun y114 => pure (x113, y114)) >>= fun y116 => pure (x115, y116)) >>= fun y107 => P_Lreads y107.1 y107.2.1) >>= fun b117 => pure (!b117)) >>= fun c118 => if c118 = true then ((pure false) >>= fun r119 => pure (Lp.ret r119)) else (pure (Lp.go ())))) xs () >>= Lp.out (fun s120 => (((((pure rule_35) >>= fun x127 => ((pure first_23) >>= fun x125 => ((pure second_29) >>= fun x123 => (pure ()) >>= fun y124 => pure (x123, y124)) >>= fun y126 => pure (x125, y126)) >>= fun y128 => pure (x127, y128)) >>= fun y122 => P_Lis y122.1 y122.2.1 y122.2.2.1) >>= fun b132 => if b132 then (((pure words_17) >>= fun x130 => (pure ()) >>= fun y131 => pure (x130, y131)) >>= fun y129 => P_Lrow y129.1) else pure false) >>= fun r121 => pure r121)) (fun x => x)))) (fun x => x))))))))
theorem fn_Law (T : Tx K mg) : FnOk P w K mg base (L2.CX P w) 11 T.flaw T.dlaw ["_law_script"] (spR K mg (fun (c : Unit) (z : List Int × Unit) => [.fz ((rScr K) z.1)]) (fun z => P_Law z.1) (RK.fz rB)) := by
  have GRule_eq := fn_RuleEq (P := P) (w := w) (base := base) T
  have GRule_init := fn_RuleInit (P := P) (w := w) (base := base) T
  have G_law_is := fn_Lis (P := P) (w := w) (base := base) T
  have G_law_pool := fn_pool (P := P) (w := w) (base := base) T
  have G_law_reads := fn_Lreads (P := P) (w := w) (base := base) T
  have G_law_row := fn_Lrow (P := P) (w := w) (base := base) T
  have G_law_same := fn_same (P := P) (w := w) (base := base) T
  have G_law_take := fn_take (P := P) (w := w) (base := base) T
  have G_law_text := fn_Ltext (P := P) (w := w) (base := base) T
  have G_law_written := fn_Lwritten (P := P) (w := w) (base := base) T
  refine fn_mk (Γe := fun c z => [.un, .un, .un, .un, .un, .un, .un, .un, .un, .un]) (Γ0 := fun c z => [.fz ((rScr K) z.1), .un, .un, .un, .un, .un, .un, .un, .un, .un]) (Z := (fun _ _ x => .ret ((RK.fz rB).ok x))) T.Flaw scLaw (fun _ _ => rfl) (fun _ _ => rfl) (fun _ _ => ⟨.inl rfl, .inl rfl, .inl rfl, .inl rfl, .inl rfl, .inl rfl, .inl rfl, .inl rfl, .inl rfl, .inl rfl, trivial⟩) (fun _ _ _ _ _ _ h => (own_none rfl h).elim) (fun _ _ _ => .inl rfl) (fun cdv A outer s H E a0 y hr => ?_)
  obtain ⟨script_, _⟩ := y
  show RB _ _ ([.un, .un, .un, .un, .un, .un, .un, .un, .un, .un] : RF.Ctx) false [.fz ((rScr K) script_), .un, .un, .un, .un, .un, .un, .un, .un, .un] _ (P_Law script_) _
  exact (rb_setO (ρ := fun _ => oPool) (ps_set (i := 1) scLaw.nd rfl (.inl rfl) peE) (re_call () G_law_pool (hr.mono (by decide)) (takes_of rfl rfl rfl rfl) (ra_cons (re_var (ρ := (rScr K)) (x := script_) 0 rfl (pv 0)) (ra_cons re_int ra_nil)) T.g_law_pool T.F_law_pool.kp T.b_law_pool) rfl fun (shape_6 : Unit) a7 => (rb_set (ps_set (i := 2) scLaw.nd rfl (.inl rfl) peE) (re_frz (re_lst (fun (y16 : Str × Str × Str × Str × Unit) => [y16.1, y16.2.1, y16.2.2.1, y16.2.2.2.1]) rS (ra_cons re_str (ra_cons re_str (ra_cons re_str (ra_cons re_str ra_nil))))) frz_L) rfl fun (words_17 : (List Str)) => (rb_set (ps_set (i := 3) scLaw.nd rfl (.inl rfl) peE) (re_ixL (re_var (ρ := (rL rS)) (x := words_17) 2 rfl (pv 2)) (re_call a7 G_law_take (hr.mono (by decide)) (takes_of rfl rfl rfl rfl) (ra_own (qo := oPool) rfl (pv 1) (ra_cons re_int ra_nil)) T.g_law_take T.F_law_take.kp T.b_law_take)) rfl fun (first_23 : Str) => (rb_set (ps_set (i := 4) scLaw.nd rfl (.inl rfl) peE) (re_ixL (re_var (ρ := (rL rS)) (x := words_17) 2 rfl (pv 2)) (re_call a7 G_law_take (hr.mono (by decide)) (takes_of rfl rfl rfl rfl) (ra_own (qo := oPool) rfl (pv 1) (ra_cons re_int ra_nil)) T.g_law_take T.F_law_take.kp T.b_law_take)) rfl fun (second_29 : Str) => (rb_set (ps_set (i := 5) scLaw.nd rfl (.inl rfl) peE) (re_frz (ρ' := (rRule T.C_Rule)) (re_make T.M_Rule GRule_init (hr.mono (by decide)) (takes_of rfl rfl rfl rfl) (ra_cons (re_var (ρ := rS) (x := first_23) 3 rfl (pv 3)) (ra_cons (re_var (ρ := rS) (x := second_29) 4 rfl (pv 4)) ra_nil)) T.g_Rule T.bRule_init) (fun _ => frz_In)) rfl fun (rule_35 : ORule) => (rb_if1 (rt_w (rw_or (rt_not (rt_val (re_call (m := fun z => Mo.rq (PyData.tuple ((["first", "last", "fullest", "emptiest"] : List Str).map .str) = z.2.1) true) () (fn_same_kt T T.kt_Rule_WORDS) (hr.mono (by decide)) (takes_of rfl rfl rfl rfl) (ra_cons (re_cls (pe_cT (pe_glob (v := .ref T.C_Rule) (by rfl) T.g_Rule (by rfl)) ⟨T.rd_Rule, T.ga_Rule⟩ T.kc_Rule_WORDS)) (ra_cons (re_enc (ρ := (rTs rS)) (re_tuple (rsq_L (re_var (ρ := (rL rS)) (x := words_17) 2 rfl (pv 2))) T.z_tuple)) ra_nil)) T.g_law_same T.F_law_same.kp T.b_law_same))) (rw_or (rt_not (rt_val (re_call () G_law_is (hr.mono (by decide)) (takes_of rfl rfl rfl rfl) (ra_cons (re_var (ρ := (rRule T.C_Rule)) (x := rule_35) 5 rfl (pv 5)) (ra_cons (re_var (ρ := rS) (x := first_23) 3 rfl (pv 3)) (ra_cons (re_var (ρ := rS) (x := second_29) 4 rfl (pv 4)) ra_nil))) T.g_law_is T.F_law_is.kp T.b_law_is))) (rw_or1 (rt_not (rt_val (re_call () G_law_row (hr.mono (by decide)) (takes_of rfl rfl rfl rfl) (ra_cons (re_var (ρ := (rL rS)) (x := words_17) 2 rfl (pv 2)) ra_nil) T.g_law_row T.F_law_row.kp T.b_law_row))))))) (rb_ret (fun (r59 : Bool) => r59) re_bl (fun _ => rfl)) (rb_for (s0 := ()) (vs := [6]) (Zr := (fun x => .ret ((RK.fz rB).ok x))) (kr := (fun x => x)) (fun (s60 : Unit) => [.fz ((rScr K) script_), .ow true a7 oPool, .fz ((rL rS) words_17), .fz (rS first_23), .fz (rS second_29), .fz ((rRule T.C_Rule) rule_35), .un, .un, .un, .un]) (fun (x : Str) Γ => Γ.set 6 (.fz (rS x))) (ps_for (passes_of rfl) rfl (pi_list peE) (pg_name (i := 6) scLaw.nd rfl (.inl rfl)) pssS) (ri_list (re_var (ρ := (rL rS)) (x := words_17) 2 rfl (pv 2))) (fun _ => rg_name) ⟨.inr rfl, .inr rfl, .inr rfl, .inr rfl, .inr rfl, .inr rfl, .inl rfl, .inl rfl, .inl rfl, .inl rfl, trivial⟩ (fun _ => ⟨.inl rfl, .inl rfl, .inl rfl, .inl rfl, .inl rfl, .inl rfl, .inl rfl, .inl rfl, .inl rfl, .inl rfl, trivial⟩) (fun _ _ => ⟨.inl rfl, .inl rfl, .inl rfl, .inl rfl, .inl rfl, .inl rfl, .inl rfl, .inl rfl, .inl rfl, .inl rfl, trivial⟩) (fun (s60 : Unit) (w61 : Str) => (rb_for (s0 := ()) (vs := [7]) (Zr := (fun x => .ret ((RK.fz rB).ok x))) (kr := (fun x => (Lp.ret x))) (fun (s62 : Unit) => [.fz ((rScr K) script_), .ow true a7 oPool, .fz ((rL rS) words_17), .fz (rS first_23), .fz (rS second_29), .fz ((rRule T.C_Rule) rule_35), .fz (rS w61), .un, .un, .un]) (fun (x : Str) Γ => Γ.set 7 (.fz (rS x))) (ps_for (passes_of rfl) rfl (pi_list peE) (pg_name (i := 7) scLaw.nd rfl (.inl rfl)) pssS) (ri_list (re_var (ρ := (rL rS)) (x := words_17) 2 rfl (pv 2))) (fun _ => rg_name) ⟨.inr rfl, .inr rfl, .inr rfl, .inr rfl, .inr rfl, .inr rfl, .inr rfl, .inl rfl, .inl rfl, .inl rfl, trivial⟩ (fun _ => ⟨.inl rfl, .inl rfl, .inl rfl, .inl rfl, .inl rfl, .inl rfl, .inl rfl, .inl rfl, .inl rfl, .inl rfl, trivial⟩) (fun _ _ => ⟨.inl rfl, .inl rfl, .inl rfl, .inl rfl, .inl rfl, .inl rfl, .inl rfl, .inl rfl, .inl rfl, .inl rfl, trivial⟩) (fun (s62 : Unit) (w63 : Str) => (rb_if1 (rt_rc (rc_neS (by intro x y; first | rfl | (cases x <;> rfl) | (cases y <;> rfl) | (cases x <;> cases y <;> rfl)) (re_boolB (re_rc (rc_eqO (m := fun z => P_RuleEq z.1 z.2.1) (fsRule) (fsRule) T.m_Rule_eq GRule_eq (hr.mono (by decide)) (takes_of rfl rfl rfl rfl) T.bRule_eq (re_var (ρ := (rRule T.C_Rule)) (x := rule_35) 5 rfl (pv 5)) (re_frz (ρ' := (rRule T.C_Rule)) (re_make T.M_Rule GRule_init (hr.mono (by decide)) (takes_of rfl rfl rfl rfl) (ra_cons (re_var (ρ := rS) (x := w61) 6 rfl (pv 6)) (ra_cons (re_var (ρ := rS) (x := w63) 7 rfl (pv 7)) ra_nil)) T.g_Rule T.bRule_init) (fun _ => frz_In)))) T.z_bool) (re_and (re_rc (rc_eqS (by intro x y; first | rfl | (cases x <;> rfl) | (cases y <;> rfl) | (cases x <;> cases y <;> rfl)) (re_var (ρ := rS) (x := w61) 6 rfl (pv 6)) (re_var (ρ := rS) (x := first_23) 3 rfl (pv 3)))) (re_one (re_rc (rc_eqS (by intro x y; first | rfl | (cases x <;> rfl) | (cases y <;> rfl) | (cases x <;> cases y <;> rfl)) (re_var (ρ := rS) (x := w63) 7 rfl (pv 7)) (re_var (ρ := rS) (x := second_29) 4 rfl (pv 4)))))))) (rb_ret (fun (r80 : Bool) => (Lp.ret r80)) re_bl (fun _ => rfl)) (rb_if0 (rt_not (rt_val (re_call () G_law_reads (hr.mono (by decide)) (takes_of rfl rfl rfl rfl) (ra_cons (re_call () G_law_written (hr.mono (by decide)) (takes_of rfl rfl rfl rfl) (ra_cons (re_var (ρ := rS) (x := w61) 6 rfl (pv 6)) (ra_cons (re_var (ρ := rS) (x := w63) 7 rfl (pv 7)) ra_nil)) T.g_law_written T.F_law_written.kp T.b_law_written) (ra_cons (re_var (ρ := (rL rS)) (x := words_17) 2 rfl (pv 2)) ra_nil)) T.g_law_reads T.F_law_reads.kp T.b_law_reads))) (rb_ret (fun (r93 : Bool) => (Lp.ret r93)) re_bl (fun _ => rfl)) (rb_nil (x := (Lp.go ())) (.inr rfl) ⟨.inr rfl, .inr rfl, .inr rfl, .inr rfl, .inr rfl, .inr rfl, .inr rfl, .inl rfl, .inl rfl, .inl rfl, trivial⟩)))) (fun _ => rfl) (fun _ => ⟨_, rfl⟩) fun (s94 : Unit) => (rb_nil (x := (Lp.go ())) (.inr rfl) ⟨.inr rfl, .inr rfl, .inr rfl, .inr rfl, .inr rfl, .inr rfl, .inl rfl, .inl rfl, .inl rfl, .inl rfl, trivial⟩))) (fun _ => rfl) (fun _ => ⟨_, rfl⟩) fun (s95 : Unit) => (rb_setO (ρ := fun _ => oPool) (ps_set (i := 8) scLaw.nd rfl (.inl rfl) peE) (re_call () G_law_pool (hr.mono (by decide)) (takes_of rfl rfl rfl rfl) (ra_cons (re_var (ρ := (rScr K)) (x := script_) 0 rfl (pv 0)) (ra_cons re_int ra_nil)) T.g_law_pool T.F_law_pool.kp T.b_law_pool) rfl fun (pool_101 : Unit) a102 => (rb_for (s0 := ()) (vs := [9]) (Zr := (fun x => .ret ((RK.fz rB).ok x))) (kr := (fun x => x)) (fun (s105 : Unit) => [.fz ((rScr K) script_), .ow true a7 oPool, .fz ((rL rS) words_17), .fz (rS first_23), .fz (rS second_29), .fz ((rRule T.C_Rule) rule_35), .un, .un, .ow true a102 oPool, .un]) (fun (x : Int) Γ => Γ.set 9 (.fz (rI x))) (ps_for (passes_of rfl) rfl (pi_range1 (by rfl) T.z_range (pa_cons peE pa_nil)) (pg_name (i := 9) scLaw.nd rfl (.inl rfl)) pssS) (ri_range1 re_int) (fun _ => rg_name) ⟨.inr rfl, .inr rfl, .inr rfl, .inr rfl, .inr rfl, .inr rfl, .inl rfl, .inl rfl, .inr rfl, .inl rfl, trivial⟩ (fun _ => ⟨.inl rfl, .inl rfl, .inl rfl, .inl rfl, .inl rfl, .inl rfl, .inl rfl, .inl rfl, .inl rfl, .inl rfl, trivial⟩) (fun _ _ => ⟨.inl rfl, .inl rfl, .inl rfl, .inl rfl, .inl rfl, .inl rfl, .inl rfl, .inl rfl, .inl rfl, .inl rfl, trivial⟩) (fun (s105 : Unit) (w106 : Int) => (rb_if0 (rt_not (rt_val (re_call () G_law_reads (hr.mono (by decide)) (takes_of rfl rfl rfl rfl) (ra_cons (re_call a102 G_law_text (hr.mono (by decide)) (takes_of rfl rfl rfl rfl) (ra_own (qo := oPool) rfl (pv 8) (ra_cons (re_var (ρ := rS) (x := first_23) 3 rfl (pv 3)) (ra_cons (re_var (ρ := rS) (x := second_29) 4 rfl (pv 4)) ra_nil))) T.g_law_text T.F_law_text.kp T.b_law_text) (ra_cons (re_var (ρ := (rL rS)) (x := words_17) 2 rfl (pv 2)) ra_nil)) T.g_law_reads T.F_law_reads.kp T.b_law_reads))) (rb_ret (fun (r119 : Bool) => (Lp.ret r119)) re_bl (fun _ => rfl)) (rb_nil (x := (Lp.go ())) (.inr rfl) ⟨.inr rfl, .inr rfl, .inr rfl, .inr rfl, .inr rfl, .inr rfl, .inl rfl, .inl rfl, .inr rfl, .inl rfl, trivial⟩))) (fun _ => rfl) (fun _ => ⟨_, rfl⟩) fun (s120 : Unit) => (rb_ret (fun (r121 : Bool) => r121) (re_and (re_call () G_law_is (hr.mono (by decide)) (takes_of rfl rfl rfl rfl) (ra_cons (re_var (ρ := (rRule T.C_Rule)) (x := rule_35) 5 rfl (pv 5)) (ra_cons (re_var (ρ := rS) (x := first_23) 3 rfl (pv 3)) (ra_cons (re_var (ρ := rS) (x := second_29) 4 rfl (pv 4)) ra_nil))) T.g_law_is T.F_law_is.kp T.b_law_is) (re_one (re_call () G_law_row (hr.mono (by decide)) (takes_of rfl rfl rfl rfl) (ra_cons (re_var (ρ := (rL rS)) (x := words_17) 2 rfl (pv 2)) ra_nil) T.g_law_row T.F_law_row.kp T.b_law_row))) (fun _ => rfl)))))))))))
end
end DD
namespace DD
open PySem PySem.Spec PyProof.Rows L2 KO SX RF
def wds : List Str := ["first", "last", "fullest", "emptiest"]
def wr (a b : Str) : Str := "send " ++ a ++ ", charge " ++ b
def rules : List (Str × Str) := wds.flatMap fun a => wds.map fun b => (a, b)
theorem scS {a b : Str} : decide (Sc.v rS a = Sc.v rS b) = decide (a = b) := decide_eq_decide.mpr ⟨fun h => V.str.inj h, fun h => by rw [h]⟩
theorem wds_len {a : Str} (h : a ∈ wds) : a.length ≤ 8 := by
  have : ∀ a ∈ wds, a.length ≤ 8 := by decide +kernel
  exact this a h
theorem wr_len {a b : Str} : (wr a b).length = 14 + a.length + b.length := by
  unfold wr
  rw [len_app, len_app, len_app]
  have h1 : ("send " : Str).length = 5 := by decide +kernel
  have h2 : (", charge " : Str).length = 9 := by decide +kernel
  omega
theorem written_eq {a b : Str} (ha : a.length ≤ 1000) (hb : b.length ≤ 1000) : P_Lwritten a b = pure (wr a b) := by
  have hz := sizeLine_eq
  have h1 : ("send " : Str).length = 5 := by decide +kernel
  have h2 : (", charge " : Str).length = 9 := by decide +kernel
  unfold P_Lwritten
  simp only [pure_bind, bind_assoc, map_pure, bind_pure]
  rw [Mo.rq_of (by omega), pure_bind, Mo.rq_of (by rw [len_app]; omega), pure_bind, Mo.rq_of (by rw [len_app, len_app]; omega)]
  rfl
theorem init_eq {a b : Str} (ha : a ∈ wds) (hb : b ∈ wds) : P_RuleInit a b = pure (a, b) := by
  unfold P_RuleInit
  simp only [pure_bind, bind_assoc, map_pure, bind_pure]
  show (if (!decide (a ∈ wds)) = true then _ else if (!decide (b ∈ wds)) = true then _ else _ : Mo (Str × Str)) = _
  rw [decide_eq_true ha, if_neg (by decide), decide_eq_true hb, if_neg (by decide)]
theorem comp2_eq {β γ : Type} {f : β → Mo (List γ)} {g : β → List γ} : ∀ {xs : List β}, (∀ x ∈ xs, f x = pure (g x)) → Mo.comp2 (fun _ => pure true) f xs = pure (xs.flatMap g)
  | [], _ => rfl
  | x :: xs, h => by
    have ih := comp2_eq (xs := xs) fun y hy => h y (List.mem_cons_of_mem _ hy)
    unfold Mo.comp2
    rw [h x List.mem_cons_self, ih]
    simp only [pure_bind, if_true]
    rw [List.flatMap_cons]
theorem every_eq : P_RuleEvery = pure rules := by
  unfold P_RuleEvery
  simp only [pure_bind, bind_assoc, map_pure, bind_pure]
  show Mo.lc2 (fun _ => pure true) (fun _ => pure wds) (fun _ _ => pure true) (fun a b => P_RuleInit a b) wds = _
  unfold Mo.lc2
  rw [Mo.rq_of (by decide), pure_bind, comp2_eq (g := fun a => wds.map fun b => (a, b)) fun a ha => ?_]
  · rfl
  · rw [pure_bind, Mo.rq_of (by decide), pure_bind, Mo.comp_pure (p := fun _ => true) (g := fun b => (a, b)) (fun _ _ => rfl) fun b hb _ => init_eq ha hb]
    rw [List.filter_eq_self.mpr fun _ _ => rfl]
theorem rules_mem {r : Str × Str} (h : r ∈ rules) : r.1 ∈ wds ∧ r.2 ∈ wds := by
  unfold rules at h
  obtain ⟨a, ha, h⟩ := List.mem_flatMap.mp h
  obtain ⟨b, hb, rfl⟩ := List.mem_map.mp h
  exact ⟨ha, hb⟩
theorem mem_rules {a b : Str} (ha : a ∈ wds) (hb : b ∈ wds) : (a, b) ∈ rules := List.mem_flatMap.mpr ⟨a, ha, List.mem_map.mpr ⟨b, hb, rfl⟩⟩
theorem str_eq {r : Str × Str} (ha : r.1.length ≤ 1000) (hb : r.2.length ≤ 1000) : P_RuleStr r = pure (wr r.1 r.2) := by
  have hz := sizeLine_eq
  have h1 : ("send " : Str).length = 5 := by decide +kernel
  have h2 : (", charge " : Str).length = 9 := by decide +kernel
  have e0 : (Str.empty ++ "send " : Str) = "send " := by decide +kernel
  unfold P_RuleStr
  simp only [pure_bind, bind_assoc, map_pure, bind_pure]
  rw [e0, Mo.rq_of (by omega), pure_bind, Mo.rq_of (by omega), pure_bind, Mo.rq_of (by rw [len_app]; omega), pure_bind, Mo.rq_of (by rw [len_app, len_app]; omega), pure_bind, Mo.rq_of (by omega), pure_bind, Mo.rq_of (by rw [len_app, len_app, len_app]; omega)]
  rfl
theorem wr_inj {a b c d : Str} (ha : a ∈ wds) (hb : b ∈ wds) (hc : c ∈ wds) (hd : d ∈ wds) (h : wr a b = wr c d) : a = c ∧ b = d := by
  have : ∀ a ∈ wds, ∀ b ∈ wds, ∀ c ∈ wds, ∀ d ∈ wds, wr a b = wr c d → a = c ∧ b = d := by decide +kernel
  exact this a ha b hb c hc d hd h
def bad : Ex := ⟨"BadRule", [("part", Enc.d rS "text")]⟩
def fnd (t : Str) : Option (Str × Str) := rules.findSome? fun r => if wr r.1 r.2 = t then some r else none
theorem fnd_some {t : Str} {r : Str × Str} (h : fnd t = some r) : r ∈ rules ∧ wr r.1 r.2 = t := by
  obtain ⟨x, hx, e⟩ := List.exists_of_findSome?_eq_some h
  by_cases c : wr x.1 x.2 = t
  · rw [if_pos c] at e; cases e; exact ⟨hx, c⟩
  · rw [if_neg c] at e; cases e
theorem fnd_wr {a b : Str} (ha : a ∈ wds) (hb : b ∈ wds) : fnd (wr a b) = some (a, b) := by
  cases e : fnd (wr a b) with
  | none =>
    unfold fnd at e
    rw [List.findSome?_eq_none_iff] at e
    have := e (a, b) (mem_rules ha hb)
    rw [if_pos rfl] at this
    cases this
  | some r =>
    obtain ⟨h1, h2⟩ := fnd_some e
    obtain ⟨h3, h4⟩ := rules_mem h1
    obtain ⟨k1, k2⟩ := wr_inj h3 h4 ha hb h2
    rw [← k1, ← k2]
theorem parse_eq {t : Str} : P_RuleParse () t = match fnd t with | some r => pure r | none => Mo.throw bad := by
  unfold P_RuleParse
  simp only [pure_bind, bind_assoc, map_pure, bind_pure]
  rw [every_eq, pure_bind, Mo.loop_find (g := fun r => if wr r.1 r.2 = t then some r else none) fun r hr => ?_]
  · rw [pure_bind]
    show Lp.out _ _ (Lp.of () (fnd t)) = _
    cases fnd t with
    | some r => rfl
    | none =>
      show (Mo.rq (Enc.ok rS "text") (⟨"BadRule", [("part", Enc.d rS "text")]⟩ : Ex) >>= fun e => Mo.throw e : Mo (Str × Str)) = Mo.throw bad
      rw [Mo.rq_of (show Enc.ok rS ("text" : Str) from trivial), pure_bind]
      rfl
  · obtain ⟨h1, h2⟩ := rules_mem hr
    rw [str_eq (by have := wds_len h1; omega) (by have := wds_len h2; omega), Mo.calm_pure, pure_bind, scS]
    by_cases c : wr r.1 r.2 = t
    · rw [if_pos (decide_eq_true c), if_pos c]; rfl
    · rw [if_neg (by simpa using c), if_neg c]; rfl
theorem parsed_eq {t : Str} : P_Lparsed t = pure (match fnd t with | some r => (some r, none) | none => (none, some ("text", true))) := by
  unfold P_Lparsed
  simp only [pure_bind, bind_assoc, map_pure, bind_pure]
  rw [parse_eq]
  cases fnd t with
  | some r => rfl
  | none =>
    show (Mo.catch1 (Mo.throw bad) _ _ _ >>= _ : Mo _) = _
    rw [Mo.catch1_throw (e := bad) (cn := "BadRule") rfl]
    have l1 : List.lookup ("part" : Str) bad.fs = some (Enc.d rS "text") := rfl
    rw [l1, Mo.get_some, pure_bind, show Dec.d rS (Enc.d rS ("text" : Str)) = some ("text" : Str) from rfl, Mo.get_some]
    rfl
end DD
namespace DD
open PySem PySem.Spec PyProof.Rows L2 KO SX RF
theorem eS {a : Str} : Mo.rq (Enc.ok rS a) (Enc.d rS a) = pure (Enc.d rS a) := Mo.rq_of trivial
theorem is_eq {a b : Str} (ha : a.length ≤ 1000) (hb : b.length ≤ 1000) : P_Lis (a, b) a b = pure true := by
  have tr : Mo.rq True true = (pure true : Mo Bool) := Mo.rq_of trivial
  unfold P_Lis
  simp only [pure_bind, bind_assoc, map_pure, bind_pure, eS]
  rw [if_neg (by simp), str_eq ha hb, Mo.calm_pure, pure_bind, written_eq ha hb, pure_bind]
  simp only [tr, pure_bind, Bool.not_true, Bool.false_eq_true, if_false, if_true]
theorem ruleeq {a b : Str × Str} : P_RuleEq a b = pure (decide (a.1 = b.1) && decide (a.2 = b.2)) := by
  unfold P_RuleEq
  simp only [pure_bind, bind_assoc, map_pure, bind_pure, scS]
  rw [if_pos trivial]
  by_cases h : a.1 = b.1
  · rw [if_pos (decide_eq_true h), decide_eq_true h, Bool.true_and]
  · rw [if_neg (by simpa using h), decide_eq_false h, Bool.false_and]
theorem reads_eq {t : Str} : P_Lreads t wds = pure true := by
  unfold P_Lreads
  simp only [pure_bind, bind_assoc, map_pure, bind_pure]
  rw [parsed_eq, pure_bind]
  rw [Mo.loop_find (g := fun a => wds.findSome? fun b => if t = wr a b then some true else none) fun a ha => ?_]
  · rw [pure_bind]
    cases e : wds.findSome? (fun a => wds.findSome? fun b => if t = wr a b then some true else none) with
    | some x =>
      obtain ⟨a, _, ea⟩ := List.exists_of_findSome?_eq_some e
      obtain ⟨b, _, eb⟩ := List.exists_of_findSome?_eq_some ea
      have : x = true := by
        by_cases c : t = wr a b
        · rw [if_pos c] at eb; exact (Option.some.inj eb).symm
        · rw [if_neg c] at eb; cases eb
      rw [this]
      rfl
    | none =>
      have hn : fnd t = none := by
        cases f : fnd t with
        | none => rfl
        | some r =>
          exfalso
          obtain ⟨h1, h2⟩ := fnd_some f
          obtain ⟨h3, h4⟩ := rules_mem h1
          rw [List.findSome?_eq_none_iff] at e
          have e := e r.1 h3
          rw [List.findSome?_eq_none_iff] at e
          have e := e r.2 h4
          rw [if_pos h2.symm] at e
          cases e
      rw [hn]
      show (if ((none : Option (Str × Str)).isNone) = true then (_ : Mo Bool) else pure false) = _
      rw [if_pos (by rfl)]
      show (Mo.rq (Enc.ok (rO (rT2 rS rB)) (some (("text" : Str), true))) (Enc.d (rO (rT2 rS rB)) (some (("text" : Str), true))) >>= fun x => Mo.rq (Enc.ok (rT2 rS rB) (("text" : Str), true)) (Enc.d (rT2 rS rB) (("text" : Str), true)) >>= fun y => Mo.rq (x = y) true : Mo Bool) = _
      rw [Mo.rq_of (show Enc.ok (rO (rT2 rS rB)) (some (("text" : Str), true)) from ⟨trivial, trivial⟩), pure_bind, Mo.rq_of (show Enc.ok (rT2 rS rB) (("text" : Str), true) from ⟨trivial, trivial⟩), pure_bind]
      exact Mo.rq_of rfl
  · have la := wds_len ha
    rw [Mo.loop_find (g := fun b => if t = wr a b then some true else none) fun b hb => ?_]
    · rw [pure_bind]
      cases wds.findSome? (fun b => if t = wr a b then some true else none) with
      | none => rfl
      | some x => rfl
    · have lb := wds_len hb
      rw [written_eq (by omega) (by omega), pure_bind, scS]
      by_cases c : t = wr a b
      · rw [if_pos (decide_eq_true c), if_pos c, c, fnd_wr ha hb]
        show ((if ((none : Option (Str × Bool)).isNone) = true then _ else _ : Mo Bool) >>= _ : Mo _) = _
        rw [if_pos (by rfl)]
        dsimp only
        simp only [pure_bind, Mo.get_some]
        rw [is_eq (by omega) (by omega), pure_bind, if_pos rfl, init_eq ha hb, pure_bind, ruleeq]
        simp only [Mo.calm_pure, pure_bind, decide_true, Bool.and_self]
        rfl
      · rw [if_neg (by simpa using c), if_neg c]
        rfl
theorem row_eq : P_Lrow wds = pure true := by
  unfold P_Lrow
  simp only [pure_bind, bind_assoc, map_pure, bind_pure]
  rw [every_eq, pure_bind, Mo.calm_pure, pure_bind, if_neg (by simp), pure_bind, if_neg (by decide +kernel), Mo.rq_of (by decide), pure_bind]
  rw [Mo.loop_find (g := fun _ => none) fun w hw => ?_]
  · rw [show (rangeL 0 (Int.toNat 16)).findSome? (fun _ => (none : Option Bool)) = none by rw [List.findSome?_eq_none_iff]; exact fun _ _ => rfl]
    rfl
  · have hw := rangeL_mem.mp hw
    have all : ∀ w ∈ rangeL 0 16, ∃ a ∈ wds, ∃ b ∈ wds, atI rules w = some (a, b) ∧ atI wds (w / 4) = some a ∧ atI wds (w - 4 * (w / 4)) = some b := by decide +kernel
    obtain ⟨a, ha, b, hb, e1, e2, e3⟩ := all w (rangeL_mem.mpr hw)
    have la := wds_len ha
    have lb := wds_len hb
    rw [e1, Mo.get_some, pure_bind, Mo.rq_of (show CDiv w 4 by unfold CDiv; omega), pure_bind, e2, Mo.get_some, pure_bind, pure_bind, Mo.rq_of (show CMul 4 (w / 4) by unfold CMul; omega), pure_bind, e3, Mo.get_some, pure_bind, is_eq (by omega) (by omega), pure_bind]
    rfl
def sgns : Str := " !\"#$&'()*+,-./0123456789:;<=>?@ABCDEFGHIJKLMNOPQRSTUVWXYZ[\\]^_`" ++ "abcdefghijklmnopqrstuvwxyz{|}~"
theorem char_ok {p : Int} (h : 0 ≤ p ∧ p < 94) : ∃ z : Str, P_Lchar p = pure z ∧ z.length = 1 := by
  have hz := sizeLine_eq
  have hl : sgns.length = 94 := by decide +kernel
  unfold P_Lchar
  simp only [pure_bind, bind_assoc, map_pure, bind_pure]
  rw [Mo.rq_of (by rw [← len_app]; show sgns.length ≤ _; omega), pure_bind]
  show ∃ z, (Mo.rq (sgns.length ≤ sizeLine) () >>= fun _ => Mo.get (atI (chars sgns) p) : Mo Str) = pure z ∧ _
  rw [Mo.rq_of (by omega), pure_bind]
  obtain ⟨z, e1, e2⟩ := atI_in (xs := chars sgns) h.1 (by rw [len_chars, hl]; exact h.2)
  obtain ⟨c, _, rfl⟩ := mem_chars (List.mem_of_getElem? e2)
  exact ⟨_, by rw [e1, Mo.get_some], rfl⟩
theorem text_ok {a b : Str} (ha : a ∈ wds) (hb : b ∈ wds) {Q : Str → Prop} {E : Ex → Prop} (q : ∀ z, Q z) : (P_Ltext a b).run Q E := by
  have hz := sizeLine_eq
  have la := wds_len ha
  have lb := wds_len hb
  have lg := wr_len (a := a) (b := b)
  unfold P_Ltext
  simp only [pure_bind, bind_assoc, map_pure, bind_pure]
  rw [written_eq (by omega) (by omega), pure_bind, Mo.run_bind, Mo.run_take]
  refine ⟨by decide, fun kind hk => ?_⟩
  rw [Mo.rq_of (by omega), pure_bind, Mo.run_bind, Mo.run_take]
  refine ⟨by omega, fun pl hp => ?_⟩
  rw [Mo.run_bind, Mo.run_take]
  refine ⟨by decide, fun ci hc => ?_⟩
  obtain ⟨ch, e1, e2⟩ := char_ok hc
  rw [e1, pure_bind]
  have l1 := cutS_length (wr a b) none (some pl)
  have l2 := cutS_length (wr a b) (some pl) none
  have l3 := cutS_length (wr a b) (some (pl + 1)) none
  by_cases k0 : kind = 0
  · rw [if_pos (decide_eq_true k0), Mo.rq_of (by omega), pure_bind, Mo.rq_of (by omega), pure_bind, Mo.rq_of (by omega), pure_bind, Mo.rq_of (by rw [len_app]; omega)]
    exact q _
  rw [if_neg (by simpa using k0)]
  by_cases k1 : kind = 1
  · rw [if_pos (decide_eq_true k1), Mo.rq_of (by omega), pure_bind, Mo.rq_of (by omega), pure_bind, Mo.rq_of (by omega)]
    exact q _
  rw [if_neg (by simpa using k1)]
  by_cases k2 : kind = 2
  · rw [if_pos (decide_eq_true k2), Mo.rq_of (by omega), pure_bind, Mo.rq_of (by omega), pure_bind, Mo.rq_of (by omega), pure_bind, Mo.rq_of (by rw [len_app]; omega)]
    exact q _
  rw [if_neg (by simpa using k2)]
  by_cases k3 : kind = 3
  · have h1 : ("charge " : Str).length = 7 := by decide +kernel
    have h2 : (", send " : Str).length = 7 := by decide +kernel
    rw [if_pos (decide_eq_true k3), Mo.rq_of (by omega), pure_bind, Mo.rq_of (by rw [len_app]; omega), pure_bind, Mo.rq_of (by rw [len_app, len_app]; omega)]
    exact q _
  rw [if_neg (by simpa using k3)]
  by_cases k4 : kind = 4
  · rw [if_pos (decide_eq_true k4), Mo.rq_of (by simp only [List.length_cons, List.length_nil]; omega), pure_bind, Mo.rq_of (by simp only [List.length_append, List.length_cons, List.length_nil]; omega), pure_bind, Mo.run_bind, Mo.run_take]
    refine ⟨by decide, fun x hx => ?_⟩
    refine (atI_in (i := x) hx.1 ?_).elim fun z hz2 => by rw [hz2.1, Mo.get_some]; exact q _
    simp only [List.length_append, List.length_cons, List.length_nil]
    omega
  rw [if_neg (by simpa using k4)]
  by_cases k5 : kind = 5
  · rw [if_pos (decide_eq_true k5), Mo.run_bind, Mo.run_take]
    refine ⟨by decide, fun x hx => ?_⟩
    have near : ∀ w ∈ (["first", "last", "fullest", "emptiest", "", "First", "full", "empty", "fulles", "lastt"] : List Str), w.length ≤ 8 := by decide +kernel
    obtain ⟨z0, z1, z3⟩ := atI_in (xs := (["first", "last", "fullest", "emptiest", "", "First", "full", "empty", "fulles", "lastt"] : List Str)) hx.1 hx.2
    rw [z1, Mo.get_some, pure_bind, Mo.run_bind, Mo.run_take]
    refine ⟨by decide, fun y hy => ?_⟩
    obtain ⟨y0, y2, y3⟩ := atI_in (xs := (["first", "last", "fullest", "emptiest", "", "First", "full", "empty", "fulles", "lastt"] : List Str)) hy.1 hy.2
    have n1 := near _ (List.mem_of_getElem? z3)
    have n2 := near _ (List.mem_of_getElem? y3)
    rw [y2, Mo.get_some, pure_bind, written_eq (by omega) (by omega)]
    exact q _
  rw [if_neg (by simpa using k5)]
  by_cases k6 : kind = 6
  · rw [if_pos (decide_eq_true k6), Mo.run_bind, Mo.run_take]
    refine ⟨by decide, fun m hm => ?_⟩
    rw [Mo.rq_of ⟨by omega, by omega⟩, pure_bind, Mo.run_bind]
    refine Mo.lc_each (R := fun _ z => z.length = 1) (by rw [rangeL_len]; omega) (fun i _ => ?_) fun ys hl h => ?_
    · rw [Mo.run_bind, Mo.run_take]
      refine ⟨by decide, fun c hc => ?_⟩
      obtain ⟨z, e1, e2⟩ := char_ok hc
      rw [e1]
      exact e2
    · rw [rangeL_len] at hl
      have sum : ∀ (l : List Str), (∀ z ∈ l, z.length = 1) → (l.map fun x => x.length).sum = l.length := fun l => by
        induction l with
        | nil => intro _; rfl
        | cons z l ih =>
          intro h
          rw [List.map_cons, List.sum_cons, ih fun y hy => h y (List.mem_cons_of_mem _ hy), h z List.mem_cons_self, List.length_cons]
          omega
      have one : ∀ z ∈ ys, z.length = 1 := fun z hz => by
        obtain ⟨i, hi, e⟩ := List.getElem_of_mem hz
        have hx : (rangeL 0 m.toNat)[i]? = some ((rangeL 0 m.toNat)[i]'(by rw [rangeL_len]; omega)) := List.getElem?_eq_getElem _
        exact h i _ z hx (by rw [← e]; exact List.getElem?_eq_getElem hi)
      have h0 : ("" : Str).length = 0 := by decide +kernel
      rw [Mo.rq_of (by rw [sum ys one, h0]; omega)]
      exact q _
  rw [if_neg (by simpa using k6)]
  exact q _
end DD
namespace DD
open PySem PySem.Spec PyProof.Rows L2 KO SX RF
theorem scB {a b : Bool} : decide (Sc.v rB a = Sc.v rB b) = decide (a = b) := decide_eq_decide.mpr ⟨fun h => V.bl.inj h, fun h => by rw [h]⟩
theorem Law_ok (ns : List Int) : (P_Law ns).run (fun b => b = true) (fun _ => False) := by
  unfold P_Law
  simp only [pure_bind, bind_assoc, map_pure, bind_pure, scS, scB]
  have hz := sizeLine_eq
  rw [Mo.rq_of (by decide), pure_bind, Mo.run_bind, Mo.run_take]
  refine ⟨by decide, fun x hx => ?_⟩
  show (Mo.get (atI wds x) >>= _ : Mo Bool).run _ _
  obtain ⟨a, a1, a2⟩ := atI_in (xs := wds) hx.1 hx.2
  have ha := List.mem_of_getElem? a2
  rw [a1, Mo.get_some, pure_bind, Mo.run_bind, Mo.run_take]
  refine ⟨by decide, fun y hy => ?_⟩
  show (Mo.get (atI wds y) >>= _ : Mo Bool).run _ _
  obtain ⟨b, b1, b2⟩ := atI_in (xs := wds) hy.1 hy.2
  have hb := List.mem_of_getElem? b2
  have la := wds_len ha
  have lb := wds_len hb
  rw [b1, Mo.get_some, pure_bind, init_eq ha hb, pure_bind]
  show (Mo.rq (Enc.ok (rTs rS) wds) (Enc.d (rTs rS) wds) >>= _ : Mo Bool).run _ _
  rw [Mo.rq_of (show Enc.ok (rTs rS) wds from ⟨by decide, fun _ _ => trivial⟩), pure_bind]
  show (Mo.rq (PyData.tuple (wds.map PyData.str) = Enc.d (rTs rS) wds) true >>= _ : Mo Bool).run _ _
  rw [Mo.rq_of (show PyData.tuple (wds.map PyData.str) = Enc.d (rTs rS) wds from rfl), pure_bind, if_neg (by decide), is_eq (by omega) (by omega), pure_bind, if_neg (by decide)]
  show ((P_Lrow wds >>= _ : Mo Bool) >>= _ : Mo Bool).run _ _
  rw [row_eq, pure_bind, pure_bind, if_neg (by decide)]
  show (Mo.loop _ wds () >>= _ : Mo Bool).run _ _
  rw [Mo.loop_find (g := fun _ => none) fun c hc => ?_]
  · rw [show wds.findSome? (fun _ => (none : Option Bool)) = none from rfl, pure_bind]
    show (Mo.rq (0 ≤ 1 ∧ 1 ≤ 1000) () >>= _ : Mo Bool).run _ _
    rw [Mo.rq_of (by decide), pure_bind, Mo.rq_of (by decide), pure_bind, Mo.run_bind]
    refine Mo.loop_inv (fun _ _ => True) (k := 0) trivial (fun i w s _ _ => ?_) fun s _ => ?_
    · rw [Mo.run_bind]
      refine text_ok ha hb fun z => ?_
      show (P_Lreads z wds >>= _ : Mo _).run _ _
      rw [reads_eq, pure_bind, if_neg (by decide), Mo.run_pure]
      trivial
    · simp only [Lp.out, pure_bind, if_true]
      show (P_Lrow wds).run _ _
      rw [row_eq]
      rfl
  · have lc := wds_len hc
    show (Mo.loop _ wds () >>= _ : Mo _) = _
    rw [Mo.loop_find (g := fun _ => none) fun d hd => ?_]
    · rfl
    · have ld := wds_len hd
      rw [init_eq hc hd, pure_bind, ruleeq, Mo.calm_pure, pure_bind]
      have e : (if decide (c = a) = true then pure (decide (d = b)) else pure false : Mo Bool) = pure (decide (a = c) && decide (b = d)) := by
        by_cases h : a = c
        · rw [if_pos (decide_eq_true h.symm), decide_eq_true h, Bool.true_and, decide_eq_decide.mpr (eq_comm (a := d) (b := b))]
        · rw [if_neg (by simpa using fun q => h q.symm), decide_eq_false h, Bool.false_and]
      rw [e, pure_bind, if_neg (by simp), written_eq (by omega) (by omega), pure_bind]
      show (P_Lreads (wr c d) wds >>= _ : Mo _) = _
      rw [reads_eq, pure_bind, if_neg (by decide)]
      rfl
end DD
namespace DD
open PySem PySem.Spec PyProof.Rows L2 KO SX RF
def spLaw (K : PySem.W.Frag) : Sp := fun vs H Q _ => ∃ (a : Addr) (ns : List Int), vs = [.ref a] ∧ SqL K H a (ns.map V.int) ∧ ns.length ≤ 63 ∧ ∀ H', Q (.bl true) H'
theorem ok_law {P : Program} {w : World} {K : PySem.W.Frag} {mg : Str → Option Value} {base : Heap} (T : Tx K mg) : FnOk P w K mg base CX0 11 T.flaw T.dlaw ["_law_script"] (spLaw K) := by
  refine (fn_Law (P := P) (w := w) (base := base) T).c0 fun vs H Q E h => ?_
  obtain ⟨a, ns, rfl, hs, hl, q⟩ := h
  refine ⟨(), (ns, ()), H, ⟨Go.refl (Same.refl H), fun i e he => ?_, fun i j l m b p r h1 h2 => ?_, rfl⟩, (P_Law ns).mono (fun b hb v F' H' _ _ hv => ?_) (fun _ z => z.elim) (Law_ok ns)⟩
  · match i, he with
    | 0, he =>
      cases he
      exact ⟨.ref a, rfl, a, rfl, hs⟩
    | i + 1, he => cases he
  · match i, h1 with
    | 0, h1 => cases h1
    | i + 1, h1 => cases h1
  · obtain rfl : v = .bl b := hv
    rw [hb]
    exact q H'
end DD
namespace DD
open PySem L2 SX
theorem all_mk {l : PySem.W.OpenLaw} {w : World} {K : PySem.W.Frag} {h : Heap} {mg : Str → Option Value} {fa : Addr} (X : K.In h) (G : h.Ns mainGlobals mg) (hfa : mg "law" = some (.ref fa)) {pm_18 : Addr} {rs_18 : List Value} {pm_19 : Addr} {rs_19 : List Value} {n_Rule_WORDS : Nat} {sl_Rule_WORDS : Array (Option Value)} {u_Rule_WORDS_0 u_Rule_WORDS_1 u_Rule_WORDS_2 u_Rule_WORDS_3 : Tok} {nm_BadRule q_BadRule : Str} {N_BadRule : Addr} {bs_BadRule : List Value} {sn_BadRule : List Str} {sub_BadRule : List Value} {ab_BadRule : Bool} {col_BadRule : Option Bool} {dd_BadRule : Option Addr} {m0_BadRule m1_BadRule m2_BadRule m3_BadRule m5_BadRule : Option Value} {f0 f1 f2 f3 f4 f5 f6 f7 f8 f9 f10 f11 f12 f13 f14 f15 f16 f17 f18 f19 f20 f21 f22 f23 f24 f25 f26 f27 f28 f29 f30 f31 f32 f33 f34 f35 f36 CRule CDepotError CNoNews CBadCable CBadRule t_Rule_WORDS : Addr} {od0 an0 od1 an1 od2 an2 od3 an3 od4 an4 od5 an5 od6 an6 od7 an7 od8 an8 od9 an9 od10 an10 od11 an11 od12 an12 od13 an13 od14 an14 od15 an15 od16 an16 od17 an17 od18 an18 od19 an19 od20 an20 od21 an21 od22 an22 od23 an23 od24 an24 od25 an25 od26 an26 od27 an27 od28 an28 od29 an29 od30 an30 od31 an31 od32 an32 od33 an33 od34 an34 od35 an35 od36 an36 : Option Addr} {sl0 sl1 sl2 sl3 sl4 sl5 sl6 sl7 sl8 sl9 sl10 sl11 sl12 sl13 sl14 sl15 sl16 sl17 sl18 sl19 sl20 sl21 sl22 sl23 sl24 sl25 sl26 sl27 sl28 sl29 sl30 sl31 sl32 sl33 sl34 sl35 sl36 : Array (Option Value)} {oc0 kV0 dc0 pm0 cd0 ct0 oc1 kV1 dc1 pm1 cd1 ct1 oc2 kV2 dc2 pm2 cd2 ct2 oc3 kV3 dc3 pm3 cd3 ct3 oc4 kV4 dc4 pm4 cd4 ct4 oc5 kV5 dc5 pm5 cd5 ct5 oc6 kV6 dc6 pm6 cd6 ct6 oc7 kV7 dc7 pm7 cd7 ct7 oc8 kV8 dc8 pm8 cd8 ct8 oc9 kV9 dc9 pm9 cd9 ct9 oc10 kV10 dc10 pm10 cd10 ct10 oc11 kV11 dc11 pm11 cd11 ct11 oc12 kV12 dc12 pm12 cd12 ct12 oc13 kV13 dc13 pm13 cd13 ct13 oc14 kV14 dc14 pm14 cd14 ct14 oc15 kV15 dc15 pm15 cd15 ct15 oc16 kV16 dc16 pm16 cd16 ct16 oc17 kV17 dc17 pm17 cd17 ct17 oc18 kV18 dc18 pm18 cd18 ct18 oc19 kV19 dc19 pm19 cd19 ct19 oc20 kV20 dc20 pm20 cd20 ct20 oc21 kV21 dc21 pm21 cd21 ct21 oc22 kV22 dc22 pm22 cd22 ct22 oc23 kV23 dc23 pm23 cd23 ct23 oc24 kV24 dc24 pm24 cd24 ct24 oc25 kV25 dc25 pm25 cd25 ct25 oc26 kV26 dc26 pm26 cd26 ct26 oc27 kV27 dc27 pm27 cd27 ct27 oc28 kV28 dc28 pm28 cd28 ct28 oc29 kV29 dc29 pm29 cd29 ct29 oc30 kV30 dc30 pm30 cd30 ct30 oc31 kV31 dc31 pm31 cd31 ct31 oc32 kV32 dc32 pm32 cd32 ct32 oc33 kV33 dc33 pm33 cd33 ct33 oc34 kV34 dc34 pm34 cd34 ct34 oc35 kV35 dc35 pm35 cd35 ct35 oc36 kV36 dc36 pm36 cd36 ct36 : Value}
    (z_ValueError : PySem.W.nsIn K mainGlobals "ValueError" = some none)
    (z_abs : PySem.W.nsIn K mainGlobals "abs" = some none)
    (z_all : PySem.W.nsIn K mainGlobals "all" = some none)
    (z_bool : PySem.W.nsIn K mainGlobals "bool" = some none)
    (z_classmethod : PySem.W.nsIn K mainGlobals "classmethod" = some none)
    (z_enumerate : PySem.W.nsIn K mainGlobals "enumerate" = some none)
    (z_int : PySem.W.nsIn K mainGlobals "int" = some none)
    (z_isinstance : PySem.W.nsIn K mainGlobals "isinstance" = some none)
    (z_len : PySem.W.nsIn K mainGlobals "len" = some none)
    (z_list : PySem.W.nsIn K mainGlobals "list" = some none)
    (z_max : PySem.W.nsIn K mainGlobals "max" = some none)
    (z_min : PySem.W.nsIn K mainGlobals "min" = some none)
    (z_range : PySem.W.nsIn K mainGlobals "range" = some none)
    (z_set : PySem.W.nsIn K mainGlobals "set" = some none)
    (z_sorted : PySem.W.nsIn K mainGlobals "sorted" = some none)
    (z_staticmethod : PySem.W.nsIn K mainGlobals "staticmethod" = some none)
    (z_str : PySem.W.nsIn K mainGlobals "str" = some none)
    (z_tuple : PySem.W.nsIn K mainGlobals "tuple" = some none)
    (z_zip : PySem.W.nsIn K mainGlobals "zip" = some none)
    (a_Rule : PySem.W.nsIn K mainGlobals "Rule" = some (some (.ref CRule)))
    (pg_Rule : PySem.W.plainGet K CRule Str.empty = true)
    (hd_Rule : PySem.W.hasDictIn K CRule = true)
    (po_Rule : PySem.W.plainOver K CRule = true)
    (sa_Rule : PySem.W.findIn K (.ref CRule) "__setattr__" = some (some (.builtin "object.__setattr__")))
    (mk_Rule : PySem.W.makesIn K CRule = true)
    (kc_Rule : PySem.W.keepIn K (.ref CRule) = true)
    (na_Rule_send_word : PySem.W.findIn K (.ref CRule) "send_word" = some none)
    (na_Rule_charge_word : PySem.W.findIn K (.ref CRule) "charge_word" = some none)
    (a_DepotError : PySem.W.nsIn K mainGlobals "DepotError" = some (some (.ref CDepotError)))
    (a_NoNews : PySem.W.nsIn K mainGlobals "NoNews" = some (some (.ref CNoNews)))
    (a_BadCable : PySem.W.nsIn K mainGlobals "BadCable" = some (some (.ref CBadCable)))
    (a_BadRule : PySem.W.nsIn K mainGlobals "BadRule" = some (some (.ref CBadRule)))
    (a_t_Rule_WORDS : PySem.W.findIn K (.ref CRule) "WORDS" = some (some (.ref t_Rule_WORDS)))
    (a0 : PySem.W.findIn K (.ref CBadRule) "__init__" = some (some (.ref f0)))
    (i0 : PySem.W.typeIn K (.ref f0) = some (.type "function"))
    (l0 : K.lookup f0 = some ⟨oc0, od0, .func (PySem.W.fnOf "__init__" "BadRule.__init__" (defArgs sBadRuleInit) (defBody sBadRuleInit) (defScope sBadRuleInit) .none kV0 dc0 pm0 an0 cd0 ct0), sl0⟩)
    (c0 : PySem.W.codeIn K cd0 "BadRule.__init__" = true)
    (k0 : PySem.W.keepIn K (.ref f0) = true)
    (a1 : PySem.W.nsIn K mainGlobals "passes" = some (some (.ref f1)))
    (l1 : K.lookup f1 = some ⟨oc1, od1, .func (PySem.W.fnOf "passes" "passes" (defArgs spasses) (defBody spasses) (defScope spasses) .none kV1 dc1 pm1 an1 cd1 ct1), sl1⟩)
    (c1 : PySem.W.codeIn K cd1 "passes" = true)
    (k1 : PySem.W.keepIn K (.ref f1) = true)
    (a2 : PySem.W.nsIn K mainGlobals "last_known" = some (some (.ref f2)))
    (l2 : K.lookup f2 = some ⟨oc2, od2, .func (PySem.W.fnOf "last_known" "last_known" (defArgs slastknown) (defBody slastknown) (defScope slastknown) .none kV2 dc2 pm2 an2 cd2 ct2), sl2⟩)
    (c2 : PySem.W.codeIn K cd2 "last_known" = true)
    (k2 : PySem.W.keepIn K (.ref f2) = true)
    (a3 : PySem.W.nsIn K mainGlobals "at_home" = some (some (.ref f3)))
    (l3 : K.lookup f3 = some ⟨oc3, od3, .func (PySem.W.fnOf "at_home" "at_home" (defArgs sathome) (defBody sathome) (defScope sathome) .none kV3 dc3 pm3 an3 cd3 ct3), sl3⟩)
    (c3 : PySem.W.codeIn K cd3 "at_home" = true)
    (k3 : PySem.W.keepIn K (.ref f3) = true)
    (a4 : PySem.W.nsIn K mainGlobals "coming_pages" = some (some (.ref f4)))
    (l4 : K.lookup f4 = some ⟨oc4, od4, .func (PySem.W.fnOf "coming_pages" "coming_pages" (defArgs scomingpages) (defBody scomingpages) (defScope scomingpages) .none kV4 dc4 pm4 an4 cd4 ct4), sl4⟩)
    (c4 : PySem.W.codeIn K cd4 "coming_pages" = true)
    (k4 : PySem.W.keepIn K (.ref f4) = true)
    (a5 : PySem.W.nsIn K mainGlobals "must_come" = some (some (.ref f5)))
    (l5 : K.lookup f5 = some ⟨oc5, od5, .func (PySem.W.fnOf "must_come" "must_come" (defArgs smustcome) (defBody smustcome) (defScope smustcome) .none kV5 dc5 pm5 an5 cd5 ct5), sl5⟩)
    (c5 : PySem.W.codeIn K cd5 "must_come" = true)
    (k5 : PySem.W.keepIn K (.ref f5) = true)
    (a6 : PySem.W.nsIn K mainGlobals "may_come" = some (some (.ref f6)))
    (l6 : K.lookup f6 = some ⟨oc6, od6, .func (PySem.W.fnOf "may_come" "may_come" (defArgs smaycome) (defBody smaycome) (defScope smaycome) .none kV6 dc6 pm6 an6 cd6 ct6), sl6⟩)
    (c6 : PySem.W.codeIn K cd6 "may_come" = true)
    (k6 : PySem.W.keepIn K (.ref f6) = true)
    (a7 : PySem.W.nsIn K mainGlobals "is_news" = some (some (.ref f7)))
    (l7 : K.lookup f7 = some ⟨oc7, od7, .func (PySem.W.fnOf "is_news" "is_news" (defArgs sisnews) (defBody sisnews) (defScope sisnews) .none kV7 dc7 pm7 an7 cd7 ct7), sl7⟩)
    (c7 : PySem.W.codeIn K cd7 "is_news" = true)
    (k7 : PySem.W.keepIn K (.ref f7) = true)
    (a8 : PySem.W.nsIn K mainGlobals "queue_with" = some (some (.ref f8)))
    (l8 : K.lookup f8 = some ⟨oc8, od8, .func (PySem.W.fnOf "queue_with" "queue_with" (defArgs squeuewith) (defBody squeuewith) (defScope squeuewith) .none kV8 dc8 pm8 an8 cd8 ct8), sl8⟩)
    (c8 : PySem.W.codeIn K cd8 "queue_with" = true)
    (k8 : PySem.W.keepIn K (.ref f8) = true)
    (a9 : PySem.W.nsIn K mainGlobals "queue_after" = some (some (.ref f9)))
    (l9 : K.lookup f9 = some ⟨oc9, od9, .func (PySem.W.fnOf "queue_after" "queue_after" (defArgs squeueafter) (defBody squeueafter) (defScope squeueafter) .none kV9 dc9 pm9 an9 cd9 ct9), sl9⟩)
    (c9 : PySem.W.codeIn K cd9 "queue_after" = true)
    (k9 : PySem.W.keepIn K (.ref f9) = true)
    (a10 : PySem.W.nsIn K mainGlobals "bar_indexes" = some (some (.ref f10)))
    (l10 : K.lookup f10 = some ⟨oc10, od10, .func (PySem.W.fnOf "bar_indexes" "bar_indexes" (defArgs sbarindexes) (defBody sbarindexes) (defScope sbarindexes) .none kV10 dc10 pm10 an10 cd10 ct10), sl10⟩)
    (c10 : PySem.W.codeIn K cd10 "bar_indexes" = true)
    (k10 : PySem.W.keepIn K (.ref f10) = true)
    (a11 : PySem.W.nsIn K mainGlobals "can_run" = some (some (.ref f11)))
    (l11 : K.lookup f11 = some ⟨oc11, od11, .func (PySem.W.fnOf "can_run" "can_run" (defArgs scanrun) (defBody scanrun) (defScope scanrun) .none kV11 dc11 pm11 an11 cd11 ct11), sl11⟩)
    (c11 : PySem.W.codeIn K cd11 "can_run" = true)
    (k11 : PySem.W.keepIn K (.ref f11) = true)
    (a12 : PySem.W.nsIn K mainGlobals "counts_after" = some (some (.ref f12)))
    (l12 : K.lookup f12 = some ⟨oc12, od12, .func (PySem.W.fnOf "counts_after" "counts_after" (defArgs scountsafter) (defBody scountsafter) (defScope scountsafter) .none kV12 dc12 pm12 an12 cd12 ct12), sl12⟩)
    (c12 : PySem.W.codeIn K cd12 "counts_after" = true)
    (k12 : PySem.W.keepIn K (.ref f12) = true)
    (a13 : PySem.W.nsIn K mainGlobals "is_patient" = some (some (.ref f13)))
    (l13 : K.lookup f13 = some ⟨oc13, od13, .func (PySem.W.fnOf "is_patient" "is_patient" (defArgs sispatient) (defBody sispatient) (defScope sispatient) .none kV13 dc13 pm13 an13 cd13 ct13), sl13⟩)
    (c13 : PySem.W.codeIn K cd13 "is_patient" = true)
    (k13 : PySem.W.keepIn K (.ref f13) = true)
    (a14 : PySem.W.nsIn K mainGlobals "chargeable" = some (some (.ref f14)))
    (l14 : K.lookup f14 = some ⟨oc14, od14, .func (PySem.W.fnOf "chargeable" "chargeable" (defArgs schargeable) (defBody schargeable) (defScope schargeable) .none kV14 dc14 pm14 an14 cd14 ct14), sl14⟩)
    (c14 : PySem.W.codeIn K cd14 "chargeable" = true)
    (k14 : PySem.W.keepIn K (.ref f14) = true)
    (a15 : PySem.W.nsIn K mainGlobals "charge_count" = some (some (.ref f15)))
    (l15 : K.lookup f15 = some ⟨oc15, od15, .func (PySem.W.fnOf "charge_count" "charge_count" (defArgs schargecount) (defBody schargecount) (defScope schargecount) .none kV15 dc15 pm15 an15 cd15 ct15), sl15⟩)
    (c15 : PySem.W.codeIn K cd15 "charge_count" = true)
    (k15 : PySem.W.keepIn K (.ref f15) = true)
    (a16 : PySem.W.nsIn K mainGlobals "picked" = some (some (.ref f16)))
    (l16 : K.lookup f16 = some ⟨oc16, od16, .func (PySem.W.fnOf "picked" "picked" (defArgs spicked) (defBody spicked) (defScope spicked) .none kV16 dc16 pm16 an16 cd16 ct16), sl16⟩)
    (c16 : PySem.W.codeIn K cd16 "picked" = true)
    (k16 : PySem.W.keepIn K (.ref f16) = true)
    (a17 : PySem.W.findIn K (.ref CRule) "__init__" = some (some (.ref f17)))
    (i17 : PySem.W.isFn K (.ref f17) = true)
    (l17 : K.lookup f17 = some ⟨oc17, od17, .func (PySem.W.fnOf "__init__" "Rule.__init__" (defArgs sRuleInit) (defBody sRuleInit) (defScope sRuleInit) .none kV17 dc17 pm17 an17 cd17 ct17), sl17⟩)
    (c17 : PySem.W.codeIn K cd17 "Rule.__init__" = true)
    (k17 : PySem.W.keepIn K (.ref f17) = true)
    (a18 : PySem.W.findIn K (.ref CRule) "every" = some (some (.ref pm_18)))
    (r18 : PySem.W.recIn K pm_18 "staticmethod" = some (.ref f18 :: rs_18))
    (f018 : PySem.W.findIn K (.type "type") "every" = some none)
    (t18 : PySem.W.typeIn K (.ref pm_18) = some (.type "staticmethod"))
    (g18 : PySem.W.specialIn K (.ref pm_18) "__get__" = some (some (.builtin "staticmethod.__get__")))
    (l18 : K.lookup f18 = some ⟨oc18, od18, .func (PySem.W.fnOf "every" "Rule.every" (defArgs sRuleEvery) (defBody sRuleEvery) (defScope sRuleEvery) .none kV18 dc18 pm18 an18 cd18 ct18), sl18⟩)
    (c18 : PySem.W.codeIn K cd18 "Rule.every" = true)
    (k18 : PySem.W.keepIn K (.ref f18) = true)
    (a19 : PySem.W.findIn K (.ref CRule) "parse" = some (some (.ref pm_19)))
    (r19 : PySem.W.recIn K pm_19 "classmethod" = some (.ref f19 :: rs_19))
    (f019 : PySem.W.findIn K (.type "type") "parse" = some none)
    (t19 : PySem.W.typeIn K (.ref pm_19) = some (.type "classmethod"))
    (g19 : PySem.W.specialIn K (.ref pm_19) "__get__" = some (some (.builtin "classmethod.__get__")))
    (n19 : PySem.W.fnIn K f19 = true)
    (l19 : K.lookup f19 = some ⟨oc19, od19, .func (PySem.W.fnOf "parse" "Rule.parse" (defArgs sRuleParse) (defBody sRuleParse) (defScope sRuleParse) .none kV19 dc19 pm19 an19 cd19 ct19), sl19⟩)
    (c19 : PySem.W.codeIn K cd19 "Rule.parse" = true)
    (k19 : PySem.W.keepIn K (.ref f19) = true)
    (a20 : PySem.W.findIn K (.ref CRule) "__eq__" = some (some (.ref f20)))
    (i20 : PySem.W.isFn K (.ref f20) = true)
    (l20 : K.lookup f20 = some ⟨oc20, od20, .func (PySem.W.fnOf "__eq__" "Rule.__eq__" (defArgs sRuleEq) (defBody sRuleEq) (defScope sRuleEq) .none kV20 dc20 pm20 an20 cd20 ct20), sl20⟩)
    (c20 : PySem.W.codeIn K cd20 "Rule.__eq__" = true)
    (k20 : PySem.W.keepIn K (.ref f20) = true)
    (a21 : PySem.W.findIn K (.ref CRule) "__str__" = some (some (.ref f21)))
    (i21 : PySem.W.isFn K (.ref f21) = true)
    (l21 : K.lookup f21 = some ⟨oc21, od21, .func (PySem.W.fnOf "__str__" "Rule.__str__" (defArgs sRuleStr) (defBody sRuleStr) (defScope sRuleStr) .none kV21 dc21 pm21 an21 cd21 ct21), sl21⟩)
    (c21 : PySem.W.codeIn K cd21 "Rule.__str__" = true)
    (k21 : PySem.W.keepIn K (.ref f21) = true)
    (a22 : PySem.W.findIn K (.ref CRule) "_sent" = some (some (.ref f22)))
    (i22 : PySem.W.isFn K (.ref f22) = true)
    (l22 : K.lookup f22 = some ⟨oc22, od22, .func (PySem.W.fnOf "_sent" "Rule._sent" (defArgs sRuleSent) (defBody sRuleSent) (defScope sRuleSent) .none kV22 dc22 pm22 an22 cd22 ct22), sl22⟩)
    (c22 : PySem.W.codeIn K cd22 "Rule._sent" = true)
    (k22 : PySem.W.keepIn K (.ref f22) = true)
    (a23 : PySem.W.findIn K (.ref CRule) "_charged" = some (some (.ref f23)))
    (i23 : PySem.W.isFn K (.ref f23) = true)
    (l23 : K.lookup f23 = some ⟨oc23, od23, .func (PySem.W.fnOf "_charged" "Rule._charged" (defArgs sRuleCharged) (defBody sRuleCharged) (defScope sRuleCharged) .none kV23 dc23 pm23 an23 cd23 ct23), sl23⟩)
    (c23 : PySem.W.codeIn K cd23 "Rule._charged" = true)
    (k23 : PySem.W.keepIn K (.ref f23) = true)
    (a24 : PySem.W.findIn K (.ref CRule) "__call__" = some (some (.ref f24)))
    (i24 : PySem.W.isFn K (.ref f24) = true)
    (l24 : K.lookup f24 = some ⟨oc24, od24, .func (PySem.W.fnOf "__call__" "Rule.__call__" (defArgs sRuleCall) (defBody sRuleCall) (defScope sRuleCall) .none kV24 dc24 pm24 an24 cd24 ct24), sl24⟩)
    (c24 : PySem.W.codeIn K cd24 "Rule.__call__" = true)
    (k24 : PySem.W.keepIn K (.ref f24) = true)
    (a25 : PySem.W.nsIn K mainGlobals "_law_cell" = some (some (.ref f25)))
    (l25 : K.lookup f25 = some ⟨oc25, od25, .func (PySem.W.fnOf "_law_cell" "_law_cell" (defArgs sLcell) (defBody sLcell) (defScope sLcell) .none kV25 dc25 pm25 an25 cd25 ct25), sl25⟩)
    (c25 : PySem.W.codeIn K cd25 "_law_cell" = true)
    (k25 : PySem.W.keepIn K (.ref f25) = true)
    (a26 : PySem.W.nsIn K mainGlobals "_law_pool" = some (some (.ref f26)))
    (l26 : K.lookup f26 = some ⟨oc26, od26, .func (PySem.W.fnOf "_law_pool" "_law_pool" (defArgs sLpool) (defBody sLpool) (defScope sLpool) .none kV26 dc26 pm26 an26 cd26 ct26), sl26⟩)
    (c26 : PySem.W.codeIn K cd26 "_law_pool" = true)
    (k26 : PySem.W.keepIn K (.ref f26) = true)
    (a27 : PySem.W.nsIn K mainGlobals "_law_take" = some (some (.ref f27)))
    (l27 : K.lookup f27 = some ⟨oc27, od27, .func (PySem.W.fnOf "_law_take" "_law_take" (defArgs sLtake) (defBody sLtake) (defScope sLtake) .none kV27 dc27 pm27 an27 cd27 ct27), sl27⟩)
    (c27 : PySem.W.codeIn K cd27 "_law_take" = true)
    (k27 : PySem.W.keepIn K (.ref f27) = true)
    (a28 : PySem.W.nsIn K mainGlobals "_law_same" = some (some (.ref f28)))
    (l28 : K.lookup f28 = some ⟨oc28, od28, .func (PySem.W.fnOf "_law_same" "_law_same" (defArgs sLsame) (defBody sLsame) (defScope sLsame) .none kV28 dc28 pm28 an28 cd28 ct28), sl28⟩)
    (c28 : PySem.W.codeIn K cd28 "_law_same" = true)
    (k28 : PySem.W.keepIn K (.ref f28) = true)
    (a29 : PySem.W.nsIn K mainGlobals "_law_char" = some (some (.ref f29)))
    (l29 : K.lookup f29 = some ⟨oc29, od29, .func (PySem.W.fnOf "_law_char" "_law_char" (defArgs sLchar) (defBody sLchar) (defScope sLchar) .none kV29 dc29 pm29 an29 cd29 ct29), sl29⟩)
    (c29 : PySem.W.codeIn K cd29 "_law_char" = true)
    (k29 : PySem.W.keepIn K (.ref f29) = true)
    (a30 : PySem.W.nsIn K mainGlobals "_law_written" = some (some (.ref f30)))
    (l30 : K.lookup f30 = some ⟨oc30, od30, .func (PySem.W.fnOf "_law_written" "_law_written" (defArgs sLwritten) (defBody sLwritten) (defScope sLwritten) .none kV30 dc30 pm30 an30 cd30 ct30), sl30⟩)
    (c30 : PySem.W.codeIn K cd30 "_law_written" = true)
    (k30 : PySem.W.keepIn K (.ref f30) = true)
    (a31 : PySem.W.nsIn K mainGlobals "_law_text" = some (some (.ref f31)))
    (l31 : K.lookup f31 = some ⟨oc31, od31, .func (PySem.W.fnOf "_law_text" "_law_text" (defArgs sLtext) (defBody sLtext) (defScope sLtext) .none kV31 dc31 pm31 an31 cd31 ct31), sl31⟩)
    (c31 : PySem.W.codeIn K cd31 "_law_text" = true)
    (k31 : PySem.W.keepIn K (.ref f31) = true)
    (a32 : PySem.W.nsIn K mainGlobals "_law_parsed" = some (some (.ref f32)))
    (l32 : K.lookup f32 = some ⟨oc32, od32, .func (PySem.W.fnOf "_law_parsed" "_law_parsed" (defArgs sLparsed) (defBody sLparsed) (defScope sLparsed) .none kV32 dc32 pm32 an32 cd32 ct32), sl32⟩)
    (c32 : PySem.W.codeIn K cd32 "_law_parsed" = true)
    (k32 : PySem.W.keepIn K (.ref f32) = true)
    (a33 : PySem.W.nsIn K mainGlobals "_law_is" = some (some (.ref f33)))
    (l33 : K.lookup f33 = some ⟨oc33, od33, .func (PySem.W.fnOf "_law_is" "_law_is" (defArgs sLis) (defBody sLis) (defScope sLis) .none kV33 dc33 pm33 an33 cd33 ct33), sl33⟩)
    (c33 : PySem.W.codeIn K cd33 "_law_is" = true)
    (k33 : PySem.W.keepIn K (.ref f33) = true)
    (a34 : PySem.W.nsIn K mainGlobals "_law_reads" = some (some (.ref f34)))
    (l34 : K.lookup f34 = some ⟨oc34, od34, .func (PySem.W.fnOf "_law_reads" "_law_reads" (defArgs sLreads) (defBody sLreads) (defScope sLreads) .none kV34 dc34 pm34 an34 cd34 ct34), sl34⟩)
    (c34 : PySem.W.codeIn K cd34 "_law_reads" = true)
    (k34 : PySem.W.keepIn K (.ref f34) = true)
    (a35 : PySem.W.nsIn K mainGlobals "_law_row" = some (some (.ref f35)))
    (l35 : K.lookup f35 = some ⟨oc35, od35, .func (PySem.W.fnOf "_law_row" "_law_row" (defArgs sLrow) (defBody sLrow) (defScope sLrow) .none kV35 dc35 pm35 an35 cd35 ct35), sl35⟩)
    (c35 : PySem.W.codeIn K cd35 "_law_row" = true)
    (k35 : PySem.W.keepIn K (.ref f35) = true)
    (a36 : PySem.W.nsIn K mainGlobals "law" = some (some (.ref f36)))
    (l36 : K.lookup f36 = some ⟨oc36, od36, .func (PySem.W.fnOf "law" "law" (defArgs sLaw) (defBody sLaw) (defScope sLaw) .none kV36 dc36 pm36 an36 cd36 ct36), sl36⟩)
    (c36 : PySem.W.codeIn K cd36 "law" = true)
    (k36 : PySem.W.keepIn K (.ref f36) = true)
    (h_ty_DepotError : PySem.W.typeIn K (.ref CDepotError) = some (.type "type"))
    (h_bs_DepotError : PySem.W.subIn K (.ref CDepotError) (.type "BaseException") = some true)
    (h_hd_DepotError : PySem.W.hasDictIn K CDepotError = true)
    (h_ty_NoNews : PySem.W.typeIn K (.ref CNoNews) = some (.type "type"))
    (h_bs_NoNews : PySem.W.subIn K (.ref CNoNews) (.type "BaseException") = some true)
    (h_hd_NoNews : PySem.W.hasDictIn K CNoNews = true)
    (h_ty_BadCable : PySem.W.typeIn K (.ref CBadCable) = some (.type "type"))
    (h_bs_BadCable : PySem.W.subIn K (.ref CBadCable) (.type "BaseException") = some true)
    (h_hd_BadCable : PySem.W.hasDictIn K CBadCable = true)
    (h_ty_BadRule : PySem.W.typeIn K (.ref CBadRule) = some (.type "type"))
    (h_bs_BadRule : PySem.W.subIn K (.ref CBadRule) (.type "BaseException") = some true)
    (h_hd_BadRule : PySem.W.hasDictIn K CBadRule = true)
    (h_kp_BadRule : PySem.W.keepIn K (.ref CBadRule) = true)
    (h_ga_BadRule : PySem.W.findIn K (.ref CBadRule) "__getattribute__" = some (some (.builtin "BaseException.__getattribute__")))
    (h_gg_BadRule : PySem.W.findIn K (.ref CBadRule) "__getattr__" = some none)
    (h_cl_BadRule : PySem.W.findIn K (.ref CBadRule) "__class__" = some (some (.builtin "object.__class__")))
    (h_mr_BadRule : PySem.W.mroIn K CBadRule (.type "object") = some true)
    (h_sb_BadRule_ValueError : PySem.W.subIn K (.ref CBadRule) (.type "ValueError") = some true)
    (h_sb_BadRule_BadCable : PySem.W.subIn K (.ref CBadRule) (.ref CBadCable) = some false)
    (h_sb_BadRule_BadRule : PySem.W.subIn K (.ref CBadRule) (.ref CBadRule) = some true)
    (h_sb_BadRule_DepotError : PySem.W.subIn K (.ref CBadRule) (.ref CDepotError) = some true)
    (h_no_BadRule_part : PySem.W.findIn K (.ref CBadRule) "part" = some none)
    (h_sa_BadRule : PySem.W.findIn K (.ref CBadRule) "__setattr__" = some (some (.builtin "object.__setattr__")))
    (h_kp_NoNews : PySem.W.keepIn K (.ref CNoNews) = true)
    (h_ga_NoNews : PySem.W.findIn K (.ref CNoNews) "__getattribute__" = some (some (.builtin "BaseException.__getattribute__")))
    (h_gg_NoNews : PySem.W.findIn K (.ref CNoNews) "__getattr__" = some none)
    (h_cl_NoNews : PySem.W.findIn K (.ref CNoNews) "__class__" = some (some (.builtin "object.__class__")))
    (h_mr_NoNews : PySem.W.mroIn K CNoNews (.type "object") = some true)
    (h_sb_NoNews_ValueError : PySem.W.subIn K (.ref CNoNews) (.type "ValueError") = some true)
    (h_sb_NoNews_BadCable : PySem.W.subIn K (.ref CNoNews) (.ref CBadCable) = some false)
    (h_sb_NoNews_BadRule : PySem.W.subIn K (.ref CNoNews) (.ref CBadRule) = some false)
    (h_sb_NoNews_DepotError : PySem.W.subIn K (.ref CNoNews) (.ref CDepotError) = some true)
    (h_xo_NoNews : PySem.W.excIn K CNoNews [.type "ValueError", .type "Exception", .type "BaseException", .type "object"] "ValueError.__new__" = true)
    (h_sp_class : PySem.W.specialIn K (.builtin "object.__class__") "__get__" = some (some (.builtin "getset_descriptor.__get__")))
    (h_tk_class : PySem.W.takesIn K (.builtin "object.__class__") = some true)
    (h_ic_Rule : PySem.W.findIn K (.ref CRule) "__class__" = some (some (.builtin "object.__class__")))
    (h_mr_Rule : PySem.W.mroIn K CRule (.type "object") = some true)
    (h_ity_Rule : PySem.W.typeIn K (.ref CRule) = some (.type "type"))
    (h_isb_Rule : PySem.W.subIn K (.ref CRule) (.ref CRule) = some true)
    (h_ihd_Rule : PySem.W.hasDictIn K CRule = true)
    (h_rd_Rule : PySem.W.readsIn K CRule (.type "type") = true)
    (h_ga_Rule : PySem.W.specialIn K (.ref CRule) "__getattribute__" = some (some (.builtin "type.__getattribute__")))
    (h_f0_Rule_WORDS : PySem.W.findIn K (.type "type") "WORDS" = some none)
    (h_ty_Rule_WORDS : PySem.W.typeIn K (.ref t_Rule_WORDS) = some (.type "tuple"))
    (h_gt_Rule_WORDS : PySem.W.specialIn K (.ref t_Rule_WORDS) "__get__" = some none)
    (h_kl_Rule_WORDS : K.lookup t_Rule_WORDS = some ⟨.type "tuple", none, .seq #[.str "first" u_Rule_WORDS_0, .str "last" u_Rule_WORDS_1, .str "fullest" u_Rule_WORDS_2, .str "emptiest" u_Rule_WORDS_3] n_Rule_WORDS, sl_Rule_WORDS⟩)
    (xl_BadRule : K.lookup CBadRule = some (excClassObj nm_BadRule q_BadRule CBadRule N_BadRule bs_BadRule [.ref CDepotError, .type "ValueError", .type "Exception", .type "BaseException", .type "object"] true sn_BadRule sub_BadRule ab_BadRule col_BadRule dd_BadRule m0_BadRule m1_BadRule m2_BadRule m3_BadRule m5_BadRule "ValueError.__new__")) :
    ∃ fd : FuncData, (∀ (s : Shared) (v : Value), BindsTo s fd ⟨[v], []⟩ [("_law_script", v)]) ∧ ∀ base : Heap, K.In base → base.Ns mainGlobals mg → FnOk l.prog w K mg base CX0 11 fa fd ["_law_script"] (spLaw K) := by
  have e := hfa.symm.trans (PySem.W.mg_of X G a36)
  cases e
  have F0 := fun_mk (st := sBadRuleInit) l0 c0 k0
  have b0 := F0.binds (ps := ["self", "part"]) fun _ _ _ _ _ _ us hl => match us, hl with | [_, _], _ => rfl
  have F1 := fun_mk (st := spasses) l1 c1 k1
  have b1 := F1.binds (ps := ["lasts", "orders", "bars"]) fun _ _ _ _ _ _ us hl => match us, hl with | [_, _, _], _ => rfl
  have F2 := fun_mk (st := slastknown) l2 c2 k2
  have b2 := F2.binds (ps := ["depot", "line"]) fun _ _ _ _ _ _ us hl => match us, hl with | [_, _], _ => rfl
  have F3 := fun_mk (st := sathome) l3 c3 k3
  have b3 := F3.binds (ps := ["depot", "vehicles"]) fun _ _ _ _ _ _ us hl => match us, hl with | [_, _], _ => rfl
  have F4 := fun_mk (st := scomingpages) l4 c4 k4
  have b4 := F4.binds (ps := ["book", "standing"]) fun _ _ _ _ _ _ us hl => match us, hl with | [_, _], _ => rfl
  have F5 := fun_mk (st := smustcome) l5 c5 k5
  have b5 := F5.binds (ps := ["day", "standing"]) fun _ _ _ _ _ _ us hl => match us, hl with | [_, _], _ => rfl
  have F6 := fun_mk (st := smaycome) l6 c6 k6
  have b6 := F6.binds (ps := ["standing"]) fun _ _ _ _ _ _ us hl => match us, hl with | [_], _ => rfl
  have F7 := fun_mk (st := sisnews) l7 c7 k7
  have b7 := F7.binds (ps := ["day", "standing", "news"]) fun _ _ _ _ _ _ us hl => match us, hl with | [_, _, _], _ => rfl
  have F8 := fun_mk (st := squeuewith) l8 c8 k8
  have b8 := F8.binds (ps := ["day", "standing", "came"]) fun _ _ _ _ _ _ us hl => match us, hl with | [_, _, _], _ => rfl
  have F9 := fun_mk (st := squeueafter) l9 c9 k9
  have b9 := F9.binds (ps := ["day", "standing", "news"]) fun _ _ _ _ _ _ us hl => match us, hl with | [_, _, _], _ => rfl
  have F10 := fun_mk (st := sbarindexes) l10 c10 k10
  have b10 := F10.binds (ps := ["depot"]) fun _ _ _ _ _ _ us hl => match us, hl with | [_], _ => rfl
  have F11 := fun_mk (st := scanrun) l11 c11 k11
  have b11 := F11.binds (ps := ["day", "vehicle", "line"]) fun _ _ _ _ _ _ us hl => match us, hl with | [_, _, _], _ => rfl
  have F12 := fun_mk (st := scountsafter) l12 c12 k12
  have b12 := F12.binds (ps := ["day", "queue", "lines", "sent"]) fun _ _ _ _ _ _ us hl => match us, hl with | [_, _, _, _], _ => rfl
  have F13 := fun_mk (st := sispatient) l13 c13 k13
  have b13 := F13.binds (ps := ["day", "queue", "lines", "sent"]) fun _ _ _ _ _ _ us hl => match us, hl with | [_, _, _, _], _ => rfl
  have F14 := fun_mk (st := schargeable) l14 c14 k14
  have b14 := F14.binds (ps := ["day", "queue", "sent"]) fun _ _ _ _ _ _ us hl => match us, hl with | [_, _, _], _ => rfl
  have F15 := fun_mk (st := schargecount) l15 c15 k15
  have b15 := F15.binds (ps := ["day", "queue", "sent"]) fun _ _ _ _ _ _ us hl => match us, hl with | [_, _, _], _ => rfl
  have F16 := fun_mk (st := spicked) l16 c16 k16
  have b16 := F16.binds (ps := ["word", "queue", "places"]) fun _ _ _ _ _ _ us hl => match us, hl with | [_, _, _], _ => rfl
  have F17 := fun_mk (st := sRuleInit) l17 c17 k17
  have b17 := F17.binds (ps := ["self", "send_word", "charge_word"]) fun _ _ _ _ _ _ us hl => match us, hl with | [_, _, _], _ => rfl
  have F18 := fun_mk (st := sRuleEvery) l18 c18 k18
  have b18 := F18.binds (ps := []) fun _ _ _ _ _ _ us hl => match us, hl with | [], _ => rfl
  have F19 := fun_mk (st := sRuleParse) l19 c19 k19
  have b19 := F19.binds (ps := ["cls", "text"]) fun _ _ _ _ _ _ us hl => match us, hl with | [_, _], _ => rfl
  have F20 := fun_mk (st := sRuleEq) l20 c20 k20
  have b20 := F20.binds (ps := ["self", "other"]) fun _ _ _ _ _ _ us hl => match us, hl with | [_, _], _ => rfl
  have F21 := fun_mk (st := sRuleStr) l21 c21 k21
  have b21 := F21.binds (ps := ["self"]) fun _ _ _ _ _ _ us hl => match us, hl with | [_], _ => rfl
  have F22 := fun_mk (st := sRuleSent) l22 c22 k22
  have b22 := F22.binds (ps := ["self", "day", "queue", "lines"]) fun _ _ _ _ _ _ us hl => match us, hl with | [_, _, _, _], _ => rfl
  have F23 := fun_mk (st := sRuleCharged) l23 c23 k23
  have b23 := F23.binds (ps := ["self", "day", "queue", "sent"]) fun _ _ _ _ _ _ us hl => match us, hl with | [_, _, _, _], _ => rfl
  have F24 := fun_mk (st := sRuleCall) l24 c24 k24
  have b24 := F24.binds (ps := ["self", "day", "standing", "news"]) fun _ _ _ _ _ _ us hl => match us, hl with | [_, _, _, _], _ => rfl
  have F25 := fun_mk (st := sLcell) l25 c25 k25
  have b25 := F25.binds (ps := ["_law_script", "_law_k"]) fun _ _ _ _ _ _ us hl => match us, hl with | [_, _], _ => rfl
  have F26 := fun_mk (st := sLpool) l26 c26 k26
  have b26 := F26.binds (ps := ["_law_script", "_law_k"]) fun _ _ _ _ _ _ us hl => match us, hl with | [_, _], _ => rfl
  have F27 := fun_mk (st := sLtake) l27 c27 k27
  have b27 := F27.binds (ps := ["_law_pool_here", "_law_many"]) fun _ _ _ _ _ _ us hl => match us, hl with | [_, _], _ => rfl
  have F28 := fun_mk (st := sLsame) l28 c28 k28
  have b28 := F28.binds (ps := ["_law_got", "_law_due"]) fun _ _ _ _ _ _ us hl => match us, hl with | [_, _], _ => rfl
  have F29 := fun_mk (st := sLchar) l29 c29 k29
  have b29 := F29.binds (ps := ["_law_place"]) fun _ _ _ _ _ _ us hl => match us, hl with | [_], _ => rfl
  have F30 := fun_mk (st := sLwritten) l30 c30 k30
  have b30 := F30.binds (ps := ["_law_first", "_law_second"]) fun _ _ _ _ _ _ us hl => match us, hl with | [_, _], _ => rfl
  have F31 := fun_mk (st := sLtext) l31 c31 k31
  have b31 := F31.binds (ps := ["_law_pool_here", "_law_first", "_law_second"]) fun _ _ _ _ _ _ us hl => match us, hl with | [_, _, _], _ => rfl
  have F32 := fun_mk (st := sLparsed) l32 c32 k32
  have b32 := F32.binds (ps := ["_law_text_here"]) fun _ _ _ _ _ _ us hl => match us, hl with | [_], _ => rfl
  have F33 := fun_mk (st := sLis) l33 c33 k33
  have b33 := F33.binds (ps := ["_law_rule", "_law_first", "_law_second"]) fun _ _ _ _ _ _ us hl => match us, hl with | [_, _, _], _ => rfl
  have F34 := fun_mk (st := sLreads) l34 c34 k34
  have b34 := F34.binds (ps := ["_law_text_here", "_law_words"]) fun _ _ _ _ _ _ us hl => match us, hl with | [_, _], _ => rfl
  have F35 := fun_mk (st := sLrow) l35 c35 k35
  have b35 := F35.binds (ps := ["_law_words"]) fun _ _ _ _ _ _ us hl => match us, hl with | [_], _ => rfl
  have F36 := fun_mk (st := sLaw) l36 c36 k36
  have b36 := F36.binds (ps := ["_law_script"]) fun _ _ _ _ _ _ us hl => match us, hl with | [_], _ => rfl
  let T : Tx K mg := { z_ValueError := PySem.W.mg_none_of X G z_ValueError, z_abs := PySem.W.mg_none_of X G z_abs, z_all := PySem.W.mg_none_of X G z_all, z_bool := PySem.W.mg_none_of X G z_bool, z_classmethod := PySem.W.mg_none_of X G z_classmethod, z_enumerate := PySem.W.mg_none_of X G z_enumerate, z_int := PySem.W.mg_none_of X G z_int, z_isinstance := PySem.W.mg_none_of X G z_isinstance, z_len := PySem.W.mg_none_of X G z_len, z_list := PySem.W.mg_none_of X G z_list, z_max := PySem.W.mg_none_of X G z_max, z_min := PySem.W.mg_none_of X G z_min, z_range := PySem.W.mg_none_of X G z_range, z_set := PySem.W.mg_none_of X G z_set, z_sorted := PySem.W.mg_none_of X G z_sorted, z_staticmethod := PySem.W.mg_none_of X G z_staticmethod, z_str := PySem.W.mg_none_of X G z_str, z_tuple := PySem.W.mg_none_of X G z_tuple, z_zip := PySem.W.mg_none_of X G z_zip, C_Rule := CRule, g_Rule := PySem.W.mg_of X G a_Rule, cl_Rule := ⟨pg_Rule, hd_Rule, po_Rule, sa_Rule⟩, na_Rule_send_word := na_Rule_send_word, na_Rule_charge_word := na_Rule_charge_word, fBadRule_init := f0, dBadRule_init := _, FBadRule_init := F0, bBadRule_init := b0, fpasses := f1, dpasses := _, Fpasses := F1, bpasses := b1, gpasses := PySem.W.mg_of X G a1, flast_known := f2, dlast_known := _, Flast_known := F2, blast_known := b2, glast_known := PySem.W.mg_of X G a2, fat_home := f3, dat_home := _, Fat_home := F3, bat_home := b3, gat_home := PySem.W.mg_of X G a3, fcoming_pages := f4, dcoming_pages := _, Fcoming_pages := F4, bcoming_pages := b4, gcoming_pages := PySem.W.mg_of X G a4, fmust_come := f5, dmust_come := _, Fmust_come := F5, bmust_come := b5, gmust_come := PySem.W.mg_of X G a5, fmay_come := f6, dmay_come := _, Fmay_come := F6, bmay_come := b6, gmay_come := PySem.W.mg_of X G a6, fis_news := f7, dis_news := _, Fis_news := F7, bis_news := b7, gis_news := PySem.W.mg_of X G a7, fqueue_with := f8, dqueue_with := _, Fqueue_with := F8, bqueue_with := b8, gqueue_with := PySem.W.mg_of X G a8, fqueue_after := f9, dqueue_after := _, Fqueue_after := F9, bqueue_after := b9, gqueue_after := PySem.W.mg_of X G a9, fbar_indexes := f10, dbar_indexes := _, Fbar_indexes := F10, bbar_indexes := b10, gbar_indexes := PySem.W.mg_of X G a10, fcan_run := f11, dcan_run := _, Fcan_run := F11, bcan_run := b11, gcan_run := PySem.W.mg_of X G a11, fcounts_after := f12, dcounts_after := _, Fcounts_after := F12, bcounts_after := b12, gcounts_after := PySem.W.mg_of X G a12, fis_patient := f13, dis_patient := _, Fis_patient := F13, bis_patient := b13, gis_patient := PySem.W.mg_of X G a13, fchargeable := f14, dchargeable := _, Fchargeable := F14, bchargeable := b14, gchargeable := PySem.W.mg_of X G a14, fcharge_count := f15, dcharge_count := _, Fcharge_count := F15, bcharge_count := b15, gcharge_count := PySem.W.mg_of X G a15, fpicked := f16, dpicked := _, Fpicked := F16, bpicked := b16, gpicked := PySem.W.mg_of X G a16, fRule_init := f17, dRule_init := _, FRule_init := F17, bRule_init := b17, M_Rule := ⟨mk_Rule, a17, i17, kc_Rule⟩, fRule_every := f18, dRule_every := _, FRule_every := F18, bRule_every := b18, m_Rule_every := ⟨⟨h_rd_Rule, h_ga_Rule⟩, ⟨_, _, RF.findCls_get f018 a18 t18 rfl g18, r18⟩, k18⟩, fRule_parse := f19, dRule_parse := _, FRule_parse := F19, bRule_parse := b19, m_Rule_parse := ⟨⟨h_rd_Rule, h_ga_Rule⟩, ⟨_, ⟨RF.findCls_get f019 a19 t19 rfl g19, ⟨_, r19⟩, n19⟩⟩⟩, fRule_eq := f20, dRule_eq := _, FRule_eq := F20, bRule_eq := b20, m_Rule_eq := ⟨a20, i20, k20⟩, fRule_str := f21, dRule_str := _, FRule_str := F21, bRule_str := b21, m_Rule_str := ⟨a21, i21, k21⟩, fRule_sent := f22, dRule_sent := _, FRule_sent := F22, bRule_sent := b22, m_Rule_sent := ⟨a22, i22, k22⟩, fRule_charged := f23, dRule_charged := _, FRule_charged := F23, bRule_charged := b23, m_Rule_charged := ⟨a23, i23, k23⟩, fRule_call := f24, dRule_call := _, FRule_call := F24, bRule_call := b24, m_Rule_call := ⟨a24, i24, k24⟩, f_law_cell := f25, d_law_cell := _, F_law_cell := F25, b_law_cell := b25, g_law_cell := PySem.W.mg_of X G a25, f_law_pool := f26, d_law_pool := _, F_law_pool := F26, b_law_pool := b26, g_law_pool := PySem.W.mg_of X G a26, f_law_take := f27, d_law_take := _, F_law_take := F27, b_law_take := b27, g_law_take := PySem.W.mg_of X G a27, f_law_same := f28, d_law_same := _, F_law_same := F28, b_law_same := b28, g_law_same := PySem.W.mg_of X G a28, f_law_char := f29, d_law_char := _, F_law_char := F29, b_law_char := b29, g_law_char := PySem.W.mg_of X G a29, f_law_written := f30, d_law_written := _, F_law_written := F30, b_law_written := b30, g_law_written := PySem.W.mg_of X G a30, f_law_text := f31, d_law_text := _, F_law_text := F31, b_law_text := b31, g_law_text := PySem.W.mg_of X G a31, f_law_parsed := f32, d_law_parsed := _, F_law_parsed := F32, b_law_parsed := b32, g_law_parsed := PySem.W.mg_of X G a32, f_law_is := f33, d_law_is := _, F_law_is := F33, b_law_is := b33, g_law_is := PySem.W.mg_of X G a33, f_law_reads := f34, d_law_reads := _, F_law_reads := F34, b_law_reads := b34, g_law_reads := PySem.W.mg_of X G a34, f_law_row := f35, d_law_row := _, F_law_row := F35, b_law_row := b35, g_law_row := PySem.W.mg_of X G a35, flaw := fa, dlaw := _, Flaw := F36, blaw := b36, glaw := PySem.W.mg_of X G a36, C_DepotError := CDepotError, g_DepotError := PySem.W.mg_of X G a_DepotError, C_NoNews := CNoNews, g_NoNews := PySem.W.mg_of X G a_NoNews, C_BadCable := CBadCable, g_BadCable := PySem.W.mg_of X G a_BadCable, C_BadRule := CBadRule, g_BadRule := PySem.W.mg_of X G a_BadRule, ty_DepotError := h_ty_DepotError, bs_DepotError := h_bs_DepotError, hd_DepotError := h_hd_DepotError, ty_NoNews := h_ty_NoNews, bs_NoNews := h_bs_NoNews, hd_NoNews := h_hd_NoNews, ty_BadCable := h_ty_BadCable, bs_BadCable := h_bs_BadCable, hd_BadCable := h_hd_BadCable, ty_BadRule := h_ty_BadRule, bs_BadRule := h_bs_BadRule, hd_BadRule := h_hd_BadRule, kp_BadRule := h_kp_BadRule, ga_BadRule := h_ga_BadRule, gg_BadRule := h_gg_BadRule, cl_BadRule := h_cl_BadRule, mr_BadRule := h_mr_BadRule, sb_BadRule_ValueError := h_sb_BadRule_ValueError, sb_BadRule_BadCable := h_sb_BadRule_BadCable, sb_BadRule_BadRule := h_sb_BadRule_BadRule, sb_BadRule_DepotError := h_sb_BadRule_DepotError, no_BadRule_part := h_no_BadRule_part, sa_BadRule := h_sa_BadRule, kp_NoNews := h_kp_NoNews, ga_NoNews := h_ga_NoNews, gg_NoNews := h_gg_NoNews, cl_NoNews := h_cl_NoNews, mr_NoNews := h_mr_NoNews, sb_NoNews_ValueError := h_sb_NoNews_ValueError, sb_NoNews_BadCable := h_sb_NoNews_BadCable, sb_NoNews_BadRule := h_sb_NoNews_BadRule, sb_NoNews_DepotError := h_sb_NoNews_DepotError, xo_NoNews := h_xo_NoNews, sp_class := h_sp_class, tk_class := h_tk_class, ic_Rule := h_ic_Rule, mr_Rule := h_mr_Rule, ity_Rule := h_ity_Rule, isb_Rule := h_isb_Rule, ihd_Rule := h_ihd_Rule, rd_Rule := h_rd_Rule, ga_Rule := h_ga_Rule, t_Rule_WORDS := t_Rule_WORDS, kc_Rule_WORDS := RF.findCls_val h_f0_Rule_WORDS a_t_Rule_WORDS h_ty_Rule_WORDS rfl h_gt_Rule_WORDS, kt_Rule_WORDS := ⟨_, _, _, h_kl_Rule_WORDS, rfl, rfl, rfl, by simp [sizeLine_eq], (.cons ⟨_, rfl⟩ (.cons ⟨_, rfl⟩ (.cons ⟨_, rfl⟩ (.cons ⟨_, rfl⟩ .nil))))⟩, ox_BadRule := ⟨⟨nm_BadRule, q_BadRule, N_BadRule, bs_BadRule, _, sn_BadRule, sub_BadRule, ab_BadRule, col_BadRule, dd_BadRule, m0_BadRule, m1_BadRule, m2_BadRule, m3_BadRule, m5_BadRule, xl_BadRule, by rfl⟩, h_sa_BadRule, h_bs_BadRule, h_ty_BadRule, h_kp_BadRule⟩, ni_BadRule := a0, ti_BadRule := i0 }
  exact ⟨_, fun s v => .of_eq rfl, fun base _ _ => ok_law T⟩
end DD
open PySem PySem.W PyProof.Rows
set_option maxRecDepth 100000 in
set_option maxHeartbeats 0 in
theorem PySem.Challenge.cw_depotday_k73_rule_texts_holds : PySem.Challenge.rw_depotday_k73_rule_texts.Holds := by
  w_on; o_law; k_head; (case hw => w_witness2)
  k_fill
  refine L2.walk_of (l := PySem.Challenge.rw_depotday_k73_rule_texts) (n := 63) (k := 11) (x := "_law_script") (CX := fun _ => L2.CX0) (sp := fun w => DD.spLaw _) rfl (by decide) rfl ⟨rfl, by decide, by decide⟩ (fun w h Y => PySem.W.kIn_of Y) ?F (fun _ _ a ns hl _ hS => ⟨a, ns, rfl, hS, hl, fun _ => rfl⟩) (fun _ _ _ _ _ h => h)
  case F =>
    intro w mg fa h KX G hmg
    refine' DD.all_mk KX G hmg ?z_ValueError ?z_abs ?z_all ?z_bool ?z_classmethod ?z_enumerate ?z_int ?z_isinstance ?z_len ?z_list ?z_max ?z_min ?z_range ?z_set ?z_sorted ?z_staticmethod ?z_str ?z_tuple ?z_zip ?a_Rule ?pg_Rule ?hd_Rule ?po_Rule ?sa_Rule ?mk_Rule ?kc_Rule ?na_Rule_send_word ?na_Rule_charge_word ?a_DepotError ?a_NoNews ?a_BadCable ?a_BadRule ?a_t_Rule_WORDS ?a0 ?i0 ?l0 ?c0 ?k0 ?a1 ?l1 ?c1 ?k1 ?a2 ?l2 ?c2 ?k2 ?a3 ?l3 ?c3 ?k3 ?a4 ?l4 ?c4 ?k4 ?a5 ?l5 ?c5 ?k5 ?a6 ?l6 ?c6 ?k6 ?a7 ?l7 ?c7 ?k7 ?a8 ?l8 ?c8 ?k8 ?a9 ?l9 ?c9 ?k9 ?a10 ?l10 ?c10 ?k10 ?a11 ?l11 ?c11 ?k11 ?a12 ?l12 ?c12 ?k12 ?a13 ?l13 ?c13 ?k13 ?a14 ?l14 ?c14 ?k14 ?a15 ?l15 ?c15 ?k15 ?a16 ?l16 ?c16 ?k16 ?a17 ?i17 ?l17 ?c17 ?k17 ?a18 ?r18 ?f018 ?t18 ?g18 ?l18 ?c18 ?k18 ?a19 ?r19 ?f019 ?t19 ?g19 ?n19 ?l19 ?c19 ?k19 ?a20 ?i20 ?l20 ?c20 ?k20 ?a21 ?i21 ?l21 ?c21 ?k21 ?a22 ?i22 ?l22 ?c22 ?k22 ?a23 ?i23 ?l23 ?c23 ?k23 ?a24 ?i24 ?l24 ?c24 ?k24 ?a25 ?l25 ?c25 ?k25 ?a26 ?l26 ?c26 ?k26 ?a27 ?l27 ?c27 ?k27 ?a28 ?l28 ?c28 ?k28 ?a29 ?l29 ?c29 ?k29 ?a30 ?l30 ?c30 ?k30 ?a31 ?l31 ?c31 ?k31 ?a32 ?l32 ?c32 ?k32 ?a33 ?l33 ?c33 ?k33 ?a34 ?l34 ?c34 ?k34 ?a35 ?l35 ?c35 ?k35 ?a36 ?l36 ?c36 ?k36 ?h_ty_DepotError ?h_bs_DepotError ?h_hd_DepotError ?h_ty_NoNews ?h_bs_NoNews ?h_hd_NoNews ?h_ty_BadCable ?h_bs_BadCable ?h_hd_BadCable ?h_ty_BadRule ?h_bs_BadRule ?h_hd_BadRule ?h_kp_BadRule ?h_ga_BadRule ?h_gg_BadRule ?h_cl_BadRule ?h_mr_BadRule ?h_sb_BadRule_ValueError ?h_sb_BadRule_BadCable ?h_sb_BadRule_BadRule ?h_sb_BadRule_DepotError ?h_no_BadRule_part ?h_sa_BadRule ?h_kp_NoNews ?h_ga_NoNews ?h_gg_NoNews ?h_cl_NoNews ?h_mr_NoNews ?h_sb_NoNews_ValueError ?h_sb_NoNews_BadCable ?h_sb_NoNews_BadRule ?h_sb_NoNews_DepotError ?h_xo_NoNews ?h_sp_class ?h_tk_class ?h_ic_Rule ?h_mr_Rule ?h_ity_Rule ?h_isb_Rule ?h_ihd_Rule ?h_rd_Rule ?h_ga_Rule ?h_f0_Rule_WORDS ?h_ty_Rule_WORDS ?h_gt_Rule_WORDS ?h_kl_Rule_WORDS ?xl_BadRule
    (case z_ValueError => k_is)
    (case z_abs => k_is)
    (case z_all => k_is)
    (case z_bool => k_is)
    (case z_classmethod => k_is)
    (case z_enumerate => k_is)
    (case z_int => k_is)
    (case z_isinstance => k_is)
    (case z_len => k_is)
    (case z_list => k_is)
    (case z_max => k_is)
    (case z_min => k_is)
    (case z_range => k_is)
    (case z_set => k_is)
    (case z_sorted => k_is)
    (case z_staticmethod => k_is)
    (case z_str => k_is)
    (case z_tuple => k_is)
    (case z_zip => k_is)
    (case a_Rule => k_is)
    (case pg_Rule => k_is)
    (case hd_Rule => k_is)
    (case po_Rule => k_is)
    (case sa_Rule => k_is)
    (case mk_Rule => k_is)
    (case kc_Rule => k_is)
    (case na_Rule_send_word => k_is)
    (case na_Rule_charge_word => k_is)
    (case a_DepotError => k_is)
    (case a_NoNews => k_is)
    (case a_BadCable => k_is)
    (case a_BadRule => k_is)
    (case a_t_Rule_WORDS => k_is)
    (case a0 => k_is)
    (case i0 => k_is)
    (case l0 => k_is)
    (case c0 => k_is)
    (case k0 => k_is)
    (case a1 => k_is)
    (case l1 => k_is)
    (case c1 => k_is)
    (case k1 => k_is)
    (case a2 => k_is)
    (case l2 => k_is)
    (case c2 => k_is)
    (case k2 => k_is)
    (case a3 => k_is)
    (case l3 => k_is)
    (case c3 => k_is)
    (case k3 => k_is)
    (case a4 => k_is)
    (case l4 => k_is)
    (case c4 => k_is)
    (case k4 => k_is)
    (case a5 => k_is)
    (case l5 => k_is)
    (case c5 => k_is)
    (case k5 => k_is)
    (case a6 => k_is)
    (case l6 => k_is)
    (case c6 => k_is)
    (case k6 => k_is)
    (case a7 => k_is)
    (case l7 => k_is)
    (case c7 => k_is)
    (case k7 => k_is)
    (case a8 => k_is)
    (case l8 => k_is)
    (case c8 => k_is)
    (case k8 => k_is)
    (case a9 => k_is)
    (case l9 => k_is)
    (case c9 => k_is)
    (case k9 => k_is)
    (case a10 => k_is)
    (case l10 => k_is)
    (case c10 => k_is)
    (case k10 => k_is)
    (case a11 => k_is)
    (case l11 => k_is)
    (case c11 => k_is)
    (case k11 => k_is)
    (case a12 => k_is)
    (case l12 => k_is)
    (case c12 => k_is)
    (case k12 => k_is)
    (case a13 => k_is)
    (case l13 => k_is)
    (case c13 => k_is)
    (case k13 => k_is)
    (case a14 => k_is)
    (case l14 => k_is)
    (case c14 => k_is)
    (case k14 => k_is)
    (case a15 => k_is)
    (case l15 => k_is)
    (case c15 => k_is)
    (case k15 => k_is)
    (case a16 => k_is)
    (case l16 => k_is)
    (case c16 => k_is)
    (case k16 => k_is)
    (case a17 => k_is)
    (case i17 => k_is)
    (case l17 => k_is)
    (case c17 => k_is)
    (case k17 => k_is)
    (case a18 => k_is)
    (case r18 => k_is)
    (case f018 => k_is)
    (case t18 => k_is)
    (case g18 => k_is)
    (case l18 => k_is)
    (case c18 => k_is)
    (case k18 => k_is)
    (case a19 => k_is)
    (case r19 => k_is)
    (case f019 => k_is)
    (case t19 => k_is)
    (case g19 => k_is)
    (case n19 => k_is)
    (case l19 => k_is)
    (case c19 => k_is)
    (case k19 => k_is)
    (case a20 => k_is)
    (case i20 => k_is)
    (case l20 => k_is)
    (case c20 => k_is)
    (case k20 => k_is)
    (case a21 => k_is)
    (case i21 => k_is)
    (case l21 => k_is)
    (case c21 => k_is)
    (case k21 => k_is)
    (case a22 => k_is)
    (case i22 => k_is)
    (case l22 => k_is)
    (case c22 => k_is)
    (case k22 => k_is)
    (case a23 => k_is)
    (case i23 => k_is)
    (case l23 => k_is)
    (case c23 => k_is)
    (case k23 => k_is)
    (case a24 => k_is)
    (case i24 => k_is)
    (case l24 => k_is)
    (case c24 => k_is)
    (case k24 => k_is)
    (case a25 => k_is)
    (case l25 => k_is)
    (case c25 => k_is)
    (case k25 => k_is)
    (case a26 => k_is)
    (case l26 => k_is)
    (case c26 => k_is)
    (case k26 => k_is)
    (case a27 => k_is)
    (case l27 => k_is)
    (case c27 => k_is)
    (case k27 => k_is)
    (case a28 => k_is)
    (case l28 => k_is)
    (case c28 => k_is)
    (case k28 => k_is)
    (case a29 => k_is)
    (case l29 => k_is)
    (case c29 => k_is)
    (case k29 => k_is)
    (case a30 => k_is)
    (case l30 => k_is)
    (case c30 => k_is)
    (case k30 => k_is)
    (case a31 => k_is)
    (case l31 => k_is)
    (case c31 => k_is)
    (case k31 => k_is)
    (case a32 => k_is)
    (case l32 => k_is)
    (case c32 => k_is)
    (case k32 => k_is)
    (case a33 => k_is)
    (case l33 => k_is)
    (case c33 => k_is)
    (case k33 => k_is)
    (case a34 => k_is)
    (case l34 => k_is)
    (case c34 => k_is)
    (case k34 => k_is)
    (case a35 => k_is)
    (case l35 => k_is)
    (case c35 => k_is)
    (case k35 => k_is)
    (case a36 => k_is)
    (case l36 => k_is)
    (case c36 => k_is)
    (case k36 => k_is)
    (case h_ty_DepotError => k_is)
    (case h_bs_DepotError => k_is)
    (case h_hd_DepotError => k_is)
    (case h_ty_NoNews => k_is)
    (case h_bs_NoNews => k_is)
    (case h_hd_NoNews => k_is)
    (case h_ty_BadCable => k_is)
    (case h_bs_BadCable => k_is)
    (case h_hd_BadCable => k_is)
    (case h_ty_BadRule => k_is)
    (case h_bs_BadRule => k_is)
    (case h_hd_BadRule => k_is)
    (case h_kp_BadRule => k_is)
    (case h_ga_BadRule => k_is)
    (case h_gg_BadRule => k_is)
    (case h_cl_BadRule => k_is)
    (case h_mr_BadRule => k_is)
    (case h_sb_BadRule_ValueError => k_is)
    (case h_sb_BadRule_BadCable => k_is)
    (case h_sb_BadRule_BadRule => k_is)
    (case h_sb_BadRule_DepotError => k_is)
    (case h_no_BadRule_part => k_is)
    (case h_sa_BadRule => k_is)
    (case h_kp_NoNews => k_is)
    (case h_ga_NoNews => k_is)
    (case h_gg_NoNews => k_is)
    (case h_cl_NoNews => k_is)
    (case h_mr_NoNews => k_is)
    (case h_sb_NoNews_ValueError => k_is)
    (case h_sb_NoNews_BadCable => k_is)
    (case h_sb_NoNews_BadRule => k_is)
    (case h_sb_NoNews_DepotError => k_is)
    (case h_xo_NoNews => k_exc)
    (case h_sp_class => k_is)
    (case h_tk_class => k_is)
    (case h_ic_Rule => k_is)
    (case h_mr_Rule => k_is)
    (case h_ity_Rule => k_is)
    (case h_isb_Rule => k_is)
    (case h_ihd_Rule => k_is)
    (case h_rd_Rule => k_is)
    (case h_ga_Rule => k_is)
    (case h_f0_Rule_WORDS => k_is)
    (case h_ty_Rule_WORDS => k_is)
    (case h_gt_Rule_WORDS => k_is)
    (case h_kl_Rule_WORDS => k_is)
    (case xl_BadRule => k_is)
#print axioms PySem.Challenge.cw_depotday_k73_rule_texts_holds
