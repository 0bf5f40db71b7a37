import PyProof.Rows.All
import Wide.All
import OpenK.AllK
import Wide.FinOn
import HandS.ForMost
import HandS.ForExc
import HandS.IsInst
import HandS.Conv
import HandS.NoneIn
import HandS.OwnEq
import HandS.OwnIter
import HandS.ExcIs
import HandS.More
import KE.KOpsOwn
import HandS.IterNext
import HandS.ExcOwn
import PyProof.WalksMore
import KE.KDictZip
import HandS.Rev
import HandS.ExcInit
import HandS.ExcField
import HandS.FStr
import HandS.Codes
import HandS.Wide
import KE.KExcIs
import KE.GoesMore
import PyProof.EnumMake
import HandS.TryMany
import HandS.Exc
import HandS.Walk
import HandS.Style
import HandS.Text
import HandS.RaiseMore
import HandS.TupAny
import HandS.Deep
import KE.KCallOwn
import HandS.Defaults
import HandS.Strs
import HandS.Star
import HandS.SetIn
import HandS.SetFor
import HandS.TupSets
import KE.SortData
import KE.DataMinMax
import KE.DataFind
import KE.DataCmp
import KE.GoesEnum
import HandS.WordsDict
import HandS.Gcd
import PySem.Challenge.RW_depotday_k11_heavier_weights
set_option Elab.async false
set_option linter.all false
set_option maxRecDepth 100000
set_option synthInstance.maxSize 400
set_option maxHeartbeats 8000000
namespace KO
open PySem PySem.Spec PyProof.Rows L2
section
variable {X : Cx} {CX : CXT} {k : Nat} {f C : Addr} {fd : FuncData} {ps : List Str} {sp : Sp} {E : L2.St → XK}
theorem own_run {A : Around} {pins : List (Addr × Obj)} {σ : L2.St} {H : Hp} {s : Shared} {Q : VK} {us : List Value} {vs : List V} (F : FnOk X.prog X.w X.K X.mg X.base CX k f fd ps sp) (hr : Room k A) (fr : A.frames = X.A.frames) (hb : Binds X.K fd ps [])
    (hx : PassesAt CX X σ (E σ)) (I : Inv X pins σ H s) (r : Vals vs us) (h : sp vs H Q (E σ)) : wpAny (model X.prog X.w) A (call (.ref f) us) (EP X pins σ Q) X.xe s := by
  have hl : us.length = ps.length := r.length.symm.trans (F.len _ _ _ _ h)
  have b := hb s us I.kIn (by rw [List.append_nil]; exact hl)
  rw [List.append_nil] at b
  have e := I.env0
  have e2 : Env0 X.prog X.w X.K X.mg X.base A X.stack s H := ⟨by rw [fr]; exact e.frames, e.mod, e.bs, e.bsz, e.funs, e.frf, e.hok, e.bare⟩
  refine wpAny_call (codeAny_mono (F.run A X.stack s H ⟨us, []⟩ us vs Q (E σ) hr e2 b r h) fun r s' hq => ?_)
  cases r with
  | error e => exact hx pins H s e s' I hq
  | ok fl =>
    cases fl with
    | ret u => exact I.after hq
    | next => exact hq.elim
    | brk => exact hq.elim
    | cont => exact hq.elim
theorem inst_at {pins : List (Addr × Obj)} {σ : L2.St} {H : Hp} {s : Shared} {a dx : Addr} {fs : List (Str × V)} (I : Inv X pins σ H s) (ha : H a = some (.ins C dx fs)) : ∃ ox od, PySem.W.InstAt s.heap a ox C od := by
  obtain ⟨mA, J, _⟩ := ins_get I.hok ha
  obtain ⟨od, J, _⟩ := J.look
  exact ⟨_, _, J⟩
theorem vref {a : Addr} : RelV (.ref a) (Value.ref a) := rfl
def rLen (C : Addr) (sp : Sp) (E : XK) : List V → Hp → VK → Prop := fun xs H Q => ∃ a dx fs, xs = [.ref a] ∧ H a = some (.ins C dx fs) ∧ sp [.ref a] H (fun v H' => ∃ n : Int, v = .int n ∧ 0 ≤ n ∧ n < 2 ^ 63 ∧ Q (.int n) H') E
theorem len_own {E : XK} (m : Meth X.K C "__len__" f) (F : FnOk X.prog X.w X.K X.mg X.base CX k f fd ps sp) (hr : Room (k + 1) X.A) (hb : Binds X.K fd ps []) (hx : ∀ σ, PassesAt CX X σ E) : CallR X (.builtin "len") (rLen C sp E) := by
  intro pins s σ H xs us Q I r h
  obtain ⟨a, dx, fs, rfl, ha, q⟩ := h
  rw [Vals.ref1 r]
  obtain ⟨ox, od, J⟩ := inst_at I ha
  obtain ⟨m', hF⟩ := I.fr
  refine PySem.W.len_K hF I.ok.mod.kin J m.at_ m.fn (wpAny_mono (own_run (E := fun _ => E) (A := X.A.in1) F hr.in1 rfl hb (hx σ) I (.cons vref .nil) q) (fun u s' hu => ?_) fun _ _ x => x)
  obtain ⟨v, H', I', rv, n, rfl, n0, n1, q'⟩ := hu
  obtain ⟨t, rfl⟩ := rv
  exact ⟨⟨n0, n1⟩, .int n, H', I'.tok _, ⟨_, rfl⟩, q'⟩
end
end KO
namespace KO
open PySem PySem.Spec PyProof.Rows L2
section
variable {prog : Program} {w : World} {A : Around} {E : Value → Shared → Prop} {s : Shared} {it l : Addr} {i : Nat} {items : Array Value}
end
section
variable {X : Cx} {k kl ki : Nat} {f fi fl C : Addr} {fd fdI fdL : FuncData} {ps psI psL : List Str} {sp spI spL : Sp}
end
end KO
namespace KO
open PySem PySem.Spec PyProof.Rows L2
section
variable {X : Cx} {CX : CXT} {k : Nat} {f C : Addr} {fd : FuncData} {ps : List Str} {sp : Sp} {E : L2.St → XK}
section
variable {prog : Program} {w : World} {A : Around} {E : Value → Shared → Prop} {s : Shared} {l : Addr} {xs : Array (Int × Tok)}
end
def tMethX (C : Addr) (m : Str) (sp : Sp) (E : L2.St → XK) (ta : TE) (t : TA) : TE := fun σ H Q => ta σ H fun x H1 => ∃ a dx fs, x = .ref a ∧ H1 a = some (.ins C dx fs) ∧ fs.lookup m = none ∧ t σ H1 fun vs H2 => sp (x :: vs) H2 Q (E σ)
theorem pe_methX {m : Str} {o e : Expr} {es : List Expr} {ta : TE} {t : TA} {apos pos : Pos} {pl : Sem Bool} (he : PE X o ta) (c : Cls X.K C) (hm : Meth X.K C m f) (F : FnOk X.prog X.w X.K X.mg X.base CX k f fd ps sp) (hr : Room k X.A) (hb : Binds X.K fd ps []) (hx : ∀ σ, PassesAt CX X σ (E σ)) (ha : PA X (e :: es) t)
    (hst : starEach (e :: es) X.env = (false, eval e X.env) :: starEach es X.env := by rfl) (hpl : (backTo pos (starEach es X.env)).any (·.1) = false := by rfl)
    (ht : eval (.Call (.Attribute o m apos) (e :: es) [] pos) X.env = (do
      let ov ← eval o X.env
      standAt apos.atName
      let (f, first) ← holding [ov] (getMethod ov m pl)
      callWith pos f first (backTo pos (starEach (e :: es) X.env)) (backToKw pos (keywordEach [] X.env))) := by rfl) :
    PE X (.Call (.Attribute o m apos) (e :: es) [] pos) (tMethX C m sp E ta t) := by
  refine ⟨fun pins s σ H Q I h => ?_⟩
  refine PySem.W.methodCall_KW (pl := pl) (thn (he.run pins s σ H _ I h) fun u s1 ⟨x, H1, I1, rx, a, dx, fs, ex, ea, l, q⟩ => ?_) ht
  subst ex
  obtain rfl : u = Value.ref a := rx
  refine getmeth_ok I1 ea c hm l ?_
  refine PySem.W.callWith_K (first := [.ref a]) (h₀ := X.base) I.ok.mod.kin hm.kp (thn (ha.run pos pins s1 σ H1 _ I1 q) fun us s2 ⟨vs, H2, I2, r, q2⟩ => ⟨I2.kIn, ?_⟩) hst hpl
  exact run_fnS (us := .ref a :: us) (vs := .ref a :: vs) F hr hb (hx σ) I2 (.cons rfl r) q2
def tMakeX (C : Addr) (sp : Sp) (E : L2.St → XK) (t : TA) : TE := fun σ H Q => t σ H fun vs H1 => ∀ x dx, H1 x = none → H1 dx = none → dx ≠ x →
  sp (.ref x :: vs) (upd (upd H1 dx (.own x)) x (.ins C dx [])) (fun v H2 => v = .non ∧ Q (.ref x) H2) (E σ)
theorem run_makeX {pins : List (Addr × Obj)} {σ : L2.St} {H : Hp} {s : Shared} {Q : VK} {us : List Value} {vs : List V} (M : Mk X.K C f) (F : FnOk X.prog X.w X.K X.mg X.base CX k f fd ps sp) (hr : Room (k + 1) X.A) (hb : Binds X.K fd ps [])
    (hx : PassesAt CX X σ (E σ)) (I : Inv X pins σ H s) (r : Vals vs us)
    (h : ∀ x dx, H x = none → H dx = none → dx ≠ x → sp (.ref x :: vs) (upd (upd H dx (.own x)) x (.ins C dx [])) (fun v H2 => v = .non ∧ Q (.ref x) H2) (E σ)) :
    wpAny (model X.prog X.w) X.A (call (.ref C) us) (EP X pins σ Q) X.xe s := by
  have hq := h (s.heap.objs.size + 1) s.heap.objs.size (I.hok.fresh (Nat.le_succ _)) (I.hok.fresh (Nat.le_refl _)) (Nat.ne_of_lt (Nat.lt_succ_self _))
  have I2 := Inv.made (C := C) I
  have r2 : Vals (V.ref (s.heap.objs.size + 1) :: vs) (Value.ref (s.heap.objs.size + 1) :: us) := .cons rfl r
  have hl : (Value.ref (s.heap.objs.size + 1) :: us ++ []).length = ps.length := by
    have e := r2.length
    rw [F.len _ _ _ _ hq] at e
    rw [List.append_nil]
    exact e.symm
  rw [List.append_nil] at hl
  refine wpAny_call (make_map (f := f) I.kIn M.makes M.init (beq_iff_eq.mp M.fn) (codeAny_mono (F.run _ X.stack _ _ ⟨Value.ref (s.heap.objs.size + 1) :: us, []⟩ (Value.ref (s.heap.objs.size + 1) :: us) _ _ (E σ) (hr.make C us [])
    (I2.env0.make C us []) (by have b := hb _ (Value.ref (s.heap.objs.size + 1) :: us) I2.kIn (by rw [List.append_nil]; exact hl); rw [List.append_nil] at b; exact b) r2 hq) fun r s' hq' => ?_))
  cases r with
  | error e => exact hx pins _ _ e s' I2 hq'
  | ok fl =>
    cases fl with
    | ret u =>
      obtain ⟨v, H', I3, rv, ev, q3⟩ := I2.after hq'
      subst ev
      exact ⟨rv, ⟨V.ref (s.heap.objs.size + 1), H', I3, rfl, q3⟩⟩
    | next => exact False.elim hq'
    | brk => exact False.elim hq'
    | cont => exact False.elim hq'
theorem pe_makeX {x : Str} {p pos : Pos} {e : Expr} {es : List Expr} {t : TA} (M : Mk X.K C f) (F : FnOk X.prog X.w X.K X.mg X.base CX k f fd ps sp) (hr : Room (k + 1) X.A) (hg : Gl X x) (hm : X.mg x = some (.ref C)) (hb : Binds X.K fd ps []) (hx : ∀ σ, PassesAt CX X σ (E σ))
    (ha : PA X (e :: es) t) (hdb : (x == ("__debug__" : Str)) = false := by decide) (he : starEach (e :: es) X.env = (false, eval e X.env) :: starEach es X.env := by rfl) (hpl : (backTo pos (starEach es X.env)).any (·.1) = false := by rfl) :
    PE X (.Call (.Name x p) (e :: es) [] pos) (tMakeX C sp E t) := by
  refine ⟨fun pins s σ H Q I h => ?_⟩
  refine wpAny_Call_Name_kw (ld_glob I hg hm ?_ hdb)
  refine PySem.W.callWith_K (h₀ := X.base) I.ok.mod.kin M.kp (thn (ha.run pos pins s σ H _ I h) fun us s1 ⟨vs, H1, I1, r, q⟩ => ⟨I1.kIn, ?_⟩) he hpl
  exact run_makeX M F hr hb (hx σ) I1 r q
end
end KO
namespace KO
open PySem PySem.Spec PyProof.Rows L2
def ZSt (z TI TO i1 i2 a b S : Addr) (h : Heap) (i : Nat) : Prop := IsPair h TI (.ref i1) (.ref i2) ∧ h.IsListIter i1 a i ∧ h.IsListIter i2 b i ∧ (∃ o, h.get? TO = some o) ∧
  ((IsZip h z TI TO .none ∧ ∃ u v, IsPair h TO u v) ∨ ∃ T f oT, IsZipHeld h z TI TO T f ∧ h.get? T = some oT ∧ T ≠ z ∧ T ≠ i1 ∧ T ≠ i2 ∧ T ≠ S)
section
variable {X : Cx} {pins : List (Addr × Obj)} {σ : L2.St}
theorem ZSt.other {z TI TO i1 i2 a b S : Addr} {h h' : Heap} {i : Nat} (st : ZSt z TI TO i1 i2 a b S h i) (n : ∀ c ∈ [z, TI, TO, i1, i2], c ≠ S) (k : ∀ c o, c ≠ S → h.get? c = some o → h'.get? c = some o) : ZSt z TI TO i1 i2 a b S h' i := by
  obtain ⟨p1, p2, p3, ⟨o, p4⟩, p5⟩ := st
  refine ⟨k _ _ (n TI (by simp)) p1, p2.at fun o e => k _ o (n i1 (by simp)) e, p3.at fun o e => k _ o (n i2 (by simp)) e, ⟨o, k _ _ (n TO (by simp)) p4⟩, ?_⟩
  rcases p5 with ⟨q1, u, v, q2⟩ | ⟨T, f, oT, q1, q2, q3, q4, q5, q6⟩
  · exact .inl ⟨k _ _ (n z (by simp)) q1, u, v, k _ _ (n TO (by simp)) q2⟩
  · exact .inr ⟨T, f, oT, k _ _ (n z (by simp)) q1, k _ _ q6 q2, q3, q4, q5, q6⟩
end
end KO
namespace KO
open PySem PySem.Spec PyProof.Rows L2 PySem.W
section
variable {prog : Program} {w : World} {A : Around} {E : Value → Shared → Prop} {s : Shared} {K : PySem.W.Frag} {x C L f g : Addr} {h₀ : Heap} {m : Str → Option Value} {ox : Obj} {od : Option Obj}
end
section
variable {X : Cx} {CX : CXT} {k : Nat} {f g C : Addr} {fd : FuncData} {ps : List Str} {sp : Sp} {E : XK}
end
end KO
namespace SX
open PySem PySem.Spec PyProof.Rows L2 KO
theorem iteD {c A B : Prop} [Decidable c] (hc : ¬ c) (h : B) : if decide c = true then A else B := by
  rw [decide_eq_false hc]
  exact iteF h
theorem iteDT {c A B : Prop} [Decidable c] (hc : c) (h : A) : if decide c = true then A else B := by
  rw [decide_eq_true hc]
  exact iteT h
theorem iteND {c A B : Prop} [Decidable c] (hc : c) (h : B) : if (!decide c) = true then A else B := iteNS hc h
theorem iteDs {c A B : Prop} [Decidable c] (h1 : c → A) (h2 : ¬ c → B) : if decide c = true then A else B := by
  by_cases h : c
  · exact iteDT h (h1 h)
  · exact iteD h (h2 h)
def But (p : Addr) (H H' : Hp) : Prop := ∀ b o, b ≠ p → H b = some o → H' b = some o
theorem But.refl (p : Addr) (H : Hp) : But p H H := fun _ _ _ h => h
theorem But.trans {p : Addr} {H H1 H2 : Hp} (a : But p H H1) (b : But p H1 H2) : But p H H2 := fun c o n h => b c o n (a c o n h)
theorem But.of {p : Addr} {H H' : Hp} (s : Same H H') : But p H H' := fun b o _ h => s b o h
theorem But.put {p : Addr} {H : Hp} {o : HO} : But p H (upd H p o) := fun b u n h => by
  rw [upd_ne n]
  exact h
theorem same_upd {H : Hp} {p : Addr} {o : HO} (h : H p = none) : Same H (upd H p o) := fun b x e => by
  rw [upd_ne (ne_of_none e h)]
  exact e
theorem Same.put {H H' : Hp} {p : Addr} {o : HO} (s : Same H H') (h : H p = none) : Same H (upd H' p o) := fun b x e => by
  rw [upd_ne (ne_of_none e h)]
  exact s b x e
theorem But.free {p : Addr} {H H' : Hp} (e : But p H H') {l : Addr} (hl : l ≠ p) (h : H' l = none) : H l = none := by
  cases q : H l with
  | none => rfl
  | some o =>
    rw [e l o hl q] at h
    cases h
def Pool (H : Hp) (p : Addr) : Prop := ∃ x f c : Int, H p = some (.lst [.int x, .int f, .int c])
theorem Pool.ne {H : Hp} {p l : Addr} (h : Pool H p) (hl : H l = none) : l ≠ p := fun e => by
  obtain ⟨x, f, c, h⟩ := h
  rw [e, h] at hl
  cases hl
theorem Pool.same {H H' : Hp} {p : Addr} (h : Pool H p) (s : Same H H') : Pool H' p := by
  obtain ⟨x, f, c, h⟩ := h
  exact ⟨x, f, c, s _ _ h⟩
theorem Pool.upd {H : Hp} {p l : Addr} {o : HO} (h : Pool H p) (hl : l ≠ p) : Pool (upd H l o) p := by
  obtain ⟨x, f, c, h⟩ := h
  exact ⟨x, f, c, by rw [upd_ne hl.symm]; exact h⟩

def Eqp (p : Addr) (H H' : Hp) : Prop := ∀ b, b ≠ p → H' b = H b
theorem Eqp.refl (p : Addr) (H : Hp) : Eqp p H H := fun _ _ => rfl
theorem Eqp.trans {p : Addr} {H H1 H2 : Hp} (a : Eqp p H H1) (b : Eqp p H1 H2) : Eqp p H H2 := fun c h => (b c h).trans (a c h)
def Run (p : Addr) (H H' : Hp) : Prop := But p H H' ∧ Pool H' p
theorem Run.trans {p : Addr} {H H1 H2 : Hp} (a : Run p H H1) (b : Run p H1 H2) : Run p H H2 := ⟨a.1.trans b.1, b.2⟩
theorem Run.get {p a : Addr} {H H' : Hp} {o : HO} (r : Run p H H') (h : H a = some o) (n : a ≠ p) : H' a = some o := r.1 _ _ n h
theorem upd_get {H : Hp} {p a : Addr} {u o : HO} (h : H a = some o) (hp : H p = none) : upd H p u a = some o := by
  rw [upd_ne (ne_of_none h hp)]; exact h
theorem Pool.tne {H : Hp} {p a : Addr} {xs : List V} (h : Pool H p) (ha : H a = some (.tup xs)) : a ≠ p := by
  obtain ⟨x, f, c, h⟩ := h
  exact ne_of ha h (by intro z; cases z)
section
variable {X : Cx} {CX : CXT} {k : Nat}
theorem del_upd1 {H : Hp} {a dx : Addr} {o1 o2 o3 u : HO} (ha : H a = none) (ne : dx ≠ a) : upd (del (upd (upd (upd H a o1) dx o2) a o3) a) dx u = upd H dx u := by
  funext b
  unfold upd del
  by_cases h1 : b = dx
  · rw [if_pos h1, if_pos h1]
  · rw [if_neg h1, if_neg h1]
    by_cases h2 : b = a
    · rw [if_pos h2, h2, ha]
    · simp [h1, h2]
theorem del_upd2 {H : Hp} {a dx : Addr} {o1 o2 o3 o4 u : HO} (ha : H a = none) (ne : dx ≠ a) : upd (del (upd (upd (upd (upd H a o1) dx o2) a o3) dx o4) a) dx u = upd H dx u := by
  funext b
  unfold upd del
  by_cases h1 : b = dx
  · rw [if_pos h1, if_pos h1]
  · rw [if_neg h1, if_neg h1]
    by_cases h2 : b = a
    · rw [if_pos h2, h2, ha]
    · simp [h1, h2]
def spX1 (C : Addr) (f : Str) : Sp := fun vs H Q _ => ∃ (a : Addr) (v : V), vs = [.ref a, v] ∧ H a = some (exo a C none) ∧ ∀ dx, H dx = none → dx ≠ a → Q .non (upd (upd H dx (exd dx [(f, v)])) a (exo a C (some dx)))
def spX2 (C : Addr) (f g : Str) : Sp := fun vs H Q _ => ∃ (a : Addr) (v u : V), vs = [.ref a, v, u] ∧ H a = some (exo a C none) ∧ ∀ dx, H dx = none → dx ≠ a → Q .non (upd (upd (upd H dx (exd dx [(f, v)])) a (exo a C (some dx))) dx (exd dx [(g, u), (f, v)]))
def tR1 (C : Addr) (f : Str) (te : TE) : L2.St → Hp → XK → Prop := fun σ H Q => te σ H fun v H1 => ∀ d, H1 d = none → Q (.ref C) (some d) (upd H1 d (.xd [(f, v)]))
def tR2 (C : Addr) (f g : Str) (te tf : TE) : L2.St → Hp → XK → Prop := fun σ H Q => te σ H fun v H1 => tf σ H1 fun u H2 => ∀ d, H2 d = none → Q (.ref C) (some d) (upd H2 d (.xd [(g, u), (f, v)]))
variable {x : Str} {C fI : Addr} {fd : FuncData} {f g : Str} {e e2 : Expr} {te tf : TE} {p pos : Pos} {ps : List Str}
theorem PMk.imp {e : Expr} {t u : L2.St → Hp → XK → Prop} (h : PMk X e t) (i : ∀ σ H Q, u σ H Q → t σ H Q) : PMk X e u := fun pins s σ H Q I q => h pins s σ H Q I (i σ H Q q)
theorem pmk_1 (T : OexC X.K C) (iC : PySem.W.findIn X.K (.ref C) "__init__" = some (some (.ref fI))) (tI : PySem.W.typeIn X.K (.ref fI) = some (.type "function"))
    (F1 : FnOk X.prog X.w X.K X.mg X.base CX0 k fI fd ps (spX1 C f)) (hr : Room (k + 1) X.A) (hb : Binds X.K fd ps []) (hg : Gl X x) (hm : X.mg x = some (.ref C)) (mono : ∀ σ H (Q Q' : VK), (∀ v H, Q v H → Q' v H) → te σ H Q → te σ H Q') (ha : PA X [e] (tCons te tNil))
    (hdb : (x == ("__debug__" : Str)) = false := by decide) (he : starEach [e] X.env = (false, eval e X.env) :: starEach [] X.env := by rfl) (hpl : (backTo pos (starEach [] X.env)).any (·.1) = false := by rfl) :
    PMk X (.Call (.Name x p) [e] [] pos) (tR1 C f te) := by
  refine PMk.imp (pmk_oex (dvs := []) T iC tI F1 hr hb .nil (fun _ _ _ _ _ _ _ h => h.elim) hg hm ha hdb he hpl) fun σ H Q q => ?_
  refine mono _ _ _ _ (fun v H1 q1 => ⟨by simp, fun a ha => ?_⟩) q
  refine ⟨a, v, rfl, upd_same, fun dx hdx ne => ⟨rfl, dx, [(f, v)], upd_same, ?_, ?_, ?_⟩⟩
  · rw [upd_ne ne, upd_same]
  · rw [upd_ne ne] at hdx; exact hdx
  · rw [del_upd1 ha ne]
    rw [upd_ne ne] at hdx
    exact q1 dx hdx
theorem pmk_2 (T : OexC X.K C) (iC : PySem.W.findIn X.K (.ref C) "__init__" = some (some (.ref fI))) (tI : PySem.W.typeIn X.K (.ref fI) = some (.type "function"))
    (F1 : FnOk X.prog X.w X.K X.mg X.base CX0 k fI fd ps (spX2 C f g)) (hr : Room (k + 1) X.A) (hb : Binds X.K fd ps []) (hg : Gl X x) (hm : X.mg x = some (.ref C)) (mono : ∀ σ H (Q Q' : VK), (∀ v H, Q v H → Q' v H) → te σ H Q → te σ H Q') (mono2 : ∀ σ H (Q Q' : VK), (∀ v H, Q v H → Q' v H) → tf σ H Q → tf σ H Q')
    (ha : PA X [e, e2] (tCons te (tCons tf tNil)))
    (hdb : (x == ("__debug__" : Str)) = false := by decide) (he : starEach [e, e2] X.env = (false, eval e X.env) :: starEach [e2] X.env := by rfl) (hpl : (backTo pos (starEach [e2] X.env)).any (·.1) = false := by rfl) :
    PMk X (.Call (.Name x p) [e, e2] [] pos) (tR2 C f g te tf) := by
  refine PMk.imp (pmk_oex (dvs := []) T iC tI F1 hr hb .nil (fun _ _ _ _ _ _ _ h => h.elim) hg hm ha hdb he hpl) fun σ H Q q => ?_
  refine mono _ _ _ _ (fun v H1 q1 => mono2 _ _ _ _ (fun u H2 q2 => ⟨by simp, fun a ha => ?_⟩) q1) q
  refine ⟨a, v, u, rfl, upd_same, fun dx hdx ne => ⟨rfl, dx, [(g, u), (f, v)], ?_, upd_same, ?_, ?_⟩⟩
  · rw [upd_ne (Ne.symm ne), upd_same]
  · rw [upd_ne ne] at hdx; exact hdx
  · rw [del_upd2 ha ne]
    rw [upd_ne ne] at hdx
    exact q2 dx hdx
end
end SX
namespace SX
open PySem PySem.Spec PyProof.Rows L2 KO
theorem Run.upd {p a : Addr} {H H1 : Hp} {o : HO} (r : Run p H H1) (n : H1 a = none) : Run p H (upd H1 a o) :=
  ⟨fun b x h e => upd_get (r.1 b x h e) n, r.2.upd (r.2.ne n)⟩
theorem Run.add {p : Addr} {H H1 H2 : Hp} (r : Run p H H1) (s : Same H1 H2) : Run p H H2 := ⟨fun b x h e => s _ _ (r.1 b x h e), r.2.same s⟩
theorem Run.nil {p : Addr} {H : Hp} (h : Pool H p) : Run p H H := ⟨But.refl p H, h⟩
theorem Run.put {p a : Addr} {H H1 : Hp} {o : HO} (r : Run p H H1) (n : H a = none) (ne : a ≠ p) : Run p H (L2.upd H1 a o) :=
  ⟨fun b x h e => by rw [upd_ne (ne_of_none e n)]; exact r.1 b x h e, r.2.upd ne⟩
theorem Run.free {p a : Addr} {H H1 : Hp} (r : Run p H H1) (n : H1 a = none) : H a = none := r.1.free (r.2.ne n) n
end SX
namespace SX
open PySem PySem.Spec PyProof.Rows L2 KO
theorem Same.get {H H' : Hp} {a : Addr} {o : HO} (s : Same H H') (h : H a = some o) : H' a = some o := s _ _ h
end SX
namespace SX
open PySem PySem.Spec PyProof.Rows L2 KO
theorem Pool.run {p : Addr} {H H' : Hp} (r : Run p H H') : Pool H' p := r.2
end SX
namespace SX
open PySem PySem.Spec PyProof.Rows L2 KO
end SX
namespace SX
open PySem PySem.Spec PyProof.Rows L2 KO
def Dq (p : Addr) : Nat → Hp → V → PyData → Prop
  | 0, _, _, _ => False
  | n + 1, H, v, d => match d with
    | .none => v = .non
    | .bool b => v = .bl b
    | .int i => v = .int i
    | .str s => v = .str s
    | .list ds => ∃ (a : Addr) (xs : List V), v = .ref a ∧ a ≠ p ∧ H a = some (.lst xs) ∧ xs.length = ds.length ∧ ds.length ≤ 1000 ∧ ∀ (i : Nat) (x : V) (e : PyData), xs[i]? = some x → ds[i]? = some e → Dq p n H x e
    | .tuple ds => ∃ (a : Addr) (xs : List V), v = .ref a ∧ a ≠ p ∧ H a = some (.tup xs) ∧ xs.length = ds.length ∧ ds.length ≤ 1000 ∧ ∀ (i : Nat) (x : V) (e : PyData), xs[i]? = some x → ds[i]? = some e → Dq p n H x e
    | .dict _ => False
variable {p : Addr} {H H' : Hp}
theorem Dq.keep (k : ∀ b o, b ≠ p → H b = some o → H' b = some o) : ∀ {n : Nat} {v : V} {d : PyData}, Dq p n H v d → Dq p n H' v d
  | 0, _, _, h => h.elim
  | n + 1, v, d, h => by
    cases d with
    | none => exact h
    | bool b => exact h
    | int i => exact h
    | str s => exact h
    | dict kv => exact h
    | list ds =>
      obtain ⟨a, xs, e, ne, ha, hl, hz, r⟩ := h
      exact ⟨a, xs, e, ne, k _ _ ne ha, hl, hz, fun i x e h1 h2 => Dq.keep k (r i x e h1 h2)⟩
    | tuple ds =>
      obtain ⟨a, xs, e, ne, ha, hl, hz, r⟩ := h
      exact ⟨a, xs, e, ne, k _ _ ne ha, hl, hz, fun i x e h1 h2 => Dq.keep k (r i x e h1 h2)⟩
theorem Dq.same {n : Nat} {v : V} {d : PyData} (h : Dq p n H v d) (s : Same H H') : Dq p n H' v d := h.keep fun b o _ e => s b o e
theorem Dq.run {n : Nat} {v : V} {d : PyData} (h : Dq p n H v d) (s : Run p H H') : Dq p n H' v d := h.keep s.1
theorem Dq.up : ∀ {n : Nat} {v : V} {d : PyData}, Dq p n H v d → Dq p (n + 1) H v d
  | 0, _, _, h => h.elim
  | n + 1, v, d, h => by
    cases d with
    | none => exact h
    | bool b => exact h
    | int i => exact h
    | str s => exact h
    | dict kv => exact h
    | list ds =>
      obtain ⟨a, xs, e, ne, ha, hl, hz, r⟩ := h
      exact ⟨a, xs, e, ne, ha, hl, hz, fun i x e h1 h2 => Dq.up (r i x e h1 h2)⟩
    | tuple ds =>
      obtain ⟨a, xs, e, ne, ha, hl, hz, r⟩ := h
      exact ⟨a, xs, e, ne, ha, hl, hz, fun i x e h1 h2 => Dq.up (r i x e h1 h2)⟩
theorem Dq.le {n m : Nat} (hm : n ≤ m) {v : V} {d : PyData} (h : Dq p n H v d) : Dq p m H v d := by
  obtain ⟨k, rfl⟩ := Nat.exists_eq_add_of_le hm
  clear hm
  induction k with
  | zero => exact h
  | succ k ih => exact ih.up
theorem DpAll.of {K : PySem.W.Frag} : ∀ {xs : List V} {ds : List PyData}, xs.length = ds.length → (∀ (i : Nat) (x : V) (e : PyData), xs[i]? = some x → ds[i]? = some e → Dp K H x e) → DpAll K H xs ds
  | [], [], _, _ => .nil
  | [], _ :: _, h, _ => by simp at h
  | _ :: _, [], h, _ => by simp at h
  | x :: xs, d :: ds, h, r => .cons (r 0 x d rfl rfl) (DpAll.of (by simpa using h) fun i y e h1 h2 => r (i + 1) y e (by simpa using h1) (by simpa using h2))
theorem Dq.dp {K : PySem.W.Frag} : ∀ {n : Nat} {v : V} {d : PyData}, Dq p n H v d → Dp K H v d
  | 0, _, _, h => h.elim
  | n + 1, v, d, h => by
    cases d with
    | none => obtain rfl : v = _ := h; exact .non
    | bool b => obtain rfl : v = _ := h; exact .bl b
    | int i => obtain rfl : v = _ := h; exact .int i
    | str s => obtain rfl : v = _ := h; exact .str s
    | dict kv => exact h.elim
    | list ds =>
      obtain ⟨a, xs, rfl, ne, ha, hl, hz, r⟩ := h
      exact .lst (SqL.of ha) (DpAll.of hl fun i x e h1 h2 => (r i x e h1 h2).dp)
    | tuple ds =>
      obtain ⟨a, xs, rfl, ne, ha, hl, hz, r⟩ := h
      exact .tup (SqT.of ha) (DpAll.of hl fun i x e h1 h2 => (r i x e h1 h2).dp)
def DqA (p : Addr) (n : Nat) (H : Hp) (xs : List V) (ds : List PyData) : Prop := xs.length = ds.length ∧ ∀ (i : Nat) (x : V) (e : PyData), xs[i]? = some x → ds[i]? = some e → Dq p n H x e
theorem DqA.nil {n : Nat} : DqA p n H [] [] := ⟨rfl, fun i x e h => by simp at h⟩
theorem DqA.cons {n : Nat} {x : V} {xs : List V} {d : PyData} {ds : List PyData} (h : Dq p n H x d) (r : DqA p n H xs ds) : DqA p n H (x :: xs) (d :: ds) := ⟨by simp [r.1], fun i y e h1 h2 => by
  cases i with
  | zero =>
    simp at h1 h2
    subst h1 h2
    exact h
  | succ i => exact r.2 i y e (by simpa using h1) (by simpa using h2)⟩
theorem DqA.keep {n : Nat} (k : ∀ b o, b ≠ p → H b = some o → H' b = some o) {xs : List V} {ds : List PyData} (h : DqA p n H xs ds) : DqA p n H' xs ds := ⟨h.1, fun i x e h1 h2 => (h.2 i x e h1 h2).keep k⟩
theorem DqA.same {n : Nat} {xs : List V} {ds : List PyData} (h : DqA p n H xs ds) (s : Same H H') : DqA p n H' xs ds := h.keep fun b o _ e => s b o e
theorem DqA.run {n : Nat} {xs : List V} {ds : List PyData} (h : DqA p n H xs ds) (s : Run p H H') : DqA p n H' xs ds := h.keep s.1
theorem DqA.append {n : Nat} {xs ys : List V} {ds es : List PyData} (h : DqA p n H xs ds) (r : DqA p n H ys es) : DqA p n H (xs ++ ys) (ds ++ es) := by
  refine ⟨by simp [h.1, r.1], fun i x e h1 h2 => ?_⟩
  by_cases hi : i < xs.length
  · rw [List.getElem?_append_left hi] at h1
    rw [List.getElem?_append_left (by rw [← h.1]; exact hi)] at h2
    exact h.2 i x e h1 h2
  · rw [List.getElem?_append_right (by omega)] at h1
    rw [List.getElem?_append_right (by rw [← h.1]; omega), ← h.1] at h2
    exact r.2 _ x e h1 h2
theorem DqA.lst {n : Nat} {a : Addr} {xs : List V} {ds : List PyData} (r : DqA p n H xs ds) (ne : a ≠ p) (ha : H a = some (.lst xs)) (hz : ds.length ≤ 1000) : Dq p (n + 1) H (.ref a) (.list ds) := ⟨a, xs, rfl, ne, ha, r.1, hz, r.2⟩
theorem DqA.tup {n : Nat} {a : Addr} {xs : List V} {ds : List PyData} (r : DqA p n H xs ds) (ne : a ≠ p) (ha : H a = some (.tup xs)) (hz : ds.length ≤ 1000) : Dq p (n + 1) H (.ref a) (.tuple ds) := ⟨a, xs, rfl, ne, ha, r.1, hz, r.2⟩
variable {K : PySem.W.Frag}
theorem at_of' {α : Type} {xs : List α} {i : Int} {j : Nat} {x : α} (e : i = (j : Int)) (h : xs[j]? = some x) : atI xs i = some x := by
  subst e
  exact atI_nat h
end SX
namespace SX
open PySem PySem.Spec PyProof.Rows L2 KO
end SX
namespace SX
open PySem PySem.Spec PyProof.Rows L2 KO
def Tq : Nat → Hp → V → PyData → Prop
  | 0, _, _, _ => False
  | n + 1, H, v, d => match d with
    | .none => v = .non
    | .bool b => v = .bl b
    | .int i => v = .int i
    | .str s => v = .str s
    | .list _ => False
    | .tuple ds => ∃ (a : Addr) (xs : List V), v = .ref a ∧ H a = some (.tup xs) ∧ xs.length = ds.length ∧ ds.length ≤ 1000 ∧ ∀ (i : Nat) (x : V) (e : PyData), xs[i]? = some x → ds[i]? = some e → Tq n H x e
    | .dict _ => False
def TK (H H' : Hp) : Prop := ∀ b xs, H b = some (.tup xs) → H' b = some (.tup xs)
theorem TK.refl (H : Hp) : TK H H := fun _ _ h => h
theorem TK.trans {H H1 H2 : Hp} (a : TK H H1) (b : TK H1 H2) : TK H H2 := fun c xs h => b c xs (a c xs h)
theorem TK.run {p : Addr} {H H' : Hp} (hp : Pool H p) (r : Run p H H') : TK H H' := fun b xs h => r.1 b _ (hp.tne h) h
theorem TK.same {H H' : Hp} (s : Same H H') : TK H H' := fun b xs h => s b _ h
theorem TK.new {H : Hp} {a : Addr} {o : HO} (n : H a = none) : TK H (upd H a o) := fun b xs h => upd_get h n
theorem TK.put {H : Hp} {a : Addr} {ys : List V} {o : HO} (n : H a = some (.lst ys)) : TK H (upd H a o) := fun b xs h => by
  rw [upd_ne (ne_of h n (by intro z; cases z))]
  exact h
variable {p : Addr} {H H' : Hp}
theorem Tq.keep (k : TK H H') : ∀ {n : Nat} {v : V} {d : PyData}, Tq n H v d → Tq n H' v d
  | 0, _, _, h => h.elim
  | n + 1, v, d, h => by
    cases d with
    | none => exact h
    | bool b => exact h
    | int i => exact h
    | str s => exact h
    | dict kv => exact h
    | list ds => exact h
    | tuple ds =>
      obtain ⟨a, xs, e, ha, hl, hz, r⟩ := h
      exact ⟨a, xs, e, k _ _ ha, hl, hz, fun i x e h1 h2 => Tq.keep k (r i x e h1 h2)⟩
theorem Tq.up : ∀ {n : Nat} {v : V} {d : PyData}, Tq n H v d → Tq (n + 1) H v d
  | 0, _, _, h => h.elim
  | n + 1, v, d, h => by
    cases d with
    | none => exact h
    | bool b => exact h
    | int i => exact h
    | str s => exact h
    | dict kv => exact h
    | list ds => exact h
    | tuple ds =>
      obtain ⟨a, xs, e, ha, hl, hz, r⟩ := h
      exact ⟨a, xs, e, ha, hl, hz, fun i x e h1 h2 => Tq.up (r i x e h1 h2)⟩
theorem Tq.dq {ys : List V} (hp : H p = some (.lst ys)) : ∀ {n : Nat} {v : V} {d : PyData}, Tq n H v d → Dq p n H v d
  | 0, _, _, h => h.elim
  | n + 1, v, d, h => by
    cases d with
    | none => exact h
    | bool b => exact h
    | int i => exact h
    | str s => exact h
    | dict kv => exact h
    | list ds => exact h.elim
    | tuple ds =>
      obtain ⟨a, xs, e, ha, hl, hz, r⟩ := h
      exact ⟨a, xs, e, ne_of ha hp (by intro z; cases z), ha, hl, hz, fun i x e h1 h2 => Tq.dq hp (r i x e h1 h2)⟩
def TqA (n : Nat) (H : Hp) (xs : List V) (ds : List PyData) : Prop := xs.length = ds.length ∧ ∀ (i : Nat) (x : V) (e : PyData), xs[i]? = some x → ds[i]? = some e → Tq n H x e
theorem TqA.keep {n : Nat} {xs : List V} {ds : List PyData} (k : TK H H') (h : TqA n H xs ds) : TqA n H' xs ds := ⟨h.1, fun i x e h1 h2 => (h.2 i x e h1 h2).keep k⟩
theorem TqA.nil {n : Nat} : TqA n H [] [] := ⟨rfl, fun i x e h => by simp at h⟩
theorem TqA.cons {n : Nat} {x : V} {xs : List V} {d : PyData} {ds : List PyData} (h : Tq n H x d) (r : TqA n H xs ds) : TqA n H (x :: xs) (d :: ds) := ⟨by simp [r.1], fun i y e h1 h2 => by
  cases i with
  | zero =>
    simp at h1 h2
    subst h1 h2
    exact h
  | succ i => exact r.2 i y e (by simpa using h1) (by simpa using h2)⟩
theorem TqA.append {n : Nat} {xs ys : List V} {ds es : List PyData} (h : TqA n H xs ds) (r : TqA n H ys es) : TqA n H (xs ++ ys) (ds ++ es) := by
  refine ⟨by simp [h.1, r.1], fun i x e h1 h2 => ?_⟩
  by_cases hi : i < xs.length
  · rw [List.getElem?_append_left hi] at h1
    rw [List.getElem?_append_left (by rw [← h.1]; exact hi)] at h2
    exact h.2 i x e h1 h2
  · rw [List.getElem?_append_right (by omega)] at h1
    rw [List.getElem?_append_right (by rw [← h.1]; omega), ← h.1] at h2
    exact r.2 _ x e h1 h2
theorem TqA.dqa {n : Nat} {xs ys : List V} {ds : List PyData} (hp : H p = some (.lst ys)) (h : TqA n H xs ds) : DqA p n H xs ds := ⟨h.1, fun i x e h1 h2 => (h.2 i x e h1 h2).dq hp⟩
theorem TqA.tup {n : Nat} {a : Addr} {xs : List V} {ds : List PyData} (r : TqA n H xs ds) (ha : H a = some (.tup xs)) (hz : ds.length ≤ 1000) : Tq (n + 1) H (.ref a) (.tuple ds) := ⟨a, xs, rfl, ha, r.1, hz, r.2⟩
theorem TqA.lst {n : Nat} {a : Addr} {xs ys : List V} {ds : List PyData} (r : TqA n H xs ds) (hp : H p = some (.lst ys)) (ne : a ≠ p) (ha : H a = some (.lst xs)) (hz : ds.length ≤ 1000) : Dq p (n + 1) H (.ref a) (.list ds) := (r.dqa hp).lst ne ha hz
theorem TqA.get {n i : Nat} {xs : List V} {ds : List PyData} {d : PyData} (h : TqA n H xs ds) (hd : ds[i]? = some d) : ∃ x, xs[i]? = some x ∧ Tq n H x d := by
  have hi : i < ds.length := (List.getElem?_eq_some_iff.mp hd).1
  have hx := List.getElem?_eq_getElem (l := xs) (i := i) (by rw [h.1]; exact hi)
  exact ⟨_, hx, h.2 i _ d hx hd⟩
theorem TqA.get' {n i : Nat} {xs : List V} {ds : List PyData} {x : V} (h : TqA n H xs ds) (hx : xs[i]? = some x) : ∃ d, ds[i]? = some d ∧ Tq n H x d := by
  have hi : i < xs.length := (List.getElem?_eq_some_iff.mp hx).1
  have hd := List.getElem?_eq_getElem (l := ds) (i := i) (by rw [← h.1]; exact hi)
  exact ⟨_, hd, h.2 i _ _ hx hd⟩
section
variable {K : PySem.W.Frag} {p D : Addr} {H1 : Hp} {g : TG} {tt : TT} {te : TE} {vs : List Nat} {σ : L2.St} {Qd : Hp → Prop} {m : Nat}
def Fill (p D : Addr) (H1 H' : Hp) (m : Nat) (ds : List PyData) : Prop := ∃ xs, H' D = some (.lst xs) ∧ TqA m H' xs ds ∧ Run p H1 H'
theorem Fill.start (hD : H1 D = none) (hp : Pool H1 p) : Fill p D H1 (upd H1 D (.lst [])) m [] := ⟨[], upd_same, .nil, (Run.nil hp).upd hD⟩
theorem Fill.more {H' H4 : Hp} {ds : List PyData} {d : PyData} {y : V} (hD : H1 D = none) (hp : Pool H1 p) (f : Fill p D H1 H' m ds) (hz : ds.length ≤ 1000) (r : Run p H' H4) (hy : Tq m H4 y d) :
    ∃ acc, H4 D = some (.lst acc) ∧ acc.length < sizeLine ∧ Fill p D H1 (upd H4 D (.lst (acc ++ [y]))) m (ds ++ [d]) := by
  obtain ⟨xs, h1, h2, h3⟩ := f
  have Dp : D ≠ p := hp.ne hD
  have h1' : H4 D = some (.lst xs) := r.1 _ _ Dp h1
  have k : TK H4 (upd H4 D (.lst (xs ++ [y]))) := TK.put h1'
  exact ⟨xs, h1', by rw [h2.1, sizeLine_eq]; omega, xs ++ [y], upd_same, ((h2.keep (TK.run h3.2 r)).append (.cons hy .nil)).keep k, (h3.trans r).put hD Dp⟩
theorem Fill.none {H' H4 : Hp} {ds : List PyData} (hD : H1 D = none) (hp : Pool H1 p) (f : Fill p D H1 H' m ds) (r : Run p H' H4) : Fill p D H1 H4 m ds := by
  obtain ⟨xs, h1, h2, h3⟩ := f
  exact ⟨xs, r.1 _ _ (hp.ne hD) h1, h2.keep (TK.run h3.2 r), h3.trans r⟩
end
end SX
namespace SX
open PySem PySem.Spec PyProof.Rows L2 KO
end SX
namespace SX
open PySem PySem.Spec PyProof.Rows L2 KO
abbrev Sp4 := Int × Int × Int × Int
def dSp (s : Sp4) : PyData := .tuple [.int s.1, .int s.2.1, .int s.2.2.1, .int s.2.2.2]
def gSp (T n : Int) (s : Sp4) : Prop := 0 ≤ s.1 ∧ s.1 < n ∧ 0 ≤ s.2.1 ∧ s.2.1 < n ∧ s.1 ≠ s.2.1 ∧ 0 ≤ s.2.2.1 ∧ s.2.2.1 ≤ s.2.2.2 ∧ s.2.2.2 ≤ s.2.2.1 + T - 1 ∧ s.2.2.2 ≤ 999
theorem tq_sp {H : Hp} {a : Addr} {s e l m : Int} (h : H a = some (.tup [.int s, .int e, .int l, .int m])) : Tq 2 H (.ref a) (dSp (s, e, l, m)) :=
  TqA.tup (.cons rfl (.cons rfl (.cons rfl (.cons rfl .nil)))) h (by simp)
theorem TqA.set {n : Nat} {H : Hp} {xs : List V} {ds : List PyData} (h : TqA n H xs ds) {x : V} {d : PyData} (hx : Tq n H x d) (j : Nat) : TqA n H (xs.set j x) (ds.set j d) := by
  refine ⟨by simp [h.1], fun i y e h1 h2 => ?_⟩
  rw [List.getElem?_set] at h1 h2
  by_cases hij : j = i
  · subst hij
    rw [if_pos rfl] at h1 h2
    split at h1
    · rename_i hl
      rw [if_pos (by rw [← h.1]; exact hl)] at h2
      cases h1
      cases h2
      exact hx
    · cases h1
  · rw [if_neg hij] at h1 h2
    exact h.2 i y e h1 h2
end SX
namespace SX
open PySem PySem.Spec PyProof.Rows L2 KO
def spSpans (H H' : Hp) (p a : Addr) (T n c : Int) : Prop := ∃ (xs : List V) (sps : List Sp4), H' a = some (.lst xs) ∧ TqA 2 H' xs (sps.map dSp) ∧ (sps.length : Int) = c ∧ (∀ s ∈ sps, gSp T n s) ∧ Run p H H'
theorem spSpans.run {H H1 H2 : Hp} {p a : Addr} {T n c : Int} (ne : a ≠ p) (h : spSpans H H1 p a T n c) (r : Run p H1 H2) : spSpans H H2 p a T n c := by
  obtain ⟨xs, sps, h1, h2, h3, h4, h5⟩ := h
  exact ⟨xs, sps, r.1 _ _ ne h1, h2.keep (TK.run h5.2 r), h3, h4, h5.trans r⟩
theorem spSpans.more {H H1 H2 : Hp} {p a b : Addr} {T n c c' s e l m : Int} (hn : H a = none) (ne : a ≠ p) {xs : List V} {sps : List Sp4} (h1 : H1 a = some (.lst xs)) (h2 : TqA 2 H1 xs (sps.map dSp)) (h3 : (sps.length : Int) = c) (h4 : ∀ s ∈ sps, gSp T n s) (h5 : Run p H H1)
    (r : Run p H1 H2) (hb : H2 b = none) (g : gSp T n (s, e, l, m)) (hc : c' = c + 1) : spSpans H (upd (upd H2 b (.tup [.int s, .int e, .int l, .int m])) a (.lst (xs ++ [.ref b]))) p a T n c' := by
  have h1' : H2 a = some (.lst xs) := r.1 _ _ ne h1
  have nb : a ≠ b := ne_of_none h1' hb
  have k1 : TK H2 (upd H2 b (.tup [.int s, .int e, .int l, .int m])) := TK.new hb
  have h1'' : (upd H2 b (.tup [.int s, .int e, .int l, .int m])) a = some (.lst xs) := upd_get h1' hb
  have k2 : TK _ (upd (upd H2 b (.tup [.int s, .int e, .int l, .int m])) a (.lst (xs ++ [.ref b]))) := TK.put h1''
  refine ⟨_, sps ++ [(s, e, l, m)], upd_same, ?_, by simp; omega, fun x hx => ?_, (((h5.trans r).upd hb).put hn ne)⟩
  · rw [List.map_append]
    refine TqA.keep k2 (TqA.append (TqA.keep k1 (h2.keep (TK.run h5.2 r))) (.cons (tq_sp upd_same) .nil))
  · rcases List.mem_append.mp hx with h | h
    · exact h4 x h
    · rw [List.mem_singleton.mp h]
      exact g
end SX
namespace SX
end SX
namespace SX
open PySem PySem.Spec PyProof.Rows L2 KO
end SX
namespace SX
open PySem PySem.Spec PyProof.Rows L2 KO
def NetAt (C : Addr) (H : Hp) (a : Addr) (T n : Int) (sps : List Sp4) : Prop := ∃ (dx t : Addr) (xs : List V), H a = some (.ins C dx [("round_length", .int T), ("events", .int n), ("spans", .ref t)]) ∧ H t = some (.tup xs) ∧ TqA 2 H xs (sps.map dSp)
theorem NetAt.keep {C : Addr} {H H' : Hp} {a : Addr} {T n : Int} {sps : List Sp4} (k : ∀ b o, (∀ xs, o ≠ .lst xs) → H b = some o → H' b = some o) (h : NetAt C H a T n sps) : NetAt C H' a T n sps := by
  obtain ⟨dx, t, xs, h1, h2, h3⟩ := h
  exact ⟨dx, t, xs, k _ _ (fun _ z => nomatch z) h1, k _ _ (fun _ z => nomatch z) h2, h3.keep fun b ys e => k _ _ (fun _ z => nomatch z) e⟩
theorem NetAt.run {C p : Addr} {H H' : Hp} {a : Addr} {T n : Int} {sps : List Sp4} (hp : Pool H p) (r : Run p H H') (h : NetAt C H a T n sps) : NetAt C H' a T n sps :=
  h.keep fun b o nl e => r.1 b o (fun z => by
    obtain ⟨x, f, c, q⟩ := hp
    rw [z, q] at e
    exact nl _ (Option.some.inj e).symm) e
theorem NetAt.same {C : Addr} {H H' : Hp} {a : Addr} {T n : Int} {sps : List Sp4} (s : Same H H') (h : NetAt C H a T n sps) : NetAt C H' a T n sps := h.keep fun b o _ e => s b o e
end SX
namespace SX
open PySem PySem.Spec PyProof.Rows L2 KO
end SX
namespace SX
open PySem PySem.Spec PyProof.Rows L2 KO
section
variable {X : Cx} {K : PySem.W.Frag}
theorem pg_tupK {pos : Pos} {es : List Expr} {k : Nat} {t : TGs} {n : Nat} (hK : X.K = K) (hc : X.calm = true) (h : PGs X es t) (hn : (assignEach es X.env).length = n := by rfl) (hst : (assignEach es X.env).findIdx? (·.1) = none := by rfl) : PG X (.Tuple es k pos) (gTup K n t) := by
  subst hK
  exact pg_tup hc h hn hst
end
end SX
namespace SXT
open PySem PySem.Spec PyProof.Rows
open Sem (wp)
open AutoSeq1 (wpAny_loadPart')
section
variable {prog : Program} {w : World} {A : Around} {E : Value → Shared → Prop} {s : Shared}
end
end SXT
namespace L2
open PySem PySem.Spec PyProof.Rows
section
variable {K : PySem.W.Frag} {a : Addr} {xs : List V} {g : TG} {tb : TS} {D : Ends} {σ : St} {H : Hp}
end
section
variable {K : PySem.W.Frag} {a : Addr} {xs : List V} {g : TG} {tt : TT} {te : TE} {vs : List Nat} {σ : St} {H1 : Hp} {D : Addr} {Qd : Hp → Prop}
end
end L2
namespace SX
open PySem PySem.Spec PyProof.Rows L2 KO
section
variable {K : PySem.W.Frag} {H : Hp} {p : Addr} {xs : List V} {r : Int} {Q : VK}
end
def AllI (xs : List V) : Prop := ∀ x ∈ xs, ∃ i : Int, x = .int i
theorem AllI.get : ∀ {xs : List V}, AllI xs → ∃ ns : List Int, xs = ns.map V.int
  | [], _ => ⟨[], rfl⟩
  | x :: xs, h => by
    obtain ⟨i, rfl⟩ := h _ List.mem_cons_self
    obtain ⟨ns, rfl⟩ := AllI.get (xs := xs) fun y hy => h y (List.mem_cons_of_mem _ hy)
    exact ⟨i :: ns, rfl⟩
theorem AllI.of (ns : List Int) : AllI (ns.map V.int) := fun x hx => by
  obtain ⟨i, _, rfl⟩ := List.mem_map.mp hx
  exact ⟨i, rfl⟩
theorem AllI.nil : AllI [] := fun x hx => by cases hx
theorem AllI.one (i : Int) : AllI [.int i] := AllI.of [i]
theorem AllI.app {xs ys : List V} (a : AllI xs) (b : AllI ys) : AllI (xs ++ ys) := fun x hx => (List.mem_append.mp hx).elim (a x) (b x)
theorem AllI.cut {xs : List V} (a : AllI xs) (lo hi : Option Int) : AllI (cutV xs lo hi) := fun x hx => a x (List.mem_of_mem_drop (List.mem_of_mem_take hx))
theorem AllI.set {xs : List V} (a : AllI xs) (j : Nat) (i : Int) : AllI (xs.set j (.int i)) := fun x hx => (List.mem_or_eq_of_mem_set hx).elim (a x) fun e => ⟨i, e⟩
def NewI (H H' : Hp) (p b : Addr) (k : Nat) : Prop := ∃ ns : List Int, H b = none ∧ H' b = some (.lst (ns.map V.int)) ∧ ns.length ≤ k ∧ Run p H H'
theorem NewI.of {H H' : Hp} {p b : Addr} {k : Nat} {xs : List V} (n : H b = none) (h : H' b = some (.lst xs)) (a : AllI xs) (hk : xs.length ≤ k) (r : Run p H H') : NewI H H' p b k := by
  obtain ⟨ns, rfl⟩ := a.get
  exact ⟨ns, n, h, by rw [List.length_map] at hk; exact hk, r⟩
end SX
namespace SX
open PySem PySem.Spec PyProof.Rows L2 KO
end SX
namespace SX
open PySem PySem.Spec PyProof.Rows L2 KO
end SX
namespace SX
open PySem PySem.Spec PyProof.Rows L2 KO
end SX
namespace SX
open PySem PySem.Spec PyProof.Rows L2 KO
end SX
namespace L2
open PySem PySem.Spec PyProof.Rows
def wManyA (K : PySem.W.Frag) (Wout : WX) (D : Ends) : List (Value × Nat × (Addr → Value → Option Addr → TS)) → WX
  | [] => Wout
  | (c, i, ts) :: r => fun cls d σ H => ∃ b, PySem.W.exmOne K cls c = some b ∧ (b = true → ∀ a, H a = none → ts a cls d { nx := fun σ' H' => D.nx (σ'.set i none) H', rt := D.rt, bk := fun σ' H' => D.bk (σ'.set i none) H', ct := fun σ' H' => D.ct (σ'.set i none) H' } (σ.set i (some (.ref a))) H) ∧ (b = false → wManyA K Wout D r cls d σ H)
inductive HdsOkA (X : Cx) : List ExceptHandler → List (Value × Nat × (Addr → Value → Option Addr → TS)) → Prop
  | nil : HdsOkA X [] []
  | cons {x n : Str} {c : Value} {i : Nat} {ts : Addr → Value → Option Addr → TS} {b₀ : Stmt} {suite : List Stmt} {np pos' : Pos} {hds : List ExceptHandler} {l : List (Value × Nat × (Addr → Value → Option Addr → TS))} (hi : X.N[i]? = some n) (hln : X.env.kindOf n = some .local) (hc : Names X x c)
      (hsu : ∀ (a : Addr) (oe : Obj) (cls : Value) (d : Option Addr) (pn : List (Addr × Obj)), Zc cls d oe → (∃ vs, oe.data = .fields vs) → PSs (X.suite a ((a, oe) :: pn)) (b₀ :: suite) (ts a cls d)) (r : HdsOkA X hds l) :
      HdsOkA X (.ExceptHandler (some (.Name x np)) (some n) (b₀ :: suite) pos' :: hds) ((c, i, ts) :: l)
section
variable {X : Cx} {body : List Stmt} {h₀ : ExceptHandler} {hds : List ExceptHandler} {l : List (Value × Nat × (Addr → Value → Option Addr → TS))} {pos : Pos} {tb : WX → TS} {Wout : WX}
end
end L2
namespace SX
open PySem PySem.Spec PyProof.Rows L2 KO
theorem kit_ref {K : PySem.W.Frag} {C D : Addr} {b : Bool} (ss : PySem.W.subIn K (.ref C) (.ref C) = some true) (s : PySem.W.subIn K (.ref C) (.ref D) = some b) (hd : PySem.W.hasDictIn K D = true) (ty : PySem.W.typeIn K (.ref D) = some (.type "type")) : PySem.W.kitOne K (.ref C) (.ref D) = some b := by
  obtain ⟨cd, hc, _⟩ := PySem.W.any_some hd
  unfold PySem.W.kitOne PySem.W.kitCls
  by_cases e : C = D
  · subst e
    rw [ss] at s
    cases s
    simp
  · rw [if_neg (by simpa using e)]
    dsimp only
    rw [hc, ty]
    simpa using s
end SX
namespace SX
open PySem PySem.Spec PyProof.Rows L2 KO
end SX
namespace RF
open PySem PySem.Spec PyProof.Rows L2 KO SX

structure Ex where
  cls : Str
  fs : List (Str × PyData)
structure Mo (α : Type) where
  run : (α → Prop) → (Ex → Prop) → Prop
  mono : ∀ {Q Q' : α → Prop} {E E' : Ex → Prop}, (∀ x, Q x → Q' x) → (∀ x, E x → E' x) → run Q E → run Q' E'
namespace Mo
variable {α β : Type}
protected def pure (a : α) : Mo α := ⟨fun Q _ => Q a, fun h _ q => h _ q⟩
protected def bind (m : Mo α) (k : α → Mo β) : Mo β := ⟨fun Q E => m.run (fun x => (k x).run Q E) E, fun h e q => m.mono (fun x => (k x).mono h e) e q⟩
def throw (e : Ex) : Mo α := ⟨fun _ E => E e, fun _ e q => e _ q⟩
def stuck : Mo α := ⟨fun _ _ => False, fun _ _ q => q⟩
def get (o : Option α) : Mo α := ⟨fun Q _ => ∃ a, o = some a ∧ Q a, fun h _ q => by obtain ⟨a, e, q⟩ := q; exact ⟨a, e, h _ q⟩⟩
def req (p : Prop) : Mo Unit := ⟨fun Q _ => p ∧ Q (), fun h _ q => ⟨q.1, h _ q.2⟩⟩
def any (p : α → Prop) : Mo α := ⟨fun Q _ => ∀ a, p a → Q a, fun h _ q a x => h _ (q a x)⟩
def calm (m : Mo α) : Mo α := ⟨fun Q _ => m.run Q fun _ => False, fun h _ q => m.mono h (fun _ z => z) q⟩
instance : Monad Mo where
  pure := Mo.pure
  bind := Mo.bind
@[simp] theorem run_pure {a : α} {Q : α → Prop} {E : Ex → Prop} : (pure a : Mo α).run Q E = Q a := rfl
@[simp] theorem run_bind {m : Mo α} {k : α → Mo β} {Q : β → Prop} {E : Ex → Prop} : (m >>= k).run Q E = m.run (fun x => (k x).run Q E) E := rfl
@[simp] theorem run_map {m : Mo α} {f : α → β} {Q : β → Prop} {E : Ex → Prop} : (f <$> m).run Q E = m.run (fun x => Q (f x)) E := rfl
@[simp] theorem run_throw {e : Ex} {Q : α → Prop} {E : Ex → Prop} : (throw e : Mo α).run Q E = E e := rfl
@[simp] theorem run_stuck {Q : α → Prop} {E : Ex → Prop} : (stuck : Mo α).run Q E = False := rfl
@[simp] theorem run_get {o : Option α} {Q : α → Prop} {E : Ex → Prop} : (get o).run Q E = ∃ a, o = some a ∧ Q a := rfl
@[simp] theorem run_req {p : Prop} {Q : Unit → Prop} {E : Ex → Prop} : (req p).run Q E = (p ∧ Q ()) := rfl
@[simp] theorem run_any {p : α → Prop} {Q : α → Prop} {E : Ex → Prop} : (any p).run Q E = ∀ a, p a → Q a := rfl
@[simp] theorem run_calm {m : Mo α} {Q : α → Prop} {E : Ex → Prop} : (calm m).run Q E = m.run Q fun _ => False := rfl
@[simp] theorem run_ite {c : Prop} [Decidable c] {a b : Mo α} {Q : α → Prop} {E : Ex → Prop} : (if c then a else b).run Q E = if c then a.run Q E else b.run Q E := by split <;> rfl
end Mo

structure Pr where
  r : V → Hp → Prop
  mono : ∀ {v : V} {F F' : Hp}, Same F F' → r v F → r v F'
structure Po where
  r : HO → Hp → Prop
  mono : ∀ {o : HO} {F F' : Hp}, Same F F' → r o F → r o F'
inductive En where
  | un
  | fz (p : Pr)
  | ow (l : Bool) (a : Addr) (q : Po)
  | lk (f : Bool) (h : Hp) (p : Pr)
abbrev Ctx := List En
def En.own? : En → Option Addr
  | .ow _ a _ => some a
  | _ => none
def owns (Γ : Ctx) : List Addr := Γ.filterMap En.own?
theorem mem_owns {Γ : Ctx} {i : Nat} {l : Bool} {a : Addr} {q : Po} (h : Γ[i]? = some (.ow l a q)) : a ∈ owns Γ := List.mem_filterMap.mpr ⟨_, List.mem_of_getElem? h, rfl⟩
theorem of_owns {Γ : Ctx} {a : Addr} (h : a ∈ owns Γ) : ∃ (i : Nat) (l : Bool) (q : Po), Γ[i]? = some (.ow l a q) := by
  obtain ⟨e, he, q⟩ := List.mem_filterMap.mp h
  obtain ⟨i, hi⟩ := List.getElem?_of_mem he
  cases e with
  | un => cases q
  | fz p => cases q
  | ow l b p => cases q; exact ⟨i, l, p, hi⟩
  | lk f h p => cases q

structure Go (M : List Addr) (F H F' H' : Hp) : Prop where
  fs : Same F F'
  le : Same F' H'
  hs : ∀ b o, b ∉ M → H b = some o → H' b = some o
  fr : ∀ b o, H b = some o → F b = none → F' b = none
  th : ∀ b o, H b = some o → ∃ o', H' b = some o'
section
variable {M M' : List Addr} {F F' F1 F2 H H' H1 H2 : Hp}
theorem Go.refl (h : Same F H) : Go M F H F H := ⟨Same.refl _, h, fun _ _ _ e => e, fun _ _ _ e => e, fun _ o e => ⟨o, e⟩⟩
theorem Go.trans (a : Go M F H F1 H1) (b : Go M' F1 H1 F2 H2) (s : ∀ x ∈ M', x ∈ M ∨ H x = none) : Go M F H F2 H2 where
  fs := a.fs.trans b.fs
  le := b.le
  hs := fun x o n e => by
    refine b.hs x o (fun m => ?_) (a.hs x o n e)
    rcases s x m with h | h
    · exact n h
    · rw [h] at e; cases e
  fr := fun x o e f => by
    obtain ⟨o', e'⟩ := a.th x o e
    exact b.fr x o' e' (a.fr x o e f)
  th := fun x o e => by
    obtain ⟨o', e'⟩ := a.th x o e
    exact b.th x o' e'
theorem Go.mono (a : Go M F H F1 H1) (s : ∀ x ∈ M, x ∈ M' ∨ H x = none) : Go M' F H F1 H1 where
  fs := a.fs
  le := a.le
  hs := fun x o n e => by
    refine a.hs x o (fun m => ?_) e
    rcases s x m with h | h
    · exact n h
    · rw [h] at e; cases e
  fr := a.fr
  th := a.th
theorem Go.new {p : Addr} {o : HO} (s : Same F H) (h : H p = none) : Go M F H (upd F p o) (upd H p o) where
  fs := fun b x e => upd_get e (s.free h)
  le := fun b x e => by
    by_cases hb : b = p
    · subst hb; rw [upd_same] at e ⊢; exact e
    · rw [upd_ne hb] at e ⊢; exact s _ _ e
  hs := fun b x _ e => upd_get e h
  fr := fun b x e f => by rw [upd_ne (ne_of_none e h)]; exact f
  th := fun b x e => ⟨x, upd_get e h⟩
theorem Go.newO {p : Addr} {o : HO} (s : Same F H) (h : H p = none) : Go M F H F (upd H p o) where
  fs := Same.refl _
  le := fun b x e => upd_get (s _ _ e) h
  hs := fun b x _ e => upd_get e h
  fr := fun b x e f => f
  th := fun b x e => ⟨x, upd_get e h⟩
theorem Go.put {p : Addr} {o u : HO} (s : Same F H) (h : F p = none) (hp : H p = some u) : Go [p] F H F (upd H p o) where
  fs := Same.refl _
  le := fun b x e => by rw [upd_ne (ne_of_none e h)]; exact s _ _ e
  hs := fun b x n e => by rw [upd_ne (by simpa using n)]; exact e
  fr := fun b x e f => f
  th := fun b x e => by
    by_cases hb : b = p
    · subst hb; exact ⟨o, upd_same⟩
    · exact ⟨x, by rw [upd_ne hb]; exact e⟩
theorem Go.freeze {p : Addr} {o : HO} (a : Go M F H F1 H1) (s : Same F H) (hp : H1 p = some o) (h : H p = none) : Go M F H (upd F1 p o) H1 where
  fs := fun b x e => by
    rw [upd_ne (ne_of_none (s _ _ e) h)]
    exact a.fs b x e
  le := fun b x e => by
    by_cases hb : b = p
    · subst hb; rw [upd_same] at e; rw [hp]; exact e
    · rw [upd_ne hb] at e; exact a.le _ _ e
  hs := a.hs
  fr := fun b x e f => by rw [upd_ne (ne_of_none e h)]; exact a.fr b x e f
  th := a.th
end

structure Gf where
  F0 : Hp
  H0 : Hp
  M : List Addr
def EnOk (G : Gf) (F H : Hp) : En → Option (Option V) → Prop
  | .un, _ => True
  | .fz p, s => ∃ v, s = some (some v) ∧ p.r v F
  | .ow l a q, s => s = some (some (.ref a)) ∧ F a = none ∧ (if l = true then G.H0 a = none else a ∈ G.M) ∧ ∃ o, H a = some o ∧ q.r o F
  | .lk f h p, s => (∃ v, s = some (some v) ∧ p.r v F) ∧ (∀ b, h b = none → G.H0 b = none ∧ (f = true → G.F0 b = none)) ∧ ∀ b, H b = none → h b = none
theorem none_th {H H' : Hp} (th : ∀ b o, H b = some o → ∃ o', H' b = some o') {b : Addr} (h : H' b = none) : H b = none := by
  cases e : H b with
  | none => rfl
  | some o => obtain ⟨o', e'⟩ := th _ _ e; rw [h] at e'; cases e'
structure Ok (G : Gf) (Γ : Ctx) (σ : L2.St) (F H : Hp) : Prop where
  go : Go G.M G.F0 G.H0 F H
  en : ∀ (i : Nat) (e : En), Γ[i]? = some e → EnOk G F H e σ[i]?
  ap : ∀ (i j : Nat) (l m : Bool) (a : Addr) (p q : Po), Γ[i]? = some (.ow l a p) → Γ[j]? = some (.ow m a q) → i = j
  ln : σ.length = Γ.length
section
variable {G : Gf} {Γ Γ' : Ctx} {σ : L2.St} {F H F' H' : Hp}
theorem Ok.le (o : Ok G Γ σ F H) : Same F H := o.go.le
theorem own_of {l : Bool} {a : Addr} (h : if l = true then G.H0 a = none else a ∈ G.M) : a ∈ G.M ∨ G.H0 a = none := by
  cases l with
  | true => exact .inr h
  | false => exact .inl h
theorem Ok.own (o : Ok G Γ σ F H) {a : Addr} (h : a ∈ owns Γ) : a ∈ G.M ∨ G.H0 a = none := by
  obtain ⟨i, l, q, e⟩ := of_owns h
  exact own_of (o.en i _ e).2.2.1
theorem Ok.ownF (o : Ok G Γ σ F H) {a : Addr} (h : a ∈ owns Γ) : F a = none := by
  obtain ⟨i, l, q, e⟩ := of_owns h
  exact (o.en i _ e).2.1
theorem Ok.ownH (o : Ok G Γ σ F H) {a : Addr} (h : a ∈ owns Γ) : ∃ u, H a = some u := by
  obtain ⟨i, l, q, e⟩ := of_owns h
  obtain ⟨u, hu, _⟩ := (o.en i _ e).2.2.2
  exact ⟨u, hu⟩
theorem Ok.move {M : List Addr} (o : Ok G Γ σ F H) (g : Go M F H F' H') (hM : ∀ x ∈ M, H x = none ∨ (x ∈ G.M ∨ G.H0 x = none) ∧ x ∉ owns Γ) : Ok G Γ σ F' H' where
  go := o.go.trans g fun x m => by
    rcases hM x m with h | h
    · right
      cases e : G.H0 x with
      | none => rfl
      | some y =>
        obtain ⟨o', e'⟩ := o.go.th _ _ e
        rw [h] at e'; cases e'
    · exact h.1
  en := fun i e he => by
    have q := o.en i e he
    cases e with
    | un => trivial
    | fz p =>
      obtain ⟨v, h1, h2⟩ := q
      exact ⟨v, h1, p.mono g.fs h2⟩
    | ow l a p =>
      obtain ⟨h1, h2, h3, u, h4, h5⟩ := q
      refine ⟨h1, g.fr _ _ h4 h2, h3, u, g.hs _ _ (fun m => ?_) h4, p.mono g.fs h5⟩
      rcases hM a m with h | h
      · rw [h] at h4; cases h4
      · exact h.2 (mem_owns he)
    | lk f h p =>
      obtain ⟨⟨v, h1, h2⟩, h3, h4⟩ := q
      exact ⟨⟨v, h1, p.mono g.fs h2⟩, h3, fun b e => h4 b (none_th g.th e)⟩
  ap := o.ap
  ln := o.ln
def Le : Ctx → Ctx → Prop
  | [], [] => True
  | e :: l, e' :: l' => (e = .un ∨ e = e') ∧ Le l l'
  | _, _ => False
theorem Le.len : ∀ {Γ Γ' : Ctx}, Le Γ Γ' → Γ.length = Γ'.length
  | [], [], _ => rfl
  | _ :: _, _ :: _, h => by simp [Le.len h.2]
  | [], _ :: _, h => h.elim
  | _ :: _, [], h => h.elim
theorem Le.get : ∀ {Γ Γ' : Ctx} {i : Nat} {e : En}, Le Γ Γ' → Γ[i]? = some e → e = .un ∨ Γ'[i]? = some e
  | [], [], _, _, _, h => by simp at h
  | x :: l, y :: l', 0, e, h, q => by
    simp at q
    subst q
    rcases h.1 with h | h
    · exact .inl h
    · exact .inr (by simp [h])
  | x :: l, y :: l', i + 1, e, h, q => by
    have := Le.get (i := i) (e := e) h.2 (by simpa using q)
    simpa using this
  | [], _ :: _, _, _, h, _ => h.elim
  | _ :: _, [], _, _, h, _ => h.elim
theorem Le.refl : ∀ Γ : Ctx, Le Γ Γ
  | [] => trivial
  | _ :: l => ⟨.inr rfl, Le.refl l⟩
theorem Le.trans : ∀ {A B C : Ctx}, Le A B → Le B C → Le A C
  | [], [], [], _, _ => trivial
  | a :: A, b :: B, c :: C, h, k => ⟨by
      rcases h.1 with h1 | h1
      · exact .inl h1
      · rcases k.1 with k1 | k1
        · exact .inl (h1.trans k1)
        · exact .inr (h1.trans k1), Le.trans h.2 k.2⟩
  | [], _ :: _, _, h, _ => h.elim
  | _ :: _, [], _, h, _ => h.elim
  | [], [], _ :: _, _, k => k.elim
  | _ :: _, _ :: _, [], _, k => k.elim
theorem Le.set : ∀ {Γ Γ' : Ctx} {i : Nat} {e : En}, Le Γ Γ' → Γ[i]? = some .un → Le Γ (Γ'.set i e)
  | [], [], _, _, _, h => by simp at h
  | x :: l, y :: l', 0, e, h, q => by
    simp at q
    exact ⟨.inl q, h.2⟩
  | x :: l, y :: l', i + 1, e, h, q => ⟨h.1, Le.set (i := i) h.2 (by simpa using q)⟩
  | [], _ :: _, _, _, h, _ => h.elim
  | _ :: _, [], _, _, h, _ => h.elim
theorem Ok.weak (o : Ok G Γ σ F H) (l : Le Γ' Γ) : Ok G Γ' σ F H where
  go := o.go
  en := fun i e he => by
    rcases l.get he with h | h
    · subst h; trivial
    · exact o.en i e h
  ap := fun i j l1 l2 a p q h1 h2 => by
    rcases l.get h1 with h | h1
    · cases h
    · rcases l.get h2 with h | h2
      · cases h
      · exact o.ap i j _ _ a p q h1 h2
  ln := o.ln.trans l.len.symm
theorem Ok.set (o : Ok G Γ σ F H) {i : Nat} {v : V} {p : Pr} (h : p.r v F) : Ok G (Γ.set i (.fz p)) (σ.set i (some v)) F H where
  go := o.go
  en := fun j e he => by
    by_cases hij : i = j
    · subst hij
      have hl : i < Γ.length := by
        have := (List.getElem?_eq_some_iff.mp he).1
        simpa using this
      rw [List.getElem?_set_self hl] at he
      cases he
      exact ⟨v, List.getElem?_set_self (by rw [o.ln]; exact hl), h⟩
    · rw [List.getElem?_set_ne hij] at he ⊢
      exact o.en j e he
  ap := fun j k l1 l2 a p q h1 h2 => by
    have key : ∀ {j : Nat} {l : Bool} {p : Po}, (Γ.set i (.fz ‹Pr›))[j]? = some (.ow l a p) → Γ[j]? = some (.ow l a p) := fun {j l p} e => by
      by_cases hij : i = j
      · subst hij
        have hl : i < Γ.length := by
          have := (List.getElem?_eq_some_iff.mp e).1
          simpa using this
        rw [List.getElem?_set_self hl] at e
        cases e
      · rw [List.getElem?_set_ne hij] at e
        exact e
    exact o.ap j k _ _ a p q (key h1) (key h2)
  ln := by simp [o.ln]
theorem Ok.forget (o : Ok G Γ σ F H) (i : Nat) {v : Option V} : Ok G (Γ.set i .un) (σ.set i v) F H where
  go := o.go
  en := fun j e he => by
    by_cases hij : i = j
    · subst hij
      have hl : i < Γ.length := by
        have := (List.getElem?_eq_some_iff.mp he).1
        simpa using this
      rw [List.getElem?_set_self hl] at he
      cases he
      trivial
    · rw [List.getElem?_set_ne hij] at he ⊢
      exact o.en j e he
  ap := fun j k l1 l2 a p q h1 h2 => by
    have key : ∀ {j : Nat} {l : Bool} {p : Po}, (Γ.set i .un)[j]? = some (.ow l a p) → Γ[j]? = some (.ow l a p) := fun {j l p} e => by
      by_cases hij : i = j
      · subst hij
        have hl : i < Γ.length := by
          have := (List.getElem?_eq_some_iff.mp e).1
          simpa using this
        rw [List.getElem?_set_self hl] at e
        cases e
      · rw [List.getElem?_set_ne hij] at e
        exact e
    exact o.ap j k _ _ a p q (key h1) (key h2)
  ln := by simp [o.ln]
theorem Ok.setO (o : Ok G Γ σ F H) {i : Nat} {a : Addr} {u : HO} {q : Po} (h0 : G.H0 a = none) (hF : F a = none) (hn : a ∉ owns Γ) (hH : H a = some u) (h : q.r u F) : Ok G (Γ.set i (.ow true a q)) (σ.set i (some (.ref a))) F H where
  go := o.go
  en := fun j e he => by
    by_cases hij : i = j
    · subst hij
      have hl : i < Γ.length := by
        have := (List.getElem?_eq_some_iff.mp he).1
        simpa using this
      rw [List.getElem?_set_self hl] at he
      cases he
      exact ⟨List.getElem?_set_self (by rw [o.ln]; exact hl), hF, h0, u, hH, h⟩
    · rw [List.getElem?_set_ne hij] at he ⊢
      exact o.en j e he
  ap := fun j k l1 l2 b p r h1 h2 => by
    have key : ∀ {j : Nat} {l : Bool} {p : Po}, (Γ.set i (.ow true a q))[j]? = some (.ow l b p) → (j = i ∧ b = a) ∨ (j ≠ i ∧ Γ[j]? = some (.ow l b p)) := fun {j l p} e => by
      by_cases hij : i = j
      · subst hij
        have hl : i < Γ.length := by
          have := (List.getElem?_eq_some_iff.mp e).1
          simpa using this
        rw [List.getElem?_set_self hl] at e
        cases e
        exact .inl ⟨rfl, rfl⟩
      · rw [List.getElem?_set_ne hij] at e
        exact .inr ⟨Ne.symm hij, e⟩
    rcases key h1 with ⟨e1, e2⟩ | ⟨e1, e2⟩
    · rcases key h2 with ⟨f1, f2⟩ | ⟨f1, f2⟩
      · rw [e1, f1]
      · exact absurd (mem_owns f2) (by rw [e2]; exact hn)
    · rcases key h2 with ⟨f1, f2⟩ | ⟨f1, f2⟩
      · exact absurd (mem_owns e2) (by rw [f2]; exact hn)
      · exact o.ap j k _ _ b p r e2 f2
  ln := by simp [o.ln]
theorem Ok.put (o : Ok G Γ σ F H) {i : Nat} {l : Bool} {a : Addr} {u : HO} {p q : Po} (hi : Γ[i]? = some (.ow l a p)) (h : q.r u F) : Ok G (Γ.set i (.ow l a q)) σ F (upd H a u) where
  go := by
    obtain ⟨_, h2, h3, w, h4, _⟩ := o.en i _ hi
    exact o.go.trans (Go.put o.le h2 h4) fun x m => by
      rw [List.mem_singleton.mp m]
      exact own_of h3
  en := fun j e he => by
    obtain ⟨k1, k2, k3, w, k4, _⟩ := o.en i _ hi
    by_cases hij : i = j
    · subst hij
      have hl : i < Γ.length := by
        have := (List.getElem?_eq_some_iff.mp he).1
        simpa using this
      rw [List.getElem?_set_self hl] at he
      cases he
      exact ⟨k1, k2, k3, u, upd_same, h⟩
    · rw [List.getElem?_set_ne hij] at he
      have z := o.en j e he
      cases e with
      | un => trivial
      | fz r => exact z
      | ow l b r =>
        obtain ⟨z1, z2, z3, y, z4, z5⟩ := z
        refine ⟨z1, z2, z3, y, ?_, z5⟩
        rw [upd_ne]
        · exact z4
        · rintro rfl
          exact hij (o.ap i j _ _ _ _ _ hi he)
      | lk f h r =>
        refine ⟨z.1, z.2.1, fun b e => z.2.2 b ?_⟩
        by_cases hb : b = a
        · subst hb; rw [upd_same] at e; cases e
        · rw [upd_ne hb] at e; exact e
  ap := fun j k l1 l2 b r s h1 h2 => by
    have key : ∀ {j : Nat} {m : Bool} {r : Po}, (Γ.set i (.ow l a q))[j]? = some (.ow m b r) → ∃ m' r', Γ[j]? = some (.ow m' b r') := fun {j m r} e => by
      by_cases hij : i = j
      · subst hij
        have hl : i < Γ.length := by
          have := (List.getElem?_eq_some_iff.mp e).1
          simpa using this
        rw [List.getElem?_set_self hl] at e
        cases e
        exact ⟨_, p, hi⟩
      · rw [List.getElem?_set_ne hij] at e
        exact ⟨_, r, e⟩
    obtain ⟨_, r1, e1⟩ := key h1
    obtain ⟨_, r2, e2⟩ := key h2
    exact o.ap j k _ _ b r1 r2 e1 e2
  ln := by simp [o.ln]
theorem Ok.frz (o : Ok G Γ σ F H) {i : Nat} {a : Addr} {q : Po} (hi : Γ[i]? = some (.ow true a q)) : ∃ u, H a = some u ∧ q.r u F ∧ Ok G (Γ.set i .un) σ (upd F a u) H := by
  obtain ⟨k1, k2, k3, w, k4, k5⟩ := o.en i _ hi
  have h0 : G.H0 a = none := k3
  have s : Same F (upd F a w) := same_upd k2
  refine ⟨w, k4, k5, ⟨?_, fun j e he => ?_, fun j k l1 l2 b p r h1 h2 => ?_, by simp [o.ln]⟩⟩
  · by_cases hs : Same G.F0 G.H0
    · exact o.go.freeze hs k4 h0
    · refine ⟨fun b x e => s _ _ (o.go.fs _ _ e), fun b x e => ?_, o.go.hs, fun b x e f => ?_, o.go.th⟩
      · by_cases hb : b = a
        · subst hb; rw [upd_same] at e; rw [k4]; exact e
        · rw [upd_ne hb] at e; exact o.go.le _ _ e
      · rw [upd_ne (ne_of_none e h0)]; exact o.go.fr _ _ e f
  · by_cases hij : i = j
    · subst hij
      have hl : i < Γ.length := by
        have := (List.getElem?_eq_some_iff.mp he).1
        simpa using this
      rw [List.getElem?_set_self hl] at he
      cases he
      trivial
    · rw [List.getElem?_set_ne hij] at he
      have z := o.en j e he
      cases e with
      | un => trivial
      | fz r =>
        obtain ⟨v, e1, e2⟩ := z
        exact ⟨v, e1, r.mono s e2⟩
      | ow l b r =>
        obtain ⟨z1, z2, z3, y, z4, z5⟩ := z
        refine ⟨z1, ?_, z3, y, z4, r.mono s z5⟩
        rw [upd_ne]
        · exact z2
        · rintro rfl
          exact hij (o.ap i j _ _ _ _ _ hi he)
      | lk f h r =>
        obtain ⟨⟨v, e1, e2⟩, z⟩ := z
        exact ⟨⟨v, e1, r.mono s e2⟩, z⟩
  · have key : ∀ {j : Nat} {l : Bool} {p : Po}, (Γ.set i .un)[j]? = some (.ow l b p) → Γ[j]? = some (.ow l b p) := fun {j l p} e => by
      by_cases hij : i = j
      · subst hij
        have hl : i < Γ.length := by
          have := (List.getElem?_eq_some_iff.mp e).1
          simpa using this
        rw [List.getElem?_set_self hl] at e
        cases e
      · rw [List.getElem?_set_ne hij] at e
        exact e
    exact o.ap j k _ _ b p r (key h1) (key h2)
end

theorem SqT.ofR {K : PySem.W.Frag} {H : Hp} {a : Addr} {xs : List V} (h : Rd H a (.tup xs)) : SqT K H a xs := .inl h
theorem Rd.mono {H H' : Hp} {a : Addr} {u : HO} (h : Rd H a u) (s : Same H H') : Rd H' a u := by
  rcases h with h | ⟨o, h⟩
  · exact .inl (s _ _ h)
  · exact .inr ⟨o, s _ _ h⟩
def Dt : Nat → Hp → V → PyData → Prop
  | 0, _, _, _ => False
  | n + 1, H, v, d => match d with
    | .none => v = .non
    | .bool b => v = .bl b
    | .int i => v = .int i
    | .str s => v = .str s
    | .list ds => ∃ (a : Addr) (xs : List V), v = .ref a ∧ H a = some (.lst xs) ∧ xs.length = ds.length ∧ ds.length ≤ 1000 ∧ ∀ (i : Nat) (x : V) (e : PyData), xs[i]? = some x → ds[i]? = some e → Dt n H x e
    | .tuple ds => ∃ (a : Addr) (xs : List V), v = .ref a ∧ Rd H a (.tup xs) ∧ xs.length = ds.length ∧ ds.length ≤ 1000 ∧ ∀ (i : Nat) (x : V) (e : PyData), xs[i]? = some x → ds[i]? = some e → Dt n H x e
    | .dict _ => False
section
variable {H H' : Hp}
theorem Dt.mono (s : Same H H') : ∀ {n : Nat} {v : V} {d : PyData}, Dt n H v d → Dt n H' v d
  | 0, _, _, h => h.elim
  | n + 1, v, d, h => by
    cases d with
    | none => exact h
    | bool b => exact h
    | int i => exact h
    | str s => exact h
    | dict kv => exact h
    | list ds =>
      obtain ⟨a, xs, e, ha, hl, hz, r⟩ := h
      exact ⟨a, xs, e, s _ _ ha, hl, hz, fun i x e h1 h2 => Dt.mono s (r i x e h1 h2)⟩
    | tuple ds =>
      obtain ⟨a, xs, e, ha, hl, hz, r⟩ := h
      exact ⟨a, xs, e, Rd.mono ha s, hl, hz, fun i x e h1 h2 => Dt.mono s (r i x e h1 h2)⟩
theorem Dt.up : ∀ {n : Nat} {v : V} {d : PyData}, Dt n H v d → Dt (n + 1) H v d
  | 0, _, _, h => h.elim
  | n + 1, v, d, h => by
    cases d with
    | none => exact h
    | bool b => exact h
    | int i => exact h
    | str s => exact h
    | dict kv => exact h
    | list ds =>
      obtain ⟨a, xs, e, ha, hl, hz, r⟩ := h
      exact ⟨a, xs, e, ha, hl, hz, fun i x e h1 h2 => Dt.up (r i x e h1 h2)⟩
    | tuple ds =>
      obtain ⟨a, xs, e, ha, hl, hz, r⟩ := h
      exact ⟨a, xs, e, ha, hl, hz, fun i x e h1 h2 => Dt.up (r i x e h1 h2)⟩
theorem Dt.le {n m : Nat} (hm : n ≤ m) {v : V} {d : PyData} (h : Dt n H v d) : Dt m H v d := by
  obtain ⟨k, rfl⟩ := Nat.exists_eq_add_of_le hm
  clear hm
  induction k with
  | zero => exact h
  | succ k ih => exact ih.up
theorem DpAll.ofI {K : PySem.W.Frag} : ∀ {xs : List V} {ds : List PyData}, xs.length = ds.length → (∀ (i : Nat) (x : V) (e : PyData), xs[i]? = some x → ds[i]? = some e → Dp K H x e) → DpAll K H xs ds
  | [], [], _, _ => .nil
  | [], _ :: _, h, _ => by simp at h
  | _ :: _, [], h, _ => by simp at h
  | x :: xs, d :: ds, h, r => .cons (r 0 x d rfl rfl) (DpAll.ofI (by simpa using h) fun i y e h1 h2 => r (i + 1) y e (by simpa using h1) (by simpa using h2))
theorem Dt.dp {K : PySem.W.Frag} : ∀ {n : Nat} {v : V} {d : PyData}, Dt n H v d → Dp K H v d
  | 0, _, _, h => h.elim
  | n + 1, v, d, h => by
    cases d with
    | none => obtain rfl : v = _ := h; exact .non
    | bool b => obtain rfl : v = _ := h; exact .bl b
    | int i => obtain rfl : v = _ := h; exact .int i
    | str s => obtain rfl : v = _ := h; exact .str s
    | dict kv => exact h.elim
    | list ds =>
      obtain ⟨a, xs, rfl, ha, hl, hz, r⟩ := h
      exact .lst (SqL.of ha) (DpAll.ofI hl fun i x e h1 h2 => (r i x e h1 h2).dp)
    | tuple ds =>
      obtain ⟨a, xs, rfl, ha, hl, hz, r⟩ := h
      exact .tup (.inl ha) (DpAll.ofI hl fun i x e h1 h2 => (r i x e h1 h2).dp)
end
def rD (d : PyData) : Pr := ⟨fun v F => Dt 8 F v d, fun s h => h.mono s⟩
end RF
namespace RF
open PySem PySem.Spec PyProof.Rows L2 KO SX

@[irreducible] def tE (X : Cx) (e : Expr) : TE := fun σ H Q => ∀ (pins : List (Addr × Obj)) (s : Shared), Inv X pins σ H s → wpAny (model X.prog X.w) X.A (eval e X.env) (EP X pins σ Q) X.xe s
@[irreducible] def tT (X : Cx) (e : Expr) : TT := fun σ H Q => ∀ (pins : List (Addr × Obj)) (s : Shared), Inv X pins σ H s → wpAny (model X.prog X.w) X.A (isTrue e X.env (eval e X.env)) (TP X pins σ Q) X.xe s
@[irreducible] def tW (X : Cx) (e : Expr) : TT := fun σ H Q => ∀ (whole : Sem Value) (pins : List (Addr × Obj)) (s : Shared), Inv X pins σ H s → wpAny (model X.prog X.w) X.A (isTrue e X.env whole) (TP X pins σ Q) X.xe s
@[irreducible] def tAs (X : Cx) (es : List Expr) : TA := fun σ H Q => ∀ (pos : Pos) (pins : List (Addr × Obj)) (s : Shared), Inv X pins σ H s → wpAny (model X.prog X.w) X.A (spliced (backTo pos (starEach es X.env))) (AP X pins σ Q) X.xe s
@[irreducible] def tS (X : Cx) (st : Stmt) : TS := fun D σ H => ∀ (pins : List (Addr × Obj)) (s : Shared), Inv X pins σ H s → wpAny (model X.prog X.w) X.A (exec st X.env) (SP X pins D) X.xe s
@[irreducible] def tSs (X : Cx) (l : List Stmt) : TS := fun D σ H => ∀ (pins : List (Addr × Obj)) (s : Shared), Inv X pins σ H s → wpAny (model X.prog X.w) X.A (execs l X.env) (SP X pins D) X.xe s
section
variable {X : Cx} {e : Expr} {es : List Expr} {st : Stmt} {l : List Stmt}
theorem tE_i {σ : L2.St} {H : Hp} {Q : VK} (h : ∀ (pins : List (Addr × Obj)) (s : Shared), Inv X pins σ H s → wpAny (model X.prog X.w) X.A (eval e X.env) (EP X pins σ Q) X.xe s) : tE X e σ H Q := by unfold tE; exact h
theorem tT_i {σ : L2.St} {H : Hp} {Q : Bool → Hp → Prop} (h : ∀ (pins : List (Addr × Obj)) (s : Shared), Inv X pins σ H s → wpAny (model X.prog X.w) X.A (isTrue e X.env (eval e X.env)) (TP X pins σ Q) X.xe s) : tT X e σ H Q := by unfold tT; exact h
theorem tW_i {σ : L2.St} {H : Hp} {Q : Bool → Hp → Prop} (h : ∀ (whole : Sem Value) (pins : List (Addr × Obj)) (s : Shared), Inv X pins σ H s → wpAny (model X.prog X.w) X.A (isTrue e X.env whole) (TP X pins σ Q) X.xe s) : tW X e σ H Q := by unfold tW; exact h
theorem tAs_i {σ : L2.St} {H : Hp} {Q : List V → Hp → Prop} (h : ∀ (pos : Pos) (pins : List (Addr × Obj)) (s : Shared), Inv X pins σ H s → wpAny (model X.prog X.w) X.A (spliced (backTo pos (starEach es X.env))) (AP X pins σ Q) X.xe s) : tAs X es σ H Q := by unfold tAs; exact h
theorem tSs_i {D : Ends} {σ : L2.St} {H : Hp} (h : ∀ (pins : List (Addr × Obj)) (s : Shared), Inv X pins σ H s → wpAny (model X.prog X.w) X.A (execs l X.env) (SP X pins D) X.xe s) : tSs X l D σ H := by unfold tSs; exact h
theorem peE : PE X e (tE X e) := ⟨fun pins s σ H Q I h => by unfold tE at h; exact h pins s I⟩
theorem ptT : L2.PT X e (tT X e) := ⟨fun pins s σ H Q I h => by unfold tT at h; exact h pins s I⟩
theorem pwW : PW X e (tW X e) := ⟨fun wh pins s σ H Q I h => by unfold tW at h; exact h wh pins s I⟩
theorem paA : PA X es (tAs X es) := ⟨fun pos pins s σ H Q I h => by unfold tAs at h; exact h pos pins s I⟩
theorem pssS : PSs X l (tSs X l) := ⟨fun pins s σ H D I h => by unfold tSs at h; exact h pins s I⟩
end

def del (F : Hp) (a : Addr) : Hp := fun b => if b = a then none else F b
theorem del_ne {F : Hp} {a b : Addr} (h : b ≠ a) : del F a b = F b := if_neg h
theorem del_same {F : Hp} {a : Addr} : del F a a = none := if_pos rfl
theorem del_ok {F : Hp} {a b : Addr} {x : HO} (h : F b = some x) (n : b ≠ a) : del F a b = some x := (del_ne n).trans h
inductive RK (γ : Type) where
  | fz (ρ : γ → Pr)
  | ow (ρ : γ → Po)
  | nw (ρ : γ → Pr)
  | n2 (ρ ρ' : γ → Pr)
  | on (ps : γ → List Pr)
def nwp (h : Hp) (p : Pr) : Pr := ⟨fun v F => p.r v F ∧ ∀ a vs, h a ≠ none → F a = some (.lst vs) → p.r v (del F a), fun {v F F'} s q => ⟨p.mono s q.1, fun a vs n e => by
  cases ea : F a with
  | none => exact p.mono (fun b o e2 => del_ok (s _ _ e2) (by rintro rfl; rw [ea] at e2; cases e2)) q.1
  | some o =>
    have := s _ _ ea
    rw [e] at this
    obtain rfl := Option.some.inj this
    refine p.mono (fun b o e2 => ?_) (q.2 a vs n ea)
    unfold del at e2
    split at e2
    · cases e2
    · rename_i hb; exact del_ok (s _ _ e2) hb⟩⟩
def RK.ok {γ : Type} (k : RK γ) (x : γ) (v : V) (H F' H' : Hp) : Prop :=
  match k with
  | .fz ρ => (ρ x).r v F'
  | .ow ρ => ∃ a u, v = .ref a ∧ H a = none ∧ F' a = none ∧ H' a = some u ∧ (ρ x).r u F'
  | .nw ρ => (nwp H (ρ x)).r v F'
  | .n2 ρ ρ' => (ρ x).r v F' ∧ (nwp H (ρ' x)).r v F'
  | .on ps => ∃ (a : Addr) (vs : List V), v = .ref a ∧ H a = none ∧ F' a = none ∧ H' a = some (.lst vs) ∧ vs.length = (ps x).length ∧ ∀ (i : Nat) (p : Pr) (w : V), (ps x)[i]? = some p → (vs : List V)[i]? = some w → (nwp H p).r w F'
def ErrOk (_K : PySem.W.Frag) (mg : Str → Option Value) (ex : Ex) (cls : Value) (d : Option Addr) (F : Hp) : Prop :=
  ∃ C, mg ex.cls = some (.ref C) ∧ cls = .ref C ∧ ((d = none ∧ ex.fs = []) ∨ ∃ dd fs, d = some dd ∧ F dd = some (.xd fs) ∧ ∀ f y, ex.fs.lookup f = some y → ∃ v, fs.lookup f = some v ∧ Dt 8 F v y)
section
variable {α β γ : Type} (X : Cx) (W : WX) (G : Gf) (Γ : Ctx) (σ : L2.St) (F H : Hp)
def NQ (k : RK γ) (Q : VK) (x : γ) : Prop := ∀ v F' H', Ok G Γ σ F' H' → Go (owns Γ) F H F' H' → k.ok x v H F' H' → Q v H'
def EQ (ex : Ex) : Prop := ∀ cls d F' H', Ok G Γ σ F' H' → Go (owns Γ) F H F' H' → ErrOk X.K X.mg ex cls d F' → W cls d σ H'
end
section
variable {α β γ : Type} (X : Cx) (W : WX) (Γ : Ctx)
def RTE (t : TE) (m : Mo γ) (k : RK γ) : Prop := ∀ G σ F H Q, Ok G Γ σ F H → m.run (NQ G Γ σ F H k Q) (EQ X W G Γ σ F H) → t σ H Q
def RE (e : Expr) (m : Mo γ) (k : RK γ) : Prop := RTE X W Γ (tE X e) m k
def RTT (t : TT) (m : Mo Bool) : Prop := ∀ G σ F H Q, Ok G Γ σ F H → m.run (fun b => ∀ F' H', Ok G Γ σ F' H' → Go (owns Γ) F H F' H' → Q b H') (EQ X W G Γ σ F H) → t σ H Q
def ArEn (F H : Hp) : En → V → Prop
  | .un, _ => True
  | .fz p, v => p.r v F
  | .ow _ a q, v => v = .ref a ∧ F a = none ∧ ∃ u, H a = some u ∧ q.r u F
  | .lk _ _ _, _ => False
def ArgOk (F H : Hp) (p : Ctx) (vs : List V) : Prop := vs.length = p.length ∧ (∀ (i : Nat) (e : En) (v : V), p[i]? = some e → vs[i]? = some v → ArEn F H e v) ∧ ∀ (j : Nat) (l : Bool) (a : Addr) (q : Po), p[j]? = some (.ow l a q) → ∃ (i : Nat) (l' : Bool), Γ[i]? = some (En.ow l' a q)
def RTA (t : TA) (m : Mo β) (p : β → Ctx) : Prop := ∀ G σ F H Q, Ok G Γ σ F H → m.run (fun x => ∀ vs F' H', Ok G Γ σ F' H' → Go (owns Γ) F H F' H' → ArgOk Γ F' H' (p x) vs → Q vs H') (EQ X W G Γ σ F H) → t σ H Q
def ROp (r : R2) (p q : Pr) (m : Mo γ) (k : RK γ) : Prop := ∀ G σ F H Q x y, Ok G Γ σ F H → p.r x F → q.r y F → m.run (NQ G Γ σ F H k Q) (EQ X W G Γ σ F H) → r x y H Q
def RUn (r : V → Hp → VK → Prop) (p : Pr) (m : Mo γ) (k : RK γ) : Prop := ∀ G σ F H Q x, Ok G Γ σ F H → p.r x F → m.run (NQ G Γ σ F H k Q) (EQ X W G Γ σ F H) → r x H Q
end
section
variable {α β γ : Type} {X : Cx} {W : WX} {G : Gf} {Γ : Ctx} {σ : L2.St} {F F1 F2 H H1 H2 : Hp} {k : RK γ} {Q : VK} {e a b : Expr} {t ta tb : TE} {m : Mo γ}
theorem RK.ok.back {k : RK γ} {x : γ} {v : V} (h : k.ok x v H1 F2 H2) (g : ∀ b o, H b = some o → ∃ o', H1 b = some o') : k.ok x v H F2 H2 := by
  cases k with
  | fz ρ => exact h
  | ow ρ =>
    obtain ⟨a, u, e, h1, h2⟩ := h
    refine ⟨a, u, e, ?_, h2⟩
    cases q : H a with
    | none => rfl
    | some o => obtain ⟨o', e'⟩ := g _ _ q; rw [h1] at e'; cases e'
  | nw ρ => exact ⟨h.1, fun a vs n e => h.2 a vs (fun z => n (none_th g z)) e⟩
  | n2 ρ ρ' => exact ⟨h.1, h.2.1, fun a vs n e => h.2.2 a vs (fun z => n (none_th g z)) e⟩
  | on ps =>
    obtain ⟨a, vs, e, h1, h2, h3, h4, h5⟩ := h
    exact ⟨a, vs, e, none_th g h1, h2, h3, h4, fun i p w e1 e2 => ⟨(h5 i p w e1 e2).1, fun a vs n e => (h5 i p w e1 e2).2 a vs (fun z => n (none_th g z)) e⟩⟩
theorem owns_tr : ∀ x ∈ owns Γ, x ∈ owns Γ ∨ H x = none := fun _ h => .inl h
theorem NQ.step {x : γ} (g : Go (owns Γ) F H F1 H1) (q : NQ G Γ σ F H k Q x) : NQ G Γ σ F1 H1 k Q x := fun v F' H' o g' z => q v F' H' o (g.trans g' owns_tr) (z.back g.th)
theorem EQ.step {ex : Ex} (g : Go (owns Γ) F H F1 H1) (q : EQ X W G Γ σ F H ex) : EQ X W G Γ σ F1 H1 ex := fun c d F' H' o g' z => q c d F' H' o (g.trans g' owns_tr) z
theorem NQ.here {ρ : γ → Pr} {x : γ} {v : V} (q : NQ G Γ σ F H (.fz ρ) Q x) (o : Ok G Γ σ F H) (h : (ρ x).r v F) : Q v H := q v F H o (Go.refl o.le) h
theorem run_step {m : Mo γ} (g : Go (owns Γ) F H F1 H1) (q : m.run (NQ G Γ σ F H k Q) (EQ X W G Γ σ F H)) : m.run (NQ G Γ σ F1 H1 k Q) (EQ X W G Γ σ F1 H1) := m.mono (fun _ => NQ.step g) (fun _ => EQ.step g) q
theorem re_of (h : PE X e t) (r : RTE X W Γ t m k) : RE X W Γ e m k := fun G σ F H Q o q => tE_i fun pins s I => h.run pins s σ H Q I (r G σ F H Q o q)
theorem Ok.frzNew {a : Addr} {u : HO} (o0 : Ok G Γ σ F H) (o : Ok G Γ σ F1 H1) (g : Go (owns Γ) F H F1 H1) (h0 : H a = none) (hF : F1 a = none) (hH : H1 a = some u) : Ok G Γ σ (upd F1 a u) H1 ∧ Go (owns Γ) F H (upd F1 a u) H1 := by
  have s : Same F1 (upd F1 a u) := same_upd hF
  have g0 : G.H0 a = none := by
    cases q : G.H0 a with
    | none => rfl
    | some y =>
      obtain ⟨o', e'⟩ := o0.go.th _ _ q
      rw [h0] at e'; cases e'
  refine ⟨⟨⟨fun b x e => s _ _ (o.go.fs _ _ e), fun b x e => ?_, o.go.hs, fun b x e f => ?_, o.go.th⟩, fun i e he => ?_, o.ap, o.ln⟩, g.freeze o0.le hH h0⟩
  · by_cases hb : b = a
    · subst hb; rw [upd_same] at e; rw [hH]; exact e
    · rw [upd_ne hb] at e; exact o.go.le _ _ e
  · rw [upd_ne (ne_of_none e g0)]; exact o.go.fr _ _ e f
  · have z := o.en i e he
    cases e with
    | un => trivial
    | fz r =>
      obtain ⟨v, e1, e2⟩ := z
      exact ⟨v, e1, r.mono s e2⟩
    | ow l b r =>
      obtain ⟨z1, z2, z3, y, z4, z5⟩ := z
      refine ⟨z1, ?_, z3, y, z4, r.mono s z5⟩
      rw [upd_ne]
      · exact z2
      · rintro rfl
        obtain ⟨w, hw⟩ := o0.ownH (mem_owns he)
        rw [h0] at hw; cases hw
    | lk f h r =>
      obtain ⟨⟨v, e1, e2⟩, z⟩ := z
      exact ⟨⟨v, e1, r.mono s e2⟩, z⟩
theorem rte_frz {ρ : γ → Po} {ρ' : γ → Pr} (h : RTE X W Γ t m (.ow ρ)) (hc : ∀ x a u F, F a = some u → (ρ x).r u F → (ρ' x).r (.ref a) F) : RTE X W Γ t m (.fz ρ') := fun G σ F H Q o q => by
  refine h G σ F H Q o (m.mono (fun x hx v F' H' o' g' z => ?_) (fun _ z => z) q)
  obtain ⟨a, u, rfl, h1, h2, h3, h4⟩ := z
  obtain ⟨o2, g2⟩ := o.frzNew o' g' h1 h2 h3
  exact hx _ _ _ o2 g2 (hc x a u _ upd_same ((ρ x).mono (same_upd h2) h4))
theorem re_frz {ρ : γ → Po} {ρ' : γ → Pr} (h : RE X W Γ e m (.ow ρ)) (hc : ∀ x a u F, F a = some u → (ρ x).r u F → (ρ' x).r (.ref a) F) : RE X W Γ e m (.fz ρ') := rte_frz h hc
theorem re_map {ρ : γ → Pr} {ρ' : β → Pr} (f : γ → β) (h : RE X W Γ e m (.fz ρ)) (hc : ∀ x v F, (ρ x).r v F → (ρ' (f x)).r v F) : RE X W Γ e (f <$> m) (.fz ρ') := fun G σ F H Q o q =>
  h G σ F H Q o (m.mono (fun x hx v F' H' o' g' z => hx v F' H' o' g' (hc x v F' z)) (fun _ z => z) q)
theorem re_as {ρ ρ' : γ → Pr} (h : RE X W Γ e m (.fz ρ)) (hc : ∀ x v F, (ρ x).r v F → (ρ' x).r v F) : RE X W Γ e m (.fz ρ') := fun G σ F H Q o q =>
  h G σ F H Q o (m.mono (fun x hx v F' H' o' g' z => hx v F' H' o' g' (hc x v F' z)) (fun _ z => z) q)

section
variable {ma : Mo α} {mb : Mo β} {mr : α → β → Mo γ} {ρa : α → Pr} {ρb : β → Pr} {r r' : R2}
theorem rte_two {ta tb : TE} (ha : RTE X W Γ ta ma (.fz ρa)) (hb : RTE X W Γ tb mb (.fz ρb)) (hr : ∀ x y, ROp X W Γ r (ρa x) (ρb y) (mr x y) k) : RTE X W Γ (tOp r ta tb) (ma >>= fun x => mb >>= fun y => mr x y) k := fun G σ F H Q o q => by
  refine ha G σ F H _ o (ma.mono (fun x hx v F' H' o' g' z => ?_) (fun _ z => z) q)
  refine hb G σ F' H' _ o' (mb.mono (fun y hy u F2 H2 o2 g2 z2 => ?_) (fun _ => EQ.step g') hx)
  have g3 := g'.trans g2 owns_tr
  exact hr x y G σ F2 H2 Q v u o2 ((ρa x).mono g2.fs z) z2 (run_step g3 hy)
theorem rte_one {ta : TE} {mr : α → Mo γ} {r : V → Hp → VK → Prop} (ha : RTE X W Γ ta ma (.fz ρa)) (hr : ∀ x, RUn X W Γ r (ρa x) (mr x) k) : RTE X W Γ (tUn r ta) (ma >>= mr) k := fun G σ F H Q o q => by
  refine ha G σ F H _ o (ma.mono (fun x hx v F' H' o' g' z => ?_) (fun _ z => z) q)
  exact hr x G σ F' H' Q v o' z (run_step g' hx)
theorem re_bin {op : Operator} {pos : Pos} (ho : OpR X (binaryOp op) r) (hr : ∀ x y, ROp X W Γ r (ρa x) (ρb y) (mr x y) k) (ha : RE X W Γ a ma (.fz ρa)) (hb : RE X W Γ b mb (.fz ρb)) : RE X W Γ (.BinOp a op b pos) (ma >>= fun x => mb >>= fun y => mr x y) k :=
  re_of (pe_op ho peE peE) (rte_two ha hb hr)
theorem re_ix {pos : Pos} (hi : IxR X r) (hr : ∀ x y, ROp X W Γ r (ρa x) (ρb y) (mr x y) k) (ha : RE X W Γ a ma (.fz ρa)) (hb : RE X W Γ b mb (.fz ρb)) (hs : PlainIx b) : RE X W Γ (.Subscript a b pos) (ma >>= fun x => mb >>= fun y => mr x y) k :=
  re_of (pe_ix hi peE peE hs) (rte_two ha hb hr)
theorem re_un {op : UnaryOp} {pos : Pos} {mr : α → Mo γ} {r : V → Hp → VK → Prop} (ho : UnR X (unaryOp op) r) (hr : ∀ x, RUn X W Γ r (ρa x) (mr x) k) (ha : RE X W Γ a ma (.fz ρa)) : RE X W Γ (.UnaryOp op a pos) (ma >>= mr) k :=
  re_of (pe_un ho peE) (rte_one ha hr)
end
section
variable {es : List Expr} {ma : Mo α} {mb : Mo β} {ρ : α → Pr} {p : β → Ctx}
def RA (X : Cx) (W : WX) (Γ : Ctx) (es : List Expr) (m : Mo β) (p : β → Ctx) : Prop := RTA X W Γ (tAs X es) m p
theorem ra_of {ta : TA} (h : PA X es ta) (r : RTA X W Γ ta mb p) : RA X W Γ es mb p := fun G σ F H Q o q => tAs_i fun pos pins s I => h.run pos pins s σ H Q I (r G σ F H Q o q)
theorem ra_nil : RA X W Γ [] (pure ()) (fun _ => []) := ra_of pa_nil fun G σ F H Q o q => q [] F H o (Go.refl o.le) ⟨rfl, fun i e v h => by simp at h, fun i l a q h => by simp at h⟩
theorem ra_cons (ha : RE X W Γ e ma (.fz ρ)) (hb : RA X W Γ es mb p) (hc : starEach (e :: es) X.env = (false, eval e X.env) :: starEach es X.env := by rfl) :
    RA X W Γ (e :: es) (ma >>= fun x => mb >>= fun y => pure (x, y)) (fun z => .fz (ρ z.1) :: p z.2) := by
  refine ra_of (pa_cons (hs := hc) peE paA) fun G σ F H Q o q => ?_
  refine ha G σ F H _ o (ma.mono (fun x hx v F' H' o' g' z => ?_) (fun _ z => z) q)
  refine hb G σ F' H' _ o' (mb.mono (fun y hy vs F2 H2 o2 g2 z2 => ?_) (fun _ => EQ.step g') hx)
  refine hy (v :: vs) F2 H2 o2 (g'.trans g2 owns_tr) ⟨by simp [z2.1], fun i en u h1 h2 => ?_, fun i l a q h => ?_⟩
  · cases i with
    | zero =>
      simp at h1 h2
      subst h1 h2
      exact (ρ x).mono g2.fs z
    | succ i => exact z2.2.1 i en u (by simpa using h1) (by simpa using h2)
  · cases i with
    | zero => simp at h
    | succ i => exact z2.2.2 i l a q (by simpa using h)
theorem ra_own {i : Nat} {l : Bool} {a : Addr} {qo : Po} {x : Str} {pos : Pos} (hi : Γ[i]? = some (.ow l a qo)) (hp : PE X (.Name x pos) (tVar i)) (hb : RA X W Γ es mb p) (hc : starEach (.Name x pos :: es) X.env = (false, eval (.Name x pos) X.env) :: starEach es X.env := by rfl) :
    RA X W Γ (.Name x pos :: es) mb (fun z => .ow false a qo :: p z) := by
  refine ra_of (pa_cons (hs := hc) hp paA) fun G σ F H Q o q => ?_
  refine ⟨.ref a, (o.en i _ hi).1, ?_⟩
  refine hb G σ F H _ o (mb.mono (fun y hy vs F2 H2 o2 g2 z2 => ?_) (fun _ z => z) q)
  refine hy (.ref a :: vs) F2 H2 o2 g2 ⟨by simp [z2.1], fun j en u h1 h2 => ?_, fun j l a q h => ?_⟩
  · cases j with
    | zero =>
      simp at h1 h2
      subst h1 h2
      have z := o2.en i _ hi
      exact ⟨rfl, z.2.1, z.2.2.2⟩
    | succ j => exact z2.2.1 j en u (by simpa using h1) (by simpa using h2)
  · cases j with
    | zero =>
      simp at h
      obtain ⟨h1, h2, h3⟩ := h
      subst h1 h2 h3
      exact ⟨i, _, hi⟩
    | succ j => exact z2.2.2 j l a q (by simpa using h)
end

def rI (i : Int) : Pr := ⟨fun v _ => v = .int i, fun _ h => h⟩
def rB (b : Bool) : Pr := ⟨fun v _ => v = .bl b, fun _ h => h⟩
def rS (s : Str) : Pr := ⟨fun v _ => v = .str s, fun _ h => h⟩
def rN (_ : Unit) : Pr := ⟨fun v _ => v = .non, fun _ h => h⟩
def rO (ρ : α → Pr) : Option α → Pr
  | none => ⟨fun v _ => v = .non, fun _ h => h⟩
  | some x => ρ x
theorem re_var {ρ : α → Pr} {x : α} (i : Nat) {n : Str} {pos : Pos} (hi : Γ[i]? = some (.fz (ρ x))) (hp : PE X (.Name n pos) (tVar i)) : RE X W Γ (.Name n pos) (pure x) (.fz ρ) :=
  re_of hp fun G σ F H Q o q => by
    obtain ⟨v, h1, h2⟩ := o.en i _ hi
    exact ⟨v, h1, NQ.here (ρ := ρ) q o h2⟩
theorem re_con {ρ : α → Pr} {v : V} (x : α) (hp : PE X e (tC v)) (h : ∀ F, (ρ x).r v F) : RE X W Γ e (pure x) (.fz ρ) := re_of hp fun G σ F H Q o q => NQ.here (ρ := ρ) q o (h F)
theorem re_int {i : Int} {j pos} : RE X W Γ (.Constant (.int i) j pos) (pure i) (.fz rI) := re_con i pe_int fun _ => rfl
theorem re_bl {b : Bool} {j pos} : RE X W Γ (.Constant (.bool b) j pos) (pure b) (.fz rB) := re_con b pe_bl fun _ => rfl
theorem re_str {s : Str} {j pos} : RE X W Γ (.Constant (.str s) j pos) (pure s) (.fz rS) := re_con s pe_str fun _ => rfl
theorem re_non {j pos} : RE X W Γ (.Constant .none j pos) (pure ()) (.fz rN) := re_con () pe_non fun _ => rfl
theorem rop_i0 {g : Int → Int → V} {ρ : γ → Pr} {f : Int → Int → γ} (h : ∀ i j F, (ρ (f i j)).r (g i j) F) (i j : Int) : ROp X W Γ (rI0 g) (rI i) (rI j) (pure (f i j)) (.fz ρ) := by
  intro G σ F H Q x y o hx hy q
  obtain rfl : x = .int i := hx
  obtain rfl : y = .int j := hy
  exact ⟨i, j, rfl, rfl, NQ.here (ρ := ρ) q o (h i j F)⟩
def Mo.rq (p : Prop) (a : α) : Mo α := ⟨fun Q _ => p ∧ Q a, fun h _ q => ⟨q.1, h _ q.2⟩⟩
@[simp] theorem Mo.run_rq {p : Prop} {a : α} {Q : α → Prop} {E : Ex → Prop} : (Mo.rq p a).run Q E = (p ∧ Q a) := rfl
theorem rop_i {C : Int → Int → Prop} {g : Int → Int → V} {ρ : γ → Pr} {f : Int → Int → γ} (h : ∀ i j F, (ρ (f i j)).r (g i j) F) (i j : Int) : ROp X W Γ (L2.rI C g) (rI i) (rI j) (Mo.rq (C i j) (f i j)) (.fz ρ) := by
  intro G σ F H Q x y o hx hy q
  obtain rfl : x = .int i := hx
  obtain rfl : y = .int j := hy
  exact ⟨i, j, rfl, rfl, q.1, NQ.here (ρ := ρ) q.2 o (h i j F)⟩
section
variable {ma mb : Mo Int} {pos : Pos}
theorem re_add (ha : RE X W Γ a ma (.fz rI)) (hb : RE X W Γ b mb (.fz rI)) : RE X W Γ (.BinOp a .Add b pos) (ma >>= fun i => mb >>= fun j => pure (i + j)) (.fz rI) := re_bin op_add (rop_i0 fun _ _ _ => rfl) ha hb
theorem re_sub (ha : RE X W Γ a ma (.fz rI)) (hb : RE X W Γ b mb (.fz rI)) : RE X W Γ (.BinOp a .Sub b pos) (ma >>= fun i => mb >>= fun j => pure (i - j)) (.fz rI) := re_bin op_sub (rop_i0 fun _ _ _ => rfl) ha hb
theorem re_mul (ha : RE X W Γ a ma (.fz rI)) (hb : RE X W Γ b mb (.fz rI)) : RE X W Γ (.BinOp a .Mult b pos) (ma >>= fun i => mb >>= fun j => Mo.rq (CMul i j) (i * j)) (.fz rI) := re_bin op_mul (rop_i fun _ _ _ => rfl) ha hb
theorem re_mod (ha : RE X W Γ a ma (.fz rI)) (hb : RE X W Γ b mb (.fz rI)) : RE X W Γ (.BinOp a .Mod b pos) (ma >>= fun i => mb >>= fun j => Mo.rq (0 < j) (i % j)) (.fz rI) := re_bin op_mod (rop_i fun _ _ _ => rfl) ha hb
theorem re_div (ha : RE X W Γ a ma (.fz rI)) (hb : RE X W Γ b mb (.fz rI)) : RE X W Γ (.BinOp a .FloorDiv b pos) (ma >>= fun i => mb >>= fun j => Mo.rq (CDiv i j) (i / j)) (.fz rI) := re_bin op_fdiv (rop_i fun _ _ _ => rfl) ha hb
theorem re_pow (ha : RE X W Γ a ma (.fz rI)) (hb : RE X W Γ b mb (.fz rI)) : RE X W Γ (.BinOp a .Pow b pos) (ma >>= fun i => mb >>= fun j => Mo.rq (CPow i j) (i ^ j.toNat)) (.fz rI) := re_bin op_pow (rop_i fun _ _ _ => rfl) ha hb
theorem re_neg (ha : RE X W Γ a ma (.fz rI)) : RE X W Γ (.UnaryOp .USub a pos) (ma >>= fun i => pure (-i)) (.fz rI) := re_un (r := rU fun i => .int (-i)) un_neg (fun i G σ F H Q x o hx q => ⟨i, hx, NQ.here (ρ := rI) q o rfl⟩) ha
end
class Sc (ρ : α → Pr) where
  v : α → V
  is : ∀ {x : α} {u : V} {F : Hp}, (ρ x).r u F → u = v x
instance scI : Sc rI := ⟨V.int, fun h => h⟩
instance scB : Sc rB := ⟨V.bl, fun h => h⟩
instance scS : Sc rS := ⟨V.str, fun h => h⟩
instance scN : Sc rN := ⟨fun _ => .non, fun h => h⟩
instance scO {ρ : α → Pr} [s : Sc ρ] : Sc (rO ρ) := ⟨fun o => match o with | none => .non | some x => s.v x, fun {x u F} h => by
  cases x with
  | none => exact h
  | some x => exact s.is h⟩
section
variable {ma : Mo α} {mb : Mo β} {pos : Pos} {ρa : α → Pr} {ρb : β → Pr} [sa : Sc ρa] [sb : Sc ρb]
end
section
variable {ma mb : Mo Int} {pos : Pos}
end
section
variable {ma : Mo (Option α)} {pos : Pos} {ρ : α → Pr} {j : Nat} {p2 : Pos}
end
section
variable {ma mb : Mo Bool} {pos : Pos} {rest : List Expr}
theorem re_not (ha : RE X W Γ a ma (.fz rB)) : RE X W Γ (.UnaryOp .Not a pos) (ma >>= fun c => pure (!c)) (.fz rB) := by
  refine re_of (pe_not peE) fun G σ F H Q o q => ?_
  refine ha G σ F H _ o (ma.mono (fun x hx v F' H' o' g' z => ?_) (fun _ z => z) q)
  exact ⟨x, z, hx _ F' H' o' g' rfl⟩
theorem re_one {op} {ρ : γ → Pr} {m : Mo γ} (ha : RE X W Γ a m (.fz ρ)) : RE X W Γ (.BoolOp op [a] pos) m (.fz ρ) := re_of (pe_one peE) fun G σ F H Q o q => ha G σ F H Q o q
theorem re_and (ha : RE X W Γ a ma (.fz rB)) (hb : RE X W Γ (.BoolOp .And (b :: rest) pos) mb (.fz rB)) : RE X W Γ (.BoolOp .And (a :: b :: rest) pos) (ma >>= fun c => if c then mb else pure false) (.fz rB) := by
  refine re_of (pe_and peE peE) fun G σ F H Q o q => ?_
  refine ha G σ F H _ o (ma.mono (fun x hx v F' H' o' g' z => ?_) (fun _ z => z) q)
  refine ⟨x, z, ?_⟩
  cases x with
  | false => exact iteF (hx _ F' H' o' g' rfl)
  | true => exact iteT (hb G σ F' H' Q o' (run_step g' hx))
end
def RT (X : Cx) (W : WX) (Γ : Ctx) (e : Expr) (m : Mo Bool) : Prop := RTT X W Γ (tT X e) m
def RW (X : Cx) (W : WX) (Γ : Ctx) (e : Expr) (m : Mo Bool) : Prop := RTT X W Γ (tW X e) m
section
variable {ma mb : Mo Bool} {pos : Pos} {rest : List Expr}
theorem rt_of {t : TT} (h : L2.PT X e t) (r : RTT X W Γ t ma) : RT X W Γ e ma := fun G σ F H Q o q => tT_i fun pins s I => h.run pins s σ H Q I (r G σ F H Q o q)
theorem rw_of {t : TT} (h : L2.PW X e t) (r : RTT X W Γ t ma) : RW X W Γ e ma := fun G σ F H Q o q => tW_i fun wh pins s I => h.run wh pins s σ H Q I (r G σ F H Q o q)
theorem rt_val (h : RE X W Γ e ma (.fz rB)) (he : ∀ whole, isTrue e X.env whole = (do let v ← whole; standAt e.pos; holding [v] (truthy v)) := by intro _; rfl) : RT X W Γ e ma :=
  rt_of (pt_val peE he) fun G σ F H Q o q => h G σ F H _ o (ma.mono (fun x hx v F' H' o' g' z => ⟨x, z, hx F' H' o' g'⟩) (fun _ z => z) q)
theorem rt_not (h : RT X W Γ a ma) : RT X W Γ (.UnaryOp .Not a pos) (ma >>= fun c => pure (!c)) :=
  rt_of (pt_not ptT) fun G σ F H Q o q => h G σ F H _ o q
theorem rt_w (h : RW X W Γ e ma) : RT X W Γ e ma := rt_of pwW.pt h
theorem rw_and1 (h : RT X W Γ a ma) : RW X W Γ (.BoolOp .And [a] pos) ma := rw_of (pw_and1 ptT) h
theorem rw_or1 (h : RT X W Γ a ma) : RW X W Γ (.BoolOp .Or [a] pos) ma := rw_of (pw_or1 ptT) h
theorem rw_and (ha : RT X W Γ a ma) (hb : RW X W Γ (.BoolOp .And (b :: rest) pos) mb) : RW X W Γ (.BoolOp .And (a :: b :: rest) pos) (ma >>= fun c => if c then mb else pure false) := by
  refine rw_of (pw_and ptT pwW) fun G σ F H Q o q => ?_
  refine ha G σ F H _ o (ma.mono (fun x hx F' H' o' g' => ?_) (fun _ z => z) q)
  cases x with
  | false => exact iteF (hx F' H' o' g')
  | true => exact iteT (hb G σ F' H' Q o' (mb.mono (fun c hc F2 H2 o2 g2 => hc F2 H2 o2 (g'.trans g2 owns_tr)) (fun _ => EQ.step g') hx))
theorem rw_or (ha : RT X W Γ a ma) (hb : RW X W Γ (.BoolOp .Or (b :: rest) pos) mb) : RW X W Γ (.BoolOp .Or (a :: b :: rest) pos) (ma >>= fun c => if c then pure true else mb) := by
  refine rw_of (pw_or ptT pwW) fun G σ F H Q o q => ?_
  refine ha G σ F H _ o (ma.mono (fun x hx F' H' o' g' => ?_) (fun _ z => z) q)
  cases x with
  | true => exact iteT (hx F' H' o' g')
  | false => exact iteF (hb G σ F' H' Q o' (mb.mono (fun c hc F2 H2 o2 g2 => hc F2 H2 o2 (g'.trans g2 owns_tr)) (fun _ => EQ.step g') hx))
end
end
end RF
namespace RF
open PySem PySem.Spec PyProof.Rows L2 KO SX

def Ps (F : Hp) : List Pr → List V → Prop
  | [], [] => True
  | p :: ps, v :: vs => p.r v F ∧ Ps F ps vs
  | _, _ => False
section
variable {F F' : Hp}
theorem Ps.len : ∀ {ps : List Pr} {vs : List V}, Ps F ps vs → vs.length = ps.length
  | [], [], _ => rfl
  | _ :: _, _ :: _, h => by simp [Ps.len h.2]
  | [], _ :: _, h => h.elim
  | _ :: _, [], h => h.elim
theorem Ps.mono (s : Same F F') : ∀ {ps : List Pr} {vs : List V}, Ps F ps vs → Ps F' ps vs
  | [], [], _ => trivial
  | p :: _, _ :: _, h => ⟨p.mono s h.1, Ps.mono s h.2⟩
  | [], _ :: _, h => h.elim
  | _ :: _, [], h => h.elim
theorem Ps.get : ∀ {ps : List Pr} {vs : List V} {i : Nat} {p : Pr}, Ps F ps vs → ps[i]? = some p → ∃ v, vs[i]? = some v ∧ p.r v F
  | [], [], _, _, _, h => by simp at h
  | q :: ps, v :: vs, 0, p, h, e => by
    simp at e
    subst e
    exact ⟨v, rfl, h.1⟩
  | q :: ps, v :: vs, i + 1, p, h, e => by
    obtain ⟨w, h1, h2⟩ := Ps.get (i := i) h.2 (by simpa using e)
    exact ⟨w, by simpa using h1, h2⟩
  | [], _ :: _, _, _, h, _ => h.elim
  | _ :: _, [], _, _, h, _ => h.elim
theorem Ps.get' {ps : List Pr} {vs : List V} {i : Nat} {v : V} (h : Ps F ps vs) (e : vs[i]? = some v) : ∃ p, ps[i]? = some p ∧ p.r v F := by
  have hi : i < ps.length := by rw [← h.len]; exact (List.getElem?_eq_some_iff.mp e).1
  obtain ⟨w, h1, h2⟩ := h.get (List.getElem?_eq_getElem hi)
  rw [e] at h1
  cases h1
  exact ⟨_, List.getElem?_eq_getElem hi, h2⟩
theorem Ps.at {ps : List Pr} {vs : List V} {i : Int} {p : Pr} (h : Ps F ps vs) (e : atI ps i = some p) : ∃ v, atI vs i = some v ∧ p.r v F := by
  unfold atI at e ⊢
  rw [h.len]
  cases q : ixN ps.length i with
  | none => rw [q] at e; cases e
  | some j =>
    rw [q] at e
    exact h.get (show ps[j]? = some p from e)
theorem Ps.app : ∀ {ps qs : List Pr} {vs us : List V}, Ps F ps vs → Ps F qs us → Ps F (ps ++ qs) (vs ++ us)
  | [], _, [], _, _, h => h
  | _ :: _, _, _ :: _, _, h, k => ⟨h.1, Ps.app h.2 k⟩
  | [], _, _ :: _, _, h, _ => h.elim
  | _ :: _, _, [], _, h, _ => h.elim
theorem Ps.take : ∀ {ps : List Pr} {vs : List V} (n : Nat), Ps F ps vs → Ps F (ps.take n) (vs.take n)
  | _, _, 0, _ => by simp [Ps]
  | [], [], _ + 1, _ => trivial
  | _ :: _, _ :: _, n + 1, h => ⟨h.1, Ps.take n h.2⟩
  | [], _ :: _, _, h => h.elim
  | _ :: _, [], _, h => h.elim
theorem Ps.drop : ∀ {ps : List Pr} {vs : List V} (n : Nat), Ps F ps vs → Ps F (ps.drop n) (vs.drop n)
  | _, _, 0, h => h
  | [], [], _ + 1, _ => trivial
  | _ :: _, _ :: _, n + 1, h => Ps.drop n h.2
  | [], _ :: _, _, h => h.elim
  | _ :: _, [], _, h => h.elim
theorem Ps.set : ∀ {ps : List Pr} {vs : List V} {p : Pr} {v : V} (n : Nat), Ps F ps vs → p.r v F → Ps F (ps.set n p) (vs.set n v)
  | [], [], _, _, _, _, _ => trivial
  | _ :: _, _ :: _, _, _, 0, h, k => ⟨k, h.2⟩
  | _ :: _, _ :: _, _, _, n + 1, h, k => ⟨h.1, Ps.set n h.2 k⟩
  | [], _ :: _, _, _, _, h, _ => h.elim
  | _ :: _, [], _, _, _, h, _ => h.elim
theorem Ps.sc {α : Type} {ρ : α → Pr} [s : Sc ρ] : ∀ {xs : List α} {vs : List V}, Ps F (xs.map ρ) vs → vs = xs.map s.v
  | [], [], _ => rfl
  | _ :: _, _ :: _, h => by rw [List.map_cons, ← s.is h.1, ← Ps.sc h.2]
  | [], _ :: _, h => h.elim
  | _ :: _, [], h => h.elim
end
def oLu (ps : List Pr) : Po := ⟨fun o F => ∃ vs, o = .lst vs ∧ Ps F ps vs, fun s ⟨vs, e, h⟩ => ⟨vs, e, h.mono s⟩⟩
def rLu (ps : List Pr) : Pr := ⟨fun v F => ∃ a vs, v = .ref a ∧ F a = some (.lst vs) ∧ Ps F ps vs, fun s ⟨a, vs, e, h, k⟩ => ⟨a, vs, e, s _ _ h, k.mono s⟩⟩
def rTu (ps : List Pr) : Pr := ⟨fun v F => ∃ a vs, v = .ref a ∧ Rd F a (.tup vs) ∧ Ps F ps vs, fun s ⟨a, vs, e, h, k⟩ => ⟨a, vs, e, Rd.mono h s, k.mono s⟩⟩
section
variable {α β γ δ ε ζ : Type}
def oL (ρ : α → Pr) (xs : List α) : Po := oLu (xs.map ρ)
def rL (ρ : α → Pr) (xs : List α) : Pr := rLu (xs.map ρ)
def rTs (ρ : α → Pr) (xs : List α) : Pr := rTu (xs.map ρ)
def rT1 (ρ : α → Pr) (x : α) : Pr := rTu [ρ x]
def rT2 (ρ : α → Pr) (σ : β → Pr) (x : α × β) : Pr := rTu [ρ x.1, σ x.2]
def rT3 (ρ : α → Pr) (σ : β → Pr) (τ : γ → Pr) (x : α × β × γ) : Pr := rTu [ρ x.1, σ x.2.1, τ x.2.2]
def rT4 (ρ : α → Pr) (σ : β → Pr) (τ : γ → Pr) (υ : δ → Pr) (x : α × β × γ × δ) : Pr := rTu [ρ x.1, σ x.2.1, τ x.2.2.1, υ x.2.2.2]
def rT5 (ρ : α → Pr) (σ : β → Pr) (τ : γ → Pr) (υ : δ → Pr) (φ : ε → Pr) (x : α × β × γ × δ × ε) : Pr := rTu [ρ x.1, σ x.2.1, τ x.2.2.1, υ x.2.2.2.1, φ x.2.2.2.2]
theorem frz_L {ρ : α → Pr} (xs : List α) (a : Addr) (u : HO) (F : Hp) (h : F a = some u) (k : (oL ρ xs).r u F) : (rL ρ xs).r (.ref a) F := by
  obtain ⟨vs, rfl, k⟩ := k
  exact ⟨a, vs, rfl, h, k⟩
theorem atI_map {f : α → β} {xs : List α} {i : Int} : atI (xs.map f) i = (atI xs i).map f := by
  unfold atI
  rw [List.length_map]
  cases ixN xs.length i with
  | none => rfl
  | some j => simp
def cutL (xs : List α) (lo hi : Option Int) : List α := (xs.drop (HT.sIx xs.length 0 lo)).take (HT.sIx xs.length xs.length hi - HT.sIx xs.length 0 lo)
theorem Ps.cut {F : Hp} {ps : List Pr} {vs : List V} (lo hi : Option Int) (h : Ps F ps vs) : Ps F (cutL ps lo hi) (cutV vs lo hi) := by
  unfold cutL cutV
  rw [h.len]
  exact (h.drop _).take _
theorem cutL_map {f : α → β} {xs : List α} {lo hi : Option Int} : cutL (xs.map f) lo hi = (cutL xs lo hi).map f := by
  unfold cutL
  rw [List.length_map, List.map_take, List.map_drop]
end
section
variable {α β γ : Type} {X : Cx} {W : WX} {Γ : Ctx} {e a b : Expr} {es : List Expr} {pos : Pos} {m : Mo β}
theorem Ok.new {G : Gf} {σ : L2.St} {F H : Hp} {d : Addr} {u : HO} (o : Ok G Γ σ F H) (hd : H d = none) : Ok G Γ σ (upd F d u) (upd H d u) ∧ Go (owns Γ) F H (upd F d u) (upd H d u) :=
  ⟨o.move (M := []) (Go.new o.le hd) (fun _ h => by simp at h), Go.new o.le hd⟩
theorem Ok.newO {G : Gf} {σ : L2.St} {F H : Hp} {d : Addr} {u : HO} (o : Ok G Γ σ F H) (hd : H d = none) : Ok G Γ σ F (upd H d u) ∧ Go (owns Γ) F H F (upd H d u) :=
  ⟨o.move (M := []) (Go.newO o.le hd) (fun _ h => by simp at h), Go.newO o.le hd⟩
theorem ArgOk.ps {F H : Hp} : ∀ {ps : List Pr} {vs : List V}, ArgOk Γ F H (ps.map .fz) vs → Ps F ps vs
  | [], [], _ => trivial
  | p :: ps, v :: vs, h => ⟨h.2.1 0 (.fz p) v rfl rfl, ArgOk.ps ⟨by simpa using h.1, fun i en u h2 h3 => h.2.1 (i + 1) en u (by simpa using h2) (by simpa using h3), fun j l a q h2 => h.2.2 (j + 1) l a q (by simpa using h2)⟩⟩
  | [], _ :: _, h => absurd h.1 (by simp)
  | _ :: _, [], h => absurd h.1 (by simp)
theorem re_tup {x1} {p : β → Ctx} (f : β → γ) (ρ : γ → Pr) (ps : β → List Pr) (ha : RA X W Γ es m p) (hp : ∀ y, p y = (ps y).map .fz := by intro _; rfl) (hρ : ∀ y, ρ (f y) = rTu (ps y) := by intro _; rfl) (hl : ∀ y, (ps y).length ≤ sizeLine := by intro _; simp [sizeLine_eq]) :
    RE X W Γ (.Tuple es x1 pos) (m >>= fun y => pure (f y)) (.fz ρ) := by
  refine re_of (pe_tup paA) fun G σ F H Q o q => ?_
  refine ha G σ F H _ o (m.mono (fun y hy vs F' H' o' g' z => ?_) (fun _ z => z) q)
  rw [hp y] at z
  have k := z.ps
  refine ⟨by rw [k.len]; exact hl y, fun d hd => ?_⟩
  obtain ⟨o2, g2⟩ := o'.new (u := .tup vs) hd
  refine hy _ _ _ o2 (g'.trans g2 owns_tr) ?_
  show (ρ (f y)).r _ _
  rw [hρ y]
  exact ⟨d, vs, rfl, .inl upd_same, k.mono g2.fs⟩
theorem NQ.own {k : γ → Po} {G : Gf} {σ : L2.St} {F H F1 H1 : Hp} {Q : VK} {x : γ} {d : Addr} {u : HO} (q : NQ G Γ σ F H (.ow k) Q x) (o : Ok G Γ σ F1 H1) (g : Go (owns Γ) F H F1 H1) (hd : H1 d = none) (h : (k x).r u F1) : Q (.ref d) (upd H1 d u) := by
  obtain ⟨o2, g2⟩ := o.newO (u := u) hd
  have hf : ∀ {A B : Hp}, Same A B → B d = none → A d = none := fun s e => s.free e
  refine q _ _ _ o2 (g.trans g2 owns_tr) ⟨d, u, rfl, ?_, o.le.free hd, upd_same, h⟩
  cases e : H d with
  | none => rfl
  | some y =>
    obtain ⟨y', e'⟩ := g.th _ _ e
    rw [hd] at e'; cases e'
theorem NQ.ownF {k : γ → Pr} {G : Gf} {σ : L2.St} {F H F1 H1 : Hp} {Q : VK} {x : γ} {d : Addr} {u : HO} (q : NQ G Γ σ F H (.fz k) Q x) (o : Ok G Γ σ F1 H1) (g : Go (owns Γ) F H F1 H1) (hd : H1 d = none) (h : (k x).r (.ref d) (upd F1 d u)) : Q (.ref d) (upd H1 d u) := by
  obtain ⟨o2, g2⟩ := o.new (u := u) hd
  exact q _ _ _ o2 (g.trans g2 owns_tr) h
theorem re_lst {p : β → Ctx} (f : β → List γ) (ρ : γ → Pr) (ha : RA X W Γ es m p) (hp : ∀ y, p y = ((f y).map ρ).map .fz := by intro _; rfl) (hl : ∀ y, ((f y).map ρ).length ≤ sizeLine := by intro _; simp [sizeLine_eq]) :
    RE X W Γ (.List es pos) (m >>= fun y => pure (f y)) (.ow (oL ρ)) := by
  refine re_of (pe_lst paA) fun G σ F H Q o q => ?_
  refine ha G σ F H _ o (m.mono (fun y hy vs F' H' o' g' z => ?_) (fun _ z => z) q)
  rw [hp y] at z
  have k := z.ps
  exact ⟨by rw [k.len]; exact hl y, fun d hd => hy.own o' g' hd ⟨vs, rfl, k⟩⟩
theorem re_lst0 {ρ : γ → Pr} : RE X W Γ (.List [] pos) (pure []) (.ow (oL ρ)) := by
  refine re_of (pe_lst pa_nil) fun G σ F H Q o q => ?_
  exact ⟨Nat.zero_le _, fun d hd => NQ.own q o (Go.refl o.le) hd ⟨[], rfl, trivial⟩⟩
section
variable {ma : Mo (List γ)} {mb : Mo Int} {ρ : γ → Pr} {α : Type} {mt : Mo α} {ρt : α → Pr}
theorem rop_ixL (hK : True) (xs : List γ) (i : Int) : ROp X W Γ (rIxL X.K) (rL ρ xs) (rI i) (Mo.get (atI xs i)) (.fz ρ) := by
  intro G σ F H Q x y o hx hy q
  obtain ⟨a, vs, rfl, h1, h2⟩ := hx
  obtain rfl : y = .int i := hy
  obtain ⟨z, hz, q⟩ := q
  obtain ⟨v, hv, hr⟩ := h2.at (i := i) (p := ρ z) (by rw [atI_map, hz]; rfl)
  exact ⟨a, vs, i, v, rfl, rfl, SqL.of (o.le _ _ h1), hv, NQ.here (ρ := ρ) q o hr⟩
theorem rop_ixT (hK : True) (xs : List γ) (i : Int) : ROp X W Γ (rIxT X.K) (rTs ρ xs) (rI i) (Mo.get (atI xs i)) (.fz ρ) := by
  intro G σ F H Q x y o hx hy q
  obtain ⟨a, vs, rfl, h1, h2⟩ := hx
  obtain rfl : y = .int i := hy
  obtain ⟨z, hz, q⟩ := q
  obtain ⟨v, hv, hr⟩ := h2.at (i := i) (p := ρ z) (by rw [atI_map, hz]; rfl)
  exact ⟨a, vs, i, v, rfl, rfl, SqT.ofR (Rd.mono h1 o.le), hv, NQ.here (ρ := ρ) q o hr⟩
theorem re_ixL (ha : RE X W Γ a ma (.fz (rL ρ))) (hb : RE X W Γ b mb (.fz rI)) (hs : PlainIx b := by exact fun _ _ => rfl) : RE X W Γ (.Subscript a b pos) (ma >>= fun xs => mb >>= fun i => Mo.get (atI xs i)) (.fz ρ) := re_ix ix_list (rop_ixL trivial) ha hb hs
theorem re_ixTs (ha : RE X W Γ a ma (.fz (rTs ρ))) (hb : RE X W Γ b mb (.fz rI)) (hs : PlainIx b := by exact fun _ _ => rfl) : RE X W Γ (.Subscript a b pos) (ma >>= fun xs => mb >>= fun i => Mo.get (atI xs i)) (.fz ρ) := re_ix ix_tup (rop_ixT trivial) ha hb hs
theorem re_at {g : α → γ} (ps : α → List Pr) (c : Int) (ha : RE X W Γ a mt (.fz ρt)) (hρ : ∀ x, ρt x = rTu (ps x) := by intro _; rfl) (hc : RE X W Γ b (pure c) (.fz rI)) (hg : ∀ x, atI (ps x) c = some (ρ (g x)) := by intro _; rfl) (hs : PlainIx b := by exact fun _ _ => rfl) : RE X W Γ (.Subscript a b pos) (mt >>= fun x => pure (g x)) (.fz ρ) := by
  refine re_of (pe_ix ix_tup peE peE hs) fun G σ F H Q o q => ?_
  refine ha G σ F H _ o (mt.mono (fun y hy v F' H' o' g' z => ?_) (fun _ z => z) q)
  have z : (ρt y).r v F' := z
  rw [hρ y] at z
  obtain ⟨t, vs, rfl, h1, h2⟩ := z
  obtain ⟨v, hv, hr⟩ := h2.at (hg y)
  refine hc G σ F' H' _ o' fun w F2 H2 o2 g2 e => ?_
  obtain rfl : w = .int c := e
  exact ⟨t, vs, c, v, rfl, rfl, SqT.ofR (Rd.mono h1 (g2.fs.trans o2.le)), hv, hy v F2 H2 o2 (g'.trans g2 owns_tr) ((ρ _).mono g2.fs hr)⟩
end
section
variable {ρ : γ → Pr} {i : Nat} {l : Bool} {ad : Addr} {xs : List γ} {mb : Mo Int} {x : Str} {p2 : Pos}
theorem re_ixO (hi : Γ[i]? = some (.ow l ad (oL ρ xs))) (hp : PE X (.Name x p2) (tVar i)) (hb : RE X W Γ b mb (.fz rI)) (hs : PlainIx b := by exact fun _ _ => rfl) : RE X W Γ (.Subscript (.Name x p2) b pos) (mb >>= fun i => Mo.get (atI xs i)) (.fz ρ) := by
  refine re_of (pe_ix ix_list hp peE hs) fun G σ F H Q o q => ?_
  refine ⟨.ref ad, (o.en i _ hi).1, ?_⟩
  refine hb G σ F H _ o (mb.mono (fun j hy v F' H' o' g' z => ?_) (fun _ z => z) q)
  obtain rfl : v = .int j := z
  obtain ⟨_, _, _, u, hu, vs, rfl, hps⟩ := o'.en i _ hi
  obtain ⟨z, hz, hy⟩ := hy
  obtain ⟨v, hv, hr⟩ := hps.at (i := j) (p := ρ z) (by rw [atI_map, hz]; rfl)
  exact ⟨ad, vs, j, v, rfl, rfl, SqL.of hu, hv, hy v F' H' o' g' hr⟩
end
section
variable {lo hi : Option Expr} {ml mh : Mo (Option Int)} {ma : Mo (List γ)} {ρ : γ → Pr} {p2 : Pos}
def tP (X : Cx) (e : Option Expr) : TO := fun σ H Q => ∀ (pins : List (Addr × Obj)) (s : Shared), Inv X pins σ H s → wpAny (model X.prog X.w) X.A (evalPart e X.env) (fun u s' => ∃ o H', Inv X pins σ H' s' ∧ IsPart u o ∧ Q o H') X.xe s
theorem poP {e : Option Expr} : PO X e (tP X e) := ⟨fun pins s σ H Q I h => h pins s I⟩
def RP (X : Cx) (W : WX) (Γ : Ctx) (e : Option Expr) (m : Mo (Option Int)) : Prop := ∀ G σ F H Q, Ok G Γ σ F H → m.run (fun x => ∀ F' H', Ok G Γ σ F' H' → Go (owns Γ) F H F' H' → Q x H') (EQ X W G Γ σ F H) → tP X e σ H Q
theorem rp_none : RP X W Γ none (pure none) := fun G σ F H Q o q pins s I => po_none.run pins s σ H Q I (q F H o (Go.refl o.le))
theorem rp_some {m : Mo Int} (h : RE X W Γ e m (.fz rI)) : RP X W Γ (some e) (m >>= fun i => pure (some i)) := fun G σ F H Q o q pins s I =>
  (po_some peE).run pins s σ H Q I (h G σ F H _ o (m.mono (fun x hx v F' H' o' g' z => ⟨x, z, hx F' H' o' g'⟩) (fun _ z => z) q))
theorem re_slL (ha : RE X W Γ a ma (.fz (rL ρ))) (hl : RP X W Γ lo ml) (hh : RP X W Γ hi mh) : RE X W Γ (.Subscript a (.Slice lo hi none p2) pos) (ma >>= fun xs => ml >>= fun l => mh >>= fun h => pure (cutL xs l h)) (.ow (oL ρ)) := by
  refine re_of (pe_slice sl_list peE poP poP) fun G σ F H Q o q => ?_
  refine ha G σ F H _ o (ma.mono (fun xs hx v F1 H1 o1 g1 z => ?_) (fun _ z => z) q)
  refine hl G σ F1 H1 _ o1 (ml.mono (fun l hx F2 H2 o2 g2 => ?_) (fun _ => EQ.step g1) hx)
  have g12 := g1.trans g2 owns_tr
  refine hh G σ F2 H2 _ o2 (mh.mono (fun h hx F3 H3 o3 g3 => ?_) (fun _ => EQ.step g12) hx)
  have g13 := g12.trans g3 owns_tr
  obtain ⟨ad, vs, rfl, h1, h2⟩ := z
  have s13 : Same F1 F3 := g2.fs.trans g3.fs
  refine ⟨ad, vs, rfl, SqL.of (o3.le _ _ (s13 _ _ h1)), fun d hd => hx.own o3 g13 hd ⟨_, rfl, ?_⟩⟩
  rw [← cutL_map]
  exact (h2.mono s13).cut l h
end
section
variable {ma mb : Mo (List γ)} {ρ : γ → Pr}
theorem re_cat (ha : RE X W Γ a ma (.fz (rL ρ))) (hb : RE X W Γ b mb (.fz (rL ρ))) : RE X W Γ (.BinOp a .Add b pos) (ma >>= fun xs => mb >>= fun ys => Mo.rq (xs.length + ys.length ≤ sizeLine) (xs ++ ys)) (.ow (oL ρ)) :=
  re_bin op_cat (fun xs ys G σ F H Q x y o hx hy q => by
    obtain ⟨a, vs, rfl, h1, h2⟩ := hx
    obtain ⟨b, us, rfl, k1, k2⟩ := hy
    refine ⟨a, b, vs, us, rfl, rfl, o.le _ _ h1, o.le _ _ k1, by rw [h2.len, k2.len, List.length_map, List.length_map]; exact q.1, fun d hd => NQ.own q.2 o (Go.refl o.le) hd ⟨_, rfl, ?_⟩⟩
    rw [List.map_append]
    exact h2.app k2) ha hb
theorem re_rep {mn : Mo Int} (ha : RE X W Γ a ma (.fz (rL ρ))) (hb : RE X W Γ b mn (.fz rI)) : RE X W Γ (.BinOp a .Mult b pos) (ma >>= fun xs => mn >>= fun n => Mo.rq (-(2 ^ 63) ≤ n ∧ n < 2 ^ 63 ∧ xs.length * n.toNat ≤ sizeLine) (List.replicate n.toNat xs).flatten) (.ow (oL ρ)) :=
  re_bin op_rep (fun xs n G σ F H Q x y o hx hy q => by
    obtain ⟨a, vs, rfl, h1, h2⟩ := hx
    obtain rfl : y = .int n := hy
    refine ⟨a, n, vs, rfl, rfl, o.le _ _ h1, q.1.1, q.1.2.1, by rw [h2.len, List.length_map]; exact q.1.2.2, fun d hd => NQ.own q.2 o (Go.refl o.le) hd ⟨_, rfl, ?_⟩⟩
    generalize n.toNat = k
    induction k with
    | zero => trivial
    | succ k ih =>
      rw [List.replicate_succ, List.flatten_cons, List.replicate_succ, List.flatten_cons, List.map_append]
      exact h2.app ih) ha hb
end
def SqAt (k : Bool) (F H : Hp) (a : Addr) (vs : List V) : Prop := if k = true then H a = some (.lst vs) else Rd F a (.tup vs)
def RSq (X : Cx) (W : WX) (Γ : Ctx) (k : Bool) (e : Expr) (m : Mo (List γ)) (ρ : γ → Pr) : Prop :=
  ∀ G σ F H Q, Ok G Γ σ F H → m.run (fun xs => ∀ a vs F' H', Ok G Γ σ F' H' → Go (owns Γ) F H F' H' → SqAt k F' H' a vs → Ps F' (xs.map ρ) vs → Q (.ref a) H') (EQ X W G Γ σ F H) → tE X e σ H Q
section
variable {m : Mo (List γ)} {ρ : γ → Pr} {k : Bool}
theorem SqAt.or {K : PySem.W.Frag} {F H : Hp} {a : Addr} {vs : List V} (h : SqAt k F H a vs) (s : Same F H) : SqL K H a vs ∨ SqT K H a vs := by
  cases k with
  | true => exact .inl (SqL.of h)
  | false => exact .inr (SqT.ofR (Rd.mono h s))
theorem rsq_L (h : RE X W Γ e m (.fz (rL ρ))) : RSq X W Γ true e m ρ := fun G σ F H Q o q =>
  h G σ F H Q o (m.mono (fun xs hx v F' H' o' g' z => by
    obtain ⟨a, vs, rfl, h1, h2⟩ := z
    exact hx a vs F' H' o' g' (o'.le _ _ h1) h2) (fun _ z => z) q)
theorem rsq_T (h : RE X W Γ e m (.fz (rTs ρ))) : RSq X W Γ false e m ρ := fun G σ F H Q o q =>
  h G σ F H Q o (m.mono (fun xs hx v F' H' o' g' z => by
    obtain ⟨a, vs, rfl, h1, h2⟩ := z
    exact hx a vs F' H' o' g' h1 h2) (fun _ z => z) q)
theorem rsq_O {i : Nat} {l : Bool} {ad : Addr} {xs : List γ} {x : Str} (hi : Γ[i]? = some (.ow l ad (oL ρ xs))) (hp : PE X (.Name x pos) (tVar i)) : RSq X W Γ true (.Name x pos) (pure xs) ρ := fun G σ F H Q o q => by
  refine tE_i fun pins s I => ?_
  obtain ⟨h1, _, _, u, hu, vs, rfl, hps⟩ := o.en i _ hi
  exact hp.run pins s σ H Q I ⟨.ref ad, h1, q ad vs F H o (Go.refl o.le) hu hps⟩
theorem rsq_F (h : RE X W Γ e m (.ow (oL ρ))) : RSq X W Γ true e m ρ := rsq_L (re_frz h frz_L)
theorem rsq_at {α : Type} {mt : Mo α} {ρt : α → Pr} (g : α → List γ) (h : RE X W Γ e mt (.fz ρt)) (hρ : ∀ x, ρt x = rTu ((g x).map ρ) := by intro _; rfl) : RSq X W Γ false e (mt >>= fun x => pure (g x)) ρ := fun G σ F H Q o q =>
  h G σ F H Q o (mt.mono (fun x hx v F' H' o' g' z => by
    have z : (ρt x).r v F' := z
    rw [hρ x] at z
    obtain ⟨a, vs, rfl, h1, h2⟩ := z
    exact hx a vs F' H' o' g' h1 h2) (fun _ z => z) q)
theorem re_bi1 {id : String} {r : List V → Hp → VK → Prop} {x : Str} {p : Pos} {mr : List γ → Mo β} {kr : RK β} (hc : CallR X (.builtin id) r) (hr : ∀ xs G σ F H Q a vs, Ok G Γ σ F H → SqAt k F H a vs → Ps F (xs.map ρ) vs → (mr xs).run (NQ G Γ σ F H kr Q) (EQ X W G Γ σ F H) → r [.ref a] H Q) (h : RSq X W Γ k e m ρ)
    (hg : Gl X x) (hm : X.mg x = none) (hv : bootBuiltins x = some (.builtin id)) (hn : x ≠ "__name__" := by decide) (hdb : (x == ("__debug__" : Str)) = false := by decide) (he : starEach [e] X.env = [(false, eval e X.env)] := by rfl) :
    RE X W Γ (.Call (.Name x p) [e] [] pos) (m >>= mr) kr := by
  refine re_of (pe_callB hc hg hm hv (pa_cons peE pa_nil he) hn hdb he rfl) fun G σ F H Q o q => ?_
  refine h G σ F H _ o (m.mono (fun xs hx a vs F' H' o' g' z1 z2 => ?_) (fun _ z => z) q)
  exact hr xs G σ F' H' Q a vs o' z1 z2 (run_step g' hx)
theorem re_ty1 {T : String} {r : List V → Hp → VK → Prop} {x : Str} {p : Pos} {mr : List γ → Mo β} {kr : RK β} (hc : CallR X (.type T) r) (hr : ∀ xs G σ F H Q a vs, Ok G Γ σ F H → SqAt k F H a vs → Ps F (xs.map ρ) vs → (mr xs).run (NQ G Γ σ F H kr Q) (EQ X W G Γ σ F H) → r [.ref a] H Q) (h : RSq X W Γ k e m ρ)
    (hg : Gl X x) (hm : X.mg x = none) (hv : bootBuiltins x = some (.type T)) (hn : x ≠ "__name__" := by decide) (hdb : (x == ("__debug__" : Str)) = false := by decide) (he : starEach [e] X.env = [(false, eval e X.env)] := by rfl) :
    RE X W Γ (.Call (.Name x p) [e] [] pos) (m >>= mr) kr := by
  refine re_of (pe_callTy hc hg hm hv (pa_cons peE pa_nil he) hn hdb he rfl) fun G σ F H Q o q => ?_
  refine h G σ F H _ o (m.mono (fun xs hx a vs F' H' o' g' z1 z2 => ?_) (fun _ z => z) q)
  exact hr xs G σ F' H' Q a vs o' z1 z2 (run_step g' hx)
section
variable {p : Pos}
theorem re_len (h : RSq X W Γ k e m ρ) (hm : X.mg "len" = none) (hg : Gl X "len" := by rfl) (he : starEach [e] X.env = [(false, eval e X.env)] := by rfl) : RE X W Γ (.Call (.Name "len" p) [e] [] pos) (m >>= fun xs => pure (xs.length : Int)) (.fz rI) :=
  re_bi1 call_len_seq (fun xs G σ F H Q a vs o z1 z2 q => ⟨a, vs, rfl, z1.or o.le, by have := NQ.here (ρ := rI) q o rfl; rw [z2.len, List.length_map]; exact this⟩) h hg hm (by decide +kernel) (he := he)
theorem re_list (h : RSq X W Γ k e m ρ) (hm : X.mg "list" = none) (hg : Gl X "list" := by rfl) (he : starEach [e] X.env = [(false, eval e X.env)] := by rfl) : RE X W Γ (.Call (.Name "list" p) [e] [] pos) (m >>= fun xs => pure xs) (.ow (oL ρ)) :=
  re_ty1 call_list_of (fun xs G σ F H Q a vs o z1 z2 q => ⟨a, vs, rfl, z1.or o.le, fun d hd => NQ.own q o (Go.refl o.le) hd ⟨vs, rfl, z2⟩⟩) h hg hm (by decide +kernel) (he := he)
theorem re_tuple (h : RSq X W Γ k e m ρ) (hm : X.mg "tuple" = none) (hg : Gl X "tuple" := by rfl) (he : starEach [e] X.env = [(false, eval e X.env)] := by rfl) : RE X W Γ (.Call (.Name "tuple" p) [e] [] pos) (m >>= fun xs => pure xs) (.fz (rTs ρ)) :=
  re_ty1 call_tuple_of (fun xs G σ F H Q a vs o z1 z2 q => by
    cases k with
    | true => exact ⟨a, vs, rfl, .inl ⟨SqL.of z1, fun d hd => NQ.ownF q o (Go.refl o.le) hd ⟨d, vs, rfl, .inl upd_same, z2.mono (same_upd (o.le.free hd))⟩⟩⟩
    | false => exact ⟨a, vs, rfl, .inr ⟨SqT.ofR (Rd.mono z1 o.le), NQ.here (ρ := rTs ρ) q o ⟨a, vs, rfl, z1, z2⟩⟩⟩) h hg hm (by decide +kernel) (he := he)
end
end
section
variable {p : Pos} {mi : Mo (List Int)} {k : Bool}
theorem re_sum (h : RSq X W Γ true e mi rI) (hm : X.mg "sum" = none) (hc : X.calm = true := by rfl) (hg : Gl X "sum" := by rfl) (he : starEach [e] X.env = [(false, eval e X.env)] := by rfl) : RE X W Γ (.Call (.Name "sum" p) [e] [] pos) (mi >>= fun xs => pure xs.sum) (.fz rI) :=
  re_bi1 (cr_sum hc) (fun xs G σ F H Q a vs o z1 z2 q => ⟨a, xs, rfl, by rw [← (show vs = xs.map V.int from Ps.sc (s := scI) z2)]; exact SqL.of z1, NQ.here (ρ := rI) q o rfl⟩) h hg hm (by decide +kernel) (he := he)
theorem re_sorted (h : RSq X W Γ true e mi rI) (hm : X.mg "sorted" = none) (hg : Gl X "sorted" := by rfl) (he : starEach [e] X.env = [(false, eval e X.env)] := by rfl) : RE X W Γ (.Call (.Name "sorted" p) [e] [] pos) (mi >>= fun xs => Mo.rq (xs.length < 64) () >>= fun _ => Mo.any (fun ys : List Int => ys.Perm xs ∧ ys.Pairwise (· ≤ ·))) (.ow (oL rI)) :=
  re_bi1 cr_sorted (fun xs G σ F H Q a vs o z1 z2 q => ⟨a, xs, rfl, by rw [← (show vs = xs.map V.int from Ps.sc (s := scI) z2)]; exact SqL.of z1, q.1, fun ys d h1 h2 hd => NQ.own (q.2 ys ⟨h1, h2⟩) o (Go.refl o.le) hd ⟨_, rfl, by
    clear q h1 h2 z1 z2
    induction ys with
    | nil => trivial
    | cons y ys ih => exact ⟨rfl, ih⟩⟩⟩) h hg hm (by decide +kernel) (he := he)
theorem re_maxL (h : RSq X W Γ true e mi rI) (hm : X.mg "max" = none) (hc : X.calm = true := by rfl) (hg : Gl X "max" := by rfl) (he : starEach [e] X.env = [(false, eval e X.env)] := by rfl) : RE X W Γ (.Call (.Name "max" p) [e] [] pos) (mi >>= fun xs => Mo.rq (0 < xs.length) () >>= fun _ => Mo.any (fun i : Int => i ∈ xs ∧ ∀ y ∈ xs, y ≤ i)) (.fz rI) :=
  re_bi1 (cr_max hc) (fun xs G σ F H Q a vs o z1 z2 q => ⟨a, xs, rfl, by rw [← (show vs = xs.map V.int from Ps.sc (s := scI) z2)]; exact SqL.of z1, q.1, fun i h1 h2 => NQ.here (ρ := rI) (q.2 i ⟨h1, h2⟩) o rfl⟩) h hg hm (by decide +kernel) (he := he)
variable {mb : Mo (List Bool)}
theorem re_all (h : RSq X W Γ true e mb rB) (hm : X.mg "all" = none) (hc : X.calm = true := by rfl) (hg : Gl X "all" := by rfl) (he : starEach [e] X.env = [(false, eval e X.env)] := by rfl) : RE X W Γ (.Call (.Name "all" p) [e] [] pos) (mb >>= fun xs => pure (xs.all id)) (.fz rB) :=
  re_bi1 (cr_all hc) (fun xs G σ F H Q a vs o z1 z2 q => ⟨a, xs, rfl, by rw [← (show vs = xs.map V.bl from Ps.sc (s := scB) z2)]; exact SqL.of z1, NQ.here (ρ := rB) q o rfl⟩) h hg hm (by decide +kernel) (he := he)
end
section
variable {mi mj : Mo Int} {mb : Mo Bool} {p : Pos}
theorem re_intI (h : RE X W Γ e mi (.fz rI)) (hm : X.mg "int" = none) (hg : Gl X "int" := by rfl) (he : starEach [e] X.env = [(false, eval e X.env)] := by rfl) : RE X W Γ (.Call (.Name "int" p) [e] [] pos) mi (.fz rI) :=
  re_of (pe_callTy (T := "int") call_int1 hg hm (by decide +kernel) (pa_cons peE pa_nil he) (by decide) (by decide) he rfl) fun G σ F H Q o q => h G σ F H _ o (mi.mono (fun i hx v F' H' o' g' z => by
    obtain rfl : v = .int i := z
    exact .inl ⟨i, rfl, hx _ F' H' o' g' rfl⟩) (fun _ z => z) q)
theorem re_max2 (ha : RE X W Γ a mi (.fz rI)) (hb : RE X W Γ b mj (.fz rI)) (hm : X.mg "max" = none) (hc : X.calm = true := by rfl) (hg : Gl X "max" := by rfl) (he : starEach [a, b] X.env = (false, eval a X.env) :: starEach [b] X.env := by rfl) (he2 : starEach [b] X.env = [(false, eval b X.env)] := by rfl) (hpl : (backTo pos (starEach [b] X.env)).any (·.1) = false := by rfl) : RE X W Γ (.Call (.Name "max" p) [a, b] [] pos) (mi >>= fun i => mj >>= fun j => pure (max i j)) (.fz rI) :=
  re_of (pe_callB (call_max2 hc) hg hm (by decide +kernel) (pa_cons peE (pa_cons peE pa_nil he2) he) (by decide) (by decide) he hpl) fun G σ F H Q o q => ha G σ F H _ o (mi.mono (fun i hx v F' H' o' g' z => by
    refine hb G σ F' H' _ o' (mj.mono (fun j hy u F2 H2 o2 g2 z2 => ?_) (fun _ => EQ.step g') hx)
    obtain rfl : v = .int i := z
    obtain rfl : u = .int j := z2
    refine ⟨i, j, rfl, hy _ F2 H2 o2 (g'.trans g2 owns_tr) ?_⟩
    show V.int _ = V.int _
    congr 1
    split <;> omega) (fun _ z => z) q)
theorem re_min2 (ha : RE X W Γ a mi (.fz rI)) (hb : RE X W Γ b mj (.fz rI)) (hm : X.mg "min" = none) (hc : X.calm = true := by rfl) (hg : Gl X "min" := by rfl) (he : starEach [a, b] X.env = (false, eval a X.env) :: starEach [b] X.env := by rfl) (he2 : starEach [b] X.env = [(false, eval b X.env)] := by rfl) (hpl : (backTo pos (starEach [b] X.env)).any (·.1) = false := by rfl) : RE X W Γ (.Call (.Name "min" p) [a, b] [] pos) (mi >>= fun i => mj >>= fun j => pure (min i j)) (.fz rI) :=
  re_of (pe_callB (call_min2 hc) hg hm (by decide +kernel) (pa_cons peE (pa_cons peE pa_nil he2) he) (by decide) (by decide) he hpl) fun G σ F H Q o q => ha G σ F H _ o (mi.mono (fun i hx v F' H' o' g' z => by
    refine hb G σ F' H' _ o' (mj.mono (fun j hy u F2 H2 o2 g2 z2 => ?_) (fun _ => EQ.step g') hx)
    obtain rfl : v = .int i := z
    obtain rfl : u = .int j := z2
    refine ⟨i, j, rfl, hy _ F2 H2 o2 (g'.trans g2 owns_tr) ?_⟩
    show V.int _ = V.int _
    congr 1
    split <;> omega) (fun _ z => z) q)
end
section
variable {γ : Type} {ma : Mo γ} {mb : Mo (List γ)} {ρ : γ → Pr} [s : Sc ρ] {k : Bool}
end
theorem eqV_int (i j : Int) : eqV (.int i) (.int j) = decide (V.int i = V.int j) := dec_int.symm
theorem eqV_str (i j : Str) : eqV (.str i) (.str j) = decide (V.str i = V.str j) := dec_str.symm
theorem anyI (i : Int) (xs : List Int) : (xs.any fun y => decide (V.int y = V.int i)) = decide (i ∈ xs) := by
  rw [Bool.eq_iff_iff]
  simp
theorem anyS (i : Str) (xs : List Str) : (xs.any fun y => decide (V.str y = V.str i)) = decide (i ∈ xs) := by
  rw [Bool.eq_iff_iff]
  simp
section
variable {mi : Mo Int} {ms : Mo Str} {mis : Mo (List Int)} {mss : Mo (List Str)} {k : Bool}
end
end
end RF
namespace RF
open PySem PySem.Spec PyProof.Rows L2 KO SX

inductive Fin where
  | ret (R : V → Hp → Hp → Hp → Prop)
  | nx (Γ : Ctx)
  | nxa (Γ : (Nat → Addr) → Ctx)
  | bk (Γ : Ctx)
  | nc (Γ : Ctx)
def FinOk (G : Gf) (Γe : Ctx) (D : Ends) (F0 : Hp) : Fin → Prop
  | .ret R => ∀ v σ F H, Same G.F0 F → Ok G Γe σ F H → R v G.H0 F H → D.rt v H
  | .nx Γ => ∀ σ F H, Same G.F0 F → Ok G Γ σ F H → D.nx σ H
  | .nxa Γ => ∀ f σ F H, Same G.F0 F → Ok G (Γ f) σ F H → D.nx σ H
  | .bk Γ => ∀ σ F H, Same G.F0 F → Ok G Γ σ F H → D.bk σ H
  | .nc Γ => ∀ σ F H, Same G.F0 F → Ok G Γ σ F H → D.nx σ H ∧ D.ct σ H
theorem FinOk.step {G : Gf} {Γe : Ctx} {D : Ends} {F0 F1 : Hp} {z : Fin} (q : FinOk G Γe D F0 z) : FinOk G Γe D F1 z := by
  cases z <;> exact q
def XQ (X : Cx) (W : WX) (G : Gf) (Γe : Ctx) (F0 : Hp) (ex : Ex) : Prop := ∀ cls d σ F H, Same G.F0 F → Ok G Γe σ F H → ErrOk X.K X.mg ex cls d F → W cls d σ H
theorem XQ.step {X : Cx} {W : WX} {G : Gf} {Γe : Ctx} {F0 F1 : Hp} {ex : Ex} (_s : Same F0 F1) (q : XQ X W G Γe F0 ex) : XQ X W G Γe F1 ex := q
theorem XQ.any {X : Cx} {W : WX} {G : Gf} {Γe : Ctx} {F0 F1 : Hp} {ex : Ex} (q : XQ X W G Γe F0 ex) : XQ X W G Γe F1 ex := q
section
variable {α β γ δ : Type}
def RB (X : Cx) (W : WX) (Γe : Ctx) (lv : Bool) (Γ : Ctx) (l : List Stmt) (m : Mo γ) (Z : γ → Fin) : Prop :=
  Le Γe Γ → ∀ G σ F H (D : Ends) (nx' : L2.St → Hp → Prop), (lv = false → nx' = D.nx) → Ok G Γ σ F H → m.run (fun x => FinOk G Γe D F (Z x)) (XQ X W G Γe F) → tSs X l { D with nx := nx' } σ H
variable {X : Cx} {W : WX} {Γe Γ Γ' : Ctx} {lv : Bool} {st : Stmt} {rest : List Stmt} {m : Mo γ} {Z : γ → Fin} {t : TE} {e : Expr} {pos : Pos}
theorem run_fin {G : Gf} {D : Ends} {F F1 : Hp} {m : Mo γ} (_s : Same F F1) (q : m.run (fun x => FinOk G Γe D F (Z x)) (XQ X W G Γe F)) : m.run (fun x => FinOk G Γe D F1 (Z x)) (XQ X W G Γe F1) := m.mono (fun _ => FinOk.step) (fun _ => XQ.any) q
theorem run_any {G : Gf} {D : Ends} {F F1 : Hp} {m : Mo γ} (q : m.run (fun x => FinOk G Γe D F (Z x)) (XQ X W G Γe F)) : m.run (fun x => FinOk G Γe D F1 (Z x)) (XQ X W G Γe F1) := m.mono (fun _ => FinOk.step) (fun _ => XQ.any) q
theorem XQ.eq {G : Gf} {σ : L2.St} {F H : Hp} {ex : Ex} (le : Le Γe Γ) (q : XQ X W G Γe F ex) : EQ X W G Γ σ F H ex := fun c d F' H' o g z => q c d σ F' H' o.go.fs (o.weak le) z
theorem rb_nil {x : γ} (hz : Z x = .nx Γ' ∨ Z x = .nc Γ') (hl : Le Γ' Γ) : RB X W Γe false Γ [] (pure x) Z := fun le G σ F H D nx' hn o q => by
  obtain rfl := hn rfl
  refine tSs_i fun pins s I => pss_nil.run pins s σ H _ I ?_
  have q : FinOk G Γe D F (Z x) := q
  rcases hz with hz | hz
  · rw [hz] at q; exact q σ F H o.go.fs (o.weak hl)
  · rw [hz] at q; exact (q σ F H o.go.fs (o.weak hl)).1
theorem tSs_cons {t : TS} {D : Ends} {σ : L2.St} {H : Hp} (h : PS X st t) (q : t { D with nx := tSs X rest D } σ H) : tSs X (st :: rest) D σ H := by
  unfold tSs
  exact fun pins s I => (pss_cons h pssS).run pins s σ H D I q
theorem rb_set {i : Nat} {me : Mo α} {ρ : α → Pr} {mr : α → Mo γ} (hs : PS X st (tAsg t (gName i))) (he : RTE X W Γ t me (.fz ρ)) (hi : Γe[i]? = some .un) (hr : ∀ x, RB X W Γe lv (Γ.set i (.fz (ρ x))) rest (mr x) Z) : RB X W Γe lv Γ (st :: rest) (me >>= mr) Z := fun le G σ F H D nx' hn o q =>
  tSs_cons hs (he G σ F H _ o (me.mono (fun x hx v F' H' o' g' z => hr x (le.set hi) G _ F' H' D nx' hn (o'.set z) (run_fin g'.fs hx)) (fun _ => XQ.eq le) q))
theorem rb_setO {i : Nat} {me : Mo α} {ρ : α → Po} {mr : α → Mo γ} (hs : PS X st (tAsg t (gName i))) (he : RTE X W Γ t me (.ow ρ)) (hi : Γe[i]? = some .un) (hr : ∀ x a, RB X W Γe lv (Γ.set i (.ow true a (ρ x))) rest (mr x) Z) : RB X W Γe lv Γ (st :: rest) (me >>= mr) Z := fun le G σ F H D nx' hn o q =>
  tSs_cons hs (he G σ F H _ o (me.mono (fun x hx v F' H' o' g' z => by
    obtain ⟨a, u, rfl, h1, h2, h3, h4⟩ := z
    refine hr x a (le.set hi) G _ F' H' D nx' hn (o'.setO ?_ h2 (fun hm => ?_) h3 h4) (run_fin g'.fs hx)
    · cases q : G.H0 a with
      | none => rfl
      | some y =>
        obtain ⟨y', e'⟩ := o.go.th _ _ q
        rw [h1] at e'; cases e'
    · obtain ⟨w, hw⟩ := o.ownH hm
      rw [h1] at hw; cases hw) (fun _ => XQ.eq le) q))
theorem rb_frz {i : Nat} {a : Addr} {q : Po} {p : Pr} (hi : Γ[i]? = some (.ow true a q)) (hc : ∀ u F, F a = some u → q.r u F → p.r (.ref a) F) (he : Γe[i]? = some .un) (hr : RB X W Γe lv (Γ.set i (.fz p)) rest m Z) : RB X W Γe lv Γ rest m Z := fun le G σ F H D nx' hn o r => by
  obtain ⟨u, h1, h2, o2⟩ := o.frz hi
  have s : Same F (upd F a u) := same_upd (o.en i _ hi).2.1
  have hv : σ[i]? = some (some (.ref a)) := (o.en i _ hi).1
  have o3 := o2.set (i := i) (v := .ref a) (p := p) (hc u _ upd_same (q.mono s h2))
  have e1 : (Γ.set i .un).set i (.fz p) = Γ.set i (.fz p) := by simp
  have e2 : σ.set i (some (.ref a)) = σ := by
    refine List.ext_getElem? fun j => ?_
    by_cases hj : i = j
    · subst hj
      rw [List.getElem?_set_self (List.getElem?_eq_some_iff.mp hv).1, hv]
    · rw [List.getElem?_set_ne hj]
  rw [e1, e2] at o3
  exact hr (le.set he) G σ _ H D nx' hn o3 (run_fin s r)
theorem rb_weak (hl : Le Γ' Γ) (he : Le Γe Γ') (hr : RB X W Γe lv Γ' rest m Z) : RB X W Γe lv Γ rest m Z := fun _ G σ F H D nx' hn o r => hr he G σ F H D nx' hn (o.weak hl) r
theorem rb_expr {me : Mo α} {ρ : α → Pr} {mr : α → Mo γ} (hs : PS X st (tDrop t)) (he : RTE X W Γ t me (.fz ρ)) (hr : ∀ x, RB X W Γe lv Γ rest (mr x) Z) : RB X W Γe lv Γ (st :: rest) (me >>= mr) Z := fun le G σ F H D nx' hn o q =>
  tSs_cons hs (he G σ F H _ o (me.mono (fun x hx v F' H' o' g' z => hr x le G σ F' H' D nx' hn o' (run_fin g'.fs hx)) (fun _ => XQ.eq le) q))
theorem rb_ret {me : Mo α} {k : RK α} (kx : α → γ) (he : RE X W Γ e me k) (hz : ∀ x, Z (kx x) = .ret (k.ok x)) : RB X W Γe lv Γ (.Return (some e) pos :: rest) (me >>= fun x => pure (kx x)) Z := fun le G σ F H D nx' hn o q =>
  tSs_cons (ps_ret peE) (he G σ F H _ o (me.mono (fun x hx v F' H' o' g' z => by
    have hx : FinOk G Γe D F (Z (kx x)) := hx
    rw [hz x] at hx
    exact hx v σ F' H' o'.go.fs (o'.weak le) (z.back o.go.th)) (fun _ => XQ.eq le) q))
theorem rb_retO {i : Nat} {a : Addr} {q : Po} {x : Str} {p : Pos} {y : γ} {z : δ} {k : δ → Po} (hi : Γ[i]? = some (.ow true a q)) (hp : PE X (.Name x p) (tVar i)) (hz : Z y = .ret ((RK.ow k).ok z)) (hk : k z = q) : RB X W Γe lv Γ (.Return (some (.Name x p)) pos :: rest) (pure y) Z := fun le G σ F H D nx' hn o r =>
  tSs_cons (ps_ret hp) (by
    have r : FinOk G Γe D F (Z y) := r
    rw [hz] at r
    obtain ⟨h1, h2, h3, u, h4, h5⟩ := o.en i _ hi
    exact ⟨.ref a, h1, r _ σ F H o.go.fs (o.weak le) ⟨a, u, rfl, h3, h2, h4, by rw [hk]; exact h5⟩⟩)
theorem rb_if1 {c : Expr} {a : List Stmt} {mc : Mo Bool} {ma mr : Mo γ} (hc : RT X W Γ c mc) (ha : RB X W Γe true Γ a ma Z) (hr : RB X W Γe lv Γ rest mr Z) : RB X W Γe lv Γ (.If c a [] pos :: rest) (mc >>= fun b => if b = true then ma else mr) Z := fun le G σ F H D nx' hn o q =>
  tSs_cons (ps_if ptT pssS pss_nil) (hc G σ F H _ o (mc.mono (fun b hx F' H' o' g' => by
    cases b with
    | true => exact iteT (ha le G σ F' H' D _ (fun z => by cases z) o' (run_fin g'.fs (by simpa using hx)))
    | false => exact iteF (hr le G σ F' H' D nx' hn o' (run_fin g'.fs (by simpa using hx)))) (fun _ => XQ.eq le) q))
theorem rb_if0 {c : Expr} {a b : List Stmt} {mc : Mo Bool} {ma mb : Mo γ} (hc : RT X W Γ c mc) (ha : RB X W Γe lv Γ a ma Z) (hb : RB X W Γe lv Γ b mb Z) : RB X W Γe lv Γ [.If c a b pos] (mc >>= fun k => if k = true then ma else mb) Z := fun le G σ F H D nx' hn o q => by
  refine tSs_i fun pins s I => (pss_one (ps_if ptT pssS pssS)).run pins s σ H _ I ?_
  exact hc G σ F H _ o (mc.mono (fun k hx F' H' o' g' => by
    cases k with
    | true => exact iteT (ha le G σ F' H' D nx' hn o' (run_fin g'.fs (by simpa using hx)))
    | false => exact iteF (hb le G σ F' H' D nx' hn o' (run_fin g'.fs (by simpa using hx)))) (fun _ => XQ.eq le) q)
theorem rb_ifJ {c : Expr} {a b : List Stmt} {mc : Mo Bool} {ma mb : Mo δ} {mr : δ → Mo γ} (Γj : δ → Ctx) (hc : RT X W Γ c mc) (ha : RB X W Γe false Γ a ma (fun j => .nx (Γj j))) (hb : RB X W Γe false Γ b mb (fun j => .nx (Γj j))) (hl : ∀ j, Le Γe (Γj j)) (hr : ∀ j, RB X W Γe lv (Γj j) rest (mr j) Z) :
    RB X W Γe lv Γ (.If c a b pos :: rest) (mc >>= fun k => (if k = true then ma else mb) >>= mr) Z := fun le G σ F H D nx' hn o q =>
  tSs_cons (ps_if ptT pssS pssS) (hc G σ F H _ o (mc.mono (fun k hx F' H' o' g' => by
    have key : ∀ j, (mr j).run (fun x => FinOk G Γe D F (Z x)) (XQ X W G Γe F) → FinOk G Γe { D with nx := tSs X rest { D with nx := nx' } } F' (.nx (Γj j)) := fun j hj σ2 F2 H2 s2 o2 => hr j (hl j) G σ2 F2 H2 D nx' hn o2 (run_any hj)
    cases k with
    | true => exact iteT (ha le G σ F' H' { D with nx := tSs X rest { D with nx := nx' } } _ (fun _ => rfl) o' (ma.mono key (fun _ => XQ.step g'.fs) (by simpa using hx)))
    | false => exact iteF (hb le G σ F' H' { D with nx := tSs X rest { D with nx := nx' } } _ (fun _ => rfl) o' (mb.mono key (fun _ => XQ.step g'.fs) (by simpa using hx)))) (fun _ => XQ.eq le) q))
variable {ρ : α → Pr} {i : Nat} {l : Bool} {ad : Addr} {xs : List α}
theorem rb_app {me : Mo α} {mr : α → Mo γ} (hs : PS X st (tDrop (tBM X.K "list" rAppend (tVar i) (tCons (tE X e) tNil)))) (hi : Γ[i]? = some (.ow l ad (oL ρ xs))) (he : RE X W Γ e me (.fz ρ)) (hie : Γe[i]? = some .un) (hr : ∀ x, RB X W Γe lv (Γ.set i (.ow l ad (oL ρ (xs ++ [x])))) rest (mr x) Z) :
    RB X W Γe lv Γ (st :: rest) (me >>= fun x => Mo.rq (xs.length < sizeLine) x >>= mr) Z := fun le G σ F H D nx' hn o q =>
  tSs_cons hs (by
    obtain ⟨h1, _, _, u, hu, vs, rfl, hps⟩ := o.en i _ hi
    refine ⟨.ref ad, h1, .inl ⟨rfl, vs, SqL.of hu⟩, ?_⟩
    refine he G σ F H _ o (me.mono (fun x hx v F' H' o' g' z => ?_) (fun _ => XQ.eq le) q)
    obtain ⟨_, _, _, u2, hu2, vs2, rfl, hps2⟩ := o'.en i _ hi
    refine ⟨ad, vs2, v, rfl, rfl, hu2, by rw [hps2.len, List.length_map]; exact hx.1, ?_⟩
    refine hr x (le.set hie) G σ F' _ D nx' hn (o'.put (q := oL ρ (xs ++ [x])) hi ⟨_, rfl, ?_⟩) (run_fin g'.fs hx.2)
    rw [List.map_append]
    exact hps2.app ⟨z, trivial⟩)
theorem rb_setix {ei : Expr} {me : Mo α} {mi : Mo Int} {mr : α → Int → Nat → Mo γ} (hs : PS X st (tAsg (tE X e) (gSub (tVar i) (tE X ei) rSetL))) (hi : Γ[i]? = some (.ow l ad (oL ρ xs))) (he : RE X W Γ e me (.fz ρ)) (hj : RE X W Γ ei mi (.fz rI)) (hie : Γe[i]? = some .un)
    (hr : ∀ x j n, RB X W Γe lv (Γ.set i (.ow l ad (oL ρ (xs.set n x)))) rest (mr x j n) Z) :
    RB X W Γe lv Γ (st :: rest) (me >>= fun x => mi >>= fun j => Mo.get (ixN xs.length j) >>= fun n => mr x j n) Z := fun le G σ F H D nx' hn o q =>
  tSs_cons hs (by
    refine he G σ F H _ o (me.mono (fun x hx v F1 H1 o1 g1 z1 => ?_) (fun _ => XQ.eq le) q)
    refine ⟨.ref ad, (o1.en i _ hi).1, ?_⟩
    refine hj G σ F1 H1 _ o1 (mi.mono (fun j hx w F2 H2 o2 g2 z2 => ?_) (fun _ z => XQ.eq le (XQ.step g1.fs z)) hx)
    obtain ⟨_, _, _, u, hu, vs, rfl, hps⟩ := o2.en i _ hi
    obtain ⟨n, hn', hx⟩ := hx
    refine ⟨ad, vs, j, n, rfl, z2, hu, by rw [hps.len, List.length_map]; exact hn', ?_⟩
    refine hr x j n (le.set hie) G σ F2 _ D nx' hn (o2.put (q := oL ρ (xs.set n x)) hi ⟨_, rfl, ?_⟩) (run_fin (g1.fs.trans g2.fs) hx)
    rw [List.map_set]
    exact hps.set n ((ρ x).mono g2.fs z1))
end
end RF
namespace RF
open PySem PySem.Spec PyProof.Rows L2 KO SX

def Src {α : Type} (J : It) (xs : List α) (ρ : α → Pr) (F1 : Hp) : Prop :=
  ∀ F2 H2, Same F1 F2 → Same F2 H2 → (∀ i, i < xs.length → J.go i H2) ∧ J.stop xs.length H2 ∧ ∀ i x v H3, xs[i]? = some x → J.yld i H2 v H3 → ∃ F3, Go [] F2 H2 F3 H3 ∧ (ρ x).r v F3
section
variable {α β γ δ : Type} {X : Cx} {W : WX} {Γe Γ Γ' : Ctx} {lv : Bool} {e tg iter : Expr} {pos : Pos}
def RI (X : Cx) (W : WX) (Γ : Ctx) (wi : TI) (m : Mo (List α)) (ρ : α → Pr) : Prop := ∀ G σ F H R, Ok G Γ σ F H → m.run (fun xs => ∀ J F' H', Ok G Γ σ F' H' → Go (owns Γ) F H F' H' → Src J xs ρ F' → R J H') (EQ X W G Γ σ F H) → wi σ H R
variable {m : Mo (List α)} {ρ : α → Pr}
theorem src_list {K : PySem.W.Frag} {F : Hp} {a : Addr} {vs : List V} {xs : List α} (h : F a = some (.lst vs)) (hp : Ps F (xs.map ρ) vs) : Src (Itl K a) xs ρ F := fun F2 H2 s1 s2 => by
  have h2 : SqL K H2 a vs := SqL.of (s2 _ _ (s1 _ _ h))
  have w := walk_list (K := K) (a := a) (xs := vs)
  have hl : vs.length = xs.length := by rw [hp.len, List.length_map]
  refine ⟨fun i hi => w.goes i H2 (by rw [hl]; exact hi) h2, hl ▸ w.stops H2 h2, fun i x v H3 hx y => ?_⟩
  obtain ⟨rfl, e⟩ := w.yields i H2 v H3 (by rw [hl]; exact (List.getElem?_eq_some_iff.mp hx).1) h2 y
  obtain ⟨u, h3, h4⟩ := hp.get (i := i) (p := ρ x) (by rw [List.getElem?_map, hx]; rfl)
  rw [e] at h3
  cases h3
  exact ⟨F2, Go.refl s2, (ρ x).mono s1 h4⟩
theorem src_tup {K : PySem.W.Frag} {F : Hp} {a : Addr} {vs : List V} {xs : List α} (h : Rd F a (.tup vs)) (hp : Ps F (xs.map ρ) vs) : Src (Itt K a) xs ρ F := fun F2 H2 s1 s2 => by
  have h2 : SqT K H2 a vs := SqT.ofR (Rd.mono h (s1.trans s2))
  have w := walk_tup (K := K) (a := a) (xs := vs)
  have hl : vs.length = xs.length := by rw [hp.len, List.length_map]
  refine ⟨fun i hi => w.goes i H2 (by rw [hl]; exact hi) h2, hl ▸ w.stops H2 h2, fun i x v H3 hx y => ?_⟩
  obtain ⟨rfl, e⟩ := w.yields i H2 v H3 (by rw [hl]; exact (List.getElem?_eq_some_iff.mp hx).1) h2 y
  obtain ⟨u, h3, h4⟩ := hp.get (i := i) (p := ρ x) (by rw [List.getElem?_map, hx]; rfl)
  rw [e] at h3
  cases h3
  exact ⟨F2, Go.refl s2, (ρ x).mono s1 h4⟩
theorem ri_list (h : RE X W Γ e m (.fz (rL ρ))) : RI X W Γ (iList X.K (tE X e)) m ρ := fun G σ F H R o q => by
  refine h G σ F H _ o (m.mono (fun xs hx v F' H' o' g' z => ?_) (fun _ z => z) q)
  obtain ⟨a, vs, rfl, h1, h2⟩ := z
  exact ⟨a, rfl, ⟨vs, SqL.of (o'.le _ _ h1)⟩, hx _ F' H' o' g' (src_list h1 h2)⟩
theorem ri_tup (h : RE X W Γ e m (.fz (rTs ρ))) : RI X W Γ (iTup X.K (tE X e)) m ρ := fun G σ F H R o q => by
  refine h G σ F H _ o (m.mono (fun xs hx v F' H' o' g' z => ?_) (fun _ z => z) q)
  obtain ⟨a, vs, rfl, h1, h2⟩ := z
  exact ⟨a, rfl, ⟨vs, SqT.ofR (Rd.mono h1 o'.le)⟩, hx _ F' H' o' g' (src_tup h1 h2)⟩
def rangeL (lo : Int) (n : Nat) : List Int := (List.range n).map fun (i : Nat) => lo + (i : Int)
theorem src_range {lo : Int} {n : Nat} {F : Hp} : Src (Itr lo n) (rangeL lo n) rI F := fun F2 H2 s1 s2 => by
  have w := walk_range (lo := lo) (n := n)
  have hl : (rangeL lo n).length = n := by simp [rangeL]
  refine ⟨fun i hi => w.goes i H2 (by rw [← hl]; exact hi) trivial, by rw [hl]; exact w.stops H2 trivial, fun i x v H3 hx y => ?_⟩
  have hi : i < n := by rw [← hl]; exact (List.getElem?_eq_some_iff.mp hx).1
  obtain ⟨rfl, e⟩ := w.yields i H2 v H3 hi trivial y
  refine ⟨F2, Go.refl s2, ?_⟩
  have : x = lo + (i : Int) := by
    simp [rangeL, List.getElem?_map, List.getElem?_range hi] at hx
    exact hx.symm
  rw [this]
  exact e
theorem ri_range1 {me : Mo Int} (h : RE X W Γ e me (.fz rI)) : RI X W Γ (iRng1 (tCons (tE X e) tNil)) (me >>= fun j => Mo.rq (-(2 ^ 62) ≤ j ∧ j < 2 ^ 62) (rangeL 0 j.toNat)) rI := fun G σ F H R o q => by
  refine h G σ F H _ o (me.mono (fun j hx v F' H' o' g' z => ?_) (fun _ z => z) q)
  obtain rfl : v = .int j := z
  exact ⟨j, rfl, hx.1.1, hx.1.2, hx.2 _ F' H' o' g' src_range⟩
theorem ri_range2 {a b : Expr} {ma mb : Mo Int} (ha : RE X W Γ a ma (.fz rI)) (hb : RE X W Γ b mb (.fz rI)) : RI X W Γ (iRng2 (tCons (tE X a) (tCons (tE X b) tNil))) (ma >>= fun i => mb >>= fun j => Mo.rq (-(2 ^ 62) ≤ i ∧ i < 2 ^ 62 ∧ -(2 ^ 62) ≤ j ∧ j < 2 ^ 62) (rangeL i (j - i).toNat)) rI := fun G σ F H R o q => by
  refine ha G σ F H _ o (ma.mono (fun i hx v F' H' o' g' z => ?_) (fun _ z => z) q)
  refine hb G σ F' H' _ o' (mb.mono (fun j hy u F2 H2 o2 g2 z2 => ?_) (fun _ => EQ.step g') hx)
  obtain rfl : v = .int i := z
  obtain rfl : u = .int j := z2
  exact ⟨i, j, rfl, hy.1, hy.2 _ F2 H2 o2 (g'.trans g2 owns_tr) src_range⟩
def enumL (xs : List α) : List (Int × α) := (List.range xs.length).zipWith (fun i x => ((i : Nat), x)) xs
theorem enumL_get {xs : List α} {i : Nat} : (enumL xs)[i]? = xs[i]?.map fun x => ((i : Int), x) := by
  unfold enumL
  rw [List.getElem?_zipWith]
  by_cases h : i < xs.length
  · rw [List.getElem?_range h, List.getElem?_eq_getElem h]
    rfl
  · rw [List.getElem?_eq_none (by simpa using h), List.getElem?_eq_none (by simpa using h)]
    rfl
theorem enumL_len {xs : List α} : (enumL xs).length = xs.length := by simp [enumL]
theorem src_pair {J : It} {n : Nat} {Gd : Hp → Prop} {us ws : Nat → Option V} (w : Walk J n Gd (YPair us ws)) {ys : List β} {π : β → Pr} {σ τ : β → Pr} {F : Hp} (hn : ys.length = n) (hg : ∀ F2 H2, Same F F2 → Same F2 H2 → Gd H2)
    (hy : ∀ i y u v, ys[i]? = some y → us i = some u → ws i = some v → (σ y).r u F ∧ (τ y).r v F) (hπ : ∀ y, π y = rTu [σ y, τ y]) : Src J ys π F := fun F2 H2 s1 s2 => by
  have g := hg F2 H2 s1 s2
  refine ⟨fun i hi => w.goes i H2 (by rw [← hn]; exact hi) g, by rw [hn]; exact w.stops H2 g, fun i y v H3 hx q => ?_⟩
  obtain ⟨T, u, x, rfl, hT, rfl, e1, e2⟩ := w.yields i H2 v H3 (by rw [← hn]; exact (List.getElem?_eq_some_iff.mp hx).1) g q
  obtain ⟨k1, k2⟩ := hy i y u x hx e1 e2
  have gn : Go [] F2 H2 (upd F2 T (.tup [u, x])) (upd H2 T (.tup [u, x])) := Go.new s2 hT
  refine ⟨_, gn, ?_⟩
  rw [hπ y]
  exact ⟨T, _, rfl, .inl upd_same, (σ y).mono (s1.trans gn.fs) k1, (τ y).mono (s1.trans gn.fs) k2, trivial⟩
theorem src_enum {K : PySem.W.Frag} {F : Hp} {a : Addr} {vs : List V} {xs : List α} (h : F a = some (.lst vs)) (hp : Ps F (xs.map ρ) vs) : Src (Ite K a) (enumL xs) (rT2 rI ρ) F := by
  have hl : vs.length = xs.length := by rw [hp.len, List.length_map]
  refine src_pair (β := Int × α) (walk_enum (K := K) (a := a) (xs := vs)) (σ := fun y => rI y.1) (τ := fun y => ρ y.2) (by rw [enumL_len, hl]) (fun F2 H2 s1 s2 => SqL.of (s2 _ _ (s1 _ _ h))) (fun i y u v hy e1 e2 => ?_) (fun _ => rfl)
  rw [enumL_get] at hy
  cases q : xs[i]? with
  | none => rw [q] at hy; cases hy
  | some x =>
    rw [q] at hy
    obtain rfl := Option.some.inj hy
    cases e1
    obtain ⟨w, h3, h4⟩ := hp.get (i := i) (p := ρ x) (by rw [List.getElem?_map, q]; rfl)
    rw [e2] at h3
    cases h3
    exact ⟨rfl, h4⟩
theorem ri_enum (h : RE X W Γ e m (.fz (rL ρ))) : RI X W Γ (iEnum X.K (tCons (tE X e) tNil)) (m >>= fun xs => pure (enumL xs)) (rT2 rI ρ) := fun G σ F H R o q => by
  refine h G σ F H _ o (m.mono (fun xs hx v F' H' o' g' z => ?_) (fun _ z => z) q)
  obtain ⟨a, vs, rfl, h1, h2⟩ := z
  exact ⟨a, vs, rfl, SqL.of (o'.le _ _ h1), hx _ F' H' o' g' (src_enum h1 h2)⟩
def RG (K : PySem.W.Frag) (g : TG) (p : Pr) (f : Ctx → Ctx) (vs : List Nat) : Prop := ∀ G Γ σ F H Q v, Ok G Γ σ F H → p.r v F → (∀ σ', Ok G (f Γ) σ' F H → wipe σ' vs = wipe σ vs → Q σ' H) → g v σ H Q
theorem wipe_set {σ : L2.St} {i : Nat} {v : Option V} : ∀ {vs : List Nat}, i ∈ vs → wipe (σ.set i v) vs = wipe σ vs
  | [], h => by simp at h
  | j :: vs, h => by
    unfold wipe
    by_cases hj : j = i
    · subst hj
      by_cases hm : j ∈ vs
      · rw [wipe_set hm]
      · clear h
        -- set commutes with the wiping of others, and is then overwritten
        have key : ∀ ws : List Nat, j ∉ ws → wipe (σ.set j v) ws = (wipe σ ws).set j v := by
          intro ws
          induction ws with
          | nil => intro _; rfl
          | cons k ws ih =>
            intro hk
            unfold wipe
            rw [ih (fun h => hk (List.mem_cons_of_mem _ h)), List.set_comm _ _ (fun e => hk (by rw [e]; exact List.mem_cons_self))]
        rw [key vs hm, List.set_set]
    · rw [wipe_set ((List.mem_cons.mp h).resolve_left (fun e => hj e.symm))]
theorem rg_name {K : PySem.W.Frag} {p : Pr} {i : Nat} : RG K (gName i) p (fun Γ => Γ.set i (.fz p)) [i] := fun G Γ σ F H Q v o hv q => q _ (o.set hv) (wipe_set (by simp))
def setAll : List Nat → List Pr → Ctx → Ctx
  | i :: is, p :: ps, Γ => setAll is ps (Γ.set i (.fz p))
  | _, _, Γ => Γ
def gNames : List Nat → TGs
  | [] => gNil
  | i :: is => gCons (gName i) (gNames is)
theorem rg_names {G : Gf} {F H : Hp} : ∀ {is : List Nat} {ps : List Pr} {vs : List V} {Γ : Ctx} {σ : L2.St} {ws : List Nat} {Q : L2.St → Hp → Prop}, is.length = ps.length → Ok G Γ σ F H → Ps F ps vs → (∀ i ∈ is, i ∈ ws) → (∀ σ', Ok G (setAll is ps Γ) σ' F H → wipe σ' ws = wipe σ ws → Q σ' H) → gNames is vs σ H Q
  | [], [], [], _, σ, _, _, _, o, _, _, q => ⟨rfl, q σ o rfl⟩
  | i :: is, p :: ps, v :: vs, Γ, σ, ws, Q, hl, o, h, hw, q => ⟨v, vs, rfl, rg_names (by simpa using hl) (o.set h.1) h.2 (fun j hj => hw j (List.mem_cons_of_mem _ hj)) fun σ' o' e => q σ' o' (e.trans (wipe_set (hw i List.mem_cons_self)))⟩
  | [], [], _ :: _, _, _, _, _, _, _, h, _, _ => h.elim
  | _ :: _, _ :: _, [], _, _, _, _, _, _, h, _, _ => h.elim
  | [], _ :: _, _, _, _, _, _, hl, _, _, _, _ => by simp at hl
  | _ :: _, [], _, _, _, _, _, hl, _, _, _, _ => by simp at hl
theorem rg_tup {K : PySem.W.Frag} {ps : List Pr} (is : List Nat) (hl : is.length = ps.length) : RG K (gTup K ps.length (gNames is)) (rTu ps) (setAll is ps) is := fun G Γ σ F H Q v o hv q => by
  obtain ⟨a, vs, rfl, h1, h2⟩ := hv
  exact ⟨a, vs, rfl, SqT.ofR (Rd.mono h1 o.le), h2.len, rg_names hl o h2 (fun _ h => h) q⟩

inductive Lp (S α : Type) where
  | go (s : S)
  | brk (s : S)
  | ret (a : α)
def Mo.loop {S : Type} (f : S → β → Mo (Lp S δ)) : List β → S → Mo (Lp S δ)
  | [], s => pure (.go s)
  | x :: xs, s => f s x >>= fun o => match o with
    | .go s' => Mo.loop f xs s'
    | .brk s' => pure (.brk s')
    | .ret a => pure (.ret a)
def Mo.fold {S : Type} (f : S → β → Mo S) : List β → S → Mo S
  | [], s => pure s
  | x :: xs, s => f s x >>= fun s' => Mo.fold f xs s'
def Lp.fin {S : Type} (ΓI : S → Ctx) (Zr : δ → Fin) : Lp S δ → Fin
  | .go s => .nc (ΓI s)
  | .brk s => .bk (ΓI s)
  | .ret a => Zr a
def Lp.out {S : Type} (mr : S → Mo γ) (kr : δ → γ) : Lp S δ → Mo γ
  | .go s => mr s
  | .brk s => mr s
  | .ret a => pure (kr a)
section
variable {S : Type} {Z : γ → Fin} {st : Stmt} {rest body : List Stmt} {wi : TI} {g : TG} {mi : Mo (List β)} {ρi : β → Pr}
def noLk : Ctx → Bool
  | [] => true
  | .lk true _ _ :: _ => false
  | _ :: l => noLk l
theorem noLk.get : ∀ {Γ : Ctx} {i : Nat} {h : Hp} {p : Pr}, noLk Γ = true → Γ[i]? = some (.lk true h p) → False
  | [], _, _, _, _, e => by simp at e
  | en :: l, 0, h, p, n, e => by
    simp at e
    subst e
    cases n
  | en :: l, i + 1, h, p, n, e => noLk.get (Γ := l) (i := i) (by cases en with
    | lk f h p => cases f with
      | true => cases n
      | false => exact n
    | _ => exact n) (by simpa using e)
theorem Ok.reb {G : Gf} {Γ : Ctx} {σ : L2.St} {F H : Hp} (o : Ok G Γ σ F H) (n : noLk Γ = true) : Ok ⟨F, G.H0, G.M⟩ Γ σ F H where
  go := ⟨Same.refl _, o.le, o.go.hs, fun _ _ _ h => h, o.go.th⟩
  en := fun i e he => by
    have z := o.en i e he
    cases e with
    | un => trivial
    | fz p => exact z
    | ow l a q => exact z
    | lk f h p => cases f with
      | true => exact (noLk.get n he).elim
      | false => exact ⟨z.1, fun b hb => ⟨(z.2.1 b hb).1, fun x => by cases x⟩, z.2.2⟩
  ap := o.ap
  ln := o.ln
theorem Ok.unreb {G : Gf} {Γ Γ2 : Ctx} {σ σ2 : L2.St} {F H F2 H2 : Hp} (o : Ok G Γ σ F H) (o2 : Ok ⟨F, G.H0, G.M⟩ Γ2 σ2 F2 H2) : Ok G Γ2 σ2 F2 H2 where
  go := ⟨o.go.fs.trans o2.go.fs, o2.le, o2.go.hs, fun b x e f => o2.go.fr b x e (o.go.fr b x e f), o2.go.th⟩
  en := fun i e he => by
    have z := o2.en i e he
    cases e with
    | un => trivial
    | fz p => exact z
    | ow l a q => exact z
    | lk f h p => exact ⟨z.1, fun b hb => ⟨(z.2.1 b hb).1, fun hf => by
        have k := (z.2.1 b hb).2 hf
        cases e : G.F0 b with
        | none => rfl
        | some x =>
          have k : F b = none := k
          rw [o.go.fs _ _ e] at k; cases k⟩, z.2.2⟩
  ap := o2.ap
  ln := o2.ln
theorem rb_for {s0 : S} {vs : List Nat} (ΓI : S → Ctx) (tg : β → Ctx → Ctx) {mb : S → β → Mo (Lp S δ)} {mr : S → Mo γ} {kr : δ → γ} {Zr : δ → Fin} (hs : PS X st (tFor wi g (tSs X body))) (hi : RI X W Γ wi mi ρi) (hg : ∀ x, RG X.K g (ρi x) (tg x) vs)
    (h0 : Le (ΓI s0) Γ) (hle : ∀ s, Le Γe (ΓI s)) (hlt : ∀ x s, Le Γe (tg x (ΓI s))) (hb : ∀ s x, RB X W Γe false (tg x (ΓI s)) body (mb s x) (Lp.fin ΓI Zr)) (hz : ∀ a, Z (kr a) = Zr a) (hret : ∀ a, ∃ R, Zr a = .ret R) (hr : ∀ s, RB X W Γe lv (ΓI s) rest (mr s) Z) (hk : ∀ s, noLk (ΓI s) = true := by intro _; rfl) :
    RB X W Γe lv Γ (st :: rest) (mi >>= fun xs => Mo.loop mb xs s0 >>= Lp.out mr kr) Z := fun le G σ F H D nx' hn o q =>
  tSs_cons hs (by
    refine hi G σ F H _ o (mi.mono (fun xs hx J F' H' o' g' src => ?_) (fun _ => XQ.eq le) q)
    let Fn : Hp → Lp S δ → Prop := fun F2 l => (Lp.out mr kr l).run (fun x => FinOk G Γe D F2 (Z x)) (XQ X W G Γe F2)
    have fstep : ∀ {A B : Hp} {l : Lp S δ}, Fn A l → Fn B l := fun h => run_any h
    have hx : (Mo.loop mb xs s0).run (Fn F') (XQ X W G Γe F') := Mo.mono _ (fun l h => fstep h) (fun _ => XQ.any) hx
    refine ⟨fun i k σ2 H2 => k = xs.length - i ∧ i ≤ xs.length ∧ ∃ s F2, Ok G (ΓI s) σ2 F2 H2 ∧ Same F' F2 ∧ (Mo.loop mb (xs.drop i) s).run (Fn F2) (XQ X W G Γe F2), ⟨_, rfl, Nat.zero_le _, s0, F', o'.weak h0, Same.refl _, hx⟩, ?_⟩
    rintro i k σ2 H2 ⟨rfl, hik, s, F2, o2, s2, r⟩
    obtain ⟨w1, w2, w3⟩ := src F2 H2 s2 o2.le
    by_cases hlt' : i < xs.length
    · refine .inr ⟨w1 i hlt', fun σ' H' => ∃ m', m' < xs.length - i ∧ m' = xs.length - (i + 1) ∧ i + 1 ≤ xs.length ∧ ∃ s F2, Ok G (ΓI s) σ' F2 H' ∧ Same F' F2 ∧ (Mo.loop mb (xs.drop (i + 1)) s).run (Fn F2) (XQ X W G Γe F2), fun σ' H' ⟨m', h1, h2, h3, h4⟩ => ⟨m', h1, h2, h3, h4⟩, fun v H3 y => ?_⟩
      have hget : xs[i]? = some xs[i] := List.getElem?_eq_getElem hlt'
      obtain ⟨F3, g3, hv⟩ := w3 i xs[i] v H3 hget y
      have o3 : Ok G (ΓI s) σ2 F3 H3 := o2.move g3 (fun _ h => by simp at h)
      have o3r := o3.reb (hk s)
      refine hg xs[i] ⟨F3, G.H0, G.M⟩ _ σ2 F3 H3 _ v o3r hv fun σ4 o4 _ => ?_
      rw [List.drop_eq_getElem_cons hlt'] at r
      refine hb s xs[i] (hlt _ _) ⟨F3, G.H0, G.M⟩ σ4 F3 H3 { nx := _, rt := D.rt, bk := tSs X rest { D with nx := nx' }, ct := _ } _ (fun _ => rfl) o4 (Mo.mono _ (fun l hl => ?_) (fun _ hq cls d σ6 F6 H6 _ o6 z => hq cls d σ6 F6 H6 (o3.unreb o6).go.fs (o3.unreb o6) z) r)
      have next : ∀ s', (Mo.loop mb (xs.drop (i + 1)) s').run (Fn F2) (XQ X W G Γe F2) → ∀ σ5 F5 H5, Same F3 F5 → Ok G (ΓI s') σ5 F5 H5 → ∃ m', m' < xs.length - i ∧ m' = xs.length - (i + 1) ∧ i + 1 ≤ xs.length ∧ ∃ s F2, Ok G (ΓI s) σ5 F2 H5 ∧ Same F' F2 ∧ (Mo.loop mb (xs.drop (i + 1)) s).run (Fn F2) (XQ X W G Γe F2) := fun s' hl σ5 F5 H5 s5 o5 =>
        ⟨_, by omega, rfl, by omega, s', F5, o5, (s2.trans g3.fs).trans s5, Mo.mono _ (fun l h => fstep h) (fun _ => XQ.any) hl⟩
      cases l with
      | go s' =>
        have hl : (Mo.loop mb (xs.drop (i + 1)) s').run (Fn F2) (XQ X W G Γe F2) := hl
        exact fun σ5 F5 H5 s5 o5 => ⟨next s' hl σ5 F5 H5 s5 (o3.unreb o5), next s' hl σ5 F5 H5 s5 (o3.unreb o5)⟩
      | brk s' =>
        have hl : Fn F2 (.brk s') := hl
        exact fun σ5 F5 H5 s5 o5 => hr s' (hle s') G σ5 F5 H5 D nx' hn (o3.unreb o5) (run_any hl)
      | ret a =>
        have hl : FinOk G Γe D F2 (Z (kr a)) := hl
        rw [hz a] at hl
        obtain ⟨R, hR⟩ := hret a
        show FinOk ⟨F3, G.H0, G.M⟩ Γe _ F3 (Zr a)
        rw [hR] at hl ⊢
        exact fun v5 σ5 F5 H5 s5 o5 => hl v5 σ5 F5 H5 (o3.unreb o5).go.fs (o3.unreb o5)
    · have e : i = xs.length := by omega
      subst e
      refine .inl ⟨w2, ?_⟩
      rw [List.drop_length] at r
      have r : Fn F2 (.go s) := r
      exact hr s (hle s) G σ2 F2 H2 D nx' hn o2 r)
theorem loop_fold {f : S → β → Mo S} {R : Lp S δ → Prop} {E : Ex → Prop} : ∀ (xs : List β) (s : S), (Mo.fold f xs s).run (fun s => R (.go s)) E → (Mo.loop (fun s x => f s x >>= fun s' => pure (Lp.go s')) xs s).run R E
  | [], _, h => h
  | x :: xs, s, h => (f s x).mono (fun s' hs' => loop_fold xs s' hs') (fun _ h => h) h
theorem rb_forF {s0 : S} {vs : List Nat} (ΓI : S → Ctx) (tg : β → Ctx → Ctx) {mb : S → β → Mo S} {mr : S → Mo γ} (hs : PS X st (tFor wi g (tSs X body))) (hi : RI X W Γ wi mi ρi) (hg : ∀ x, RG X.K g (ρi x) (tg x) vs)
    (h0 : Le (ΓI s0) Γ) (hle : ∀ s, Le Γe (ΓI s)) (hlt : ∀ x s, Le Γe (tg x (ΓI s))) (hb : ∀ s x, RB X W Γe false (tg x (ΓI s)) body (mb s x) (fun s' => .nc (ΓI s'))) (hr : ∀ s, RB X W Γe lv (ΓI s) rest (mr s) Z) (hk : ∀ s, noLk (ΓI s) = true := by intro _; rfl) :
    RB X W Γe lv Γ (st :: rest) (mi >>= fun xs => Mo.fold mb xs s0 >>= mr) Z := by
  have hb' : ∀ s x, RB X W Γe false (tg x (ΓI s)) body (mb s x >>= fun s' => pure (Lp.go (α := Empty) s')) (Lp.fin ΓI fun a => a.elim) := fun s x le G σ F H D nx' hn o q => hb s x le G σ F H D nx' hn o q
  have h := rb_for (δ := Empty) (kr := fun a => a.elim) (Z := Z) (γ := γ) ΓI tg hs hi hg h0 hle hlt hb' (fun a => a.elim) (fun a => a.elim) hr hk
  refine fun le G σ F H D nx' hn o q => h le G σ F H D nx' hn o (mi.mono (fun xs hx => ?_) (fun _ h => h) q)
  exact loop_fold xs s0 hx
end
end
end RF
namespace RF
open PySem PySem.Spec PyProof.Rows L2 KO SX

section
variable {α β γ δ : Type} {X : Cx} {W : WX} {Γe Γ Γ' : Ctx} {lv : Bool}
def whN {S : Type} (c : S → Mo Bool) (f : S → Mo (Lp S δ)) : Nat → S → (Lp S δ → Prop) → (Ex → Prop) → Prop
  | 0, _, _, _ => False
  | n + 1, s, Q, E => (c s).run (fun b => if b = true then (f s).run (fun l => match l with
      | .go s' => whN c f n s' Q E
      | .brk s' => Q (.brk s')
      | .ret a => Q (.ret a)) E else Q (.go s)) E
theorem whN_mono {S : Type} {c : S → Mo Bool} {f : S → Mo (Lp S δ)} {Q Q' : Lp S δ → Prop} {E E' : Ex → Prop} (hq : ∀ x, Q x → Q' x) (he : ∀ x, E x → E' x) : ∀ (n : Nat) (s : S), whN c f n s Q E → whN c f n s Q' E'
  | 0, _, h => h
  | n + 1, s, h => (c s).mono (fun b hb => by
      cases b with
      | true =>
        rw [if_pos rfl] at hb ⊢
        refine (f s).mono (fun l hl => ?_) he hb
        cases l with
        | go s' => exact whN_mono hq he n s' hl
        | brk s' => exact hq _ hl
        | ret a => exact hq _ hl
      | false =>
        rw [if_neg Bool.false_ne_true] at hb ⊢
        exact hq _ hb) he h
def Mo.while {S : Type} (c : S → Mo Bool) (f : S → Mo (Lp S δ)) (s : S) : Mo (Lp S δ) := ⟨fun Q E => ∃ n, whN c f n s Q E, fun hq he ⟨n, h⟩ => ⟨n, whN_mono hq he n s h⟩⟩
@[simp] theorem Mo.run_while {S : Type} {c : S → Mo Bool} {f : S → Mo (Lp S δ)} {s : S} {Q : Lp S δ → Prop} {E : Ex → Prop} : (Mo.while c f s).run Q E = ∃ n, whN c f n s Q E := rfl
theorem rb_while {S : Type} {Z : γ → Fin} {st : Stmt} {rest body : List Stmt} {c : Expr} {s0 : S} (ΓI : S → Ctx) {mc : S → Mo Bool} {mb : S → Mo (Lp S δ)} {mr : S → Mo γ} {kr : δ → γ} {Zr : δ → Fin} (hs : PS X st (tWhile (tT X c) (tSs X body))) (hc : ∀ s, RT X W (ΓI s) c (mc s))
    (h0 : Le (ΓI s0) Γ) (hle : ∀ s, Le Γe (ΓI s)) (hb : ∀ s, RB X W Γe false (ΓI s) body (mb s) (Lp.fin ΓI Zr)) (hz : ∀ a, Z (kr a) = Zr a) (hret : ∀ a, ∃ R, Zr a = .ret R) (hr : ∀ s, RB X W Γe lv (ΓI s) rest (mr s) Z) :
    RB X W Γe lv Γ (st :: rest) (Mo.while mc mb s0 >>= Lp.out mr kr) Z := fun le G σ F H D nx' hn o q =>
  tSs_cons hs (by
    let Fn : Hp → Lp S δ → Prop := fun F2 l => (Lp.out mr kr l).run (fun x => FinOk G Γe D F2 (Z x)) (XQ X W G Γe F2)
    have fstep : ∀ {A B : Hp} {l : Lp S δ}, Fn A l → Fn B l := fun h => run_any h
    obtain ⟨n0, q⟩ := q
    refine ⟨fun n σ2 H2 => ∃ s F2, Ok G (ΓI s) σ2 F2 H2 ∧ whN mc mb n s (Fn F2) (XQ X W G Γe F2), ⟨n0, s0, F, o.weak h0, q⟩, ?_⟩
    rintro n σ2 H2 ⟨s, F2, o2, r⟩
    cases n with
    | zero => exact r.elim
    | succ n =>
      refine hc s G σ2 F2 H2 _ o2 ((mc s).mono (fun b hb' F3 H3 o3 g3 => ?_) (fun _ => XQ.eq (hle s)) r)
      cases b with
      | false => exact iteF (hr s (hle s) G σ2 F3 H3 D nx' hn o3 (run_fin g3.fs (show Fn F2 (.go s) by simpa using hb')))
      | true =>
        refine iteT ⟨fun σ' H' => ∃ s F2, Ok G (ΓI s) σ' F2 H' ∧ whN mc mb n s (Fn F2) (XQ X W G Γe F2), fun σ' H' h => ⟨n, Nat.lt_succ_self _, h⟩, ?_⟩
        refine hb s (hle s) G σ2 F3 H3 { nx := _, rt := D.rt, bk := tSs X rest { D with nx := nx' }, ct := _ } _ (fun _ => rfl) o3 ((mb s).mono (fun l hl => ?_) (fun _ => XQ.step g3.fs) (by simpa using hb'))
        cases l with
        | go s' =>
          have key : ∀ σ5 F5 H5, Same G.F0 F5 → Ok G (ΓI s') σ5 F5 H5 → ∃ s F2, Ok G (ΓI s) σ5 F2 H5 ∧ whN mc mb n s (Fn F2) (XQ X W G Γe F2) := fun σ5 F5 H5 s5 o5 => ⟨s', F5, o5, whN_mono (fun l h => fstep h) (fun _ => XQ.any) n s' hl⟩
          exact fun σ5 F5 H5 s5 o5 => ⟨key σ5 F5 H5 s5 o5, key σ5 F5 H5 s5 o5⟩
        | brk s' =>
          have hl : Fn F2 (.brk s') := hl
          exact fun σ5 F5 H5 s5 o5 => hr s' (hle s') G σ5 F5 H5 D nx' hn o5 (run_any hl)
        | ret a =>
          have hl : FinOk G Γe D F2 (Z (kr a)) := hl
          rw [hz a] at hl
          obtain ⟨R, hR⟩ := hret a
          show FinOk G Γe _ F3 (Zr a)
          rw [hR] at hl ⊢
          exact fun v5 σ5 F5 H5 s5 o5 => hl v5 σ5 F5 H5 s5 o5)
end

abbrev W0 : WX := fun _ _ _ _ => False
section
variable {α β γ δ : Type} {X : Cx} {W : WX} {Γe Γ Γ' : Ctx} {lv : Bool} {scope : Scope} {elt c : Expr} {ifs : List Expr}
def tEi (X : Cx) (scope : Scope) (elt : Expr) : TE := fun σ H Q => ∀ (s : Shared) (H0 : Hp) (C : Addr) (cl : List (Str × Addr)) (fp : List Addr), tE (X.blk s H0 scope (compEnvC scope cl C X.env) fp) elt σ H Q
def tPi (X : Cx) (scope : Scope) (ifs : List Expr) : TT := fun σ H Q => ∀ (s : Shared) (H0 : Hp) (C : Addr) (cl : List (Str × Addr)) (fp : List Addr) (pins : List (Addr × Obj)) (s' : Shared), Inv (X.blk s H0 scope (compEnvC scope cl C X.env) fp) pins σ H s' →
  wpAny (model X.prog X.w) X.A (forIn ifs true fun c r => if r = true then do let ok ← isTrue c (compEnvC scope cl C X.env) (eval c (compEnvC scope cl C X.env)); pure (ForInStep.yield ok) else pure (ForInStep.yield r)) (TP (X.blk s H0 scope (compEnvC scope cl C X.env) fp) pins σ Q) (fun _ _ => False) s'
theorem peEi (s : Shared) (H0 : Hp) (C : Addr) (cl : List (Str × Addr)) (fp : List Addr) : PE (X.blk s H0 scope (compEnvC scope cl C X.env) fp) elt (tEi X scope elt) := ⟨fun pins s' σ H Q I h => peE.run pins s' σ H Q I (h s H0 C cl fp)⟩
theorem ptPi (s : Shared) (H0 : Hp) (C : Addr) (cl : List (Str × Addr)) (fp : List Addr) : PTs (X.blk s H0 scope (compEnvC scope cl C X.env) fp) ifs (tPi X scope ifs) := ⟨fun pins s' σ H Q I h => h s H0 C cl fp pins s' I⟩
def REi (X : Cx) (scope : Scope) (Γ : Ctx) (e : Expr) (m : Mo γ) (k : RK γ) : Prop := ∀ (s : Shared) (H0 : Hp) (C : Addr) (cl : List (Str × Addr)) (fp : List Addr), RE (X.blk s H0 scope (compEnvC scope cl C X.env) fp) W0 Γ e m k
def RTi (X : Cx) (scope : Scope) (Γ : Ctx) (ifs : List Expr) (m : Mo Bool) : Prop := ∀ G σ F H Q, Ok G Γ σ F H → m.run (fun b => ∀ F' H', Ok G Γ σ F' H' → Go (owns Γ) F H F' H' → Q b H') (fun _ => False) → tPi X scope ifs σ H Q
theorem rti_nil : RTi X scope Γ [] (pure true) := fun G σ F H Q o q s H0 C cl fp pins s' I => (pts_nil (X := X.blk s H0 scope (compEnvC scope cl C X.env) fp)).run pins s' σ H Q I (q F H o (Go.refl o.le))
theorem rti_one {m : Mo Bool} (h : ∀ (s : Shared) (H0 : Hp) (C : Addr) (cl : List (Str × Addr)) (fp : List Addr), RT (X.blk s H0 scope (compEnvC scope cl C X.env) fp) W0 Γ c m) : RTi X scope Γ [c] m := fun G σ F H Q o q s H0 C cl fp pins s' I =>
  (pts_one (X := X.blk s H0 scope (compEnvC scope cl C X.env) fp) ptT).run pins s' σ H Q I (h s H0 C cl fp G σ F H Q o (m.mono (fun _ h => h) (fun _ z => z.elim) q))
def Mo.comp (c : β → Mo Bool) (f : β → Mo γ) : List β → Mo (List γ)
  | [] => pure []
  | x :: xs => c x >>= fun b => if b = true then f x >>= fun y => Mo.comp c f xs >>= fun ys => pure (y :: ys) else Mo.comp c f xs
def Mo.lc (c : β → Mo Bool) (f : β → Mo γ) (xs : List β) : Mo (List γ) := Mo.rq (xs.length ≤ sizeLine) () >>= fun _ => Mo.calm (Mo.comp c f xs)
def wipeC (Γ : Ctx) : List Nat → Ctx
  | [] => Γ
  | v :: vs => (wipeC Γ vs).set v .un
theorem Ok.wipe {G : Gf} {σ : L2.St} {F H : Hp} (o : Ok G Γ σ F H) : ∀ vs : List Nat, Ok G (wipeC Γ vs) (wipe σ vs) F H
  | [] => o
  | v :: vs => by unfold wipeC L2.wipe; exact (Ok.wipe o vs).forget v
theorem owns_set {i : Nat} {en : En} {a : Addr} (hen : en.own? = none) (h : a ∈ owns (Γ.set i en)) : a ∈ owns Γ := by
  obtain ⟨j, l, q, e⟩ := of_owns h
  by_cases hij : i = j
  · subst hij
    have hl : i < Γ.length := by
      have := (List.getElem?_eq_some_iff.mp e).1
      simpa using this
    rw [List.getElem?_set_self hl] at e
    cases e
    cases hen
  · rw [List.getElem?_set_ne hij] at e
    exact mem_owns e
theorem owns_wipe {a : Addr} : ∀ {vs : List Nat}, a ∈ owns (wipeC Γ vs) → a ∈ owns Γ
  | [], h => h
  | v :: vs, h => owns_wipe (vs := vs) (owns_set rfl h)
structure RGo (f : Ctx → Ctx) (vs : List Nat) : Prop where
  sub : ∀ Γ a, a ∈ owns (f Γ) → a ∈ owns Γ
  keep : ∀ (Γ : Ctx) (i : Nat), i ∉ vs → (f Γ)[i]? = Γ[i]?
theorem rgo_name {p : Pr} {i : Nat} : RGo (fun Γ => Γ.set i (.fz p)) [i] := ⟨fun _ _ h => owns_set rfl h, fun Γ j h => List.getElem?_set_ne (fun e => h (by simp [e]))⟩
theorem wipe_get {σ : L2.St} {i : Nat} : ∀ {vs : List Nat}, (wipe σ vs)[i]? = if i ∈ vs then (σ[i]?).map (fun _ => none) else σ[i]?
  | [] => by simp [wipe]
  | v :: vs => by
    unfold wipe
    by_cases hv : v = i
    · subst hv
      rw [List.getElem?_set, if_pos rfl, wipe_length, if_pos List.mem_cons_self]
      by_cases hl : v < σ.length
      · rw [if_pos hl, List.getElem?_eq_getElem hl]; rfl
      · rw [if_neg hl, List.getElem?_eq_none (by omega)]; rfl
    · rw [List.getElem?_set_ne hv, wipe_get]
      have : (i ∈ v :: vs) ↔ i ∈ vs := by
        rw [List.mem_cons]
        exact ⟨fun h => h.resolve_left (fun e => hv e.symm), .inr⟩
      simp only [this]
theorem wipe_wipe (σ : L2.St) (vs : List Nat) : wipe (wipe σ vs) vs = wipe σ vs := by
  refine List.ext_getElem? fun i => ?_
  rw [wipe_get, wipe_get]
  by_cases h : i ∈ vs
  · rw [if_pos h, if_pos h]
    cases σ[i]? <;> rfl
  · rw [if_neg h, if_neg h]
theorem wipeC_keep {j : Nat} : ∀ {vs : List Nat}, j ∉ vs → (wipeC Γ vs)[j]? = Γ[j]?
  | [], _ => rfl
  | v :: vs, h => by
    unfold wipeC
    rw [List.getElem?_set_ne (fun e => h (by simp [e])), wipeC_keep (fun m => h (List.mem_cons_of_mem _ m))]
theorem un1 {i : Nat} (h : Γ[i]? = some .un) : ∀ v ∈ [i], Γ[v]? = some .un := fun v hv => by rw [List.mem_singleton.mp hv]; exact h
theorem Ok.back {G : Gf} {f : Ctx → Ctx} {vs : List Nat} {σ σ3 : L2.St} {F H F5 H5 : Hp} (o : Ok G Γ σ F H) (hf : RGo f vs) (hun : ∀ v ∈ vs, Γ[v]? = some .un) (s : Same F F5) (o5 : Ok G (f (wipeC Γ vs)) σ3 F5 H5) : Ok G Γ σ F5 H5 where
  go := o5.go
  en := fun i e he => by
    cases e with
    | un => trivial
    | fz p =>
      obtain ⟨v, h1, h2⟩ := o.en i _ he
      exact ⟨v, h1, p.mono s h2⟩
    | ow l a q =>
      have hi : i ∉ vs := fun h => by rw [hun i h] at he; cases he
      have h5 := o5.en i (.ow l a q) (by rw [hf.keep _ _ hi, wipeC_keep hi]; exact he)
      exact ⟨(o.en i _ he).1, h5.2⟩
    | lk f h p =>
      have hi : i ∉ vs := fun h => by rw [hun i h] at he; cases he
      have h5 := o5.en i (.lk f h p) (by rw [hf.keep _ _ hi, wipeC_keep hi]; exact he)
      obtain ⟨⟨v, h1, h2⟩, z, _⟩ := o.en i _ he
      exact ⟨⟨v, h1, p.mono s h2⟩, z, h5.2.2⟩
  ap := o.ap
  ln := o.ln
theorem rte_lc {wi : TI} {g : TG} {mi : Mo (List β)} {ρi : β → Pr} {vs : List Nat} {mc : β → Mo Bool} {mf : β → Mo γ} {ρ : γ → Pr} (tg : β → Ctx → Ctx) (hi : RI X W Γ wi mi ρi) (hg : ∀ x, RG X.K g (ρi x) (tg x) vs) (hgo : ∀ x, RGo (tg x) vs) (hun : ∀ v ∈ vs, Γ[v]? = some .un)
    (ht : ∀ x, RTi X scope (tg x (wipeC Γ vs)) ifs (mc x)) (he : ∀ x, REi X scope (tg x (wipeC Γ vs)) elt (mf x) (.fz ρ)) : RTE X W Γ (tLc wi g (tPi X scope ifs) (tEi X scope elt) vs) (mi >>= Mo.lc mc mf) (.ow (oL ρ)) := fun G σ F H Q o q => by
  refine hi G σ F H _ o (mi.mono (fun xs hx J F1 H1 o1 g1 src D hD => ?_) (fun _ z => z) q)
  obtain ⟨hz, hx⟩ := hx
  have hD0 : H D = none := by
    cases e : H D with
    | none => rfl
    | some y => obtain ⟨y', e'⟩ := g1.th _ _ e; rw [hD] at e'; cases e'
  have hG0 : G.H0 D = none := by
    cases e : G.H0 D with
    | none => rfl
    | some y => obtain ⟨y', e'⟩ := o.go.th _ _ e; rw [hD0] at e'; cases e'
  have hDo : D ∉ owns Γ := fun h => by
    obtain ⟨y, hy⟩ := o.ownH h
    rw [hD0] at hy; cases hy
  have hF1 : F1 D = none := o1.le.free hD
  let St : Nat → Hp → Prop := fun i H' => ∃ F' ys us, Ok G Γ σ F' H' ∧ Go (owns Γ) F H F' H' ∧ Same F1 F' ∧ F' D = none ∧ H' D = some (.lst us) ∧ Ps F' (ys.map ρ) us ∧ ys.length ≤ i ∧ (Mo.comp mc mf (xs.drop i)).run (fun zs => NQ G Γ σ F H (.ow (oL ρ)) Q (ys ++ zs)) (fun _ => False)
  obtain ⟨oD, gD⟩ := o1.newO (u := .lst []) hD
  refine ⟨fun i k H' => k = xs.length - i ∧ i ≤ xs.length ∧ St i H', ⟨_, rfl, Nat.zero_le _, F1, [], [], oD, g1.trans gD owns_tr, Same.refl _, hF1, upd_same, trivial, Nat.le_refl _, hx⟩, ?_⟩
  rintro i k H' ⟨rfl, hik, F', ys, us, o', g', s1, hF', hH', hps, hle, r⟩
  obtain ⟨w1, w2, w3⟩ := src F' H' s1 o'.le
  by_cases hlt : i < xs.length
  · refine .inr ⟨w1 i hlt, fun H'' => i + 1 ≤ xs.length ∧ St (i + 1) H'', fun H'' h => ⟨_, by omega, rfl, h.1, h.2⟩, fun v H2 y => ?_⟩
    rw [List.drop_eq_getElem_cons hlt] at r
    obtain ⟨F2, g2, hv⟩ := w3 i xs[i] v H2 (List.getElem?_eq_getElem hlt) y
    have o2 : Ok G Γ σ F2 H2 := o'.move g2 (fun _ h => by simp at h)
    have g2' : Go (owns Γ) F' H' F2 H2 := g2.mono (fun _ h => by simp at h)
    refine hg xs[i] G _ _ F2 H2 _ v (o2.wipe vs) hv fun σ3 o3 hw => ⟨by rw [hw]; exact wipe_wipe σ vs, ?_⟩
    have sub : ∀ a ∈ owns (tg xs[i] (wipeC Γ vs)), a ∈ owns Γ := fun a h => owns_wipe ((hgo _).sub _ _ h)
    refine ht xs[i] G σ3 F2 H2 _ o3 ((mc xs[i]).mono (fun b hb F3 H3 o4 g3 => ?_) (fun _ z => z) r)
    have g2D : H2 D = some (.lst us) := g2.hs _ _ (by simp) hH'
    have f2D : F2 D = none := g2.fr _ _ hH' hF'
    have back : ∀ {F5 H5 : Hp}, Go (owns (tg xs[i] (wipeC Γ vs))) F2 H2 F5 H5 → Ok G (tg xs[i] (wipeC Γ vs)) σ3 F5 H5 → Ok G Γ σ F5 H5 ∧ Go (owns Γ) F H F5 H5 ∧ Same F1 F5 ∧ F5 D = none ∧ H5 D = some (.lst us) ∧ Same F' F5 := fun {F5 H5} g5 o5 => by
      have s5 : Same F' F5 := g2.fs.trans g5.fs
      refine ⟨o'.back (hgo _) hun s5 o5, (g'.trans g2' owns_tr).trans g5 (fun a h => .inl (sub a h)), s1.trans s5, g5.fr _ _ g2D f2D, g5.hs _ _ (fun h => hDo (sub _ h)) g2D, s5⟩
    cases b with
    | false =>
      obtain ⟨b1, b2, b3, b4, b5, b6⟩ := back g3 o4
      exact iteF ⟨hlt, F3, ys, us, b1, b2, b3, b4, b5, hps.mono b6, by omega, hb⟩
    | true =>
      refine iteT fun s H0 C cl fp => ?_
      have hb : (mf xs[i] >>= fun y => Mo.comp mc mf (xs.drop (i + 1)) >>= fun ys => pure (y :: ys)).run (fun zs => NQ G Γ σ F H (.ow (oL ρ)) Q (ys ++ zs)) (fun _ => False) := hb
      refine he xs[i] s H0 C cl fp G σ3 F3 H3 _ o4 ((mf xs[i]).mono (fun y hy w F4 H4 o5 g5 z => ?_) (fun _ z => z.elim) hb)
      obtain ⟨b1, b2, b3, b4, b5, b6⟩ := back (g3.trans g5 owns_tr) o5
      have hul : us.length < xs.length := by rw [hps.len, List.length_map]; omega
      refine ⟨us, b5, by omega, hlt, F4, ys ++ [y], us ++ [w], b1.move (Go.put b1.le b4 b5) (fun a h => ?_), b2.trans (Go.put b1.le b4 b5) (fun a h => ?_), b3, b4, upd_same, ?_, by simp; omega, ?_⟩
      · rw [List.mem_singleton.mp h]
        exact .inr ⟨.inr hG0, hDo⟩
      · rw [List.mem_singleton.mp h]
        exact .inr hD0
      · rw [List.map_append]
        exact (hps.mono b6).app ⟨z, trivial⟩
      · refine Mo.mono _ (fun zs h => ?_) (fun _ z => z) hy
        rw [List.append_assoc]
        exact h
  · have e : i = xs.length := by omega
    subst e
    refine .inl ⟨w2, ?_⟩
    rw [List.drop_length] at r
    have r : NQ G Γ σ F H (.ow (oL ρ)) Q (ys ++ []) := r
    rw [List.append_nil] at r
    exact r _ F' H' o' g' ⟨D, _, rfl, hD0, hF', hH', us, rfl, hps⟩
end
end RF
namespace RF
open PySem PySem.Spec PyProof.Rows L2 KO SX

def OwnOk (F H : Hp) (Γ : Ctx) : Prop := ∀ (i : Nat) (l : Bool) (a : Addr) (q : Po), Γ[i]? = some (.ow l a q) → F a = none ∧ ∃ u, H a = some u ∧ q.r u F
def spR {ι β γ : Type} (K : PySem.W.Frag) (mg : Str → Option Value) (pp : ι → β → Ctx) (m : β → Mo γ) (kr : RK γ) : Sp := fun vs H Q E => ∃ (i : ι) (x : β) (F : Hp), Ok ⟨F, H, owns (pp i x)⟩ (pp i x) (vs.map some) F H ∧
  (m x).run (fun y => ∀ v F' H', Go (owns (pp i x)) F H F' H' → OwnOk F' H' (pp i x) → kr.ok y v H F' H' → Q v H') (fun ex => ∀ cls d F' H', Go (owns (pp i x)) F H F' H' → OwnOk F' H' (pp i x) → ErrOk K mg ex cls d F' → E cls d H')
section
variable {α β γ δ : Type} {X : Cx} {W : WX} {Γe Γ Γ' : Ctx} {lv : Bool} {e : Expr} {es : List Expr}
theorem ap_of {Γ : Ctx} (h : (owns Γ).Nodup) : ∀ (i j : Nat) (l m : Bool) (a : Addr) (p q : Po), Γ[i]? = some (.ow l a p) → Γ[j]? = some (.ow m a q) → i = j := by
  intro i j l m a p q h1 h2
  induction Γ generalizing i j with
  | nil => simp at h1
  | cons en Γ ih =>
    have tail : (owns Γ).Nodup := by
      unfold owns at h
      rw [List.filterMap_cons] at h
      cases e : en.own? with
      | none => rw [e] at h; exact h
      | some b => rw [e] at h; exact (List.nodup_cons.mp h).2
    have head : ∀ {k : Nat} {l : Bool} {q : Po} {l' : Bool} {q' : Po}, en = .ow l a q → Γ[k]? = some (.ow l' a q') → False := fun {k l q l' q'} e1 e2 => by
      subst e1
      unfold owns at h
      rw [List.filterMap_cons] at h
      exact (List.nodup_cons.mp h).1 (mem_owns e2)
    cases i with
    | zero =>
      cases j with
      | zero => rfl
      | succ j => exact (head (by simpa using h1) (by simpa using h2)).elim
    | succ i =>
      cases j with
      | zero => exact (head (by simpa using h2) (by simpa using h1)).elim
      | succ j => rw [ih tail i j (by simpa using h1) (by simpa using h2)]
theorem Ok.ofArgs {F H : Hp} {p : Ctx} {vs : List V} (s : Same F H) (h : ArgOk Γ F H p vs) (hap : (owns p).Nodup) (hl : ∀ (i : Nat) (l : Bool) (a : Addr) (q : Po), p[i]? = some (.ow l a q) → l = false) : Ok ⟨F, H, owns p⟩ p (vs.map some) F H where
  go := Go.refl s
  en := fun i en he => by
    have hi : i < vs.length := by rw [h.1]; exact (List.getElem?_eq_some_iff.mp he).1
    have hv := List.getElem?_eq_getElem hi
    have z := h.2.1 i en _ he hv
    have e : (vs.map some)[i]? = some (some vs[i]) := by rw [List.getElem?_map, hv]; rfl
    rw [e]
    cases en with
    | un => trivial
    | fz p => exact ⟨_, rfl, z⟩
    | ow l a q =>
      obtain ⟨z1, z2, z3⟩ := z
      refine ⟨by rw [z1], z2, ?_, z3⟩
      rw [hl i l a q he]
      exact mem_owns he
    | lk f h p => exact z.elim
  ap := ap_of hap
  ln := by rw [List.length_map, h.1]
theorem Ok.afterCall {G : Gf} {σ : L2.St} {F H F' H' : Hp} {p : Ctx} {vs : List V} (o : Ok G Γ σ F H) (h : ArgOk Γ F H p vs) (g : Go (owns p) F H F' H') (w : OwnOk F' H' p) : Ok G Γ σ F' H' ∧ Go (owns Γ) F H F' H' := by
  have sub : ∀ a ∈ owns p, a ∈ owns Γ := fun a ha => by
    obtain ⟨j, l, q, e⟩ := of_owns ha
    obtain ⟨i, l', e'⟩ := h.2.2 j l a q e
    exact mem_owns e'
  have g2 : Go (owns Γ) F H F' H' := g.mono fun a ha => .inl (sub a ha)
  refine ⟨⟨o.go.trans g2 fun a ha => ?_, fun i en he => ?_, o.ap, o.ln⟩, g2⟩
  · rcases o.own ha with h | h
    · exact .inl h
    · exact .inr h
  · have z := o.en i en he
    cases en with
    | un => trivial
    | fz r =>
      obtain ⟨v, z1, z2⟩ := z
      exact ⟨v, z1, r.mono g.fs z2⟩
    | ow l a q =>
      obtain ⟨z1, z2, z3, u, z4, z5⟩ := z
      by_cases hm : a ∈ owns p
      · obtain ⟨j, l2, q2, e⟩ := of_owns hm
        obtain ⟨i2, l3, e2⟩ := h.2.2 j l2 a q2 e
        have hii := o.ap i i2 l l3 a q q2 he e2
        subst hii
        rw [he] at e2
        cases e2
        obtain ⟨w1, w2⟩ := w j l2 a q e
        exact ⟨z1, w1, z3, w2⟩
      · exact ⟨z1, g.fr _ _ z4 z2, z3, u, g.hs _ _ hm z4, q.mono g.fs z5⟩
    | lk f h r =>
      obtain ⟨⟨v, z1, z2⟩, z3, z4⟩ := z
      exact ⟨⟨v, z1, r.mono g.fs z2⟩, z3, fun b e => z4 b (none_th g.th e)⟩
def oneOwn : Ctx → Bool
  | [] => true
  | .ow false _ _ :: l => l.all fun e => e.own?.isNone
  | l => l.all fun e => e.own?.isNone
theorem noOwn {l : Ctx} (h : (l.all fun e => e.own?.isNone) = true) : owns l = [] := by
  unfold owns
  rw [List.filterMap_eq_nil_iff]
  intro e he
  have := List.all_eq_true.mp h e he
  simpa using this
theorem one_ap {l : Ctx} (h : oneOwn l = true) : (owns l).Nodup ∧ ∀ (i : Nat) (b : Bool) (a : Addr) (q : Po), l[i]? = some (.ow b a q) → b = false := by
  have key : ∀ {l : Ctx} {i : Nat} {b : Bool} {a : Addr} {q : Po}, (l.all fun e => e.own?.isNone) = true → l[i]? = some (.ow b a q) → False := fun {l i b a q} h e => by
    have := List.all_eq_true.mp h _ (List.mem_of_getElem? e)
    simp [En.own?] at this
  cases l with
  | nil => exact ⟨by simp [owns], fun i b a q e => by simp at e⟩
  | cons en l =>
    cases en with
    | un => exact ⟨by rw [noOwn (show ((En.un :: l).all fun e => e.own?.isNone) = true from h)]; exact List.nodup_nil, fun i b a q e => (key h e).elim⟩
    | fz p => exact ⟨by rw [noOwn (show ((En.fz p :: l).all fun e => e.own?.isNone) = true from h)]; exact List.nodup_nil, fun i b a q e => (key h e).elim⟩
    | lk f hh p => exact ⟨by rw [noOwn (show ((En.lk f hh p :: l).all fun e => e.own?.isNone) = true from h)]; exact List.nodup_nil, fun i b a q e => (key h e).elim⟩
    | ow b a q =>
      cases b with
      | true => exact (key (show ((En.ow true a q :: l).all fun e => e.own?.isNone) = true from h) (i := 0) rfl).elim
      | false =>
        have h : (l.all fun e => e.own?.isNone) = true := h
        refine ⟨?_, fun i b a' q' e => ?_⟩
        · have : owns (En.ow false a q :: l) = a :: owns l := rfl
          rw [this, noOwn h]
          simp
        · cases i with
          | zero => simp at e; exact e.1
          | succ i => exact (key h (i := i) (by simpa using e)).elim
section
variable {k : Nat} {f C : Addr} {fd : FuncData} {ps : List Str} {ι : Type} {pp : ι → β → Ctx} {m : β → Mo γ} {kr : RK γ} {ma : Mo β} {x : Str} {p pos : Pos}
theorem run_spR {G : Gf} {σ : L2.St} {F H : Hp} {vs : List V} {Q : VK} {i : ι} {y : β} (o : Ok G Γ σ F H) (h : ArgOk Γ F H (pp i y) vs) (hap : oneOwn (pp i y) = true) (q : (m y).run (NQ G Γ σ F H kr Q) (EQ X W G Γ σ F H)) : spR X.K X.mg pp m kr vs H Q (WE W σ) := by
  obtain ⟨h1, h2⟩ := one_ap hap
  refine ⟨i, y, F, Ok.ofArgs o.le h h1 h2, (m y).mono (fun z hz v F' H' g w r => ?_) (fun ex hex cls d F' H' g w r => ?_) q⟩
  · obtain ⟨o2, g2⟩ := o.afterCall h g w
    exact hz v F' H' o2 g2 r
  · obtain ⟨o2, g2⟩ := o.afterCall h g w
    exact hex cls d F' H' o2 g2 r
theorem own_none {l : Ctx} {i : Nat} {b : Bool} {a : Addr} {q : Po} (h : (l.all fun e => e.own?.isNone) = true) (e : l[i]? = some (.ow b a q)) : False := by
  have := List.all_eq_true.mp h _ (List.mem_of_getElem? e)
  simp [En.own?] at this
theorem own_first {a : Addr} {q : Po} {tail us : Ctx} (h : (tail.all fun e => e.own?.isNone) = true) (i : Nat) (l : Bool) (b : Addr) (p : Po) (e : (En.ow false a q :: tail)[i]? = some (.ow l b p)) : (En.ow false a q :: us)[i]? = some (.ow l b p) := by
  cases i with
  | zero => exact e
  | succ i => exact (own_none h (i := i) (by simpa using e)).elim
theorem re_call {pa : β → Ctx} (i : ι) (Fn : FnOk X.prog X.w X.K X.mg X.base (L2.CX X.prog X.w) k f fd ps (spR X.K X.mg pp m kr)) (hr : Room k X.A) (tk : Takes X W) (ha : RA X W Γ (e :: es) ma pa) (hm : X.mg x = some (.ref f)) (hk : PySem.W.keepIn X.K (.ref f) = true) (hb : Binds X.K fd ps [])
    (hpp : ∀ y, pa y = pp i y := by intro _; rfl) (hap : ∀ y, oneOwn (pp i y) = true := by intro _; rfl) (hg : Gl X x := by rfl) (hdb : (x == ("__debug__" : Str)) = false := by decide) (he : starEach (e :: es) X.env = (false, eval e X.env) :: starEach es X.env := by rfl) (hpl : (backTo pos (starEach es X.env)).any (·.1) = false := by rfl) :
    RE X W Γ (.Call (.Name x p) (e :: es) [] pos) (ma >>= m) kr := by
  refine re_of (pe_callS Fn hr hg hm hk hb (fun σ => passAt tk σ) paA hdb he hpl) fun G σ F H Q o q => ?_
  refine ha G σ F H _ o (ma.mono (fun y hy vs F' H' o' g' z => ?_) (fun _ z => z) q)
  rw [hpp y] at z
  exact run_spR o' z (hap y) (run_step g' hy)
end
theorem fn_mk {P : Program} {w : World} {K : PySem.W.Frag} {mg : Str → Option Value} {base : Heap} {x qual : Str} {st : Stmt} {f : Addr} {fd : FuncData} {N ps : List Str} {k : Nat} {ι : Type} {pp : ι → β → Ctx} {m : β → Mo γ} {kr : RK γ} {Γe Γ0 : ι → β → Ctx} {Z : ι → β → γ → Fin}
    (F : Fun K x qual st f fd) (S : FnScope N ps (defScope st)) (hlen : ∀ c y, (pp c y).length = ps.length) (hΓ : ∀ c y, Γ0 c y = pp c y ++ List.replicate (N.length - ps.length) .un) (hle : ∀ c y, Le (Γe c y) (Γ0 c y))
    (hown : ∀ c y (i : Nat) (l : Bool) (a : Addr) (q : Po), (pp c y)[i]? = some (.ow l a q) → (Γe c y)[i]? = some (.ow l a q)) (hz : ∀ c y z, Z c y z = .ret (kr.ok z) ∨ (Z c y z = .nx (Γe c y) ∧ ∀ H F' H', kr.ok z .non H F' H'))
    (hbody : ∀ (cdv : Value) (A : Around) (outer : List Env) (s : Shared) (H : Hp) (E : XK) (c : ι) (y : β), Room k (A.deeper (envOfC qual (defScope st) s.heap.objs.size f cdv)) →
      RB (cxOf (L2.CX P w) P w K mg base N qual (defScope st) f cdv A outer s H E) (fun cls d _ H => E cls d H) (Γe c y) false (Γ0 c y) (defBody st) (m y) (Z c y)) :
    FnOk P w K mg base (L2.CX P w) (k + 1) f fd ps (spR K mg pp m kr) := by
  have ln : ∀ {vs : List V} {c : ι} {y : β} {F0 H : Hp}, Ok ⟨F0, H, owns (pp c y)⟩ (pp c y) (vs.map some) F0 H → vs.length = ps.length := fun {vs c y F0 H} o => by
    have := o.ln
    rw [List.length_map, hlen] at this
    exact this
  refine F.okX S (fun vs H Q E ⟨c, y, F0, o, _⟩ => ln o) fun cdv A outer s H vs Q E hr ⟨c, y, F0, o, q⟩ => ?_
  refine ⟨_, pssS, ?_⟩
  have hl := ln o
  have o0 : Ok ⟨F0, H, owns (pp c y)⟩ (Γ0 c y) (L2.start N vs) F0 H := by
    rw [hΓ c y]
    refine ⟨o.go, fun i en he => ?_, fun i j l l' a p q h1 h2 => ?_, by unfold L2.start; simp [hl, hlen c y]⟩
    · by_cases hi : i < (pp c y).length
      · rw [List.getElem?_append_left hi] at he
        have z := o.en i en he
        have e : (L2.start N vs)[i]? = (vs.map some)[i]? := by
          unfold L2.start
          rw [List.getElem?_append_left (by rw [List.length_map, hl, ← hlen c y]; exact hi)]
        rw [e]
        exact z
      · rw [List.getElem?_append_right (by omega), List.getElem?_replicate] at he
        split at he
        · cases he; trivial
        · cases he
    · have key : ∀ {i : Nat} {l : Bool} {p : Po}, (pp c y ++ List.replicate (N.length - ps.length) En.un)[i]? = some (.ow l a p) → (pp c y)[i]? = some (.ow l a p) := fun {i l p} h => by
        by_cases hi : i < (pp c y).length
        · rw [List.getElem?_append_left hi] at h; exact h
        · rw [List.getElem?_append_right (by omega), List.getElem?_replicate] at h
          split at h
          · cases h
          · cases h
      exact o.ap i j l l' a p q (key h1) (key h2)
  have own : ∀ {σ : L2.St} {F' H' : Hp}, Ok ⟨F0, H, owns (pp c y)⟩ (Γe c y) σ F' H' → OwnOk F' H' (pp c y) := fun {σ F' H'} o i l a q h => by
    obtain ⟨_, h2, _, u, h4, h5⟩ := o.en i _ (hown c y i l a q h)
    exact ⟨h2, u, h4, h5⟩
  refine hbody cdv A outer s H E c y hr (hle c y) ⟨F0, H, owns (pp c y)⟩ (L2.start N vs) F0 H { nx := fun _ H' => Q .non H', rt := Q } _ (fun _ => rfl) o0 ((m y).mono (fun z hzq => ?_) (fun ex hex cls d σ F' H' _ o' r => ?_) q)
  · rcases hz c y z with h | ⟨h, h2⟩
    · rw [h]
      exact fun v σ F' H' _ o' r => hzq v F' H' o'.go (own o') r
    · rw [h]
      exact fun σ F' H' _ o' => hzq .non F' H' o'.go (own o') (h2 _ _ _)
  · exact hex cls d F' H' o'.go (own o') r
end
end RF
namespace RF
open PySem PySem.Spec PyProof.Rows L2 KO SX

def Fs (F : Hp) : List (Str × Pr) → List (Str × V) → Prop
  | [], [] => True
  | (n, p) :: fs, (n', v) :: gs => n = n' ∧ p.r v F ∧ Fs F fs gs
  | _, _ => False
section
variable {F F' : Hp}
theorem Fs.mono (s : Same F F') : ∀ {fs : List (Str × Pr)} {gs : List (Str × V)}, Fs F fs gs → Fs F' fs gs
  | [], [], _ => trivial
  | (_, p) :: _, (_, _) :: _, h => ⟨h.1, p.mono s h.2.1, Fs.mono s h.2.2⟩
  | [], _ :: _, h => h.elim
  | _ :: _, [], h => h.elim
theorem Fs.len : ∀ {fs : List (Str × Pr)} {gs : List (Str × V)}, Fs F fs gs → gs.length = fs.length
  | [], [], _ => rfl
  | (_, _) :: _, (_, _) :: _, h => by simp [Fs.len h.2.2]
  | [], _ :: _, h => h.elim
  | _ :: _, [], h => h.elim
theorem Fs.look {f : Str} {p : Pr} : ∀ {fs : List (Str × Pr)} {gs : List (Str × V)}, Fs F fs gs → fs.lookup f = some p → ∃ v, gs.lookup f = some v ∧ p.r v F
  | [], [], _, e => by cases e
  | (n, q) :: fs, (n', v) :: gs, h, e => by
    obtain ⟨rfl, h1, h2⟩ := h
    rw [List.lookup_cons] at e ⊢
    cases c : (f == n) with
    | true => rw [c] at e; cases e; exact ⟨v, rfl, h1⟩
    | false => rw [c] at e; exact Fs.look h2 e
  | [], _ :: _, h, _ => h.elim
  | _ :: _, [], h, _ => h.elim
theorem Fs.lookN {f : Str} : ∀ {fs : List (Str × Pr)} {gs : List (Str × V)}, Fs F fs gs → fs.lookup f = none → gs.lookup f = none
  | [], [], _, _ => rfl
  | (n, q) :: fs, (n', v) :: gs, h, e => by
    obtain ⟨rfl, h1, h2⟩ := h
    rw [List.lookup_cons] at e ⊢
    cases c : (f == n) with
    | true => rw [c] at e; cases e
    | false => rw [c] at e; exact Fs.lookN h2 e
  | [], _ :: _, h, _ => h.elim
  | _ :: _, [], h, _ => h.elim
def putP (f : Str) (p : Pr) : List (Str × Pr) → List (Str × Pr)
  | [] => [(f, p)]
  | (n, q) :: fs => if n = f then (f, p) :: fs else (n, q) :: putP f p fs
end
def oIn (C : Addr) (fs : List (Str × Pr)) : Po := ⟨fun o F => ∃ dx gs, o = .ins C dx gs ∧ Fs F fs gs, fun s ⟨dx, gs, e, h⟩ => ⟨dx, gs, e, h.mono s⟩⟩
def rIn (C : Addr) (fs : List (Str × Pr)) : Pr := ⟨fun v F => ∃ a dx gs, v = .ref a ∧ F a = some (.ins C dx gs) ∧ Fs F fs gs, fun s ⟨a, dx, gs, e, h, k⟩ => ⟨a, dx, gs, e, s _ _ h, k.mono s⟩⟩
theorem frz_In {C : Addr} {fs : List (Str × Pr)} (a : Addr) (u : HO) (F : Hp) (h : F a = some u) (k : (oIn C fs).r u F) : (rIn C fs).r (.ref a) F := by
  obtain ⟨dx, gs, rfl, k⟩ := k
  exact ⟨a, dx, gs, rfl, h, k⟩
section
variable {F : Hp}
theorem Fs.put {f : Str} {p : Pr} {v : V} (hv : p.r v F) : ∀ {fs : List (Str × Pr)} {gs : List (Str × V)}, Fs F fs gs → Fs F (putP f p fs) (putF f v gs)
  | [], [], _ => ⟨rfl, hv, trivial⟩
  | (n, q) :: fs, (n', u) :: gs, h => by
    obtain ⟨rfl, h1, h2⟩ := h
    unfold putP putF
    by_cases e : n = f
    · subst e
      simp [Fs, hv, h2]
    · simp [e, Fs, h1, Fs.put hv h2]
  | [], _ :: _, h => h.elim
  | _ :: _, [], h => h.elim
end
section
variable {α β γ δ : Type} {X : Cx} {W : WX} {Γe Γ Γ' : Ctx} {lv : Bool} {e o : Expr} {es : List Expr} {st : Stmt} {rest : List Stmt} {Z : γ → Fin} {pos : Pos}
theorem re_fld {C : Addr} {f : Str} {me : Mo α} {ρ : α → Pr} {ρ' : β → Pr} {g : α → β} (fs : α → List (Str × Pr)) (he : RE X W Γ e me (.fz ρ)) (c : Cls X.K C) (n : NoAttr X.K C f) (hρ : ∀ x, ρ x = rIn C (fs x) := by intro _; rfl) (hf : ∀ x, (fs x).lookup f = some (ρ' (g x)) := by intro _; rfl) (hb : attributeBase e f X.env (eval e X.env) = eval e X.env := by rfl) :
    RE X W Γ (.Attribute e f pos) (me >>= fun x => pure (g x)) (.fz ρ') := by
  refine re_of (pe_fld peE hb) fun G σ F H Q o q => ?_
  refine he G σ F H _ o (me.mono (fun x hx v F' H' o' g' z => ?_) (fun _ z => z) q)
  have z : (ρ x).r v F' := z
  rw [hρ x] at z
  obtain ⟨a, dx, gs, rfl, h1, h2⟩ := z
  obtain ⟨u, h3, h4⟩ := h2.look (hf x)
  exact ⟨a, C, dx, gs, u, rfl, o'.le _ _ h1, c, n, h3, hx u F' H' o' g' h4⟩
theorem re_fldO {C a : Addr} {i : Nat} {l : Bool} {x f : Str} {p2 : Pos} {fs : List (Str × Pr)} {ρ' : β → Pr} {y : β} (hi : Γ[i]? = some (.ow l a (oIn C fs))) (hp : PE X (.Name x p2) (tVar i)) (c : Cls X.K C) (n : NoAttr X.K C f) (hf : fs.lookup f = some (ρ' y) := by rfl) (hb : attributeBase (.Name x p2) f X.env (eval (.Name x p2) X.env) = eval (.Name x p2) X.env := by rfl) :
    RE X W Γ (.Attribute (.Name x p2) f pos) (pure y) (.fz ρ') := by
  refine re_of (pe_fld hp hb) fun G σ F H Q o q => ?_
  obtain ⟨h1, _, _, u, hu, dx, gs, rfl, hg⟩ := o.en i _ hi
  obtain ⟨w, h3, h4⟩ := hg.look hf
  exact ⟨.ref a, h1, a, C, dx, gs, w, rfl, hu, c, n, h3, NQ.here (ρ := ρ') q o h4⟩
theorem rb_setfld {C a : Addr} {i : Nat} {l : Bool} {f : Str} {fs : List (Str × Pr)} {me : Mo α} {ρ : α → Pr} {mr : α → Mo γ} (hs : PS X st (sFld X.K (tVar i) (tE X e) f)) (hi : Γ[i]? = some (.ow l a (oIn C fs))) (he : RE X W Γ e me (.fz ρ)) (c : Cls X.K C) (n : NoAttr X.K C f) (hlen : fs.length < 1000) (hie : Γe[i]? = some .un)
    (hr : ∀ x, RB X W Γe lv (Γ.set i (.ow l a (oIn C (putP f (ρ x) fs)))) rest (mr x) Z) : RB X W Γe lv Γ (st :: rest) (me >>= mr) Z := fun le G σ F H D nx' hn o q =>
  tSs_cons hs (he G σ F H _ o (me.mono (fun x hx v F' H' o' g' z => by
    obtain ⟨h1, _, _, u, hu, dx, gs, rfl, hg⟩ := o'.en i _ hi
    refine ⟨.ref a, h1, a, C, dx, gs, rfl, hu, c, n, by rw [hg.len]; exact hlen, ?_⟩
    exact hr x (le.set hie) G σ F' _ D nx' hn (o'.put (q := oIn C (putP f (ρ x) fs)) hi ⟨dx, _, rfl, hg.put z⟩) (run_fin g'.fs hx)) (fun _ => XQ.eq le) q))
section
variable {k : Nat} {f C : Addr} {fd : FuncData} {ps : List Str} {pp : β → Ctx} {m : α × β → Mo γ} {kr : RK γ} {ma : Mo β} {n : Str} {apos : Pos} {pl : Sem Bool} {mo : Mo α} {ρo : α → Pr}
theorem ra_both {F H : Hp} {p : Ctx} {vs : List V} {v : V} {q : Pr} (h : ArgOk Γ F H p vs) (hv : q.r v F) : ArgOk Γ F H (.fz q :: p) (v :: vs) := ⟨by simp [h.1], fun i en u h1 h2 => by
    cases i with
    | zero =>
      simp at h1 h2
      subst h1 h2
      exact hv
    | succ i => exact h.2.1 i en u (by simpa using h1) (by simpa using h2), fun j l a q h1 => by
    cases j with
    | zero => simp at h1
    | succ j => exact h.2.2 j l a q (by simpa using h1)⟩
theorem re_meth {pa : β → Ctx} (fs : α → List (Str × Pr)) (ho : RE X W Γ o mo (.fz ρo)) (c : Cls X.K C) (hm : Meth X.K C n f) (Fn : FnOk X.prog X.w X.K X.mg X.base (L2.CX X.prog X.w) k f fd ps (spR X.K X.mg (fun (_ : Unit) z => .fz (ρo z.1) :: pp z.2) m kr)) (hr : Room k X.A) (tk : Takes X W) (ha : RA X W Γ (e :: es) ma pa) (hb : Binds X.K fd ps [])
    (hρ : ∀ x, ρo x = rIn C (fs x) := by intro _; rfl) (hn : ∀ x, (fs x).lookup n = none := by intro _; rfl) (hpp : ∀ y, pa y = pp y := by intro _; rfl) (hap : ∀ x y, oneOwn (.fz (ρo x) :: pp y) = true := by intro _ _; rfl) (hst : starEach (e :: es) X.env = (false, eval e X.env) :: starEach es X.env := by rfl) (hpl : (backTo pos (starEach es X.env)).any (·.1) = false := by rfl)
    (ht : eval (.Call (.Attribute o n apos) (e :: es) [] pos) X.env = (do
      let ov ← eval o X.env
      standAt apos.atName
      let (f, first) ← holding [ov] (getMethod ov n pl)
      callWith pos f first (backTo pos (starEach (e :: es) X.env)) (backToKw pos (keywordEach [] X.env))) := by rfl) :
    RE X W Γ (.Call (.Attribute o n apos) (e :: es) [] pos) (mo >>= fun x => ma >>= fun y => m (x, y)) kr := by
  refine re_of (pe_methX peE c hm Fn hr hb (fun σ => passAt tk σ) paA hst hpl ht) fun G σ F H Q o q => ?_
  refine ho G σ F H _ o (mo.mono (fun x hx v F1 H1 o1 g1 z => ?_) (fun _ z => z) q)
  have z' : (ρo x).r v F1 := z
  have z2 := z'
  rw [hρ x] at z2
  obtain ⟨a, dx, gs, rfl, h1, h2⟩ := z2
  refine ⟨a, dx, gs, rfl, o1.le _ _ h1, h2.lookN (hn x), ?_⟩
  refine ha G σ F1 H1 _ o1 (ma.mono (fun y hy vs F' H' o' g' z => ?_) (fun _ => EQ.step g1) hx)
  rw [hpp y] at z
  exact run_spR (pp := fun (_ : Unit) z => .fz (ρo z.1) :: pp z.2) (i := ()) (y := (x, y)) o' (ra_both z ((ρo x).mono g'.fs z')) (hap x y) (run_step (g1.trans g' owns_tr) hy)
theorem pe_methX0 {CX : CXT} {ta : TE} {E : L2.St → XK} {sp : Sp} (he : PE X o ta) (c : Cls X.K C) (hm : Meth X.K C n f) (F : FnOk X.prog X.w X.K X.mg X.base CX k f fd ps sp) (hr : Room k X.A) (hb : Binds X.K fd ps []) (hx : ∀ σ, PassesAt CX X σ (E σ))
    (ht : eval (.Call (.Attribute o n apos) [] [] pos) X.env = (do
      let ov ← eval o X.env
      standAt apos.atName
      let (f, first) ← holding [ov] (getMethod ov n pl)
      callWith pos f first (backTo pos (starEach [] X.env)) (backToKw pos (keywordEach [] X.env))) := by rfl) :
    PE X (.Call (.Attribute o n apos) [] [] pos) (tMethX C n sp E ta tNil) := by
  refine ⟨fun pins s σ H Q I h => ?_⟩
  refine PySem.W.methodCall_KW (pl := pl) (thn (he.run pins s σ H _ I h) fun u s1 ⟨x, H1, I1, rx, a, dx, fs, ex, ea, l, q⟩ => ?_) ht
  subst ex
  obtain rfl : u = Value.ref a := rx
  refine getmeth_ok I1 ea c hm l ?_
  exact PySem.W.callWith_K0 (first := [.ref a]) I1.kIn hm.kp (run_fnS (us := [.ref a]) (vs := [.ref a]) F hr hb (hx σ) I1 (.cons rfl .nil) q)
theorem re_meth0 {m : α → Mo γ} (fs : α → List (Str × Pr)) (ho : RE X W Γ o mo (.fz ρo)) (c : Cls X.K C) (hm : Meth X.K C n f) (Fn : FnOk X.prog X.w X.K X.mg X.base (L2.CX X.prog X.w) k f fd ps (spR X.K X.mg (fun (_ : Unit) (z : α × Unit) => [.fz (ρo z.1)]) (fun z => m z.1) kr)) (hr : Room k X.A) (tk : Takes X W) (hb : Binds X.K fd ps [])
    (hρ : ∀ x, ρo x = rIn C (fs x) := by intro _; rfl) (hn : ∀ x, (fs x).lookup n = none := by intro _; rfl)
    (ht : eval (.Call (.Attribute o n apos) [] [] pos) X.env = (do
      let ov ← eval o X.env
      standAt apos.atName
      let (f, first) ← holding [ov] (getMethod ov n pl)
      callWith pos f first (backTo pos (starEach [] X.env)) (backToKw pos (keywordEach [] X.env))) := by rfl) :
    RE X W Γ (.Call (.Attribute o n apos) [] [] pos) (mo >>= m) kr := by
  refine re_of (pe_methX0 peE c hm Fn hr hb (fun σ => passAt tk σ) ht) fun G σ F H Q o q => ?_
  refine ho G σ F H _ o (mo.mono (fun x hx v F1 H1 o1 g1 z => ?_) (fun _ z => z) q)
  have z' : (ρo x).r v F1 := z
  have z2 := z'
  rw [hρ x] at z2
  obtain ⟨a, dx, gs, rfl, h1, h2⟩ := z2
  refine ⟨a, dx, gs, rfl, o1.le _ _ h1, h2.lookN (hn x), ?_⟩
  exact run_spR (pp := fun (_ : Unit) (z : α × Unit) => [.fz (ρo z.1)]) (i := ()) (y := (x, ())) (vs := [.ref a]) o1 (ra_both ⟨rfl, fun i en u h => by simp at h, fun j l a q h => by simp at h⟩ z') rfl (run_step g1 hx)
end
def spI {β γ : Type} (K : PySem.W.Frag) (mg : Str → Option Value) (C : Addr) (pp : β → Ctx) (m : β → Mo γ) (fo : γ → List (Str × Pr)) : Sp := fun vs H Q E => ∃ (x : β) (F : Hp) (a : Addr) (ws : List V), vs = .ref a :: ws ∧ Ok ⟨F, H, [a]⟩ (.ow false a (oIn C []) :: pp x) (vs.map some) F H ∧
  (m x).run (fun y => ∀ F' H', Go [a] F H F' H' → F' a = none → (∃ u, H' a = some u ∧ (oIn C (fo y)).r u F') → Q .non H') (fun ex => ∀ cls d F' H', Go [a] F H F' H' → ErrOk K mg ex cls d F' → E cls d H')
section
variable {k : Nat} {f C : Addr} {fd : FuncData} {ps : List Str} {pp : β → Ctx} {m : β → Mo γ} {fo : γ → List (Str × Pr)} {ma : Mo β} {x : Str} {p : Pos}
theorem re_make {pa : β → Ctx} (M : Mk X.K C f) (Fn : FnOk X.prog X.w X.K X.mg X.base (L2.CX X.prog X.w) k f fd ps (spI X.K X.mg C pp m fo)) (hr : Room (k + 1) X.A) (tk : Takes X W) (ha : RA X W Γ (e :: es) ma pa) (hm : X.mg x = some (.ref C)) (hb : Binds X.K fd ps [])
    (hpp : ∀ y, pa y = pp y := by intro _; rfl) (hno : ∀ y, ((pp y).all fun e => e.own?.isNone) = true := by intro _; rfl) (hg : Gl X x := by rfl) (hdb : (x == ("__debug__" : Str)) = false := by decide) (he : starEach (e :: es) X.env = (false, eval e X.env) :: starEach es X.env := by rfl) (hpl : (backTo pos (starEach es X.env)).any (·.1) = false := by rfl) :
    RE X W Γ (.Call (.Name x p) (e :: es) [] pos) (ma >>= m) (.ow fun y => oIn C (fo y)) := by
  refine re_of (pe_makeX M Fn hr hg hm hb (fun σ => passAt tk σ) paA hdb he hpl) fun G σ F H Q o q => ?_
  refine ha G σ F H _ o (ma.mono (fun y hy vs F1 H1 o1 g1 z x dx hx hdx ne => ?_) (fun _ z => z) q)
  rw [hpp y] at z
  have gA : Go [x] F1 H1 F1 (upd H1 dx (.own x)) := Go.newO o1.le hdx
  have hx2 : (upd H1 dx (.own x)) x = none := by rw [upd_ne (Ne.symm ne)]; exact hx
  have gB : Go [x] F1 (upd H1 dx (.own x)) F1 (upd (upd H1 dx (.own x)) x (.ins C dx [])) := Go.newO gA.le hx2
  have gC := gA.trans gB (fun a h => .inl h)
  generalize hH2 : upd (upd H1 dx (.own x)) x (.ins C dx []) = H2 at gB gC ⊢
  have hH2x : H2 x = some (.ins C dx []) := by rw [← hH2]; exact upd_same
  have hFx : F1 x = none := o1.le.free hx
  have lift : ∀ {F' H'}, Go [x] F1 H2 F' H' → Ok G Γ σ F' H' ∧ Go (owns Γ) F H F' H' := fun {F' H'} g => by
    have g2 : Go [x] F1 H1 F' H' := gC.trans g (fun a h => .inl h)
    exact ⟨o1.move g2 (fun a h => .inl (by rw [List.mem_singleton.mp h]; exact hx)), g1.trans g2 (fun a h => .inr (by
      rw [List.mem_singleton.mp h]
      cases e : H x with
      | none => rfl
      | some y => obtain ⟨y', e'⟩ := g1.th _ _ e; rw [hx] at e'; cases e'))⟩
  have hHx : H x = none := by
    cases e : H x with
    | none => rfl
    | some y => obtain ⟨y', e'⟩ := g1.th _ _ e; rw [hx] at e'; cases e'
  refine ⟨y, F1, x, vs, rfl, ⟨Go.refl gB.le, fun i en he => ?_, ap_of ?_, by simp [z.1]⟩, (m y).mono (fun w hw F' H' g h1 h2 => ⟨rfl, ?_⟩) (fun ex hex cls d F' H' g r => ?_) hy⟩
  · cases i with
    | zero =>
      simp at he
      subst he
      exact ⟨rfl, hFx, by simp, _, hH2x, dx, [], rfl, trivial⟩
    | succ i =>
      have he : (pp y)[i]? = some en := by simpa using he
      have hi : i < vs.length := by rw [z.1]; exact (List.getElem?_eq_some_iff.mp he).1
      have hv := List.getElem?_eq_getElem hi
      have zz := z.2.1 i en _ he hv
      have ee : ((V.ref x :: vs).map some)[i + 1]? = some (some vs[i]) := by
        rw [List.getElem?_map, List.getElem?_cons_succ, hv]; rfl
      rw [ee]
      cases en with
      | un => trivial
      | fz r => exact ⟨_, rfl, zz⟩
      | ow l b q =>
        have := List.all_eq_true.mp (hno y) _ (List.mem_of_getElem? he)
        simp [En.own?] at this
      | lk f h r => exact zz.elim
  · have : owns (En.ow false x (oIn C []) :: pp y) = x :: owns (pp y) := rfl
    rw [this, noOwn (hno y)]
    simp
  · obtain ⟨o2, g2⟩ := lift g
    obtain ⟨u, hu, hr2⟩ := h2
    exact hw (.ref x) F' H' o2 g2 ⟨x, u, rfl, hHx, h1, hu, hr2⟩
  · obtain ⟨o2, g2⟩ := lift g
    exact hex cls d F' H' o2 g2 r
end
end
section
variable {β γ : Type}
theorem init_mk {P : Program} {w : World} {K : PySem.W.Frag} {mg : Str → Option Value} {base : Heap} {x qual : Str} {st : Stmt} {f C : Addr} {fd : FuncData} {N ps : List Str} {k : Nat} {pp : β → Ctx} {m : β → Mo γ} {fo : γ → List (Str × Pr)} {Γe : Ctx} {Γ0 : Addr → β → Ctx} {Γo : Addr → γ → Ctx}
    (F : Fun K x qual st f fd) (S : FnScope N ps (defScope st)) (hlen : ∀ y, (pp y).length + 1 = ps.length) (hΓ : ∀ a y, Γ0 a y = .ow false a (oIn C []) :: pp y ++ List.replicate (N.length - ps.length) .un) (hle : ∀ a y, Le Γe (Γ0 a y)) (hno : ∀ y, ((pp y).all fun e => e.own?.isNone) = true)
    (hout : ∀ a z, (Γo a z)[0]? = some (.ow false a (oIn C (fo z))))
    (hbody : ∀ (cdv : Value) (A : Around) (outer : List Env) (s : Shared) (H : Hp) (E : XK) (a : Addr) (y : β), Room k (A.deeper (envOfC qual (defScope st) s.heap.objs.size f cdv)) →
      RB (cxOf (L2.CX P w) P w K mg base N qual (defScope st) f cdv A outer s H E) (fun cls d _ H => E cls d H) Γe false (Γ0 a y) (defBody st) (m y) (fun z => .nx (Γo a z))) :
    FnOk P w K mg base (L2.CX P w) (k + 1) f fd ps (spI K mg C pp m fo) := by
  have ln : ∀ {vs : List V} {y : β} {a : Addr} {F0 H : Hp}, Ok ⟨F0, H, [a]⟩ (.ow false a (oIn C []) :: pp y) (vs.map some) F0 H → vs.length = ps.length := fun {vs y a F0 H} o => by
    have := o.ln
    rw [List.length_map, List.length_cons, hlen] at this
    exact this
  refine F.okX S (fun vs H Q E ⟨y, F0, a, ws, _, o, _⟩ => ln o) fun cdv A outer s H vs Q E hr ⟨y, F0, a, ws, _, o, q⟩ => ?_
  refine ⟨_, pssS, ?_⟩
  have hl := ln o
  have key : ∀ {i : Nat} {en : En}, (Γ0 a y)[i]? = some en → en = .un ∨ (En.ow false a (oIn C []) :: pp y)[i]? = some en := fun {i en} h => by
    rw [hΓ a y] at h
    by_cases hi : i < (En.ow false a (oIn C []) :: pp y).length
    · rw [List.getElem?_append_left hi] at h; exact .inr h
    · rw [List.getElem?_append_right (by omega), List.getElem?_replicate] at h
      split at h
      · cases h; exact .inl rfl
      · cases h
  have o0 : Ok ⟨F0, H, [a]⟩ (Γ0 a y) (L2.start N vs) F0 H := by
    refine ⟨o.go, fun i en he => ?_, fun i j l l' b p q h1 h2 => ?_, by rw [hΓ]; unfold L2.start; simp [hl, ← hlen y]; omega⟩
    · rcases key he with h | h
      · subst h; trivial
      · have hi : i < ps.length := by rw [← hlen y]; exact (by simpa using (List.getElem?_eq_some_iff.mp h).1)
        have z := o.en i en h
        have e : (L2.start N vs)[i]? = (vs.map some)[i]? := by
          unfold L2.start
          rw [List.getElem?_append_left (by rw [List.length_map, hl]; exact hi)]
        rw [e]
        exact z
    · rcases key h1 with h | h1
      · cases h
      · rcases key h2 with h | h2
        · cases h
        · exact o.ap i j l l' b p q h1 h2
  refine hbody cdv A outer s H E a y hr (hle a y) ⟨F0, H, [a]⟩ (L2.start N vs) F0 H { nx := fun _ H' => Q .non H', rt := Q } _ (fun _ => rfl) o0 ((m y).mono (fun z hzq σ F' H' _ o' => ?_) (fun ex hex cls d σ F' H' _ o' r => hex cls d F' H' o'.go r) q)
  obtain ⟨_, h2, _, h4⟩ := o'.en 0 _ (hout a z)
  exact hzq F' H' o'.go h2 h4
end
end RF
namespace RF
open PySem PySem.Spec PyProof.Rows L2 KO SX

class Enc {α : Type} (ρ : α → Pr) where
  n : Nat
  d : α → PyData
  ok : α → Prop
  is : ∀ {x : α} {v : V} {F : Hp}, ok x → (ρ x).r v F → Dt n F v (d x)
section
variable {α β γ δ ε : Type}
instance encI : Enc rI := ⟨1, .int, fun _ => True, fun _ h => h⟩
instance encB : Enc rB := ⟨1, .bool, fun _ => True, fun _ h => h⟩
instance encS : Enc rS := ⟨1, .str, fun _ => True, fun _ h => h⟩
instance encN : Enc rN := ⟨1, fun _ => .none, fun _ => True, fun _ h => h⟩
instance encD : Enc rD := ⟨8, id, fun _ => True, fun _ h => h⟩
instance encO {ρ : α → Pr} [s : Enc ρ] : Enc (rO ρ) := ⟨s.n + 1, fun o => match o with | none => .none | some x => s.d x, fun o => match o with | none => True | some x => s.ok x, fun {x v F} k h => by
  cases x with
  | none => exact h
  | some x => exact (s.is k h).up⟩
theorem dt_ps {F : Hp} {n : Nat} : ∀ {ps : List Pr} {ds : List PyData} {vs : List V}, ps.length = ds.length → (∀ (i : Nat) (p : Pr) (d : PyData), ps[i]? = some p → ds[i]? = some d → ∀ v, p.r v F → Dt n F v d) → Ps F ps vs → vs.length = ds.length ∧ ∀ (i : Nat) (x : V) (e : PyData), vs[i]? = some x → ds[i]? = some e → Dt n F x e := fun {ps ds vs} hl h k => by
  refine ⟨by rw [k.len, hl], fun i x e h1 h2 => ?_⟩
  obtain ⟨p, h3, h4⟩ := k.get' h1
  exact h i p e h3 h2 x h4
theorem dt_map {ρ : α → Pr} [s : Enc ρ] {F : Hp} {xs : List α} (hk : ∀ x ∈ xs, s.ok x) (i : Nat) (p : Pr) (d : PyData) (h1 : (xs.map ρ)[i]? = some p) (h2 : (xs.map s.d)[i]? = some d) (v : V) (h : p.r v F) : Dt s.n F v d := by
  rw [List.getElem?_map] at h1 h2
  cases e : xs[i]? with
  | none => rw [e] at h1; cases h1
  | some x =>
    rw [e] at h1 h2
    obtain rfl := Option.some.inj h1
    obtain rfl := Option.some.inj h2
    exact s.is (hk x (List.mem_of_getElem? e)) h
instance encL {ρ : α → Pr} [s : Enc ρ] : Enc (rL ρ) := ⟨s.n + 1, fun xs => .list (xs.map s.d), fun xs => xs.length ≤ 1000 ∧ ∀ x ∈ xs, s.ok x, fun {xs v F} k h => by
  obtain ⟨a, vs, rfl, h1, h2⟩ := h
  obtain ⟨h3, h4⟩ := dt_ps (ds := xs.map s.d) (by simp) (dt_map k.2) h2
  exact ⟨a, vs, rfl, h1, h3, by simpa using k.1, h4⟩⟩
instance encTs {ρ : α → Pr} [s : Enc ρ] : Enc (rTs ρ) := ⟨s.n + 1, fun xs => .tuple (xs.map s.d), fun xs => xs.length ≤ 1000 ∧ ∀ x ∈ xs, s.ok x, fun {xs v F} k h => by
  obtain ⟨a, vs, rfl, h1, h2⟩ := h
  obtain ⟨h3, h4⟩ := dt_ps (ds := xs.map s.d) (by simp) (dt_map k.2) h2
  exact ⟨a, vs, rfl, h1, h3, by simpa using k.1, h4⟩⟩
theorem dt_tu {F : Hp} {n : Nat} {ps : List Pr} {ds : List PyData} {v : V} (hl : ps.length = ds.length) (hz : ds.length ≤ 1000) (h : (rTu ps).r v F) (r : ∀ (i : Nat) (p : Pr) (d : PyData), ps[i]? = some p → ds[i]? = some d → ∀ v, p.r v F → Dt n F v d) : Dt (n + 1) F v (.tuple ds) := by
  obtain ⟨a, vs, rfl, h1, h2⟩ := h
  obtain ⟨h3, h4⟩ := dt_ps hl r h2
  exact ⟨a, vs, rfl, h1, h3, hz, h4⟩
theorem all2 {P : Pr → PyData → Prop} : ∀ {ps : List Pr} {ds : List PyData}, Paired P ps ds → ∀ (i : Nat) (p : Pr) (d : PyData), ps[i]? = some p → ds[i]? = some d → P p d
  | _, _, .nil, _, _, _, h, _ => by simp at h
  | _, _, .cons h t, 0, p, d, h1, h2 => by simp at h1 h2; subst h1 h2; exact h
  | _, _, .cons h t, i + 1, p, d, h1, h2 => all2 t i p d (by simpa using h1) (by simpa using h2)
section
variable {ρ : α → Pr} {σ : β → Pr} {τ : γ → Pr} {υ : δ → Pr} {φ : ε → Pr} [r : Enc ρ] [s : Enc σ] [t : Enc τ] [u : Enc υ] [w : Enc φ]
instance encT1 : Enc (rT1 ρ) := ⟨r.n + 1, fun x => .tuple [r.d x], fun x => r.ok x, fun {x v F} k h =>
  dt_tu rfl (by show 1 ≤ 1000; decide) h (all2 (.cons (fun v h => r.is k h) .nil))⟩
instance encT2 : Enc (rT2 ρ σ) := ⟨max r.n s.n + 1, fun x => .tuple [r.d x.1, s.d x.2], fun x => r.ok x.1 ∧ s.ok x.2, fun {x v F} k h =>
  dt_tu rfl (by show 2 ≤ 1000; decide) h (all2 (.cons (fun v h => (r.is k.1 h).le (by omega)) (.cons (fun v h => (s.is k.2 h).le (by omega)) .nil)))⟩
instance encT3 : Enc (rT3 ρ σ τ) := ⟨max r.n (max s.n t.n) + 1, fun x => .tuple [r.d x.1, s.d x.2.1, t.d x.2.2], fun x => r.ok x.1 ∧ s.ok x.2.1 ∧ t.ok x.2.2, fun {x v F} k h =>
  dt_tu rfl (by show 3 ≤ 1000; decide) h (all2 (.cons (fun v h => (r.is k.1 h).le (by omega)) (.cons (fun v h => (s.is k.2.1 h).le (by omega)) (.cons (fun v h => (t.is k.2.2 h).le (by omega)) .nil))))⟩
instance encT4 : Enc (rT4 ρ σ τ υ) := ⟨max r.n (max s.n (max t.n u.n)) + 1, fun x => .tuple [r.d x.1, s.d x.2.1, t.d x.2.2.1, u.d x.2.2.2], fun x => r.ok x.1 ∧ s.ok x.2.1 ∧ t.ok x.2.2.1 ∧ u.ok x.2.2.2, fun {x v F} k h =>
  dt_tu rfl (by show 4 ≤ 1000; decide) h (all2 (.cons (fun v h => (r.is k.1 h).le (by omega)) (.cons (fun v h => (s.is k.2.1 h).le (by omega)) (.cons (fun v h => (t.is k.2.2.1 h).le (by omega)) (.cons (fun v h => (u.is k.2.2.2 h).le (by omega)) .nil)))))⟩
instance encT5 : Enc (rT5 ρ σ τ υ φ) := ⟨max r.n (max s.n (max t.n (max u.n w.n))) + 1, fun x => .tuple [r.d x.1, s.d x.2.1, t.d x.2.2.1, u.d x.2.2.2.1, w.d x.2.2.2.2], fun x => r.ok x.1 ∧ s.ok x.2.1 ∧ t.ok x.2.2.1 ∧ u.ok x.2.2.2.1 ∧ w.ok x.2.2.2.2, fun {x v F} k h =>
  dt_tu rfl (by show 5 ≤ 1000; decide) h (all2 (.cons (fun v h => (r.is k.1 h).le (by omega)) (.cons (fun v h => (s.is k.2.1 h).le (by omega)) (.cons (fun v h => (t.is k.2.2.1 h).le (by omega)) (.cons (fun v h => (u.is k.2.2.2.1 h).le (by omega)) (.cons (fun v h => (w.is k.2.2.2.2 h).le (by omega)) .nil))))))⟩
end
end
section
variable {α β γ δ : Type} {X : Cx} {W : WX} {Γe Γ Γ' : Ctx} {lv : Bool} {e ee o : Expr} {es : List Expr} {st : Stmt} {rest : List Stmt} {Z : γ → Fin} {pos : Pos}
theorem re_enc {ρ : α → Pr} [s : Enc ρ] {m : Mo α} (h : RE X W Γ e m (.fz ρ)) (hn : s.n ≤ 8 := by decide) : RE X W Γ e (m >>= fun x => Mo.rq (s.ok x) (s.d x)) (.fz rD) := fun G σ F H Q o q =>
  h G σ F H Q o (m.mono (fun x hx v F' H' o' g' z => hx.2 v F' H' o' g' ((s.is hx.1 z).le hn)) (fun _ z => z) q)
theorem tE_mono : ∀ (σ : L2.St) (H : Hp) (Q Q' : VK), (∀ v H, Q v H → Q' v H) → tE X e σ H Q → tE X e σ H Q' := fun σ H Q Q' h q => by
  unfold tE at q ⊢
  exact fun pins s I => thn (q pins s I) fun u s' ⟨v, H', I', r, k⟩ => ⟨v, H', I', r, h v H' k⟩
def RX (X : Cx) (W : WX) (Γ : Ctx) (t : L2.St → Hp → XK → Prop) (m : Mo Ex) : Prop := ∀ G σ F H (Q : XK), Ok G Γ σ F H → m.run (fun ex => ∀ cls d F' H', Ok G Γ σ F' H' → Go (owns Γ) F H F' H' → ErrOk X.K X.mg ex cls d F' → Q cls d H') (EQ X W G Γ σ F H) → t σ H Q
theorem rx_1 {C : Addr} {c f : Str} {ρ : α → Pr} [s : Enc ρ] {me : Mo α} (he : RE X W Γ e me (.fz ρ)) (hm : X.mg c = some (.ref C)) (hn : s.n ≤ 8 := by decide) : RX X W Γ (tR1 C f (tE X e)) (me >>= fun x => Mo.rq (s.ok x) ⟨c, [(f, s.d x)]⟩) := fun G σ F H Q o q => by
  refine he G σ F H _ o (me.mono (fun x hx v F' H' o' g' z d hd => ?_) (fun _ z => z) q)
  obtain ⟨o2, g2⟩ := o'.new (u := .xd [(f, v)]) hd
  refine hx.2 _ _ _ _ o2 (g'.trans g2 owns_tr) ⟨C, hm, rfl, .inr ⟨d, _, rfl, upd_same, fun f' y h => ?_⟩⟩
  have h : List.lookup f' [(f, s.d x)] = some y := h
  rw [List.lookup_cons] at h ⊢
  cases k : (f' == f) with
  | true =>
    rw [k] at h
    cases h
    exact ⟨v, rfl, ((s.is hx.1 z).mono g2.fs).le hn⟩
  | false => rw [k] at h; cases h
theorem rx_2 {C : Addr} {c f g : Str} {e2 : Expr} {ρ : α → Pr} {ρ2 : β → Pr} [s : Enc ρ] [s2 : Enc ρ2] {me : Mo α} {me2 : Mo β} (he : RE X W Γ e me (.fz ρ)) (he2 : RE X W Γ e2 me2 (.fz ρ2)) (hm : X.mg c = some (.ref C)) (hn : s.n ≤ 8 := by decide) (hn2 : s2.n ≤ 8 := by decide) :
    RX X W Γ (tR2 C f g (tE X e) (tE X e2)) (me >>= fun x => me2 >>= fun y => Mo.rq (s.ok x ∧ s2.ok y) ⟨c, [(g, s2.d y), (f, s.d x)]⟩) := fun G σ F H Q o q => by
  refine he G σ F H _ o (me.mono (fun x hx v F1 H1 o1 g1 z => ?_) (fun _ z => z) q)
  refine he2 G σ F1 H1 _ o1 (me2.mono (fun y hy u F' H' o' g' z2 d hd => ?_) (fun _ => EQ.step g1) hx)
  obtain ⟨o2, g2⟩ := o'.new (u := .xd [(g, u), (f, v)]) hd
  refine hy.2 _ _ _ _ o2 ((g1.trans g' owns_tr).trans g2 owns_tr) ⟨C, hm, rfl, .inr ⟨d, _, rfl, upd_same, fun f' w h => ?_⟩⟩
  have h : List.lookup f' [(g, s2.d y), (f, s.d x)] = some w := h
  rw [List.lookup_cons] at h ⊢
  cases k : (f' == g) with
  | true =>
    rw [k] at h
    cases h
    exact ⟨u, rfl, ((s2.is hy.1.2 z2).mono g2.fs).le hn2⟩
  | false =>
    rw [k] at h
    rw [List.lookup_cons] at h ⊢
    cases k2 : (f' == f) with
    | true =>
      rw [k2] at h
      cases h
      exact ⟨v, rfl, ((s.is hy.1.1 z).mono (g'.fs.trans g2.fs)).le hn⟩
    | false => rw [k2] at h; cases h
theorem rb_raise {t : L2.St → Hp → XK → Prop} {mx : Mo Ex} (hp : PMk X ee t) (tk : Takes X W) (hx : RX X W Γ t mx) (hc : X.calm = true := by rfl) : RB X W Γe lv Γ (.Raise (some ee) none pos :: rest) (mx >>= fun ex => Mo.throw ex) Z := fun le G σ F H D nx' hn o q =>
  tSs_cons (ps_raise hc tk hp) (hx G σ F H _ o (mx.mono (fun ex h cls d F' H' o' g' z => h cls d σ F' H' o'.go.fs (o'.weak le) z) (fun _ => XQ.eq le) q))
end
end RF
namespace RF
open PySem PySem.Spec PyProof.Rows L2 KO SX

section
variable {α β γ δ : Type}
def Mo.catch1 (m : Mo α) (cn : Str) (fls : List Str) (h : Ex → Mo α) : Mo α := ⟨fun Q E => m.run Q fun ex => if ex.cls = cn then (h ex).run Q (fun _ => False) else (ex.cls ∈ fls ∧ E ex), fun {Q Q' E E'} hq he r => m.mono hq (fun ex hx => by
  by_cases c : ex.cls = cn
  · rw [if_pos c] at hx ⊢
    exact (h ex).mono hq (fun _ z => z) hx
  · rw [if_neg c] at hx ⊢
    exact ⟨hx.1, he _ hx.2⟩) r⟩
@[simp] theorem Mo.run_catch1 {m : Mo α} {cn : Str} {fls : List Str} {h : Ex → Mo α} {Q : α → Prop} {E : Ex → Prop} : (Mo.catch1 m cn fls h).run Q E = m.run Q fun ex => if ex.cls = cn then (h ex).run Q (fun _ => False) else (ex.cls ∈ fls ∧ E ex) := rfl
def exP (a : Addr) (d : Option Addr) (ex : Ex) : Pr := ⟨fun v F => v = .ref a ∧ ((d = none ∧ ex.fs = []) ∨ ∃ dd fs, d = some dd ∧ F dd = some (.xd fs) ∧ ∀ f y, ex.fs.lookup f = some y → ∃ v, fs.lookup f = some v ∧ Dt 8 F v y), fun s h => ⟨h.1, h.2.imp id fun ⟨dd, fs, h1, h2, h3⟩ => ⟨dd, fs, h1, s _ _ h2, fun f y h => by
  obtain ⟨v, h4, h5⟩ := h3 f y h
  exact ⟨v, h4, h5.mono s⟩⟩⟩⟩
variable {X : Cx} {W : WX} {Γe Γx Γ Γ' : Ctx} {lv : Bool} {e : Expr} {st : Stmt} {rest body suite : List Stmt} {Z : γ → Fin} {pos : Pos}
def tTs (X : Cx) (suite : List Stmt) (a : Addr) (cls : Value) (d : Option Addr) : TS := fun D σ H => ∀ (oe : Obj) (pn : List (Addr × Obj)), Zc cls d oe → (∃ vs, oe.data = .fields vs) → tSs (X.suite a ((a, oe) :: pn)) suite D σ H
theorem Ok.toSuite {G : Gf} {σ : L2.St} {F H : Hp} {i : Nat} {a : Addr} {cls : Value} {d : Option Addr} {ex : Ex} (o : Ok G Γ σ F H) (z : ErrOk X.K X.mg ex cls d F) : Ok G (Γ.set i (.fz (exP a d ex))) (σ.set i (some (.ref a))) F H := by
  obtain ⟨C, h1, h2, h3⟩ := z
  exact o.set ⟨rfl, h3⟩
theorem le_un {n : Nat} {p : Pr} : ∀ {B : Ctx} {i : Nat}, Le (List.replicate n .un) (B.set i .un) → Le (List.replicate n .un) (B.set i (.fz p)) := by
  induction n with
  | zero => 
    intro B i h
    cases B with
    | nil => exact trivial
    | cons b B => cases i <;> exact h.elim
  | succ n ih =>
    intro B i h
    cases B with
    | nil => exact h.elim
    | cons b B =>
      cases i with
      | zero => exact ⟨.inl rfl, h.2⟩
      | succ i => exact ⟨.inl rfl, ih h.2⟩
end
def spPool (K : PySem.W.Frag) : Sp := fun vs H Q _ => ∃ (a : Addr) (ns : List Int) (k : Nat), vs = [.ref a, .int k] ∧ SqL K H a (ns.map V.int) ∧ k ≤ 1000 ∧ ∀ H' p, H p = none → Same H H' → Pool H' p → Q (.ref p) H'
def spTake : Sp := fun vs H Q _ => ∃ (p : Addr) (m : Int), vs = [.ref p, .int m] ∧ Pool H p ∧ 0 < m ∧ m < 1152921504606846976 ∧ ∀ H' r, 0 ≤ r → r < m → Run p H H' → Q (.int r) H'
def oPool : Po := ⟨fun o _ => ∃ x f c : Int, o = .lst [.int x, .int f, .int c], fun _ h => h⟩
def rScr (K : PySem.W.Frag) (ns : List Int) : Pr := ⟨fun v F => ∃ a, v = .ref a ∧ SqL K F a (ns.map V.int), fun s ⟨a, e, h⟩ => ⟨a, e, s.seq h⟩⟩
def Mo.take (m : Int) : Mo Int := Mo.rq (0 < m ∧ m < 1152921504606846976) () >>= fun _ => Mo.any (fun r : Int => 0 ≤ r ∧ r < m)
theorem args2 {G : Gf} {p q : Pr} {vs : List V} {F H : Hp} (o : Ok G [.fz p, .fz q] (vs.map some) F H) : ∃ u, (∃ v, vs = [u, v] ∧ q.r v F) ∧ p.r u F := by
  have hl : vs.length = 2 := by
    have := o.ln
    rw [List.length_map] at this
    exact this
  obtain ⟨u, v, rfl⟩ : ∃ u v, vs = [u, v] := by
    match vs, hl with
    | [u, v], _ => exact ⟨u, v, rfl⟩
  obtain ⟨v', e, h6⟩ := o.en 0 _ rfl
  obtain ⟨v2, e2, h7⟩ := o.en 1 _ rfl
  have e : some (some u) = some (some v') := e
  have e2 : some (some v) = some (some v2) := e2
  cases e
  cases e2
  exact ⟨u, ⟨v, rfl, h7⟩, h6⟩
section
variable {P : Program} {w : World} {K : PySem.W.Frag} {mg : Str → Option Value} {base : Heap} {k : Nat} {f : Addr} {fd : FuncData} {ps : List Str} {sp sp' : Sp}
theorem _root_.L2.FnOk.cx (F : FnOk P w K mg base CX0 k f fd ps sp) : FnOk P w K mg base (L2.CX P w) k f fd ps sp := ⟨F.len, fun A outer s H args us vs Q E hr e0 hb hv hs => codeAny_mono (F.run A outer s H args us vs Q E hr e0 hb hv hs) fun r s' h => by
  cases r with
  | error e => exact h.elim
  | ok fl => cases fl <;> exact h⟩
theorem _root_.L2.FnOk.c0 (F : FnOk P w K mg base (L2.CX P w) k f fd ps sp) (hi : ∀ vs H Q E, sp' vs H Q E → sp vs H Q E0) : FnOk P w K mg base CX0 k f fd ps sp' := ⟨fun vs H Q E h => F.len vs H Q E0 (hi vs H Q E h), fun A outer s H args us vs Q E hr e0 hb hv hs => codeAny_mono (F.run A outer s H args us vs Q E0 hr e0 hb hv (hi vs H Q E hs)) fun r s' h => by
  cases r with
  | error e =>
    obtain ⟨_, _, _, _, _, _, _, _, _, _, _, _, z⟩ := h
    exact z.elim
  | ok fl => cases fl <;> exact h⟩
theorem run_go {p : Addr} {F H H' : Hp} (s : Same F H) (hF : F p = none) (r : Run p H H') : Go [p] F H F H' where
  fs := Same.refl _
  le := fun b o e => r.1 b o (ne_of_none e hF) (s b o e)
  hs := fun b o n e => r.1 b o (by simpa using n) e
  fr := fun b o _ e => e
  th := fun b o e => by
    by_cases h : b = p
    · subst h
      obtain ⟨x, f, c, q⟩ := r.2
      exact ⟨_, q⟩
    · exact ⟨o, r.1 b o h e⟩
theorem take_sp {vs : List V} {H : Hp} {Q : VK} {E : XK} (h : spR K mg (fun (a : Addr) (z : Int × Unit) => [.ow false a oPool, .fz (rI z.1)]) (fun z => Mo.take z.1) (.fz rI) vs H Q E) : spTake vs H Q E := by
  obtain ⟨a, ⟨m, _⟩, F, o, q⟩ := h
  have hl : vs.length = 2 := by
    have := o.ln
    rw [List.length_map] at this
    exact this
  obtain ⟨u, v, rfl⟩ : ∃ u v, vs = [u, v] := by
    match vs, hl with
    | [u, v], _ => exact ⟨u, v, rfl⟩
  obtain ⟨h1, h2, _, x, h4, h5⟩ := o.en 0 _ rfl
  obtain ⟨v', e, h6⟩ := o.en 1 _ rfl
  have h1 : some (some u) = some (some (V.ref a)) := h1
  have e : some (some v) = some (some v') := e
  cases h1
  cases e
  obtain rfl : v = .int m := h6
  obtain ⟨x, f, c, rfl⟩ := h5
  refine ⟨a, m, rfl, ⟨x, f, c, h4⟩, q.1.1, q.1.2, fun H' r h0 h1 R => ?_⟩
  refine q.2 r ⟨h0, h1⟩ _ F H' (run_go o.le h2 R) (fun i l b p h => ?_) rfl
  match i, h with
  | 0, h =>
    cases h
    obtain ⟨x, f, c, h⟩ := R.2
    exact ⟨h2, _, h, x, f, c, rfl⟩
  | 1, h => cases h
  | i + 2, h => cases h
theorem pool_sp {vs : List V} {H : Hp} {Q : VK} {E : XK} (h : spR K mg (fun (_ : Unit) (z : List Int × Int × Unit) => [.fz (rScr K z.1), .fz (rI z.2.1)]) (fun z => Mo.rq (0 ≤ z.2.1 ∧ z.2.1 ≤ 1000) ()) (.ow fun _ => oPool) vs H Q E) : spPool K vs H Q E := by
  obtain ⟨_, ⟨ns, k, _⟩, F, o, q⟩ := h
  obtain ⟨u, ⟨v, rfl, h2⟩, a, rfl, h1⟩ := args2 o
  obtain rfl : v = .int k := h2
  obtain ⟨⟨k0, k1⟩, q⟩ := q
  obtain ⟨j, rfl⟩ := Int.eq_ofNat_of_zero_le k0
  have k1 : (j : Int) ≤ 1000 := k1
  refine ⟨a, ns, j, rfl, o.le.seq h1, by omega, fun H' p hp s pl => ?_⟩
  obtain ⟨x, f, c, hpl⟩ := pl
  exact q _ F H' ⟨Same.refl _, o.le.trans s, fun b o _ e => s b o e, fun b o _ e => e, fun b o e => ⟨o, s b o e⟩⟩ (fun i l b p h => by
    match i, h with
    | 0, h => cases h
    | 1, h => cases h
    | i + 2, h => cases h) ⟨p, _, rfl, hp, o.le.free hp, hpl, x, f, c, rfl⟩
end
end RF
namespace RF
open PySem PySem.Spec PyProof.Rows L2 KO SX

section
variable {α β γ δ : Type} {X : Cx} {W : WX} {Γ : Ctx} {e a b c d : Expr} {pos : Pos} {op op' op2 : CmpOp}
def RC (X : Cx) (W : WX) (Γ : Ctx) (op : CmpOp) (a b : Expr) (m : Mo Bool) : Prop := ∃ r, OpR X (compareOp op) r ∧ RTE X W Γ (tOp r (tE X a) (tE X b)) m (.fz rB)
theorem re_rc {m : Mo Bool} (h : RC X W Γ op a b m) (hm : behindInMarks op b = false := by rfl) : RE X W Γ (.Compare a [op] [b] pos) m (.fz rB) := by
  obtain ⟨r, ho, h⟩ := h
  exact re_of (pe_cmpR ho peE peE hm) h
theorem rt_rc {m : Mo Bool} (h : RC X W Γ op a b m) (hm : behindInMarks op b = false := by rfl) : RT X W Γ (.Compare a [op] [b] pos) m := by
  obtain ⟨r, ho, h⟩ := h
  exact rt_of (pt_cmpR ho peE peE hm) fun G σ F H Q o q => h G σ F H _ o (Mo.mono _ (fun x hx v F' H' o' g' z => ⟨x, z, hx F' H' o' g'⟩) (fun _ z => z) q)
section
variable {ma : Mo α} {mb : Mo β} {ρa : α → Pr} {ρb : β → Pr} {r : R2} {f : α → β → Bool}
theorem rc_of (ho : OpR X (compareOp op) r) (hr : ∀ x y, ROp X W Γ r (ρa x) (ρb y) (pure (f x y)) (.fz rB)) (ha : RE X W Γ a ma (.fz ρa)) (hb : RE X W Γ b mb (.fz ρb)) : RC X W Γ op a b (ma >>= fun x => mb >>= fun y => pure (f x y)) := ⟨r, ho, rte_two ha hb hr⟩
end
structure ICmp (X : Cx) (op : CmpOp) (f : Int → Int → Bool) : Prop where
  h : ∃ r, OpR X (compareOp op) r ∧ ∀ (W : WX) (Γ : Ctx) (x y : Int), ROp X W Γ r (rI x) (rI y) (pure (f x y)) (.fz rB)
theorem i_lt : ICmp X .Lt (fun i j => decide (i < j)) := ⟨_, op_lt, fun _ _ => rop_i0 fun _ _ _ => rfl⟩
theorem i_le : ICmp X .LtE (fun i j => decide (i ≤ j)) := ⟨_, op_le, fun _ _ => rop_i0 fun _ _ _ => rfl⟩
theorem i_gt : ICmp X .Gt (fun i j => decide (j < i)) := ⟨_, op_gt, fun _ _ => rop_i0 fun _ _ _ => rfl⟩
theorem i_ge : ICmp X .GtE (fun i j => decide (j ≤ i)) := ⟨_, op_ge, fun _ _ => rop_i0 fun _ _ _ => rfl⟩
theorem i_eq : ICmp X .Eq (fun i j => decide (i = j)) := ⟨rEq, op_eq, fun W Γ i j G σ F H Q u w o hu hw q => by
    obtain rfl : u = .int i := hu
    obtain rfl : w = .int j := hw
    refine ⟨rfl, NQ.here (ρ := rB) q o ?_⟩
    show V.bl (decide (V.int i = V.int j)) = V.bl (decide (i = j))
    congr 1
    exact decide_eq_decide.mpr ⟨fun h => V.int.inj h, fun h => by rw [h]⟩⟩
theorem i_ne : ICmp X .NotEq (fun i j => decide (i ≠ j)) := ⟨rNe, op_ne, fun W Γ i j G σ F H Q u w o hu hw q => by
    obtain rfl : u = .int i := hu
    obtain rfl : w = .int j := hw
    refine ⟨rfl, NQ.here (ρ := rB) q o ?_⟩
    show V.bl (!decide (V.int i = V.int j)) = V.bl (decide (i ≠ j))
    congr 1
    by_cases h : i = j
    · subst h; simp
    · have : V.int i ≠ V.int j := fun z => h (V.int.inj z)
      simp [h, this]⟩
section
variable {ma mb mc md : Mo Int} {f f' f2 : Int → Int → Bool}
theorem rc_i (hi : ICmp X op f) (ha : RE X W Γ a ma (.fz rI)) (hb : RE X W Γ b mb (.fz rI)) : RC X W Γ op a b (ma >>= fun i => mb >>= fun j => pure (f i j)) := by
  obtain ⟨r, ho, hr⟩ := hi.h
  exact rc_of ho (hr W Γ) ha hb
theorem rte_chain {r r' : R2} (hr : ∀ x y, ROp X W Γ r (rI x) (rI y) (pure (f x y)) (.fz rB)) (hr' : ∀ x y, ROp X W Γ r' (rI x) (rI y) (pure (f' x y)) (.fz rB)) (ha : RE X W Γ a ma (.fz rI)) (hb : RE X W Γ b mb (.fz rI)) (hc : RE X W Γ c mc (.fz rI)) :
    RTE X W Γ (tChain r r' (tE X a) (tE X b) (tE X c)) (ma >>= fun i => mb >>= fun j => if f i j = true then mc >>= fun k => pure (f' j k) else pure false) (.fz rB) := fun G σ F H Q o q => by
  refine ha G σ F H _ o (ma.mono (fun i hx v F1 H1 o1 g1 z1 => ?_) (fun _ z => z) q)
  refine hb G σ F1 H1 _ o1 (mb.mono (fun j hy u F2 H2 o2 g2 z2 => ?_) (fun _ => EQ.step g1) hx)
  have g12 := g1.trans g2 owns_tr
  refine hr i j G σ F2 H2 _ v u o2 ((rI i).mono g2.fs z1) z2 (fun w F3 H3 o3 g3 z3 => ?_)
  have z3 : w = .bl (f i j) := z3
  refine ⟨_, z3, ?_⟩
  have g13 := g12.trans g3 owns_tr
  dsimp only at hy
  cases hf : f i j with
  | false =>
    rw [hf] at hy z3
    subst z3
    exact iteF (hy _ F3 H3 o3 g13 rfl)
  | true =>
    rw [if_pos hf] at hy
    refine iteT (hc G σ F3 H3 _ o3 (mc.mono (fun k hk w' F4 H4 o4 g4 z4 => ?_) (fun _ => EQ.step g13) hy))
    exact hr' j k G σ F4 H4 Q u w' o4 ((rI j).mono (g3.fs.trans g4.fs) z2) z4 (NQ.step (g13.trans g4 owns_tr) hk)
theorem re_chain (hi : ICmp X op f) (hi' : ICmp X op' f') (ha : RE X W Γ a ma (.fz rI)) (hb : RE X W Γ b mb (.fz rI)) (hc : RE X W Γ c mc (.fz rI)) (hm : lastMarks [op, op'] [b, c] = false := by with_unfolding_all rfl) :
    RE X W Γ (.Compare a [op, op'] [b, c] pos) (ma >>= fun i => mb >>= fun j => if f i j = true then mc >>= fun k => pure (f' j k) else pure false) (.fz rB) := by
  obtain ⟨r, ho, hr⟩ := hi.h
  obtain ⟨r', ho', hr'⟩ := hi'.h
  exact re_of (pe_chain ho ho' peE peE peE hm) (rte_chain (hr W Γ) (hr' W Γ) ha hb hc)
theorem rt_chain (hi : ICmp X op f) (hi' : ICmp X op' f') (ha : RE X W Γ a ma (.fz rI)) (hb : RE X W Γ b mb (.fz rI)) (hc : RE X W Γ c mc (.fz rI)) (hm : lastMarks [op, op'] [b, c] = false := by with_unfolding_all rfl) :
    RT X W Γ (.Compare a [op, op'] [b, c] pos) (ma >>= fun i => mb >>= fun j => if f i j = true then mc >>= fun k => pure (f' j k) else pure false) := by
  obtain ⟨r, ho, hr⟩ := hi.h
  obtain ⟨r', ho', hr'⟩ := hi'.h
  exact rt_of (pt_chain ho ho' peE peE peE hm) fun G σ F H Q o q => rte_chain (hr W Γ) (hr' W Γ) ha hb hc G σ F H _ o (Mo.mono _ (fun x hx v F' H' o' g' z => ⟨x, z, hx F' H' o' g'⟩) (fun _ z => z) q)
end
section
variable {ma : Mo (Option α)} {ρ : α → Pr} {j : Nat} {p2 : Pos}
class NN (ρ : α → Pr) : Prop where
  nn : ∀ x v F, (ρ x).r v F → v ≠ .non
instance : NN rI := ⟨fun x v F h z => by subst z; cases h⟩
instance : NN rB := ⟨fun x v F h z => by subst z; cases h⟩
instance : NN rS := ⟨fun x v F h z => by subst z; cases h⟩
instance {ρ : α → Pr} : NN (rL ρ) := ⟨fun x v F ⟨a, vs, e, _⟩ z => by subst z; cases e⟩
instance {ρ : α → Pr} : NN (rTs ρ) := ⟨fun x v F ⟨a, vs, e, _⟩ z => by subst z; cases e⟩
theorem nn_tu {ps : List Pr} {v : V} {F : Hp} (h : (rTu ps).r v F) : v ≠ .non := fun z => by
  obtain ⟨a, vs, e, _⟩ := h
  subst z; cases e
instance {ρ : α → Pr} {σ : β → Pr} : NN (rT2 ρ σ) := ⟨fun x v F h => nn_tu h⟩
instance {ρ : α → Pr} {σ : β → Pr} {τ : γ → Pr} : NN (rT3 ρ σ τ) := ⟨fun x v F h => nn_tu h⟩
theorem rc_isN [n : NN ρ] (ha : RE X W Γ a ma (.fz (rO ρ))) : RC X W Γ .Is a (.Constant .none j p2) (ma >>= fun x => pure x.isNone) := ⟨_, op_isN, fun G σ F H Q o q => by
  refine ha G σ F H _ o (ma.mono (fun x hx v F' H' o' g' z => tE_i fun pins s I => pe_non.run pins s σ H' _ I ⟨rfl, ?_⟩) (fun _ z => z) q)
  refine hx _ F' H' o' g' ?_
  cases x with
  | none => obtain rfl : v = .non := z; rfl
  | some x => show V.bl (decide (v = .non)) = V.bl false; rw [decide_eq_false (n.nn x v F' z)]⟩
theorem rc_notN [n : NN ρ] (ha : RE X W Γ a ma (.fz (rO ρ))) : RC X W Γ .IsNot a (.Constant .none j p2) (ma >>= fun x => pure x.isSome) := ⟨_, op_notN, fun G σ F H Q o q => by
  refine ha G σ F H _ o (ma.mono (fun x hx v F' H' o' g' z => tE_i fun pins s I => pe_non.run pins s σ H' _ I ⟨rfl, ?_⟩) (fun _ z => z) q)
  refine hx _ F' H' o' g' ?_
  cases x with
  | none => obtain rfl : v = .non := z; rfl
  | some x => show V.bl (!decide (v = .non)) = V.bl true; rw [decide_eq_false (n.nn x v F' z)]; rfl⟩
end
section
variable {ma : Mo α} {mb : Mo β} {ρa : α → Pr} {ρb : β → Pr} [sa : Sc ρa] [sb : Sc ρb]
end
section
variable {ma : Mo γ} {mb : Mo (List γ)} {ρ : γ → Pr} [s : Sc ρ] {k : Bool}
theorem rc_in {neg : Bool} (ho : OpR X (compareOp op) (L2.rIn X.K neg)) (hf : ∀ x, flatV (s.v x) = true) (he : ∀ x y, eqV (s.v x) (s.v y) = decide (s.v x = s.v y)) (ha : RE X W Γ a ma (.fz ρ)) (hb : RSq X W Γ k b mb ρ) :
    RC X W Γ op a b (ma >>= fun x => mb >>= fun xs => pure (if neg then !(xs.any fun y => decide (s.v y = s.v x)) else xs.any fun y => decide (s.v y = s.v x))) := ⟨_, ho, fun G σ F H Q o q => by
  refine ha G σ F H _ o (ma.mono (fun x hx v F' H' o' g' z => ?_) (fun _ z => z) q)
  refine hb G σ F' H' _ o' (mb.mono (fun xs hy ad vs F2 H2 o2 g2 z1 z2 => ?_) (fun _ => EQ.step g') hx)
  have e := z2.sc
  have e2 := s.is (x := x) (u := v) (F := F') z
  subst e e2
  refine ⟨ad, _, rfl, z1.or o2.le, hf x, by simp [hf], ?_⟩
  have w := hy _ F2 H2 o2 (g'.trans g2 owns_tr) rfl
  have e3 : inV (s.v x) (xs.map s.v) = xs.any fun y => decide (s.v y = s.v x) := by
    unfold inV
    rw [List.any_map]
    congr 1
    funext y
    exact he y x
  rw [e3]
  exact w⟩
end
section
variable {mi : Mo Int} {ms : Mo Str} {mis : Mo (List Int)} {mss : Mo (List Str)} {k : Bool}
theorem rc_inI (ha : RE X W Γ a mi (.fz rI)) (hb : RSq X W Γ k b mis rI) : RC X W Γ .In a b (mi >>= fun i => mis >>= fun xs => pure (decide (i ∈ xs))) := by
  have h : RC X W Γ .In a b (mi >>= fun x => mis >>= fun xs => pure ((xs.any fun y => decide (V.int y = V.int x)))) := rc_in (s := scI) op_in_seq (fun _ => rfl) eqV_int ha hb
  simp only [anyI] at h
  exact h
theorem rc_ninI (ha : RE X W Γ a mi (.fz rI)) (hb : RSq X W Γ k b mis rI) : RC X W Γ .NotIn a b (mi >>= fun i => mis >>= fun xs => pure (!decide (i ∈ xs))) := by
  have h : RC X W Γ .NotIn a b (mi >>= fun x => mis >>= fun xs => pure (!(xs.any fun y => decide (V.int y = V.int x)))) := rc_in (s := scI) op_notIn_seq (fun _ => rfl) eqV_int ha hb
  simp only [anyI] at h
  exact h
theorem rc_inS (ha : RE X W Γ a ms (.fz rS)) (hb : RSq X W Γ k b mss rS) : RC X W Γ .In a b (ms >>= fun i => mss >>= fun xs => pure (decide (i ∈ xs))) := by
  have h : RC X W Γ .In a b (ms >>= fun x => mss >>= fun xs => pure ((xs.any fun y => decide (V.str y = V.str x)))) := rc_in (s := scS) op_in_seq (fun _ => rfl) eqV_str ha hb
  simp only [anyS] at h
  exact h
theorem rc_ninS (ha : RE X W Γ a ms (.fz rS)) (hb : RSq X W Γ k b mss rS) : RC X W Γ .NotIn a b (ms >>= fun i => mss >>= fun xs => pure (!decide (i ∈ xs))) := by
  have h : RC X W Γ .NotIn a b (ms >>= fun x => mss >>= fun xs => pure (!(xs.any fun y => decide (V.str y = V.str x)))) := rc_in (s := scS) op_notIn_seq (fun _ => rfl) eqV_str ha hb
  simp only [anyS] at h
  exact h
end
section
variable {ma : Mo PyData} {mb : Mo PyData}
end
theorem tru_seq {K : PySem.W.Frag} {ρ : γ → Pr} {k : Bool} {F H : Hp} {a : Addr} {vs : List V} {xs : List γ} (h : SqAt k F H a vs) (hp : Ps F (xs.map ρ) vs) (s : Same F H) : TruV K (.ref a) H (!xs.isEmpty) := by
  have e : vs.isEmpty = xs.isEmpty := by
    have := hp.len
    rw [List.length_map] at this
    cases xs <;> cases vs <;> simp_all
  cases k with
  | true => exact .inl ⟨vs, SqL.of h, by rw [e]⟩
  | false => exact .inr (.inl ⟨vs, SqT.ofR (Rd.mono h s), by rw [e]⟩)
theorem rt_seq {m : Mo (List γ)} {ρ : γ → Pr} {k : Bool} (h : RSq X W Γ k e m ρ) (he : ∀ whole, isTrue e X.env whole = (do let v ← whole; standAt e.pos; holding [v] (truthy v)) := by intro _; rfl) : RT X W Γ e (m >>= fun xs => pure (!xs.isEmpty)) :=
  rt_of (pt_truth peE he) fun G σ F H Q o q => h G σ F H _ o (m.mono (fun xs hx a vs F' H' o' g' z1 z2 => ⟨!xs.isEmpty, tru_seq z1 z2 o'.le, hx F' H' o' g'⟩) (fun _ z => z) q)
end
end RF
namespace RF
open PySem PySem.Spec PyProof.Rows L2 KO SX
section
variable {α β γ δ : Type} {X : Cx} {W : WX} {Γe Γx Γ Γ' : Ctx} {lv : Bool} {e ee o a b c : Expr} {es : List Expr} {st : Stmt} {rest body suite : List Stmt} {Z : γ → Fin} {pos : Pos} {t : TE}
theorem rb_asg {me : Mo α} {ρ : α → Pr} {mr : α → Mo γ} {g : TG} {vs : List Nat} {tg : α → Ctx → Ctx} (hs : PS X st (tAsg t g)) (he : RTE X W Γ t me (.fz ρ)) (hg : ∀ x, RG X.K g (ρ x) (tg x) vs) (hl : ∀ x, Le Γe (tg x Γ)) (hr : ∀ x, RB X W Γe lv (tg x Γ) rest (mr x) Z) : RB X W Γe lv Γ (st :: rest) (me >>= mr) Z := fun le G σ F H D nx' hn o q =>
  tSs_cons hs (he G σ F H _ o (me.mono (fun x hx v F' H' o' g' z => hg x G Γ σ F' H' _ v o' z fun σ' o2 _ => hr x (hl x) G σ' F' H' D nx' hn o2 (run_fin g'.fs hx)) (fun _ => XQ.eq le) q))
theorem re_if {mc : Mo Bool} {ma mb : Mo γ} {ρ : γ → Pr} (hc : RT X W Γ c mc) (ha : RE X W Γ a ma (.fz ρ)) (hb : RE X W Γ b mb (.fz ρ)) : RE X W Γ (.IfExp c a b pos) (mc >>= fun k => if k = true then ma else mb) (.fz ρ) := by
  refine re_of (pe_ifExp ptT peE peE) fun G σ F H Q o q => ?_
  refine hc G σ F H _ o (mc.mono (fun k hx F' H' o' g' => ?_) (fun _ z => z) q)
  cases k with
  | true => exact iteT (ha G σ F' H' Q o' (run_step g' (by simpa using hx)))
  | false => exact iteF (hb G σ F' H' Q o' (run_step g' (by simpa using hx)))
section
variable {ad C : Addr} {oe : Obj} {d : Option Addr} {pn : List (Addr × Obj)} {ex : Ex} {n f : Str} {i : Nat} {p : Pos}
end
end
end RF
namespace RF
open PySem PySem.Spec PyProof.Rows L2 KO SX
section
variable {α β γ δ : Type}
def Ks (F : Hp) (ρ : α → Pr) : List (Int × α) → List (Key × V) → Prop
  | [], [] => True
  | (k, x) :: r, (k', v) :: r' => k' = .inl k ∧ (ρ x).r v F ∧ Ks F ρ r r'
  | _, _ => False
def dget (kvs : List (Int × α)) (k : Int) : Option α := (kvs.find? fun p => decide (p.1 = k)).map (·.2)
def dput (kvs : List (Int × α)) (k : Int) (x : α) : List (Int × α) := if (kvs.any fun p => decide (p.1 = k)) = true then kvs.map (fun p => if p.1 = k then (p.1, x) else p) else kvs ++ [(k, x)]
section
variable {F F' : Hp} {ρ : α → Pr}
theorem Ks.mono (s : Same F F') : ∀ {kvs : List (Int × α)} {gs : List (Key × V)}, Ks F ρ kvs gs → Ks F' ρ kvs gs
  | [], [], _ => trivial
  | (_, x) :: _, (_, _) :: _, h => ⟨h.1, (ρ x).mono s h.2.1, Ks.mono s h.2.2⟩
  | [], _ :: _, h => h.elim
  | _ :: _, [], h => h.elim
theorem Ks.len : ∀ {kvs : List (Int × α)} {gs : List (Key × V)}, Ks F ρ kvs gs → gs.length = kvs.length
  | [], [], _ => rfl
  | (_, _) :: _, (_, _) :: _, h => by simp [Ks.len h.2.2]
  | [], _ :: _, h => h.elim
  | _ :: _, [], h => h.elim
theorem keydec (a b : Int) : (decide ((Sum.inl a : Key) = Sum.inl b)) = decide (a = b) := by
  by_cases h : a = b
  · subst h; simp
  · have : ¬ (Sum.inl a : Key) = Sum.inl b := fun q => h (Sum.inl.inj q)
    simp [h, this]
theorem Ks.get {k : Int} : ∀ {kvs : List (Int × α)} {gs : List (Key × V)}, Ks F ρ kvs gs → (∃ x v, dget kvs k = some x ∧ valV gs (Sum.inl k) = some v ∧ (ρ x).r v F) ∨ (dget kvs k = none ∧ valV gs (Sum.inl k) = none)
  | [], [], _ => .inr ⟨rfl, rfl⟩
  | (k1, x) :: r, (k2, v) :: r', h => by
    obtain ⟨rfl, h1, h2⟩ := h
    unfold dget valV
    rw [List.find?_cons, List.find?_cons, keydec]
    by_cases e : k1 = k
    · simp only [e, decide_true]
      exact .inl ⟨x, v, rfl, rfl, h1⟩
    · simp only [e, decide_false]
      exact Ks.get h2
  | [], _ :: _, h => h.elim
  | _ :: _, [], h => h.elim
theorem Ks.any {k : Int} : ∀ {kvs : List (Int × α)} {gs : List (Key × V)}, Ks F ρ kvs gs → (gs.any fun kv => decide (kv.1 = (Sum.inl k : Key))) = kvs.any fun p => decide (p.1 = k)
  | [], [], _ => rfl
  | (k1, x) :: r, (k2, v) :: r', h => by
    obtain ⟨rfl, h1, h2⟩ := h
    rw [List.any_cons, List.any_cons, Ks.any h2, keydec]
  | [], _ :: _, h => h.elim
  | _ :: _, [], h => h.elim
theorem Ks.app : ∀ {kvs kvs2 : List (Int × α)} {gs gs2 : List (Key × V)}, Ks F ρ kvs gs → Ks F ρ kvs2 gs2 → Ks F ρ (kvs ++ kvs2) (gs ++ gs2)
  | [], _, [], _, _, h => h
  | (_, _) :: _, _, (_, _) :: _, _, h, k => ⟨h.1, h.2.1, Ks.app h.2.2 k⟩
  | [], _, _ :: _, _, h, _ => h.elim
  | _ :: _, _, [], _, h, _ => h.elim
theorem Ks.rep {k : Int} {x : α} {v : V} (hv : (ρ x).r v F) : ∀ {kvs : List (Int × α)} {gs : List (Key × V)}, Ks F ρ kvs gs → Ks F ρ (kvs.map fun p => if p.1 = k then (p.1, x) else p) (gs.map fun kv => if kv.1 = (Sum.inl k : Key) then (kv.1, v) else kv)
  | [], [], _ => trivial
  | (k1, y) :: r, (k2, u) :: r', h => by
    obtain ⟨rfl, h1, h2⟩ := h
    have ih := Ks.rep (k := k) hv h2
    by_cases e : k1 = k
    · simp only [List.map_cons, e, if_true]
      exact ⟨rfl, hv, ih⟩
    · have e2 : ¬ (Sum.inl k1 : Key) = Sum.inl k := fun q => e (Sum.inl.inj q)
      simp only [List.map_cons, e, e2, if_false]
      exact ⟨rfl, h1, ih⟩
  | [], _ :: _, h => h.elim
  | _ :: _, [], h => h.elim
theorem Ks.put {k : Int} {x : α} {v : V} {kvs : List (Int × α)} {gs : List (Key × V)} (h : Ks F ρ kvs gs) (hv : (ρ x).r v F) : Ks F ρ (dput kvs k x) (putK gs (Sum.inl k) v) := by
  unfold dput putK
  rw [h.any]
  split
  · exact h.rep hv
  · exact h.app ⟨rfl, hv, trivial⟩
end
def oDk (ρ : α → Pr) (kvs : List (Int × α)) : Po := ⟨fun o F => ∃ gs, o = .dK gs ∧ Ks F ρ kvs gs, fun s ⟨gs, e, h⟩ => ⟨gs, e, h.mono s⟩⟩
variable {X : Cx} {W : WX} {Γe Γx Γ Γ' : Ctx} {lv : Bool} {e ee o a b c : Expr} {es : List Expr} {st : Stmt} {rest body suite : List Stmt} {Z : γ → Fin} {pos p2 p3 : Pos} {t : TE} {ρ : α → Pr}
section
variable {i : Nat} {l : Bool} {ad : Addr} {kvs : List (Int × α)} {x : Str} {mk : Mo Int}
end
theorem Ps.dropLast {F : Hp} : ∀ {ps : List Pr} {vs : List V}, Ps F ps vs → Ps F ps.dropLast vs.dropLast
  | [], [], _ => trivial
  | [_], [_], _ => trivial
  | _ :: p :: ps, _ :: v :: vs, h => ⟨h.1, Ps.dropLast (ps := p :: ps) (vs := v :: vs) h.2⟩
  | [], _ :: _, h => h.elim
  | _ :: _, [], h => h.elim
  | [_], _ :: _ :: _, h => h.2.elim
  | _ :: _ :: _, [_], h => h.2.elim
theorem rb_setPop {i j : Nat} {l : Bool} {ad : Addr} {xs : List α} {mr : α → Mo γ} (hs : PS X st (tAsg (tBM0 X.K "list" rPop (tVar i)) (gName j))) (hi : Γ[i]? = some (.ow l ad (oL ρ xs))) (hie : Γe[i]? = some .un) (hje : Γe[j]? = some .un) (hr : ∀ x, RB X W Γe lv ((Γ.set i (.ow l ad (oL ρ xs.dropLast))).set j (.fz (ρ x))) rest (mr x) Z) :
    RB X W Γe lv Γ (st :: rest) (Mo.get xs[xs.length - 1]? >>= mr) Z := fun le G σ F H D nx' hn o q =>
  tSs_cons hs (by
    obtain ⟨h1, _, _, u, hu, vs, rfl, hps⟩ := o.en i _ hi
    obtain ⟨x, hx, q⟩ := q
    obtain ⟨v, hv, hr2⟩ := hps.get (i := xs.length - 1) (p := ρ x) (by rw [List.getElem?_map, hx]; rfl)
    refine ⟨.ref ad, h1, .inl ⟨rfl, vs, SqL.of hu⟩, ad, vs, v, rfl, rfl, hu, by rw [hps.len, List.length_map]; exact hv, ?_⟩
    have o2 := o.put (q := oL ρ xs.dropLast) (u := .lst vs.dropLast) hi ⟨_, rfl, by rw [List.map_dropLast]; exact hps.dropLast⟩
    exact hr x ((le.set hie).set hje) G _ F _ D nx' hn (o2.set hr2) q)
section
variable {C : Addr} {oe : Obj} {d : Option Addr} {pn : List (Addr × Obj)} {ex : Ex} {n f : Str} {i : Nat} {p : Pos}
inductive ClsEs (X : Cx) : List Expr → List Addr → Prop where
  | nil : ClsEs X [] []
  | cons {n : Str} {p : Pos} {C : Addr} {es : List Expr} {cs : List Addr} (h : PE X (.Name n p) (tC (.ref C))) (hc : starEach (.Name n p :: es) X.env = (false, eval (.Name n p) X.env) :: starEach es X.env) (r : ClsEs X es cs) : ClsEs X (.Name n p :: es) (C :: cs)
def tCs : List Addr → TA
  | [] => tNil
  | c :: cs => tCons (tC (.ref c)) (tCs cs)
theorem ClsEs.pa {X : Cx} : ∀ {es : List Expr} {cs : List Addr}, ClsEs X es cs → PA X es (tCs cs)
  | _, _, .nil => pa_nil
  | _, _, .cons h hc r => pa_cons h r.pa hc
end
end
end RF
namespace RF
open PySem PySem.Spec PyProof.Rows L2 KO SX
section
variable {α β γ δ : Type} {X : Cx} {W : WX} {Γe Γ Γ' : Ctx} {lv : Bool} {e ee o a b c : Expr} {es : List Expr} {st : Stmt} {rest body suite : List Stmt} {Z : γ → Fin} {pos p2 p3 : Pos} {t : TE}
theorem re_get {ρ : α → Pr} {m : Mo (Option α)} (h : RE X W Γ e m (.fz (rO ρ))) : RE X W Γ e (m >>= Mo.get) (.fz ρ) := fun G σ F H Q o q =>
  h G σ F H Q o (m.mono (fun x hx v F' H' o' g' z => by
    obtain ⟨y, rfl, hx⟩ := hx
    exact hx v F' H' o' g' z) (fun _ z => z) q)
class NL (ρ : α → Pr) : Prop where
  nl : ∀ {x : α} {v : V} {F : Hp} {a : Addr} {vs : List V}, F a = some (.lst vs) → (ρ x).r v F → (ρ x).r v (del F a)
class NLP (q : Po) : Prop where
  nl : ∀ {u : HO} {F : Hp} {a : Addr} {vs : List V}, F a = some (.lst vs) → q.r u F → q.r u (del F a)
def NLr (p : Pr) : Prop := ∀ {v : V} {F : Hp} {a : Addr} {vs : List V}, F a = some (.lst vs) → p.r v F → p.r v (del F a)
instance : NL rI := ⟨fun _ h => h⟩
instance : NL rB := ⟨fun _ h => h⟩
instance : NL rS := ⟨fun _ h => h⟩
instance : NL rN := ⟨fun _ h => h⟩
instance {ρ : α → Pr} [n : NL ρ] : NL (rO ρ) := ⟨fun {x} {v F a vs} h k => by
  cases x with
  | none => exact k
  | some y => exact n.nl h k⟩
theorem Ps.nl {F : Hp} {a : Addr} {us : List V} (h : F a = some (.lst us)) : ∀ {ps : List Pr} {vs : List V}, (∀ p ∈ ps, NLr p) → Ps F ps vs → Ps (del F a) ps vs
  | [], [], _, _ => trivial
  | p :: ps, v :: vs, n, k => ⟨n p List.mem_cons_self h k.1, Ps.nl h (fun q hq => n q (List.mem_cons_of_mem _ hq)) k.2⟩
  | [], _ :: _, _, k => k.elim
  | _ :: _, [], _, k => k.elim
theorem nl_T {ps : List Pr} (n : ∀ p ∈ ps, NLr p) : NLr (rTu ps) := fun {v F a vs} h k => by
  obtain ⟨t, ws, rfl, h1, h2⟩ := k
  have hne : t ≠ a := by
    rintro rfl
    rcases h1 with h1 | ⟨o, h1⟩ <;> (rw [h] at h1; cases h1)
  exact ⟨t, ws, rfl, h1.imp (fun h => del_ok h hne) (fun ⟨o, h⟩ => ⟨o, del_ok h hne⟩), h2.nl h n⟩
theorem nlr {ρ : α → Pr} [n : NL ρ] (x : α) : NLr (ρ x) := fun h k => n.nl h k
theorem nl_mem1 {p : Pr} (h : NLr p) : ∀ q ∈ [p], NLr q := fun q hq => by rw [List.mem_singleton.mp hq]; exact h
theorem nl_memc {p : Pr} {ps : List Pr} (h : NLr p) (k : ∀ q ∈ ps, NLr q) : ∀ q ∈ p :: ps, NLr q := fun q hq => by
  rcases List.mem_cons.mp hq with e | e
  · rw [e]; exact h
  · exact k q e
section
variable {ε ζ : Type} {ρ : α → Pr} {σ : β → Pr} {τ : γ → Pr} {υ : δ → Pr} {φ : ε → Pr}
instance [NL ρ] : NL (rTs ρ) := ⟨fun {xs} {v F a vs} h k => nl_T (fun p hp => by
  obtain ⟨x, _, rfl⟩ := List.mem_map.mp hp
  exact nlr x) h k⟩
instance [NL ρ] : NL (rT1 ρ) := ⟨fun {x} {v F a vs} h k => nl_T (nl_mem1 (nlr _)) h k⟩
instance [NL ρ] [NL σ] : NL (rT2 ρ σ) := ⟨fun {x} {v F a vs} h k => nl_T (nl_memc (nlr _) (nl_mem1 (nlr _))) h k⟩
instance [NL ρ] [NL σ] [NL τ] : NL (rT3 ρ σ τ) := ⟨fun {x} {v F a vs} h k => nl_T (nl_memc (nlr _) (nl_memc (nlr _) (nl_mem1 (nlr _)))) h k⟩
instance [NL ρ] [NL σ] [NL τ] [NL υ] : NL (rT4 ρ σ τ υ) := ⟨fun {x} {v F a vs} h k => nl_T (nl_memc (nlr _) (nl_memc (nlr _) (nl_memc (nlr _) (nl_mem1 (nlr _))))) h k⟩
instance [NL ρ] [NL σ] [NL τ] [NL υ] [NL φ] : NL (rT5 ρ σ τ υ φ) := ⟨fun {x} {v F a vs} h k => nl_T (nl_memc (nlr _) (nl_memc (nlr _) (nl_memc (nlr _) (nl_memc (nlr _) (nl_mem1 (nlr _)))))) h k⟩
instance [n : NL ρ] {xs : List α} : NLP (oL ρ xs) := ⟨fun {u F a vs} h k => by
  obtain ⟨ws, rfl, h2⟩ := k
  exact ⟨ws, rfl, h2.nl h (fun p hp => by
    obtain ⟨x, _, rfl⟩ := List.mem_map.mp hp
    exact nlr x)⟩⟩
end
instance : NLP oPool := ⟨fun _ h => h⟩
instance {C : Addr} : NLP (oIn C []) := ⟨fun {u F a vs} h k => by
  obtain ⟨dx, gs, rfl, k⟩ := k
  cases gs with
  | nil => exact ⟨dx, [], rfl, trivial⟩
  | cons _ _ => exact k.elim⟩
theorem ks_nl {ρ : α → Pr} [NL ρ] {F : Hp} {a : Addr} {us : List V} (h : F a = some (.lst us)) : ∀ {kvs : List (Int × α)} {gs : List (Key × V)}, Ks F ρ kvs gs → Ks (del F a) ρ kvs gs
  | [], [], _ => trivial
  | (_, x) :: _, (_, _) :: _, k => ⟨k.1, nlr x h k.2.1, ks_nl h k.2.2⟩
  | [], _ :: _, k => k.elim
  | _ :: _, [], k => k.elim
instance {ρ : α → Pr} [NL ρ] {kvs : List (Int × α)} : NLP (oDk ρ kvs) := ⟨fun {u F a vs} h k => by
  obtain ⟨gs, rfl, k⟩ := k
  exact ⟨gs, rfl, ks_nl h k⟩⟩
def rNN (_ : α) : Pr := ⟨fun v _ => v ≠ .non, fun _ h => h⟩
instance : NL (rNN (α := α)) := ⟨fun _ h => h⟩
class NLK (k : RK γ) : Prop where
  nl : ∀ {x : γ} {v : V} {H F H' : Hp} {a : Addr} {vs : List V}, F a = some (.lst vs) → k.ok x v H F H' → k.ok x v H (del F a) H'
instance {ρ : γ → Pr} [n : NL ρ] : NLK (.fz ρ) := ⟨fun h k => n.nl h k⟩
instance {ρ : γ → Po} [n : ∀ x, NLP (ρ x)] : NLK (.ow ρ) := ⟨fun {x v H F H' a vs} h k => by
  obtain ⟨b, u, rfl, h1, h2, h3, h4⟩ := k
  refine ⟨b, u, rfl, h1, ?_, h3, (n x).nl h h4⟩
  unfold del
  split
  · rfl
  · exact h2⟩
def NLC : Ctx → Prop
  | [] => True
  | .ow _ _ q :: r => NLP q ∧ NLC r
  | _ :: r => NLC r
theorem NLC.get : ∀ {Γ : Ctx} {i : Nat} {l : Bool} {a : Addr} {q : Po}, NLC Γ → Γ[i]? = some (.ow l a q) → NLP q
  | [], _, _, _, _, _, h => by simp at h
  | en :: r, 0, l, a, q, n, h => by
    simp at h
    subst h
    exact n.1
  | en :: r, i + 1, l, a, q, n, h => by
    have n' : NLC r := by
      cases en with
      | un => exact n
      | fz p => exact n
      | ow l' a' q' => exact n.2
      | lk f h p => exact n
    exact NLC.get n' (by simpa using h)
section
variable {j : Nat} {l : Bool} {ad : Addr} {ρ : α → Pr} {xs : List α}
theorem Ok.bor {G : Gf} {σ : L2.St} {F H : Hp} (o : Ok G Γ σ F H) (hj : Γ[j]? = some (.ow l ad (oL ρ xs))) : ∃ (G' : Gf) (F1 : Hp) (vs : List V), F1 ad = some (.lst vs) ∧ Ok G' (Γ.set j (.fz (rL ρ xs))) σ F1 H ∧ Same F F1 ∧ H ad = some (.lst vs) ∧
    ∀ F' H', NLC (Γ.set j (.fz (rL ρ xs))) → Ok G' (Γ.set j (.fz (rL ρ xs))) σ F' H' → Go (owns (Γ.set j (.fz (rL ρ xs)))) F1 H F' H' → F' ad = some (.lst vs) ∧ Ok G Γ σ (del F' ad) H' ∧ Go (owns Γ) F H (del F' ad) H' := by
  obtain ⟨k1, k2, k3, u, k4, vs, rfl, k5⟩ := o.en j _ hj
  have s : Same F (upd F ad (.lst vs)) := same_upd k2
  have hF0 : G.F0 ad = none := by
    cases e : G.F0 ad with
    | none => rfl
    | some y => rw [o.go.fs _ _ e] at k2; cases k2
  have hlt : j < Γ.length := (List.getElem?_eq_some_iff.mp hj).1
  have other : ∀ {i : Nat} {e : En}, i ≠ j → (Γ.set j (.fz (rL ρ xs)))[i]? = some e → Γ[i]? = some e := fun {i e} n h => by
    rw [List.getElem?_set_ne (Ne.symm n)] at h; exact h
  have keyo : ∀ {i : Nat} {m : Bool} {b : Addr} {q : Po}, (Γ.set j (.fz (rL ρ xs)))[i]? = some (.ow m b q) → i ≠ j ∧ Γ[i]? = some (.ow m b q) := fun {i m b q} h => by
    by_cases hij : i = j
    · subst hij
      rw [List.getElem?_set_self hlt] at h
      cases h
    · exact ⟨hij, other hij h⟩
  refine ⟨⟨G.F0, fun b => if b = ad then none else G.H0 b, G.M⟩, upd F ad (.lst vs), vs, upd_same, ⟨⟨?_, ?_, ?_, ?_, ?_⟩, fun i e he => ?_, fun i i2 m m2 b p q h1 h2 => ?_, ?_⟩, s, k4, fun F' H' hn o' g' => ?_⟩
  · exact fun b x e => s _ _ (o.go.fs _ _ e)
  · intro b x e
    by_cases hb : b = ad
    · subst hb; rw [upd_same] at e; rw [k4]; exact e
    · rw [upd_ne hb] at e; exact o.le _ _ e
  · intro b x n e
    dsimp only at e
    split at e
    · cases e
    · exact o.go.hs b x n e
  · intro b x e f
    dsimp only at e
    split at e
    · cases e
    · rename_i hb
      rw [upd_ne hb]; exact o.go.fr b x e f
  · intro b x e
    dsimp only at e
    split at e
    · cases e
    · exact o.go.th b x e
  · by_cases hij : i = j
    · subst hij
      rw [List.getElem?_set_self hlt] at he
      cases he
      exact ⟨.ref ad, k1, ad, vs, rfl, upd_same, k5.mono s⟩
    · have z := o.en i e (other hij he)
      cases e with
      | un => trivial
      | fz p =>
        obtain ⟨v, e1, e2⟩ := z
        exact ⟨v, e1, p.mono s e2⟩
      | ow m b r =>
        obtain ⟨z1, z2, z3, y, z4, z5⟩ := z
        have hb : b ≠ ad := by
          rintro rfl
          exact hij (o.ap i j _ _ _ _ _ (other hij he) hj)
        refine ⟨z1, by rw [upd_ne hb]; exact z2, ?_, y, z4, r.mono s z5⟩
        cases m with
        | true => exact (if_neg hb).trans z3
        | false => exact z3
      | lk f h p =>
        obtain ⟨⟨v, e1, e2⟩, e3, e4⟩ := z
        refine ⟨⟨v, e1, p.mono s e2⟩, fun b hb => ?_, e4⟩
        refine ⟨?_, (e3 b hb).2⟩
        show (if b = ad then none else G.H0 b) = none
        split
        · rfl
        · exact (e3 b hb).1
  · exact o.ap i i2 _ _ b p q (keyo h1).2 (keyo h2).2
  · rw [o.ln]; simp
  · have ha' : F' ad = some (.lst vs) := g'.fs _ _ upd_same
    have sub : ∀ b ∈ owns (Γ.set j (.fz (rL ρ xs))), b ∈ owns Γ := fun b hb => owns_set rfl hb
    have g : Go (owns Γ) F H (del F' ad) H' := by
      refine ⟨fun b x e => ?_, fun b x e => ?_, fun b x n e => g'.hs b x (fun h => n (sub _ h)) e, fun b x e f => ?_, g'.th⟩
      · have hb : b ≠ ad := by rintro rfl; rw [k2] at e; cases e
        exact del_ok (g'.fs _ _ (s _ _ e)) hb
      · unfold del at e
        split at e
        · cases e
        · exact g'.le _ _ e
      · unfold del
        split
        · rfl
        · rename_i hb
          exact g'.fr b x e (by rw [upd_ne hb]; exact f)
    refine ⟨ha', ⟨o.go.trans g fun x m => o.own m, fun i e he => ?_, o.ap, o.ln⟩, g⟩
    have z := o.en i e he
    cases e with
    | un => trivial
    | fz p =>
      obtain ⟨v, e1, e2⟩ := z
      exact ⟨v, e1, p.mono g.fs e2⟩
    | ow m b r =>
      obtain ⟨z1, z2, z3, y, z4, z5⟩ := z
      by_cases hij : i = j
      · subst hij
        rw [hj] at he
        cases he
        exact ⟨z1, del_same, z3, _, g'.le _ _ ha', vs, rfl, k5.mono g.fs⟩
      · have he2 : (Γ.set j (.fz (rL ρ xs)))[i]? = some (.ow m b r) := by rw [List.getElem?_set_ne (Ne.symm hij)]; exact he
        obtain ⟨y1, y2, y3, w, y4, y5⟩ := o'.en i _ he2
        refine ⟨z1, ?_, z3, w, y4, (hn.get he2).nl ha' y5⟩
        unfold del
        split
        · rfl
        · exact y2
    | lk f h p =>
      obtain ⟨⟨v, e1, e2⟩, e3, e4⟩ := z
      exact ⟨⟨v, e1, p.mono g.fs e2⟩, e3, fun b e => e4 b (none_th g.th e)⟩
theorem rte_bor {k : RK γ} {m : Mo γ} [nk : NLK k] (hj : Γ[j]? = some (.ow l ad (oL ρ xs))) (hn : NLC (Γ.set j (.fz (rL ρ xs)))) (h : RTE X W (Γ.set j (.fz (rL ρ xs))) t m k) : RTE X W Γ t (Mo.calm m) k := fun G σ F H Q o q => by
  obtain ⟨G', F1, vs, h1, o1, s, _, back⟩ := o.bor hj
  refine h G' σ F1 H Q o1 (m.mono (fun x hx v F' H' o' g' z => ?_) (fun _ z => z.elim) q)
  obtain ⟨b1, b2, b3⟩ := back F' H' hn o' g'
  exact hx v _ H' b2 b3 (nk.nl b1 z)
theorem re_bor {k : RK γ} {m : Mo γ} [nk : NLK k] (hj : Γ[j]? = some (.ow l ad (oL ρ xs))) (hn : NLC (Γ.set j (.fz (rL ρ xs)))) (h : RE X W (Γ.set j (.fz (rL ρ xs))) e m k) : RE X W Γ e (Mo.calm m) k := rte_bor hj hn h
theorem rt_bor {m : Mo Bool} (hj : Γ[j]? = some (.ow l ad (oL ρ xs))) (hn : NLC (Γ.set j (.fz (rL ρ xs)))) (h : RT X W (Γ.set j (.fz (rL ρ xs))) e m) : RT X W Γ e (Mo.calm m) := fun G σ F H Q o q => by
  obtain ⟨G', F1, vs, h1, o1, s, _, back⟩ := o.bor hj
  refine h G' σ F1 H Q o1 (m.mono (fun x hx F' H' o' g' => ?_) (fun _ z => z.elim) q)
  obtain ⟨b1, b2, b3⟩ := back F' H' hn o' g'
  exact hx _ H' b2 b3
end
section
variable {k : Nat} {f C : Addr} {fd : FuncData} {ps : List Str} {pp : Addr → β → Ctx} {m : β → Mo γ} {kr : RK γ} {me : Mo Unit} {ma : Mo β} {x : Str} {p : Pos} {qo : Po}
end
theorem re_isL {ρ : α → Pr} {m : Mo (Option (List α))} {p : Pos} (h : RE X W Γ e m (.fz (rO (rL ρ)))) (h1 : PySem.W.kitOne X.K (.type "list") (.type "list") = some true) (h2 : PySem.W.kitOne X.K (.type "NoneType") (.type "list") = some false) (hm : X.mg "isinstance" = none) (hml : X.mg "list" = none) (hg : Gl X "isinstance" := by rfl) (hgl : Gl X "list" := by rfl)
    (hst : starEach [e, .Name "list" p2] X.env = (false, eval e X.env) :: starEach [.Name "list" p2] X.env := by rfl) (hst2 : starEach [.Name "list" p2] X.env = (false, eval (.Name "list" p2) X.env) :: starEach [] X.env := by rfl) :
    RE X W Γ (.Call (.Name "isinstance" p) [e, .Name "list" p2] [] pos) (m >>= fun x => pure x.isSome) (.fz rB) :=
  re_of (pe_callB call_isi hg hm (by decide +kernel) (pa_cons (hs := hst) peE (pa_cons (hs := hst2) (pe_bltn (v := .ty "list") hgl hml (by decide +kernel) rfl) pa_nil)) (by decide) (by decide) hst rfl) fun G σ F H Q o q => by
    refine h G σ F H _ o (m.mono (fun x hx v F' H' o' g' z => ?_) (fun _ z => z) q)
    cases x with
    | none =>
      obtain rfl : v = .non := z
      exact ⟨.non, .ty "list", _, _, _, rfl, .ty _, .base .non, h2, hx _ F' H' o' g' rfl⟩
    | some xs =>
      obtain ⟨a, vs, rfl, k1, k2⟩ := z
      exact ⟨.ref a, .ty "list", _, _, _, rfl, .ty _, .base (.lst (o'.le _ _ k1)), h1, hx _ F' H' o' g' rfl⟩
end
end RF
namespace RF
open PySem PySem.Spec PyProof.Rows L2 KO SX
section
variable {α β β' γ δ : Type} {X : Cx} {W : WX} {Γe Γ Γ' : Ctx} {lv : Bool} {scope : Scope} {elt c : Expr} {ifs ifs1 : List Expr} {t : TE}
theorem RG.more {K : PySem.W.Frag} {g : TG} {p : Pr} {f : Ctx → Ctx} {vs ws : List Nat} (h : RG K g p f vs) (s : ∀ v ∈ vs, v ∈ ws) : RG K g p f ws := fun G Γ σ F H Q v o hv q => h G Γ σ F H Q v o hv fun σ' o' e => q σ' o' (by
  refine List.ext_getElem? fun i => ?_
  by_cases hi : i ∈ ws
  · by_cases hv2 : i ∈ vs
    · have := congrArg (fun l : L2.St => l[i]?) e
      simp only [wipe_get, if_pos hv2] at this
      simp only [wipe_get, if_pos hi, this]
    · have := congrArg (fun l : L2.St => l[i]?) e
      simp only [wipe_get, if_neg hv2] at this
      simp only [wipe_get, if_pos hi, this]
  · have hv2 : i ∉ vs := fun h => hi (s _ h)
    have := congrArg (fun l : L2.St => l[i]?) e
    simp only [wipe_get, if_neg hv2] at this
    simp only [wipe_get, if_neg hi, this])
theorem RGo.more {f : Ctx → Ctx} {vs ws : List Nat} (h : RGo f vs) (s : ∀ v ∈ vs, v ∈ ws) : RGo f ws := ⟨h.sub, fun Γ i n => h.keep Γ i fun m => n (s _ m)⟩
end
end RF
namespace RF
open PySem PySem.Spec PyProof.Rows L2 KO SX
theorem pl0 : ([] : List (Str × Pr)).length ≤ 0 := Nat.le_refl _
theorem pl1 {f : Str} {p : Pr} {n : Nat} : ∀ {fs : List (Str × Pr)}, fs.length ≤ n → (putP f p fs).length ≤ n + 1
  | [], _ => by simp [putP]
  | (g, q) :: fs, h => by
    unfold putP
    split
    · simp at h ⊢; omega
    · simp at h ⊢
      have := pl1 (f := f) (p := p) (n := n - 1) (fs := fs) (by omega)
      omega
theorem plt {n : Nat} {fs : List (Str × Pr)} (h : fs.length ≤ n) (k : n < 1000 := by decide) : fs.length < 1000 := by omega
theorem u1 {n : Nat} (h : n + 64 < cLine) : n + 1 < cLine := by omega
section
variable {α β γ δ : Type} {X : Cx} {W : WX} {Γe Γx Γ Γ' : Ctx} {lv : Bool} {e : Expr} {st bst : Stmt} {rest body suite : List Stmt} {Z : γ → Fin} {pos : Pos}
def Mo.tryO (mb : Mo δ) (cn : Str) (fls : List Str) (mh : Mo γ) (mr : δ → Mo γ) : Mo γ := ⟨fun Q E => mb.run (fun j => (mr j).run Q E) fun ex => if ex.cls = cn then mh.run Q (fun _ => False) else (ex.cls ∈ fls ∧ E ex), fun {Q Q' E E'} hq he r => mb.mono (fun j => (mr j).mono hq he) (fun ex hx => by
  by_cases c : ex.cls = cn
  · rw [if_pos c] at hx ⊢
    exact mh.mono hq (fun _ z => z) hx
  · rw [if_neg c] at hx ⊢
    exact ⟨hx.1, he _ hx.2⟩) r⟩
@[simp] theorem Mo.run_tryO {mb : Mo δ} {cn : Str} {fls : List Str} {mh : Mo γ} {mr : δ → Mo γ} {Q : γ → Prop} {E : Ex → Prop} : (Mo.tryO mb cn fls mh mr).run Q E = mb.run (fun j => (mr j).run Q E) (fun ex => if ex.cls = cn then mh.run Q (fun _ => False) else (ex.cls ∈ fls ∧ E ex)) := rfl
theorem rb_parF {i j : Nat} {a b : Expr} {ρa : α → Pr} {ρb : β → Pr} {ma : Mo α} {mb : Mo β} {mr : α → β → Mo γ} (hs : PS X st (tPar i j (tCons (tE X a) (tCons (tE X b) tNil)))) (ha : RE X W Γ a ma (.fz ρa)) (hb : RE X W Γ b mb (.fz ρb)) (hi : Γe[i]? = some .un) (hj : Γe[j]? = some .un)
    (hr : ∀ x y, RB X W Γe lv ((Γ.set i (.fz (ρa x))).set j (.fz (ρb y))) rest (mr x y) Z) : RB X W Γe lv Γ (st :: rest) (ma >>= fun x => mb >>= fun y => mr x y) Z := fun le G σ F H D nx' hn o q =>
  tSs_cons hs (by
    refine ha G σ F H _ o (ma.mono (fun x hx v F1 H1 o1 g1 z1 => ?_) (fun _ => XQ.eq le) q)
    refine hb G σ F1 H1 _ o1 (mb.mono (fun y hy w F2 H2 o2 g2 z2 => ?_) (fun _ z => XQ.eq le (XQ.step g1.fs z)) hx)
    exact ⟨v, w, rfl, hr x y ((le.set hi).set hj) G _ F2 H2 D nx' hn ((o2.set ((ρa x).mono g2.fs z1)).set z2) (run_fin (g1.fs.trans g2.fs) hy)⟩)
def asI : PyData → Option Int
  | .int i => some i
  | _ => none
end
end RF
namespace RF
open PySem PySem.Spec PyProof.Rows L2 KO SX
theorem Mo.ext' {α : Type} {m n : Mo α} (h : ∀ Q E, m.run Q E = n.run Q E) : m = n := by
  cases m; cases n
  congr
  funext Q E
  exact h Q E
instance : LawfulMonad Mo := LawfulMonad.mk' (m := Mo) (id_map := fun x => rfl) (pure_bind := fun x f => rfl) (bind_assoc := fun x f g => rfl)
section
variable {α β γ δ : Type}
@[simp] theorem Mo.get_some {x : α} : Mo.get (some x) = (pure x : Mo α) := Mo.ext' fun Q E => by simp
theorem Mo.rq_of {p : Prop} {x : α} (h : p) : Mo.rq p x = (pure x : Mo α) := Mo.ext' fun Q E => by simp [h]
@[simp] theorem Mo.throw_bind {e : Ex} {f : α → Mo β} : (Mo.throw e >>= f) = Mo.throw e := rfl
@[simp] theorem Mo.calm_pure {x : α} : Mo.calm (pure x) = (pure x : Mo α) := rfl
theorem Mo.run_take {m : Int} {Q : Int → Prop} {E : Ex → Prop} : (Mo.take m).run Q E = ((0 < m ∧ m < 1152921504606846976) ∧ ∀ r, 0 ≤ r ∧ r < m → Q r) := rfl
theorem Mo.comp_pure {c : β → Mo Bool} {f : β → Mo γ} {p : β → Bool} {g : β → γ} : ∀ {xs : List β}, (∀ x ∈ xs, c x = pure (p x)) → (∀ x ∈ xs, p x = true → f x = pure (g x)) → Mo.comp c f xs = pure ((xs.filter p).map g)
  | [], _, _ => rfl
  | x :: xs, hc, hf => by
    have ih := Mo.comp_pure (xs := xs) (fun y hy => hc y (List.mem_cons_of_mem _ hy)) (fun y hy => hf y (List.mem_cons_of_mem _ hy))
    unfold Mo.comp
    rw [hc x List.mem_cons_self]
    simp only [pure_bind]
    cases h : p x with
    | true => rw [if_pos rfl, hf x List.mem_cons_self h, ih]; simp [h]
    | false => rw [if_neg (by simp), ih]; simp [h]
theorem Mo.lc_pure {c : β → Mo Bool} {f : β → Mo γ} {p : β → Bool} {g : β → γ} {xs : List β} (hl : xs.length ≤ sizeLine) (hc : ∀ x ∈ xs, c x = pure (p x)) (hf : ∀ x ∈ xs, p x = true → f x = pure (g x)) : Mo.lc c f xs = pure ((xs.filter p).map g) := by
  unfold Mo.lc
  rw [Mo.rq_of hl, Mo.comp_pure hc hf]
  rfl
theorem Mo.comp_each {f : β → Mo γ} {R : β → γ → Prop} {E : Ex → Prop} : ∀ {xs : List β} {Q : List γ → Prop}, (∀ x ∈ xs, (f x).run (R x) E) → (∀ ys, ys.length = xs.length → (∀ (i : Nat) (x : β) (y : γ), xs[i]? = some x → ys[i]? = some y → R x y) → Q ys) → (Mo.comp (fun _ => pure true) f xs).run Q E
  | [], Q, _, q => q [] rfl (by simp)
  | x :: xs, Q, hf, q => by
    unfold Mo.comp
    refine (f x).mono (fun y hy => ?_) (fun _ z => z) (hf x List.mem_cons_self)
    refine Mo.comp_each (fun z hz => hf z (List.mem_cons_of_mem _ hz)) fun ys h1 h2 => q (y :: ys) (by simp [h1]) fun i a b ha hb => ?_
    cases i with
    | zero => simp at ha hb; subst ha hb; exact hy
    | succ i => exact h2 i a b (by simpa using ha) (by simpa using hb)
theorem Mo.fold_inv {σ : Type} {f : σ → β → Mo σ} {E : Ex → Prop} (I : Nat → σ → Prop) {Q : σ → Prop} : ∀ {xs : List β} {k : Nat} {s : σ}, I k s → (∀ (i : Nat) (x : β) s, xs[i]? = some x → I (k + i) s → (f s x).run (I (k + i + 1)) E) → (∀ s, I (k + xs.length) s → Q s) → (Mo.fold f xs s).run Q E
  | [], k, s, h, _, q => q s (by simpa using h)
  | x :: xs, k, s, h, hf, q => by
    show ((f s x) >>= fun s' => Mo.fold f xs s').run Q E
    refine (f s x).mono (fun s' hs => ?_) (fun _ z => z) (hf 0 x s rfl h)
    refine Mo.fold_inv I (k := k + 1) hs (fun i y t hy ht => ?_) fun t ht => q t ?_
    · have := hf (i + 1) y t (by simpa using hy) (by rw [show k + (i + 1) = k + 1 + i by omega]; exact ht)
      rw [show k + 1 + i + 1 = k + (i + 1) + 1 by omega]
      exact this
    · rw [show k + (x :: xs).length = k + 1 + xs.length by simp; omega]; exact ht
def Lp.is {S : Type} (I B : S → Prop) (R : δ → Prop) : Lp S δ → Prop
  | .go s => I s
  | .brk s => B s
  | .ret a => R a
theorem Mo.loop_inv {σ : Type} {f : σ → β → Mo (Lp σ δ)} {E : Ex → Prop} (I : Nat → σ → Prop) {Q : Lp σ δ → Prop} : ∀ {xs : List β} {k : Nat} {s : σ}, I k s → (∀ (i : Nat) (x : β) s, xs[i]? = some x → I (k + i) s → (f s x).run (Lp.is (I (k + i + 1)) (fun s => Q (.brk s)) (fun a => Q (.ret a))) E) → (∀ s, I (k + xs.length) s → Q (.go s)) → (Mo.loop f xs s).run Q E
  | [], k, s, h, _, q => q s (by simpa using h)
  | x :: xs, k, s, h, hf, q => by
    unfold Mo.loop
    refine (f s x).mono (fun l hl => ?_) (fun _ z => z) (hf 0 x s rfl h)
    cases l with
    | brk s' => exact hl
    | ret a => exact hl
    | go s' =>
      refine Mo.loop_inv I (k := k + 1) hl (fun i y t hy ht => ?_) fun t ht => q t ?_
      · have := hf (i + 1) y t (by simpa using hy) (by rw [show k + (i + 1) = k + 1 + i by omega]; exact ht)
        rw [show k + 1 + i + 1 = k + (i + 1) + 1 by omega]
        exact this
      · rw [show k + (x :: xs).length = k + 1 + xs.length by simp; omega]; exact ht
theorem Mo.while_inv {σ : Type} {c : σ → Mo Bool} {f : σ → Mo (Lp σ δ)} {E : Ex → Prop} (I : σ → Prop) (μ : σ → Nat) {Q : Lp σ δ → Prop} (h : ∀ s, I s → (c s).run (fun b => if b = true then (f s).run (Lp.is (fun s' => I s' ∧ μ s' < μ s) (fun s => Q (.brk s)) (fun a => Q (.ret a))) E else Q (.go s)) E) {s : σ} (h0 : I s) : (Mo.while c f s).run Q E := by
  refine ⟨μ s + 1, ?_⟩
  have key : ∀ (n : Nat) (s : σ), I s → μ s < n → whN c f n s Q E := fun n => by
    induction n with
    | zero => intro s _ h; omega
    | succ n ih =>
      intro s hs hn
      refine (c s).mono (fun b hb => ?_) (fun _ z => z) (h s hs)
      split
      · rename_i hb'
        rw [if_pos hb'] at hb
        refine (f s).mono (fun l hl => ?_) (fun _ z => z) hb
        cases l with
        | brk s' => exact hl
        | ret a => exact hl
        | go s' => exact ih s' hl.1 (by have := hl.2; omega)
      · rename_i hb'
        rw [if_neg hb'] at hb
        exact hb
  exact key _ s h0 (Nat.lt_succ_self _)
end
end RF
namespace RF
open PySem PySem.Spec PyProof.Rows L2 KO SX
section
variable {α β γ δ : Type} {X : Cx} {W : WX} {Γe Γ Γ' : Ctx} {lv : Bool} {e a b : Expr} {pos : Pos} {ρ : α → Pr}
def rQ (ρ : α → Pr) (xs : List α) : Pr := ⟨fun v F => ∃ a vs, v = .ref a ∧ (F a = some (.lst vs) ∨ Rd F a (.tup vs)) ∧ Ps F (xs.map ρ) vs, fun s ⟨a, vs, e, h, k⟩ => ⟨a, vs, e, h.imp (s _ _) (fun h => Rd.mono h s), k.mono s⟩⟩
end
end RF
namespace RF
open PySem PySem.Spec PyProof.Rows L2 KO SX
section
variable {α β γ δ : Type}
def Mo.disp : List (Str × (Ex → Mo α)) → Ex → (α → Prop) → (Ex → Prop) → Prop
  | [], ex, _, E => E ex
  | (cn, h) :: r, ex, Q, E => if ex.cls = cn then (h ex).run Q (fun _ => False) else Mo.disp r ex Q E
theorem Mo.disp_mono {Q Q' : α → Prop} {E E' : Ex → Prop} (hq : ∀ x, Q x → Q' x) (he : ∀ x, E x → E' x) : ∀ {hs : List (Str × (Ex → Mo α))} {ex : Ex}, Mo.disp hs ex Q E → Mo.disp hs ex Q' E'
  | [], ex, h => he _ h
  | (cn, h) :: r, ex, k => by
    unfold Mo.disp at k ⊢
    split
    · rename_i c
      rw [if_pos c] at k
      exact (h ex).mono hq (fun _ z => z) k
    · rename_i c
      rw [if_neg c] at k
      exact Mo.disp_mono hq he k
def Mo.catchN (m : Mo α) (ks : List Str) (hs : List (Str × (Ex → Mo α))) : Mo α := ⟨fun Q E => m.run Q fun ex => ex.cls ∈ ks ∧ Mo.disp hs ex Q E, fun {Q Q' E E'} hq he r => m.mono hq (fun ex hx => ⟨hx.1, Mo.disp_mono hq he hx.2⟩) r⟩
@[simp] theorem Mo.run_catchN {m : Mo α} {ks : List Str} {hs : List (Str × (Ex → Mo α))} {Q : α → Prop} {E : Ex → Prop} : (Mo.catchN m ks hs).run Q E = m.run Q fun ex => ex.cls ∈ ks ∧ Mo.disp hs ex Q E := rfl
variable {X : Cx} {W : WX} {Γe Γ Γ' : Ctx} {lv : Bool} {e : Expr} {st bst : Stmt} {rest body : List Stmt} {Z : γ → Fin} {pos : Pos}
inductive RHs (X : Cx) (Γ : Ctx) (Γj : δ → Ctx) (ks : List Str) : List (Value × Nat × (Addr → Value → Option Addr → TS)) → List (Str × (Ex → Mo δ)) → Prop where
  | nil : RHs X Γ Γj ks [] []
  | cons {Cc : Addr} {i : Nat} {cn : Str} {suite : List Stmt} {mh : Ex → Mo δ} {l : List (Value × Nat × (Addr → Value → Option Addr → TS))} {hs : List (Str × (Ex → Mo δ))} (hcn : X.mg cn = some (.ref Cc)) (hsub : PySem.W.exmOne X.K (.ref Cc) (.ref Cc) = some true)
    (hfls : ∀ n ∈ ks, n ≠ cn → ∀ C', X.mg n = some (.ref C') → PySem.W.exmOne X.K (.ref C') (.ref Cc) = some false)
    (hh : ∀ a oe d pn ex, ex.cls = cn → Zc (.ref Cc) d oe → (∃ vs, oe.data = .fields vs) → RB (X.suite a ((a, oe) :: pn)) W0 (List.replicate Γ.length .un) false (Γ.set i (.fz (exP a d ex))) suite (mh ex) (fun j => .nx (Γj j)))
    (hjs : ∀ j, Le (Γj j) ((Γj j).set i .un)) (hu : Le (List.replicate Γ.length .un) (Γ.set i .un)) (r : RHs X Γ Γj ks l hs) : RHs X Γ Γj ks ((.ref Cc, i, tTs X suite) :: l) ((cn, mh) :: hs)
theorem RHs.run {Γj : δ → Ctx} {ks : List Str} {l : List (Value × Nat × (Addr → Value → Option Addr → TS))} {hs : List (Str × (Ex → Mo δ))} (h : RHs X Γ Γj ks l hs) {G : Gf} {D : Ends} {σ : L2.St} {F H : Hp} {ex : Ex} {C : Addr} {d : Option Addr} {Q : δ → Prop} {E : Ex → Prop} (o : Ok G Γ σ F H) (hk : ex.cls ∈ ks) (hC : X.mg ex.cls = some (.ref C)) (z : ErrOk X.K X.mg ex (.ref C) d F)
    (key : ∀ j, Q j → ∀ σ2 F2 H2, Same G.F0 F2 → Ok G (Γj j) σ2 F2 H2 → D.nx σ2 H2) (out : E ex → W (.ref C) d σ H) (q : Mo.disp hs ex Q E) : wManyA X.K W D l (.ref C) d σ H := by
  induction h with
  | nil => exact out q
  | @cons Cc i cn suite mh l hs hcn hsub hfls hh hjs hu r ih =>
    show ∃ b, _
    by_cases c : ex.cls = cn
    · unfold Mo.disp at q
      rw [if_pos c] at q
      have hCC := hC
      rw [c, hcn] at hCC
      cases hCC
      refine ⟨true, hsub, fun _ a ha => ?_, fun h => by cases h⟩
      intro oe pn' hz hf
      refine hh a oe d pn' ex c hz hf (le_un hu) G _ F H { nx := _, rt := D.rt, bk := _, ct := _ } _ (fun _ => rfl) (o.toSuite (a := a) z) ((mh ex).mono (fun j hj' σ3 F3 H3 s3 o3 => ?_) (fun _ z => z.elim) q)
      have o4 := o3.forget i (v := none)
      exact key j hj' _ F3 H3 s3 (o4.weak (hjs j))
    · unfold Mo.disp at q
      rw [if_neg c] at q
      exact ⟨false, hfls _ hk c C hC, fun h => (by cases h), fun _ => ih q⟩
end
end RF
namespace RF
open PySem PySem.Spec PyProof.Rows L2 KO SX
section
variable {α β γ : Type} {X : Cx} {W : WX} {Γ : Ctx} {e a b c : Expr} {es : List Expr} {pos : Pos} {op op' : CmpOp} {ma mb mc : Mo Str} {mi : Mo Int}
def chars (z : Str) : List Str := z.cps.toList.map fun c => ⟨#[c]⟩
theorem re_addS (ha : RE X W Γ a ma (.fz rS)) (hb : RE X W Γ b mb (.fz rS)) : RE X W Γ (.BinOp a .Add b pos) (ma >>= fun x => mb >>= fun y => Mo.rq (x.length + y.length ≤ sizeLine) (x ++ y)) (.fz rS) :=
  re_bin op_add_str (fun x y G σ F H Q u w o hu hw q => by
    obtain rfl : u = .str x := hu
    obtain rfl : w = .str y := hw
    exact ⟨x, y, rfl, rfl, q.1, NQ.here (ρ := rS) q.2 o rfl⟩) ha hb
theorem re_ixS (ha : RE X W Γ a ma (.fz rS)) (hb : RE X W Γ b mi (.fz rI)) (hs : PlainIx b := by exact fun _ _ => rfl) : RE X W Γ (.Subscript a b pos) (ma >>= fun z => mi >>= fun i => Mo.rq (z.length ≤ sizeLine) () >>= fun _ => Mo.get (atI (chars z) i)) (.fz rS) :=
  re_ix ix_str (fun z i G σ F H Q u w o hu hw q => by
    obtain rfl : u = .str z := hu
    obtain rfl : w = .int i := hw
    obtain ⟨q1, x, hx, q2⟩ := q
    unfold chars at hx
    rw [atI_map] at hx
    cases e : atI z.cps.toList i with
    | none => rw [e] at hx; cases hx
    | some c =>
      rw [e] at hx
      cases hx
      exact ⟨z, i, c, rfl, rfl, q1, e, NQ.here (ρ := rS) q2 o rfl⟩) ha hb hs
theorem re_slS {lo hi : Option Expr} {ml mh : Mo (Option Int)} {p2 : Pos} (ha : RE X W Γ a ma (.fz rS)) (hl : RP X W Γ lo ml) (hh : RP X W Γ hi mh) : RE X W Γ (.Subscript a (.Slice lo hi none p2) pos) (ma >>= fun z => ml >>= fun l => mh >>= fun h => Mo.rq (z.length ≤ sizeLine) (cutS z l h)) (.fz rS) := by
  refine re_of (pe_slice sl_str peE poP poP) fun G σ F H Q o q => ?_
  refine ha G σ F H _ o (ma.mono (fun z hx v F1 H1 o1 g1 zz => ?_) (fun _ z => z) q)
  obtain rfl : v = .str z := zz
  refine hl G σ F1 H1 _ o1 (ml.mono (fun l hx F2 H2 o2 g2 => ?_) (fun _ => EQ.step g1) hx)
  have g12 := g1.trans g2 owns_tr
  refine hh G σ F2 H2 _ o2 (mh.mono (fun h hx F3 H3 o3 g3 => ?_) (fun _ => EQ.step g12) hx)
  exact ⟨z, rfl, hx.1, hx.2 _ F3 H3 o3 (g12.trans g3 owns_tr) rfl⟩
theorem re_lenS {p : Pos} (h : RE X W Γ e ma (.fz rS)) (hm : X.mg "len" = none) (hg : Gl X "len" := by rfl) (he : starEach [e] X.env = [(false, eval e X.env)] := by rfl) : RE X W Γ (.Call (.Name "len" p) [e] [] pos) (ma >>= fun z => Mo.rq (z.length ≤ sizeLine) (z.length : Int)) (.fz rI) := by
  refine re_of (pe_callB call_len_str hg hm (by decide +kernel) (pa_cons peE pa_nil he) (by decide) (by decide) he rfl) fun G σ F H Q o q => ?_
  refine h G σ F H _ o (ma.mono (fun z hx v F' H' o' g' zz => ?_) (fun _ z => z) q)
  obtain rfl : v = .str z := zz
  exact ⟨z, rfl, hx.1, hx.2 _ F' H' o' g' rfl⟩
theorem src_str {z : Str} {F : Hp} : Src (Its z) (chars z) rS F := fun F2 H2 s1 s2 => by
  have hl : (chars z).length = z.cps.size := by simp [chars]
  refine ⟨fun i hi => by rw [hl] at hi; exact hi, by show z.cps.size ≤ (chars z).length; omega, fun i x v H3 hx y => ?_⟩
  obtain ⟨rfl, c, hc, rfl⟩ := y
  refine ⟨F2, Go.refl s2, ?_⟩
  unfold chars at hx
  rw [List.getElem?_map, Array.getElem?_toList, hc] at hx
  cases hx
  rfl
theorem ri_str (h : RE X W Γ e ma (.fz rS)) : RI X W Γ (iStr (tE X e)) (ma >>= fun z => pure (chars z)) rS := fun G σ F H R o q => by
  refine h G σ F H _ o (ma.mono (fun z hx v F' H' o' g' zz => ?_) (fun _ z => z) q)
  obtain rfl : v = .str z := zz
  exact ⟨z, rfl, hx _ F' H' o' g' src_str⟩
structure SCmp (X : Cx) (op : CmpOp) (f : Str → Str → Bool) : Prop where
  h : ∃ r, OpR X (compareOp op) r ∧ ∀ (W : WX) (Γ : Ctx) (x y : Str), ROp X W Γ r (rS x) (rS y) (pure (f x y)) (.fz rB)
theorem s_le : SCmp X .LtE (fun i j => !decide (j.cps.toList < i.cps.toList)) := ⟨_, op_le_str, fun W Γ x z G σ F H Q u w o hu hw q => by
    obtain rfl : u = .str x := hu
    obtain rfl : w = .str z := hw
    exact ⟨x, z, rfl, rfl, NQ.here (ρ := rB) q o rfl⟩⟩
section
variable {f f' : Str → Str → Bool}
theorem rte_chainS {r r' : R2} (hr : ∀ x y, ROp X W Γ r (rS x) (rS y) (pure (f x y)) (.fz rB)) (hr' : ∀ x y, ROp X W Γ r' (rS x) (rS y) (pure (f' x y)) (.fz rB)) (ha : RE X W Γ a ma (.fz rS)) (hb : RE X W Γ b mb (.fz rS)) (hc : RE X W Γ c mc (.fz rS)) :
    RTE X W Γ (tChain r r' (tE X a) (tE X b) (tE X c)) (ma >>= fun i => mb >>= fun j => if f i j = true then mc >>= fun k => pure (f' j k) else pure false) (.fz rB) := fun G σ F H Q o q => by
  refine ha G σ F H _ o (ma.mono (fun i hx v F1 H1 o1 g1 z1 => ?_) (fun _ z => z) q)
  refine hb G σ F1 H1 _ o1 (mb.mono (fun j hy u F2 H2 o2 g2 z2 => ?_) (fun _ => EQ.step g1) hx)
  have g12 := g1.trans g2 owns_tr
  refine hr i j G σ F2 H2 _ v u o2 ((rS i).mono g2.fs z1) z2 (fun w F3 H3 o3 g3 z3 => ?_)
  have z3 : w = .bl (f i j) := z3
  refine ⟨_, z3, ?_⟩
  have g13 := g12.trans g3 owns_tr
  dsimp only at hy
  cases hf : f i j with
  | false =>
    rw [hf] at hy z3
    subst z3
    exact iteF (hy _ F3 H3 o3 g13 rfl)
  | true =>
    rw [if_pos hf] at hy
    refine iteT (hc G σ F3 H3 _ o3 (mc.mono (fun k hk w' F4 H4 o4 g4 z4 => ?_) (fun _ => EQ.step g13) hy))
    exact hr' j k G σ F4 H4 Q u w' o4 ((rS j).mono (g3.fs.trans g4.fs) z2) z4 (NQ.step (g13.trans g4 owns_tr) hk)
theorem re_chainS (hi : SCmp X op f) (hi' : SCmp X op' f') (ha : RE X W Γ a ma (.fz rS)) (hb : RE X W Γ b mb (.fz rS)) (hc : RE X W Γ c mc (.fz rS)) (hm : lastMarks [op, op'] [b, c] = false := by with_unfolding_all rfl) :
    RE X W Γ (.Compare a [op, op'] [b, c] pos) (ma >>= fun i => mb >>= fun j => if f i j = true then mc >>= fun k => pure (f' j k) else pure false) (.fz rB) := by
  obtain ⟨r, ho, hr⟩ := hi.h
  obtain ⟨r', ho', hr'⟩ := hi'.h
  exact re_of (pe_chain ho ho' peE peE peE hm) (rte_chainS (hr W Γ) (hr' W Γ) ha hb hc)
end
theorem pass_calm (tk : Takes X W) : ∀ σ, PassesAt (L2.CX X.prog X.w) X σ (fun _ _ _ => False) := fun σ pins H s e s' I h => tk e s' (XE.of_call I (fun _ _ _ z => z.elim) h)
end
end RF
namespace RF
open PySem PySem.Spec PyProof.Rows L2 KO SX
section
variable {α β γ δ ε ζ η θ : Type}
def rT6 (ρ : α → Pr) (σ : β → Pr) (τ : γ → Pr) (υ : δ → Pr) (φ : ε → Pr) (χ : ζ → Pr) (x : α × β × γ × δ × ε × ζ) : Pr := rTu [ρ x.1, σ x.2.1, τ x.2.2.1, υ x.2.2.2.1, φ x.2.2.2.2.1, χ x.2.2.2.2.2]
def rT7 (ρ : α → Pr) (σ : β → Pr) (τ : γ → Pr) (υ : δ → Pr) (φ : ε → Pr) (χ : ζ → Pr) (ψ : η → Pr) (x : α × β × γ × δ × ε × ζ × η) : Pr := rTu [ρ x.1, σ x.2.1, τ x.2.2.1, υ x.2.2.2.1, φ x.2.2.2.2.1, χ x.2.2.2.2.2.1, ψ x.2.2.2.2.2.2]
def rT8 (ρ : α → Pr) (σ : β → Pr) (τ : γ → Pr) (υ : δ → Pr) (φ : ε → Pr) (χ : ζ → Pr) (ψ : η → Pr) (ω : θ → Pr) (x : α × β × γ × δ × ε × ζ × η × θ) : Pr := rTu [ρ x.1, σ x.2.1, τ x.2.2.1, υ x.2.2.2.1, φ x.2.2.2.2.1, χ x.2.2.2.2.2.1, ψ x.2.2.2.2.2.2.1, ω x.2.2.2.2.2.2.2]
section
variable {ρ : α → Pr} {σ : β → Pr} {τ : γ → Pr} {υ : δ → Pr} {φ : ε → Pr} {χ : ζ → Pr} {ψ : η → Pr} {ω : θ → Pr}
section
variable [r : Enc ρ] [s : Enc σ] [t : Enc τ] [u : Enc υ] [w : Enc φ] [y : Enc χ] [z : Enc ψ] [z2 : Enc ω]
instance encT6 : Enc (rT6 ρ σ τ υ φ χ) := ⟨max r.n (max s.n (max t.n (max u.n (max w.n y.n)))) + 1, fun x => .tuple [r.d x.1, s.d x.2.1, t.d x.2.2.1, u.d x.2.2.2.1, w.d x.2.2.2.2.1, y.d x.2.2.2.2.2], fun x => r.ok x.1 ∧ s.ok x.2.1 ∧ t.ok x.2.2.1 ∧ u.ok x.2.2.2.1 ∧ w.ok x.2.2.2.2.1 ∧ y.ok x.2.2.2.2.2, fun {x v F} k h =>
  dt_tu rfl (by show 6 ≤ 1000; decide) h (all2 (.cons (fun v h => (r.is k.1 h).le (by omega)) (.cons (fun v h => (s.is k.2.1 h).le (by omega)) (.cons (fun v h => (t.is k.2.2.1 h).le (by omega)) (.cons (fun v h => (u.is k.2.2.2.1 h).le (by omega)) (.cons (fun v h => (w.is k.2.2.2.2.1 h).le (by omega)) (.cons (fun v h => (y.is k.2.2.2.2.2 h).le (by omega)) .nil)))))))⟩
instance encT7 : Enc (rT7 ρ σ τ υ φ χ ψ) := ⟨max r.n (max s.n (max t.n (max u.n (max w.n (max y.n z.n))))) + 1, fun x => .tuple [r.d x.1, s.d x.2.1, t.d x.2.2.1, u.d x.2.2.2.1, w.d x.2.2.2.2.1, y.d x.2.2.2.2.2.1, z.d x.2.2.2.2.2.2], fun x => r.ok x.1 ∧ s.ok x.2.1 ∧ t.ok x.2.2.1 ∧ u.ok x.2.2.2.1 ∧ w.ok x.2.2.2.2.1 ∧ y.ok x.2.2.2.2.2.1 ∧ z.ok x.2.2.2.2.2.2, fun {x v F} k h =>
  dt_tu rfl (by show 7 ≤ 1000; decide) h (all2 (.cons (fun v h => (r.is k.1 h).le (by omega)) (.cons (fun v h => (s.is k.2.1 h).le (by omega)) (.cons (fun v h => (t.is k.2.2.1 h).le (by omega)) (.cons (fun v h => (u.is k.2.2.2.1 h).le (by omega)) (.cons (fun v h => (w.is k.2.2.2.2.1 h).le (by omega)) (.cons (fun v h => (y.is k.2.2.2.2.2.1 h).le (by omega)) (.cons (fun v h => (z.is k.2.2.2.2.2.2 h).le (by omega)) .nil))))))))⟩
instance encT8 : Enc (rT8 ρ σ τ υ φ χ ψ ω) := ⟨max r.n (max s.n (max t.n (max u.n (max w.n (max y.n (max z.n z2.n)))))) + 1, fun x => .tuple [r.d x.1, s.d x.2.1, t.d x.2.2.1, u.d x.2.2.2.1, w.d x.2.2.2.2.1, y.d x.2.2.2.2.2.1, z.d x.2.2.2.2.2.2.1, z2.d x.2.2.2.2.2.2.2], fun x => r.ok x.1 ∧ s.ok x.2.1 ∧ t.ok x.2.2.1 ∧ u.ok x.2.2.2.1 ∧ w.ok x.2.2.2.2.1 ∧ y.ok x.2.2.2.2.2.1 ∧ z.ok x.2.2.2.2.2.2.1 ∧ z2.ok x.2.2.2.2.2.2.2, fun {x v F} k h =>
  dt_tu rfl (by show 8 ≤ 1000; decide) h (all2 (.cons (fun v h => (r.is k.1 h).le (by omega)) (.cons (fun v h => (s.is k.2.1 h).le (by omega)) (.cons (fun v h => (t.is k.2.2.1 h).le (by omega)) (.cons (fun v h => (u.is k.2.2.2.1 h).le (by omega)) (.cons (fun v h => (w.is k.2.2.2.2.1 h).le (by omega)) (.cons (fun v h => (y.is k.2.2.2.2.2.1 h).le (by omega)) (.cons (fun v h => (z.is k.2.2.2.2.2.2.1 h).le (by omega)) (.cons (fun v h => (z2.is k.2.2.2.2.2.2.2 h).le (by omega)) .nil)))))))))⟩
end
instance {ρ : α → Pr} : NN (rQ ρ) := ⟨fun x v F ⟨a, vs, e, _⟩ z => by subst z; cases e⟩
instance : NN (rT1 ρ) := ⟨fun x v F h => nn_tu h⟩
instance : NN (rT4 ρ σ τ υ) := ⟨fun x v F h => nn_tu h⟩
instance : NN (rT5 ρ σ τ υ φ) := ⟨fun x v F h => nn_tu h⟩
instance : NN (rT6 ρ σ τ υ φ χ) := ⟨fun x v F h => nn_tu h⟩
instance : NN (rT7 ρ σ τ υ φ χ ψ) := ⟨fun x v F h => nn_tu h⟩
instance : NN (rT8 ρ σ τ υ φ χ ψ ω) := ⟨fun x v F h => nn_tu h⟩
theorem nn_in {C : Addr} {fs : List (Str × Pr)} {v : V} {F : Hp} (h : (rIn C fs).r v F) : v ≠ .non := fun z => by
  obtain ⟨a, dx, gs, e, _⟩ := h
  subst z; cases e
instance [NL ρ] [NL σ] [NL τ] [NL υ] [NL φ] [NL χ] : NL (rT6 ρ σ τ υ φ χ) := ⟨fun {x} {v F a vs} h k => nl_T (nl_memc (nlr _) (nl_memc (nlr _) (nl_memc (nlr _) (nl_memc (nlr _) (nl_memc (nlr _) (nl_mem1 (nlr _))))))) h k⟩
end
end
section
variable {α β γ δ ε ζ α' β' γ' δ' ε' ζ' : Type} {ρ : α → Pr} {ρ' : α' → Pr} {σ : β → Pr} {σ' : β' → Pr} {τ : γ → Pr} {τ' : γ' → Pr} {υ : δ → Pr} {υ' : δ' → Pr} {φ : ε → Pr} {φ' : ε' → Pr} {χ : ζ → Pr} {χ' : ζ' → Pr}
def Coe (ρ : α → Pr) (ρ' : α' → Pr) (f : α → α') : Prop := ∀ x v F, (ρ x).r v F → (ρ' (f x)).r v F
theorem co_id : Coe ρ ρ (fun x => x) := fun _ _ _ h => h
theorem co_none : Coe rN (rO ρ) (fun _ => none) := fun _ _ _ h => h
theorem co_some {f : α → α'} (h : Coe ρ ρ' f) : Coe ρ (rO ρ') (fun x => some (f x)) := fun x v F k => h x v F k
inductive CoP (F : Hp) : List Pr → List Pr → Prop where
  | nil : CoP F [] []
  | cons {p q : Pr} {ps qs : List Pr} (h : ∀ v, p.r v F → q.r v F) (t : CoP F ps qs) : CoP F (p :: ps) (q :: qs)
theorem CoP.ps {F : Hp} : ∀ {ps qs : List Pr} {vs : List V}, CoP F ps qs → Ps F ps vs → Ps F qs vs
  | _, _, [], .nil, _ => trivial
  | _, _, v :: vs, .cons h t, k => ⟨h v k.1, t.ps k.2⟩
  | _, _, [], .cons _ _, k => k.elim
  | _, _, _ :: _, .nil, k => k.elim
end
section
variable {α β γ δ : Type} {X : Cx} {W : WX} {Γe Γ Γ' : Ctx} {lv : Bool} {e a b : Expr} {es : List Expr} {pos : Pos} {ρ : α → Pr} {m : Mo α}
theorem re_coe {ρ' : β → Pr} {f : α → β} (c : Coe ρ ρ' f) (h : RE X W Γ e m (.fz ρ)) : RE X W Γ e (f <$> m) (.fz ρ') := re_map f h c
class Dec (ρ : α → Pr) where
  d : PyData → Option α
  is : ∀ {x : PyData} {y : α} {v : V} {F : Hp} {n : Nat}, n ≤ 8 → d x = some y → Dt n F v x → (ρ y).r v F
def asS : PyData → Option Str
  | .str i => some i
  | _ => none
def asB : PyData → Option Bool
  | .bool i => some i
  | _ => none
theorem dt_pos {n : Nat} {F : Hp} {v : V} {x : PyData} (h : Dt n F v x) : ∃ k, n = k + 1 := by
  cases n with
  | zero => exact h.elim
  | succ k => exact ⟨k, rfl⟩
instance decI : Dec rI := ⟨asI, fun {x y v F n} hn e h => by
  obtain ⟨k, rfl⟩ := dt_pos h
  cases x with
  | int j => obtain rfl := Option.some.inj e; exact h
  | _ => cases e⟩
instance decS : Dec rS := ⟨asS, fun {x y v F n} hn e h => by
  obtain ⟨k, rfl⟩ := dt_pos h
  cases x with
  | str j => obtain rfl := Option.some.inj e; exact h
  | _ => cases e⟩
instance decB : Dec rB := ⟨asB, fun {x y v F n} hn e h => by
  obtain ⟨k, rfl⟩ := dt_pos h
  cases x with
  | bool j => obtain rfl := Option.some.inj e; exact h
  | _ => cases e⟩
instance decD : Dec rD := ⟨some, fun {x y v F n} hn e h => by
  obtain rfl := Option.some.inj e
  exact h.le hn⟩
instance decO {ρ : α → Pr} [s : Dec ρ] : Dec (rO ρ) := ⟨fun x => match x with | .none => some none | x => (s.d x).map some, fun {x y v F n} hn e h => by
  obtain ⟨k, rfl⟩ := dt_pos h
  cases x with
  | none => cases e; exact h
  | int _ => simp only [Option.map_eq_some_iff] at e; obtain ⟨a, e, rfl⟩ := e; exact s.is hn e h
  | bool _ => simp only [Option.map_eq_some_iff] at e; obtain ⟨a, e, rfl⟩ := e; exact s.is hn e h
  | str _ => simp only [Option.map_eq_some_iff] at e; obtain ⟨a, e, rfl⟩ := e; exact s.is hn e h
  | list _ => simp only [Option.map_eq_some_iff] at e; obtain ⟨a, e, rfl⟩ := e; exact s.is hn e h
  | tuple _ => simp only [Option.map_eq_some_iff] at e; obtain ⟨a, e, rfl⟩ := e; exact s.is hn e h
  | dict _ => exact h.elim⟩
theorem dec_ps {ρ : α → Pr} [s : Dec ρ] {F : Hp} {n : Nat} (hn : n ≤ 8) : ∀ {ds : List PyData} {ys : List α} {vs : List V}, ds.mapM s.d = some ys → vs.length = ds.length → (∀ (i : Nat) (x : V) (e : PyData), vs[i]? = some x → ds[i]? = some e → Dt n F x e) → Ps F (ys.map ρ) vs
  | [], ys, [], e, _, _ => by simp at e; subst e; trivial
  | d :: ds, ys, v :: vs, e, hl, h => by
    rw [List.mapM_cons] at e
    cases e1 : s.d d with
    | none => rw [e1] at e; simp at e
    | some y =>
      cases e2 : ds.mapM s.d with
      | none => rw [e1, e2] at e; simp at e
      | some zs =>
        rw [e1, e2] at e
        simp at e
        subst e
        exact ⟨s.is hn e1 (h 0 v d rfl rfl), dec_ps hn e2 (by simpa using hl) fun i x c h1 h2 => h (i + 1) x c (by simpa using h1) (by simpa using h2)⟩
  | [], _, _ :: _, _, hl, _ => by simp at hl
  | _ :: _, _, [], _, hl, _ => by simp at hl
instance decL {ρ : α → Pr} [s : Dec ρ] : Dec (rL ρ) := ⟨fun x => match x with | .list ds => ds.mapM s.d | _ => none, fun {x y v F n} hn e h => by
  obtain ⟨k, rfl⟩ := dt_pos h
  cases x with
  | list ds =>
    obtain ⟨a, xs, rfl, h1, h2, _, h3⟩ := h
    exact ⟨a, xs, rfl, h1, dec_ps (by omega) e h2 h3⟩
  | _ => cases e⟩
instance decTs {ρ : α → Pr} [s : Dec ρ] : Dec (rTs ρ) := ⟨fun x => match x with | .tuple ds => ds.mapM s.d | _ => none, fun {x y v F n} hn e h => by
  obtain ⟨k, rfl⟩ := dt_pos h
  cases x with
  | tuple ds =>
    obtain ⟨a, xs, rfl, h1, h2, _, h3⟩ := h
    exact ⟨a, xs, rfl, h1, dec_ps (by omega) e h2 h3⟩
  | _ => cases e⟩
class DecP (ps : List Pr) (ds : List PyData) : Prop where
  is : ∀ {vs : List V} {F : Hp}, Ps F (ds.map rD) vs → Ps F ps vs
section
variable {ε : Type} {ρ2 : β → Pr} {τ : γ → Pr} {υ : δ → Pr} {φ : ε → Pr} [r : Dec ρ] [s : Dec ρ2] [t : Dec τ] [u : Dec υ] [w : Dec φ]
def dT2 (ρ : α → Pr) (ρ2 : β → Pr) [r : Dec ρ] [s : Dec ρ2] : List PyData → Option (α × β)
  | [a, b] => do let a ← r.d a; let b ← s.d b; pure (a, b)
  | _ => none
theorem some_bind {A B : Type} {o : Option A} {f : A → Option B} {y : B} (h : (o >>= f) = some y) : ∃ a, o = some a ∧ f a = some y := by
  cases o with
  | none => cases h
  | some a => exact ⟨a, rfl, h⟩
end
end
end RF
namespace RF
open PySem PySem.Spec PyProof.Rows L2 KO SX
section
variable {α β γ δ : Type} {X : Cx} {W : WX} {Γe Γ Γ' : Ctx} {lv : Bool} {e a b : Expr} {es : List Expr} {pos : Pos}
section
variable {lo hi : Option Expr} {ml mh : Mo (Option Int)} {p2 : Pos}
theorem re_slT {ma : Mo α} {ρ : α → Pr} {ρ' : γ → Pr} (g : α → γ) (ps : α → List Pr) (l h : Option Int) (ha : RE X W Γ a ma (.fz ρ)) (hl : RP X W Γ lo (pure l)) (hh : RP X W Γ hi (pure h)) (h1 : ∀ x, ρ x = rTu (ps x) := by intro _; rfl) (h2 : ∀ x, ρ' (g x) = rTu (cutL (ps x) l h) := by intro _; rfl) : RE X W Γ (.Subscript a (.Slice lo hi none p2) pos) (ma >>= fun z => pure (g z)) (.fz ρ') := by
  refine re_of (pe_slice sl_tupA peE poP poP) fun G σ F H Q o q => ?_
  refine ha G σ F H _ o (ma.mono (fun z hx v F1 H1 o1 g1 zz => ?_) (fun _ z => z) q)
  have zz : (ρ z).r v F1 := zz
  rw [h1 z] at zz
  obtain ⟨ad, vs, rfl, k1, k2⟩ := zz
  refine hl G σ F1 H1 _ o1 fun F2 H2 o2 g2 => ?_
  have g12 := g1.trans g2 owns_tr
  refine hh G σ F2 H2 _ o2 fun F3 H3 o3 g3 => ?_
  have g13 := g12.trans g3 owns_tr
  have s13 : Same F1 F3 := g2.fs.trans g3.fs
  have cut := (k2.mono s13).cut l h
  refine ⟨ad, vs, rfl, SqT.ofR (Rd.mono k1 (s13.trans o3.le)), fun e => ?_, fun _ d hd => ?_⟩
  · refine hx _ F3 H3 o3 g13 ?_
    show (ρ' (g z)).r _ _
    rw [h2 z]
    refine ⟨ad, vs, rfl, Rd.mono k1 s13, ?_⟩
    have : cutV vs l h = vs := by
      unfold cutV
      rw [e.1, e.2]
      simp
    rw [← this]
    exact cut
  · refine hx.ownF o3 g13 hd ?_
    show (ρ' (g z)).r _ _
    rw [h2 z]
    exact ⟨d, _, rfl, .inl upd_same, cut.mono (same_upd (o3.le.free hd))⟩
theorem rp_int {i : Int} {j : Nat} {p : Pos} : RP X W Γ (some (.Constant (.int i) j p)) (pure (some i)) := rp_some re_int
end
end
end RF
namespace RF
open PySem PySem.Spec PyProof.Rows L2 KO SX
section
variable {α β γ δ : Type} {X : Cx} {W : WX} {Γ : Ctx} {e a b : Expr} {pos : Pos} {k : Nat} {f C : Addr} {fd : FuncData} {ps : List Str} {CX : CXT} {sp : Sp}
theorem arg1 {F H : Hp} {p : Pr} {v : V} (h : p.r v F) : ArgOk Γ F H [.fz p] [v] := ⟨rfl, fun i en u e1 e2 => by
  match i, e1, e2 with
  | 0, e1, e2 => cases e1; cases e2; exact h, fun i l a q h => by
  match i, h with
  | 0, h => cases h⟩
theorem re_lenO {p : Pos} {m : α × Unit → Mo Int} {mx : Mo α} {ρ : α → Pr} (fs : α → List (Str × Pr)) (hm : Meth X.K C "__len__" f) (Fn : FnOk X.prog X.w X.K X.mg X.base (L2.CX X.prog X.w) k f fd ps (spR X.K X.mg (fun (_ : Unit) (z : α × Unit) => [.fz (ρ z.1)]) m (.fz rI))) (hr : Room (k + 1) X.A) (tk : Takes X W) (hb : Binds X.K fd ps [])
    (ha : RE X W Γ e mx (.fz ρ)) (hms : X.mg "len" = none) (hρ : ∀ x, ρ x = rIn C (fs x) := by intro _; rfl) (hg : Gl X "len" := by rfl) (he : starEach [e] X.env = [(false, eval e X.env)] := by rfl) : RE X W Γ (.Call (.Name "len" p) [e] [] pos) (mx >>= fun x => Mo.calm (m (x, ())) >>= fun n => Mo.rq (0 ≤ n ∧ n < 2 ^ 63) n) (.fz rI) := by
  refine re_of (pe_callB (len_own hm Fn hr hb (pass_calm tk)) hg hms (by decide +kernel) (pa_cons peE pa_nil he) (by decide) (by decide) he rfl) fun G σ F H Q o q => ?_
  refine ha G σ F H _ o (mx.mono (fun x hx v F' H' o' g' z => ?_) (fun _ z => z) q)
  have z' : (ρ x).r v F' := z
  have z0 : (ρ x).r v F' := z
  rw [hρ x] at z'
  obtain ⟨ad, dx, gs, rfl, h1, _⟩ := z'
  refine ⟨ad, dx, gs, rfl, o'.le _ _ h1, ?_⟩
  have hx' : (Mo.calm (m (x, ()))).run (fun n => (0 ≤ n ∧ n < 2 ^ 63) ∧ NQ G Γ σ F' H' (.fz rI) Q n) (EQ X W0 G Γ σ F' H') := Mo.mono _ (fun n hn => ⟨hn.1, NQ.step g' hn.2⟩) (fun _ z => False.elim z) hx
  refine run_spR (W := W0) (Γ := Γ) (i := ()) (y := (x, ())) o' (arg1 z0) rfl ((m (x, ())).mono (fun n hn v F2 H2 o2 g2 z => ?_) (fun _ z => z.elim) hx')
  have z : v = .int n := z
  subst z
  exact ⟨n, rfl, hn.1.1, hn.1.2, hn.2 _ F2 H2 o2 g2 rfl⟩
end
end RF
namespace RF
open PySem PySem.Spec PyProof.Rows L2 KO SX
def tl (z : Str) : List Nat := z.cps.toList
theorem len_tl (z : Str) : z.length = (tl z).length := by unfold tl Str.length; rw [Array.length_toList]
theorem tl_app (x y : Str) : tl (x ++ y) = tl x ++ tl y := by show (x.cps ++ y.cps).toList = _; simp [tl]
theorem len_app (x y : Str) : (x ++ y).length = x.length + y.length := by rw [len_tl, tl_app, List.length_append, ← len_tl, ← len_tl]
theorem tl_mk (l : List Nat) : tl ⟨l.toArray⟩ = l := by simp [tl]
theorem tl_one (c : Nat) : tl ⟨#[c]⟩ = [c] := rfl
theorem tl_cut (z : Str) (l h : Option Int) : tl (cutS z l h) = cutL (tl z) l h := by
  unfold cutS cutL
  rw [tl_mk, ← len_tl]
  rfl
section
variable {α : Type}
theorem cut_to (xs : List α) {k : Int} (h : 0 ≤ k) : cutL xs none (some k) = xs.take k.toNat := by
  unfold cutL
  rw [HT.sIx_none, show k = ((k.toNat : Nat) : Int) by omega, HT.sIx_nat]
  rw [Int.toNat_natCast, List.drop_zero, Nat.sub_zero]
  by_cases h : k.toNat ≤ xs.length
  · rw [Nat.min_eq_left h]
  · rw [Nat.min_eq_right (by omega), List.take_of_length_le (Nat.le_refl _), List.take_of_length_le (by omega)]
theorem cut_from (xs : List α) {k : Int} (h : 0 ≤ k) : cutL xs (some k) none = xs.drop k.toNat := by
  unfold cutL
  rw [HT.sIx_none, show k = ((k.toNat : Nat) : Int) by omega, HT.sIx_nat]
  rw [Int.toNat_natCast]
  by_cases h : k.toNat ≤ xs.length
  · rw [Nat.min_eq_left h, List.take_of_length_le (by rw [List.length_drop]; omega)]
  · rw [Nat.min_eq_right (by omega), List.drop_eq_nil_of_le (as := xs) (i := k.toNat) (by omega)]
    simp
theorem atI_in {xs : List α} {i : Int} (h : 0 ≤ i) (h2 : i < xs.length) : ∃ x, atI xs i = some x ∧ xs[i.toNat]? = some x := by
  have h3 : i.toNat < xs.length := by omega
  refine ⟨xs[i.toNat], ?_, List.getElem?_eq_getElem h3⟩
  unfold atI ixN
  rw [if_pos h, if_pos h2]
  exact List.getElem?_eq_getElem h3
theorem atI_zero {x : α} {xs : List α} : atI (x :: xs) 0 = some x := by
  unfold atI ixN
  rw [if_pos (by decide), if_pos (by simp)]
  rfl
theorem cpow9 : CPow 10 9 := by unfold CPow; decide
theorem pow9 : ((10 : Int) ^ (9 : Int).toNat) = 1000000000 := by decide +kernel
theorem atI_last {xs : List α} {x : α} (h : xs.getLast? = some x) : atI xs (-1) = some x := by
  rw [List.getLast?_eq_getElem?] at h
  have h3 : xs.length - 1 < xs.length := by
    by_cases hz : xs.length = 0
    · rw [List.getElem?_eq_none (by omega)] at h; cases h
    · omega
  unfold atI ixN
  rw [if_neg (by decide), if_pos (by omega)]
  show xs[((-1 : Int) + xs.length).toNat]? = some x
  rw [show ((-1 : Int) + xs.length).toNat = xs.length - 1 by omega]
  exact h
theorem nodup_le : ∀ {l m : List α}, l.Nodup → (∀ x ∈ l, x ∈ m) → l.length ≤ m.length
  | [], _, _, _ => Nat.zero_le _
  | x :: l, m, hn, h => by
    obtain ⟨s, t, e⟩ := List.append_of_mem (h x List.mem_cons_self)
    subst e
    obtain ⟨h1, h2⟩ := List.nodup_cons.mp hn
    have := nodup_le (l := l) (m := s ++ t) h2 fun y hy => by
      have := h y (List.mem_cons_of_mem _ hy)
      rcases List.mem_append.mp this with k | k
      · exact List.mem_append_left _ k
      · rcases List.mem_cons.mp k with e | k
        · subst e; exact absurd hy h1
        · exact List.mem_append_right _ k
    simp only [List.length_append, List.length_cons] at this ⊢
    omega
end
def isw (z : Str) : Prop := (1 ≤ z.length ∧ z.length ≤ 8) ∧ ∀ c ∈ tl z, 97 ≤ c ∧ c ≤ 122
instance (z : Str) : Decidable (isw z) := by unfold isw; infer_instance
theorem mem_chars {z w : Str} (h : w ∈ chars z) : ∃ c, c ∈ tl z ∧ w = ⟨#[c]⟩ := by
  unfold chars at h
  obtain ⟨c, hc, rfl⟩ := List.mem_map.mp h
  exact ⟨c, hc, rfl⟩
theorem lt_one {a b : Nat} : ([a] < [b]) ↔ a < b := by rw [List.cons_lt_cons_iff]; simp [List.not_lt_nil]
theorem len_chars (z : Str) : (chars z).length = z.length := by unfold chars; rw [List.length_map, len_tl]; rfl
abbrev abc : Str := "abcdefghijklmnopqrstuvwxyz"
theorem tl_abc : tl abc = (List.range 26).map (97 + ·) := by decide +kernel
theorem len_abc : abc.length = 26 := by decide +kernel
theorem chars_abc : chars abc = (List.range 26).map fun i => (⟨#[97 + i]⟩ : Str) := by
  show (tl abc).map _ = _
  rw [tl_abc, List.map_map]
  rfl
theorem abc_at {i : Int} (h : 0 ≤ i) (h2 : i < 26) : ∃ c, 97 ≤ c ∧ c ≤ 122 ∧ atI (chars abc) i = some ⟨#[c]⟩ := by
  obtain ⟨x, e1, e2⟩ := atI_in (xs := chars abc) h (by rw [len_chars, len_abc]; exact h2)
  rw [chars_abc, List.getElem?_map, List.getElem?_range (by omega)] at e2
  exact ⟨97 + i.toNat, by omega, by omega, e1.trans e2.symm⟩
end RF
namespace RF
open PySem PySem.Spec PyProof.Rows L2 KO SX
theorem eqvAll_map {α : Type} {d : α → PyData} (h : ∀ x y, PyData.eqv (d x) (d y) = true ↔ x = y) : ∀ xs ys : List α, PyData.eqvAll (xs.map d) (ys.map d) = true ↔ xs = ys
  | [], [] => by simp [PyData.eqvAll]
  | x :: xs, [] => by simp [PyData.eqvAll]
  | [], y :: ys => by simp [PyData.eqvAll]
  | x :: xs, y :: ys => by simp [PyData.eqvAll, h, eqvAll_map h xs ys]
def Lay (n : Nat) (d : PyData) : Prop := d.canLay0 = true ∧ d.depth ≤ n
theorem lay_all {α : Type} {d : α → PyData} {n : Nat} : ∀ {xs : List α}, (∀ x ∈ xs, Lay n (d x)) → PyData.canLayAll0 (xs.map d) = true ∧ PyData.depthAll (xs.map d) ≤ n
  | [], _ => by simp [PyData.canLayAll0, PyData.depthAll]
  | x :: xs, h => by
    have h1 := h x List.mem_cons_self
    have h2 := lay_all fun y hy => h y (List.mem_cons_of_mem _ hy)
    simp [PyData.canLayAll0, PyData.depthAll]
    exact ⟨⟨h1.1, h2.1⟩, Nat.max_le.mpr ⟨h1.2, h2.2⟩⟩
theorem lay_tup {n : Nat} {ds : List PyData} (h : ∀ d ∈ ds, Lay n d) : Lay (n + 1) (.tuple ds) := by
  have := lay_all (d := fun d => d) (n := n) h
  rw [List.map_id'] at this
  exact ⟨by simp [PyData.canLay0, this.1], by simp [PyData.depth, this.2]⟩
theorem lay_lst {n : Nat} {ds : List PyData} (h : ∀ d ∈ ds, Lay n d) : Lay (n + 1) (.list ds) := by
  have := lay_all (d := fun d => d) (n := n) h
  rw [List.map_id'] at this
  exact ⟨by simp [PyData.canLay0, this.1], by simp [PyData.depth, this.2]⟩
theorem Lay.le {n m : Nat} {d : PyData} (h : Lay n d) (k : n ≤ m) : Lay m d := ⟨h.1, by have := h.2; omega⟩
theorem Lay.shaped {n : Nat} {d : PyData} (h : Lay n d) (k : n ≤ 64) : SeqAt.shaped d = true := by
  unfold SeqAt.shaped
  rw [h.1, Bool.true_and]
  have := h.2
  simp; omega
class EqE {α : Type} (ρ : α → Pr) extends Enc ρ where
  k : α → Prop
  kok : ∀ {x}, k x → ok x
  lay : ∀ {x}, k x → Lay n (d x)
  eqv : ∀ x y, PyData.eqv (d x) (d y) = true ↔ x = y
section
variable {α β γ δ ε ζ : Type}
instance eqI : EqE rI := { encI with k := fun _ => True, kok := fun h => h, lay := fun _ => ⟨by show PyData.canLay0 (.int _) = true; simp [PyData.canLay0], by show PyData.depth (.int _) ≤ _; simp [PyData.depth]⟩, eqv := fun x y => by show PyData.eqv (.int x) (.int y) = true ↔ _; simp [PyData.eqv] }
instance eqB : EqE rB := { encB with k := fun _ => True, kok := fun h => h, lay := fun _ => ⟨by show PyData.canLay0 (.bool _) = true; simp [PyData.canLay0], by show PyData.depth (.bool _) ≤ _; simp [PyData.depth]⟩, eqv := fun x y => by show PyData.eqv (.bool x) (.bool y) = true ↔ _; simp [PyData.eqv] }
instance eqN : EqE rN := { encN with k := fun _ => True, kok := fun h => h, lay := fun _ => ⟨by show PyData.canLay0 .none = true; simp [PyData.canLay0], by show PyData.depth .none ≤ _; simp [PyData.depth]⟩, eqv := fun x y => by show PyData.eqv .none .none = true ↔ _; simp [PyData.eqv] }
instance eqS : EqE rS := { encS with k := fun x => PyData.strOk x = true, kok := fun _ => trivial, lay := fun h => ⟨by show PyData.canLay0 (.str _) = true; simpa [PyData.canLay0] using h, by show PyData.depth (.str _) ≤ _; simp [PyData.depth]⟩, eqv := fun x y => by show PyData.eqv (.str x) (.str y) = true ↔ _; simp [PyData.eqv] }
class NoN {α : Type} (ρ : α → Pr) [Enc ρ] : Prop where
  nn : ∀ x, PyData.eqv (Enc.d ρ x) .none = false ∧ PyData.eqv .none (Enc.d ρ x) = false
instance : NoN rI := ⟨fun x => by constructor <;> simp [Enc.d, PyData.eqv]⟩
instance : NoN rB := ⟨fun x => by constructor <;> simp [Enc.d, PyData.eqv]⟩
instance : NoN rS := ⟨fun x => by constructor <;> simp [Enc.d, PyData.eqv]⟩
section
variable {ρ : α → Pr} {σ : β → Pr} {τ : γ → Pr} {υ : δ → Pr} {φ : ε → Pr} {χ : ζ → Pr}
instance [Enc ρ] : NoN (rL ρ) := ⟨fun x => by constructor <;> simp [Enc.d, PyData.eqv]⟩
instance [Enc ρ] : NoN (rTs ρ) := ⟨fun x => by constructor <;> simp [Enc.d, PyData.eqv]⟩
instance [Enc ρ] [Enc σ] : NoN (rT2 ρ σ) := ⟨fun x => by constructor <;> simp [Enc.d, PyData.eqv]⟩
instance [Enc ρ] [Enc σ] [Enc τ] : NoN (rT3 ρ σ τ) := ⟨fun x => by constructor <;> simp [Enc.d, PyData.eqv]⟩
instance [Enc ρ] [Enc σ] [Enc τ] [Enc υ] : NoN (rT4 ρ σ τ υ) := ⟨fun x => by constructor <;> simp [Enc.d, PyData.eqv]⟩
instance [Enc ρ] [Enc σ] [Enc τ] [Enc υ] [Enc φ] : NoN (rT5 ρ σ τ υ φ) := ⟨fun x => by constructor <;> simp [Enc.d, PyData.eqv]⟩
instance [Enc ρ] [Enc σ] [Enc τ] [Enc υ] [Enc φ] [Enc χ] : NoN (rT6 ρ σ τ υ φ χ) := ⟨fun x => by constructor <;> simp [Enc.d, PyData.eqv]⟩
instance eqO [s : EqE ρ] [NoN ρ] : EqE (rO ρ) := { encO (ρ := ρ) with
  k := fun o => match o with | none => True | some x => s.k x
  kok := fun {x} h => by cases x with
    | none => exact h
    | some x => exact s.kok h
  lay := fun {x} h => by cases x with
    | none => exact ⟨by show PyData.canLay0 .none = true; simp [PyData.canLay0], by show PyData.depth .none ≤ _; simp [PyData.depth]⟩
    | some x => exact (s.lay h).le (Nat.le_succ _)
  eqv := fun x y => by
    cases x with
    | none => cases y with
      | none => show PyData.eqv .none .none = true ↔ _; simp [PyData.eqv]
      | some y => show PyData.eqv .none (s.d y) = true ↔ _; rw [show PyData.eqv .none (s.d y) = false from (NoN.nn (ρ := ρ) y).2]; simp
    | some x => cases y with
      | none => show PyData.eqv (s.d x) .none = true ↔ _; rw [show PyData.eqv (s.d x) .none = false from (NoN.nn (ρ := ρ) x).1]; simp
      | some y => show PyData.eqv (s.d x) (s.d y) = true ↔ _; rw [s.eqv]; simp }
instance eqL [s : EqE ρ] : EqE (rL ρ) := { encL (ρ := ρ) with
  k := fun xs => xs.length ≤ 1000 ∧ ∀ x ∈ xs, s.k x
  kok := fun h => ⟨h.1, fun x hx => s.kok (h.2 x hx)⟩
  lay := fun h => lay_lst fun d hd => by
    obtain ⟨x, hx, rfl⟩ := List.mem_map.mp hd
    exact s.lay (h.2 x hx)
  eqv := fun x y => by show PyData.eqv (.list (x.map s.d)) (.list (y.map s.d)) = true ↔ _; simp only [PyData.eqv]; exact eqvAll_map s.eqv x y }
instance eqTs [s : EqE ρ] : EqE (rTs ρ) := { encTs (ρ := ρ) with
  k := fun xs => xs.length ≤ 1000 ∧ ∀ x ∈ xs, s.k x
  kok := fun h => ⟨h.1, fun x hx => s.kok (h.2 x hx)⟩
  lay := fun h => lay_tup fun d hd => by
    obtain ⟨x, hx, rfl⟩ := List.mem_map.mp hd
    exact s.lay (h.2 x hx)
  eqv := fun x y => by show PyData.eqv (.tuple (x.map s.d)) (.tuple (y.map s.d)) = true ↔ _; simp only [PyData.eqv]; exact eqvAll_map s.eqv x y }
theorem mem1 {P : PyData → Prop} {d : PyData} (h : P d) : ∀ e ∈ [d], P e := fun e he => by rw [List.mem_singleton.mp he]; exact h
theorem memc {P : PyData → Prop} {d : PyData} {ds : List PyData} (h : P d) (k : ∀ e ∈ ds, P e) : ∀ e ∈ d :: ds, P e := fun e he => by
  rcases List.mem_cons.mp he with q | q
  · rw [q]; exact h
  · exact k e q
variable [r : EqE ρ] [s : EqE σ] [t : EqE τ] [u : EqE υ] [w : EqE φ] [z : EqE χ]
instance eqT1 : EqE (rT1 ρ) := { encT1 (ρ := ρ) with
  k := fun x => r.k x, kok := fun h => r.kok h, lay := fun h => lay_tup (mem1 (r.lay h)), eqv := fun x y => by show PyData.eqv (.tuple [r.d x]) (.tuple [r.d y]) = true ↔ _; simp [PyData.eqv, PyData.eqvAll, r.eqv] }
instance eqT2 : EqE (rT2 ρ σ) := { encT2 (ρ := ρ) (σ := σ) with
  k := fun x => r.k x.1 ∧ s.k x.2
  kok := fun h => ⟨r.kok h.1, s.kok h.2⟩
  lay := fun h => lay_tup (memc ((r.lay h.1).le (by omega)) (mem1 ((s.lay h.2).le (by omega))))
  eqv := fun x y => by obtain ⟨x1, x2⟩ := x; obtain ⟨y1, y2⟩ := y; show PyData.eqv (.tuple [r.d x1, s.d x2]) (.tuple [r.d y1, s.d y2]) = true ↔ _; simp [PyData.eqv, PyData.eqvAll, r.eqv, s.eqv] }
instance eqT3 : EqE (rT3 ρ σ τ) := { encT3 (ρ := ρ) (σ := σ) (τ := τ) with
  k := fun x => r.k x.1 ∧ s.k x.2.1 ∧ t.k x.2.2
  kok := fun h => ⟨r.kok h.1, s.kok h.2.1, t.kok h.2.2⟩
  lay := fun h => lay_tup (memc ((r.lay h.1).le (by omega)) (memc ((s.lay h.2.1).le (by omega)) (mem1 ((t.lay h.2.2).le (by omega)))))
  eqv := fun x y => by obtain ⟨x1, x2, x3⟩ := x; obtain ⟨y1, y2, y3⟩ := y; show PyData.eqv (.tuple [r.d x1, s.d x2, t.d x3]) (.tuple [r.d y1, s.d y2, t.d y3]) = true ↔ _; simp [PyData.eqv, PyData.eqvAll, r.eqv, s.eqv, t.eqv] }
instance eqT4 : EqE (rT4 ρ σ τ υ) := { encT4 (ρ := ρ) (σ := σ) (τ := τ) (υ := υ) with
  k := fun x => r.k x.1 ∧ s.k x.2.1 ∧ t.k x.2.2.1 ∧ u.k x.2.2.2
  kok := fun h => ⟨r.kok h.1, s.kok h.2.1, t.kok h.2.2.1, u.kok h.2.2.2⟩
  lay := fun h => lay_tup (memc ((r.lay h.1).le (by omega)) (memc ((s.lay h.2.1).le (by omega)) (memc ((t.lay h.2.2.1).le (by omega)) (mem1 ((u.lay h.2.2.2).le (by omega))))))
  eqv := fun x y => by obtain ⟨x1, x2, x3, x4⟩ := x; obtain ⟨y1, y2, y3, y4⟩ := y; show PyData.eqv (.tuple [r.d x1, s.d x2, t.d x3, u.d x4]) (.tuple [r.d y1, s.d y2, t.d y3, u.d y4]) = true ↔ _; simp [PyData.eqv, PyData.eqvAll, r.eqv, s.eqv, t.eqv, u.eqv] }
instance eqT5 : EqE (rT5 ρ σ τ υ φ) := { encT5 (ρ := ρ) (σ := σ) (τ := τ) (υ := υ) (φ := φ) with
  k := fun x => r.k x.1 ∧ s.k x.2.1 ∧ t.k x.2.2.1 ∧ u.k x.2.2.2.1 ∧ w.k x.2.2.2.2
  kok := fun h => ⟨r.kok h.1, s.kok h.2.1, t.kok h.2.2.1, u.kok h.2.2.2.1, w.kok h.2.2.2.2⟩
  lay := fun h => lay_tup (memc ((r.lay h.1).le (by omega)) (memc ((s.lay h.2.1).le (by omega)) (memc ((t.lay h.2.2.1).le (by omega)) (memc ((u.lay h.2.2.2.1).le (by omega)) (mem1 ((w.lay h.2.2.2.2).le (by omega)))))))
  eqv := fun x y => by obtain ⟨x1, x2, x3, x4, x5⟩ := x; obtain ⟨y1, y2, y3, y4, y5⟩ := y; show PyData.eqv (.tuple [r.d x1, s.d x2, t.d x3, u.d x4, w.d x5]) (.tuple [r.d y1, s.d y2, t.d y3, u.d y4, w.d y5]) = true ↔ _; simp [PyData.eqv, PyData.eqvAll, r.eqv, s.eqv, t.eqv, u.eqv, w.eqv] }
instance eqT6 : EqE (rT6 ρ σ τ υ φ χ) := { encT6 (ρ := ρ) (σ := σ) (τ := τ) (υ := υ) (φ := φ) (χ := χ) with
  k := fun x => r.k x.1 ∧ s.k x.2.1 ∧ t.k x.2.2.1 ∧ u.k x.2.2.2.1 ∧ w.k x.2.2.2.2.1 ∧ z.k x.2.2.2.2.2
  kok := fun h => ⟨r.kok h.1, s.kok h.2.1, t.kok h.2.2.1, u.kok h.2.2.2.1, w.kok h.2.2.2.2.1, z.kok h.2.2.2.2.2⟩
  lay := fun h => lay_tup (memc ((r.lay h.1).le (by omega)) (memc ((s.lay h.2.1).le (by omega)) (memc ((t.lay h.2.2.1).le (by omega)) (memc ((u.lay h.2.2.2.1).le (by omega)) (memc ((w.lay h.2.2.2.2.1).le (by omega)) (mem1 ((z.lay h.2.2.2.2.2).le (by omega))))))))
  eqv := fun x y => by obtain ⟨x1, x2, x3, x4, x5, x6⟩ := x; obtain ⟨y1, y2, y3, y4, y5, y6⟩ := y; show PyData.eqv (.tuple [r.d x1, s.d x2, t.d x3, u.d x4, w.d x5, z.d x6]) (.tuple [r.d y1, s.d y2, t.d y3, u.d y4, w.d y5, z.d y6]) = true ↔ _; simp [PyData.eqv, PyData.eqvAll, r.eqv, s.eqv, t.eqv, u.eqv, w.eqv, z.eqv] }
end
end
theorem _root_.L2.Room.u65 {k : Nat} {A : Around} (r : Room k A) : A.units + 65 < cLine := by have := r.un; omega
section
variable {α β γ δ : Type} {X : Cx} {W : WX} {Γ : Ctx} {e a b : Expr} {pos : Pos} {ρ : α → Pr}
def Eqk (ρ : α → Pr) [s : EqE ρ] (x : α) : Prop := s.k x
theorem dp_of [s : EqE ρ] {K : PySem.W.Frag} {F H : Hp} {x : α} {v : V} (h : (ρ x).r v F) (k : s.k x) (le : Same F H) : Dp K H v (s.d x) := ((s.is (s.kok k) h).mono le).dp
variable [s : EqE ρ] [DecidableEq α] {ma mb : Mo α}
theorem rc_eqE (hu : X.A.units + 64 < cLine) (hn : s.n ≤ 64 := by decide) (ha : RE X W Γ a ma (.fz ρ)) (hb : RE X W Γ b mb (.fz ρ)) : RC X W Γ .Eq a b (ma >>= fun x => mb >>= fun y => Mo.rq (Eqk ρ x ∧ Eqk ρ y) (decide (x = y))) :=
  ⟨_, op_eqD hu, rte_two ha hb fun x y G σ F H Q u w o hu hw q => by
    refine ⟨_, _, dp_of hu q.1.1 o.le, dp_of hw q.1.2 o.le, (s.lay q.1.1).shaped hn, (s.lay q.1.2).shaped hn, ?_⟩
    have e : PyData.eqv (s.d x) (s.d y) = decide (x = y) := by rw [Bool.eq_iff_iff, s.eqv]; simp
    rw [e]
    exact NQ.here (ρ := rB) q.2 o rfl⟩
theorem rc_neE (hu : X.A.units + 64 < cLine) (hn : s.n ≤ 64 := by decide) (ha : RE X W Γ a ma (.fz ρ)) (hb : RE X W Γ b mb (.fz ρ)) : RC X W Γ .NotEq a b (ma >>= fun x => mb >>= fun y => Mo.rq (Eqk ρ x ∧ Eqk ρ y) (!decide (x = y))) :=
  ⟨_, op_neD hu, rte_two ha hb fun x y G σ F H Q u w o hu hw q => by
    refine ⟨_, _, dp_of hu q.1.1 o.le, dp_of hw q.1.2 o.le, (s.lay q.1.1).shaped hn, (s.lay q.1.2).shaped hn, ?_⟩
    have e : PyData.eqv (s.d x) (s.d y) = decide (x = y) := by rw [Bool.eq_iff_iff, s.eqv]; simp
    rw [e]
    exact NQ.here (ρ := rB) q.2 o rfl⟩
theorem dt_all {F : Hp} {ys : List α} {vs : List V} (h : Ps F (ys.map ρ) vs) (k : ∀ y ∈ ys, s.k y) : vs.length = (ys.map s.d).length ∧ ∀ (i : Nat) (x : V) (c : PyData), vs[i]? = some x → (ys.map s.d)[i]? = some c → Dt s.n F x c :=
  dt_ps (ds := ys.map s.d) (by simp) (dt_map (s := s.toEnc) fun y hy => s.kok (k y hy)) h
theorem lays {ys : List α} (k : ∀ y ∈ ys, s.k y) : ∀ d ∈ ys.map s.d, Lay s.n d := fun d hd => by
  obtain ⟨x, hx, rfl⟩ := List.mem_map.mp hd
  exact s.lay (k x hx)
variable {ml : Mo (List α)}
def Eqks (ρ : α → Pr) [s : EqE ρ] (xs : List α) : Prop := xs.length ≤ 1000 ∧ ∀ x ∈ xs, s.k x
theorem re_index {apos : Pos} (hu : X.A.units + 65 < cLine) (hn : s.n ≤ 60 := by decide) (hb : RE X W Γ b ml (.fz (rL ρ))) (ha : RE X W Γ a ma (.fz ρ))
    (hbase : attributeBase b "index" X.env (eval b X.env) = eval b X.env := by rfl)
    (hfew : ((backTo pos (starEach [a] X.env)).all (fun x => !x.1) && (backToKw pos (keywordEach [] X.env)).all (fun x => x.1.isSome)
      && decide ([a].length + ([] : List Keyword).length + (if ([] : List Keyword).isEmpty then 0 else 1) < 30)) = true := by rfl)
    (hline : (apos.endLine == pos.line) = true := by rfl) (hs : starEach [a] X.env = [(false, eval a X.env)] := by rfl) :
    RE X W Γ (.Call (.Attribute b "index" apos) [a] [] pos) (ml >>= fun ys => ma >>= fun x => Mo.rq (Eqk ρ x ∧ Eqks ρ ys) () >>= fun _ => Mo.get (ys.idxOf? x) >>= fun j => pure (j : Int)) (.fz rI) := by
  refine re_of (pe_bm PySem.F.plainAttrs_list PySem.F.slot_list_index PySem.F.type_list_index (mt_indexD hu) peE (pa_cons peE pa_nil hs) hbase hfew hline hs rfl) fun G σ F H Q o q => ?_
  refine hb G σ F H _ o (ml.mono (fun ys hy w F1 H1 o1 g1 z2 => ?_) (fun _ z => z) q)
  obtain ⟨ad, vs, rfl, z2, z3⟩ := z2
  refine ⟨.inl ⟨rfl, vs, SqL.of (o1.le _ _ z2)⟩, ?_⟩
  refine ha G σ F1 H1 _ o1 (ma.mono (fun x hx v F2 H2 o2 g2 z1 => ?_) (fun _ => EQ.step g1) hy)
  obtain ⟨⟨k1, k2⟩, j, hj, hx⟩ := hx
  have z3 := z3.mono g2.fs
  obtain ⟨h3, h4⟩ := dt_all z3 k2.2
  rw [List.idxOf?_eq_some_iff] at hj
  obtain ⟨hjl, hje, hjn⟩ := hj
  refine ⟨ad, v, s.d x, ys.map s.d, j, s.d x, rfl, rfl, .lst (SqL.of (o2.le _ _ (g2.fs _ _ z2))) (DpAll.ofI h3 fun i x c e1 e2 => ((h4 i x c e1 e2).mono o2.le).dp), dp_of z1 k1 o2.le, (lay_lst (lays k2.2)).shaped (by omega), (s.lay k1).shaped (by omega), ?_, (s.eqv _ _).mpr rfl, fun m z' hm hz' => ?_, hx _ F2 H2 o2 (g1.trans g2 owns_tr) rfl⟩
  · rw [List.getElem?_map, List.getElem?_eq_getElem hjl]
    rw [hje]
    rfl
  · rw [List.getElem?_map, List.getElem?_eq_getElem (by omega)] at hz'
    obtain rfl := Option.some.inj hz'
    rw [Bool.eq_false_iff]
    intro h
    have := (s.eqv _ _).mp h
    exact hjn m hm this
end
end RF
namespace RF
open PySem PySem.Spec PyProof.Rows L2 KO SX
theorem tyx_tup {K : PySem.W.Frag} {H : Hp} {a : Addr} {vs : List V} (h : Rd H a (.tup vs)) : TyX K H (.ref a) (.type "tuple") := by
  rcases h with h | ⟨o, h⟩
  · exact .base (.tup h)
  · exact .fTuple h
section
variable {α β γ δ ε ζ : Type} {X : Cx} {W : WX} {Γe Γ Γ' : Ctx} {lv : Bool} {e a b : Expr} {es : List Expr} {pos : Pos}
class Kn (ρ : α → Pr) where
  t : String
  is : ∀ {K : PySem.W.Frag} {x : α} {v : V} {F H : Hp}, Same F H → (ρ x).r v F → TyX K H v (.type t)
instance : Kn rI := ⟨"int", fun _ h => by obtain rfl : _ = V.int _ := h; exact .base (.int _)⟩
instance : Kn rB := ⟨"bool", fun _ h => by obtain rfl : _ = V.bl _ := h; exact .base (.bl _)⟩
instance : Kn rS := ⟨"str", fun _ h => by obtain rfl : _ = V.str _ := h; exact .base (.str _)⟩
instance {ρ : α → Pr} : Kn (rL ρ) := ⟨"list", fun s ⟨a, vs, e, h, _⟩ => by subst e; exact .base (.lst (s _ _ h))⟩
instance {ρ : α → Pr} : Kn (rTs ρ) := ⟨"tuple", fun s ⟨a, vs, e, h, _⟩ => by subst e; exact tyx_tup (Rd.mono h s)⟩
theorem kn_tu {K : PySem.W.Frag} {ps : List Pr} {v : V} {F H : Hp} (s : Same F H) (h : (rTu ps).r v F) : TyX K H v (.type "tuple") := by
  obtain ⟨a, vs, e, h, _⟩ := h
  subst e
  exact tyx_tup (Rd.mono h s)
section
variable {ρ : α → Pr} {σ : β → Pr} {τ : γ → Pr} {υ : δ → Pr} {φ : ε → Pr} {χ : ζ → Pr}
instance : Kn (rT1 ρ) := ⟨"tuple", fun s h => kn_tu s h⟩
instance : Kn (rT2 ρ σ) := ⟨"tuple", fun s h => kn_tu s h⟩
instance : Kn (rT3 ρ σ τ) := ⟨"tuple", fun s h => kn_tu s h⟩
instance : Kn (rT4 ρ σ τ υ) := ⟨"tuple", fun s h => kn_tu s h⟩
instance : Kn (rT5 ρ σ τ υ φ) := ⟨"tuple", fun s h => kn_tu s h⟩
instance : Kn (rT6 ρ σ τ υ φ χ) := ⟨"tuple", fun s h => kn_tu s h⟩
end
theorem re_isi {ρ : α → Pr} [kn : Kn ρ] {m : Mo α} {p p2 : Pos} {n : Str} {T : String} {r : Bool} (h : RE X W Γ e m (.fz ρ)) (hc : PySem.W.kitOne X.K (.type kn.t) (.type T) = some r) (hm : X.mg "isinstance" = none) (hn : PE X (.Name n p2) (tC (.ty T))) (hg : Gl X "isinstance" := by rfl)
    (hst : starEach [e, .Name n p2] X.env = (false, eval e X.env) :: starEach [.Name n p2] X.env := by rfl) (hst2 : starEach [.Name n p2] X.env = (false, eval (.Name n p2) X.env) :: starEach [] X.env := by rfl) :
    RE X W Γ (.Call (.Name "isinstance" p) [e, .Name n p2] [] pos) (m >>= fun _ => pure r) (.fz rB) :=
  re_of (pe_callB call_isi hg hm (by decide +kernel) (pa_cons (hs := hst) peE (pa_cons (hs := hst2) hn pa_nil)) (by decide) (by decide) hst rfl) fun G σ F H Q o q => by
    refine h G σ F H _ o (m.mono (fun x hx v F' H' o' g' z => ?_) (fun _ z => z) q)
    exact ⟨v, .ty T, _, _, r, rfl, .ty _, kn.is o'.le z, hc, hx _ F' H' o' g' rfl⟩
theorem nlp_in {C : Addr} {fs : List (Str × Pr)} (h : ∀ p ∈ fs, NLr p.2) : NLP (oIn C fs) := ⟨fun {u F a vs} hl k => by
  obtain ⟨dx, gs, rfl, k⟩ := k
  refine ⟨dx, gs, rfl, ?_⟩
  have key : ∀ {fs : List (Str × Pr)} {gs : List (Str × V)}, (∀ p ∈ fs, NLr p.2) → Fs F fs gs → Fs (del F a) fs gs := fun {fs} => by
    induction fs with
    | nil => intro gs _ k; cases gs with
      | nil => trivial
      | cons _ _ => exact k.elim
    | cons p fs ih => intro gs h k; cases gs with
      | nil => exact k.elim
      | cons g gs => exact ⟨k.1, h p List.mem_cons_self hl k.2.1, ih (fun q hq => h q (List.mem_cons_of_mem _ hq)) k.2.2⟩
  exact key h k⟩
theorem nl_in {C : Addr} {fs : List (Str × Pr)} (h : ∀ p ∈ fs, NLr p.2) : NLr (rIn C fs) := fun {v F a vs} hl k => by
  obtain ⟨b, dx, gs, rfl, h1, k⟩ := k
  refine ⟨b, dx, gs, rfl, del_ok h1 (by rintro rfl; rw [hl] at h1; cases h1), ?_⟩
  have key : ∀ {fs : List (Str × Pr)} {gs : List (Str × V)}, (∀ p ∈ fs, NLr p.2) → Fs F fs gs → Fs (del F a) fs gs := fun {fs} => by
    induction fs with
    | nil => intro gs _ k; cases gs with
      | nil => trivial
      | cons _ _ => exact k.elim
    | cons p fs ih => intro gs h k; cases gs with
      | nil => exact k.elim
      | cons g gs => exact ⟨k.1, h p List.mem_cons_self hl k.2.1, ih (fun q hq => h q (List.mem_cons_of_mem _ hq)) k.2.2⟩
  exact key h k
theorem nlf1 {f : Str} {p : Pr} (h : NLr p) : ∀ q ∈ [(f, p)], NLr q.2 := fun q hq => by rw [List.mem_singleton.mp hq]; exact h
theorem nlfc {f : Str} {p : Pr} {ps : List (Str × Pr)} (h : NLr p) (k : ∀ q ∈ ps, NLr q.2) : ∀ q ∈ (f, p) :: ps, NLr q.2 := fun q hq => by
  rcases List.mem_cons.mp hq with e | e
  · rw [e]; exact h
  · exact k q e
section
variable {st : Stmt} {rest : List Stmt} {Z : γ → Fin} {i : Nat} {n : Int} {me : Mo Int} {mr : Int → Mo γ}
end
end
end RF
namespace RF
open PySem PySem.Spec PyProof.Rows L2 KO SX
structure FunB (P : Program) (w : World) (K : PySem.W.Frag) (mg : Str → Option Value) (base : Heap) (x qual : Str) (st : Stmt) (f : Addr) (fd : FuncData) : Prop where
  okX : ∀ {N ps : List Str} {k : Nat} {sp : Sp} (S : FnScope N ps (defScope st)) (len : ∀ vs H Q E, sp vs H Q E → vs.length = ps.length)
    (hbody : ∀ (cdv : Value) (A : Around) (outer : List Env) (s : Shared) (H : Hp) (vs : List V) (Q : VK) (E : XK), Room k (A.deeper (envOfC qual (defScope st) s.heap.objs.size f cdv)) → sp vs H Q E →
      ∃ t, PSs (cxOf (L2.CX P w) P w K mg base N qual (defScope st) f cdv A outer s H E) (defBody st) t ∧ t { nx := fun _ H' => Q .non H', rt := Q } (L2.start N vs) H), FnOk P w K mg base (L2.CX P w) (k + 1) f fd ps sp
section
variable {α β γ δ : Type} {X : Cx} {W : WX} {Γe Γ Γ' : Ctx} {lv : Bool} {e : Expr} {es : List Expr}
end
section
variable {β γ : Type}
end
section
variable {α β γ δ : Type} {X : Cx} {W : WX} {Γ : Ctx} {a : Expr} {pos p2 apos : Pos} {n : Str} {ws : List Str} {ma : Mo Str} {tp : Addr}
end
end RF
namespace RF
open PySem PySem.Spec PyProof.Rows L2 KO SX
section
variable {α β γ δ : Type}
def Lp.of {S : Type} (s : S) : Option δ → Lp S δ
  | some r => .ret r
  | none => .go s
theorem Mo.loop_find {f : Unit → β → Mo (Lp Unit δ)} {g : β → Option δ} : ∀ {xs : List β}, (∀ x ∈ xs, f () x = pure (Lp.of () (g x))) → Mo.loop f xs () = pure (Lp.of () (xs.findSome? g))
  | [], _ => rfl
  | x :: xs, h => by
    unfold Mo.loop
    rw [h x List.mem_cons_self, List.findSome?_cons]
    cases g x with
    | some r => rfl
    | none => simp only [Lp.of, pure_bind]; exact Mo.loop_find fun y hy => h y (List.mem_cons_of_mem _ hy)
theorem rangeL_len {lo : Int} {n : Nat} : (rangeL lo n).length = n := by simp [rangeL]
theorem rangeL_mem {lo x : Int} {n : Nat} : x ∈ rangeL lo n ↔ lo ≤ x ∧ x < lo + n := by
  unfold rangeL
  rw [List.mem_map]
  constructor
  · rintro ⟨i, hi, rfl⟩
    have := List.mem_range.mp hi
    omega
  · rintro ⟨h1, h2⟩
    exact ⟨(x - lo).toNat, List.mem_range.mpr (by omega), by omega⟩
theorem enumL_mem {A : List α} {x : Int × α} (h : x ∈ enumL A) : 0 ≤ x.1 ∧ x.1 < A.length ∧ A[x.1.toNat]? = some x.2 := by
  obtain ⟨i, hi⟩ := List.getElem?_of_mem h
  rw [enumL_get] at hi
  cases e : A[i]? with
  | none => rw [e] at hi; cases hi
  | some a =>
    rw [e] at hi
    obtain rfl := Option.some.inj hi
    have := (List.getElem?_eq_some_iff.mp e).1
    exact ⟨by simp, by simpa using this, by simpa using e⟩
theorem findSome_none {f : α → Option β} : ∀ {xs : List α}, xs.findSome? f = none → ∀ x ∈ xs, f x = none
  | [], _, x, hx => by simp at hx
  | y :: xs, h, x, hx => by
    rw [List.findSome?_cons] at h
    cases e : f y with
    | some b => rw [e] at h; cases h
    | none =>
      rw [e] at h
      rcases List.mem_cons.mp hx with q | q
      · rw [q]; exact e
      · exact findSome_none h x q
theorem Mo.lc_map {f : β → Mo γ} {g : β → γ} {xs : List β} (hl : xs.length ≤ sizeLine) (hf : ∀ x ∈ xs, f x = pure (g x)) : Mo.lc (fun _ => pure true) f xs = pure (xs.map g) := by
  rw [Mo.lc_pure (p := fun _ => true) (g := g) hl (fun _ _ => rfl) (fun x hx _ => hf x hx), List.filter_eq_self.mpr (by simp)]
theorem Mo.lc_each {f : β → Mo γ} {R : β → γ → Prop} {E : Ex → Prop} {xs : List β} {Q : List γ → Prop} (hl : xs.length ≤ sizeLine) (hf : ∀ x ∈ xs, (f x).run (R x) (fun _ => False)) (q : ∀ ys, ys.length = xs.length → (∀ (i : Nat) (x : β) (y : γ), xs[i]? = some x → ys[i]? = some y → R x y) → Q ys) : (Mo.lc (fun _ => pure true) f xs).run Q E :=
  ⟨hl, Mo.comp_each hf q⟩
end
end RF
namespace RF
open PySem PySem.Spec PyProof.Rows L2 KO SX
section
variable {X : Cx} {W : WX} {Γ : Ctx} {a : Expr} {ma : Mo Str} {pos : Pos}
end
end RF
namespace RF
open PySem PySem.Spec PyProof.Rows L2 KO SX
section
variable {α : Type} {X : Cx} {W : WX} {Γ : Ctx} {e : Expr} {ρ : α → Pr}
end
end RF
namespace RF
open PySem PySem.Spec PyProof.Rows L2 KO SX
section
variable {α β : Type} {X : Cx} {W : WX} {Γ : Ctx} {e : Expr} {es : List Expr} {ρ : α → Pr} {dd : Addr} {pos p : Pos}
end
section
variable {X : Cx} {CX : CXT} {k : Nat} {f C : Addr} {fd : FuncData} {ps : List Str} {sp : Sp} {E : L2.St → XK} {dvs : List V} {ds : List Value}
end
section
variable {α β γ : Type} {X : Cx} {W : WX} {Γ : Ctx} {e : Expr} {es : List Expr} {k : Nat} {f C : Addr} {fd : FuncData} {ps : List Str} {pp : α → Ctx} {m : α → Mo γ} {fo : γ → List (Str × Pr)} {ma : Mo β} {x : Str} {p pos : Pos}
end
end RF
namespace RF
open PySem PySem.Spec PyProof.Rows L2 KO SX
section
variable {α β γ : Type} {X : Cx} {W : WX} {Γ : Ctx} {a b : Expr} {ρ : α → Pr} {dd : Addr} {pos p2 : Pos} {lo hi : Option Expr} {ml mh : Mo (Option Int)}
variable [s : EqE ρ] [DecidableEq α] {ma : Mo α} {mq : Mo (List α)}
def rT0 (_ : Unit) : Pr := rTu []
end
end RF
namespace GQ
open PySem PySem.SeqAt
open AutoSeq1 (wpAny_loadPart')
open MeetsSeq MeetsSeq2 MeetsSeq3 SeqRoads2
section
variable {prog : Program} {w : World} {A : Around} {R : Result → Shared → Prop}
end
section
variable {prog : Program} {w : World} {A : Around} {E : Value → Shared → Prop} {s : Shared}
end
end GQ
namespace RF
open PySem PySem.Spec PyProof.Rows L2 KO SX
section
variable {X : Cx} {CX : CXT} {k : Nat} {f C : Addr} {fd : FuncData} {ps : List Str} {sp : Sp} {E : XK}
end
class FI {α : Type} (ρ : α → Pr) : Prop where
  inj : ∀ {x y : α} {v : V} {F : Hp}, (ρ x).r v F → (ρ y).r v F → x = y
section
variable {α β γ δ ε ζ : Type} {ρ : α → Pr} {σ : β → Pr} {τ : γ → Pr} {υ : δ → Pr} {φ : ε → Pr} {χ : ζ → Pr} {F : Hp}
instance : FI rI := ⟨fun {x y v F} h k => by have h : v = V.int x := h; have k : v = V.int y := k; rw [h] at k; injection k⟩
instance : FI rB := ⟨fun {x y v F} h k => by have h : v = V.bl x := h; have k : v = V.bl y := k; rw [h] at k; injection k⟩
instance : FI rS := ⟨fun {x y v F} h k => by have h : v = V.str x := h; have k : v = V.str y := k; rw [h] at k; injection k⟩
instance : FI rN := ⟨fun {x y v F} h k => rfl⟩
theorem Ps.inj [FI ρ] : ∀ {xs ys : List α} {vs : List V}, Ps F (xs.map ρ) vs → Ps F (ys.map ρ) vs → xs = ys
  | [], [], [], _, _ => rfl
  | x :: xs, y :: ys, v :: vs, h, k => by rw [FI.inj h.1 k.1, Ps.inj h.2 k.2]
  | [], _ :: _, [], _, k => k.elim
  | _ :: _, [], [], h, _ => h.elim
  | [], _, _ :: _, h, _ => h.elim
  | _, [], _ :: _, _, k => k.elim
  | _ :: _, _ :: _, [], h, _ => h.elim
theorem rLu_at {ps : List Pr} {v : V} (h : (rLu ps).r v F) : ∃ a vs, v = .ref a ∧ F a = some (.lst vs) ∧ Ps F ps vs := h
theorem rTu_at {ps : List Pr} {v : V} (h : (rTu ps).r v F) : ∃ a vs, v = .ref a ∧ Rd F a (.tup vs) ∧ Ps F ps vs := h
theorem rTu_two {ps qs : List Pr} {v : V} (h : (rTu ps).r v F) (k : (rTu qs).r v F) : ∃ vs, Ps F ps vs ∧ Ps F qs vs := by
  obtain ⟨a, vs, rfl, h1, h2⟩ := rTu_at h
  obtain ⟨b, us, e, k1, k2⟩ := rTu_at k
  cases e
  have hv : vs = us := by
    rcases h1 with h1 | ⟨o, h1⟩ <;> rcases k1 with k1 | ⟨o', k1⟩ <;> rw [h1] at k1 <;> cases k1 <;> rfl
  subst hv
  exact ⟨vs, h2, k2⟩
theorem rLu_two {ps qs : List Pr} {v : V} (h : (rLu ps).r v F) (k : (rLu qs).r v F) : ∃ vs, Ps F ps vs ∧ Ps F qs vs := by
  obtain ⟨a, vs, rfl, h1, h2⟩ := rLu_at h
  obtain ⟨b, us, e, k1, k2⟩ := rLu_at k
  cases e
  rw [h1] at k1
  cases k1
  exact ⟨vs, h2, k2⟩
instance [FI ρ] : FI (rL ρ) := ⟨fun h k => by obtain ⟨vs, h, k⟩ := rLu_two h k; exact Ps.inj h k⟩
instance [FI ρ] : FI (rTs ρ) := ⟨fun h k => by obtain ⟨vs, h, k⟩ := rTu_two h k; exact Ps.inj h k⟩
theorem ps_two {p q : Pr} {ps qs : List Pr} {vs : List V} (h : Ps F (p :: ps) vs) (k : Ps F (q :: qs) vs) : ∃ v us, p.r v F ∧ q.r v F ∧ Ps F ps us ∧ Ps F qs us := by
  match vs, h, k with
  | v :: vs, h, k => exact ⟨v, vs, h.1, k.1, h.2, k.2⟩
instance [FI ρ] [FI σ] : FI (rT2 ρ σ) := ⟨fun {x y v F} h k => by
  obtain ⟨vs, h, k⟩ := rTu_two h k
  obtain ⟨_, _, a1, b1, h, k⟩ := ps_two h k
  obtain ⟨_, _, a2, b2, h, k⟩ := ps_two h k
  exact Prod.ext (FI.inj a1 b1) (FI.inj a2 b2)⟩
instance [FI ρ] [FI σ] [FI τ] : FI (rT3 ρ σ τ) := ⟨fun {x y v F} h k => by
  obtain ⟨vs, h, k⟩ := rTu_two h k
  obtain ⟨_, _, a1, b1, h, k⟩ := ps_two h k
  obtain ⟨_, _, a2, b2, h, k⟩ := ps_two h k
  obtain ⟨_, _, a3, b3, h, k⟩ := ps_two h k
  exact Prod.ext (FI.inj a1 b1) (Prod.ext (FI.inj a2 b2) (FI.inj a3 b3))⟩
instance [FI ρ] [FI σ] [FI τ] [FI υ] : FI (rT4 ρ σ τ υ) := ⟨fun {x y v F} h k => by
  obtain ⟨vs, h, k⟩ := rTu_two h k
  obtain ⟨_, _, a1, b1, h, k⟩ := ps_two h k
  obtain ⟨_, _, a2, b2, h, k⟩ := ps_two h k
  obtain ⟨_, _, a3, b3, h, k⟩ := ps_two h k
  obtain ⟨_, _, a4, b4, h, k⟩ := ps_two h k
  exact Prod.ext (FI.inj a1 b1) (Prod.ext (FI.inj a2 b2) (Prod.ext (FI.inj a3 b3) (FI.inj a4 b4)))⟩
instance [FI ρ] [FI σ] [FI τ] [FI υ] [FI φ] [FI χ] : FI (rT6 ρ σ τ υ φ χ) := ⟨fun {x y v F} h k => by
  obtain ⟨vs, h, k⟩ := rTu_two h k
  obtain ⟨_, _, a1, b1, h, k⟩ := ps_two h k
  obtain ⟨_, _, a2, b2, h, k⟩ := ps_two h k
  obtain ⟨_, _, a3, b3, h, k⟩ := ps_two h k
  obtain ⟨_, _, a4, b4, h, k⟩ := ps_two h k
  obtain ⟨_, _, a5, b5, h, k⟩ := ps_two h k
  obtain ⟨_, _, a6, b6, h, k⟩ := ps_two h k
  exact Prod.ext (FI.inj a1 b1) (Prod.ext (FI.inj a2 b2) (Prod.ext (FI.inj a3 b3) (Prod.ext (FI.inj a4 b4) (Prod.ext (FI.inj a5 b5) (FI.inj a6 b6)))))⟩
instance [FI ρ] [NN ρ] : FI (rO ρ) := ⟨fun {x y v F} h k => by
  cases x with
  | none => cases y with
    | none => rfl
    | some y => exact absurd (show v = .non from h) (NN.nn y v F k)
  | some x => cases y with
    | none => exact absurd (show v = .non from k) (NN.nn x v F h)
    | some y => exact congrArg some (FI.inj (ρ := ρ) h k)⟩
theorem fi_in {α : Type} {C : Addr} {fs : α → List (Str × Pr)} {x y : α} {v : V} (h : (rIn C (fs x)).r v F) (k : (rIn C (fs y)).r v F) : ∃ gs, Fs F (fs x) gs ∧ Fs F (fs y) gs := by
  obtain ⟨a, dx, gs, rfl, h1, h2⟩ := h
  obtain ⟨b, dy, gs2, e, k1, k2⟩ := k
  cases e
  rw [h1] at k1
  cases k1
  exact ⟨gs, h2, k2⟩
theorem fs_two {n m : Str} {p q : Pr} {ps qs : List (Str × Pr)} {vs : List (Str × V)} (h : Fs F ((n, p) :: ps) vs) (k : Fs F ((m, q) :: qs) vs) : ∃ v us, p.r v F ∧ q.r v F ∧ Fs F ps us ∧ Fs F qs us := by
  match vs, h, k with
  | (_, v) :: vs, h, k => exact ⟨v, vs, h.2.1, k.2.1, h.2.2, k.2.2⟩
end
section
variable {α : Type} {X : Cx} {W : WX} {Γ : Ctx} {a b : Expr}
end
end RF
namespace RF
open PySem PySem.Spec PyProof.Rows L2 KO SX
section
variable {X : Cx} {CX : CXT} {k : Nat} {f C : Addr} {sp : Sp} {E : L2.St → XK}
end
section
variable {α β γ δ : Type} {X : Cx} {W : WX} {Γ : Ctx} {o e : Expr} {es : List Expr} {k : Nat} {f C : Addr} {n : Str} {mo : Mo α} {ma : Mo β} {ρo : α → Pr} {ρe : δ → Pr} {kr : RK γ} {apos pos : Pos} {pl : Sem Bool} {m : α × List δ × Unit → Mo γ}
end
end RF
namespace RF
open PySem PySem.Spec PyProof.Rows L2 KO SX
section
variable {α β γ δ : Type}
theorem if_in {p q : Prop} [Decidable p] [Decidable q] : (if decide p = true then pure (decide q) else pure false : Mo Bool) = pure (decide p && decide q) := by
  cases decide p <;> rfl
def Mo.fin (bc : β → Ex) (x : α) : Option β → Mo α
  | some p => Mo.throw (bc p)
  | none => pure x
theorem Mo.fold_fin {bc : γ → Ex} {f : Unit → β → Mo Unit} {g : β → Option γ} : ∀ {xs : List β}, (∀ x ∈ xs, f () x = Mo.fin bc () (g x)) → Mo.fold f xs () = Mo.fin bc () (xs.findSome? g)
  | [], _ => rfl
  | x :: xs, h => by
    show (f () x >>= fun s => Mo.fold f xs s) = _
    rw [h x List.mem_cons_self, List.findSome?_cons]
    cases e : g x with
    | some r => rfl
    | none => exact Mo.fold_fin fun y hy => h y (List.mem_cons_of_mem _ hy)
theorem enum_in {xs : List α} {i : Nat} {x : α} (h : xs[i]? = some x) : ((i : Int), x) ∈ enumL xs := List.mem_of_getElem? (i := i) (by rw [enumL_get, h]; rfl)
theorem nodup_take {l : List α} (h : l.Nodup) {i : Nat} {x : α} (hx : l[i]? = some x) : x ∉ l.take i := by
  intro hm
  obtain ⟨j, hj⟩ := List.getElem?_of_mem hm
  rw [List.getElem?_take] at hj
  split at hj
  · next hlt =>
    have := (List.getElem?_inj (List.getElem?_eq_some_iff.mp hj).1 h).mp (hj.trans hx.symm)
    omega
  · cases hj
theorem Mo.cut {m : Mo α} {k : α → Mo β} {Q : β → Prop} {E : Ex → Prop} (R : α → Prop) (h : m.run R (fun _ => False)) (q : ∀ x, R x → (k x).run Q E) : (m >>= k).run Q E := m.mono (fun x hx => q x hx) (fun _ z => z.elim) h
end
end RF
namespace RF
open PySem PySem.Spec PyProof.Rows L2 KO SX
def RGs (t : TGs) (ps : List Pr) (f : Ctx → Ctx) (vs : List Nat) : Prop := ∀ G Γ σ F H Q us, Ok G Γ σ F H → Ps F ps us → (∀ σ', Ok G (f Γ) σ' F H → wipe σ' vs = wipe σ vs → Q σ' H) → t us σ H Q
section
variable {K : PySem.W.Frag} {g : TG} {t : TGs} {p : Pr} {ps : List Pr} {f f' : Ctx → Ctx} {vs : List Nat}
theorem rgs_nil : RGs gNil [] (fun Γ => Γ) vs := fun G Γ σ F H Q us o h q => by
  cases us with
  | nil => exact ⟨rfl, q σ o rfl⟩
  | cons _ _ => exact h.elim
theorem rgs_cons (h : RG K g p f vs) (k : RGs t ps f' vs) : RGs (gCons g t) (p :: ps) (fun Γ => f' (f Γ)) vs := fun G Γ σ F H Q us o z q => by
  cases us with
  | nil => exact z.elim
  | cons v us => exact ⟨v, us, rfl, h G Γ σ F H _ v o z.1 fun σ1 o1 e1 => k G _ σ1 F H Q us o1 z.2 fun σ2 o2 e2 => q σ2 o2 (e2.trans e1)⟩
theorem rg_tupN {n : Nat} (h : RGs t ps f vs) (hn : ps.length = n := by rfl) : RG K (gTup K n t) (rTu ps) f vs := fun G Γ σ F H Q v o hv q => by
  obtain ⟨a, us, rfl, h1, h2⟩ := hv
  exact ⟨a, us, rfl, SqT.ofR (Rd.mono h1 o.le), h2.len.trans hn, h G Γ σ F H Q us o h2 q⟩
theorem RGo.then (h : RGo f vs) (k : RGo f' vs) : RGo (fun Γ => f' (f Γ)) vs := ⟨fun Γ a q => h.sub _ a (k.sub _ a q), fun Γ i q => (k.keep _ i q).trans (h.keep Γ i q)⟩
end
section
variable {γ δ S : Type} {X : Cx} {W : WX} {Γe Γ Γ' : Ctx} {lv : Bool} {rest : List Stmt} {Z : γ → Fin} {pos : Pos}
end
section
variable {X : Cx} {W : WX} {Γ : Ctx} {e a b : Expr} {pos p p2 : Pos} {ma mb : Mo Int}
theorem rgV_map (i j : Int) : rgV i j = (rangeL i (j - i).toNat).map V.int := by
  unfold rgV rangeL
  rw [List.map_map]
  rfl
theorem ps_ints {F : Hp} : ∀ xs : List Int, Ps F (xs.map rI) (xs.map V.int)
  | [] => trivial
  | _ :: xs => ⟨rfl, ps_ints xs⟩
theorem re_lstRg1 (h : RE X W Γ a ma (.fz rI)) (hm : X.mg "list" = none) (hm2 : X.mg "range" = none) (hc : X.calm = true := by rfl) (hg : Gl X "list" := by rfl) (hg2 : Gl X "range" := by rfl)
    (na : starEach [.Call (.Name "range" p2) [a] [] pos] X.env = (false, eval (.Call (.Name "range" p2) [a] [] pos) X.env) :: starEach [] X.env := by rfl) (na2 : starEach [a] X.env = (false, eval a X.env) :: starEach [] X.env := by rfl) {q : Pos} :
    RE X W Γ (.Call (.Name "list" p) [.Call (.Name "range" p2) [a] [] pos] [] q) (ma >>= fun n => Mo.rq (-(2 ^ 62) ≤ n ∧ n ≤ 2 ^ 24) (rangeL 0 n.toNat)) (.ow (oL rI)) := by
  refine re_of (pe_listRg hc hg hm (prg_1 hg2 hm2 peE na2) na) fun G σ F H Q o q => ?_
  refine h G σ F H _ o (ma.mono (fun n hx v F' H' o' g' z => ?_) (fun _ z => z) q)
  obtain rfl : v = .int n := z
  refine ⟨n, rfl, ⟨by omega, by omega, hx.1.1, by have := hx.1.2; omega, by have := hx.1.2; omega⟩, fun d hd => hx.2.own o' g' hd ⟨_, rfl, ?_⟩⟩
  rw [rgV_map, Int.sub_zero]
  exact ps_ints _
end
section
variable {X : Cx} {W : WX} {Γ : Ctx} {a b : Expr} {ma mb : Mo Int} {pos : Pos}
end
section
variable {X : Cx} {W : WX} {Γ : Ctx} {a b : Expr} {ma mb : Mo Str} {pos : Pos}
theorem re_find {apos : Pos} (ha : RE X W Γ a ma (.fz rS)) (hb : RE X W Γ b mb (.fz rS)) (hs : starEach [b] X.env = [(false, eval b X.env)] := by rfl) (hbase : attributeBase a "find" X.env (eval a X.env) = eval a X.env := by rfl) (hline : (apos.endLine == pos.line) = true := by rfl) :
    RE X W Γ (.Call (.Attribute a "find" apos) [b] [] pos) (ma >>= fun x => mb >>= fun y => pure (Txt.find x y)) (.fz rI) := by
  refine re_of (pe_m1 PySem.F.slot_str_find PySem.F.type_str_find mt_find peE peE hs hbase hline) fun G σ F H Q o q => ?_
  refine ha G σ F H _ o (ma.mono (fun x hx v F1 H1 o1 g1 zz => ?_) (fun _ z => z) q)
  obtain rfl : v = .str x := zz
  refine ⟨⟨x, rfl⟩, hb G σ F1 H1 _ o1 (mb.mono (fun y hy w F2 H2 o2 g2 z => ?_) (fun _ => EQ.step g1) hx)⟩
  obtain rfl : w = .str y := z
  exact ⟨x, y, rfl, rfl, hy _ F2 H2 o2 (g1.trans g2 owns_tr) rfl⟩
end
def PT (o : Obj) : Prop := o.dict = none ∧ o.slots = #[]
def rTf {α : Type} (ρ : α → Pr) (xs : List α) : Pr := ⟨fun v F => ∃ a vs o, v = .ref a ∧ F a = some (.frz o (.tup vs)) ∧ PT o ∧ Ps F (xs.map ρ) vs, fun s ⟨a, vs, o, e, h, k, m⟩ => ⟨a, vs, o, e, s _ _ h, k, m.mono s⟩⟩
section
variable {α β : Type} {X : Cx} {W : WX} {Γ : Ctx} {e a b : Expr} {pos p : Pos} {ρ : α → Pr} {ml : Mo (List α)}
instance nlTf [NL ρ] : NL (rTf ρ) := ⟨fun {xs v F b us} h k => by
  obtain ⟨a, vs, o, rfl, h1, h2, h3⟩ := k
  refine ⟨a, vs, o, rfl, del_ok h1 ?_, h2, h3.nl h (fun p hp => by
    obtain ⟨x, _, rfl⟩ := List.mem_map.mp hp
    exact nlr x)⟩
  rintro rfl
  rw [h] at h1; cases h1⟩
instance fiTf [FI ρ] : FI (rTf ρ) := ⟨fun {x y v F} h k => by
  obtain ⟨a, vs, o, rfl, h1, h2, h3⟩ := h
  obtain ⟨b, us, o', e, k1, k2, k3⟩ := k
  cases e
  rw [h1] at k1
  cases k1
  exact Ps.inj h3 k3⟩
theorem re_Tf (h : RE X W Γ e ml (.fz (rTf ρ))) : RE X W Γ e ml (.fz (rTs ρ)) := re_as h fun x v F ⟨a, vs, o, e, h, _, m⟩ => ⟨a, vs, e, .inr ⟨o, h⟩, m⟩
theorem call_tuple_frz : CallR X (.type "tuple") (fun xs H Q => ∃ p ys, xs = [.ref p] ∧ SqL X.K H p ys ∧ ∀ l o, H l = none → PT o → Q (.ref l) (upd H l (.frz o (.tup ys)))) := by
  intro pins s σ H xs us Q I r h
  obtain ⟨p, ys, rfl, hq, q⟩ := h
  rw [Vals.ref1 r]
  obtain ⟨its, r2, pl, hz⟩ := I.list hq
  have hlen := r2.length
  refine call_tuple_list pl.isList (fun h2 kp => ?_) (by simp only [List.size_toArray]; omega)
  have I1 : Inv X pins σ H { s with heap := h2 } := I.kept (t' := s.toks) kp
  let ob : Obj := { cls := .type "tuple", data := .seq its.toArray }
  have I2 : Inv X pins σ (upd H h2.objs.size (.frz ob (.tup ys))) { s with heap := h2.push ob } :=
    I1.laid (t' := s.toks) (fun b o e => Heap.get?_push_of_some _ e) (Nat.le_refl _) (show ObjOk X.prog X.w _ _ _ (.frz ob (.tup ys)) from ⟨Heap.get?_push_size _ rfl, hz, its, r2, IsTup.new _ _⟩)
  exact ⟨.ref h2.objs.size, _, I2, rfl, q _ ob (I1.hok.fresh (Nat.le_refl _)) ⟨rfl, rfl⟩⟩
theorem re_tupleF (h : RSq X W Γ true e ml ρ) (hm : X.mg "tuple" = none) (hg : Gl X "tuple" := by rfl) (he : starEach [e] X.env = [(false, eval e X.env)] := by rfl) : RE X W Γ (.Call (.Name "tuple" p) [e] [] pos) (ml >>= fun xs => pure xs) (.fz (rTf ρ)) :=
  re_ty1 (k := true) call_tuple_frz (fun xs G σ F H Q a vs o z1 z2 q => ⟨a, vs, rfl, SqL.of z1, fun l ob hl hd => NQ.ownF q o (Go.refl o.le) hl ⟨l, vs, ob, rfl, upd_same, hd, z2.mono (same_upd (o.le.free hl))⟩⟩) h hg hm (by decide +kernel) (he := he)
end
section
variable {X : Cx} {o e : Expr} {es : List Expr} {to : TE} {t : TA} {name : Str} {apos cpos : Pos} {id : String} {r : V → List V → Hp → VK → Prop}
def tTM (r : V → List V → Hp → VK → Prop) (to : TE) (t : TA) : TE := fun σ H Q => to σ H fun x H1 => (∃ p ob us, x = .ref p ∧ H1 p = some (.frz ob (.tup us)) ∧ ob.dict = none) ∧ t σ H1 fun xs H2 => r x xs H2 Q
theorem pe_tm (slot : Slot "tuple" name id) (hty : typeOf (.builtin id) = pure (.type "method_descriptor")) (hm : MtR X id r) (ho : PE X o to) (ha : PA X (e :: es) t)
    (hbase : attributeBase o name X.env (eval o X.env) = eval o X.env := by rfl)
    (hfew : ((backTo cpos (starEach (e :: es) X.env)).all (fun x => !x.1) && (backToKw cpos (keywordEach [] X.env)).all (fun x => x.1.isSome) && decide ((e :: es).length + ([] : List Keyword).length + (if ([] : List Keyword).isEmpty then 0 else 1) < 30)) = true := by rfl)
    (hline : (apos.endLine == cpos.line) = true := by rfl) (hst : starEach (e :: es) X.env = (false, eval e X.env) :: starEach es X.env := by rfl) (hpl : (backTo cpos (starEach es X.env)).any (·.1) = false := by rfl) :
    PE X (.Call (.Attribute o name apos) (e :: es) [] cpos) (tTM r to t) := by
  refine ⟨fun pins s σ H Q I h => ?_⟩
  refine wpAny_Call_method_late hbase hfew hline rfl (thn (ho.run pins s σ H _ I h) fun v s1 ⟨x, H1, I1, r1, ty, q1⟩ => ?_)
  obtain ⟨p, ob, us, rfl, hq, hd⟩ := ty
  cases r1
  obtain ⟨hob, _, its, _, it⟩ := I1.hok _ _ hq
  refine ⟨"tuple", id, PySem.F.plainAttrs_tuple, slot, hty, (let ⟨o2, e, c, _⟩ := it; ⟨o2, e, c⟩), fun a e => ?_, ?_⟩
  · cases e
    exact ⟨ob, hob, hd⟩
  · have hA := ha.run cpos pins s1 σ H1 _ I1 q1
    rw [hst] at hA ⊢
    exact Calls.callWith_builtin (by show (false || (backTo cpos (starEach es X.env)).any (·.1)) = false; rw [hpl]; rfl) (Calls.evalArgs_plain (thn hA fun us s2 ⟨vs, H2, I2, r2, q2⟩ => hm pins s2 σ H2 (.ref p) vs (.ref p) us Q I2 rfl r2 q2))
end
section
variable {X : Cx} {W : WX} {Γ : Ctx} {a b : Expr} {pos p : Pos} {ml : Mo (List Str)} {ma : Mo Str}
theorem re_indexTf {apos : Pos} (hb : RE X W Γ b ml (.fz (rTf rS))) (ha : RE X W Γ a ma (.fz rS))
    (hbase : attributeBase b "index" X.env (eval b X.env) = eval b X.env := by rfl)
    (hfew : ((backTo pos (starEach [a] X.env)).all (fun x => !x.1) && (backToKw pos (keywordEach [] X.env)).all (fun x => x.1.isSome) && decide ([a].length + ([] : List Keyword).length + (if ([] : List Keyword).isEmpty then 0 else 1) < 30)) = true := by rfl)
    (hline : (apos.endLine == pos.line) = true := by rfl) (hs : starEach [a] X.env = [(false, eval a X.env)] := by rfl) :
    RE X W Γ (.Call (.Attribute b "index" apos) [a] [] pos) (ml >>= fun ys => ma >>= fun x => Mo.get (ys.idxOf? x) >>= fun j => pure (j : Int)) (.fz rI) := by
  refine re_of (pe_tm PySem.F.slot_tuple_index PySem.F.type_tuple_index mt_tup_index peE (pa_cons peE pa_nil hs) hbase hfew hline hs rfl) fun G σ F H Q o q => ?_
  refine hb G σ F H _ o (ml.mono (fun ys hy v F1 H1 o1 g1 z => ?_) (fun _ z => z) q)
  obtain ⟨ad, vs, ob, rfl, h1, hd, h3⟩ := z
  refine ⟨⟨ad, ob, vs, rfl, o1.le _ _ h1, hd.1⟩, ha G σ F1 H1 _ o1 (ma.mono (fun x hx w F2 H2 o2 g2 z => ?_) (fun _ => EQ.step g1) hy)⟩
  obtain rfl : w = .str x := z
  obtain ⟨j, hj, hx⟩ := hx
  rw [List.idxOf?_eq_some_iff] at hj
  obtain ⟨k1, k2, k3⟩ := hj
  have e : vs = ys.map V.str := Ps.sc (s := scS) h3
  subst e
  refine ⟨ad, ys, x, j, rfl, rfl, SqT.ofR (.inr ⟨ob, o2.le _ _ (g2.fs _ _ h1)⟩), by rw [List.getElem?_eq_getElem k1, k2], fun i hi e => ?_, hx _ F2 H2 o2 (g1.trans g2 owns_tr) rfl⟩
  rw [List.getElem?_eq_getElem (by omega)] at e
  exact k3 i hi (Option.some.inj e)
end
end RF
namespace RF
open PySem PySem.Spec PyProof.Rows L2 KO SX
section
variable {α γ : Type} {X : Cx} {W : WX} {Γe Γ : Ctx} {lv : Bool} {st : Stmt} {rest : List Stmt} {Z : γ → Fin} {e : Expr} {ρ : α → Pr} {i : Nat} {l : Bool} {ad : Addr} {xs : List α}
theorem rb_ext {me : Mo (List α)} {mr : List α → Mo γ} (hs : PS X st (tDrop (tBM X.K "list" rExtend (tVar i) (tCons (tE X e) tNil)))) (hi : Γ[i]? = some (.ow l ad (oL ρ xs))) (he : RE X W Γ e me (.fz (rL ρ))) (hie : Γe[i]? = some .un) (hr : ∀ ys, RB X W Γe lv (Γ.set i (.ow l ad (oL ρ (xs ++ ys)))) rest (mr ys) Z) :
    RB X W Γe lv Γ (st :: rest) (me >>= fun ys => Mo.rq (xs.length + ys.length ≤ sizeLine) ys >>= mr) Z := fun le G σ F H D nx' hn o q =>
  tSs_cons hs (by
    obtain ⟨h1, _, _, u, hu, vs, rfl, hps⟩ := o.en i _ hi
    refine ⟨.ref ad, h1, .inl ⟨rfl, vs, SqL.of hu⟩, ?_⟩
    refine he G σ F H _ o (me.mono (fun ys hx v F' H' o' g' z => ?_) (fun _ => XQ.eq le) q)
    obtain ⟨_, _, _, u2, hu2, vs2, rfl, hps2⟩ := o'.en i _ hi
    obtain ⟨b, us, rfl, k1, k2⟩ := z
    refine ⟨ad, b, vs2, us, rfl, rfl, hu2, o'.le _ _ k1, by rw [hps2.len, k2.len, List.length_map, List.length_map]; exact hx.1, ?_⟩
    refine hr ys (le.set hie) G σ F' _ D nx' hn (o'.put (q := oL ρ (xs ++ ys)) hi ⟨_, rfl, ?_⟩) (run_fin g'.fs hx.2)
    rw [List.map_append]
    exact hps2.app k2)
def rExtT : V → List V → Hp → VK → Prop := fun x vs H Q => ∃ l b xs zs ob, x = .ref l ∧ vs = [.ref b] ∧ H l = some (.lst xs) ∧ H b = some (.frz ob (.tup zs)) ∧ PT ob ∧ xs.length + zs.length ≤ sizeLine ∧ Q .non (upd H l (.lst (xs ++ zs)))
theorem mt_extT : MtM X "list.extend" rExtT := by
  intro pins s σ H x vs v us Q I rx rv h
  obtain ⟨l, b, xs, zs, ob, rfl, rfl, hH, hB, ⟨p1, p2⟩, hz, q⟩ := h
  cases rx
  obtain ⟨u, rfl, ru⟩ := rv.one
  cases ru
  obtain ⟨z, its, n, r, hl, e⟩ := I.lstM hH
  obtain ⟨hob, hzl, its2, r2, ob2, e2, c2, n2, d2⟩ := I.hok _ _ hB
  rw [hob] at e2
  cases e2
  have hl2 := r2.length
  obtain ⟨k1, k2, k3, k4⟩ := ob
  dsimp only at c2 d2 p1 p2
  subst c2 d2 p1 p2
  have hsz : its.toArray.size + its2.toArray.size ≤ sizeLine := by rw [List.size_toArray, List.size_toArray]; omega
  have hlong : ¬ (!its.toArray.isEmpty && Builtin.List.listTooLong (its.toArray.size + its2.toArray.size)) = true := by rw [notLongL hsz, Bool.and_false]; exact Bool.false_ne_true
  refine call_meets PySem.F.slot_list_extend ⟨_, e, rfl⟩ PySem.F.entry_list_extend (PySem.F.args_list_extend_2 _ _) (AutoSeq1.list_extend_list_tuple_0 l its.toArray n b its2.toArray n2 hlong (by rw [List.size_toArray]; omega) (by omega)) ⟨e, hob, ?_⟩
  refine ⟨.non, _, I.lset (its' := its ++ its2) hH e (by simp) (r.append r2) ?_, rfl, q⟩
  rw [List.length_append]; omega
theorem rb_extT {me : Mo (List α)} {mr : List α → Mo γ} (hs : PS X st (tDrop (tBM X.K "list" rExtT (tVar i) (tCons (tE X e) tNil)))) (hi : Γ[i]? = some (.ow l ad (oL ρ xs))) (he : RE X W Γ e me (.fz (rTf ρ))) (hie : Γe[i]? = some .un) (hr : ∀ ys, RB X W Γe lv (Γ.set i (.ow l ad (oL ρ (xs ++ ys)))) rest (mr ys) Z) :
    RB X W Γe lv Γ (st :: rest) (me >>= fun ys => Mo.rq (xs.length + ys.length ≤ sizeLine) ys >>= mr) Z := fun le G σ F H D nx' hn o q =>
  tSs_cons hs (by
    obtain ⟨h1, _, _, u, hu, vs, rfl, hps⟩ := o.en i _ hi
    refine ⟨.ref ad, h1, .inl ⟨rfl, vs, SqL.of hu⟩, ?_⟩
    refine he G σ F H _ o (me.mono (fun ys hx v F' H' o' g' z => ?_) (fun _ => XQ.eq le) q)
    obtain ⟨_, _, _, u2, hu2, vs2, rfl, hps2⟩ := o'.en i _ hi
    obtain ⟨b, us, ob, rfl, k1, k3, k2⟩ := z
    refine ⟨ad, b, vs2, us, ob, rfl, rfl, hu2, o'.le _ _ k1, k3, by rw [hps2.len, k2.len, List.length_map, List.length_map]; exact hx.1, ?_⟩
    refine hr ys (le.set hie) G σ F' _ D nx' hn (o'.put (q := oL ρ (xs ++ ys)) hi ⟨_, rfl, ?_⟩) (run_fin g'.fs hx.2)
    rw [List.map_append]
    exact hps2.app k2)
end
end RF
namespace RF
open PySem PySem.Spec PyProof.Rows L2 KO SX
def setLen {α : Type} [DecidableEq α] (xs : List α) : Nat := xs.eraseDups.length
theorem eraseDups_snoc {α : Type} [DecidableEq α] (ys : List α) (x : α) : (ys ++ [x]).eraseDups.length = if x ∈ ys then ys.eraseDups.length else ys.eraseDups.length + 1 := by
  rw [List.eraseDups_append]
  by_cases h : x ∈ ys
  · rw [if_pos h]
    have : List.removeAll [x] ys = [] := by simp [List.removeAll, h]
    rw [this]; simp
  · rw [if_neg h]
    have : List.removeAll [x] ys = [x] := by simp [List.removeAll, h]
    rw [this]; simp [List.eraseDups_cons]
section
variable {P : Program} {w : World} {A : Around} {E : Value → Shared → Prop} {s : Shared}
abbrev SetS (P : Program) (w : World) (h : Heap) (S : Addr) (ws : List Str) : Prop := h.SetOf (strKind P w) S (fun k => decide (k ∈ ws)) (setLen ws)
theorem SetS.at {h h2 : Heap} {S : Addr} {ws : List Str} (q : SetS P w h S ws) (k : ∀ o, h.get? S = some o → h2.get? S = some o) : SetS P w h2 S ws := by
  obtain ⟨o, es, ep, t, ho, z⟩ := q
  exact ⟨o, es, ep, t, k _ ho, z⟩
theorem setLen_le (ws : List Str) : setLen ws ≤ ws.length := by
  unfold setLen
  induction h : ws.length generalizing ws with
  | zero => rw [List.length_eq_zero_iff.mp h]; simp
  | succ n ih =>
    have : ws = ws.dropLast ++ [ws.getLast (by intro e; rw [e] at h; simp at h)] := (List.dropLast_concat_getLast _).symm
    rw [this, eraseDups_snoc]
    have k := ih ws.dropLast (by rw [List.length_dropLast]; omega)
    split <;> omega
theorem upd_texts {I : Addr} {fp wr : List Addr} {G : Array GenState → Array GenState → Prop} {n : Nat} {Pv : Nat → Value → Prop} {St : Nat → Shared → Prop} {R : Result → Shared → Prop}
    (W : WalksS P w A.in1 I fp wr G n Pv St) (S : Addr) (apart : S ∉ fp) (ws : List Str) (en : n = ws.length) (few : ws.length + 1 < scanBound) (each : ∀ i v, Pv i v → ∃ x t, ws[i]? = some x ∧ v = .str x t) :
    ∀ (m i : Nat) (s : Shared), n - i = m → i ≤ n → St i s → SetS P w s.heap S (ws.take i) →
      (∀ s2, Moved (S :: wr) G s s2 → SetS P w s2.heap S ws → R (.ok (.ret .none)) s2) → codeAny (model P w) A (.builtin "set.update.loop" ⟨[.ref S, .ref I], []⟩) R s := by
  have notw : S ∉ wr := fun z => apart (W.sub _ z)
  have more : ∀ c ∈ wr, c ∈ S :: wr := fun c z => List.mem_cons_of_mem _ z
  intro m
  induction m with
  | zero =>
    intro i s hm hi hst hS fin
    obtain rfl : i = n := by omega
    refine codeAny_builtin F.entry_set_update_loop ?_
    rw [Around.under_plainId F.plain_set_update_loop _]
    show wpAny _ A.in1 (pyNext (.ref I) >>= _) _ _ s
    refine wpAny_bind (W.done s _ _ hst fun s2 mv => ?_)
    rw [List.take_of_length_le (by omega)] at hS
    exact wpAny_pure (fin s2 (mv.mono more) (hS.at fun o e => mv.heap S o notw e))
  | succ m ih =>
    intro i s hm hi hst hS fin
    have lt : i < n := by omega
    refine codeAny_builtin F.entry_set_update_loop ?_
    rw [Around.under_plainId F.plain_set_update_loop _]
    show wpAny _ A.in1 (pyNext (.ref I) >>= _) _ _ s
    refine wpAny_bind (W.item i s _ _ lt hst fun v s2 pv st2 mv => ?_)
    obtain ⟨x, t, hx, rfl⟩ := each i v pv
    have hS2 := hS.at (h2 := s2.heap) fun o e => mv.heap S o notw e
    have lenle := setLen_le (ws.take i)
    have tl : (ws.take i).length ≤ ws.length := by rw [List.length_take]; omega
    show wpAny _ A.in1 (holding [Value.str x t] (setAdd S (.str x t)) >>= _) _ _ s2
    refine wpAny_bind (wpAny_holding ?_)
    unfold setAdd
    refine wpAny_holding ?_
    refine wpAny_bind ((strKind P w).pyHash (k := x) (strKind_is _ _ _ _) ?_)
    refine wpAny_setAddHashed_of (knd := strKind P w) (s := { s2 with toks := s2.toks + 1 }) (strKind_is _ _ _ _) rfl hS2 (by omega) fun h3 sb hS3 => ?_
    have hS4 : SetS P w h3 S (ws.take (i + 1)) := SetOf_congr hS3 (fun k => by rw [List.take_add_one, hx]; simp [Bool.decide_or]) (by
      unfold setLen
      rw [List.take_add_one, hx]
      show _ = (ws.take i ++ [x]).eraseDups.length
      rw [eraseDups_snoc]
      by_cases c : x ∈ ws.take i
      · simp [c]
      · simp [c])
    refine wpAny_pure ⟨plainId_quiet F.plain_set_update_loop _, ih (i + 1) _ (by omega) lt (W.frame _ s2 _ _ st2 (Nat.le_succ _) fun c hc o e => ?_) hS4 fun s5 mv5 hS5 => ?_⟩
    · rw [sb.2 c fun z : c = S => apart (by rw [← z]; exact hc)]; exact e
    · refine fin s5 (Moved.trans W.gtrans ((mv.mono more).then_heap (Nat.le_succ _) fun c o hc e => ?_) mv5) hS5
      rw [sb.2 c fun z : c = S => hc (by rw [z]; exact List.mem_cons_self)]; exact e
theorem strs_at {us : List Value} {ws : List Str} (txt : StrsAre us ws) : ∀ {i : Nat} {v : Value}, us[i]? = some v → ∃ x t, ws[i]? = some x ∧ v = .str x t := by
  induction txt with
  | nil => intro i v h; simp at h
  | cons x t _ ih =>
    intro i v h
    cases i with
    | zero => exact ⟨x, t, rfl, (Option.some.inj h).symm⟩
    | succ i => exact ih (by simpa using h)
abbrev oSet (led : Bool) : Obj := { cls := .type "set", dict := none, data := .set #[] 0 (.fresh 0 0 led) }
theorem set_texts {l : Addr} {its : Array Value} (ws : List Str) {Q : Value → Shared → Prop} (calm : A.handled = none) (isl : s.heap.IsList l its) (txt : StrsAre its.toList ws) (few : ws.length + 1 < scanBound)
    (goal : ∀ (h2 : Heap) (tk : Nat), SetS P w h2 s.heap.objs.size ws → (∀ b o, s.heap.get? b = some o → h2.get? b = some o) → Q (.ref s.heap.objs.size) { s with heap := h2, toks := tk }) :
    wpAny (model P w) A (call (.type "set") [.ref l]) Q E s := by
  have len : its.toList.length = ws.length := by
    clear goal isl few
    generalize its.toList = us at txt
    induction txt with
    | nil => rfl
    | cons x t _ ih => rw [List.length_cons, List.length_cons, ih]
  have size_eq : its.size = ws.length := (Array.length_toList (xs := its)).symm.trans len
  obtain ⟨c0, tl0, m0⟩ := F.called_set.mro
  have q1 := F.called_set.made; have q2 := F.called_set.sub
  refine wpAny_call (codeAny_of_tree ?_)
  show wpAny _ _ (callAny (.type "set") ⟨[.ref l], []⟩) _ _ s
  refine wpAny_pure ⟨Code.quiet_builtin _ (by decide +kernel), codeAny_builtin F.entry_type_call ?_⟩
  rw [show A.under (.builtin "type.__call__" ⟨[.type "set", .ref l], []⟩) = _ from Around.under_plain (weight_type_call_type "set" [.ref l] []) rfl]
  have q3 := F.called_set.notType; have q4 := F.called_set.canCreate; have q5 := F.typeCall_set_1 (.ref l)
  repeat (any_goals (first | assumption | wp_step))
  refine codeAny_mono (code_set_new_1 (.ref l) (E := E) (Q₁ := fun x s1 => ∃ led : Bool, x = .ref s.heap.objs.size ∧ s1 = { s with heap := s.heap.push (oSet led) }) fun led => ⟨led, rfl, rfl⟩) fun r1 s1 h1 => ?_
  cases r1 with
  | error e => exact h1
  | ok f1 =>
    cases f1 with
    | ret x =>
      obtain ⟨led, rfl, rfl⟩ := h1
      have got : (s.heap.push (oSet led)).get? s.heap.objs.size = some (oSet led) := Heap.get?_push_size _ rfl
      have ty : Shared.TypeIs { s with heap := s.heap.push (oSet led) } (.ref s.heap.objs.size) "set" := ⟨_, got, rfl⟩
      have q6 := F.called_set.init.lookup; have q7 := F.called_set.init.bind (.ref s.heap.objs.size)
      repeat (any_goals (first | assumption | wp_step))
      refine codeAny_mono (codeAny_call_builtin (R := wants (fun r s2 => r = .none ∧ ∃ h2 tk2, s2 = { s with heap := h2, toks := tk2 } ∧ SetS P w h2 s.heap.objs.size ws ∧ (∀ b o, s.heap.get? b = some o → h2.get? b = some o)) E)
        F.called_set.init.plain F.entry_set_init (check_set_init_1 ty ?_)) fun r2 s2 h2 => ?_
      · obtain ⟨ol, hol, hcl, nl, hdl⟩ := isl
        obtain ⟨kcls, kdict, kdata, kslots⟩ := ol
        simp only at hcl hdl
        subst hcl; subst hdl
        have hol2 : (s.heap.push (oSet led)).get? l = some { cls := .type "list", dict := kdict, data := .seq its nl, slots := kslots } := Heap.get?_push_of_some _ hol
        have g1 := F.sub_list_set; have g2 := F.sub_list_frozenset
        have g3 : (Value.type "list" == Value.type "dict") = false := by decide
        have isl2 : (s.heap.push (oSet led)).IsList l its := ⟨_, hol2, rfl, nl, rfl⟩
        unfold Builtin.«set.__init__» noKeywords Builtin.Frozenset.updateFrom
        generalize hIter : pyIter = IT
        wp_walk
        subst hIter
        refine wpAny_pyIter_list isl2 ?_
        refine wpAny_bind (wpAny_runValue ?_)
        have lt0 : l < s.heap.objs.size := Heap.lt_size hol
        have sz : (s.heap.push (oSet led)).objs.size = s.heap.objs.size + 1 := Heap.size_push ..
        have up : ∀ {b : Nat}, b < s.heap.objs.size → b ≠ (s.heap.push (oSet led)).objs.size := fun h => Nat.ne_of_lt (by rw [sz]; exact Nat.lt_succ_of_lt h)
        have n1 : l ≠ (s.heap.push (oSet led)).objs.size := up lt0
        have n2 : s.heap.objs.size ∉ [(s.heap.push (oSet led)).objs.size, l] := by
          intro z
          rcases List.mem_cons.mp z with z | z
          · exact Nat.ne_of_lt (by rw [sz]; exact Nat.lt_succ_self _) z
          · exact Nat.ne_of_gt lt0 (List.mem_singleton.mp z)
        have each : ∀ (i : Nat) (v : Value), its[i]? = some v → ∃ x t, ws[i]? = some x ∧ v = .str x t := fun i v hv => by
          exact strs_at txt ((Array.getElem?_toList (xs := its) (i := i)).trans hv)
        refine upd_texts ((Walks.list (by simp [calm]) _ l n1 its).toS) s.heap.objs.size n2 ws size_eq few each (its.size - 0) 0 _ (by omega) (Nat.zero_le _) ⟨⟨_, Heap.get?_push_size _ rfl, rfl, rfl⟩, (isl2.push _)⟩ ?st ?en
        case st =>
          have hget := Heap.get?_push_of_some ({ cls := .type "list_iterator", data := .fields #[.ref l, .int 0 0] } : Obj) got
          exact SetOf_congr ((setObjOf_fresh (knd := strKind P w) led).setOf hget (by unfold scanBound; omega)) (fun k => by simp) (by simp [setLen])
        case en =>
          intro s3 mv R3
          obtain ⟨h3, g3, d3, tk3, os3⟩ := s3
          have e1 : g3 = s.gens := mv.gens
          have e2 : d3 = s.drawn := mv.drawn
          have e3 : os3 = s.os := mv.os
          subst e1; subst e2; subst e3
          show wpAny _ _ _ _ _ _
          refine wpAny_pure ?_
          show wpAny _ _ (ret Value.none) _ _ _
          refine wpAny_pure ⟨rfl, h3, tk3, rfl, R3, fun b o e => ?_⟩
          have lb : b < s.heap.objs.size := Heap.lt_size e
          refine mv.heap b o (fun z => ?_) (Heap.get?_push_of_some _ (Heap.get?_push_of_some _ e))
          rcases List.mem_cons.mp z with z | z
          · exact Nat.ne_of_lt lb z
          · exact up lb (List.mem_singleton.mp z)
      · cases r2 with
        | error e => exact h2
        | ok f2 =>
          cases f2 with
          | ret y =>
            obtain ⟨rfl, h4, tk4, rfl, R4, k4⟩ := h2
            repeat (any_goals (first | assumption | wp_step))
            exact goal _ _ R4 k4
          | _ => exact h2.elim
    | _ => exact h1.elim
end
section
variable {α : Type} {X : Cx} {W : WX} {Γ : Ctx} {a : Expr} {ml : Mo (List Str)}
def tLenSetS (K : PySem.W.Frag) (ta : TE) : TE := fun σ H Q => ta σ H fun x H1 => ∃ (l : Addr) (ws : List Str), x = V.ref l ∧ SqL K H1 l (ws.map V.str) ∧ ws.length ≤ 1000 ∧ Q (.int (setLen ws)) H1
theorem pe_lenSetS {ta : TE} {p p2 q pos : Pos} (hc : X.calm = true) (hg : Gl X "len") (hm : X.mg "len" = none) (hg2 : Gl X "set") (hm2 : X.mg "set" = none) (ha : PE X a ta)
    (na : starEach [a] X.env = (false, eval a X.env) :: starEach [] X.env := by rfl) : PE X (.Call (.Name "len" p) [.Call (.Name "set" p2) [a] [] q] [] pos) (tLenSetS X.K ta) := by
  refine ⟨fun pins s σ H Q I h => ?_⟩
  refine Call_ (ld_blt I hg hm PySem.boot_len ?_)
  refine PyProof.Rows.callWith_builtin1 (PyProof.Rows.args_cons ?_ rfl) rfl rfl
  refine Call_ (ld_blt I hg2 hm2 PyProof.Rows.boot_set ?_)
  refine PyProof.Rows.callWith_type1 (PyProof.Rows.args_cons (thn (ha.run pins s σ H _ I h) fun v s1 ⟨x, H1, I1, r1, q1⟩ => PyProof.Rows.args_nil ?_) na) na rfl
  obtain ⟨l, ws, rfl, hq, h1, q1⟩ := q1
  cases r1
  obtain ⟨its, r, pl, hz⟩ := I1.list hq
  have le := setLen_le ws
  refine set_texts ws (I1.ok.hd hc) pl.isList (by simpa using strsAre_of r) (by unfold scanBound; omega) fun h2 tk hS hk => ?_
  refine PyProof.Rows.args_nil ?_
  obtain ⟨o, es, ep, t, ho, hex, hd, _, _, _, hf, hn⟩ := hS
  have I2 : Inv X pins σ H1 { s1 with heap := h2, toks := tk } := I1.kept hk
  exact call_len_set ho hex hd hf (by rw [hn]; omega) ⟨.int (setLen ws), H1, I2.tok _, ⟨_, by rw [hn]⟩, q1⟩
theorem re_lenSet {p p2 q pos : Pos} (h : RSq X W Γ true a ml rS) (hm : X.mg "len" = none) (hm2 : X.mg "set" = none) (hc : X.calm = true := by rfl) (hg : Gl X "len" := by rfl) (hg2 : Gl X "set" := by rfl)
    (na : starEach [a] X.env = (false, eval a X.env) :: starEach [] X.env := by rfl) : RE X W Γ (.Call (.Name "len" p) [.Call (.Name "set" p2) [a] [] q] [] pos) (ml >>= fun ws => Mo.rq (ws.length ≤ 1000) (setLen ws : Int)) (.fz rI) := by
  refine re_of (pe_lenSetS hc hg hm hg2 hm2 peE na) fun G σ F H Q o q => ?_
  refine h G σ F H _ o (ml.mono (fun ws hx ad vs F' H' o' g' z1 z2 => ?_) (fun _ z => z) q)
  have e : vs = ws.map V.str := Ps.sc (s := scS) z2
  subst e
  exact ⟨ad, ws, rfl, SqL.of z1, hx.1, hx.2 _ F' H' o' g' rfl⟩
end
end RF
namespace RF
open PySem PySem.Spec PyProof.Rows L2 KO SX
class OrE {α : Type} (ρ : α → Pr) [s : EqE ρ] where
  lt : α → α → Bool
  ak : ∀ x y, PySem.W.alike (s.d x) (s.d y) = true
  nn : ∀ x, s.d x ≠ .none
  eq : ∀ x y, PySem.W.dataLt (s.d x) (s.d y) = lt x y
class SoE {α : Type} (ρ : α → Pr) [s : EqE ρ] : Prop where
  so : (∀ x, ∃ a r, s.d x = .tuple (a :: r)) ∨ ∀ x xs, s.d x ≠ .tuple xs
section
variable {α β γ δ ε ζ : Type} {ρ : α → Pr} {σ : β → Pr} {τ : γ → Pr} {υ : δ → Pr} {φ : ε → Pr} {χ : ζ → Pr}
instance orI : OrE rI := ⟨fun x y => decide (x < y), fun x y => by show PySem.W.alike (.int x) (.int y) = true; simp only [PySem.W.alike], fun x e => (nomatch e), fun x y => PySem.W.dataLt_int x y⟩
instance orS : OrE rS := ⟨fun x y => decide (x.cps.toList < y.cps.toList), fun x y => by show PySem.W.alike (.str x) (.str y) = true; simp only [PySem.W.alike], fun x e => (nomatch e), fun x y => PySem.W.dataLt_str x y⟩
instance soI : SoE rI := ⟨.inr fun _ _ e => nomatch e⟩
instance soS : SoE rS := ⟨.inr fun _ _ e => nomatch e⟩
theorem OrE.irr [s : EqE ρ] [o : OrE ρ] (x : α) : o.lt x x = false := by rw [← o.eq]; exact lex_irrefl _
section
variable [s : EqE ρ] [o : OrE ρ] [DecidableEq α]
def ltL (ρ : α → Pr) [s : EqE ρ] [o : OrE ρ] [DecidableEq α] : List α → List α → Bool
  | [], [] => false
  | [], _ :: _ => true
  | _ :: _, [] => false
  | x :: xs, y :: ys => if x = y then ltL ρ xs ys else o.lt x y
theorem akL : ∀ xs ys : List α, PySem.W.alikeAll (xs.map s.d) (ys.map s.d) = true
  | [], _ => by rw [List.map_nil, PySem.W.alikeAll]
  | _ :: _, [] => by rw [List.map_nil, List.map_cons, PySem.W.alikeAll]
  | x :: xs, y :: ys => by rw [List.map_cons, List.map_cons, PySem.W.alikeAll, o.ak x y, akL xs ys]; rfl
theorem eqv_dec (x y : α) : PyData.eqv (s.d x) (s.d y) = decide (x = y) := by rw [Bool.eq_iff_iff, s.eqv]; simp
theorem lexL : ∀ xs ys : List α, PyProof.Rows.lexLt itemOrd (PySem.W.keyToksAll (xs.map s.d)) (PySem.W.keyToksAll (ys.map s.d)) = ltL ρ xs ys
  | [], [] => lex_irrefl _
  | [], y :: ys => by
    rw [List.map_nil, List.map_cons, PySem.W.toks_all_cons]
    simp only [PySem.W.keyToksAll]
    rfl
  | x :: xs, [] => by
    rw [List.map_nil, List.map_cons, PySem.W.toks_all_cons]
    simp only [PySem.W.keyToksAll]
    rfl
  | x :: xs, y :: ys => by
    rw [List.map_cons, List.map_cons, PySem.W.dataLt_cons (o.ak x y), eqv_dec, lexL xs ys, o.eq]
    simp only [decide_eq_true_eq]
    rfl
instance orL : OrE (rL ρ) := ⟨ltL ρ, fun x y => by show PySem.W.alike (.list (x.map s.d)) (.list (y.map s.d)) = true; rw [PySem.W.alike]; exact akL x y, fun x e => (nomatch e), fun x y => (PySem.W.dataLt_list _ _).trans (lexL x y)⟩
instance soL : SoE (rL ρ) := ⟨.inr fun _ _ e => nomatch e⟩
instance orTs : OrE (rTs ρ) := ⟨ltL ρ, fun x y => by show PySem.W.alike (.tuple (x.map s.d)) (.tuple (y.map s.d)) = true; rw [PySem.W.alike]; exact akL x y, fun x e => (nomatch e), fun x y => (PySem.W.dataLt_tuple _ _).trans (lexL x y)⟩
end
section
variable [r : EqE ρ] [s : EqE σ] [t : EqE τ] [u : EqE υ] [w : EqE φ] [z : EqE χ] [r' : OrE ρ] [s' : OrE σ] [t' : OrE τ] [u' : OrE υ] [w' : OrE φ] [z' : OrE χ] [DecidableEq α] [DecidableEq β] [DecidableEq γ] [DecidableEq δ] [DecidableEq ε] [DecidableEq ζ]
theorem lexC {x y : α} {xs ys : List PyData} : PyProof.Rows.lexLt itemOrd (PySem.W.keyToksAll (r.d x :: xs)) (PySem.W.keyToksAll (r.d y :: ys)) = if x = y then PyProof.Rows.lexLt itemOrd (PySem.W.keyToksAll xs) (PySem.W.keyToksAll ys) else r'.lt x y := by
  rw [PySem.W.dataLt_cons (r'.ak x y), eqv_dec, r'.eq]; simp only [decide_eq_true_eq]
theorem lexE {x y : α} : PyProof.Rows.lexLt itemOrd (PySem.W.keyToksAll [r.d x]) (PySem.W.keyToksAll [r.d y]) = r'.lt x y := by
  rw [lexC]
  split
  · rename_i e; subst e; rw [r'.irr]; exact lex_irrefl _
  · rfl
theorem akC {x y : α} {xs ys : List PyData} (h : PySem.W.alikeAll xs ys = true) : PySem.W.alikeAll (r.d x :: xs) (r.d y :: ys) = true := by rw [PySem.W.alikeAll, r'.ak, h]; rfl
theorem ak0 : PySem.W.alikeAll [] [] = true := by rw [PySem.W.alikeAll]
theorem akT {xs ys : List PyData} (h : PySem.W.alikeAll xs ys = true) : PySem.W.alike (.tuple xs) (.tuple ys) = true := by rw [PySem.W.alike]; exact h
instance orT1 : OrE (rT1 ρ) := ⟨fun x y => r'.lt x y, fun x y => akT (akC ak0), fun x e => (nomatch (show PyData.tuple _ = .none from e)), fun x y => by
  show PySem.W.dataLt (.tuple [r.d x]) (.tuple [r.d y]) = _
  rw [PySem.W.dataLt_tuple, lexE]⟩
instance orT2 : OrE (rT2 ρ σ) := ⟨fun x y => if x.1 = y.1 then s'.lt x.2 y.2 else r'.lt x.1 y.1, fun x y => akT (akC (akC ak0)), fun x e => (nomatch (show PyData.tuple _ = .none from e)), fun x y => by
  show PySem.W.dataLt (.tuple [r.d x.1, s.d x.2]) (.tuple [r.d y.1, s.d y.2]) = _
  rw [PySem.W.dataLt_tuple, lexC, lexE]⟩
instance orT3 : OrE (rT3 ρ σ τ) := ⟨fun x y => if x.1 = y.1 then (if x.2.1 = y.2.1 then t'.lt x.2.2 y.2.2 else s'.lt x.2.1 y.2.1) else r'.lt x.1 y.1, fun x y => akT (akC (akC (akC ak0))), fun x e => (nomatch (show PyData.tuple _ = .none from e)), fun x y => by
  show PySem.W.dataLt (.tuple [r.d x.1, s.d x.2.1, t.d x.2.2]) (.tuple [r.d y.1, s.d y.2.1, t.d y.2.2]) = _
  rw [PySem.W.dataLt_tuple, lexC, lexC, lexE]⟩
instance orT4 : OrE (rT4 ρ σ τ υ) := ⟨fun x y => if x.1 = y.1 then (if x.2.1 = y.2.1 then (if x.2.2.1 = y.2.2.1 then u'.lt x.2.2.2 y.2.2.2 else t'.lt x.2.2.1 y.2.2.1) else s'.lt x.2.1 y.2.1) else r'.lt x.1 y.1, fun x y => akT (akC (akC (akC (akC ak0)))), fun x e => (nomatch (show PyData.tuple _ = .none from e)), fun x y => by
  show PySem.W.dataLt (.tuple [r.d x.1, s.d x.2.1, t.d x.2.2.1, u.d x.2.2.2]) (.tuple [r.d y.1, s.d y.2.1, t.d y.2.2.1, u.d y.2.2.2]) = _
  rw [PySem.W.dataLt_tuple, lexC, lexC, lexC, lexE]⟩
instance soT1 : SoE (rT1 ρ) := ⟨.inl fun x => ⟨_, _, rfl⟩⟩
instance soT2 : SoE (rT2 ρ σ) := ⟨.inl fun x => ⟨_, _, rfl⟩⟩
instance soT3 : SoE (rT3 ρ σ τ) := ⟨.inl fun x => ⟨_, _, rfl⟩⟩
instance soT4 : SoE (rT4 ρ σ τ υ) := ⟨.inl fun x => ⟨_, _, rfl⟩⟩
end
end
section
variable {X : Cx}
end
section
variable {α : Type} {X : Cx} {W : WX} {Γ : Ctx} {e a b : Expr} {pos p : Pos} {ρ : α → Pr} [s : EqE ρ] [t : OrE ρ] {ma mb : Mo α} {ml : Mo (List α)}
end
section
variable {X : Cx}
end
section
variable {α : Type} [DecidableEq α] {X : Cx} {W : WX} {Γ : Ctx} {e a b : Expr} {pos p : Pos} {ρ : α → Pr} [s : EqE ρ] [t : OrE ρ] {ma mb : Mo α} {ml : Mo (List α)}
end
end RF
namespace RF
open PySem PySem.Spec PyProof.Rows L2 KO SX
def agp (h : Hp) (p : Pr) : Pr := ⟨fun v F => ∃ f, Same f F ∧ (∀ a vs, f a = some (.lst vs) → h a ≠ none) ∧ p.r v f, fun s ⟨f, a, b, c⟩ => ⟨f, a.trans s, b, c⟩⟩
def rNw {α : Type} (h : Hp) (ρ : α → Pr) (x : α) : Pr := nwp h (ρ x)
def rAny (_ : Unit) : Pr := ⟨fun _ _ => True, fun _ h => h⟩
instance : NL rAny := ⟨fun _ h => h⟩
inductive AgE (h : Hp) : En → En → Prop
  | id (e : En) : AgE h e e
  | un (e : En) : AgE h e .un
  | ag (p : Pr) : AgE h (.fz p) (.fz (agp h p))
  | lk (p : Pr) : AgE h (.fz p) (.lk true h p)
  | re (f : Bool) (p : Pr) (h0 : Hp) : AgE h (.lk f h0 p) (.lk true h p)
def AgC (h : Hp) : Ctx → Ctx → Prop
  | [], [] => True
  | e :: l, e' :: l' => AgE h e e' ∧ AgC h l l'
  | _, _ => False
theorem AgC.len {h : Hp} : ∀ {Γ Γ' : Ctx}, AgC h Γ Γ' → Γ'.length = Γ.length
  | [], [], _ => rfl
  | _ :: _, _ :: _, k => by simp [AgC.len k.2]
  | [], _ :: _, k => k.elim
  | _ :: _, [], k => k.elim
theorem AgC.get {h : Hp} : ∀ {Γ Γ' : Ctx} {i : Nat} {e' : En}, AgC h Γ Γ' → Γ'[i]? = some e' → ∃ e, Γ[i]? = some e ∧ AgE h e e'
  | [], [], _, _, _, q => by simp at q
  | e :: _, _ :: _, 0, _, k, q => by simp at q; subst q; exact ⟨e, rfl, k.1⟩
  | _ :: _, _ :: _, i + 1, _, k, q => by
    obtain ⟨e, h1, h2⟩ := AgC.get (i := i) k.2 (by simpa using q)
    exact ⟨e, by simpa using h1, h2⟩
  | [], _ :: _, _, _, k, _ => k.elim
  | _ :: _, [], _, _, k, _ => k.elim
section
variable {G : Gf} {Γ Γ' : Ctx} {σ : L2.St} {F H : Hp}
end
inductive SvE (h : Hp) : En → En → Prop
  | un (e : En) : SvE h e .un
  | nl {p : Pr} : NLr p → SvE h (.fz p) (.fz p)
  | ag (p : Pr) : SvE h (.fz (agp h p)) (.fz (agp h p))
  | lk {f : Bool} {h0 : Hp} {p : Pr} : NLr p → SvE h (.lk f h0 p) (.lk f h0 p)
  | ow {l : Bool} {a : Addr} {q : Po} : NLP q → SvE h (.ow l a q) (.ow l a q)
def SvC (h : Hp) : Ctx → Ctx → Prop
  | [], [] => True
  | e :: l, e' :: l' => SvE h e e' ∧ SvC h l l'
  | _, _ => False
theorem SvC.len {h : Hp} : ∀ {Γ Γ' : Ctx}, SvC h Γ Γ' → Γ'.length = Γ.length
  | [], [], _ => rfl
  | _ :: _, _ :: _, k => by simp [SvC.len k.2]
  | [], _ :: _, k => k.elim
  | _ :: _, [], k => k.elim
theorem SvC.get {h : Hp} : ∀ {Γ Γ' : Ctx} {i : Nat} {e' : En}, SvC h Γ Γ' → Γ'[i]? = some e' → ∃ e, Γ[i]? = some e ∧ SvE h e e'
  | [], [], _, _, _, q => by simp at q
  | e :: _, _ :: _, 0, _, k, q => by simp at q; subst q; exact ⟨e, rfl, k.1⟩
  | _ :: _, _ :: _, i + 1, _, k, q => by
    obtain ⟨e, h1, h2⟩ := SvC.get (i := i) k.2 (by simpa using q)
    exact ⟨e, by simpa using h1, h2⟩
  | [], _ :: _, _, _, k, _ => k.elim
  | _ :: _, [], _, _, k, _ => k.elim
section
variable {G : Gf} {Γ Γ' : Ctx} {σ : L2.St} {F H h : Hp} {a : Addr} {vs : List V}
end
def NwR (h : Hp) (p' p : Pr) : Prop := ∀ v F, p'.r v F → (nwp h p).r v F
class NwC {α : Type} (h : Hp) (ρ' ρ : α → Pr) : Prop where
  nw : ∀ x, NwR h (ρ' x) (ρ x)
theorem nwr_nl {h : Hp} {p : Pr} (n : NLr p) : NwR h p p := fun v F k => ⟨k, fun a vs _ e => n e k⟩
theorem nwr_self {h : Hp} {p : Pr} : NwR h (nwp h p) p := fun v F k => k
section
variable {α β γ δ ε : Type} {h : Hp}
instance (priority := 90) nwcNL {ρ : α → Pr} [NL ρ] : NwC h ρ ρ := ⟨fun x => nwr_nl (nlr x)⟩
instance nwcNw {ρ : α → Pr} : NwC h (rNw h ρ) ρ := ⟨fun x => nwr_self⟩
instance nwcO {ρ' ρ : α → Pr} [n : NwC h ρ' ρ] : NwC h (rO ρ') (rO ρ) := ⟨fun x v F k => by
  cases x with
  | none => exact ⟨k, fun _ _ _ _ => k⟩
  | some y => exact n.nw y v F k⟩
def NwL (h : Hp) : List Pr → List Pr → Prop
  | [], [] => True
  | p' :: ps', p :: ps => NwR h p' p ∧ NwL h ps' ps
  | _, _ => False
theorem NwL.ps {F : Hp} : ∀ {ps' ps : List Pr} {vs : List V}, NwL h ps' ps → Ps F ps' vs → Ps F ps vs ∧ ∀ a us, h a ≠ none → F a = some (.lst us) → Ps (del F a) ps vs
  | [], [], [], _, _ => ⟨trivial, fun _ _ _ _ => trivial⟩
  | p' :: ps', p :: ps, v :: vs, n, k => by
    obtain ⟨a1, a2⟩ := n.1 v F k.1
    obtain ⟨b1, b2⟩ := NwL.ps n.2 k.2
    exact ⟨⟨a1, b1⟩, fun a us e1 e2 => ⟨a2 a us e1 e2, b2 a us e1 e2⟩⟩
  | [], _ :: _, _, n, _ => n.elim
  | _ :: _, [], _, n, _ => n.elim
  | [], [], _ :: _, _, k => k.elim
  | _ :: _, _ :: _, [], _, k => k.elim
theorem NwL.map {ρ' ρ : α → Pr} [n : NwC h ρ' ρ] : ∀ xs : List α, NwL h (xs.map ρ') (xs.map ρ)
  | [] => trivial
  | x :: xs => ⟨n.nw x, NwL.map xs⟩
theorem nw_tu {ps' ps : List Pr} (n : NwL h ps' ps) : NwR h (rTu ps') (rTu ps) := fun v F k => by
  obtain ⟨t, ws, rfl, h1, h2⟩ := k
  obtain ⟨a1, a2⟩ := n.ps h2
  refine ⟨⟨t, ws, rfl, h1, a1⟩, fun a us e1 e2 => ⟨t, ws, rfl, ?_, a2 a us e1 e2⟩⟩
  have ht : t ≠ a := by
    rintro rfl
    rcases h1 with h1 | ⟨o, h1⟩ <;> (rw [e2] at h1; cases h1)
  exact h1.imp (fun e => del_ok e ht) (fun ⟨o, e⟩ => ⟨o, del_ok e ht⟩)
instance nwcTs {ρ' ρ : α → Pr} [NwC h ρ' ρ] : NwC h (rTs ρ') (rTs ρ) := ⟨fun xs => nw_tu (NwL.map xs)⟩
instance nwcT2 {a' a : α → Pr} {b' b : β → Pr} [m : NwC h a' a] [n : NwC h b' b] : NwC h (rT2 a' b') (rT2 a b) := ⟨fun x => nw_tu ⟨m.nw _, n.nw _, trivial⟩⟩
instance nwcT3 {a' a : α → Pr} {b' b : β → Pr} {c' c : γ → Pr} [m : NwC h a' a] [n : NwC h b' b] [k : NwC h c' c] : NwC h (rT3 a' b' c') (rT3 a b c) := ⟨fun x => nw_tu ⟨m.nw _, n.nw _, k.nw _, trivial⟩⟩
instance nwcT4 {a' a : α → Pr} {b' b : β → Pr} {c' c : γ → Pr} {d' d : δ → Pr} [m : NwC h a' a] [n : NwC h b' b] [k : NwC h c' c] [l : NwC h d' d] : NwC h (rT4 a' b' c' d') (rT4 a b c d) := ⟨fun x => nw_tu ⟨m.nw _, n.nw _, k.nw _, l.nw _, trivial⟩⟩
end
section
variable {α β γ δ : Type} {X : Cx} {W : WX} {Γe Γ Γ' : Ctx} {Γa : Hp → Ctx} {lv : Bool} {e b : Expr} {st : Stmt} {rest : List Stmt} {Z : γ → Fin} {pos : Pos} {t : TE} {h : Hp} {p0 : Pr} {j : Nat} {f : Bool}
inductive UaE : En → En → Prop
  | id (e : En) : UaE e e
  | un (e : En) : UaE e .un
  | ag (h : Hp) (p : Pr) : UaE (.fz (agp h p)) (.fz p)
  | nw (h : Hp) (p : Pr) : UaE (.fz (nwp h p)) (.fz p)
  | lk (f : Bool) (h : Hp) (p : Pr) : UaE (.lk f h p) (.fz p)
  | lf (f : Bool) (h : Hp) (p : Pr) : UaE (.lk f h p) (.lk false h p)
  | la (f : Bool) (h h' : Hp) (p : Pr) : UaE (.lk f h (agp h' p)) (.fz p)
def UaC : Ctx → Ctx → Prop
  | [], [] => True
  | e :: l, e' :: l' => UaE e e' ∧ UaC l l'
  | _, _ => False
theorem UaC.len : ∀ {Γ Γ' : Ctx}, UaC Γ Γ' → Γ'.length = Γ.length
  | [], [], _ => rfl
  | _ :: _, _ :: _, k => by simp [UaC.len k.2]
  | [], _ :: _, k => k.elim
  | _ :: _, [], k => k.elim
theorem UaC.get : ∀ {Γ Γ' : Ctx} {i : Nat} {e' : En}, UaC Γ Γ' → Γ'[i]? = some e' → ∃ e, Γ[i]? = some e ∧ UaE e e'
  | [], [], _, _, _, q => by simp at q
  | e :: _, _ :: _, 0, _, k, q => by simp at q; subst q; exact ⟨e, rfl, k.1⟩
  | _ :: _, _ :: _, i + 1, _, k, q => by
    obtain ⟨e, h1, h2⟩ := UaC.get (i := i) k.2 (by simpa using q)
    exact ⟨e, by simpa using h1, h2⟩
  | [], _ :: _, _, _, k, _ => k.elim
  | _ :: _, [], _, _, k, _ => k.elim
end
end RF
namespace RF
open PySem PySem.Spec PyProof.Rows L2 KO SX
inductive RpE (h : Hp) (b : Addr) (vs ws : List V) : En → En → Prop
  | un (e : En) : RpE h b vs ws e .un
  | cf {p p' : Pr} : (∀ v F, F b = some (.lst vs) → p.r v F → p'.r v (upd F b (.lst ws))) → RpE h b vs ws (.fz p) (.fz p')
  | lk {f : Bool} {h0 : Hp} {p : Pr} : NLr p → RpE h b vs ws (.lk f h0 p) (.lk f h0 p)
  | ow {l : Bool} {a : Addr} {q q' : Po} : (∀ u F, F b = some (.lst vs) → q.r u F → q'.r u (upd F b (.lst ws))) → RpE h b vs ws (.ow l a q) (.ow l a q')
def RpC (h : Hp) (b : Addr) (vs ws : List V) : Ctx → Ctx → Prop
  | [], [] => True
  | e :: l, e' :: l' => RpE h b vs ws e e' ∧ RpC h b vs ws l l'
  | _, _ => False
theorem RpC.len {h : Hp} {b : Addr} {vs ws : List V} : ∀ {Γ Γ' : Ctx}, RpC h b vs ws Γ Γ' → Γ'.length = Γ.length
  | [], [], _ => rfl
  | _ :: _, _ :: _, k => by simp [RpC.len k.2]
  | [], _ :: _, k => k.elim
  | _ :: _, [], k => k.elim
theorem RpC.get {h : Hp} {b : Addr} {vs ws : List V} : ∀ {Γ Γ' : Ctx} {i : Nat} {e' : En}, RpC h b vs ws Γ Γ' → Γ'[i]? = some e' → ∃ e, Γ[i]? = some e ∧ RpE h b vs ws e e'
  | [], [], _, _, _, q => by simp at q
  | e :: _, _ :: _, 0, _, k, q => by simp at q; subst q; exact ⟨e, rfl, k.1⟩
  | _ :: _, _ :: _, i + 1, _, k, q => by
    obtain ⟨e, h1, h2⟩ := RpC.get (i := i) k.2 (by simpa using q)
    exact ⟨e, by simpa using h1, h2⟩
  | [], _ :: _, _, _, k, _ => k.elim
  | _ :: _, [], _, _, k, _ => k.elim
section
variable {G : Gf} {Γ Γ' : Ctx} {σ : L2.St} {F H h : Hp} {b : Addr} {vs ws : List V} {j : Nat} {p0 : Pr}
end
section
variable {α β γ δ : Type} {X : Cx} {W : WX} {Γe Γ Γ' : Ctx} {lv : Bool} {e e0 : Expr} {st : Stmt} {rest : List Stmt} {Z : γ → Fin} {pos : Pos} {h : Hp} {p0 : Pr} {i j : Nat} {N : Nat} {m : Mo γ} {me : Mo α} {ρ : α → Pr}
end
end RF
namespace RF
open PySem PySem.Spec PyProof.Rows L2 KO SX
inductive RlE : En → En → En → Prop
  | id (e e' : En) : RlE e e' e'
  | up {f : Bool} {h : Hp} {p p' : Pr} : RlE (.lk true h p) (.lk f h p') (.lk true h p')
def RlC : Ctx → Ctx → Ctx → Prop
  | [], [], [] => True
  | e :: l, e' :: l', e2 :: l2 => RlE e e' e2 ∧ RlC l l' l2
  | _, _, _ => False
theorem RlC.len : ∀ {A B C : Ctx}, RlC A B C → C.length = B.length
  | [], [], [], _ => rfl
  | _ :: _, _ :: _, _ :: _, k => by simp [RlC.len k.2]
  | [], _ :: _, _, k => k.elim
  | [], [], _ :: _, k => k.elim
  | _ :: _, [], _, k => k.elim
  | _ :: _, _ :: _, [], k => k.elim
theorem RlC.get : ∀ {A B C : Ctx} {i : Nat} {e : En}, RlC A B C → C[i]? = some e → ∃ a b, A[i]? = some a ∧ B[i]? = some b ∧ RlE a b e
  | [], [], [], _, _, _, q => by simp at q
  | a :: _, b :: _, _ :: _, 0, _, k, q => by simp at q; subst q; exact ⟨a, b, rfl, rfl, k.1⟩
  | _ :: _, _ :: _, _ :: _, i + 1, _, k, q => by
    obtain ⟨a, b, h1, h2, h3⟩ := RlC.get (i := i) k.2 (by simpa using q)
    exact ⟨a, b, by simpa using h1, by simpa using h2, h3⟩
  | [], _ :: _, _, _, _, k, _ => k.elim
  | [], [], _ :: _, _, _, k, _ => k.elim
  | _ :: _, [], _, _, _, k, _ => k.elim
  | _ :: _, _ :: _, [], _, _, k, _ => k.elim
section
variable {α β γ δ : Type} {X : Cx} {W : WX} {Γe Γ Γ' : Ctx} {lv : Bool} {e tg iter : Expr} {pos : Pos}
variable {S : Type} {Z : γ → Fin} {st : Stmt} {rest body : List Stmt} {wi : TI} {g : TG} {mi : Mo (List β)} {ρi : β → Pr}
end
end RF
namespace PySem
open Sem (wp)
section
variable {prog : Program} {w : World} {A : Around} {E : Value → Shared → Prop} {s : Shared} {z TI TO T i1 i2 : Addr} {fp1 fp2 : List Addr} {n1 n2 i : Nat} {P1 P2 : Nat → Value → Prop} {St1 St2 : Nat → Heap → Prop} {f : Bool} {oT : Obj}
end
end PySem
namespace KO
open PySem PySem.Spec PyProof.Rows L2
section
variable {X : Cx} {pins : List (Addr × Obj)} {σ : L2.St}
end
end KO
namespace RF
open PySem PySem.Spec PyProof.Rows L2 KO SX
section
variable {α β γ δ : Type}
variable {X : Cx} {W : WX} {Γe Γx Γ Γ' : Ctx} {lv : Bool} {e ee o a b c : Expr} {es : List Expr} {st : Stmt} {rest body suite : List Stmt} {Z : γ → Fin} {pos p2 p3 : Pos} {t : TE} {ρ : α → Pr}
section
variable {md : Mo (List (Int × α))} {mk : Mo Int}
end
end
end RF
namespace DD
open PySem PySem.Spec PyProof.Rows L2
section
variable {P : Program} {w : World} {A : Around} {E : Value → Shared → Prop} {s : Shared}
end
section
variable {X : Cx}
def rSetL (K : PySem.W.Frag) (w : World) : List V → Hp → VK → Prop := fun xs H Q => ∃ (l : Addr) (ns : List Int), xs = [V.ref l] ∧ SqL K H l (ns.map V.int) ∧ ns.length ≤ 1000 ∧
  ∀ p c, H p = none → c ≤ ns.length → Q (.ref p) (upd H p (SetO w p (fun j => decide (j ∈ ns)) c))
end
end DD

namespace RF
open PySem PySem.Spec PyProof.Rows L2 KO SX
section
variable {X : Cx} {W : WX} {Γ : Ctx} {a : Expr} {mi : Mo (List Int)}
end
end RF
namespace RF
open PySem PySem.Spec PyProof.Rows L2 KO SX
section
variable {X : Cx} {k : Nat} {x : Str} {C fI : Addr} {fd : FuncData} {f c : Str} {e : Expr} {te : TE} {p pos : Pos} {ps : List Str} {W : WX} {Γ : Ctx} {α : Type}
end
end RF
namespace RF
open PySem PySem.Spec PyProof.Rows L2 KO SX
section
variable {X : Cx} {W : WX} {Γ : Ctx} {a : Expr} {ma : Mo Int} {p p2 pos : Pos}
instance encT0 : Enc rT0 := ⟨1, fun _ => .tuple [], fun _ => True, fun {x v F} _ h => dt_tu (n := 0) (ps := []) rfl (by decide) h (fun i p d e => by simp at e)⟩
end
end RF
namespace RF
open PySem PySem.Spec PyProof.Rows L2 KO SX
section
variable {es : List Expr} {p : Pos} {env : Env}
theorem se_BinOp {l r : Expr} {op : Operator} : starEach (.BinOp l op r p :: es) env = (false, eval (.BinOp l op r p) env) :: starEach es env := by rfl
theorem se_Subscript {v s : Expr} : starEach (.Subscript v s p :: es) env = (false, eval (.Subscript v s p) env) :: starEach es env := by rfl
theorem se_Tuple {xs : List Expr} {k : Nat} : starEach (.Tuple xs k p :: es) env = (false, eval (.Tuple xs k p) env) :: starEach es env := by rfl
end
end RF
namespace RF
open PySem PySem.Spec PyProof.Rows L2 KO SX
theorem dT2_ex {α β : Type} {ρ : α → Pr} {ρ2 : β → Pr} [r : Dec ρ] [s : Dec ρ2] : ∀ {ds : List PyData} {y : α × β}, dT2 ρ ρ2 ds = some y → ∃ da db, ds = [da, db] ∧ r.d da = some y.1 ∧ s.d db = some y.2
  | [a, b], y, e => by
    obtain ⟨y1, e1, e⟩ := some_bind e
    obtain ⟨y2, e2, e⟩ := some_bind e
    obtain rfl := Option.some.inj e
    exact ⟨a, b, rfl, e1, e2⟩
  | [], _, e => by cases e
  | [_], _, e => by cases e
  | _ :: _ :: _ :: _, _, e => by cases e
theorem len2 {α : Type} : ∀ {xs : List α}, xs.length = 2 → ∃ a b, xs = [a, b]
  | [a, b], _ => ⟨a, b, rfl⟩
  | [], h => by cases h
  | [_], h => by cases h
  | _ :: _ :: _ :: _, h => by simp at h
def dP2 {α β : Type} (ρ : α → Pr) (ρ2 : β → Pr) [r : Dec ρ] [s : Dec ρ2] : PyData → Option (α × β)
  | .tuple ds => dT2 ρ ρ2 ds
  | _ => none
theorem dP2_ok {α β : Type} {ρ : α → Pr} {ρ2 : β → Pr} [r : Dec ρ] [s : Dec ρ2] {x : PyData} {y : α × β} {v : V} {F : Hp} {n : Nat} (hn : n ≤ 8) (e : dP2 ρ ρ2 x = some y) (h : Dt n F v x) : (rT2 ρ ρ2 y).r v F := by
  obtain ⟨k, rfl⟩ := dt_pos h
  cases x with
  | tuple ds =>
    obtain ⟨da, db, e0, e1, e2⟩ := dT2_ex e
    obtain ⟨a, xs, rfl, h1, h2, _, h3⟩ := h
    subst e0
    obtain ⟨v1, v2, rfl⟩ := len2 h2
    have g1 := r.is (show k ≤ 8 by omega) e1 (h3 0 v1 da rfl rfl)
    have g2 := s.is (show k ≤ 8 by omega) e2 (h3 1 v2 db rfl rfl)
    exact ⟨a, [v1, v2], rfl, h1, g1, g2, trivial⟩
  | _ => cases e
instance decT2 {α β : Type} {ρ : α → Pr} {ρ2 : β → Pr} [r : Dec ρ] [s : Dec ρ2] : Dec (rT2 ρ ρ2) := ⟨dP2 ρ ρ2, dP2_ok⟩
section
variable {α β γ δ : Type} {X : Cx} {W : WX} {Γe Γ : Ctx} {e b : Expr} {pos : Pos} {h : Hp} {lv f : Bool} {p0 : Pr} {j : Nat} {rest : List Stmt} {Z : γ → Fin}
end
end RF
namespace RF
open PySem PySem.Spec PyProof.Rows L2 KO SX
section
variable {α β γ : Type} {X : Cx} {W : WX} {Γ : Ctx} {pos : Pos} {C : Addr} {oe : Obj} {d : Option Addr} {pn : List (Addr × Obj)} {ex : Ex} {n f : Str} {i : Nat} {p : Pos}
end
end RF
namespace RF
open PySem PySem.Spec PyProof.Rows L2 KO SX
section
variable {α β γ δ : Type}
def KsS (F : Hp) (ρ : α → Pr) : List (Str × α) → List (Key × V) → Prop
  | [], [] => True
  | (k, x) :: r, (k', v) :: r' => k' = .inr k ∧ (ρ x).r v F ∧ KsS F ρ r r'
  | _, _ => False
def dgetS (kvs : List (Str × α)) (k : Str) : Option α := (kvs.find? fun p => decide (p.1 = k)).map (·.2)
def dputS (kvs : List (Str × α)) (k : Str) (x : α) : List (Str × α) := if (kvs.any fun p => decide (p.1 = k)) = true then kvs.map (fun p => if p.1 = k then (p.1, x) else p) else kvs ++ [(k, x)]
section
variable {F F' : Hp} {ρ : α → Pr}
theorem KsS.mono (s : Same F F') : ∀ {kvs : List (Str × α)} {gs : List (Key × V)}, KsS F ρ kvs gs → KsS F' ρ kvs gs
  | [], [], _ => trivial
  | (_, x) :: _, (_, _) :: _, h => ⟨h.1, (ρ x).mono s h.2.1, KsS.mono s h.2.2⟩
  | [], _ :: _, h => h.elim
  | _ :: _, [], h => h.elim
theorem KsS.len : ∀ {kvs : List (Str × α)} {gs : List (Key × V)}, KsS F ρ kvs gs → gs.length = kvs.length
  | [], [], _ => rfl
  | (_, _) :: _, (_, _) :: _, h => by simp [KsS.len h.2.2]
  | [], _ :: _, h => h.elim
  | _ :: _, [], h => h.elim
theorem keydecS (a b : Str) : (decide ((Sum.inr a : Key) = Sum.inr b)) = decide (a = b) := by
  by_cases h : a = b
  · subst h; simp
  · have : ¬ (Sum.inr a : Key) = Sum.inr b := fun q => h (Sum.inr.inj q)
    simp [h, this]
theorem KsS.get {k : Str} : ∀ {kvs : List (Str × α)} {gs : List (Key × V)}, KsS F ρ kvs gs → (∃ x v, dgetS kvs k = some x ∧ valV gs (Sum.inr k) = some v ∧ (ρ x).r v F) ∨ (dgetS kvs k = none ∧ valV gs (Sum.inr k) = none)
  | [], [], _ => .inr ⟨rfl, rfl⟩
  | (k1, x) :: r, (k2, v) :: r', h => by
    obtain ⟨rfl, h1, h2⟩ := h
    unfold dgetS valV
    rw [List.find?_cons, List.find?_cons, keydecS]
    by_cases e : k1 = k
    · simp only [e, decide_true]
      exact .inl ⟨x, v, rfl, rfl, h1⟩
    · simp only [e, decide_false]
      exact KsS.get h2
  | [], _ :: _, h => h.elim
  | _ :: _, [], h => h.elim
theorem KsS.any {k : Str} : ∀ {kvs : List (Str × α)} {gs : List (Key × V)}, KsS F ρ kvs gs → (gs.any fun kv => decide (kv.1 = (Sum.inr k : Key))) = kvs.any fun p => decide (p.1 = k)
  | [], [], _ => rfl
  | (k1, x) :: r, (k2, v) :: r', h => by
    obtain ⟨rfl, h1, h2⟩ := h
    rw [List.any_cons, List.any_cons, KsS.any h2, keydecS]
  | [], _ :: _, h => h.elim
  | _ :: _, [], h => h.elim
theorem KsS.app : ∀ {kvs kvs2 : List (Str × α)} {gs gs2 : List (Key × V)}, KsS F ρ kvs gs → KsS F ρ kvs2 gs2 → KsS F ρ (kvs ++ kvs2) (gs ++ gs2)
  | [], _, [], _, _, h => h
  | (_, _) :: _, _, (_, _) :: _, _, h, k => ⟨h.1, h.2.1, KsS.app h.2.2 k⟩
  | [], _, _ :: _, _, h, _ => h.elim
  | _ :: _, _, [], _, h, _ => h.elim
theorem KsS.rep {k : Str} {x : α} {v : V} (hv : (ρ x).r v F) : ∀ {kvs : List (Str × α)} {gs : List (Key × V)}, KsS F ρ kvs gs → KsS F ρ (kvs.map fun p => if p.1 = k then (p.1, x) else p) (gs.map fun kv => if kv.1 = (Sum.inr k : Key) then (kv.1, v) else kv)
  | [], [], _ => trivial
  | (k1, y) :: r, (k2, u) :: r', h => by
    obtain ⟨rfl, h1, h2⟩ := h
    have ih := KsS.rep (k := k) hv h2
    by_cases e : k1 = k
    · simp only [List.map_cons, e, if_true]
      exact ⟨rfl, hv, ih⟩
    · have e2 : ¬ (Sum.inr k1 : Key) = Sum.inr k := fun q => e (Sum.inr.inj q)
      simp only [List.map_cons, e, e2, if_false]
      exact ⟨rfl, h1, ih⟩
  | [], _ :: _, h => h.elim
  | _ :: _, [], h => h.elim
theorem KsS.put {k : Str} {x : α} {v : V} {kvs : List (Str × α)} {gs : List (Key × V)} (h : KsS F ρ kvs gs) (hv : (ρ x).r v F) : KsS F ρ (dputS kvs k x) (putK gs (Sum.inr k) v) := by
  unfold dputS putK
  rw [h.any]
  split
  · exact h.rep hv
  · exact h.app ⟨rfl, hv, trivial⟩
end
def oDkS (ρ : α → Pr) (kvs : List (Str × α)) : Po := ⟨fun o F => ∃ gs, o = .dK gs ∧ KsS F ρ kvs gs, fun s ⟨gs, e, h⟩ => ⟨gs, e, h.mono s⟩⟩
variable {X : Cx} {W : WX} {Γe Γx Γ Γ' : Ctx} {lv : Bool} {e ee o a b c : Expr} {es : List Expr} {st : Stmt} {rest body suite : List Stmt} {Z : γ → Fin} {pos p2 p3 : Pos} {t : TE} {ρ : α → Pr}
section
variable {i : Nat} {l : Bool} {ad : Addr} {kvs : List (Str × α)} {x : Str} {mk : Mo Str}
theorem rb_dputS {me : Mo α} {mr : α → Str → Mo γ} (hs : PS X st (sDPut (tVar i) (tE X b) (tE X e))) (hi : Γ[i]? = some (.ow l ad (oDkS ρ kvs))) (he : RE X W Γ e me (.fz ρ)) (hk : RE X W Γ b mk (.fz rS)) (hie : Γe[i]? = some .un) (hr : ∀ x k, RB X W Γe lv (Γ.set i (.ow l ad (oDkS ρ (dputS kvs k x)))) rest (mr x k) Z) :
    RB X W Γe lv Γ (st :: rest) (me >>= fun x => mk >>= fun k => Mo.rq (kvs.length < sizeLine) k >>= fun k => mr x k) Z := fun le G σ F H D nx' hn o q =>
  tSs_cons hs (by
    refine he G σ F H _ o (me.mono (fun y hx v F1 H1 o1 g1 z1 => ?_) (fun _ => XQ.eq le) q)
    refine ⟨.ref ad, (o1.en i _ hi).1, ?_⟩
    refine hk G σ F1 H1 _ o1 (mk.mono (fun k hx w F2 H2 o2 g2 z2 => ?_) (fun _ z => XQ.eq le (XQ.step g1.fs z)) hx)
    obtain rfl : w = .str k := z2
    obtain ⟨_, _, _, u, hu, gs, rfl, hg⟩ := o2.en i _ hi
    refine ⟨ad, _, rfl, DPut.k (k := Sum.inr k) hu (by rw [hg.len]; exact hx.1), ?_⟩
    exact hr y k (le.set hie) G σ F2 _ D nx' hn (o2.put (q := oDkS ρ (dputS kvs k y)) hi ⟨_, rfl, hg.put ((ρ y).mono g2.fs z1)⟩) (run_fin (g1.fs.trans g2.fs) hx.2))
end
def rDkS (ρ : α → Pr) (kvs : List (Str × α)) : Pr := ⟨fun v F => ∃ a gs, v = .ref a ∧ F a = some (.dK gs) ∧ KsS F ρ kvs gs, fun s ⟨a, gs, h1, h2, h3⟩ => ⟨a, gs, h1, s _ _ h2, h3.mono s⟩⟩
theorem frz_DkS (kvs : List (Str × α)) (a : Addr) (u : HO) (F : Hp) (h : F a = some u) (k : (oDkS ρ kvs).r u F) : (rDkS ρ kvs).r (.ref a) F := by
  obtain ⟨gs, rfl, k⟩ := k
  exact ⟨a, gs, rfl, h, k⟩
def RDcS (X : Cx) (W : WX) (Γ : Ctx) (e : Expr) (m : Mo (List (Str × α))) (ρ : α → Pr) : Prop :=
  ∀ G σ F H Q, Ok G Γ σ F H → m.run (fun kvs => ∀ a F' H', Ok G Γ σ F' H' → Go (owns Γ) F H F' H' → (∀ F2 H2, Ok G Γ σ F2 H2 → Go (owns Γ) F' H' F2 H2 → ∃ gs, H2 a = some (.dK gs) ∧ KsS F2 ρ kvs gs) → Q (.ref a) H') (EQ X W G Γ σ F H) → tE X e σ H Q
theorem rdc_FS {m : Mo (List (Str × α))} (h : RE X W Γ e m (.fz (rDkS ρ))) : RDcS X W Γ e m ρ := fun G σ F H Q o q =>
  h G σ F H Q o (m.mono (fun kvs hx v F' H' o' g' z => by
    obtain ⟨a, gs, rfl, h1, h2⟩ := z
    exact hx a F' H' o' g' fun F2 H2 o2 g2 => ⟨gs, o2.le _ _ (g2.fs _ _ h1), h2.mono g2.fs⟩) (fun _ z => z) q)
section
variable {md : Mo (List (Str × α))} {mk : Mo Str}
theorem re_dgetm2S {apos : Pos} {mx : Mo α} (hd : RDcS X W Γ a md ρ) (hk : RE X W Γ b mk (.fz rS)) (hx : RE X W Γ c mx (.fz ρ)) (hu : X.A.units + 1 < cLine) (m : M2 X a "get" apos b c pos) : RE X W Γ (.Call (.Attribute a "get" apos) [b, c] [] pos) (md >>= fun d => mk >>= fun k => mx >>= fun x => pure ((dgetS d k).getD x)) (.fz ρ) :=
  re_of (pe_dget2 hu peE peE peE m) fun G σ F H Q o q => hd G σ F H _ o (md.mono (fun d hq ad F' H' o' g' stn => by
    obtain ⟨gs0, h0, _⟩ := stn F' H' o' (Go.refl o'.le)
    refine ⟨ad, rfl, .inl ⟨gs0, .inl h0⟩, ?_⟩
    refine hk G σ F' H' _ o' (mk.mono (fun k hq v F2 H2 o2 g2 z => ?_) (fun _ z => EQ.step g' z) hq)
    obtain rfl : v = .str k := z
    have g12 := g'.trans g2 owns_tr
    refine hx G σ F2 H2 _ o2 (mx.mono (fun x hq w F3 H3 o3 g3 z3 => ?_) (fun _ z => EQ.step g12 z) hq)
    obtain ⟨gs, hu2, hg⟩ := stn F3 H3 o3 (g2.trans g3 owns_tr)
    refine ⟨_, DGet.k (k := Sum.inr k) hu2, hq _ F3 H3 o3 (g12.trans g3 owns_tr) ?_⟩
    show (ρ ((dgetS d k).getD x)).r _ F3
    rcases hg.get (k := k) with ⟨y', v, h1, h2, h3⟩ | ⟨h1, h2⟩
    · rw [h1, h2]; exact h3
    · rw [h1, h2]; exact z3) (fun _ z => z) q)
end
theorem re_dnewS : RE X W Γ (.Dict [] [] pos) (pure ([] : List (Str × α))) (.ow (oDkS ρ)) := re_of pe_dnewK fun G σ F H Q o q d hd => NQ.own q o (Go.refl o.le) hd ⟨[], rfl, trivial⟩
end
end RF
namespace RF
open PySem PySem.Spec PyProof.Rows L2 KO SX
section
def dQ3 {α β γ : Type} (ρ : α → Pr) (σ : β → Pr) (τ : γ → Pr) [s0 : Dec ρ] [s1 : Dec σ] [s2 : Dec τ] : PyData → Option (α × β × γ)
  | .tuple [x0, x1, x2] => do let y0 ← s0.d x0; let y1 ← s1.d x1; let y2 ← s2.d x2; pure (y0, y1, y2)
  | _ => none
theorem len_3 {α : Type} : ∀ {xs : List α}, xs.length = 3 → ∃ x0 x1 x2, xs = [x0, x1, x2]
  | [x0, x1, x2], _ => ⟨x0, x1, x2, rfl⟩
  | [], h => by cases h
  | [_], h => by cases h
  | [_, _], h => by cases h
  | _ :: _ :: _ :: _ :: _, h => by simp at h
theorem dQ3_ok {α β γ : Type} {ρ : α → Pr} {σ : β → Pr} {τ : γ → Pr} [s0 : Dec ρ] [s1 : Dec σ] [s2 : Dec τ] {x : PyData} {y : α × β × γ} {v : V} {F : Hp} {n : Nat} (hn : n ≤ 8) (e : dQ3 ρ σ τ x = some y) (h : Dt n F v x) : (rT3 ρ σ τ y).r v F := by
  obtain ⟨k, rfl⟩ := dt_pos h
  cases x with
  | tuple ds =>
    by_cases hl : ds.length = 3
    · obtain ⟨x0, x1, x2, rfl⟩ := len_3 hl
      obtain ⟨y0, e0, e⟩ := some_bind e
      obtain ⟨y1, e1, e⟩ := some_bind e
      obtain ⟨y2, e2, e⟩ := some_bind e
      obtain rfl := Option.some.inj e
      obtain ⟨a, us, rfl, h1, h2, _, h3⟩ := h
      obtain ⟨v0, v1, v2, rfl⟩ := len_3 h2
      have g0 := s0.is (show k ≤ 8 by omega) e0 (h3 0 v0 x0 rfl rfl)
      have g1 := s1.is (show k ≤ 8 by omega) e1 (h3 1 v1 x1 rfl rfl)
      have g2 := s2.is (show k ≤ 8 by omega) e2 (h3 2 v2 x2 rfl rfl)
      exact ⟨a, [v0, v1, v2], rfl, h1, g0, g1, g2, trivial⟩
    · exfalso
      match ds, hl, e with
      | [x0, x1, x2], hl, _ => exact hl rfl
      | [], _, e => cases e
      | [_], _, e => cases e
      | [_, _], _, e => cases e
      | _ :: _ :: _ :: _ :: _, _, e => cases e
  | _ => cases e
instance decT3 {α β γ : Type} {ρ : α → Pr} {σ : β → Pr} {τ : γ → Pr} [s0 : Dec ρ] [s1 : Dec σ] [s2 : Dec τ] : Dec (rT3 ρ σ τ) := ⟨dQ3 ρ σ τ, dQ3_ok⟩
def dQ4 {α β γ δ : Type} (ρ : α → Pr) (σ : β → Pr) (τ : γ → Pr) (υ : δ → Pr) [s0 : Dec ρ] [s1 : Dec σ] [s2 : Dec τ] [s3 : Dec υ] : PyData → Option (α × β × γ × δ)
  | .tuple [x0, x1, x2, x3] => do let y0 ← s0.d x0; let y1 ← s1.d x1; let y2 ← s2.d x2; let y3 ← s3.d x3; pure (y0, y1, y2, y3)
  | _ => none
theorem len_4 {α : Type} : ∀ {xs : List α}, xs.length = 4 → ∃ x0 x1 x2 x3, xs = [x0, x1, x2, x3]
  | [x0, x1, x2, x3], _ => ⟨x0, x1, x2, x3, rfl⟩
  | [], h => by cases h
  | [_], h => by cases h
  | [_, _], h => by cases h
  | [_, _, _], h => by cases h
  | _ :: _ :: _ :: _ :: _ :: _, h => by simp at h
theorem dQ4_ok {α β γ δ : Type} {ρ : α → Pr} {σ : β → Pr} {τ : γ → Pr} {υ : δ → Pr} [s0 : Dec ρ] [s1 : Dec σ] [s2 : Dec τ] [s3 : Dec υ] {x : PyData} {y : α × β × γ × δ} {v : V} {F : Hp} {n : Nat} (hn : n ≤ 8) (e : dQ4 ρ σ τ υ x = some y) (h : Dt n F v x) : (rT4 ρ σ τ υ y).r v F := by
  obtain ⟨k, rfl⟩ := dt_pos h
  cases x with
  | tuple ds =>
    by_cases hl : ds.length = 4
    · obtain ⟨x0, x1, x2, x3, rfl⟩ := len_4 hl
      obtain ⟨y0, e0, e⟩ := some_bind e
      obtain ⟨y1, e1, e⟩ := some_bind e
      obtain ⟨y2, e2, e⟩ := some_bind e
      obtain ⟨y3, e3, e⟩ := some_bind e
      obtain rfl := Option.some.inj e
      obtain ⟨a, us, rfl, h1, h2, _, h3⟩ := h
      obtain ⟨v0, v1, v2, v3, rfl⟩ := len_4 h2
      have g0 := s0.is (show k ≤ 8 by omega) e0 (h3 0 v0 x0 rfl rfl)
      have g1 := s1.is (show k ≤ 8 by omega) e1 (h3 1 v1 x1 rfl rfl)
      have g2 := s2.is (show k ≤ 8 by omega) e2 (h3 2 v2 x2 rfl rfl)
      have g3 := s3.is (show k ≤ 8 by omega) e3 (h3 3 v3 x3 rfl rfl)
      exact ⟨a, [v0, v1, v2, v3], rfl, h1, g0, g1, g2, g3, trivial⟩
    · exfalso
      match ds, hl, e with
      | [x0, x1, x2, x3], hl, _ => exact hl rfl
      | [], _, e => cases e
      | [_], _, e => cases e
      | [_, _], _, e => cases e
      | [_, _, _], _, e => cases e
      | _ :: _ :: _ :: _ :: _ :: _, _, e => cases e
  | _ => cases e
instance decT4 {α β γ δ : Type} {ρ : α → Pr} {σ : β → Pr} {τ : γ → Pr} {υ : δ → Pr} [s0 : Dec ρ] [s1 : Dec σ] [s2 : Dec τ] [s3 : Dec υ] : Dec (rT4 ρ σ τ υ) := ⟨dQ4 ρ σ τ υ, dQ4_ok⟩
def dQ5 {α β γ δ ε : Type} (ρ : α → Pr) (σ : β → Pr) (τ : γ → Pr) (υ : δ → Pr) (φ : ε → Pr) [s0 : Dec ρ] [s1 : Dec σ] [s2 : Dec τ] [s3 : Dec υ] [s4 : Dec φ] : PyData → Option (α × β × γ × δ × ε)
  | .tuple [x0, x1, x2, x3, x4] => do let y0 ← s0.d x0; let y1 ← s1.d x1; let y2 ← s2.d x2; let y3 ← s3.d x3; let y4 ← s4.d x4; pure (y0, y1, y2, y3, y4)
  | _ => none
theorem len_5 {α : Type} : ∀ {xs : List α}, xs.length = 5 → ∃ x0 x1 x2 x3 x4, xs = [x0, x1, x2, x3, x4]
  | [x0, x1, x2, x3, x4], _ => ⟨x0, x1, x2, x3, x4, rfl⟩
  | [], h => by cases h
  | [_], h => by cases h
  | [_, _], h => by cases h
  | [_, _, _], h => by cases h
  | [_, _, _, _], h => by cases h
  | _ :: _ :: _ :: _ :: _ :: _ :: _, h => by simp at h
theorem dQ5_ok {α β γ δ ε : Type} {ρ : α → Pr} {σ : β → Pr} {τ : γ → Pr} {υ : δ → Pr} {φ : ε → Pr} [s0 : Dec ρ] [s1 : Dec σ] [s2 : Dec τ] [s3 : Dec υ] [s4 : Dec φ] {x : PyData} {y : α × β × γ × δ × ε} {v : V} {F : Hp} {n : Nat} (hn : n ≤ 8) (e : dQ5 ρ σ τ υ φ x = some y) (h : Dt n F v x) : (rT5 ρ σ τ υ φ y).r v F := by
  obtain ⟨k, rfl⟩ := dt_pos h
  cases x with
  | tuple ds =>
    by_cases hl : ds.length = 5
    · obtain ⟨x0, x1, x2, x3, x4, rfl⟩ := len_5 hl
      obtain ⟨y0, e0, e⟩ := some_bind e
      obtain ⟨y1, e1, e⟩ := some_bind e
      obtain ⟨y2, e2, e⟩ := some_bind e
      obtain ⟨y3, e3, e⟩ := some_bind e
      obtain ⟨y4, e4, e⟩ := some_bind e
      obtain rfl := Option.some.inj e
      obtain ⟨a, us, rfl, h1, h2, _, h3⟩ := h
      obtain ⟨v0, v1, v2, v3, v4, rfl⟩ := len_5 h2
      have g0 := s0.is (show k ≤ 8 by omega) e0 (h3 0 v0 x0 rfl rfl)
      have g1 := s1.is (show k ≤ 8 by omega) e1 (h3 1 v1 x1 rfl rfl)
      have g2 := s2.is (show k ≤ 8 by omega) e2 (h3 2 v2 x2 rfl rfl)
      have g3 := s3.is (show k ≤ 8 by omega) e3 (h3 3 v3 x3 rfl rfl)
      have g4 := s4.is (show k ≤ 8 by omega) e4 (h3 4 v4 x4 rfl rfl)
      exact ⟨a, [v0, v1, v2, v3, v4], rfl, h1, g0, g1, g2, g3, g4, trivial⟩
    · exfalso
      match ds, hl, e with
      | [x0, x1, x2, x3, x4], hl, _ => exact hl rfl
      | [], _, e => cases e
      | [_], _, e => cases e
      | [_, _], _, e => cases e
      | [_, _, _], _, e => cases e
      | [_, _, _, _], _, e => cases e
      | _ :: _ :: _ :: _ :: _ :: _ :: _, _, e => cases e
  | _ => cases e
instance decT5 {α β γ δ ε : Type} {ρ : α → Pr} {σ : β → Pr} {τ : γ → Pr} {υ : δ → Pr} {φ : ε → Pr} [s0 : Dec ρ] [s1 : Dec σ] [s2 : Dec τ] [s3 : Dec υ] [s4 : Dec φ] : Dec (rT5 ρ σ τ υ φ) := ⟨dQ5 ρ σ τ υ φ, dQ5_ok⟩
def dQ6 {α β γ δ ε ζ : Type} (ρ : α → Pr) (σ : β → Pr) (τ : γ → Pr) (υ : δ → Pr) (φ : ε → Pr) (χ : ζ → Pr) [s0 : Dec ρ] [s1 : Dec σ] [s2 : Dec τ] [s3 : Dec υ] [s4 : Dec φ] [s5 : Dec χ] : PyData → Option (α × β × γ × δ × ε × ζ)
  | .tuple [x0, x1, x2, x3, x4, x5] => do let y0 ← s0.d x0; let y1 ← s1.d x1; let y2 ← s2.d x2; let y3 ← s3.d x3; let y4 ← s4.d x4; let y5 ← s5.d x5; pure (y0, y1, y2, y3, y4, y5)
  | _ => none
theorem len_6 {α : Type} : ∀ {xs : List α}, xs.length = 6 → ∃ x0 x1 x2 x3 x4 x5, xs = [x0, x1, x2, x3, x4, x5]
  | [x0, x1, x2, x3, x4, x5], _ => ⟨x0, x1, x2, x3, x4, x5, rfl⟩
  | [], h => by cases h
  | [_], h => by cases h
  | [_, _], h => by cases h
  | [_, _, _], h => by cases h
  | [_, _, _, _], h => by cases h
  | [_, _, _, _, _], h => by cases h
  | _ :: _ :: _ :: _ :: _ :: _ :: _ :: _, h => by simp at h
theorem dQ6_ok {α β γ δ ε ζ : Type} {ρ : α → Pr} {σ : β → Pr} {τ : γ → Pr} {υ : δ → Pr} {φ : ε → Pr} {χ : ζ → Pr} [s0 : Dec ρ] [s1 : Dec σ] [s2 : Dec τ] [s3 : Dec υ] [s4 : Dec φ] [s5 : Dec χ] {x : PyData} {y : α × β × γ × δ × ε × ζ} {v : V} {F : Hp} {n : Nat} (hn : n ≤ 8) (e : dQ6 ρ σ τ υ φ χ x = some y) (h : Dt n F v x) : (rT6 ρ σ τ υ φ χ y).r v F := by
  obtain ⟨k, rfl⟩ := dt_pos h
  cases x with
  | tuple ds =>
    by_cases hl : ds.length = 6
    · obtain ⟨x0, x1, x2, x3, x4, x5, rfl⟩ := len_6 hl
      obtain ⟨y0, e0, e⟩ := some_bind e
      obtain ⟨y1, e1, e⟩ := some_bind e
      obtain ⟨y2, e2, e⟩ := some_bind e
      obtain ⟨y3, e3, e⟩ := some_bind e
      obtain ⟨y4, e4, e⟩ := some_bind e
      obtain ⟨y5, e5, e⟩ := some_bind e
      obtain rfl := Option.some.inj e
      obtain ⟨a, us, rfl, h1, h2, _, h3⟩ := h
      obtain ⟨v0, v1, v2, v3, v4, v5, rfl⟩ := len_6 h2
      have g0 := s0.is (show k ≤ 8 by omega) e0 (h3 0 v0 x0 rfl rfl)
      have g1 := s1.is (show k ≤ 8 by omega) e1 (h3 1 v1 x1 rfl rfl)
      have g2 := s2.is (show k ≤ 8 by omega) e2 (h3 2 v2 x2 rfl rfl)
      have g3 := s3.is (show k ≤ 8 by omega) e3 (h3 3 v3 x3 rfl rfl)
      have g4 := s4.is (show k ≤ 8 by omega) e4 (h3 4 v4 x4 rfl rfl)
      have g5 := s5.is (show k ≤ 8 by omega) e5 (h3 5 v5 x5 rfl rfl)
      exact ⟨a, [v0, v1, v2, v3, v4, v5], rfl, h1, g0, g1, g2, g3, g4, g5, trivial⟩
    · exfalso
      match ds, hl, e with
      | [x0, x1, x2, x3, x4, x5], hl, _ => exact hl rfl
      | [], _, e => cases e
      | [_], _, e => cases e
      | [_, _], _, e => cases e
      | [_, _, _], _, e => cases e
      | [_, _, _, _], _, e => cases e
      | [_, _, _, _, _], _, e => cases e
      | _ :: _ :: _ :: _ :: _ :: _ :: _ :: _, _, e => cases e
  | _ => cases e
instance decT6 {α β γ δ ε ζ : Type} {ρ : α → Pr} {σ : β → Pr} {τ : γ → Pr} {υ : δ → Pr} {φ : ε → Pr} {χ : ζ → Pr} [s0 : Dec ρ] [s1 : Dec σ] [s2 : Dec τ] [s3 : Dec υ] [s4 : Dec φ] [s5 : Dec χ] : Dec (rT6 ρ σ τ υ φ χ) := ⟨dQ6 ρ σ τ υ φ χ, dQ6_ok⟩
end
end RF
namespace RF
open PySem PySem.Spec PyProof.Rows L2 KO SX
section
variable {α β γ δ : Type} {X : Cx} {W : WX} {Γ : Ctx} {a b e : Expr} {pos p : Pos} {ρ : α → Pr} {md : Mo (List (Str × α))}
end
end RF
namespace RF
open PySem PySem.Spec PyProof.Rows L2 KO SX
section
variable {α β γ δ : Type} {X : Cx} {W : WX} {Γe Γ Γ' : Ctx} {lv : Bool} {e ee o a b c : Expr} {es : List Expr} {st : Stmt} {rest body suite : List Stmt} {Z : γ → Fin} {pos p2 p3 : Pos} {t : TE}
class ND (ρ : α → Pr) : Prop where
  nl : ∀ {x : α} {v : V} {F : Hp} {a : Addr} {vs : List (Key × V)}, Rd F a (.dK vs) → (ρ x).r v F → (ρ x).r v (del F a)
class NDP (q : Po) : Prop where
  nl : ∀ {u : HO} {F : Hp} {a : Addr} {vs : List (Key × V)}, Rd F a (.dK vs) → q.r u F → q.r u (del F a)
def NDr (p : Pr) : Prop := ∀ {v : V} {F : Hp} {a : Addr} {vs : List (Key × V)}, Rd F a (.dK vs) → p.r v F → p.r v (del F a)
instance : ND rI := ⟨fun _ h => h⟩
instance : ND rB := ⟨fun _ h => h⟩
instance : ND rS := ⟨fun _ h => h⟩
instance : ND rN := ⟨fun _ h => h⟩
instance {ρ : α → Pr} [n : ND ρ] : ND (rO ρ) := ⟨fun {x} {v F a vs} h k => by
  cases x with
  | none => exact k
  | some y => exact n.nl h k⟩
theorem Ps.nd {F : Hp} {a : Addr} {us : List (Key × V)} (h : Rd F a (.dK us)) : ∀ {ps : List Pr} {vs : List V}, (∀ p ∈ ps, NDr p) → Ps F ps vs → Ps (del F a) ps vs
  | [], [], _, _ => trivial
  | p :: ps, v :: vs, n, k => ⟨n p List.mem_cons_self h k.1, Ps.nd h (fun q hq => n q (List.mem_cons_of_mem _ hq)) k.2⟩
  | [], _ :: _, _, k => k.elim
  | _ :: _, [], _, k => k.elim
theorem nd_T {ps : List Pr} (n : ∀ p ∈ ps, NDr p) : NDr (rTu ps) := fun {v F a vs} h k => by
  obtain ⟨t, ws, rfl, h1, h2⟩ := k
  have hne : t ≠ a := by
    rintro rfl
    rcases h1 with h1 | ⟨o, h1⟩ <;> rcases h with h | ⟨o2, h⟩ <;> (rw [h] at h1; cases h1)
  exact ⟨t, ws, rfl, h1.imp (fun h => del_ok h hne) (fun ⟨o, h⟩ => ⟨o, del_ok h hne⟩), h2.nd h n⟩
theorem ndr {ρ : α → Pr} [n : ND ρ] (x : α) : NDr (ρ x) := fun h k => n.nl h k
theorem nd_mem1 {p : Pr} (h : NDr p) : ∀ q ∈ [p], NDr q := fun q hq => by rw [List.mem_singleton.mp hq]; exact h
theorem nd_memc {p : Pr} {ps : List Pr} (h : NDr p) (k : ∀ q ∈ ps, NDr q) : ∀ q ∈ p :: ps, NDr q := fun q hq => by
  rcases List.mem_cons.mp hq with e | e
  · rw [e]; exact h
  · exact k q e
section
variable {ε ζ : Type} {ρ : α → Pr} {σ : β → Pr} {τ : γ → Pr} {υ : δ → Pr} {φ : ε → Pr}
instance [ND ρ] : ND (rTs ρ) := ⟨fun {xs} {v F a vs} h k => nd_T (fun p hp => by
  obtain ⟨x, _, rfl⟩ := List.mem_map.mp hp
  exact ndr x) h k⟩
instance [ND ρ] : ND (rT1 ρ) := ⟨fun {x} {v F a vs} h k => nd_T (nd_mem1 (ndr _)) h k⟩
instance [ND ρ] [ND σ] : ND (rT2 ρ σ) := ⟨fun {x} {v F a vs} h k => nd_T (nd_memc (ndr _) (nd_mem1 (ndr _))) h k⟩
instance [ND ρ] [ND σ] [ND τ] : ND (rT3 ρ σ τ) := ⟨fun {x} {v F a vs} h k => nd_T (nd_memc (ndr _) (nd_memc (ndr _) (nd_mem1 (ndr _)))) h k⟩
instance [ND ρ] [ND σ] [ND τ] [ND υ] : ND (rT4 ρ σ τ υ) := ⟨fun {x} {v F a vs} h k => nd_T (nd_memc (ndr _) (nd_memc (ndr _) (nd_memc (ndr _) (nd_mem1 (ndr _))))) h k⟩
instance [ND ρ] [ND σ] [ND τ] [ND υ] [ND φ] : ND (rT5 ρ σ τ υ φ) := ⟨fun {x} {v F a vs} h k => nd_T (nd_memc (ndr _) (nd_memc (ndr _) (nd_memc (ndr _) (nd_memc (ndr _) (nd_mem1 (ndr _)))))) h k⟩
instance [n : ND ρ] {xs : List α} : NDP (oL ρ xs) := ⟨fun {u F a vs} h k => by
  obtain ⟨ws, rfl, h2⟩ := k
  exact ⟨ws, rfl, h2.nd h (fun p hp => by
    obtain ⟨x, _, rfl⟩ := List.mem_map.mp hp
    exact ndr x)⟩⟩
end
instance : NDP oPool := ⟨fun _ h => h⟩
instance {C : Addr} : NDP (oIn C []) := ⟨fun {u F a vs} h k => by
  obtain ⟨dx, gs, rfl, k⟩ := k
  cases gs with
  | nil => exact ⟨dx, [], rfl, trivial⟩
  | cons _ _ => exact k.elim⟩
theorem ks_nd {ρ : α → Pr} [ND ρ] {F : Hp} {a : Addr} {us : List (Key × V)} (h : Rd F a (.dK us)) : ∀ {kvs : List (Int × α)} {gs : List (Key × V)}, Ks F ρ kvs gs → Ks (del F a) ρ kvs gs
  | [], [], _ => trivial
  | (_, x) :: _, (_, _) :: _, k => ⟨k.1, ndr x h k.2.1, ks_nd h k.2.2⟩
  | [], _ :: _, k => k.elim
  | _ :: _, [], k => k.elim
instance {ρ : α → Pr} [ND ρ] {kvs : List (Int × α)} : NDP (oDk ρ kvs) := ⟨fun {u F a vs} h k => by
  obtain ⟨gs, rfl, k⟩ := k
  exact ⟨gs, rfl, ks_nd h k⟩⟩
instance : ND (rNN (α := α)) := ⟨fun _ h => h⟩
class NDK (k : RK γ) : Prop where
  nl : ∀ {x : γ} {v : V} {H F H' : Hp} {a : Addr} {vs : List (Key × V)}, Rd F a (.dK vs) → k.ok x v H F H' → k.ok x v H (del F a) H'
instance {ρ : γ → Pr} [n : ND ρ] : NDK (.fz ρ) := ⟨fun h k => n.nl h k⟩
instance {ρ : γ → Po} [n : ∀ x, NDP (ρ x)] : NDK (.ow ρ) := ⟨fun {x v H F H' a vs} h k => by
  obtain ⟨b, u, rfl, h1, h2, h3, h4⟩ := k
  refine ⟨b, u, rfl, h1, ?_, h3, (n x).nl h h4⟩
  unfold del
  split
  · rfl
  · exact h2⟩
def NDC : Ctx → Prop
  | [] => True
  | .ow _ _ q :: r => NDP q ∧ NDC r
  | _ :: r => NDC r
theorem NDC.get : ∀ {Γ : Ctx} {i : Nat} {l : Bool} {a : Addr} {q : Po}, NDC Γ → Γ[i]? = some (.ow l a q) → NDP q
  | [], _, _, _, _, _, h => by simp at h
  | en :: r, 0, l, a, q, n, h => by
    simp at h
    subst h
    exact n.1
  | en :: r, i + 1, l, a, q, n, h => by
    have n' : NDC r := by
      cases en with
      | un => exact n
      | fz p => exact n
      | ow l' a' q' => exact n.2
      | lk f h p => exact n
    exact NDC.get n' (by simpa using h)
section
variable {j : Nat} {l : Bool} {ad : Addr} {ρ : α → Pr} {xs : List (Str × α)}
end

section
variable {ρ : α → Pr}
instance ndL [ND ρ] : ND (rL ρ) := ⟨fun {xs} {v F a vs} h k => by
  obtain ⟨t, ws, rfl, h1, h2⟩ := k
  have hne : t ≠ a := by
    rintro rfl
    rcases h with h | ⟨o2, h⟩ <;> (rw [h] at h1; cases h1)
  exact ⟨t, ws, rfl, del_ok h1 hne, h2.nd h (fun p hp => by
    obtain ⟨x, _, rfl⟩ := List.mem_map.mp hp
    exact ndr x)⟩⟩
theorem dt_nd {F : Hp} {a : Addr} {us : List (Key × V)} (h : Rd F a (.dK us)) : ∀ (n : Nat) {v : V} {x : PyData}, Dt n F v x → Dt n (del F a) v x
  | 0, _, _, k => k
  | n + 1, v, x, k => by
    cases x with
    | none => exact k
    | bool _ => exact k
    | int _ => exact k
    | str _ => exact k
    | list ds =>
      obtain ⟨t, xs, rfl, h1, h2, h3, h4⟩ := k
      have hne : t ≠ a := by
        rintro rfl
        rcases h with h | ⟨o2, h⟩ <;> (rw [h] at h1; cases h1)
      exact ⟨t, xs, rfl, del_ok h1 hne, h2, h3, fun i w d e1 e2 => dt_nd h n (h4 i w d e1 e2)⟩
    | tuple ds =>
      obtain ⟨t, xs, rfl, h1, h2, h3, h4⟩ := k
      have hne : t ≠ a := by
        rintro rfl
        rcases h1 with h1 | ⟨o, h1⟩ <;> rcases h with h | ⟨o2, h⟩ <;> (rw [h] at h1; cases h1)
      exact ⟨t, xs, rfl, h1.imp (fun h => del_ok h hne) (fun ⟨o, h⟩ => ⟨o, del_ok h hne⟩), h2, h3, fun i w d e1 e2 => dt_nd h n (h4 i w d e1 e2)⟩
    | dict _ => exact k.elim
instance ndD : ND rD := ⟨fun {x} {v F a vs} h k => dt_nd h 8 k⟩
end
end
end RF
namespace RF
open PySem PySem.Spec PyProof.Rows L2 KO SX
section
variable {α β γ δ : Type} {X : Cx} {W : WX} {Γe Γ Γ' : Ctx} {lv : Bool} {e ee o a b c : Expr} {es : List Expr} {st : Stmt} {pos p2 p3 : Pos} {t : TE}
theorem fs_nd {F : Hp} {a : Addr} {vs : List (Key × V)} (hl : Rd F a (.dK vs)) : ∀ {fs : List (Str × Pr)} {gs : List (Str × V)}, (∀ p ∈ fs, NDr p.2) → Fs F fs gs → Fs (del F a) fs gs
  | [], [], _, _ => trivial
  | p :: fs, g :: gs, h, k => ⟨k.1, h p List.mem_cons_self hl k.2.1, fs_nd hl (fun q hq => h q (List.mem_cons_of_mem _ hq)) k.2.2⟩
  | [], _ :: _, _, k => k.elim
  | _ :: _, [], _, k => k.elim
theorem ndp_in {C : Addr} {fs : List (Str × Pr)} (h : ∀ p ∈ fs, NDr p.2) : NDP (oIn C fs) := ⟨fun {u F a vs} hl k => by
  obtain ⟨dx, gs, rfl, k⟩ := k
  exact ⟨dx, gs, rfl, fs_nd hl h k⟩⟩
theorem nd_in {C : Addr} {fs : List (Str × Pr)} (h : ∀ p ∈ fs, NDr p.2) : NDr (rIn C fs) := fun {v F a vs} hl k => by
  obtain ⟨b, dx, gs, rfl, h1, k⟩ := k
  exact ⟨b, dx, gs, rfl, del_ok h1 (by rintro rfl; rcases hl with hl | ⟨o2, hl⟩ <;> (rw [hl] at h1; cases h1)), fs_nd hl h k⟩
theorem ndf1 {f : Str} {p : Pr} (h : NDr p) : ∀ q ∈ [(f, p)], NDr q.2 := fun q hq => by rw [List.mem_singleton.mp hq]; exact h
theorem ndfc {f : Str} {p : Pr} {ps : List (Str × Pr)} (h : NDr p) (k : ∀ q ∈ ps, NDr q.2) : ∀ q ∈ (f, p) :: ps, NDr q.2 := fun q hq => by
  rcases List.mem_cons.mp hq with e | e
  · rw [e]; exact h
  · exact k q e
theorem ks_ndS {ρ : α → Pr} [ND ρ] {F : Hp} {a : Addr} {us : List (Key × V)} (h : Rd F a (.dK us)) : ∀ {kvs : List (Str × α)} {gs : List (Key × V)}, KsS F ρ kvs gs → KsS (del F a) ρ kvs gs
  | [], [], _ => trivial
  | (_, x) :: _, (_, _) :: _, k => ⟨k.1, ndr x h k.2.1, ks_ndS h k.2.2⟩
  | [], _ :: _, k => k.elim
  | _ :: _, [], k => k.elim
instance {ρ : α → Pr} [ND ρ] {kvs : List (Str × α)} : NDP (oDkS ρ kvs) := ⟨fun {u F a vs} h k => by
  obtain ⟨gs, rfl, k⟩ := k
  exact ⟨gs, rfl, ks_ndS h k⟩⟩
instance ndTf {ρ : α → Pr} [ND ρ] : ND (rTf ρ) := ⟨fun {xs} {v F b us} h k => by
  obtain ⟨a, vs, o, rfl, h1, h2, h3⟩ := k
  exact ⟨a, vs, o, rfl, del_ok h1 (by rintro rfl; rcases h with h | ⟨o2, h⟩ <;> (rw [h] at h1; cases h1)), h2, h3.nd h (fun p hp => by
    obtain ⟨x, _, rfl⟩ := List.mem_map.mp hp
    exact ndr x)⟩⟩
end
end RF
namespace RF
open PySem PySem.Spec PyProof.Rows L2 KO SX
section
variable {X : Cx} {W : WX} {Γ : Ctx} {a b : Expr} {pos p : Pos} {mi mj : Mo Int}
theorem re_gcd (ha : RE X W Γ a mi (.fz rI)) (hb : RE X W Γ b mj (.fz rI)) (hm : X.mg "gcd" = some (.builtin "math.gcd")) (hg : Gl X "gcd" := by rfl) (he : starEach [a, b] X.env = (false, eval a X.env) :: starEach [b] X.env := by rfl) (he2 : starEach [b] X.env = [(false, eval b X.env)] := by rfl) (hpl : (backTo pos (starEach [b] X.env)).any (·.1) = false := by rfl) : RE X W Γ (.Call (.Name "gcd" p) [a, b] [] pos) (mi >>= fun i => mj >>= fun j => pure ((Nat.gcd i.natAbs j.natAbs : Nat) : Int)) (.fz rI) :=
  re_of (pe_callBfun cr_gcd hg hm (pa_cons peE (pa_cons peE pa_nil he2) he) (by decide) he hpl) fun G σ F H Q o q => ha G σ F H _ o (mi.mono (fun i hx v F' H' o' g' z => by
    refine hb G σ F' H' _ o' (mj.mono (fun j hy u F2 H2 o2 g2 z2 => ?_) (fun _ => EQ.step g') hx)
    obtain rfl : v = .int i := z
    obtain rfl : u = .int j := z2
    exact ⟨i, j, rfl, hy _ F2 H2 o2 (g'.trans g2 owns_tr) rfl⟩) (fun _ z => z) q)
end
end RF
namespace RF
open PySem PySem.Spec PyProof.Rows L2 KO SX
section
variable {α β γ δ : Type} {X : Cx} {W : WX} {Γe Γ Γ' : Ctx} {lv : Bool} {e ee o a b c : Expr} {es : List Expr} {st : Stmt} {pos p2 p3 : Pos} {t : TE} {ρ : α → Pr}
theorem KsS.at {F : Hp} : ∀ {kvs : List (Str × α)} {gs : List (Key × V)} {i : Nat} {k : Str} {x : α}, KsS F ρ kvs gs → kvs[i]? = some (k, x) → ∃ v, gs[i]? = some (.inr k, v) ∧ (ρ x).r v F
  | [], _, _, _, _, _, h => by simp at h
  | _ :: _, [], _, _, _, k, _ => k.elim
  | (k0, x0) :: r, (k1, v1) :: r', 0, k, x, h, e => by
    simp at e
    obtain ⟨rfl, rfl⟩ := e
    exact ⟨v1, by rw [h.1]; rfl, h.2.1⟩
  | (k0, x0) :: r, (k1, v1) :: r', i + 1, k, x, h, e => KsS.at (kvs := r) (gs := r') h.2.2 (by simpa using e)
class NDLK (k : RK γ) : Prop where
  lk : ∀ {x : γ} {v : V} {H F H' : Hp} {a : Addr} {od : Obj} {vs : List (Key × V)}, F a = some (.frz od (.dK vs)) → k.ok x v (upd H a (.frz od (.dK vs))) F H' → k.ok x v H (del F a) (upd H' a (.dK vs))
instance {ρ : γ → Pr} [n : ND ρ] : NDLK (.fz ρ) := ⟨fun h k => n.nl (.inr ⟨_, h⟩) k⟩
instance {ρ : γ → Po} [n : ∀ x, NDP (ρ x)] : NDLK (.ow ρ) := ⟨fun {x v H F H' a od vs} h k => by
  obtain ⟨b, u, rfl, h1, h2, h3, h4⟩ := k
  have hb : b ≠ a := by rintro rfl; rw [h] at h2; cases h2
  refine ⟨b, u, rfl, by rw [upd_ne hb] at h1; exact h1, ?_, by rw [upd_ne hb]; exact h3, (n x).nl (.inr ⟨_, h⟩) h4⟩
  unfold del
  split
  · rfl
  · exact h2⟩
section
variable {j : Nat} {l : Bool} {ad : Addr} {xs : List (Str × α)}
end
end
end RF
namespace DD
open PySem L2
/-! the text by its places -/
def topS (i : Nat) : Stmt := PySem.Challenge.pw_depotday_k11_heavier_weights.main.body.getD i (.Pass ⟨0, 0, 0, 0⟩)
abbrev sBadBookInit : Stmt := inClass (topS 4) 0
abbrev sUnknownNameInit : Stmt := inClass (topS 5) 0
abbrev sBadNumberInit : Stmt := inClass (topS 6) 0
abbrev sUnknownPageInit : Stmt := inClass (topS 7) 0
abbrev sisname : Stmt := topS 10
abbrev salldiffer : Stmt := topS 15
abbrev sarelines : Stmt := topS 16
abbrev sarepages : Stmt := topS 17
abbrev scheckpages : Stmt := topS 18
abbrev scheckorder : Stmt := topS 19
abbrev scheckrounds : Stmt := topS 20
abbrev sascendingindexes : Stmt := topS 21
abbrev sBookInit : Stmt := inClass (topS 22) 0
abbrev sBookLen : Stmt := inClass (topS 22) 1
abbrev sBookEq : Stmt := inClass (topS 22) 2
abbrev sBookCheckpage : Stmt := inClass (topS 22) 3
abbrev sBookLinesof : Stmt := inClass (topS 22) 4
abbrev sBookFollowersof : Stmt := inClass (topS 22) 5
abbrev sBookIndex : Stmt := inClass (topS 22) 6
abbrev sBookReachable : Stmt := inClass (topS 22) 10
abbrev sHeavyInit : Stmt := inClass (topS 24) 0
abbrev spageweights : Stmt := topS 25
abbrev sshortrings : Stmt := topS 26
abbrev sonemore : Stmt := topS 27
abbrev sworthsof : Stmt := topS 28
abbrev sheaviest : Stmt := topS 29
abbrev smostin : Stmt := topS 30
abbrev sLcell : Stmt := topS 32
abbrev sLpool : Stmt := topS 33
abbrev sLtake : Stmt := topS 34
abbrev sLsame : Stmt := topS 35
abbrev sLint : Stmt := topS 36
abbrev sLword : Stmt := topS 37
abbrev sLwords : Stmt := topS 38
abbrev sLsome : Stmt := topS 39
abbrev sLsheets : Stmt := topS 40
abbrev sLplaces : Stmt := topS 41
abbrev sLhanded : Stmt := topS 42
abbrev sLgrown : Stmt := topS 43
abbrev sLmeangood : Stmt := topS 44
abbrev sLringgood : Stmt := topS 45
abbrev sLsweep : Stmt := topS 46
abbrev sLshown : Stmt := topS 47
abbrev sLheavygood : Stmt := topS 48
abbrev sLperm : Stmt := topS 49
abbrev sLpageweights : Stmt := topS 50
abbrev sLtable : Stmt := topS 51
abbrev sLseen : Stmt := topS 52
abbrev sLscaledgood : Stmt := topS 53
abbrev sLnotless : Stmt := topS 54
abbrev sLwith : Stmt := topS 55
abbrev sLaw : Stmt := topS 56
/-- what the top has written, as the walks ask for it -/
structure Tx (K : PySem.W.Frag) (mg : Str → Option Value) where
  t_MOST_LETTERS : Tok
  c_MOST_LETTERS : mg "MOST_LETTERS" = some (.int 8 t_MOST_LETTERS)
  t_MOST_PAGES : Tok
  c_MOST_PAGES : mg "MOST_PAGES" = some (.int 4 t_MOST_PAGES)
  t_MOST_LINES : Tok
  c_MOST_LINES : mg "MOST_LINES" = some (.int 8 t_MOST_LINES)
  t_MOST_ROUNDS : Tok
  c_MOST_ROUNDS : mg "MOST_ROUNDS" = some (.int 200 t_MOST_ROUNDS)
  z_abs : mg "abs" = none
  z_all : mg "all" = none
  z_bool : mg "bool" = none
  z_enumerate : mg "enumerate" = none
  z_int : mg "int" = none
  z_isinstance : mg "isinstance" = none
  z_len : mg "len" = none
  z_list : mg "list" = none
  z_max : mg "max" = none
  z_min : mg "min" = none
  z_range : mg "range" = none
  z_set : mg "set" = none
  z_sorted : mg "sorted" = none
  z_str : mg "str" = none
  z_sum : mg "sum" = none
  z_tuple : mg "tuple" = none
  C_Book : Addr
  g_Book : mg "Book" = some (.ref C_Book)
  cl_Book : Cls K C_Book
  na_Book_names : NoAttr K C_Book "names"
  na_Book_starts : NoAttr K C_Book "starts"
  na_Book__lines : NoAttr K C_Book "_lines"
  na_Book__followers : NoAttr K C_Book "_followers"
  C_Heavy : Addr
  g_Heavy : mg "Heavy" = some (.ref C_Heavy)
  cl_Heavy : Cls K C_Heavy
  na_Heavy_mean : NoAttr K C_Heavy "mean"
  na_Heavy_ring : NoAttr K C_Heavy "ring"
  na_Heavy_worths : NoAttr K C_Heavy "worths"
  fBadBook_init : Addr
  dBadBook_init : FuncData
  FBadBook_init : Fun K "__init__" "BadBook.__init__" sBadBookInit fBadBook_init dBadBook_init
  bBadBook_init : Binds K dBadBook_init ["self", "part", "place"] []
  fUnknownName_init : Addr
  dUnknownName_init : FuncData
  FUnknownName_init : Fun K "__init__" "UnknownName.__init__" sUnknownNameInit fUnknownName_init dUnknownName_init
  bUnknownName_init : Binds K dUnknownName_init ["self", "name"] []
  fBadNumber_init : Addr
  dBadNumber_init : FuncData
  FBadNumber_init : Fun K "__init__" "BadNumber.__init__" sBadNumberInit fBadNumber_init dBadNumber_init
  bBadNumber_init : Binds K dBadNumber_init ["self", "number"] []
  fUnknownPage_init : Addr
  dUnknownPage_init : FuncData
  FUnknownPage_init : Fun K "__init__" "UnknownPage.__init__" sUnknownPageInit fUnknownPage_init dUnknownPage_init
  bUnknownPage_init : Binds K dUnknownPage_init ["self", "number"] []
  fis_name : Addr
  dis_name : FuncData
  Fis_name : Fun K "is_name" "is_name" sisname fis_name dis_name
  bis_name : Binds K dis_name ["text"] []
  gis_name : mg "is_name" = some (.ref fis_name)
  fall_differ : Addr
  dall_differ : FuncData
  Fall_differ : Fun K "all_differ" "all_differ" salldiffer fall_differ dall_differ
  ball_differ : Binds K dall_differ ["words"] []
  gall_differ : mg "all_differ" = some (.ref fall_differ)
  fare_lines : Addr
  dare_lines : FuncData
  Fare_lines : Fun K "are_lines" "are_lines" sarelines fare_lines dare_lines
  bare_lines : Binds K dare_lines ["lines"] []
  gare_lines : mg "are_lines" = some (.ref fare_lines)
  fare_pages : Addr
  dare_pages : FuncData
  Fare_pages : Fun K "are_pages" "are_pages" sarepages fare_pages dare_pages
  bare_pages : Binds K dare_pages ["chosen", "names"] []
  gare_pages : mg "are_pages" = some (.ref fare_pages)
  fcheck_pages : Addr
  dcheck_pages : FuncData
  Fcheck_pages : Fun K "check_pages" "check_pages" scheckpages fcheck_pages dcheck_pages
  bcheck_pages : Binds K dcheck_pages ["pages"] []
  gcheck_pages : mg "check_pages" = some (.ref fcheck_pages)
  fcheck_order : Addr
  dcheck_order : FuncData
  Fcheck_order : Fun K "check_order" "check_order" scheckorder fcheck_order dcheck_order
  bcheck_order : Binds K dcheck_order ["pages", "starts"] []
  gcheck_order : mg "check_order" = some (.ref fcheck_order)
  fcheck_rounds : Addr
  dcheck_rounds : FuncData
  Fcheck_rounds : Fun K "check_rounds" "check_rounds" scheckrounds fcheck_rounds dcheck_rounds
  bcheck_rounds : Binds K dcheck_rounds ["rounds"] []
  gcheck_rounds : mg "check_rounds" = some (.ref fcheck_rounds)
  fascending_indexes : Addr
  dascending_indexes : FuncData
  Fascending_indexes : Fun K "ascending_indexes" "ascending_indexes" sascendingindexes fascending_indexes dascending_indexes
  bascending_indexes : Binds K dascending_indexes ["chosen", "names"] []
  gascending_indexes : mg "ascending_indexes" = some (.ref fascending_indexes)
  fBook_init : Addr
  dBook_init : FuncData
  FBook_init : Fun K "__init__" "Book.__init__" sBookInit fBook_init dBook_init
  bBook_init : Binds K dBook_init ["self", "pages", "starts"] []
  M_Book : Mk K C_Book fBook_init
  fBook_len : Addr
  dBook_len : FuncData
  FBook_len : Fun K "__len__" "Book.__len__" sBookLen fBook_len dBook_len
  bBook_len : Binds K dBook_len ["self"] []
  m_Book_len : Meth K C_Book "__len__" fBook_len
  fBook_eq : Addr
  dBook_eq : FuncData
  FBook_eq : Fun K "__eq__" "Book.__eq__" sBookEq fBook_eq dBook_eq
  bBook_eq : Binds K dBook_eq ["self", "other"] []
  m_Book_eq : Meth K C_Book "__eq__" fBook_eq
  fBook_check_page : Addr
  dBook_check_page : FuncData
  FBook_check_page : Fun K "_check_page" "Book._check_page" sBookCheckpage fBook_check_page dBook_check_page
  bBook_check_page : Binds K dBook_check_page ["self", "index"] []
  m_Book_check_page : Meth K C_Book "_check_page" fBook_check_page
  fBook_lines_of : Addr
  dBook_lines_of : FuncData
  FBook_lines_of : Fun K "lines_of" "Book.lines_of" sBookLinesof fBook_lines_of dBook_lines_of
  bBook_lines_of : Binds K dBook_lines_of ["self", "index"] []
  m_Book_lines_of : Meth K C_Book "lines_of" fBook_lines_of
  fBook_followers_of : Addr
  dBook_followers_of : FuncData
  FBook_followers_of : Fun K "followers_of" "Book.followers_of" sBookFollowersof fBook_followers_of dBook_followers_of
  bBook_followers_of : Binds K dBook_followers_of ["self", "index"] []
  m_Book_followers_of : Meth K C_Book "followers_of" fBook_followers_of
  fBook_index : Addr
  dBook_index : FuncData
  FBook_index : Fun K "index" "Book.index" sBookIndex fBook_index dBook_index
  bBook_index : Binds K dBook_index ["self", "name"] []
  m_Book_index : Meth K C_Book "index" fBook_index
  fBook_reachable : Addr
  dBook_reachable : FuncData
  FBook_reachable : Fun K "reachable" "Book.reachable" sBookReachable fBook_reachable dBook_reachable
  bBook_reachable : Binds K dBook_reachable ["self"] []
  m_Book_reachable : Meth K C_Book "reachable" fBook_reachable
  fHeavy_init : Addr
  dHeavy_init : FuncData
  FHeavy_init : Fun K "__init__" "Heavy.__init__" sHeavyInit fHeavy_init dHeavy_init
  bHeavy_init : Binds K dHeavy_init ["self", "mean", "ring", "worths"] []
  M_Heavy : Mk K C_Heavy fHeavy_init
  fpage_weights : Addr
  dpage_weights : FuncData
  Fpage_weights : Fun K "page_weights" "page_weights" spageweights fpage_weights dpage_weights
  bpage_weights : Binds K dpage_weights ["book", "weights"] []
  gpage_weights : mg "page_weights" = some (.ref fpage_weights)
  fshort_rings : Addr
  dshort_rings : FuncData
  Fshort_rings : Fun K "short_rings" "short_rings" sshortrings fshort_rings dshort_rings
  bshort_rings : Binds K dshort_rings ["book"] []
  gshort_rings : mg "short_rings" = some (.ref fshort_rings)
  fone_more : Addr
  done_more : FuncData
  Fone_more : Fun K "one_more" "one_more" sonemore fone_more done_more
  bone_more : Binds K done_more ["book", "gains", "sums"] []
  gone_more : mg "one_more" = some (.ref fone_more)
  fworths_of : Addr
  dworths_of : FuncData
  Fworths_of : Fun K "worths_of" "worths_of" sworthsof fworths_of dworths_of
  bworths_of : Binds K dworths_of ["book", "gains"] []
  gworths_of : mg "worths_of" = some (.ref fworths_of)
  fheaviest : Addr
  dheaviest : FuncData
  Fheaviest : Fun K "heaviest" "heaviest" sheaviest fheaviest dheaviest
  bheaviest : Binds K dheaviest ["book", "weights"] []
  gheaviest : mg "heaviest" = some (.ref fheaviest)
  fmost_in : Addr
  dmost_in : FuncData
  Fmost_in : Fun K "most_in" "most_in" smostin fmost_in dmost_in
  bmost_in : Binds K dmost_in ["book", "weights", "rounds"] []
  gmost_in : mg "most_in" = some (.ref fmost_in)
  f_law_cell : Addr
  d_law_cell : FuncData
  F_law_cell : Fun K "_law_cell" "_law_cell" sLcell f_law_cell d_law_cell
  b_law_cell : Binds K d_law_cell ["_law_script", "_law_k"] []
  g_law_cell : mg "_law_cell" = some (.ref f_law_cell)
  f_law_pool : Addr
  d_law_pool : FuncData
  F_law_pool : Fun K "_law_pool" "_law_pool" sLpool f_law_pool d_law_pool
  b_law_pool : Binds K d_law_pool ["_law_script", "_law_k"] []
  g_law_pool : mg "_law_pool" = some (.ref f_law_pool)
  f_law_take : Addr
  d_law_take : FuncData
  F_law_take : Fun K "_law_take" "_law_take" sLtake f_law_take d_law_take
  b_law_take : Binds K d_law_take ["_law_pool_here", "_law_many"] []
  g_law_take : mg "_law_take" = some (.ref f_law_take)
  f_law_same : Addr
  d_law_same : FuncData
  F_law_same : Fun K "_law_same" "_law_same" sLsame f_law_same d_law_same
  b_law_same : Binds K d_law_same ["_law_got", "_law_due"] []
  g_law_same : mg "_law_same" = some (.ref f_law_same)
  f_law_int : Addr
  d_law_int : FuncData
  F_law_int : Fun K "_law_int" "_law_int" sLint f_law_int d_law_int
  b_law_int : Binds K d_law_int ["_law_got"] []
  g_law_int : mg "_law_int" = some (.ref f_law_int)
  f_law_word : Addr
  d_law_word : FuncData
  F_law_word : Fun K "_law_word" "_law_word" sLword f_law_word d_law_word
  b_law_word : Binds K d_law_word ["_law_pool_here", "_law_others"] []
  g_law_word : mg "_law_word" = some (.ref f_law_word)
  f_law_words : Addr
  d_law_words : FuncData
  F_law_words : Fun K "_law_words" "_law_words" sLwords f_law_words d_law_words
  b_law_words : Binds K d_law_words ["_law_pool_here", "_law_many"] []
  g_law_words : mg "_law_words" = some (.ref f_law_words)
  f_law_some : Addr
  d_law_some : FuncData
  F_law_some : Fun K "_law_some" "_law_some" sLsome f_law_some d_law_some
  b_law_some : Binds K d_law_some ["_law_pool_here", "_law_names", "_law_few", "_law_more"] []
  g_law_some : mg "_law_some" = some (.ref f_law_some)
  f_law_sheets : Addr
  d_law_sheets : FuncData
  F_law_sheets : Fun K "_law_sheets" "_law_sheets" sLsheets f_law_sheets d_law_sheets
  b_law_sheets : Binds K d_law_sheets ["_law_pool_here"] []
  g_law_sheets : mg "_law_sheets" = some (.ref f_law_sheets)
  f_law_places : Addr
  d_law_places : FuncData
  F_law_places : Fun K "_law_places" "_law_places" sLplaces f_law_places d_law_places
  b_law_places : Binds K d_law_places ["_law_names", "_law_chosen"] []
  g_law_places : mg "_law_places" = some (.ref f_law_places)
  f_law_handed : Addr
  d_law_handed : FuncData
  F_law_handed : Fun K "_law_handed" "_law_handed" sLhanded f_law_handed d_law_handed
  b_law_handed : Binds K d_law_handed ["_law_sheets_here"] []
  g_law_handed : mg "_law_handed" = some (.ref f_law_handed)
  f_law_grown : Addr
  d_law_grown : FuncData
  F_law_grown : Fun K "_law_grown" "_law_grown" sLgrown f_law_grown d_law_grown
  b_law_grown : Binds K d_law_grown ["_law_followers", "_law_begin"] []
  g_law_grown : mg "_law_grown" = some (.ref f_law_grown)
  f_law_mean_good : Addr
  d_law_mean_good : FuncData
  F_law_mean_good : Fun K "_law_mean_good" "_law_mean_good" sLmeangood f_law_mean_good d_law_mean_good
  b_law_mean_good : Binds K d_law_mean_good ["_law_mean"] []
  g_law_mean_good : mg "_law_mean_good" = some (.ref f_law_mean_good)
  f_law_ring_good : Addr
  d_law_ring_good : FuncData
  F_law_ring_good : Fun K "_law_ring_good" "_law_ring_good" sLringgood f_law_ring_good d_law_ring_good
  b_law_ring_good : Binds K d_law_ring_good ["_law_ring", "_law_names", "_law_followers", "_law_reached"] []
  g_law_ring_good : mg "_law_ring_good" = some (.ref f_law_ring_good)
  f_law_sweep : Addr
  d_law_sweep : FuncData
  F_law_sweep : Fun K "_law_sweep" "_law_sweep" sLsweep f_law_sweep d_law_sweep
  b_law_sweep : Binds K d_law_sweep ["_law_followers", "_law_gains", "_law_worths"] []
  g_law_sweep : mg "_law_sweep" = some (.ref f_law_sweep)
  f_law_shown : Addr
  d_law_shown : FuncData
  F_law_shown : Fun K "_law_shown" "_law_shown" sLshown f_law_shown d_law_shown
  b_law_shown : Binds K d_law_shown ["_law_worths", "_law_reached"] []
  g_law_shown : mg "_law_shown" = some (.ref f_law_shown)
  f_law_heavy_good : Addr
  d_law_heavy_good : FuncData
  F_law_heavy_good : Fun K "_law_heavy_good" "_law_heavy_good" sLheavygood f_law_heavy_good d_law_heavy_good
  b_law_heavy_good : Binds K d_law_heavy_good ["_law_heavy", "_law_names", "_law_followers", "_law_reached", "_law_weights"] []
  g_law_heavy_good : mg "_law_heavy_good" = some (.ref f_law_heavy_good)
  f_law_perm : Addr
  d_law_perm : FuncData
  F_law_perm : Fun K "_law_perm" "_law_perm" sLperm f_law_perm d_law_perm
  b_law_perm : Binds K d_law_perm ["_law_pool_here", "_law_many"] []
  g_law_perm : mg "_law_perm" = some (.ref f_law_perm)
  f_law_page_weights : Addr
  d_law_page_weights : FuncData
  F_law_page_weights : Fun K "_law_page_weights" "_law_page_weights" sLpageweights f_law_page_weights d_law_page_weights
  b_law_page_weights : Binds K d_law_page_weights ["_law_sheets_here", "_law_pairs"] []
  g_law_page_weights : mg "_law_page_weights" = some (.ref f_law_page_weights)
  f_law_table : Addr
  d_law_table : FuncData
  F_law_table : Fun K "_law_table" "_law_table" sLtable f_law_table d_law_table
  b_law_table : Binds K d_law_table ["_law_pairs"] []
  g_law_table : mg "_law_table" = some (.ref f_law_table)
  f_law_seen : Addr
  d_law_seen : FuncData
  F_law_seen : Fun K "_law_seen" "_law_seen" sLseen f_law_seen d_law_seen
  b_law_seen : Binds K d_law_seen ["_law_sheets_here", "_law_starts", "_law_pairs", "_law_steps"] []
  g_law_seen : mg "_law_seen" = some (.ref f_law_seen)
  f_law_scaled_good : Addr
  d_law_scaled_good : FuncData
  F_law_scaled_good : Fun K "_law_scaled_good" "_law_scaled_good" sLscaledgood f_law_scaled_good d_law_scaled_good
  b_law_scaled_good : Binds K d_law_scaled_good ["_law_base", "_law_seen_here", "_law_factor"] []
  g_law_scaled_good : mg "_law_scaled_good" = some (.ref f_law_scaled_good)
  f_law_not_less : Addr
  d_law_not_less : FuncData
  F_law_not_less : Fun K "_law_not_less" "_law_not_less" sLnotless f_law_not_less d_law_not_less
  b_law_not_less : Binds K d_law_not_less ["_law_base", "_law_seen_here"] []
  g_law_not_less : mg "_law_not_less" = some (.ref f_law_not_less)
  f_law_with : Addr
  d_law_with : FuncData
  F_law_with : Fun K "_law_with" "_law_with" sLwith f_law_with d_law_with
  b_law_with : Binds K d_law_with ["_law_words_here", "_law_word_here"] []
  g_law_with : mg "_law_with" = some (.ref f_law_with)
  flaw : Addr
  dlaw : FuncData
  Flaw : Fun K "law" "law" sLaw flaw dlaw
  blaw : Binds K dlaw ["_law_script"] []
  glaw : mg "law" = some (.ref flaw)
  C_DepotError : Addr
  g_DepotError : mg "DepotError" = some (.ref C_DepotError)
  C_BadBook : Addr
  g_BadBook : mg "BadBook" = some (.ref C_BadBook)
  C_UnknownName : Addr
  g_UnknownName : mg "UnknownName" = some (.ref C_UnknownName)
  C_BadNumber : Addr
  g_BadNumber : mg "BadNumber" = some (.ref C_BadNumber)
  C_UnknownPage : Addr
  g_UnknownPage : mg "UnknownPage" = some (.ref C_UnknownPage)
  ty_DepotError : PySem.W.typeIn K (.ref C_DepotError) = some (.type "type")
  bs_DepotError : PySem.W.subIn K (.ref C_DepotError) (.type "BaseException") = some true
  hd_DepotError : PySem.W.hasDictIn K C_DepotError = true
  ty_BadBook : PySem.W.typeIn K (.ref C_BadBook) = some (.type "type")
  bs_BadBook : PySem.W.subIn K (.ref C_BadBook) (.type "BaseException") = some true
  hd_BadBook : PySem.W.hasDictIn K C_BadBook = true
  ty_UnknownName : PySem.W.typeIn K (.ref C_UnknownName) = some (.type "type")
  bs_UnknownName : PySem.W.subIn K (.ref C_UnknownName) (.type "BaseException") = some true
  hd_UnknownName : PySem.W.hasDictIn K C_UnknownName = true
  ty_BadNumber : PySem.W.typeIn K (.ref C_BadNumber) = some (.type "type")
  bs_BadNumber : PySem.W.subIn K (.ref C_BadNumber) (.type "BaseException") = some true
  hd_BadNumber : PySem.W.hasDictIn K C_BadNumber = true
  ty_UnknownPage : PySem.W.typeIn K (.ref C_UnknownPage) = some (.type "type")
  bs_UnknownPage : PySem.W.subIn K (.ref C_UnknownPage) (.type "BaseException") = some true
  hd_UnknownPage : PySem.W.hasDictIn K C_UnknownPage = true
  kp_BadBook : PySem.W.keepIn K (.ref C_BadBook) = true
  ga_BadBook : PySem.W.findIn K (.ref C_BadBook) "__getattribute__" = some (some (.builtin "BaseException.__getattribute__"))
  gg_BadBook : PySem.W.findIn K (.ref C_BadBook) "__getattr__" = some none
  cl_BadBook : PySem.W.findIn K (.ref C_BadBook) "__class__" = some (some (.builtin "object.__class__"))
  mr_BadBook : PySem.W.mroIn K C_BadBook (.type "object") = some true
  sb_BadBook_ValueError : PySem.W.subIn K (.ref C_BadBook) (.type "ValueError") = some true
  no_BadBook_part : PySem.W.findIn K (.ref C_BadBook) "part" = some none
  no_BadBook_place : PySem.W.findIn K (.ref C_BadBook) "place" = some none
  sa_BadBook : PySem.W.findIn K (.ref C_BadBook) "__setattr__" = some (some (.builtin "object.__setattr__"))
  kp_BadNumber : PySem.W.keepIn K (.ref C_BadNumber) = true
  ga_BadNumber : PySem.W.findIn K (.ref C_BadNumber) "__getattribute__" = some (some (.builtin "BaseException.__getattribute__"))
  gg_BadNumber : PySem.W.findIn K (.ref C_BadNumber) "__getattr__" = some none
  cl_BadNumber : PySem.W.findIn K (.ref C_BadNumber) "__class__" = some (some (.builtin "object.__class__"))
  mr_BadNumber : PySem.W.mroIn K C_BadNumber (.type "object") = some true
  sb_BadNumber_ValueError : PySem.W.subIn K (.ref C_BadNumber) (.type "ValueError") = some true
  no_BadNumber_number : PySem.W.findIn K (.ref C_BadNumber) "number" = some none
  sa_BadNumber : PySem.W.findIn K (.ref C_BadNumber) "__setattr__" = some (some (.builtin "object.__setattr__"))
  kp_UnknownName : PySem.W.keepIn K (.ref C_UnknownName) = true
  ga_UnknownName : PySem.W.findIn K (.ref C_UnknownName) "__getattribute__" = some (some (.builtin "BaseException.__getattribute__"))
  gg_UnknownName : PySem.W.findIn K (.ref C_UnknownName) "__getattr__" = some none
  cl_UnknownName : PySem.W.findIn K (.ref C_UnknownName) "__class__" = some (some (.builtin "object.__class__"))
  mr_UnknownName : PySem.W.mroIn K C_UnknownName (.type "object") = some true
  sb_UnknownName_ValueError : PySem.W.subIn K (.ref C_UnknownName) (.type "ValueError") = some true
  no_UnknownName_name : PySem.W.findIn K (.ref C_UnknownName) "name" = some none
  sa_UnknownName : PySem.W.findIn K (.ref C_UnknownName) "__setattr__" = some (some (.builtin "object.__setattr__"))
  kp_UnknownPage : PySem.W.keepIn K (.ref C_UnknownPage) = true
  ga_UnknownPage : PySem.W.findIn K (.ref C_UnknownPage) "__getattribute__" = some (some (.builtin "BaseException.__getattribute__"))
  gg_UnknownPage : PySem.W.findIn K (.ref C_UnknownPage) "__getattr__" = some none
  cl_UnknownPage : PySem.W.findIn K (.ref C_UnknownPage) "__class__" = some (some (.builtin "object.__class__"))
  mr_UnknownPage : PySem.W.mroIn K C_UnknownPage (.type "object") = some true
  sb_UnknownPage_ValueError : PySem.W.subIn K (.ref C_UnknownPage) (.type "ValueError") = some true
  no_UnknownPage_number : PySem.W.findIn K (.ref C_UnknownPage) "number" = some none
  sa_UnknownPage : PySem.W.findIn K (.ref C_UnknownPage) "__setattr__" = some (some (.builtin "object.__setattr__"))
  sp_class : PySem.W.specialIn K (.builtin "object.__class__") "__get__" = some (some (.builtin "getset_descriptor.__get__"))
  tk_class : PySem.W.takesIn K (.builtin "object.__class__") = some true
  ic_Book : PySem.W.findIn K (.ref C_Book) "__class__" = some (some (.builtin "object.__class__"))
  mr_Book : PySem.W.mroIn K C_Book (.type "object") = some true
  ity_Book : PySem.W.typeIn K (.ref C_Book) = some (.type "type")
  isb_Book : PySem.W.subIn K (.ref C_Book) (.ref C_Book) = some true
  ihd_Book : PySem.W.hasDictIn K C_Book = true
  b_gcd : mg "gcd" = some (.builtin "math.gcd")
  ox_BadBook : OexC K C_BadBook
  ni_BadBook : PySem.W.findIn K (.ref C_BadBook) "__init__" = some (some (.ref fBadBook_init))
  ti_BadBook : PySem.W.typeIn K (.ref fBadBook_init) = some (.type "function")
  ox_BadNumber : OexC K C_BadNumber
  ni_BadNumber : PySem.W.findIn K (.ref C_BadNumber) "__init__" = some (some (.ref fBadNumber_init))
  ti_BadNumber : PySem.W.typeIn K (.ref fBadNumber_init) = some (.type "function")
  ox_UnknownName : OexC K C_UnknownName
  ni_UnknownName : PySem.W.findIn K (.ref C_UnknownName) "__init__" = some (some (.ref fUnknownName_init))
  ti_UnknownName : PySem.W.typeIn K (.ref fUnknownName_init) = some (.type "function")
  ox_UnknownPage : OexC K C_UnknownPage
  ni_UnknownPage : PySem.W.findIn K (.ref C_UnknownPage) "__init__" = some (some (.ref fUnknownPage_init))
  ti_UnknownPage : PySem.W.typeIn K (.ref fUnknownPage_init) = some (.type "function")
end DD
namespace DD
open PySem PySem.Spec PyProof.Rows L2 KO SX RF
section
variable {P : Program} {w : World} {K : PySem.W.Frag} {mg : Str → Option Value} {base : Heap}
/-! ### cell, pool, take -/
def spCell (K : PySem.W.Frag) : Sp := fun vs H Q _ => ∃ (a : Addr) (ns : List Int) (k : Nat), vs = [.ref a, .int k] ∧ SqL K H a (ns.map V.int) ∧ ∀ i : Int, Q (.int i) H
theorem scCell : FnScope ["_law_script", "_law_k"] ["_law_script", "_law_k"] (defScope sLcell) := ⟨rfl, rfl, rfl, by decide +kernel, rfl, by decide +kernel, by decide +kernel⟩
theorem ok_cell (T : Tx K mg) : FnOk P w K mg base CX0 1 T.f_law_cell T.d_law_cell ["_law_script", "_law_k"] (spCell K) := by
  refine T.F_law_cell.ok scCell (fun vs H Q E h => ?_) (fun cdv A outer s H vs Q E hr h => ?_)
  · obtain ⟨a, ns, k, rfl, _⟩ := h
    rfl
  · obtain ⟨a, ns, k, rfl, hS, q⟩ := h
    refine ⟨_, pss_cons (ps_if (pt_cmpR op_lt (pv 1) (pe_callB call_len_seq (by rfl) T.z_len (by decide +kernel) (pa_cons (pv 0) pa_nil)) (nomark _)) (pss_one (ps_ret (pe_callB call_abs (by rfl) T.z_abs (by decide +kernel) (pa_cons (pe_ix ix_list (pv 0) (pv 1) (fun _ _ => rfl)) pa_nil)))) (pss_nil))
      (pss_one (ps_ret pe_int)), ?_⟩
    refine ⟨_, rfl, _, rfl, a, _, rfl, .inl hS, _, _, rfl, rfl, _, rfl, iteDs (fun h => ?_) (fun _ => q _)⟩
    have hk : k < ns.length := by
      rw [List.length_map] at h
      omega
    refine ⟨_, rfl, _, rfl, a, _, _, .int ns[k], rfl, rfl, hS, atI_nat (by rw [List.getElem?_map, List.getElem?_eq_getElem hk]; rfl), _, rfl, q _⟩
theorem scPool : FnScope ["_law_script", "_law_k", "_law_cell_here"] ["_law_script", "_law_k"] (defScope sLpool) := ⟨rfl, rfl, rfl, by decide +kernel, rfl, by decide +kernel, by decide +kernel⟩
theorem ok_pool (T : Tx K mg) : FnOk P w K mg base CX0 2 T.f_law_pool T.d_law_pool ["_law_script", "_law_k"] (spPool K) := by
  have G_law_cell := ok_cell (P := P) (w := w) (base := base) T
  refine T.F_law_pool.ok scPool (fun vs H Q E h => ?_) (fun cdv A outer s H vs Q E hr h => ?_)
  · obtain ⟨a, ns, k, rfl, _⟩ := h
    rfl
  · obtain ⟨a, ns, k, rfl, hS, hk, q⟩ := h
    refine ⟨_, pss_cons (ps_set (i := 2) scPool.nd rfl (.inl rfl) (pe_call G_law_cell hr (by rfl) T.g_law_cell T.F_law_cell.kp T.b_law_cell .nil pass0 (pa_cons (pv 0) (pa_cons (pv 1) pa_nil))))
      (pss_one (ps_ret (pe_lst (pa_cons (pv 2) (pa_cons (pe_callTy call_int1 (by rfl) T.z_int (by decide +kernel) (pa_cons (pe_cmpR op_ge (pv 2) (pe_op op_pow pe_int pe_int) (nomark _)) pa_nil)) (pa_cons (pe_op op_mul pe_int (pv 1)) pa_nil)))))), ?_⟩
    refine ⟨_, rfl, _, rfl, a, ns, k, rfl, hS, fun i => ?_⟩
    refine ⟨_, rfl, _, rfl, _, _, rfl, rfl, ⟨by decide, by decide, by decide⟩, _, _, rfl, rfl, .inr ⟨_, rfl, _, rfl, _, _, rfl, rfl, .inl ⟨by decide, by decide⟩, (by show 3 ≤ sizeLine; decide), fun p hp => ?_⟩⟩
    exact q _ p hp (same_upd hp) ⟨_, _, _, upd_same⟩
theorem scTake : FnScope ["_law_pool_here", "_law_many", "_law_drawn", "_law_mixed"] ["_law_pool_here", "_law_many"] (defScope sLtake) := ⟨rfl, rfl, rfl, by decide +kernel, rfl, by decide +kernel, by decide +kernel⟩
theorem mulOk {i j : Int} (h : 0 ≤ j) (h2 : j < 1000000) : CMul i j := .inr ⟨by omega, by omega⟩
/-- a remainder as a letter -/
theorem rmod {i j : Int} {R : Int → Prop} (hj : 0 < j) (q : ∀ r : Int, 0 ≤ r → r < j → R r) : ∃ r : Int, i % j = r ∧ 0 ≤ r ∧ r < j ∧ R r :=
  ⟨i % j, rfl, Int.emod_nonneg _ (by omega), Int.emod_lt_of_pos _ hj, q _ (Int.emod_nonneg _ (by omega)) (Int.emod_lt_of_pos _ hj)⟩
theorem emod_b (i : Int) {j : Int} (hj : 0 < j) : 0 ≤ i % j ∧ i % j < j := ⟨Int.emod_nonneg _ (by omega), Int.emod_lt_of_pos _ hj⟩
theorem ok_take (T : Tx K mg) : FnOk P w K mg base CX0 1 T.f_law_take T.d_law_take ["_law_pool_here", "_law_many"] spTake := by
  refine T.F_law_take.ok scTake (fun vs H Q E h => ?_) (fun cdv A outer s H vs Q E hr h => ?_)
  · obtain ⟨p, m, rfl, _⟩ := h
    rfl
  · obtain ⟨p, m, rfl, ⟨x, f, c, hp⟩, hm, hm2, q⟩ := h
    refine ⟨_, pss_cons (ps_if (PW.pt (pw_and (pt_cmpR op_eq (pe_ix ix_list (pv 0) pe_int (fun _ _ => rfl)) pe_int (nomark _)) (pw_and1 (pt_cmpR op_gt (pe_ix ix_list (pv 0) pe_int (fun _ _ => rfl)) pe_int (nomark _))))) (pss_cons (ps_set (i := 2) scTake.nd rfl (.inl rfl) (pe_op op_mod (pe_callTy call_int1 (by rfl) T.z_int (by decide +kernel) (pa_cons (pe_ix ix_list (pv 0) pe_int (fun _ _ => rfl)) pa_nil)) (pv 1)))
      (pss_cons (ps_asg (pe_op op_fdivW (pe_ix ix_list (pv 0) pe_int (fun _ _ => rfl)) (pv 1)) (pg_sub (pv 0) pe_int set_list))
      (pss_one (ps_ret (pv 2))))) (pss_nil))
      (pss_cons (ps_asg (pe_op op_add (pe_ix ix_list (pv 0) pe_int (fun _ _ => rfl)) pe_int) (pg_sub (pv 0) pe_int set_list))
      (pss_cons (ps_set (i := 3) scTake.nd rfl (.inl rfl) (pe_op op_mod (pe_callTy call_int1 (by rfl) T.z_int (by decide +kernel) (pa_cons (pe_op op_add (pe_op op_mul (pe_op op_add (pe_ix ix_list (pv 0) pe_int (fun _ _ => rfl)) pe_int) pe_int) (pe_op op_mul (pe_ix ix_list (pv 0) pe_int (fun _ _ => rfl)) pe_int)) pa_nil)) pe_int))
      (pss_cons (ps_set (i := 3) scTake.nd rfl (.inl rfl) (pe_op op_mod (pe_callTy call_int1 (by rfl) T.z_int (by decide +kernel) (pa_cons (pe_op op_add (pe_op op_mul (pv 3) pe_int) (pe_op op_mul (pe_ix ix_list (pv 0) pe_int (fun _ _ => rfl)) pe_int)) pa_nil)) pe_int))
      (pss_cons (ps_if (pt_cmpR op_gt (pe_ix ix_list (pv 0) pe_int (fun _ _ => rfl)) pe_int (nomark _)) (pss_one (ps_set (i := 3) scTake.nd rfl (.inl rfl) (pe_op op_mod (pe_callTy call_int1 (by rfl) T.z_int (by decide +kernel) (pa_cons (pe_op op_mul (pe_op op_fdiv (pv 3) pe_int) (pe_op op_add (pe_op op_add (pe_op op_fdiv (pv 3) pe_int) (pe_ix ix_list (pv 0) pe_int (fun _ _ => rfl))) pe_int)) pa_nil)) pe_int))) (pss_nil))
      (pss_one (ps_ret (pe_op op_mod (pe_callTy call_int1 (by rfl) T.z_int (by decide +kernel) (pa_cons (pe_op op_fdiv (pv 3) pe_int) pa_nil)) (pv 1)))))))), ?_⟩
    have hL := SqL.of (K := K) hp
    -- pool[1] == 1 and pool[0] > 1
    refine ⟨_, rfl, p, _, _, _, rfl, rfl, hL, rfl, rfl, _, rfl, ?_⟩
    refine iteDs (fun h1 => ⟨_, rfl, p, _, _, _, rfl, rfl, hL, rfl, _, _, rfl, rfl, _, rfl, iteDs (fun h2 => ?c) (fun _ => ?t1)⟩) (fun _ => ?t2)
    case c =>
      refine ⟨_, rfl, p, _, _, _, rfl, rfl, hL, rfl, .inl ⟨_, rfl, _, rfl, _, _, rfl, rfl, hm, ?_⟩⟩
      have hb := emod_b x hm
      refine ⟨_, rfl, p, _, _, _, rfl, rfl, hL, rfl, _, rfl, _, _, rfl, rfl, wide_div (b := 60) hm (by omega) (by decide) (by decide), _, rfl, p, _, _, _, rfl, rfl, hp, rfl, ?_⟩
      exact ⟨_, rfl, q _ _ hb.1 hb.2 ⟨But.put, _, _, _, upd_same⟩⟩
    all_goals
      refine ⟨_, rfl, p, _, _, _, rfl, rfl, hL, rfl, _, _, rfl, rfl, _, rfl, p, _, _, _, rfl, rfl, hp, rfl, ?_⟩
      have hp1 : (upd H p (.lst (([.int x, .int f, .int c] : List V).set 2 (.int (c + 1))))) p = some (.lst [.int x, .int f, .int (c + 1)]) := upd_same
      have hL1 := SqL.of (K := K) hp1
      refine ⟨_, rfl, p, _, _, _, rfl, rfl, hL1, rfl, _, _, rfl, rfl, _, _, rfl, rfl, mulOk (by decide) (by decide), _, rfl, p, _, _, _, rfl, rfl, hL1, rfl, _, _, rfl, rfl, mulOk (by decide) (by decide), _, _, rfl, rfl, .inl ⟨_, rfl, _, _, rfl, rfl, (show (0 : Int) < 2147483629 by decide), ?_⟩⟩
      refine ⟨_, rfl, _, _, rfl, rfl, mulOk (by decide) (by decide), _, rfl, p, _, _, _, rfl, rfl, hL1, rfl, _, _, rfl, rfl, mulOk (by decide) (by decide), _, _, rfl, rfl, .inl ⟨_, rfl, _, _, rfl, rfl, (show (0 : Int) < 2147483587 by decide), ?_⟩⟩
      refine ⟨_, rfl, p, _, _, _, rfl, rfl, hL1, rfl, _, _, rfl, rfl, _, rfl, iteDs (fun _ => ?_) (fun _ => ?_)⟩
      · refine ⟨_, rfl, _, _, rfl, rfl, ⟨by decide, by decide⟩, _, rfl, _, _, rfl, rfl, ⟨by decide, by decide⟩, _, rfl, p, _, _, _, rfl, rfl, hL1, rfl, _, _, rfl, rfl, _, _, rfl, rfl, _, _, rfl, rfl, .inl ⟨by omega, by omega⟩, .inl ⟨_, rfl, _, _, rfl, rfl, (show (0 : Int) < 2147483563 by decide), ?_⟩⟩
        refine ⟨_, rfl, _, _, rfl, rfl, ⟨by decide, by decide⟩, .inl ⟨_, rfl, _, rfl, _, _, rfl, rfl, hm, ?_⟩⟩
        exact q _ _ (emod_b _ hm).1 (emod_b _ hm).2 ⟨But.put, _, _, _, hp1⟩
      · refine ⟨_, rfl, _, _, rfl, rfl, ⟨by decide, by decide⟩, .inl ⟨_, rfl, _, rfl, _, _, rfl, rfl, hm, ?_⟩⟩
        exact q _ _ (emod_b _ hm).1 (emod_b _ hm).2 ⟨But.put, _, _, _, hp1⟩
end
end DD
namespace DD
open PySem PySem.Spec PyProof.Rows L2 KO SX RF
section
variable {P : Program} {w : World} {K : PySem.W.Frag} {mg : Str → Option Value} {base : Heap}
def spSame (n : Nat) : Sp := fun vs H Q _ => ∃ (u v : V) (d : PyData), vs = [u, v] ∧ Dt n H u d ∧ Dt n H v d ∧ Q (.bl true) H
theorem scSame : FnScope ["_law_got", "_law_due", "_law_k"] ["_law_got", "_law_due"] (defScope sLsame) := ⟨rfl, rfl, rfl, by decide +kernel, rfl, by decide +kernel, by decide +kernel⟩
theorem ok_same (T : Tx K mg) : ∀ n : Nat, FnOk P w K mg base CX0 n T.f_law_same T.d_law_same ["_law_got", "_law_due"] (spSame n)
  | 0 => ⟨fun vs H Q E ⟨u, v, d, _, h, _⟩ => h.elim, fun A outer s H args us vs Q E _ _ _ _ ⟨u, v, d, _, h, _⟩ => h.elim⟩
  | n + 1 => by
    have G_law_same := ok_same T n
    refine T.F_law_same.ok scSame (fun vs H Q E h => ?_) (fun cdv A outer s H vs Q E hr h => ?_)
    · obtain ⟨u, v, d, rfl, _⟩ := h
      rfl
    · obtain ⟨u, v, d, rfl, hR, hR2, q⟩ := h
      cases d with
      | dict kv => exact hR.elim
      | bool i =>
        obtain rfl : u = _ := hR
        obtain rfl : v = _ := hR2
        refine ⟨_, pss_cons (ps_if (PW.pt (pw_or (pt_val (pe_callB call_isi (by rfl) T.z_isinstance (by decide +kernel) (pa_cons (pv 0) (pa_cons (pe_bltn (v := .ty "bool") (by rfl) T.z_bool (by decide +kernel) rfl) pa_nil)))) (pw_or1 (pt_val (pe_callB call_isi (by rfl) T.z_isinstance (by decide +kernel) (pa_cons (pv 1) (pa_cons (pe_bltn (v := .ty "bool") (by rfl) T.z_bool (by decide +kernel) rfl) pa_nil))))))) (pss_one (ps_ret (pe_and (pe_callB call_isi (by rfl) T.z_isinstance (by decide +kernel) (pa_cons (pv 0) (pa_cons (pe_bltn (v := .ty "bool") (by rfl) T.z_bool (by decide +kernel) rfl) pa_nil))) (pe_and (pe_callB call_isi (by rfl) T.z_isinstance (by decide +kernel) (pa_cons (pv 1) (pa_cons (pe_bltn (v := .ty "bool") (by rfl) T.z_bool (by decide +kernel) rfl) pa_nil))) (pe_one (pe_cmpR op_eq (pv 0) (pv 1) (nomark _))))))) (pss_nil)) (pss_cons ps_never (pss_cons ps_never (pss_cons ps_never (pss_cons ps_never (pss_cons ps_never (pss_cons ps_never (pss_cons ps_never (pss_one ps_never)))))))), ?_⟩
        refine ⟨_, rfl, _, _, _, _, _, rfl, .ty _, (.base (.bl i)), kit_ty (by decide +kernel), ⟨_, rfl, iteT (iteT ?_)⟩⟩
        refine ⟨_, rfl, _, _, _, _, _, rfl, .ty _, (.base (.bl i)), kit_ty (by decide +kernel), ⟨_, rfl, iteT ⟨_, rfl, _, _, _, _, _, rfl, .ty _, (.base (.bl i)), kit_ty (by decide +kernel), ⟨_, rfl, iteT ⟨_, rfl, _, rfl, rfl, ?_⟩⟩⟩⟩⟩
        rw [decide_eq_true rfl]
        exact q
      | none =>
        obtain rfl : u = _ := hR
        obtain rfl : v = _ := hR2
        refine ⟨_, pss_cons (ps_if (PW.pt (pw_or (pt_val (pe_callB call_isi (by rfl) T.z_isinstance (by decide +kernel) (pa_cons (pv 0) (pa_cons (pe_bltn (v := .ty "bool") (by rfl) T.z_bool (by decide +kernel) rfl) pa_nil)))) (pw_or1 (pt_val (pe_callB call_isi (by rfl) T.z_isinstance (by decide +kernel) (pa_cons (pv 1) (pa_cons (pe_bltn (v := .ty "bool") (by rfl) T.z_bool (by decide +kernel) rfl) pa_nil))))))) (pss_one ps_never) (pss_nil))
          (pss_cons (ps_if (PW.pt (pw_or (pt_cmpR op_isN (pv 0) pe_non (nomark _)) (pw_or1 (pt_cmpR op_isN (pv 1) pe_non (nomark _))))) (pss_one (ps_ret (pe_and (pe_cmpR op_isN (pv 0) pe_non (nomark _)) (pe_one (pe_cmpR op_isN (pv 1) pe_non (nomark _)))))) (pss_nil)) (pss_cons ps_never (pss_cons ps_never (pss_cons ps_never (pss_cons ps_never (pss_cons ps_never (pss_cons ps_never (pss_one ps_never)))))))), ?_⟩
        refine ⟨_, rfl, _, _, _, _, _, rfl, .ty _, (.base .non), kit_ty (by decide +kernel), ⟨_, rfl, iteF ⟨_, rfl, _, _, _, _, _, rfl, .ty _, (.base .non), kit_ty (by decide +kernel), ⟨_, rfl, iteF ?_⟩⟩⟩⟩
        refine ⟨_, rfl, rfl, _, rfl, iteDT rfl (iteT ?_)⟩
        refine ⟨_, rfl, rfl, _, rfl, iteDT rfl ?_⟩
        refine ⟨_, rfl, rfl, ?_⟩
        rw [decide_eq_true rfl]
        exact q
      | str i =>
        obtain rfl : u = _ := hR
        obtain rfl : v = _ := hR2
        refine ⟨_, pss_cons (ps_if (PW.pt (pw_or (pt_val (pe_callB call_isi (by rfl) T.z_isinstance (by decide +kernel) (pa_cons (pv 0) (pa_cons (pe_bltn (v := .ty "bool") (by rfl) T.z_bool (by decide +kernel) rfl) pa_nil)))) (pw_or1 (pt_val (pe_callB call_isi (by rfl) T.z_isinstance (by decide +kernel) (pa_cons (pv 1) (pa_cons (pe_bltn (v := .ty "bool") (by rfl) T.z_bool (by decide +kernel) rfl) pa_nil))))))) (pss_one ps_never) (pss_nil))
          (pss_cons (ps_if (PW.pt (pw_or (pt_cmpR op_isN (pv 0) pe_non (nomark _)) (pw_or1 (pt_cmpR op_isN (pv 1) pe_non (nomark _))))) (pss_one ps_never) (pss_nil))
          (pss_cons (ps_if (pt_val (pe_callB call_isi (by rfl) T.z_isinstance (by decide +kernel) (pa_cons (pv 1) (pa_cons (pe_bltn (v := .ty "int") (by rfl) T.z_int (by decide +kernel) rfl) pa_nil)))) (pss_one ps_never) (pss_nil))
          (pss_cons (ps_if (pt_val (pe_callB call_isi (by rfl) T.z_isinstance (by decide +kernel) (pa_cons (pv 1) (pa_cons (pe_bltn (v := .ty "str") (by rfl) T.z_str (by decide +kernel) rfl) pa_nil)))) (pss_one (ps_ret (pe_and (pe_callB call_isi (by rfl) T.z_isinstance (by decide +kernel) (pa_cons (pv 0) (pa_cons (pe_bltn (v := .ty "str") (by rfl) T.z_str (by decide +kernel) rfl) pa_nil))) (pe_one (pe_cmpR op_eq (pv 0) (pv 1) (nomark _)))))) (pss_nil)) (pss_cons ps_never (pss_cons ps_never (pss_cons ps_never (pss_cons ps_never (pss_one ps_never)))))))), ?_⟩
        refine ⟨_, rfl, _, _, _, _, _, rfl, .ty _, (.base (.str i)), kit_ty (by decide +kernel), ⟨_, rfl, iteF ⟨_, rfl, _, _, _, _, _, rfl, .ty _, (.base (.str i)), kit_ty (by decide +kernel), ⟨_, rfl, iteF ?_⟩⟩⟩⟩
        refine ⟨_, rfl, rfl, _, rfl, iteD (by intro z; cases z) ⟨_, rfl, rfl, _, rfl, iteD (by intro z; cases z) ?_⟩⟩
        refine ⟨_, rfl, _, _, _, _, _, rfl, .ty _, (.base (.str i)), kit_ty (by decide +kernel), ⟨_, rfl, iteF ?_⟩⟩
        refine ⟨_, rfl, _, _, _, _, _, rfl, .ty _, (.base (.str i)), kit_ty (by decide +kernel), ⟨_, rfl, iteT ⟨_, rfl, _, _, _, _, _, rfl, .ty _, (.base (.str i)), kit_ty (by decide +kernel), ⟨_, rfl, iteT ⟨_, rfl, _, rfl, rfl, ?_⟩⟩⟩⟩⟩
        rw [decide_eq_true rfl]
        exact q
      | int i =>
        obtain rfl : u = _ := hR
        obtain rfl : v = _ := hR2
        refine ⟨_, pss_cons (ps_if (PW.pt (pw_or (pt_val (pe_callB call_isi (by rfl) T.z_isinstance (by decide +kernel) (pa_cons (pv 0) (pa_cons (pe_bltn (v := .ty "bool") (by rfl) T.z_bool (by decide +kernel) rfl) pa_nil)))) (pw_or1 (pt_val (pe_callB call_isi (by rfl) T.z_isinstance (by decide +kernel) (pa_cons (pv 1) (pa_cons (pe_bltn (v := .ty "bool") (by rfl) T.z_bool (by decide +kernel) rfl) pa_nil))))))) (pss_one ps_never) (pss_nil))
          (pss_cons (ps_if (PW.pt (pw_or (pt_cmpR op_isN (pv 0) pe_non (nomark _)) (pw_or1 (pt_cmpR op_isN (pv 1) pe_non (nomark _))))) (pss_one ps_never) (pss_nil))
          (pss_cons (ps_if (pt_val (pe_callB call_isi (by rfl) T.z_isinstance (by decide +kernel) (pa_cons (pv 1) (pa_cons (pe_bltn (v := .ty "int") (by rfl) T.z_int (by decide +kernel) rfl) pa_nil)))) (pss_one (ps_ret (pe_and (pe_callB call_isi (by rfl) T.z_isinstance (by decide +kernel) (pa_cons (pv 0) (pa_cons (pe_bltn (v := .ty "int") (by rfl) T.z_int (by decide +kernel) rfl) pa_nil))) (pe_one (pe_cmpR op_eq (pv 0) (pv 1) (nomark _)))))) (pss_nil))
          (pss_cons ps_never (pss_cons ps_never (pss_cons ps_never (pss_cons ps_never (pss_cons ps_never (pss_one ps_never)))))))), ?_⟩
        refine ⟨_, rfl, _, _, _, _, _, rfl, .ty _, (.base (.int i)), kit_ty (by decide +kernel), ⟨_, rfl, iteF ⟨_, rfl, _, _, _, _, _, rfl, .ty _, (.base (.int i)), kit_ty (by decide +kernel), ⟨_, rfl, iteF ?_⟩⟩⟩⟩
        refine ⟨_, rfl, rfl, _, rfl, iteD (by intro z; cases z) ⟨_, rfl, rfl, _, rfl, iteD (by intro z; cases z) ?_⟩⟩
        refine ⟨_, rfl, _, _, _, _, _, rfl, .ty _, (.base (.int i)), kit_ty (by decide +kernel), ⟨_, rfl, iteT ⟨_, rfl, _, _, _, _, _, rfl, .ty _, (.base (.int i)), kit_ty (by decide +kernel), ⟨_, rfl, iteT ⟨_, rfl, _, rfl, rfl, ?_⟩⟩⟩⟩⟩
        rw [decide_eq_true rfl]
        exact q
      | list ds =>
        obtain ⟨a, xs, rfl, h1, hl1, hz, r1⟩ := hR
        obtain ⟨b, ys, rfl, h2, hl2, _, r2⟩ := hR2
        refine ⟨_, pss_cons (ps_if (PW.pt (pw_or (pt_val (pe_callB call_isi (by rfl) T.z_isinstance (by decide +kernel) (pa_cons (pv 0) (pa_cons (pe_bltn (v := .ty "bool") (by rfl) T.z_bool (by decide +kernel) rfl) pa_nil)))) (pw_or1 (pt_val (pe_callB call_isi (by rfl) T.z_isinstance (by decide +kernel) (pa_cons (pv 1) (pa_cons (pe_bltn (v := .ty "bool") (by rfl) T.z_bool (by decide +kernel) rfl) pa_nil))))))) (pss_one ps_never) (pss_nil))
          (pss_cons (ps_if (PW.pt (pw_or (pt_cmpR op_isN (pv 0) pe_non (nomark _)) (pw_or1 (pt_cmpR op_isN (pv 1) pe_non (nomark _))))) (pss_one ps_never) (pss_nil))
          (pss_cons (ps_if (pt_val (pe_callB call_isi (by rfl) T.z_isinstance (by decide +kernel) (pa_cons (pv 1) (pa_cons (pe_bltn (v := .ty "int") (by rfl) T.z_int (by decide +kernel) rfl) pa_nil)))) (pss_one ps_never) (pss_nil))
          (pss_cons (ps_if (pt_val (pe_callB call_isi (by rfl) T.z_isinstance (by decide +kernel) (pa_cons (pv 1) (pa_cons (pe_bltn (v := .ty "str") (by rfl) T.z_str (by decide +kernel) rfl) pa_nil)))) (pss_one ps_never) (pss_nil))
          (pss_cons (ps_if (PW.pt (pw_and (pt_val (pe_callB call_isi (by rfl) T.z_isinstance (by decide +kernel) (pa_cons (pv 1) (pa_cons (pe_bltn (v := .ty "list") (by rfl) T.z_list (by decide +kernel) rfl) pa_nil)))) (pw_and1 (pt_not (pt_val (pe_callB call_isi (by rfl) T.z_isinstance (by decide +kernel) (pa_cons (pv 0) (pa_cons (pe_bltn (v := .ty "list") (by rfl) T.z_list (by decide +kernel) rfl) pa_nil)))))))) (pss_one ps_never) (pss_nil))
          (pss_cons (ps_if (PW.pt (pw_and (pt_val (pe_callB call_isi (by rfl) T.z_isinstance (by decide +kernel) (pa_cons (pv 1) (pa_cons (pe_bltn (v := .ty "tuple") (by rfl) T.z_tuple (by decide +kernel) rfl) pa_nil)))) (pw_and1 (pt_not (pt_val (pe_callB call_isi (by rfl) T.z_isinstance (by decide +kernel) (pa_cons (pv 0) (pa_cons (pe_bltn (v := .ty "tuple") (by rfl) T.z_tuple (by decide +kernel) rfl) pa_nil)))))))) (pss_one ps_never) (pss_nil))
          (pss_cons (ps_if (pt_cmpR op_ne (pe_callB call_len_seq (by rfl) T.z_len (by decide +kernel) (pa_cons (pv 0) pa_nil)) (pe_callB call_len_seq (by rfl) T.z_len (by decide +kernel) (pa_cons (pv 1) pa_nil)) (nomark _)) (pss_one ps_never) (pss_nil))
          (pss_cons (ps_for PassesOwn.never rfl (pi_range1 (by rfl) T.z_range (pa_cons (pe_callB call_len_seq (by rfl) T.z_len (by decide +kernel) (pa_cons (pv 1) pa_nil)) pa_nil)) (pg_name (i := 2) scSame.nd rfl (.inl rfl))
            (pss_one (ps_if (pt_not (pt_val (pe_call G_law_same hr (by rfl) T.g_law_same T.F_law_same.kp T.b_law_same .nil pass0 (pa_cons (pe_ix ix_seq (pv 0) (pv 2) (fun _ _ => rfl)) (pa_cons (pe_ix ix_seq (pv 1) (pv 2) (fun _ _ => rfl)) pa_nil))))) (pss_one ps_never) (pss_nil))))
          (pss_one (ps_ret pe_bl))))))))), ?_⟩
        have ta : TyX K H (.ref a) (.type "list") := .base (.lst h1)
        have tb : TyX K H (.ref b) (.type "list") := .base (.lst h2)
        refine ⟨_, rfl, _, _, _, _, _, rfl, .ty _, ta, kit_ty (by decide +kernel), ⟨_, rfl, iteF ⟨_, rfl, _, _, _, _, _, rfl, .ty _, tb, kit_ty (by decide +kernel), ⟨_, rfl, iteF ?_⟩⟩⟩⟩
        refine ⟨_, rfl, rfl, _, rfl, iteD (by intro z; cases z) ⟨_, rfl, rfl, _, rfl, iteD (by intro z; cases z) ?_⟩⟩
        refine ⟨_, rfl, _, _, _, _, _, rfl, .ty _, tb, kit_ty (by decide +kernel), ⟨_, rfl, iteF ⟨_, rfl, _, _, _, _, _, rfl, .ty _, tb, kit_ty (by decide +kernel), ⟨_, rfl, iteF ?_⟩⟩⟩⟩
        refine ⟨_, rfl, _, _, _, _, _, rfl, .ty _, tb, kit_ty (by decide +kernel), _, rfl, iteT ⟨_, rfl, _, _, _, _, _, rfl, .ty _, ta, kit_ty (r := true) (by decide +kernel), _, rfl, iteF ?_⟩⟩
        refine ⟨_, rfl, _, _, _, _, _, rfl, .ty _, tb, kit_ty (by decide +kernel), _, rfl, iteF (iteF ?_)⟩
        refine ⟨_, rfl, a, _, rfl, .inl (SqL.of h1), _, rfl, b, _, rfl, .inl (SqL.of h2), rfl, _, rfl, iteND (by rw [hl1, hl2]) ?_⟩
        refine ⟨_, rfl, b, _, rfl, .inl (SqL.of h2), _, rfl, by omega, by omega, for_range (lo := 0) (n := ys.length) (fun _ σ H' => (∃ v, σ = [some (.ref a), some (.ref b), v]) ∧ H' = H) ⟨⟨none, rfl⟩, rfl⟩ ?_ ?_⟩
        · rintro i σ H' hi ⟨⟨v, rfl⟩, rfl⟩
          have hx := List.getElem?_eq_getElem (l := xs) (i := i) (by omega)
          have hy := List.getElem?_eq_getElem (l := ys) (i := i) (by omega)
          have hd := List.getElem?_eq_getElem (l := ds) (i := i) (by omega)
          have e0 : (0 : Int) + (i : Int) = (i : Int) := by omega
          refine ⟨_, rfl, _, rfl, .inl ⟨a, xs, _, _, rfl, rfl, SqL.of h1, at_of' e0 hx, ?_⟩⟩
          refine ⟨_, rfl, _, rfl, .inl ⟨b, ys, _, _, rfl, rfl, SqL.of h2, at_of' e0 hy, ?_⟩⟩
          exact ⟨_, _, _, rfl, r1 i _ _ hx hd, r2 i _ _ hy hd, _, rfl, iteF ⟨⟨_, rfl⟩, rfl⟩⟩
        · rintro σ H' ⟨⟨v, rfl⟩, rfl⟩
          exact q
      | tuple ds =>
        obtain ⟨a, xs, rfl, h1, hl1, hz, r1⟩ := hR
        obtain ⟨b, ys, rfl, h2, hl2, _, r2⟩ := hR2
        refine ⟨_, pss_cons (ps_if (PW.pt (pw_or (pt_val (pe_callB call_isi (by rfl) T.z_isinstance (by decide +kernel) (pa_cons (pv 0) (pa_cons (pe_bltn (v := .ty "bool") (by rfl) T.z_bool (by decide +kernel) rfl) pa_nil)))) (pw_or1 (pt_val (pe_callB call_isi (by rfl) T.z_isinstance (by decide +kernel) (pa_cons (pv 1) (pa_cons (pe_bltn (v := .ty "bool") (by rfl) T.z_bool (by decide +kernel) rfl) pa_nil))))))) (pss_one ps_never) (pss_nil))
          (pss_cons (ps_if (PW.pt (pw_or (pt_cmpR op_isN (pv 0) pe_non (nomark _)) (pw_or1 (pt_cmpR op_isN (pv 1) pe_non (nomark _))))) (pss_one ps_never) (pss_nil))
          (pss_cons (ps_if (pt_val (pe_callB call_isi (by rfl) T.z_isinstance (by decide +kernel) (pa_cons (pv 1) (pa_cons (pe_bltn (v := .ty "int") (by rfl) T.z_int (by decide +kernel) rfl) pa_nil)))) (pss_one ps_never) (pss_nil))
          (pss_cons (ps_if (pt_val (pe_callB call_isi (by rfl) T.z_isinstance (by decide +kernel) (pa_cons (pv 1) (pa_cons (pe_bltn (v := .ty "str") (by rfl) T.z_str (by decide +kernel) rfl) pa_nil)))) (pss_one ps_never) (pss_nil))
          (pss_cons (ps_if (PW.pt (pw_and (pt_val (pe_callB call_isi (by rfl) T.z_isinstance (by decide +kernel) (pa_cons (pv 1) (pa_cons (pe_bltn (v := .ty "list") (by rfl) T.z_list (by decide +kernel) rfl) pa_nil)))) (pw_and1 (pt_not (pt_val (pe_callB call_isi (by rfl) T.z_isinstance (by decide +kernel) (pa_cons (pv 0) (pa_cons (pe_bltn (v := .ty "list") (by rfl) T.z_list (by decide +kernel) rfl) pa_nil)))))))) (pss_one ps_never) (pss_nil))
          (pss_cons (ps_if (PW.pt (pw_and (pt_val (pe_callB call_isi (by rfl) T.z_isinstance (by decide +kernel) (pa_cons (pv 1) (pa_cons (pe_bltn (v := .ty "tuple") (by rfl) T.z_tuple (by decide +kernel) rfl) pa_nil)))) (pw_and1 (pt_not (pt_val (pe_callB call_isi (by rfl) T.z_isinstance (by decide +kernel) (pa_cons (pv 0) (pa_cons (pe_bltn (v := .ty "tuple") (by rfl) T.z_tuple (by decide +kernel) rfl) pa_nil)))))))) (pss_one ps_never) (pss_nil))
          (pss_cons (ps_if (pt_cmpR op_ne (pe_callB call_len_seq (by rfl) T.z_len (by decide +kernel) (pa_cons (pv 0) pa_nil)) (pe_callB call_len_seq (by rfl) T.z_len (by decide +kernel) (pa_cons (pv 1) pa_nil)) (nomark _)) (pss_one ps_never) (pss_nil))
          (pss_cons (ps_for PassesOwn.never rfl (pi_range1 (by rfl) T.z_range (pa_cons (pe_callB call_len_seq (by rfl) T.z_len (by decide +kernel) (pa_cons (pv 1) pa_nil)) pa_nil)) (pg_name (i := 2) scSame.nd rfl (.inl rfl))
            (pss_one (ps_if (pt_not (pt_val (pe_call G_law_same hr (by rfl) T.g_law_same T.F_law_same.kp T.b_law_same .nil pass0 (pa_cons (pe_ix ix_seq (pv 0) (pv 2) (fun _ _ => rfl)) (pa_cons (pe_ix ix_seq (pv 1) (pv 2) (fun _ _ => rfl)) pa_nil))))) (pss_one ps_never) (pss_nil))))
          (pss_one (ps_ret pe_bl))))))))), ?_⟩
        have ta : TyX K H (.ref a) (.type "tuple") := tyx_tup h1
        have tb : TyX K H (.ref b) (.type "tuple") := tyx_tup h2
        refine ⟨_, rfl, _, _, _, _, _, rfl, .ty _, ta, kit_ty (by decide +kernel), ⟨_, rfl, iteF ⟨_, rfl, _, _, _, _, _, rfl, .ty _, tb, kit_ty (by decide +kernel), ⟨_, rfl, iteF ?_⟩⟩⟩⟩
        refine ⟨_, rfl, rfl, _, rfl, iteD (by intro z; cases z) ⟨_, rfl, rfl, _, rfl, iteD (by intro z; cases z) ?_⟩⟩
        refine ⟨_, rfl, _, _, _, _, _, rfl, .ty _, tb, kit_ty (by decide +kernel), ⟨_, rfl, iteF ⟨_, rfl, _, _, _, _, _, rfl, .ty _, tb, kit_ty (by decide +kernel), ⟨_, rfl, iteF ?_⟩⟩⟩⟩
        refine ⟨_, rfl, _, _, _, _, _, rfl, .ty _, tb, kit_ty (by decide +kernel), _, rfl, iteF (iteF ?_)⟩
        refine ⟨_, rfl, _, _, _, _, _, rfl, .ty _, tb, kit_ty (by decide +kernel), _, rfl, iteT ⟨_, rfl, _, _, _, _, _, rfl, .ty _, ta, kit_ty (r := true) (by decide +kernel), _, rfl, iteF ?_⟩⟩
        refine ⟨_, rfl, a, _, rfl, .inr (SqT.ofR h1), _, rfl, b, _, rfl, .inr (SqT.ofR h2), rfl, _, rfl, iteND (by rw [hl1, hl2]) ?_⟩
        refine ⟨_, rfl, b, _, rfl, .inr (SqT.ofR h2), _, rfl, by omega, by omega, for_range (lo := 0) (n := ys.length) (fun _ σ H' => (∃ v, σ = [some (.ref a), some (.ref b), v]) ∧ H' = H) ⟨⟨none, rfl⟩, rfl⟩ ?_ ?_⟩
        · rintro i σ H' hi ⟨⟨v, rfl⟩, rfl⟩
          have hx := List.getElem?_eq_getElem (l := xs) (i := i) (by omega)
          have hy := List.getElem?_eq_getElem (l := ys) (i := i) (by omega)
          have hd := List.getElem?_eq_getElem (l := ds) (i := i) (by omega)
          have e0 : (0 : Int) + (i : Int) = (i : Int) := by omega
          refine ⟨_, rfl, _, rfl, .inr (.inl ⟨a, xs, _, _, rfl, rfl, SqT.ofR h1, at_of' e0 hx, ?_⟩)⟩
          refine ⟨_, rfl, _, rfl, .inr (.inl ⟨b, ys, _, _, rfl, rfl, SqT.ofR h2, at_of' e0 hy, ?_⟩)⟩
          exact ⟨_, _, _, rfl, r1 i _ _ hx hd, r2 i _ _ hy hd, _, rfl, iteF ⟨⟨_, rfl⟩, rfl⟩⟩
        · rintro σ H' ⟨⟨v, rfl⟩, rfl⟩
          exact q
/-! ### as programs over data -/
theorem fn_same (T : Tx K mg) : FnOk P w K mg base (L2.CX P w) 8 T.f_law_same T.d_law_same ["_law_got", "_law_due"] (spR K mg (fun (_ : Unit) (z : PyData × PyData × Unit) => [.fz (rD z.1), .fz (rD z.2.1)]) (fun z => Mo.rq (z.1 = z.2.1) true) (.fz rB)) :=
  (ok_same T 8).cx.imp fun vs H Q E ⟨_, x, F, o, q⟩ => by
    obtain ⟨x, y, _⟩ := x
    obtain ⟨u, ⟨v, rfl, h2⟩, h1⟩ := args2 o
    have q : x = y ∧ _ := q
    obtain ⟨rfl, q⟩ := q
    exact ⟨u, v, x, rfl, Dt.mono o.le h1, Dt.mono o.le h2, q _ F H (Go.refl o.le) (fun i l a q h => by rcases i with _ | _ | i <;> simp at h) rfl⟩
theorem fn_take (T : Tx K mg) : FnOk P w K mg base (L2.CX P w) 1 T.f_law_take T.d_law_take ["_law_pool_here", "_law_many"] (spR K mg (fun (a : Addr) (z : Int × Unit) => [.ow false a oPool, .fz (rI z.1)]) (fun z => Mo.take z.1) (.fz rI)) :=
  (ok_take T).cx.imp fun vs H Q E h => take_sp h
theorem fn_pool (T : Tx K mg) : FnOk P w K mg base (L2.CX P w) 2 T.f_law_pool T.d_law_pool ["_law_script", "_law_k"] (spR K mg (fun (_ : Unit) (z : List Int × Int × Unit) => [.fz (rScr K z.1), .fz (rI z.2.1)]) (fun z => Mo.rq (0 ≤ z.2.1 ∧ z.2.1 ≤ 1000) ()) (.ow fun _ => oPool)) :=
  (ok_pool T).cx.imp fun vs H Q E h => pool_sp h
end
end DD
namespace DD
open PySem PySem.Spec PyProof.Rows L2 KO SX RF
section
variable {P : Program} {w : World} {K : PySem.W.Frag} {mg : Str → Option Value} {base : Heap}

section
variable {K : PySem.W.Frag} {mg : Str → Option Value}
theorem excC_BadBook (T : Tx K mg) : ExcC K T.C_BadBook := ⟨T.ga_BadBook, T.gg_BadBook, T.bs_BadBook, T.hd_BadBook, T.cl_BadBook, T.sp_class, T.tk_class, T.mr_BadBook⟩
theorem xfC_BadBook (T : Tx K mg) : XfC K T.C_BadBook := ⟨T.ga_BadBook, T.gg_BadBook, T.bs_BadBook, T.hd_BadBook⟩
theorem excC_BadNumber (T : Tx K mg) : ExcC K T.C_BadNumber := ⟨T.ga_BadNumber, T.gg_BadNumber, T.bs_BadNumber, T.hd_BadNumber, T.cl_BadNumber, T.sp_class, T.tk_class, T.mr_BadNumber⟩
theorem xfC_BadNumber (T : Tx K mg) : XfC K T.C_BadNumber := ⟨T.ga_BadNumber, T.gg_BadNumber, T.bs_BadNumber, T.hd_BadNumber⟩
theorem excC_UnknownName (T : Tx K mg) : ExcC K T.C_UnknownName := ⟨T.ga_UnknownName, T.gg_UnknownName, T.bs_UnknownName, T.hd_UnknownName, T.cl_UnknownName, T.sp_class, T.tk_class, T.mr_UnknownName⟩
theorem xfC_UnknownName (T : Tx K mg) : XfC K T.C_UnknownName := ⟨T.ga_UnknownName, T.gg_UnknownName, T.bs_UnknownName, T.hd_UnknownName⟩
theorem excC_UnknownPage (T : Tx K mg) : ExcC K T.C_UnknownPage := ⟨T.ga_UnknownPage, T.gg_UnknownPage, T.bs_UnknownPage, T.hd_UnknownPage, T.cl_UnknownPage, T.sp_class, T.tk_class, T.mr_UnknownPage⟩
theorem xfC_UnknownPage (T : Tx K mg) : XfC K T.C_UnknownPage := ⟨T.ga_UnknownPage, T.gg_UnknownPage, T.bs_UnknownPage, T.hd_UnknownPage⟩
theorem insC_Book (T : Tx K mg) : C8.InsC K T.C_Book := ⟨T.cl_Book, T.ic_Book, T.sp_class, T.tk_class, T.mr_Book, kit_ref T.isb_Book T.isb_Book T.ihd_Book T.ity_Book⟩
end

abbrev OBook := (List Str) × (List Int) × (List (List Str)) × (List (List Int))
def fsBook (x : OBook) : List (Str × Pr) := [("names", (rTf rS) x.1), ("starts", (rTf rI) x.2.1), ("_lines", (rTs (rTs rS)) x.2.2.1), ("_followers", (rTs (rTf rI)) x.2.2.2)]
def rBook (C_Book : Addr) (x : OBook) : Pr := RF.rIn C_Book (fsBook  x)
instance {C_Book : Addr} : NL (rBook C_Book) := ⟨fun {x} {v F a vs} h k => nl_in (fs := fsBook  x) (nlfc (nlr _) (nlfc (nlr _) (nlfc (nlr _) (nlf1 (nlr _))))) h k⟩
instance {C_Book : Addr} {x : OBook} : NLP (oIn C_Book (fsBook  x)) := nlp_in (nlfc (nlr _) (nlfc (nlr _) (nlfc (nlr _) (nlf1 (nlr _)))))
instance {C_Book : Addr} : ND (rBook C_Book) := ⟨fun {x} {v F a vs} h k => nd_in (fs := fsBook  x) (ndfc (ndr _) (ndfc (ndr _) (ndfc (ndr _) (ndf1 (ndr _))))) h k⟩
instance {C_Book : Addr} {x : OBook} : NDP (oIn C_Book (fsBook  x)) := ndp_in (ndfc (ndr _) (ndfc (ndr _) (ndfc (ndr _) (ndf1 (ndr _)))))
instance {C_Book : Addr} : NN (rBook C_Book) := ⟨fun x v F h => nn_in h⟩
abbrev OHeavy := (Int × Int) × (List Str) × (List (Option Int))
def fsHeavy (x : OHeavy) : List (Str × Pr) := [("mean", (rT2 rI rI) x.1), ("ring", (rL rS) x.2.1), ("worths", (rL (rO rI)) x.2.2)]
def rHeavy (C_Heavy : Addr) (x : OHeavy) : Pr := RF.rIn C_Heavy (fsHeavy  x)
instance {C_Heavy : Addr} : FI (rHeavy C_Heavy) := ⟨fun {x y v F} h k => by
  obtain ⟨gs, h, k⟩ := fi_in (fs := fsHeavy ) h k
  obtain ⟨_, _, a0, b0, h, k⟩ := fs_two h k
  obtain ⟨_, _, a1, b1, h, k⟩ := fs_two h k
  obtain ⟨_, _, a2, b2, h, k⟩ := fs_two h k
  exact Prod.ext (FI.inj a0 b0) (Prod.ext (FI.inj a1 b1) (FI.inj a2 b2))⟩
instance {C_Heavy : Addr} : ND (rHeavy C_Heavy) := ⟨fun {x} {v F a vs} h k => nd_in (fs := fsHeavy  x) (ndfc (ndr _) (ndfc (ndr _) (ndf1 (ndr _)))) h k⟩
instance {C_Heavy : Addr} {x : OHeavy} : NDP (oIn C_Heavy (fsHeavy  x)) := ndp_in (ndfc (ndr _) (ndfc (ndr _) (ndf1 (ndr _))))
instance {C_Heavy : Addr} : NN (rHeavy C_Heavy) := ⟨fun x v F h => nn_in h⟩
theorem scBadBookInit : FnScope ["self", "part", "place"] ["self", "part", "place"] (defScope sBadBookInit) := ⟨rfl, rfl, rfl, by decide +kernel, rfl, by decide +kernel, by decide +kernel⟩
theorem ok_BadBookInit (T : Tx K mg) : FnOk P w K mg base CX0 1 T.fBadBook_init T.dBadBook_init ["self", "part", "place"] (spX2 T.C_BadBook "part" "place") := by
  refine T.FBadBook_init.ok scBadBookInit (fun vs H Q E h => ?_) (fun cdv A outer s H vs Q E hr h => ?_)
  · obtain ⟨a, v, u, rfl, _⟩ := h
    rfl
  · obtain ⟨a, v, u, rfl, ha, q⟩ := h
    refine ⟨_, pss_cons (ps_ost (pv 0) (pv 1)) (pss_one (ps_ost (pv 0) (pv 2))), ?_⟩
    refine ⟨_, rfl, _, rfl, a, _, rfl, T.ox_BadBook, T.no_BadBook_part, .inl ⟨ha, fun dx hdx ne => ?_⟩⟩
    refine ⟨_, rfl, _, rfl, a, _, rfl, T.ox_BadBook, T.no_BadBook_place, .inr ⟨dx, [("part", v)], upd_same, ?_, by simp, q dx hdx ne⟩⟩
    rw [upd_ne ne]; exact upd_same

theorem scUnknownNameInit : FnScope ["self", "name"] ["self", "name"] (defScope sUnknownNameInit) := ⟨rfl, rfl, rfl, by decide +kernel, rfl, by decide +kernel, by decide +kernel⟩
theorem ok_UnknownNameInit (T : Tx K mg) : FnOk P w K mg base CX0 1 T.fUnknownName_init T.dUnknownName_init ["self", "name"] (spX1 T.C_UnknownName "name") := by
  refine T.FUnknownName_init.ok scUnknownNameInit (fun vs H Q E h => ?_) (fun cdv A outer s H vs Q E hr h => ?_)
  · obtain ⟨a, v, rfl, _⟩ := h
    rfl
  · obtain ⟨a, v, rfl, ha, q⟩ := h
    exact ⟨_, pss_one (ps_ost (pv 0) (pv 1)), _, rfl, _, rfl, a, _, rfl, T.ox_UnknownName, T.no_UnknownName_name, .inl ⟨ha, q⟩⟩

theorem scBadNumberInit : FnScope ["self", "number"] ["self", "number"] (defScope sBadNumberInit) := ⟨rfl, rfl, rfl, by decide +kernel, rfl, by decide +kernel, by decide +kernel⟩
theorem ok_BadNumberInit (T : Tx K mg) : FnOk P w K mg base CX0 1 T.fBadNumber_init T.dBadNumber_init ["self", "number"] (spX1 T.C_BadNumber "number") := by
  refine T.FBadNumber_init.ok scBadNumberInit (fun vs H Q E h => ?_) (fun cdv A outer s H vs Q E hr h => ?_)
  · obtain ⟨a, v, rfl, _⟩ := h
    rfl
  · obtain ⟨a, v, rfl, ha, q⟩ := h
    exact ⟨_, pss_one (ps_ost (pv 0) (pv 1)), _, rfl, _, rfl, a, _, rfl, T.ox_BadNumber, T.no_BadNumber_number, .inl ⟨ha, q⟩⟩

theorem scUnknownPageInit : FnScope ["self", "number"] ["self", "number"] (defScope sUnknownPageInit) := ⟨rfl, rfl, rfl, by decide +kernel, rfl, by decide +kernel, by decide +kernel⟩
theorem ok_UnknownPageInit (T : Tx K mg) : FnOk P w K mg base CX0 1 T.fUnknownPage_init T.dUnknownPage_init ["self", "number"] (spX1 T.C_UnknownPage "number") := by
  refine T.FUnknownPage_init.ok scUnknownPageInit (fun vs H Q E h => ?_) (fun cdv A outer s H vs Q E hr h => ?_)
  · obtain ⟨a, v, rfl, _⟩ := h
    rfl
  · obtain ⟨a, v, rfl, ha, q⟩ := h
    exact ⟨_, pss_one (ps_ost (pv 0) (pv 1)), _, rfl, _, rfl, a, _, rfl, T.ox_UnknownPage, T.no_UnknownPage_number, .inl ⟨ha, q⟩⟩

end
end DD
namespace DD
open PySem PySem.Spec PyProof.Rows L2 KO SX RF
section
variable {P : Program} {w : World} {K : PySem.W.Frag} {mg : Str → Option Value} {base : Heap}
theorem scBookLen : FnScope ["self"] ["self"] (defScope sBookLen) := ⟨rfl, rfl, rfl, by decide +kernel, rfl, by decide +kernel, by decide +kernel⟩
def P_BookLen (self_ : OBook) : Mo Int :=
  ((((pure self_) >>= fun x2 => pure (x2.1)) >>= fun x3 => pure (x3.length : Int)) >>= fun r1 => pure r1)
theorem fn_BookLen (T : Tx K mg) : FnOk P w K mg base (L2.CX P w) 2 T.fBook_len T.dBook_len ["self"] (spR K mg (fun (c : Unit) (z : OBook × Unit) => [.fz ((rBook T.C_Book) z.1)]) (fun z => P_BookLen z.1) (RK.fz rI)) := by
  refine fn_mk (Γe := fun c z => [.un]) (Γ0 := fun c z => [.fz ((rBook T.C_Book) z.1)]) (Z := (fun _ _ x => .ret ((RK.fz rI).ok x))) T.FBook_len scBookLen (fun _ _ => rfl) (fun _ _ => rfl) (fun _ _ => ⟨.inl rfl, trivial⟩) (fun _ _ _ _ _ _ h => (own_none rfl h).elim) (fun _ _ _ => .inl rfl) (fun cdv A outer s H E a0 y hr => ?_)
  obtain ⟨self_, _⟩ := y
  show RB _ _ ([.un] : RF.Ctx) false [.fz ((rBook T.C_Book) self_)] _ (P_BookLen self_) _
  exact (rb_ret (fun (r1 : Int) => r1) (re_len (rsq_T (re_Tf (re_fld (ρ' := (rTf rS)) (g := fun (x : OBook) => x.1) (fsBook) (re_var (ρ := (rBook T.C_Book)) (x := self_) 0 rfl (pv 0)) T.cl_Book T.na_Book_names))) T.z_len) (fun _ => rfl))

theorem scisname : FnScope ["text", "letter"] ["text"] (defScope sisname) := ⟨rfl, rfl, rfl, by decide +kernel, rfl, by decide +kernel, by decide +kernel⟩
def P_isname (text_ : Str) : Mo Bool :=
  ((((pure (1 : Int)) >>= fun i3 => ((pure text_) >>= fun x2 => Mo.rq (x2.length ≤ sizeLine) (x2.length : Int)) >>= fun i4 => if (decide (i3 ≤ i4)) = true then ((pure 8) >>= fun i5 => pure (decide (i4 ≤ i5))) else pure false) >>= fun b12 => if b12 then ((((pure text_) >>= fun z6 => pure (chars z6)) >>= Mo.lc (fun w7 => (pure true)) (fun w7 => ((pure ("a" : Str)) >>= fun i8 => (pure w7) >>= fun i9 => if (!decide (i9.cps.toList < i8.cps.toList)) = true then (pure ("z" : Str)) >>= fun i10 => pure (!decide (i10.cps.toList < i9.cps.toList)) else pure false))) >>= fun x11 => pure (x11.all id)) else pure false) >>= fun r1 => pure r1)
theorem fn_isname (T : Tx K mg) : FnOk P w K mg base (L2.CX P w) 2 T.fis_name T.dis_name ["text"] (spR K mg (fun (c : Unit) (z : Str × Unit) => [.fz (rS z.1)]) (fun z => P_isname z.1) (RK.fz rB)) := by
  refine fn_mk (Γe := fun c z => [.un, .un]) (Γ0 := fun c z => [.fz (rS z.1), .un]) (Z := (fun _ _ x => .ret ((RK.fz rB).ok x))) T.Fis_name scisname (fun _ _ => rfl) (fun _ _ => rfl) (fun _ _ => ⟨.inl rfl, .inl rfl, trivial⟩) (fun _ _ _ _ _ _ h => (own_none rfl h).elim) (fun _ _ _ => .inl rfl) (fun cdv A outer s H E a0 y hr => ?_)
  obtain ⟨text_, _⟩ := y
  show RB _ _ ([.un, .un] : RF.Ctx) false [.fz (rS text_), .un] _ (P_isname text_) _
  exact (rb_ret (fun (r1 : Bool) => r1) (re_and (re_chain i_le i_le re_int (re_lenS (re_var (ρ := rS) (x := text_) 0 rfl (pv 0)) T.z_len) (re_con (ρ := rI) (8 : Int) (pe_glob (v := .int 8) rfl T.c_MOST_LETTERS ⟨_, rfl⟩) (fun _ => rfl))) (re_one (re_all (rsq_F (re_of (pe_lc (own := [("letter", 1)]) (g := gName 1) rfl scisname.nd (pi_str peE) (blkOk_by (own := [("letter", 1)]) (N := ["text", "letter"]) (sc := defScope sisname) (by decide +kernel)) (fun _ _ _ _ _ => pg_name (i := 1) scisname.nd rfl (.inl rfl)) ptPi peEi) (rte_lc (vs := [1]) (fun (x : Str) Γ => Γ.set 1 (.fz (rS x))) (ri_str (re_var (ρ := rS) (x := text_) 0 rfl (pv 0))) (fun _ => rg_name) (fun _ => rgo_name) (un1 rfl) (fun (w7 : Str) => rti_nil) (fun (w7 : Str) _ _ _ _ _ => (re_chainS s_le s_le re_str (re_var (ρ := rS) (x := w7) 1 rfl (pv 1)) re_str ))))) T.z_all))) (fun _ => rfl))

theorem scalldiffer : FnScope ["words"] ["words"] (defScope salldiffer) := ⟨rfl, rfl, rfl, by decide +kernel, rfl, by decide +kernel, by decide +kernel⟩
def P_alldiffer (words_ : (List Str)) : Mo Bool :=
  ((((pure words_) >>= fun x2 => Mo.rq (x2.length ≤ 1000) (setLen x2 : Int)) >>= fun i4 => ((pure words_) >>= fun x3 => pure (x3.length : Int)) >>= fun j5 => pure (decide (i4 = j5))) >>= fun r1 => pure r1)
theorem fn_alldiffer (T : Tx K mg) : FnOk P w K mg base (L2.CX P w) 2 T.fall_differ T.dall_differ ["words"] (spR K mg (fun (c : Unit) (z : (List Str) × Unit) => [.fz ((rL rS) z.1)]) (fun z => P_alldiffer z.1) (RK.fz rB)) := by
  refine fn_mk (Γe := fun c z => [.un]) (Γ0 := fun c z => [.fz ((rL rS) z.1)]) (Z := (fun _ _ x => .ret ((RK.fz rB).ok x))) T.Fall_differ scalldiffer (fun _ _ => rfl) (fun _ _ => rfl) (fun _ _ => ⟨.inl rfl, trivial⟩) (fun _ _ _ _ _ _ h => (own_none rfl h).elim) (fun _ _ _ => .inl rfl) (fun cdv A outer s H E a0 y hr => ?_)
  obtain ⟨words_, _⟩ := y
  show RB _ _ ([.un] : RF.Ctx) false [.fz ((rL rS) words_)] _ (P_alldiffer words_) _
  exact (rb_ret (fun (r1 : Bool) => r1) (re_rc (rc_i i_eq (re_lenSet (rsq_L (re_var (ρ := (rL rS)) (x := words_) 0 rfl (pv 0))) T.z_len T.z_set) (re_len (rsq_L (re_var (ρ := (rL rS)) (x := words_) 0 rfl (pv 0))) T.z_len))) (fun _ => rfl))

theorem scarelines : FnScope ["lines", "line"] ["lines"] (defScope sarelines) := ⟨rfl, rfl, rfl, by decide +kernel, rfl, by decide +kernel, by decide +kernel⟩
def P_arelines (lines_ : (List Str)) : Mo Bool :=
  (((((pure lines_) >>= fun x2 => pure (x2.length : Int)) >>= fun i3 => (pure 8) >>= fun j4 => pure (decide (i3 ≤ j4))) >>= fun b14 => if b14 then ((((pure lines_) >>= fun x6 => (pure ()) >>= fun y7 => pure (x6, y7)) >>= fun y5 => P_alldiffer y5.1) >>= fun b13 => if b13 then (((pure lines_) >>= Mo.lc (fun w8 => (pure true)) (fun w8 => (((pure w8) >>= fun x10 => (pure ()) >>= fun y11 => pure (x10, y11)) >>= fun y9 => P_isname y9.1))) >>= fun x12 => pure (x12.all id)) else pure false) else pure false) >>= fun r1 => pure r1)
theorem fn_arelines (T : Tx K mg) : FnOk P w K mg base (L2.CX P w) 3 T.fare_lines T.dare_lines ["lines"] (spR K mg (fun (c : Unit) (z : (List Str) × Unit) => [.fz ((rL rS) z.1)]) (fun z => P_arelines z.1) (RK.fz rB)) := by
  have Gall_differ := fn_alldiffer (P := P) (w := w) (base := base) T
  have Gis_name := fn_isname (P := P) (w := w) (base := base) T
  refine fn_mk (Γe := fun c z => [.un, .un]) (Γ0 := fun c z => [.fz ((rL rS) z.1), .un]) (Z := (fun _ _ x => .ret ((RK.fz rB).ok x))) T.Fare_lines scarelines (fun _ _ => rfl) (fun _ _ => rfl) (fun _ _ => ⟨.inl rfl, .inl rfl, trivial⟩) (fun _ _ _ _ _ _ h => (own_none rfl h).elim) (fun _ _ _ => .inl rfl) (fun cdv A outer s H E a0 y hr => ?_)
  obtain ⟨lines_, _⟩ := y
  show RB _ _ ([.un, .un] : RF.Ctx) false [.fz ((rL rS) lines_), .un] _ (P_arelines lines_) _
  exact (rb_ret (fun (r1 : Bool) => r1) (re_and (re_rc (rc_i i_le (re_len (rsq_L (re_var (ρ := (rL rS)) (x := lines_) 0 rfl (pv 0))) T.z_len) (re_con (ρ := rI) (8 : Int) (pe_glob (v := .int 8) rfl T.c_MOST_LINES ⟨_, rfl⟩) (fun _ => rfl)))) (re_and (re_call () Gall_differ (hr.mono (by decide)) (takes_of rfl rfl rfl rfl) (ra_cons (re_var (ρ := (rL rS)) (x := lines_) 0 rfl (pv 0)) ra_nil) T.gall_differ T.Fall_differ.kp T.ball_differ) (re_one (re_all (rsq_F (re_of (pe_lc (own := [("line", 1)]) (g := gName 1) rfl scarelines.nd (pi_list peE) (blkOk_by (own := [("line", 1)]) (N := ["lines", "line"]) (sc := defScope sarelines) (by decide +kernel)) (fun _ _ _ _ _ => pg_name (i := 1) scarelines.nd rfl (.inl rfl)) ptPi peEi) (rte_lc (vs := [1]) (fun (x : Str) Γ => Γ.set 1 (.fz (rS x))) (ri_list (re_var (ρ := (rL rS)) (x := lines_) 0 rfl (pv 0))) (fun _ => rg_name) (fun _ => rgo_name) (un1 rfl) (fun (w8 : Str) => rti_nil) (fun (w8 : Str) _ _ _ _ _ => (re_call () Gis_name (hr.mono (by decide)) takes0 (ra_cons (re_var (ρ := rS) (x := w8) 1 rfl (pv 1)) ra_nil) T.gis_name T.Fis_name.kp T.bis_name))))) T.z_all)))) (fun _ => rfl))

theorem scarepages : FnScope ["chosen", "names", "name"] ["chosen", "names"] (defScope sarepages) := ⟨rfl, rfl, rfl, by decide +kernel, rfl, by decide +kernel, by decide +kernel⟩
def P_arepages (chosen_ : (List Str)) (names_ : (List Str)) : Mo Bool :=
  (((((pure chosen_) >>= fun x2 => pure (x2.length : Int)) >>= fun i3 => (pure (0 : Int)) >>= fun j4 => pure (decide (j4 < i3))) >>= fun b13 => if b13 then ((((pure chosen_) >>= fun x6 => (pure ()) >>= fun y7 => pure (x6, y7)) >>= fun y5 => P_alldiffer y5.1) >>= fun b12 => if b12 then (((pure chosen_) >>= Mo.lc (fun w8 => (pure true)) (fun w8 => ((pure w8) >>= fun x9 => (pure names_) >>= fun y10 => pure (decide (x9 ∈ y10))))) >>= fun x11 => pure (x11.all id)) else pure false) else pure false) >>= fun r1 => pure r1)
theorem fn_arepages (T : Tx K mg) : FnOk P w K mg base (L2.CX P w) 3 T.fare_pages T.dare_pages ["chosen", "names"] (spR K mg (fun (c : Unit) (z : (List Str) × (List Str) × Unit) => [.fz ((rL rS) z.1), .fz ((rL rS) z.2.1)]) (fun z => P_arepages z.1 z.2.1) (RK.fz rB)) := by
  have Gall_differ := fn_alldiffer (P := P) (w := w) (base := base) T
  refine fn_mk (Γe := fun c z => [.un, .un, .un]) (Γ0 := fun c z => [.fz ((rL rS) z.1), .fz ((rL rS) z.2.1), .un]) (Z := (fun _ _ x => .ret ((RK.fz rB).ok x))) T.Fare_pages scarepages (fun _ _ => rfl) (fun _ _ => rfl) (fun _ _ => ⟨.inl rfl, .inl rfl, .inl rfl, trivial⟩) (fun _ _ _ _ _ _ h => (own_none rfl h).elim) (fun _ _ _ => .inl rfl) (fun cdv A outer s H E a0 y hr => ?_)
  obtain ⟨chosen_, names_, _⟩ := y
  show RB _ _ ([.un, .un, .un] : RF.Ctx) false [.fz ((rL rS) chosen_), .fz ((rL rS) names_), .un] _ (P_arepages chosen_ names_) _
  exact (rb_ret (fun (r1 : Bool) => r1) (re_and (re_rc (rc_i i_gt (re_len (rsq_L (re_var (ρ := (rL rS)) (x := chosen_) 0 rfl (pv 0))) T.z_len) re_int)) (re_and (re_call () Gall_differ (hr.mono (by decide)) (takes_of rfl rfl rfl rfl) (ra_cons (re_var (ρ := (rL rS)) (x := chosen_) 0 rfl (pv 0)) ra_nil) T.gall_differ T.Fall_differ.kp T.ball_differ) (re_one (re_all (rsq_F (re_of (pe_lc (own := [("name", 2)]) (g := gName 2) rfl scarepages.nd (pi_list peE) (blkOk_by (own := [("name", 2)]) (N := ["chosen", "names", "name"]) (sc := defScope sarepages) (by decide +kernel)) (fun _ _ _ _ _ => pg_name (i := 2) scarepages.nd rfl (.inl rfl)) ptPi peEi) (rte_lc (vs := [2]) (fun (x : Str) Γ => Γ.set 2 (.fz (rS x))) (ri_list (re_var (ρ := (rL rS)) (x := chosen_) 0 rfl (pv 0))) (fun _ => rg_name) (fun _ => rgo_name) (un1 rfl) (fun (w8 : Str) => rti_nil) (fun (w8 : Str) _ _ _ _ _ => (re_rc (rc_inS (re_var (ρ := rS) (x := w8) 2 rfl (pv 2)) (rsq_L (re_var (ρ := (rL rS)) (x := names_) 1 rfl (pv 1))))))))) T.z_all)))) (fun _ => rfl))
end
end DD
namespace DD
open PySem PySem.Spec PyProof.Rows L2 KO SX RF
section
variable {P : Program} {w : World} {K : PySem.W.Frag} {mg : Str → Option Value} {base : Heap}
theorem sccheckpages : FnScope ["pages", "names", "at", "name", "lines", "_", "page"] ["pages"] (defScope scheckpages) := ⟨rfl, rfl, rfl, by decide +kernel, rfl, by decide +kernel, by decide +kernel⟩
def P_checkpages (pages_ : (List (Str × (List Str) × (List Str)))) : Mo Unit :=
  ((((pure (1 : Int)) >>= fun i2 => ((pure pages_) >>= fun x1 => pure (x1.length : Int)) >>= fun i3 => if (decide (i2 ≤ i3)) = true then ((pure 4) >>= fun i4 => pure (decide (i3 ≤ i4))) else pure false) >>= fun b5 => pure (!b5)) >>= fun c6 => if c6 = true then (((pure ("pages" : Str)) >>= fun x7 => (pure (0 : Int)) >>= fun x8 => Mo.rq (Enc.ok rS x7 ∧ Enc.ok rI x8) ⟨"BadBook", [("place", Enc.d rI x8), ("part", Enc.d rS x7)]⟩) >>= fun e9 => Mo.throw e9) else (((pure pages_) >>= Mo.lc (fun w10 => (pure true)) (fun w10 => ((pure w10) >>= fun x11 => pure x11.1))) >>= fun names_12 => (((pure pages_) >>= fun x13 => pure (enumL x13)) >>= fun xs => Mo.fold (fun s14 w15 => ((((((pure w15.2.1) >>= fun x17 => (pure ()) >>= fun y18 => pure (x17, y18)) >>= fun y16 => P_isname y16.1) >>= fun b19 => pure (!b19)) >>= fun b31 => if b31 then pure true else (((pure w15.2.1) >>= fun x24 => ((pure names_12) >>= fun x21 => (pure none) >>= fun l22 => ((pure w15.1) >>= fun i20 => pure (some i20)) >>= fun h23 => pure (cutL x21 l22 h23)) >>= fun y25 => pure (decide (x24 ∈ y25))) >>= fun b30 => if b30 then pure true else ((((pure w15.2.2.1) >>= fun x27 => (pure ()) >>= fun y28 => pure (x27, y28)) >>= fun y26 => P_arelines y26.1) >>= fun b29 => pure (!b29)))) >>= fun c32 => if c32 = true then (((pure ("page" : Str)) >>= fun x33 => (pure w15.1) >>= fun x34 => Mo.rq (Enc.ok rS x33 ∧ Enc.ok rI x34) ⟨"BadBook", [("place", Enc.d rI x34), ("part", Enc.d rS x33)]⟩) >>= fun e35 => Mo.throw e35) else (pure ()))) xs () >>= fun s36 => (pure ()))))
theorem fn_checkpages (T : Tx K mg) : FnOk P w K mg base (L2.CX P w) 4 T.fcheck_pages T.dcheck_pages ["pages"] (spR K mg (fun (c : Unit) (z : (List (Str × (List Str) × (List Str))) × Unit) => [.fz ((rL (rT3 rS (rL rS) (rL rS))) z.1)]) (fun z => P_checkpages z.1) (RK.fz rN)) := by
  have GBadBook_init := ok_BadBookInit (P := P) (w := w) (base := base) T
  have Gare_lines := fn_arelines (P := P) (w := w) (base := base) T
  have Gis_name := fn_isname (P := P) (w := w) (base := base) T
  refine fn_mk (Γe := fun c z => [.un, .un, .un, .un, .un, .un, .un]) (Γ0 := fun c z => [.fz ((rL (rT3 rS (rL rS) (rL rS))) z.1), .un, .un, .un, .un, .un, .un]) (Z := (fun c z _ => .nx [.un, .un, .un, .un, .un, .un, .un])) T.Fcheck_pages sccheckpages (fun _ _ => rfl) (fun _ _ => rfl) (fun _ _ => ⟨.inl rfl, .inl rfl, .inl rfl, .inl rfl, .inl rfl, .inl rfl, .inl rfl, trivial⟩) (fun _ _ _ _ _ _ h => (own_none rfl h).elim) (fun _ _ _ => .inr ⟨rfl, fun _ _ _ => rfl⟩) (fun cdv A outer s H E a0 y hr => ?_)
  obtain ⟨pages_, _⟩ := y
  show RB _ _ ([.un, .un, .un, .un, .un, .un, .un] : RF.Ctx) false [.fz ((rL (rT3 rS (rL rS) (rL rS))) pages_), .un, .un, .un, .un, .un, .un] _ (P_checkpages pages_) _
  exact (rb_if1 (rt_not (rt_chain i_le i_le re_int (re_len (rsq_L (re_var (ρ := (rL (rT3 rS (rL rS) (rL rS)))) (x := pages_) 0 rfl (pv 0))) T.z_len) (re_con (ρ := rI) (4 : Int) (pe_glob (v := .int 4) rfl T.c_MOST_PAGES ⟨_, rfl⟩) (fun _ => rfl)))) (rb_raise (pmk_2 T.ox_BadBook T.ni_BadBook T.ti_BadBook GBadBook_init (hr.mono (by decide)) T.bBadBook_init (by rfl) T.g_BadBook tE_mono tE_mono (pa_cons peE (pa_cons peE pa_nil))) (takes_of rfl rfl rfl rfl) (rx_2 re_str re_int T.g_BadBook)) (rb_set (ps_setLc (i := 1) (own := [("page", 6)]) (g := gName 6) rfl sccheckpages.nd rfl rfl (sw_true rfl rfl rfl (by decide +kernel)) (pi_list peE) (blkOk_by (own := [("page", 6)]) (N := ["pages", "names", "at", "name", "lines", "_", "page"]) (sc := defScope scheckpages) (by decide +kernel)) (fun _ _ _ _ _ => pg_name (i := 6) sccheckpages.nd rfl (.inl rfl)) ptPi peEi) (rte_frz (rte_lc (vs := [6]) (fun (x : (Str × (List Str) × (List Str))) Γ => Γ.set 6 (.fz ((rT3 rS (rL rS) (rL rS)) x))) (ri_list (re_var (ρ := (rL (rT3 rS (rL rS) (rL rS)))) (x := pages_) 0 rfl (pv 0))) (fun _ => rg_name) (fun _ => rgo_name) (un1 rfl) (fun (w10 : (Str × (List Str) × (List Str))) => rti_nil) (fun (w10 : (Str × (List Str) × (List Str))) _ _ _ _ _ => (re_at (ρ := rS) (g := fun (x : (Str × (List Str) × (List Str))) => x.1) (fun (x : (Str × (List Str) × (List Str))) => [rS x.1, (rL rS) x.2.1, (rL rS) x.2.2]) (0) (re_var (ρ := (rT3 rS (rL rS) (rL rS))) (x := w10) 6 rfl (pv 6)) (hc := re_int)))) frz_L) rfl fun (names_12 : (List Str)) => (rb_forF (s0 := ()) (vs := [2, 3, 4, 5]) (fun (s14 : Unit) => [.fz ((rL (rT3 rS (rL rS) (rL rS))) pages_), .fz ((rL rS) names_12), .un, .un, .un, .un, .un]) (fun (x : (Int × (Str × (List Str) × (List Str)))) (Γ : RF.Ctx) => ((((Γ.set 2 (.fz (rI x.1))).set 3 (.fz (rS x.2.1))).set 4 (.fz ((rL rS) x.2.2.1))).set 5 (.fz ((rL rS) x.2.2.2)))) (ps_for (passes_of rfl) rfl (pi_enum (by rfl) T.z_enumerate (pa_cons peE pa_nil)) (pg_tupK (K := K) rfl rfl (pgs_cons (pg_name (i := 2) sccheckpages.nd rfl (.inl rfl)) (pgs_cons (pg_tupK (K := K) rfl rfl (pgs_cons (pg_name (i := 3) sccheckpages.nd rfl (.inl rfl)) (pgs_cons (pg_name (i := 4) sccheckpages.nd rfl (.inl rfl)) (pgs_cons (pg_name (i := 5) sccheckpages.nd rfl (.inl rfl)) pgs_nil)))) pgs_nil))) pssS) (ri_enum (re_var (ρ := (rL (rT3 rS (rL rS) (rL rS)))) (x := pages_) 0 rfl (pv 0))) (fun (x : (Int × (Str × (List Str) × (List Str)))) => (rg_tupN (rgs_cons (K := K) ((rg_name (K := K) (i := 2) (p := rI x.1)).more (vs := [2]) (ws := [2, 3, 4, 5]) (by decide)) (rgs_cons (K := K) (rg_tupN (rgs_cons (K := K) ((rg_name (K := K) (i := 3) (p := rS x.2.1)).more (vs := [3]) (ws := [2, 3, 4, 5]) (by decide)) (rgs_cons (K := K) ((rg_name (K := K) (i := 4) (p := (rL rS) x.2.2.1)).more (vs := [4]) (ws := [2, 3, 4, 5]) (by decide)) (rgs_cons (K := K) ((rg_name (K := K) (i := 5) (p := (rL rS) x.2.2.2)).more (vs := [5]) (ws := [2, 3, 4, 5]) (by decide)) (rgs_nil (vs := [2, 3, 4, 5])))))) (rgs_nil (vs := [2, 3, 4, 5])))))) ⟨.inr rfl, .inr rfl, .inl rfl, .inl rfl, .inl rfl, .inl rfl, .inl rfl, trivial⟩ (fun _ => ⟨.inl rfl, .inl rfl, .inl rfl, .inl rfl, .inl rfl, .inl rfl, .inl rfl, trivial⟩) (fun _ _ => ⟨.inl rfl, .inl rfl, .inl rfl, .inl rfl, .inl rfl, .inl rfl, .inl rfl, trivial⟩) (fun (s14 : Unit) (w15 : (Int × (Str × (List Str) × (List Str)))) => (rb_if0 (rt_w (rw_or (rt_not (rt_val (re_call () Gis_name (hr.mono (by decide)) (takes_of rfl rfl rfl rfl) (ra_cons (re_var (ρ := rS) (x := w15.2.1) 3 rfl (pv 3)) ra_nil) T.gis_name T.Fis_name.kp T.bis_name))) (rw_or (rt_rc (rc_inS (re_var (ρ := rS) (x := w15.2.1) 3 rfl (pv 3)) (rsq_F (re_slL (re_var (ρ := (rL rS)) (x := names_12) 1 rfl (pv 1)) rp_none (rp_some (re_var (ρ := rI) (x := w15.1) 2 rfl (pv 2))))))) (rw_or1 (rt_not (rt_val (re_call () Gare_lines (hr.mono (by decide)) (takes_of rfl rfl rfl rfl) (ra_cons (re_var (ρ := (rL rS)) (x := w15.2.2.1) 4 rfl (pv 4)) ra_nil) T.gare_lines T.Fare_lines.kp T.bare_lines))))))) (rb_raise (pmk_2 T.ox_BadBook T.ni_BadBook T.ti_BadBook GBadBook_init (hr.mono (by decide)) T.bBadBook_init (by rfl) T.g_BadBook tE_mono tE_mono (pa_cons peE (pa_cons peE pa_nil))) (takes_of rfl rfl rfl rfl) (rx_2 re_str (re_var (ρ := rI) (x := w15.1) 2 rfl (pv 2)) T.g_BadBook)) (rb_nil (x := ()) (.inr rfl) ⟨.inr rfl, .inr rfl, .inl rfl, .inl rfl, .inl rfl, .inl rfl, .inl rfl, trivial⟩))) fun (s36 : Unit) => (rb_nil (x := ()) (.inl rfl) ⟨.inl rfl, .inl rfl, .inl rfl, .inl rfl, .inl rfl, .inl rfl, .inl rfl, trivial⟩))))

theorem sccheckorder : FnScope ["pages", "starts", "page", "names", "at"] ["pages", "starts"] (defScope scheckorder) := ⟨rfl, rfl, rfl, by decide +kernel, rfl, by decide +kernel, by decide +kernel⟩
def P_checkorder (pages_ : (List (Str × (List Str) × (List Str)))) (starts_ : (List Str)) : Mo Unit :=
  (((pure pages_) >>= Mo.lc (fun w1 => (pure true)) (fun w1 => ((pure w1) >>= fun x2 => pure x2.1))) >>= fun names_3 => (((pure pages_) >>= fun x4 => pure (enumL x4)) >>= fun xs => Mo.fold (fun s5 w6 => ((((((pure w6.2) >>= fun x8 => pure x8.2.2) >>= fun x11 => ((pure names_3) >>= fun x9 => (pure ()) >>= fun y10 => pure (x9, y10)) >>= fun y12 => pure (x11, y12)) >>= fun y7 => P_arepages y7.1 y7.2.1) >>= fun b13 => pure (!b13)) >>= fun c14 => if c14 = true then (((pure ("followers" : Str)) >>= fun x15 => (pure w6.1) >>= fun x16 => Mo.rq (Enc.ok rS x15 ∧ Enc.ok rI x16) ⟨"BadBook", [("place", Enc.d rI x16), ("part", Enc.d rS x15)]⟩) >>= fun e17 => Mo.throw e17) else (pure ()))) xs () >>= fun s18 => (((((pure starts_) >>= fun x22 => ((pure names_3) >>= fun x20 => (pure ()) >>= fun y21 => pure (x20, y21)) >>= fun y23 => pure (x22, y23)) >>= fun y19 => P_arepages y19.1 y19.2.1) >>= fun b24 => pure (!b24)) >>= fun c25 => if c25 = true then (((pure ("starts" : Str)) >>= fun x26 => (pure (0 : Int)) >>= fun x27 => Mo.rq (Enc.ok rS x26 ∧ Enc.ok rI x27) ⟨"BadBook", [("place", Enc.d rI x27), ("part", Enc.d rS x26)]⟩) >>= fun e28 => Mo.throw e28) else (pure ()))))
theorem fn_checkorder (T : Tx K mg) : FnOk P w K mg base (L2.CX P w) 4 T.fcheck_order T.dcheck_order ["pages", "starts"] (spR K mg (fun (c : Unit) (z : (List (Str × (List Str) × (List Str))) × (List Str) × Unit) => [.fz ((rL (rT3 rS (rL rS) (rL rS))) z.1), .fz ((rL rS) z.2.1)]) (fun z => P_checkorder z.1 z.2.1) (RK.fz rN)) := by
  have GBadBook_init := ok_BadBookInit (P := P) (w := w) (base := base) T
  have Gare_pages := fn_arepages (P := P) (w := w) (base := base) T
  refine fn_mk (Γe := fun c z => [.un, .un, .un, .un, .un]) (Γ0 := fun c z => [.fz ((rL (rT3 rS (rL rS) (rL rS))) z.1), .fz ((rL rS) z.2.1), .un, .un, .un]) (Z := (fun c z _ => .nx [.un, .un, .un, .un, .un])) T.Fcheck_order sccheckorder (fun _ _ => rfl) (fun _ _ => rfl) (fun _ _ => ⟨.inl rfl, .inl rfl, .inl rfl, .inl rfl, .inl rfl, trivial⟩) (fun _ _ _ _ _ _ h => (own_none rfl h).elim) (fun _ _ _ => .inr ⟨rfl, fun _ _ _ => rfl⟩) (fun cdv A outer s H E a0 y hr => ?_)
  obtain ⟨pages_, starts_, _⟩ := y
  show RB _ _ ([.un, .un, .un, .un, .un] : RF.Ctx) false [.fz ((rL (rT3 rS (rL rS) (rL rS))) pages_), .fz ((rL rS) starts_), .un, .un, .un] _ (P_checkorder pages_ starts_) _
  exact (rb_set (ps_setLc (i := 3) (own := [("page", 2)]) (g := gName 2) rfl sccheckorder.nd rfl rfl (sw_true rfl rfl rfl (by decide +kernel)) (pi_list peE) (blkOk_by (own := [("page", 2)]) (N := ["pages", "starts", "page", "names", "at"]) (sc := defScope scheckorder) (by decide +kernel)) (fun _ _ _ _ _ => pg_name (i := 2) sccheckorder.nd rfl (.inl rfl)) ptPi peEi) (rte_frz (rte_lc (vs := [2]) (fun (x : (Str × (List Str) × (List Str))) Γ => Γ.set 2 (.fz ((rT3 rS (rL rS) (rL rS)) x))) (ri_list (re_var (ρ := (rL (rT3 rS (rL rS) (rL rS)))) (x := pages_) 0 rfl (pv 0))) (fun _ => rg_name) (fun _ => rgo_name) (un1 rfl) (fun (w1 : (Str × (List Str) × (List Str))) => rti_nil) (fun (w1 : (Str × (List Str) × (List Str))) _ _ _ _ _ => (re_at (ρ := rS) (g := fun (x : (Str × (List Str) × (List Str))) => x.1) (fun (x : (Str × (List Str) × (List Str))) => [rS x.1, (rL rS) x.2.1, (rL rS) x.2.2]) (0) (re_var (ρ := (rT3 rS (rL rS) (rL rS))) (x := w1) 2 rfl (pv 2)) (hc := re_int)))) frz_L) rfl fun (names_3 : (List Str)) => (rb_forF (s0 := ()) (vs := [4, 2]) (fun (s5 : Unit) => [.fz ((rL (rT3 rS (rL rS) (rL rS))) pages_), .fz ((rL rS) starts_), .un, .fz ((rL rS) names_3), .un]) (fun (x : (Int × (Str × (List Str) × (List Str)))) => setAll [4, 2] [rI x.1, (rT3 rS (rL rS) (rL rS)) x.2]) (ps_for (passes_of rfl) rfl (pi_enum (by rfl) T.z_enumerate (pa_cons peE pa_nil)) (pg_tupK (K := K) rfl rfl (pgs_cons (pg_name (i := 4) sccheckorder.nd rfl (.inl rfl)) (pgs_cons (pg_name (i := 2) sccheckorder.nd rfl (.inl rfl)) pgs_nil))) pssS) (ri_enum (re_var (ρ := (rL (rT3 rS (rL rS) (rL rS)))) (x := pages_) 0 rfl (pv 0))) (fun (x : (Int × (Str × (List Str) × (List Str)))) => rg_tup (ps := [rI x.1, (rT3 rS (rL rS) (rL rS)) x.2]) [4, 2] rfl) ⟨.inr rfl, .inr rfl, .inl rfl, .inr rfl, .inl rfl, trivial⟩ (fun _ => ⟨.inl rfl, .inl rfl, .inl rfl, .inl rfl, .inl rfl, trivial⟩) (fun _ _ => ⟨.inl rfl, .inl rfl, .inl rfl, .inl rfl, .inl rfl, trivial⟩) (fun (s5 : Unit) (w6 : (Int × (Str × (List Str) × (List Str)))) => (rb_if0 (rt_not (rt_val (re_call () Gare_pages (hr.mono (by decide)) (takes_of rfl rfl rfl rfl) (ra_cons (re_at (ρ := (rL rS)) (g := fun (x : (Str × (List Str) × (List Str))) => x.2.2) (fun (x : (Str × (List Str) × (List Str))) => [rS x.1, (rL rS) x.2.1, (rL rS) x.2.2]) (2) (re_var (ρ := (rT3 rS (rL rS) (rL rS))) (x := w6.2) 2 rfl (pv 2)) (hc := re_int)) (ra_cons (re_var (ρ := (rL rS)) (x := names_3) 3 rfl (pv 3)) ra_nil)) T.gare_pages T.Fare_pages.kp T.bare_pages))) (rb_raise (pmk_2 T.ox_BadBook T.ni_BadBook T.ti_BadBook GBadBook_init (hr.mono (by decide)) T.bBadBook_init (by rfl) T.g_BadBook tE_mono tE_mono (pa_cons peE (pa_cons peE pa_nil))) (takes_of rfl rfl rfl rfl) (rx_2 re_str (re_var (ρ := rI) (x := w6.1) 4 rfl (pv 4)) T.g_BadBook)) (rb_nil (x := ()) (.inr rfl) ⟨.inr rfl, .inr rfl, .inl rfl, .inr rfl, .inl rfl, trivial⟩))) fun (s18 : Unit) => (rb_if0 (rt_not (rt_val (re_call () Gare_pages (hr.mono (by decide)) (takes_of rfl rfl rfl rfl) (ra_cons (re_var (ρ := (rL rS)) (x := starts_) 1 rfl (pv 1)) (ra_cons (re_var (ρ := (rL rS)) (x := names_3) 3 rfl (pv 3)) ra_nil)) T.gare_pages T.Fare_pages.kp T.bare_pages))) (rb_raise (pmk_2 T.ox_BadBook T.ni_BadBook T.ti_BadBook GBadBook_init (hr.mono (by decide)) T.bBadBook_init (by rfl) T.g_BadBook tE_mono tE_mono (pa_cons peE (pa_cons peE pa_nil))) (takes_of rfl rfl rfl rfl) (rx_2 re_str re_int T.g_BadBook)) (rb_nil (x := ()) (.inl rfl) ⟨.inl rfl, .inl rfl, .inl rfl, .inl rfl, .inl rfl, trivial⟩))))

theorem sccheckrounds : FnScope ["rounds"] ["rounds"] (defScope scheckrounds) := ⟨rfl, rfl, rfl, by decide +kernel, rfl, by decide +kernel, by decide +kernel⟩
def P_checkrounds (rounds_ : Int) : Mo Unit :=
  ((((pure (0 : Int)) >>= fun i1 => (pure rounds_) >>= fun i2 => if (decide (i1 ≤ i2)) = true then ((pure 200) >>= fun i3 => pure (decide (i2 ≤ i3))) else pure false) >>= fun b4 => pure (!b4)) >>= fun c5 => if c5 = true then (((pure rounds_) >>= fun x6 => Mo.rq (Enc.ok rI x6) ⟨"BadNumber", [("number", Enc.d rI x6)]⟩) >>= fun e7 => Mo.throw e7) else (pure ()))
theorem fn_checkrounds (T : Tx K mg) : FnOk P w K mg base (L2.CX P w) 3 T.fcheck_rounds T.dcheck_rounds ["rounds"] (spR K mg (fun (c : Unit) (z : Int × Unit) => [.fz (rI z.1)]) (fun z => P_checkrounds z.1) (RK.fz rN)) := by
  have GBadNumber_init := ok_BadNumberInit (P := P) (w := w) (base := base) T
  refine fn_mk (Γe := fun c z => [.un]) (Γ0 := fun c z => [.fz (rI z.1)]) (Z := (fun c z _ => .nx [.un])) T.Fcheck_rounds sccheckrounds (fun _ _ => rfl) (fun _ _ => rfl) (fun _ _ => ⟨.inl rfl, trivial⟩) (fun _ _ _ _ _ _ h => (own_none rfl h).elim) (fun _ _ _ => .inr ⟨rfl, fun _ _ _ => rfl⟩) (fun cdv A outer s H E a0 y hr => ?_)
  obtain ⟨rounds_, _⟩ := y
  show RB _ _ ([.un] : RF.Ctx) false [.fz (rI rounds_)] _ (P_checkrounds rounds_) _
  exact (rb_if0 (rt_not (rt_chain i_le i_le re_int (re_var (ρ := rI) (x := rounds_) 0 rfl (pv 0)) (re_con (ρ := rI) (200 : Int) (pe_glob (v := .int 200) rfl T.c_MOST_ROUNDS ⟨_, rfl⟩) (fun _ => rfl)))) (rb_raise (pmk_1 T.ox_BadNumber T.ni_BadNumber T.ti_BadNumber GBadNumber_init (hr.mono (by decide)) T.bBadNumber_init (by rfl) T.g_BadNumber tE_mono (pa_cons peE pa_nil)) (takes_of rfl rfl rfl rfl) (rx_1 (re_var (ρ := rI) (x := rounds_) 0 rfl (pv 0)) T.g_BadNumber)) (rb_nil (x := ()) (.inl rfl) ⟨.inl rfl, trivial⟩))

theorem scascendingindexes : FnScope ["chosen", "names", "name"] ["chosen", "names"] (defScope sascendingindexes) := ⟨rfl, rfl, rfl, by decide +kernel, rfl, by decide +kernel, by decide +kernel⟩
def P_ascendingindexes (chosen_ : (List Str)) (names_ : (List Str)) : Mo (List Int) :=
  (((((pure chosen_) >>= Mo.lc (fun w2 => (pure true)) (fun w2 => ((pure names_) >>= fun y3 => (pure w2) >>= fun x4 => Mo.get (List.idxOf? x4 y3) >>= fun j5 => pure (j5 : Int)))) >>= fun x6 => Mo.rq (x6.length < 64) () >>= fun _ => Mo.any (fun ys : List Int => ys.Perm x6 ∧ ys.Pairwise (· ≤ ·))) >>= fun x7 => pure x7) >>= fun r1 => pure r1)
theorem fn_ascendingindexes (T : Tx K mg) : FnOk P w K mg base (L2.CX P w) 2 T.fascending_indexes T.dascending_indexes ["chosen", "names"] (spR K mg (fun (c : Unit) (z : (List Str) × (List Str) × Unit) => [.fz ((rL rS) z.1), .fz ((rTf rS) z.2.1)]) (fun z => P_ascendingindexes z.1 z.2.1) (RK.fz (rTf rI))) := by
  refine fn_mk (Γe := fun c z => [.un, .un, .un]) (Γ0 := fun c z => [.fz ((rL rS) z.1), .fz ((rTf rS) z.2.1), .un]) (Z := (fun _ _ x => .ret ((RK.fz (rTf rI)).ok x))) T.Fascending_indexes scascendingindexes (fun _ _ => rfl) (fun _ _ => rfl) (fun _ _ => ⟨.inl rfl, .inl rfl, .inl rfl, trivial⟩) (fun _ _ _ _ _ _ h => (own_none rfl h).elim) (fun _ _ _ => .inl rfl) (fun cdv A outer s H E a0 y hr => ?_)
  obtain ⟨chosen_, names_, _⟩ := y
  show RB _ _ ([.un, .un, .un] : RF.Ctx) false [.fz ((rL rS) chosen_), .fz ((rTf rS) names_), .un] _ (P_ascendingindexes chosen_ names_) _
  exact (rb_ret (fun (r1 : (List Int)) => r1) (re_tupleF (rsq_F (re_sorted (rsq_F (re_of (pe_lc (own := [("name", 2)]) (g := gName 2) rfl scascendingindexes.nd (pi_list peE) (blkOk_by (own := [("name", 2)]) (N := ["chosen", "names", "name"]) (sc := defScope sascendingindexes) (by decide +kernel)) (fun _ _ _ _ _ => pg_name (i := 2) scascendingindexes.nd rfl (.inl rfl)) ptPi peEi) (rte_lc (vs := [2]) (fun (x : Str) Γ => Γ.set 2 (.fz (rS x))) (ri_list (re_var (ρ := (rL rS)) (x := chosen_) 0 rfl (pv 0))) (fun _ => rg_name) (fun _ => rgo_name) (un1 rfl) (fun (w2 : Str) => rti_nil) (fun (w2 : Str) _ _ _ _ _ => (re_indexTf (re_var (ρ := (rTf rS)) (x := names_) 1 rfl (pv 1)) (re_var (ρ := rS) (x := w2) 2 rfl (pv 2))))))) T.z_sorted)) T.z_tuple) (fun _ => rfl))

theorem scBookInit : FnScope ["self", "pages", "starts", "page"] ["self", "pages", "starts"] (defScope sBookInit) := ⟨rfl, rfl, rfl, by decide +kernel, rfl, by decide +kernel, by decide +kernel⟩
def P_BookInit (pages_ : (List (Str × (List Str) × (List Str)))) (starts_ : (List Str)) : Mo (OBook) :=
  ((((pure pages_) >>= fun x2 => (pure ()) >>= fun y3 => pure (x2, y3)) >>= fun y1 => P_checkpages y1.1) >>= fun u4 => ((((pure pages_) >>= fun x8 => ((pure starts_) >>= fun x6 => (pure ()) >>= fun y7 => pure (x6, y7)) >>= fun y9 => pure (x8, y9)) >>= fun y5 => P_checkorder y5.1 y5.2.1) >>= fun u10 => ((((pure pages_) >>= Mo.lc (fun w11 => (pure true)) (fun w11 => ((pure w11) >>= fun x12 => pure x12.1))) >>= fun x13 => pure x13) >>= fun names_14 => ((((pure starts_) >>= fun x18 => ((pure names_14) >>= fun x16 => (pure ()) >>= fun y17 => pure (x16, y17)) >>= fun y19 => pure (x18, y19)) >>= fun y15 => P_ascendingindexes y15.1 y15.2.1) >>= fun starts_20 => ((((pure pages_) >>= Mo.lc (fun w21 => (pure true)) (fun w21 => (((pure w21) >>= fun x22 => pure x22.2.1) >>= fun x23 => pure x23))) >>= fun x24 => pure x24) >>= fun lines_25 => ((((pure pages_) >>= Mo.lc (fun w26 => (pure true)) (fun w26 => ((((pure w26) >>= fun x28 => pure x28.2.2) >>= fun x31 => ((pure names_14) >>= fun x29 => (pure ()) >>= fun y30 => pure (x29, y30)) >>= fun y32 => pure (x31, y32)) >>= fun y27 => P_ascendingindexes y27.1 y27.2.1))) >>= fun x33 => pure x33) >>= fun followers_34 => (pure (names_14, starts_20, lines_25, followers_34))))))))
theorem fn_BookInit (T : Tx K mg) : FnOk P w K mg base (L2.CX P w) 5 T.fBook_init T.dBook_init ["self", "pages", "starts"] (spI K mg T.C_Book (fun (z : (List (Str × (List Str) × (List Str))) × (List Str) × Unit) => [.fz ((rL (rT3 rS (rL rS) (rL rS))) z.1), .fz ((rL rS) z.2.1)]) (fun z => P_BookInit z.1 z.2.1) (fsBook)) := by
  have Gascending_indexes := fn_ascendingindexes (P := P) (w := w) (base := base) T
  have Gcheck_order := fn_checkorder (P := P) (w := w) (base := base) T
  have Gcheck_pages := fn_checkpages (P := P) (w := w) (base := base) T
  refine init_mk (Γe := [.un, .un, .un, .un]) (Γ0 := fun a z => [.ow false a (oIn T.C_Book []), .fz ((rL (rT3 rS (rL rS) (rL rS))) z.1), .fz ((rL rS) z.2.1), .un]) (Γo := fun a z => [.ow false a (oIn T.C_Book (fsBook z)), .un, .un, .un]) T.FBook_init scBookInit (fun _ => rfl) (fun _ _ => rfl) (fun _ _ => ⟨.inl rfl, .inl rfl, .inl rfl, .inl rfl, trivial⟩) (fun _ => rfl) (fun _ _ => rfl) (fun cdv A outer s H E a0 y hr => ?_)
  obtain ⟨pages_, starts_, _⟩ := y
  show RB _ _ ([.un, .un, .un, .un] : RF.Ctx) false [.ow false a0 (oIn T.C_Book []), .fz ((rL (rT3 rS (rL rS) (rL rS))) pages_), .fz ((rL rS) starts_), .un] _ (P_BookInit pages_ starts_) _
  exact (rb_expr (ps_expr peE) (re_call () Gcheck_pages (hr.mono (by decide)) (takes_of rfl rfl rfl rfl) (ra_cons (re_var (ρ := (rL (rT3 rS (rL rS) (rL rS)))) (x := pages_) 1 rfl (pv 1)) ra_nil) T.gcheck_pages T.Fcheck_pages.kp T.bcheck_pages) fun u4 => (rb_expr (ps_expr peE) (re_call () Gcheck_order (hr.mono (by decide)) (takes_of rfl rfl rfl rfl) (ra_cons (re_var (ρ := (rL (rT3 rS (rL rS) (rL rS)))) (x := pages_) 1 rfl (pv 1)) (ra_cons (re_var (ρ := (rL rS)) (x := starts_) 2 rfl (pv 2)) ra_nil)) T.gcheck_order T.Fcheck_order.kp T.bcheck_order) fun u10 => (rb_setfld (ps_fld (pv 0) peE rfl) rfl (re_tupleF (rsq_F (re_of (pe_lc (own := [("page", 3)]) (g := gName 3) rfl scBookInit.nd (pi_list peE) (blkOk_by (own := [("page", 3)]) (N := ["self", "pages", "starts", "page"]) (sc := defScope sBookInit) (by decide +kernel)) (fun _ _ _ _ _ => pg_name (i := 3) scBookInit.nd rfl (.inl rfl)) ptPi peEi) (rte_lc (vs := [3]) (fun (x : (Str × (List Str) × (List Str))) Γ => Γ.set 3 (.fz ((rT3 rS (rL rS) (rL rS)) x))) (ri_list (re_var (ρ := (rL (rT3 rS (rL rS) (rL rS)))) (x := pages_) 1 rfl (pv 1))) (fun _ => rg_name) (fun _ => rgo_name) (un1 rfl) (fun (w11 : (Str × (List Str) × (List Str))) => rti_nil) (fun (w11 : (Str × (List Str) × (List Str))) _ _ _ _ _ => (re_at (ρ := rS) (g := fun (x : (Str × (List Str) × (List Str))) => x.1) (fun (x : (Str × (List Str) × (List Str))) => [rS x.1, (rL rS) x.2.1, (rL rS) x.2.2]) (0) (re_var (ρ := (rT3 rS (rL rS) (rL rS))) (x := w11) 3 rfl (pv 3)) (hc := re_int)))))) T.z_tuple) T.cl_Book T.na_Book_names (plt pl0) rfl fun names_14 => (rb_setfld (ps_fld (pv 0) peE rfl) rfl (re_call () Gascending_indexes (hr.mono (by decide)) (takes_of rfl rfl rfl rfl) (ra_cons (re_var (ρ := (rL rS)) (x := starts_) 2 rfl (pv 2)) (ra_cons (re_fldO (ρ' := (rTf rS)) rfl (pv 0) T.cl_Book T.na_Book_names) ra_nil)) T.gascending_indexes T.Fascending_indexes.kp T.bascending_indexes) T.cl_Book T.na_Book_starts (plt (pl1 pl0)) rfl fun starts_20 => (rb_setfld (ps_fld (pv 0) peE rfl) rfl (re_tuple (rsq_F (re_of (pe_lc (own := [("page", 3)]) (g := gName 3) rfl scBookInit.nd (pi_list peE) (blkOk_by (own := [("page", 3)]) (N := ["self", "pages", "starts", "page"]) (sc := defScope sBookInit) (by decide +kernel)) (fun _ _ _ _ _ => pg_name (i := 3) scBookInit.nd rfl (.inl rfl)) ptPi peEi) (rte_lc (vs := [3]) (fun (x : (Str × (List Str) × (List Str))) Γ => Γ.set 3 (.fz ((rT3 rS (rL rS) (rL rS)) x))) (ri_list (re_var (ρ := (rL (rT3 rS (rL rS) (rL rS)))) (x := pages_) 1 rfl (pv 1))) (fun _ => rg_name) (fun _ => rgo_name) (un1 rfl) (fun (w21 : (Str × (List Str) × (List Str))) => rti_nil) (fun (w21 : (Str × (List Str) × (List Str))) _ _ _ _ _ => (re_tuple (rsq_L (re_at (ρ := (rL rS)) (g := fun (x : (Str × (List Str) × (List Str))) => x.2.1) (fun (x : (Str × (List Str) × (List Str))) => [rS x.1, (rL rS) x.2.1, (rL rS) x.2.2]) (1) (re_var (ρ := (rT3 rS (rL rS) (rL rS))) (x := w21) 3 rfl (pv 3)) (hc := re_int))) T.z_tuple))))) T.z_tuple) T.cl_Book T.na_Book__lines (plt (pl1 (pl1 pl0))) rfl fun lines_25 => (rb_setfld (ps_fld (pv 0) peE rfl) rfl (re_tuple (rsq_F (re_of (pe_lc (own := [("page", 3)]) (g := gName 3) rfl scBookInit.nd (pi_list peE) (blkOk_by (own := [("page", 3)]) (N := ["self", "pages", "starts", "page"]) (sc := defScope sBookInit) (by decide +kernel)) (fun _ _ _ _ _ => pg_name (i := 3) scBookInit.nd rfl (.inl rfl)) ptPi peEi) (rte_lc (vs := [3]) (fun (x : (Str × (List Str) × (List Str))) Γ => Γ.set 3 (.fz ((rT3 rS (rL rS) (rL rS)) x))) (ri_list (re_var (ρ := (rL (rT3 rS (rL rS) (rL rS)))) (x := pages_) 1 rfl (pv 1))) (fun _ => rg_name) (fun _ => rgo_name) (un1 rfl) (fun (w26 : (Str × (List Str) × (List Str))) => rti_nil) (fun (w26 : (Str × (List Str) × (List Str))) _ _ _ _ _ => (re_call () Gascending_indexes (hr.mono (by decide)) takes0 (ra_cons (re_at (ρ := (rL rS)) (g := fun (x : (Str × (List Str) × (List Str))) => x.2.2) (fun (x : (Str × (List Str) × (List Str))) => [rS x.1, (rL rS) x.2.1, (rL rS) x.2.2]) (2) (re_var (ρ := (rT3 rS (rL rS) (rL rS))) (x := w26) 3 rfl (pv 3)) (hc := re_int)) (ra_cons (re_fldO (ρ' := (rTf rS)) rfl (pv 0) T.cl_Book T.na_Book_names) ra_nil)) T.gascending_indexes T.Fascending_indexes.kp T.bascending_indexes))))) T.z_tuple) T.cl_Book T.na_Book__followers (plt (pl1 (pl1 (pl1 pl0)))) rfl fun followers_34 => (rb_nil (x := (names_14, starts_20, lines_25, followers_34)) (.inl rfl) ⟨.inr rfl, .inl rfl, .inl rfl, .inl rfl, trivial⟩)))))))
end
end DD
namespace DD
open PySem PySem.Spec PyProof.Rows L2 KO SX RF
section
variable {P : Program} {w : World} {K : PySem.W.Frag} {mg : Str → Option Value} {base : Heap}
theorem scBookCheckpage : FnScope ["self", "index"] ["self", "index"] (defScope sBookCheckpage) := ⟨rfl, rfl, rfl, by decide +kernel, rfl, by decide +kernel, by decide +kernel⟩
def P_BookCheckpage (self_ : OBook) (index_ : Int) : Mo Unit :=
  ((((pure (0 : Int)) >>= fun i3 => (pure index_) >>= fun i4 => if (decide (i3 ≤ i4)) = true then ((((pure self_) >>= fun x1 => pure (x1.1)) >>= fun x2 => pure (x2.length : Int)) >>= fun i5 => pure (decide (i4 < i5))) else pure false) >>= fun b6 => pure (!b6)) >>= fun c7 => if c7 = true then (((pure index_) >>= fun x8 => Mo.rq (Enc.ok rI x8) ⟨"UnknownPage", [("number", Enc.d rI x8)]⟩) >>= fun e9 => Mo.throw e9) else (pure ()))
theorem fn_BookCheckpage (T : Tx K mg) : FnOk P w K mg base (L2.CX P w) 3 T.fBook_check_page T.dBook_check_page ["self", "index"] (spR K mg (fun (c : Unit) (z : OBook × Int × Unit) => [.fz ((rBook T.C_Book) z.1), .fz (rI z.2.1)]) (fun z => P_BookCheckpage z.1 z.2.1) (RK.fz rN)) := by
  have GUnknownPage_init := ok_UnknownPageInit (P := P) (w := w) (base := base) T
  refine fn_mk (Γe := fun c z => [.un, .un]) (Γ0 := fun c z => [.fz ((rBook T.C_Book) z.1), .fz (rI z.2.1)]) (Z := (fun c z _ => .nx [.un, .un])) T.FBook_check_page scBookCheckpage (fun _ _ => rfl) (fun _ _ => rfl) (fun _ _ => ⟨.inl rfl, .inl rfl, trivial⟩) (fun _ _ _ _ _ _ h => (own_none rfl h).elim) (fun _ _ _ => .inr ⟨rfl, fun _ _ _ => rfl⟩) (fun cdv A outer s H E a0 y hr => ?_)
  obtain ⟨self_, index_, _⟩ := y
  show RB _ _ ([.un, .un] : RF.Ctx) false [.fz ((rBook T.C_Book) self_), .fz (rI index_)] _ (P_BookCheckpage self_ index_) _
  exact (rb_if0 (rt_not (rt_chain i_le i_lt re_int (re_var (ρ := rI) (x := index_) 1 rfl (pv 1)) (re_len (rsq_T (re_Tf (re_fld (ρ' := (rTf rS)) (g := fun (x : OBook) => x.1) (fsBook) (re_var (ρ := (rBook T.C_Book)) (x := self_) 0 rfl (pv 0)) T.cl_Book T.na_Book_names))) T.z_len))) (rb_raise (pmk_1 T.ox_UnknownPage T.ni_UnknownPage T.ti_UnknownPage GUnknownPage_init (hr.mono (by decide)) T.bUnknownPage_init (by rfl) T.g_UnknownPage tE_mono (pa_cons peE pa_nil)) (takes_of rfl rfl rfl rfl) (rx_1 (re_var (ρ := rI) (x := index_) 1 rfl (pv 1)) T.g_UnknownPage)) (rb_nil (x := ()) (.inl rfl) ⟨.inl rfl, .inl rfl, trivial⟩))

theorem scBookLinesof : FnScope ["self", "index"] ["self", "index"] (defScope sBookLinesof) := ⟨rfl, rfl, rfl, by decide +kernel, rfl, by decide +kernel, by decide +kernel⟩
def P_BookLinesof (self_ : OBook) (index_ : Int) : Mo (List Str) :=
  (((pure self_) >>= fun x1 => ((pure index_) >>= fun x3 => (pure ()) >>= fun y4 => pure (x3, y4)) >>= fun y2 => P_BookCheckpage x1 y2.1) >>= fun u5 => ((((pure self_) >>= fun x7 => pure (x7.2.2.1)) >>= fun x8 => (pure index_) >>= fun i9 => Mo.get (atI x8 i9)) >>= fun r6 => pure r6))
theorem fn_BookLinesof (T : Tx K mg) : FnOk P w K mg base (L2.CX P w) 4 T.fBook_lines_of T.dBook_lines_of ["self", "index"] (spR K mg (fun (c : Unit) (z : OBook × Int × Unit) => [.fz ((rBook T.C_Book) z.1), .fz (rI z.2.1)]) (fun z => P_BookLinesof z.1 z.2.1) (RK.fz (rTs rS))) := by
  have GBook_check_page := fn_BookCheckpage (P := P) (w := w) (base := base) T
  refine fn_mk (Γe := fun c z => [.un, .un]) (Γ0 := fun c z => [.fz ((rBook T.C_Book) z.1), .fz (rI z.2.1)]) (Z := (fun _ _ x => .ret ((RK.fz (rTs rS)).ok x))) T.FBook_lines_of scBookLinesof (fun _ _ => rfl) (fun _ _ => rfl) (fun _ _ => ⟨.inl rfl, .inl rfl, trivial⟩) (fun _ _ _ _ _ _ h => (own_none rfl h).elim) (fun _ _ _ => .inl rfl) (fun cdv A outer s H E a0 y hr => ?_)
  obtain ⟨self_, index_, _⟩ := y
  show RB _ _ ([.un, .un] : RF.Ctx) false [.fz ((rBook T.C_Book) self_), .fz (rI index_)] _ (P_BookLinesof self_ index_) _
  exact (rb_expr (ps_expr peE) (re_meth (pp := fun (y : Int × Unit) => [.fz (rI y.1)]) (m := fun z => P_BookCheckpage z.1 z.2.1) (ρo := (rBook T.C_Book)) (fsBook) (re_var (ρ := (rBook T.C_Book)) (x := self_) 0 rfl (pv 0)) T.cl_Book T.m_Book_check_page GBook_check_page (hr.mono (by decide)) (takes_of rfl rfl rfl rfl) (ra_cons (re_var (ρ := rI) (x := index_) 1 rfl (pv 1)) ra_nil) T.bBook_check_page) fun u5 => (rb_ret (fun (r6 : (List Str)) => r6) (re_ixTs (re_fld (ρ' := (rTs (rTs rS))) (g := fun (x : OBook) => x.2.2.1) (fsBook) (re_var (ρ := (rBook T.C_Book)) (x := self_) 0 rfl (pv 0)) T.cl_Book T.na_Book__lines) (re_var (ρ := rI) (x := index_) 1 rfl (pv 1))) (fun _ => rfl)))

theorem scBookFollowersof : FnScope ["self", "index"] ["self", "index"] (defScope sBookFollowersof) := ⟨rfl, rfl, rfl, by decide +kernel, rfl, by decide +kernel, by decide +kernel⟩
def P_BookFollowersof (self_ : OBook) (index_ : Int) : Mo (List Int) :=
  (((pure self_) >>= fun x1 => ((pure index_) >>= fun x3 => (pure ()) >>= fun y4 => pure (x3, y4)) >>= fun y2 => P_BookCheckpage x1 y2.1) >>= fun u5 => ((((pure self_) >>= fun x7 => pure (x7.2.2.2)) >>= fun x8 => (pure index_) >>= fun i9 => Mo.get (atI x8 i9)) >>= fun r6 => pure r6))
theorem fn_BookFollowersof (T : Tx K mg) : FnOk P w K mg base (L2.CX P w) 4 T.fBook_followers_of T.dBook_followers_of ["self", "index"] (spR K mg (fun (c : Unit) (z : OBook × Int × Unit) => [.fz ((rBook T.C_Book) z.1), .fz (rI z.2.1)]) (fun z => P_BookFollowersof z.1 z.2.1) (RK.fz (rTs rI))) := by
  have GBook_check_page := fn_BookCheckpage (P := P) (w := w) (base := base) T
  refine fn_mk (Γe := fun c z => [.un, .un]) (Γ0 := fun c z => [.fz ((rBook T.C_Book) z.1), .fz (rI z.2.1)]) (Z := (fun _ _ x => .ret ((RK.fz (rTs rI)).ok x))) T.FBook_followers_of scBookFollowersof (fun _ _ => rfl) (fun _ _ => rfl) (fun _ _ => ⟨.inl rfl, .inl rfl, trivial⟩) (fun _ _ _ _ _ _ h => (own_none rfl h).elim) (fun _ _ _ => .inl rfl) (fun cdv A outer s H E a0 y hr => ?_)
  obtain ⟨self_, index_, _⟩ := y
  show RB _ _ ([.un, .un] : RF.Ctx) false [.fz ((rBook T.C_Book) self_), .fz (rI index_)] _ (P_BookFollowersof self_ index_) _
  exact (rb_expr (ps_expr peE) (re_meth (pp := fun (y : Int × Unit) => [.fz (rI y.1)]) (m := fun z => P_BookCheckpage z.1 z.2.1) (ρo := (rBook T.C_Book)) (fsBook) (re_var (ρ := (rBook T.C_Book)) (x := self_) 0 rfl (pv 0)) T.cl_Book T.m_Book_check_page GBook_check_page (hr.mono (by decide)) (takes_of rfl rfl rfl rfl) (ra_cons (re_var (ρ := rI) (x := index_) 1 rfl (pv 1)) ra_nil) T.bBook_check_page) fun u5 => (rb_ret (fun (r6 : (List Int)) => r6) (re_Tf (re_ixTs (re_fld (ρ' := (rTs (rTf rI))) (g := fun (x : OBook) => x.2.2.2) (fsBook) (re_var (ρ := (rBook T.C_Book)) (x := self_) 0 rfl (pv 0)) T.cl_Book T.na_Book__followers) (re_var (ρ := rI) (x := index_) 1 rfl (pv 1)))) (fun _ => rfl)))

theorem scBookReachable : FnScope ["self", "found", "waiting", "at"] ["self"] (defScope sBookReachable) := ⟨rfl, rfl, rfl, by decide +kernel, rfl, by decide +kernel, by decide +kernel⟩
def P_BookReachable (self_ : OBook) : Mo (List Int) :=
  ((pure []) >>= fun found_1 => ((((pure self_) >>= fun x3 => pure (x3.2.1)) >>= fun x4 => pure x4) >>= fun waiting_5 => (Mo.while (δ := Empty) (fun s7 => ((pure s7.1) >>= fun x8 => pure (!x8.isEmpty))) (fun s7 => (Mo.get s7.1[s7.1.length - 1]? >>= fun at_9 => (((pure at_9) >>= fun x10 => (pure s7.2) >>= fun y11 => pure (!decide (x10 ∈ y11))) >>= fun c12 => if c12 = true then ((pure at_9) >>= fun x13 => Mo.rq (s7.2.length < sizeLine) x13 >>= fun x13 => ((((pure self_) >>= fun x14 => pure (x14.2.2.2)) >>= fun x15 => (pure at_9) >>= fun i16 => Mo.get (atI x15 i16)) >>= fun x17 => Mo.rq (s7.1.dropLast.length + x17.length ≤ sizeLine) x17 >>= fun x17 => (pure (Lp.go ((s7.1.dropLast ++ x17), (s7.2 ++ [x13])))))) else (pure (Lp.go (s7.1.dropLast, s7.2)))))) (waiting_5, found_1) >>= Lp.out (fun s18 => (((pure s18.2) >>= fun x20 => Mo.rq (x20.length < 64) () >>= fun _ => Mo.any (fun ys : List Int => ys.Perm x20 ∧ ys.Pairwise (· ≤ ·))) >>= fun r19 => pure r19)) (fun (x : Empty) => x.elim))))
theorem fn_BookReachable (T : Tx K mg) : FnOk P w K mg base (L2.CX P w) 2 T.fBook_reachable T.dBook_reachable ["self"] (spR K mg (fun (c : Unit) (z : OBook × Unit) => [.fz ((rBook T.C_Book) z.1)]) (fun z => P_BookReachable z.1) (RK.ow (oL rI))) := by
  refine fn_mk (Γe := fun c z => [.un, .un, .un, .un]) (Γ0 := fun c z => [.fz ((rBook T.C_Book) z.1), .un, .un, .un]) (Z := (fun _ _ x => .ret ((RK.ow (oL rI)).ok x))) T.FBook_reachable scBookReachable (fun _ _ => rfl) (fun _ _ => rfl) (fun _ _ => ⟨.inl rfl, .inl rfl, .inl rfl, .inl rfl, trivial⟩) (fun _ _ _ _ _ _ h => (own_none rfl h).elim) (fun _ _ _ => .inl rfl) (fun cdv A outer s H E a0 y hr => ?_)
  obtain ⟨self_, _⟩ := y
  show RB _ _ ([.un, .un, .un, .un] : RF.Ctx) false [.fz ((rBook T.C_Book) self_), .un, .un, .un] _ (P_BookReachable self_) _
  exact (rb_setO (ps_set (i := 1) scBookReachable.nd rfl (.inl rfl) peE) (re_lst0 (ρ := rI)) rfl fun (found_1 : (List Int)) a2 => (rb_setO (ps_set (i := 2) scBookReachable.nd rfl (.inl rfl) peE) (re_list (rsq_T (re_Tf (re_fld (ρ' := (rTf rI)) (g := fun (x : OBook) => x.2.1) (fsBook) (re_var (ρ := (rBook T.C_Book)) (x := self_) 0 rfl (pv 0)) T.cl_Book T.na_Book_starts))) T.z_list) rfl fun (waiting_5 : (List Int)) a6 => (rb_while (δ := Empty) (s0 := (waiting_5, found_1)) (Zr := (fun (x : Empty) => x.elim)) (kr := (fun (x : Empty) => x.elim)) (fun (s7 : (List Int) × (List Int)) => [.fz ((rBook T.C_Book) self_), .ow true a2 (oL rI s7.2), .ow true a6 (oL rI s7.1), .un]) (ps_while (passes_of rfl) ptT pssS) (fun (s7 : (List Int) × (List Int)) => (rt_seq (rsq_O rfl (pv 2)))) ⟨.inr rfl, .inr rfl, .inr rfl, .inl rfl, trivial⟩ (fun _ => ⟨.inl rfl, .inl rfl, .inl rfl, .inl rfl, trivial⟩) (fun (s7 : (List Int) × (List Int)) => (rb_setPop (ps_set (i := 3) scBookReachable.nd rfl (.inl rfl) (pe_bm0 PySem.F.plainAttrs_list PySem.F.slot_list_pop PySem.F.type_list_pop mt_pop (pv 2))) rfl rfl rfl fun (at_9 : Int) => (rb_if0 (rt_rc (rc_ninI (re_var (ρ := rI) (x := at_9) 3 rfl (pv 3)) (rsq_O rfl (pv 1)))) (rb_app (ps_expr (pe_bm PySem.F.plainAttrs_list PySem.F.slot_list_append PySem.F.type_list_append mt_append (pv 1) (pa_cons peE pa_nil))) rfl (re_var (ρ := rI) (x := at_9) 3 rfl (pv 3)) rfl fun x13 => (rb_extT (ps_expr (pe_bm PySem.F.plainAttrs_list PySem.F.slot_list_extend PySem.F.type_list_extend mt_extT (pv 2) (pa_cons peE pa_nil))) rfl (re_ixTs (re_fld (ρ' := (rTs (rTf rI))) (g := fun (x : OBook) => x.2.2.2) (fsBook) (re_var (ρ := (rBook T.C_Book)) (x := self_) 0 rfl (pv 0)) T.cl_Book T.na_Book__followers) (re_var (ρ := rI) (x := at_9) 3 rfl (pv 3))) rfl fun (x17 : (List Int)) => (rb_nil (x := (Lp.go ((s7.1.dropLast ++ x17), (s7.2 ++ [x13])))) (.inr rfl) ⟨.inr rfl, .inr rfl, .inr rfl, .inl rfl, trivial⟩))) (rb_nil (x := (Lp.go (s7.1.dropLast, s7.2))) (.inr rfl) ⟨.inr rfl, .inr rfl, .inr rfl, .inl rfl, trivial⟩)))) (fun a => a.elim) (fun a => a.elim) fun (s18 : (List Int) × (List Int)) => (rb_weak (Γ' := [.fz ((rBook T.C_Book) self_), .ow true a2 (oL rI s18.2), .un, .un]) ⟨.inr rfl, .inr rfl, .inl rfl, .inl rfl, trivial⟩ ⟨.inl rfl, .inl rfl, .inl rfl, .inl rfl, trivial⟩ (rb_frz (i := 1) (p := rL rI s18.2) rfl (frz_L _ _) rfl (rb_ret (fun (r19 : (List Int)) => r19) (re_sorted (rsq_L (re_var (ρ := (rL rI)) (x := s18.2) 1 rfl (pv 1))) T.z_sorted) (fun _ => rfl)))))))

theorem scHeavyInit : FnScope ["self", "mean", "ring", "worths"] ["self", "mean", "ring", "worths"] (defScope sHeavyInit) := ⟨rfl, rfl, rfl, by decide +kernel, rfl, by decide +kernel, by decide +kernel⟩
def P_HeavyInit (mean_ : (Int × Int)) (ring_ : (List Str)) (worths_ : (List (Option Int))) : Mo (OHeavy) :=
  ((pure mean_) >>= fun mean_1 => (((pure ring_) >>= fun x2 => pure x2) >>= fun ring_3 => (((pure worths_) >>= fun x4 => pure x4) >>= fun worths_5 => (pure (mean_1, ring_3, worths_5)))))
theorem fn_HeavyInit (T : Tx K mg) : FnOk P w K mg base (L2.CX P w) 2 T.fHeavy_init T.dHeavy_init ["self", "mean", "ring", "worths"] (spI K mg T.C_Heavy (fun (z : (Int × Int) × (List Str) × (List (Option Int)) × Unit) => [.fz ((rT2 rI rI) z.1), .fz ((rL rS) z.2.1), .fz ((rL (rO rI)) z.2.2.1)]) (fun z => P_HeavyInit z.1 z.2.1 z.2.2.1) (fsHeavy)) := by
  refine init_mk (Γe := [.un, .un, .un, .un]) (Γ0 := fun a z => [.ow false a (oIn T.C_Heavy []), .fz ((rT2 rI rI) z.1), .fz ((rL rS) z.2.1), .fz ((rL (rO rI)) z.2.2.1)]) (Γo := fun a z => [.ow false a (oIn T.C_Heavy (fsHeavy z)), .un, .un, .un]) T.FHeavy_init scHeavyInit (fun _ => rfl) (fun _ _ => rfl) (fun _ _ => ⟨.inl rfl, .inl rfl, .inl rfl, .inl rfl, trivial⟩) (fun _ => rfl) (fun _ _ => rfl) (fun cdv A outer s H E a0 y hr => ?_)
  obtain ⟨mean_, ring_, worths_, _⟩ := y
  show RB _ _ ([.un, .un, .un, .un] : RF.Ctx) false [.ow false a0 (oIn T.C_Heavy []), .fz ((rT2 rI rI) mean_), .fz ((rL rS) ring_), .fz ((rL (rO rI)) worths_)] _ (P_HeavyInit mean_ ring_ worths_) _
  exact (rb_setfld (ps_fld (pv 0) peE rfl) rfl (re_var (ρ := (rT2 rI rI)) (x := mean_) 1 rfl (pv 1)) T.cl_Heavy T.na_Heavy_mean (plt pl0) rfl fun mean_1 => (rb_setfld (ps_fld (pv 0) peE rfl) rfl (re_frz (re_list (rsq_L (re_var (ρ := (rL rS)) (x := ring_) 2 rfl (pv 2))) T.z_list) frz_L) T.cl_Heavy T.na_Heavy_ring (plt (pl1 pl0)) rfl fun ring_3 => (rb_setfld (ps_fld (pv 0) peE rfl) rfl (re_frz (re_list (rsq_L (re_var (ρ := (rL (rO rI))) (x := worths_) 3 rfl (pv 3))) T.z_list) frz_L) T.cl_Heavy T.na_Heavy_worths (plt (pl1 (pl1 pl0))) rfl fun worths_5 => (rb_nil (x := (mean_1, ring_3, worths_5)) (.inl rfl) ⟨.inr rfl, .inl rfl, .inl rfl, .inl rfl, trivial⟩))))
end
end DD
namespace DD
open PySem PySem.Spec PyProof.Rows L2 KO SX RF
section
variable {P : Program} {w : World} {K : PySem.W.Frag} {mg : Str → Option Value} {base : Heap}
theorem scpageweights : FnScope ["book", "weights", "at", "line"] ["book", "weights"] (defScope spageweights) := ⟨rfl, rfl, rfl, by decide +kernel, rfl, by decide +kernel, by decide +kernel⟩
def P_pageweights (book_ : OBook) (weights_ : (List (Str × Int))) : Mo (List Int) :=
  (((((pure book_) >>= fun x2 => Mo.calm (P_BookLen x2) >>= fun n3 => Mo.rq (0 ≤ n3 ∧ n3 < 2 ^ 63) n3) >>= fun i4 => Mo.rq (-(2 ^ 62) ≤ i4 ∧ i4 < 2 ^ 62) (rangeL 0 i4.toNat)) >>= Mo.lc (fun w6 => (pure true)) (fun w6 => ((((pure book_) >>= fun x7 => ((pure w6) >>= fun x9 => (pure ()) >>= fun y10 => pure (x9, y10)) >>= fun y8 => P_BookLinesof x7 y8.1) >>= Mo.lc (fun w11 => (pure true)) (fun w11 => ((pure weights_) >>= fun d12 => (pure w11) >>= fun k13 => (pure (0 : Int)) >>= fun x14 => pure ((dgetS d12 k13).getD x14)))) >>= fun x15 => pure x15.sum))) >>= fun r1 => pure r1)
theorem fn_pageweights (T : Tx K mg) : FnOk P w K mg base (L2.CX P w) 5 T.fpage_weights T.dpage_weights ["book", "weights"] (spR K mg (fun (c : Unit) (z : OBook × (List (Str × Int)) × Unit) => [.fz ((rBook T.C_Book) z.1), .fz ((rDkS rI) z.2.1)]) (fun z => P_pageweights z.1 z.2.1) (RK.ow (oL rI))) := by
  have GBook_len := fn_BookLen (P := P) (w := w) (base := base) T
  have GBook_lines_of := fn_BookLinesof (P := P) (w := w) (base := base) T
  refine fn_mk (Γe := fun c z => [.un, .un, .un, .un]) (Γ0 := fun c z => [.fz ((rBook T.C_Book) z.1), .fz ((rDkS rI) z.2.1), .un, .un]) (Z := (fun _ _ x => .ret ((RK.ow (oL rI)).ok x))) T.Fpage_weights scpageweights (fun _ _ => rfl) (fun _ _ => rfl) (fun _ _ => ⟨.inl rfl, .inl rfl, .inl rfl, .inl rfl, trivial⟩) (fun _ _ _ _ _ _ h => (own_none rfl h).elim) (fun _ _ _ => .inl rfl) (fun cdv A outer s H E a0 y hr => ?_)
  obtain ⟨book_, weights_, _⟩ := y
  show RB _ _ ([.un, .un, .un, .un] : RF.Ctx) false [.fz ((rBook T.C_Book) book_), .fz ((rDkS rI) weights_), .un, .un] _ (P_pageweights book_ weights_) _
  exact (rb_ret (fun (r1 : (List Int)) => r1) (re_of (pe_lc (own := [("at", 2)]) (g := gName 2) rfl scpageweights.nd (pi_range1 (by rfl) T.z_range (pa_cons peE pa_nil)) (blkOk_by (own := [("at", 2)]) (N := ["book", "weights", "at", "line"]) (sc := defScope spageweights) (by decide +kernel)) (fun _ _ _ _ _ => pg_name (i := 2) scpageweights.nd rfl (.inl rfl)) ptPi peEi) (rte_lc (vs := [2]) (fun (x : Int) Γ => Γ.set 2 (.fz (rI x))) (ri_range1 (re_lenO (m := fun z => P_BookLen z.1) (fsBook) T.m_Book_len GBook_len (hr.mono (by decide)) (takes_of rfl rfl rfl rfl) T.bBook_len (re_var (ρ := (rBook T.C_Book)) (x := book_) 0 rfl (pv 0)) T.z_len)) (fun _ => rg_name) (fun _ => rgo_name) (un1 rfl) (fun (w6 : Int) => rti_nil) (fun (w6 : Int) _ _ _ _ _ => (re_sum (rsq_F (re_of (pe_lc (own := [("line", 3)]) (g := gName 3) rfl scpageweights.nd (pi_tup peE) (blkOk_by (own := [("line", 3)]) (N := ["book", "weights", "at", "line"]) rfl) (fun _ _ _ _ _ => pg_name (i := 3) scpageweights.nd rfl (.inl rfl)) ptPi peEi) (rte_lc (vs := [3]) (fun (x : Str) Γ => Γ.set 3 (.fz (rS x))) (ri_tup (re_meth (pp := fun (y : Int × Unit) => [.fz (rI y.1)]) (m := fun z => P_BookLinesof z.1 z.2.1) (ρo := (rBook T.C_Book)) (fsBook) (re_var (ρ := (rBook T.C_Book)) (x := book_) 0 rfl (pv 0)) T.cl_Book T.m_Book_lines_of GBook_lines_of (hr.mono (by decide)) takes0 (ra_cons (re_var (ρ := rI) (x := w6) 2 rfl (pv 2)) ra_nil) T.bBook_lines_of)) (fun _ => rg_name) (fun _ => rgo_name) (un1 rfl) (fun (w11 : Str) => rti_nil) (fun (w11 : Str) _ _ _ _ _ => (re_dgetm2S (rdc_FS (re_var (ρ := (rDkS rI)) (x := weights_) 1 rfl (pv 1))) (re_var (ρ := rS) (x := w11) 3 rfl (pv 3)) re_int (u1 hr.units) ⟨rfl, rfl, rfl, rfl⟩))))) T.z_sum)))) (fun _ => rfl))

theorem scshortrings : FnScope ["book", "rings", "waiting", "row", "followers", "at", "after"] ["book"] (defScope sshortrings) := ⟨rfl, rfl, rfl, by decide +kernel, rfl, by decide +kernel, by decide +kernel⟩
def P_shortrings (book_ : OBook) : Mo (List (List Int)) :=
  ((pure []) >>= fun rings_1 => ((((pure book_) >>= fun x3 => P_BookReachable x3) >>= Mo.lc (fun w5 => (pure true)) (fun w5 => (((pure w5) >>= fun x6 => (pure ()) >>= fun y7 => pure (x6, y7)) >>= fun y8 => pure [y8.1]))) >>= fun waiting_9 => (Mo.while (δ := Empty) (fun s11 => ((pure s11.1) >>= fun x12 => pure (!x12.isEmpty))) (fun s11 => (Mo.get s11.1[s11.1.length - 1]? >>= fun row_13 => (((pure book_) >>= fun x14 => (((pure row_13) >>= fun x17 => ((pure (1 : Int)) >>= fun i16 => pure (-i16)) >>= fun i18 => Mo.get (atI x17 i18)) >>= fun x19 => (pure ()) >>= fun y20 => pure (x19, y20)) >>= fun y15 => P_BookFollowersof x14 y15.1) >>= fun followers_21 => ((((pure row_13) >>= fun x22 => (pure (0 : Int)) >>= fun i23 => Mo.get (atI x22 i23)) >>= fun x24 => (pure followers_21) >>= fun y25 => pure (decide (x24 ∈ y25))) >>= fun c26 => (if c26 = true then ((pure row_13) >>= fun x27 => Mo.rq (s11.2.length < sizeLine) x27 >>= fun x27 => (pure ((s11.2 ++ [x27])))) else (pure (s11.2))) >>= fun j28 => (((pure followers_21) >>= Mo.lc (fun w29 => ((pure w29) >>= fun x30 => (pure row_13) >>= fun y31 => pure (!decide (x30 ∈ y31)))) (fun w29 => ((pure row_13) >>= fun x35 => (((pure w29) >>= fun x32 => (pure ()) >>= fun y33 => pure (x32, y33)) >>= fun y34 => pure [y34.1]) >>= fun y36 => Mo.rq (x35.length + y36.length ≤ sizeLine) (x35 ++ y36)))) >>= fun x37 => Mo.rq (s11.1.dropLast.length + x37.length ≤ sizeLine) x37 >>= fun x37 => (pure (Lp.go ((s11.1.dropLast ++ x37), j28)))))))) (waiting_9, rings_1) >>= Lp.out (fun s38 => (pure s38.2)) (fun (x : Empty) => x.elim))))
theorem fn_shortrings (T : Tx K mg) : FnOk P w K mg base (L2.CX P w) 5 T.fshort_rings T.dshort_rings ["book"] (spR K mg (fun (c : Unit) (z : OBook × Unit) => [.fz ((rBook T.C_Book) z.1)]) (fun z => P_shortrings z.1) (RK.ow (oL (rL rI)))) := by
  have GBook_followers_of := fn_BookFollowersof (P := P) (w := w) (base := base) T
  have GBook_reachable := fn_BookReachable (P := P) (w := w) (base := base) T
  refine fn_mk (Γe := fun c z => [.un, .un, .un, .un, .un, .un, .un]) (Γ0 := fun c z => [.fz ((rBook T.C_Book) z.1), .un, .un, .un, .un, .un, .un]) (Z := (fun _ _ x => .ret ((RK.ow (oL (rL rI))).ok x))) T.Fshort_rings scshortrings (fun _ _ => rfl) (fun _ _ => rfl) (fun _ _ => ⟨.inl rfl, .inl rfl, .inl rfl, .inl rfl, .inl rfl, .inl rfl, .inl rfl, trivial⟩) (fun _ _ _ _ _ _ h => (own_none rfl h).elim) (fun _ _ _ => .inl rfl) (fun cdv A outer s H E a0 y hr => ?_)
  obtain ⟨book_, _⟩ := y
  show RB _ _ ([.un, .un, .un, .un, .un, .un, .un] : RF.Ctx) false [.fz ((rBook T.C_Book) book_), .un, .un, .un, .un, .un, .un] _ (P_shortrings book_) _
  exact (rb_setO (ps_set (i := 1) scshortrings.nd rfl (.inl rfl) peE) (re_lst0 (ρ := (rL rI))) rfl fun (rings_1 : (List (List Int))) a2 => (rb_setO (ps_setLc (i := 2) (own := [("at", 5)]) (g := gName 5) rfl scshortrings.nd rfl rfl (sw_true rfl rfl rfl (by decide +kernel)) (pi_list peE) (blkOk_by (own := [("at", 5)]) (N := ["book", "rings", "waiting", "row", "followers", "at", "after"]) (sc := defScope sshortrings) (by decide +kernel)) (fun _ _ _ _ _ => pg_name (i := 5) scshortrings.nd rfl (.inl rfl)) ptPi peEi) (rte_lc (vs := [5]) (fun (x : Int) Γ => Γ.set 5 (.fz (rI x))) (ri_list (re_frz (re_meth0 (m := fun x => P_BookReachable x) (fsBook) (re_var (ρ := (rBook T.C_Book)) (x := book_) 0 rfl (pv 0)) T.cl_Book T.m_Book_reachable GBook_reachable (hr.mono (by decide)) (takes_of rfl rfl rfl rfl) T.bBook_reachable) frz_L)) (fun _ => rg_name) (fun _ => rgo_name) (un1 rfl) (fun (w5 : Int) => rti_nil) (fun (w5 : Int) _ _ _ _ _ => (re_frz (re_lst (fun (y8 : Int × Unit) => [y8.1]) rI (ra_cons (re_var (ρ := rI) (x := w5) 5 rfl (pv 5)) ra_nil)) frz_L))) rfl fun (waiting_9 : (List (List Int))) a10 => (rb_while (δ := Empty) (s0 := (waiting_9, rings_1)) (Zr := (fun (x : Empty) => x.elim)) (kr := (fun (x : Empty) => x.elim)) (fun (s11 : (List (List Int)) × (List (List Int))) => [.fz ((rBook T.C_Book) book_), .ow true a2 (oL (rL rI) s11.2), .ow true a10 (oL (rL rI) s11.1), .un, .un, .un, .un]) (ps_while (passes_of rfl) ptT pssS) (fun (s11 : (List (List Int)) × (List (List Int))) => (rt_seq (rsq_O rfl (pv 2)))) ⟨.inr rfl, .inr rfl, .inr rfl, .inl rfl, .inl rfl, .inl rfl, .inl rfl, trivial⟩ (fun _ => ⟨.inl rfl, .inl rfl, .inl rfl, .inl rfl, .inl rfl, .inl rfl, .inl rfl, trivial⟩) (fun (s11 : (List (List Int)) × (List (List Int))) => (rb_setPop (ps_set (i := 3) scshortrings.nd rfl (.inr rfl) (pe_bm0 PySem.F.plainAttrs_list PySem.F.slot_list_pop PySem.F.type_list_pop mt_pop (pv 2))) rfl rfl rfl fun (row_13 : (List Int)) => (rb_set (ps_set (i := 4) scshortrings.nd rfl (.inl rfl) peE) (re_meth (pp := fun (y : Int × Unit) => [.fz (rI y.1)]) (m := fun z => P_BookFollowersof z.1 z.2.1) (ρo := (rBook T.C_Book)) (fsBook) (re_var (ρ := (rBook T.C_Book)) (x := book_) 0 rfl (pv 0)) T.cl_Book T.m_Book_followers_of GBook_followers_of (hr.mono (by decide)) (takes_of rfl rfl rfl rfl) (ra_cons (re_ixL (re_var (ρ := (rL rI)) (x := row_13) 3 rfl (pv 3)) (re_neg re_int)) ra_nil) T.bBook_followers_of) rfl fun (followers_21 : (List Int)) => (rb_ifJ (fun (j28 : (List (List Int))) => [.fz ((rBook T.C_Book) book_), .ow true a2 (oL (rL rI) j28), .ow true a10 (oL (rL rI) s11.1.dropLast), .fz ((rL rI) row_13), .fz ((rTs rI) followers_21), .un, .un]) (rt_rc (rc_inI (re_ixL (re_var (ρ := (rL rI)) (x := row_13) 3 rfl (pv 3)) re_int) (rsq_T (re_var (ρ := (rTs rI)) (x := followers_21) 4 rfl (pv 4))))) (rb_app (ps_expr (pe_bm PySem.F.plainAttrs_list PySem.F.slot_list_append PySem.F.type_list_append mt_append (pv 1) (pa_cons peE pa_nil))) rfl (re_var (ρ := (rL rI)) (x := row_13) 3 rfl (pv 3)) rfl fun x27 => (rb_nil (x := ((s11.2 ++ [x27]))) (.inl rfl) ⟨.inr rfl, .inr rfl, .inr rfl, .inr rfl, .inr rfl, .inl rfl, .inl rfl, trivial⟩)) (rb_nil (x := (s11.2)) (.inl rfl) ⟨.inr rfl, .inr rfl, .inr rfl, .inr rfl, .inr rfl, .inl rfl, .inl rfl, trivial⟩) (fun _ => ⟨.inl rfl, .inl rfl, .inl rfl, .inl rfl, .inl rfl, .inl rfl, .inl rfl, trivial⟩) fun (j28 : (List (List Int))) => (rb_ext (ps_expr (pe_bm PySem.F.plainAttrs_list PySem.F.slot_list_extend PySem.F.type_list_extend mt_extend (pv 2) (pa_cons peE pa_nil))) rfl (re_frz (re_of (pe_lc (own := [("after", 6)]) (g := gName 6) rfl scshortrings.nd (pi_tup peE) (blkOk_by (own := [("after", 6)]) (N := ["book", "rings", "waiting", "row", "followers", "at", "after"]) (sc := defScope sshortrings) (by decide +kernel)) (fun _ _ _ _ _ => pg_name (i := 6) scshortrings.nd rfl (.inl rfl)) ptPi peEi) (rte_lc (vs := [6]) (fun (x : Int) Γ => Γ.set 6 (.fz (rI x))) (ri_tup (re_var (ρ := (rTs rI)) (x := followers_21) 4 rfl (pv 4))) (fun _ => rg_name) (fun _ => rgo_name) (un1 rfl) (fun (w29 : Int) => (rti_one (fun _ _ _ _ _ => (rt_rc (rc_ninI (re_var (ρ := rI) (x := w29) 6 rfl (pv 6)) (rsq_L (re_var (ρ := (rL rI)) (x := row_13) 3 rfl (pv 3)))))))) (fun (w29 : Int) _ _ _ _ _ => (re_frz (re_cat (re_var (ρ := (rL rI)) (x := row_13) 3 rfl (pv 3)) (re_frz (re_lst (fun (y34 : Int × Unit) => [y34.1]) rI (ra_cons (re_var (ρ := rI) (x := w29) 6 rfl (pv 6)) ra_nil)) frz_L)) frz_L)))) frz_L) rfl fun (x37 : (List (List Int))) => (rb_nil (x := (Lp.go ((s11.1.dropLast ++ x37), j28))) (.inr rfl) ⟨.inr rfl, .inr rfl, .inr rfl, .inl rfl, .inl rfl, .inl rfl, .inl rfl, trivial⟩)))))) (fun a => a.elim) (fun a => a.elim) fun (s38 : (List (List Int)) × (List (List Int))) => (rb_weak (Γ' := [.fz ((rBook T.C_Book) book_), .ow true a2 (oL (rL rI) s38.2), .un, .un, .un, .un, .un]) ⟨.inr rfl, .inr rfl, .inl rfl, .inl rfl, .inl rfl, .inl rfl, .inl rfl, trivial⟩ ⟨.inl rfl, .inl rfl, .inl rfl, .inl rfl, .inl rfl, .inl rfl, .inl rfl, trivial⟩ (rb_retO (y := s38.2) (z := s38.2) (k := oL (rL rI)) rfl (pv 1) rfl rfl)))))

theorem sconemore : FnScope ["book", "gains", "sums", "at", "after"] ["book", "gains", "sums"] (defScope sonemore) := ⟨rfl, rfl, rfl, by decide +kernel, rfl, by decide +kernel, by decide +kernel⟩
def P_onemore (book_ : OBook) (gains_ : (List Int)) (sums_ : (List Int)) : Mo (List Int) :=
  (((((pure book_) >>= fun x2 => Mo.calm (P_BookLen x2) >>= fun n3 => Mo.rq (0 ≤ n3 ∧ n3 < 2 ^ 63) n3) >>= fun i4 => Mo.rq (-(2 ^ 62) ≤ i4 ∧ i4 < 2 ^ 62) (rangeL 0 i4.toNat)) >>= Mo.lc (fun w6 => (pure true)) (fun w6 => (((pure gains_) >>= fun x7 => (pure w6) >>= fun i8 => Mo.get (atI x7 i8)) >>= fun i17 => ((((pure book_) >>= fun x9 => ((pure w6) >>= fun x11 => (pure ()) >>= fun y12 => pure (x11, y12)) >>= fun y10 => P_BookFollowersof x9 y10.1) >>= Mo.lc (fun w13 => (pure true)) (fun w13 => ((pure sums_) >>= fun x14 => (pure w13) >>= fun i15 => Mo.get (atI x14 i15)))) >>= fun x16 => Mo.rq (0 < x16.length) () >>= fun _ => Mo.any (fun i : Int => i ∈ x16 ∧ ∀ y ∈ x16, y ≤ i)) >>= fun j18 => pure (i17 + j18)))) >>= fun r1 => pure r1)
theorem fn_onemore (T : Tx K mg) : FnOk P w K mg base (L2.CX P w) 5 T.fone_more T.done_more ["book", "gains", "sums"] (spR K mg (fun (c : Unit) (z : OBook × (List Int) × (List Int) × Unit) => [.fz ((rBook T.C_Book) z.1), .fz ((rL rI) z.2.1), .fz ((rL rI) z.2.2.1)]) (fun z => P_onemore z.1 z.2.1 z.2.2.1) (RK.ow (oL rI))) := by
  have GBook_len := fn_BookLen (P := P) (w := w) (base := base) T
  have GBook_followers_of := fn_BookFollowersof (P := P) (w := w) (base := base) T
  refine fn_mk (Γe := fun c z => [.un, .un, .un, .un, .un]) (Γ0 := fun c z => [.fz ((rBook T.C_Book) z.1), .fz ((rL rI) z.2.1), .fz ((rL rI) z.2.2.1), .un, .un]) (Z := (fun _ _ x => .ret ((RK.ow (oL rI)).ok x))) T.Fone_more sconemore (fun _ _ => rfl) (fun _ _ => rfl) (fun _ _ => ⟨.inl rfl, .inl rfl, .inl rfl, .inl rfl, .inl rfl, trivial⟩) (fun _ _ _ _ _ _ h => (own_none rfl h).elim) (fun _ _ _ => .inl rfl) (fun cdv A outer s H E a0 y hr => ?_)
  obtain ⟨book_, gains_, sums_, _⟩ := y
  show RB _ _ ([.un, .un, .un, .un, .un] : RF.Ctx) false [.fz ((rBook T.C_Book) book_), .fz ((rL rI) gains_), .fz ((rL rI) sums_), .un, .un] _ (P_onemore book_ gains_ sums_) _
  exact (rb_ret (fun (r1 : (List Int)) => r1) (re_of (pe_lc (own := [("at", 3)]) (g := gName 3) rfl sconemore.nd (pi_range1 (by rfl) T.z_range (pa_cons peE pa_nil)) (blkOk_by (own := [("at", 3)]) (N := ["book", "gains", "sums", "at", "after"]) (sc := defScope sonemore) (by decide +kernel)) (fun _ _ _ _ _ => pg_name (i := 3) sconemore.nd rfl (.inl rfl)) ptPi peEi) (rte_lc (vs := [3]) (fun (x : Int) Γ => Γ.set 3 (.fz (rI x))) (ri_range1 (re_lenO (m := fun z => P_BookLen z.1) (fsBook) T.m_Book_len GBook_len (hr.mono (by decide)) (takes_of rfl rfl rfl rfl) T.bBook_len (re_var (ρ := (rBook T.C_Book)) (x := book_) 0 rfl (pv 0)) T.z_len)) (fun _ => rg_name) (fun _ => rgo_name) (un1 rfl) (fun (w6 : Int) => rti_nil) (fun (w6 : Int) _ _ _ _ _ => (re_add (re_ixL (re_var (ρ := (rL rI)) (x := gains_) 1 rfl (pv 1)) (re_var (ρ := rI) (x := w6) 3 rfl (pv 3))) (re_maxL (rsq_F (re_of (pe_lc (own := [("after", 4)]) (g := gName 4) rfl sconemore.nd (pi_tup peE) (blkOk_by (own := [("after", 4)]) (N := ["book", "gains", "sums", "at", "after"]) rfl) (fun _ _ _ _ _ => pg_name (i := 4) sconemore.nd rfl (.inl rfl)) ptPi peEi) (rte_lc (vs := [4]) (fun (x : Int) Γ => Γ.set 4 (.fz (rI x))) (ri_tup (re_meth (pp := fun (y : Int × Unit) => [.fz (rI y.1)]) (m := fun z => P_BookFollowersof z.1 z.2.1) (ρo := (rBook T.C_Book)) (fsBook) (re_var (ρ := (rBook T.C_Book)) (x := book_) 0 rfl (pv 0)) T.cl_Book T.m_Book_followers_of GBook_followers_of (hr.mono (by decide)) takes0 (ra_cons (re_var (ρ := rI) (x := w6) 3 rfl (pv 3)) ra_nil) T.bBook_followers_of)) (fun _ => rg_name) (fun _ => rgo_name) (un1 rfl) (fun (w13 : Int) => rti_nil) (fun (w13 : Int) _ _ _ _ _ => (re_ixL (re_var (ρ := (rL rI)) (x := sums_) 2 rfl (pv 2)) (re_var (ρ := rI) (x := w13) 4 rfl (pv 4))))))) T.z_max))))) (fun _ => rfl))

theorem scworthsof : FnScope ["book", "gains", "found", "worths", "_", "at", "worth"] ["book", "gains"] (defScope sworthsof) := ⟨rfl, rfl, rfl, by decide +kernel, rfl, by decide +kernel, by decide +kernel⟩
def P_worthsof (book_ : OBook) (gains_ : (List Int)) : Mo (List (Option Int)) :=
  (((pure book_) >>= fun x1 => P_BookReachable x1) >>= fun found_3 => (((((pure (0 : Int)) >>= fun x4 => (pure ()) >>= fun y5 => pure (x4, y5)) >>= fun y6 => pure [y6.1]) >>= fun x9 => ((pure book_) >>= fun x7 => Mo.calm (P_BookLen x7) >>= fun n8 => Mo.rq (0 ≤ n8 ∧ n8 < 2 ^ 63) n8) >>= fun n10 => Mo.rq (-(2 ^ 63) ≤ n10 ∧ n10 < 2 ^ 63 ∧ x9.length * n10.toNat ≤ sizeLine) (List.replicate n10.toNat x9).flatten) >>= fun worths_11 => ((((pure book_) >>= fun x12 => Mo.calm (P_BookLen x12) >>= fun n13 => Mo.rq (0 ≤ n13 ∧ n13 < 2 ^ 63) n13) >>= fun i14 => Mo.rq (-(2 ^ 62) ≤ i14 ∧ i14 < 2 ^ 62) (rangeL 0 i14.toNat)) >>= fun xs => Mo.fold (fun s16 w17 => (((((pure book_) >>= fun x23 => ((pure gains_) >>= fun x21 => ((pure s16) >>= fun x19 => (pure ()) >>= fun y20 => pure (x19, y20)) >>= fun y22 => pure (x21, y22)) >>= fun y24 => pure (x23, y24)) >>= fun y18 => P_onemore y18.1 y18.2.1 y18.2.2.1) >>= Mo.lc (fun w25 => (pure true)) (fun w25 => ((pure (0 : Int)) >>= fun i26 => (pure w25) >>= fun j27 => pure (max i26 j27)))) >>= fun worths_28 => (pure (worths_28)))) xs (worths_11) >>= fun s29 => (((((pure book_) >>= fun x31 => Mo.calm (P_BookLen x31) >>= fun n32 => Mo.rq (0 ≤ n32 ∧ n32 < 2 ^ 63) n32) >>= fun i33 => Mo.rq (-(2 ^ 62) ≤ i33 ∧ i33 < 2 ^ 62) (rangeL 0 i33.toNat)) >>= Mo.lc (fun w35 => (pure true)) (fun w35 => (((pure w35) >>= fun x36 => (pure found_3) >>= fun y37 => pure (decide (x36 ∈ y37))) >>= fun b40 => if b40 = true then ((fun x => some ((fun x => x) x)) <$> ((pure s29) >>= fun x38 => (pure w35) >>= fun i39 => Mo.get (atI x38 i39))) else ((fun _ => none) <$> (pure ()))))) >>= fun r30 => pure r30))))
theorem fn_worthsof (T : Tx K mg) : FnOk P w K mg base (L2.CX P w) 6 T.fworths_of T.dworths_of ["book", "gains"] (spR K mg (fun (c : Unit) (z : OBook × (List Int) × Unit) => [.fz ((rBook T.C_Book) z.1), .fz ((rL rI) z.2.1)]) (fun z => P_worthsof z.1 z.2.1) (RK.ow (oL (rO rI)))) := by
  have GBook_len := fn_BookLen (P := P) (w := w) (base := base) T
  have GBook_reachable := fn_BookReachable (P := P) (w := w) (base := base) T
  have Gone_more := fn_onemore (P := P) (w := w) (base := base) T
  refine fn_mk (Γe := fun c z => [.un, .un, .un, .un, .un, .un, .un]) (Γ0 := fun c z => [.fz ((rBook T.C_Book) z.1), .fz ((rL rI) z.2.1), .un, .un, .un, .un, .un]) (Z := (fun _ _ x => .ret ((RK.ow (oL (rO rI))).ok x))) T.Fworths_of scworthsof (fun _ _ => rfl) (fun _ _ => rfl) (fun _ _ => ⟨.inl rfl, .inl rfl, .inl rfl, .inl rfl, .inl rfl, .inl rfl, .inl rfl, trivial⟩) (fun _ _ _ _ _ _ h => (own_none rfl h).elim) (fun _ _ _ => .inl rfl) (fun cdv A outer s H E a0 y hr => ?_)
  obtain ⟨book_, gains_, _⟩ := y
  show RB _ _ ([.un, .un, .un, .un, .un, .un, .un] : RF.Ctx) false [.fz ((rBook T.C_Book) book_), .fz ((rL rI) gains_), .un, .un, .un, .un, .un] _ (P_worthsof book_ gains_) _
  exact (rb_set (ps_set (i := 2) scworthsof.nd rfl (.inr rfl) peE) (re_frz (re_meth0 (m := fun x => P_BookReachable x) (fsBook) (re_var (ρ := (rBook T.C_Book)) (x := book_) 0 rfl (pv 0)) T.cl_Book T.m_Book_reachable GBook_reachable (hr.mono (by decide)) (takes_of rfl rfl rfl rfl) T.bBook_reachable) frz_L) rfl fun (found_3 : (List Int)) => (rb_set (ps_set (i := 3) scworthsof.nd rfl (.inr rfl) peE) (re_frz (re_rep (re_frz (re_lst (fun (y6 : Int × Unit) => [y6.1]) rI (ra_cons re_int ra_nil)) frz_L) (re_lenO (m := fun z => P_BookLen z.1) (fsBook) T.m_Book_len GBook_len (hr.mono (by decide)) (takes_of rfl rfl rfl rfl) T.bBook_len (re_var (ρ := (rBook T.C_Book)) (x := book_) 0 rfl (pv 0)) T.z_len)) frz_L) rfl fun (worths_11 : (List Int)) => (rb_forF (s0 := (worths_11)) (vs := [4]) (fun (s16 : (List Int)) => [.fz ((rBook T.C_Book) book_), .fz ((rL rI) gains_), .fz ((rL rI) found_3), .fz ((rL rI) s16), .un, .un, .un]) (fun (x : Int) Γ => Γ.set 4 (.fz (rI x))) (ps_for (passes_of rfl) rfl (pi_range1 (by rfl) T.z_range (pa_cons peE pa_nil)) (pg_name (i := 4) scworthsof.nd rfl (.inl rfl)) pssS) (ri_range1 (re_lenO (m := fun z => P_BookLen z.1) (fsBook) T.m_Book_len GBook_len (hr.mono (by decide)) (takes_of rfl rfl rfl rfl) T.bBook_len (re_var (ρ := (rBook T.C_Book)) (x := book_) 0 rfl (pv 0)) T.z_len)) (fun _ => rg_name) ⟨.inr rfl, .inr rfl, .inr rfl, .inr rfl, .inl rfl, .inl rfl, .inl rfl, trivial⟩ (fun _ => ⟨.inl rfl, .inl rfl, .inl rfl, .inl rfl, .inl rfl, .inl rfl, .inl rfl, trivial⟩) (fun _ _ => ⟨.inl rfl, .inl rfl, .inl rfl, .inl rfl, .inl rfl, .inl rfl, .inl rfl, trivial⟩) (fun (s16 : (List Int)) (w17 : Int) => (rb_set (ps_set (i := 3) scworthsof.nd rfl (.inr rfl) peE) (re_frz (re_of (pe_lc (own := [("worth", 6)]) (g := gName 6) rfl scworthsof.nd (pi_list peE) (blkOk_by (own := [("worth", 6)]) (N := ["book", "gains", "found", "worths", "_", "at", "worth"]) (sc := defScope sworthsof) (by decide +kernel)) (fun _ _ _ _ _ => pg_name (i := 6) scworthsof.nd rfl (.inl rfl)) ptPi peEi) (rte_lc (vs := [6]) (fun (x : Int) Γ => Γ.set 6 (.fz (rI x))) (ri_list (re_frz (re_call () Gone_more (hr.mono (by decide)) (takes_of rfl rfl rfl rfl) (ra_cons (re_var (ρ := (rBook T.C_Book)) (x := book_) 0 rfl (pv 0)) (ra_cons (re_var (ρ := (rL rI)) (x := gains_) 1 rfl (pv 1)) (ra_cons (re_var (ρ := (rL rI)) (x := s16) 3 rfl (pv 3)) ra_nil))) T.gone_more T.Fone_more.kp T.bone_more) frz_L)) (fun _ => rg_name) (fun _ => rgo_name) (un1 rfl) (fun (w25 : Int) => rti_nil) (fun (w25 : Int) _ _ _ _ _ => (re_max2 re_int (re_var (ρ := rI) (x := w25) 6 rfl (pv 6)) T.z_max)))) frz_L) rfl fun (worths_28 : (List Int)) => (rb_nil (x := (worths_28)) (.inr rfl) ⟨.inr rfl, .inr rfl, .inr rfl, .inr rfl, .inl rfl, .inl rfl, .inl rfl, trivial⟩))) fun (s29 : (List Int)) => (rb_ret (fun (r30 : (List (Option Int))) => r30) (re_of (pe_lc (own := [("at", 5)]) (g := gName 5) rfl scworthsof.nd (pi_range1 (by rfl) T.z_range (pa_cons peE pa_nil)) (blkOk_by (own := [("at", 5)]) (N := ["book", "gains", "found", "worths", "_", "at", "worth"]) (sc := defScope sworthsof) (by decide +kernel)) (fun _ _ _ _ _ => pg_name (i := 5) scworthsof.nd rfl (.inl rfl)) ptPi peEi) (rte_lc (vs := [5]) (fun (x : Int) Γ => Γ.set 5 (.fz (rI x))) (ri_range1 (re_lenO (m := fun z => P_BookLen z.1) (fsBook) T.m_Book_len GBook_len (hr.mono (by decide)) (takes_of rfl rfl rfl rfl) T.bBook_len (re_var (ρ := (rBook T.C_Book)) (x := book_) 0 rfl (pv 0)) T.z_len)) (fun _ => rg_name) (fun _ => rgo_name) (un1 rfl) (fun (w35 : Int) => rti_nil) (fun (w35 : Int) _ _ _ _ _ => (re_if (rt_rc (rc_inI (re_var (ρ := rI) (x := w35) 5 rfl (pv 5)) (rsq_L (re_var (ρ := (rL rI)) (x := found_3) 2 rfl (pv 2))))) (re_coe (ρ' := (rO rI)) (f := (fun x => some ((fun x => x) x))) (co_some co_id) (re_ixL (re_var (ρ := (rL rI)) (x := s29) 3 rfl (pv 3)) (re_var (ρ := rI) (x := w35) 5 rfl (pv 5)))) (re_coe (ρ' := (rO rI)) (f := (fun _ => none)) co_none re_non))))) (fun _ => rfl)))))

theorem scheaviest : FnScope ["book", "weights", "by_page", "best", "top", "ring", "total", "shared", "num", "den", "gains", "weight", "at"] ["book", "weights"] (defScope sheaviest) := ⟨rfl, rfl, rfl, by decide +kernel, rfl, by decide +kernel, by decide +kernel⟩
def P_heaviest (book_ : OBook) (weights_ : (List (Str × Int))) : Mo OHeavy :=
  ((((pure book_) >>= fun x4 => ((pure weights_) >>= fun x2 => (pure ()) >>= fun y3 => pure (x2, y3)) >>= fun y5 => pure (x4, y5)) >>= fun y1 => P_pageweights y1.1 y1.2.1) >>= fun by_page_6 => ((pure []) >>= fun best_7 => (pure (0 : Int)) >>= fun top_8 => ((((pure book_) >>= fun x10 => (pure ()) >>= fun y11 => pure (x10, y11)) >>= fun y9 => P_shortrings y9.1) >>= fun xs => Mo.fold (fun s12 w13 => ((((pure w13) >>= Mo.lc (fun w14 => (pure true)) (fun w14 => ((pure by_page_6) >>= fun x15 => (pure w14) >>= fun i16 => Mo.get (atI x15 i16)))) >>= fun x17 => pure x17.sum) >>= fun total_18 => (((((pure s12.1) >>= fun x19 => pure (!x19.isEmpty)) >>= fun b20 => pure (!b20)) >>= fun b29 => if b29 then pure true else (((pure total_18) >>= fun i22 => ((pure s12.1) >>= fun x21 => pure (x21.length : Int)) >>= fun j23 => Mo.rq (CMul i22 j23) (i22 * j23)) >>= fun i27 => ((pure s12.2) >>= fun i25 => ((pure w13) >>= fun x24 => pure (x24.length : Int)) >>= fun j26 => Mo.rq (CMul i25 j26) (i25 * j26)) >>= fun j28 => pure (decide (j28 < i27)))) >>= fun c30 => if c30 = true then ((pure w13) >>= fun best_31 => (pure total_18) >>= fun top_32 => (pure (best_31, top_32))) else (pure (s12.1, s12.2))))) xs (best_7, top_8) >>= fun s33 => (((pure s33.2) >>= fun i35 => ((pure s33.1) >>= fun x34 => pure (x34.length : Int)) >>= fun i36 => pure ((Nat.gcd i35.natAbs i36.natAbs : Nat) : Int)) >>= fun shared_37 => (((((pure s33.2) >>= fun i38 => (pure shared_37) >>= fun j39 => Mo.rq (CDiv i38 j39) (i38 / j39)) >>= fun x45 => ((((pure s33.1) >>= fun x40 => pure (x40.length : Int)) >>= fun i41 => (pure shared_37) >>= fun j42 => Mo.rq (CDiv i41 j42) (i41 / j42)) >>= fun x43 => (pure ()) >>= fun y44 => pure (x43, y44)) >>= fun y46 => pure (x45, y46)) >>= fun y47 => pure (y47.1, y47.2.1)) >>= fun t48 => (((pure by_page_6) >>= Mo.lc (fun w49 => (pure true)) (fun w49 => (((pure t48.2) >>= fun i50 => (pure w49) >>= fun j51 => Mo.rq (CMul i50 j51) (i50 * j51)) >>= fun i52 => (pure t48.1) >>= fun j53 => pure (i52 - j53)))) >>= fun gains_54 => ((((((pure t48.1) >>= fun x59 => ((pure t48.2) >>= fun x57 => (pure ()) >>= fun y58 => pure (x57, y58)) >>= fun y60 => pure (x59, y60)) >>= fun y61 => pure (y61.1, y61.2.1)) >>= fun x75 => (((pure s33.1) >>= Mo.lc (fun w62 => (pure true)) (fun w62 => (((pure book_) >>= fun x63 => pure (x63.1)) >>= fun x64 => (pure w62) >>= fun i65 => Mo.get (atI x64 i65)))) >>= fun x73 => ((((pure book_) >>= fun x69 => ((pure gains_54) >>= fun x67 => (pure ()) >>= fun y68 => pure (x67, y68)) >>= fun y70 => pure (x69, y70)) >>= fun y66 => P_worthsof y66.1 y66.2.1) >>= fun x71 => (pure ()) >>= fun y72 => pure (x71, y72)) >>= fun y74 => pure (x73, y74)) >>= fun y76 => pure (x75, y76)) >>= fun y56 => P_HeavyInit y56.1 y56.2.1 y56.2.2.1) >>= fun r55 => pure r55)))))))
theorem fn_heaviest (T : Tx K mg) : FnOk P w K mg base (L2.CX P w) 7 T.fheaviest T.dheaviest ["book", "weights"] (spR K mg (fun (c : Unit) (z : OBook × (List (Str × Int)) × Unit) => [.fz ((rBook T.C_Book) z.1), .fz ((rDkS rI) z.2.1)]) (fun z => P_heaviest z.1 z.2.1) (RK.fz (rHeavy T.C_Heavy))) := by
  have GHeavy_init := fn_HeavyInit (P := P) (w := w) (base := base) T
  have Gpage_weights := fn_pageweights (P := P) (w := w) (base := base) T
  have Gshort_rings := fn_shortrings (P := P) (w := w) (base := base) T
  have Gworths_of := fn_worthsof (P := P) (w := w) (base := base) T
  refine fn_mk (Γe := fun c z => [.un, .un, .un, .un, .un, .un, .un, .un, .un, .un, .un, .un, .un]) (Γ0 := fun c z => [.fz ((rBook T.C_Book) z.1), .fz ((rDkS rI) z.2.1), .un, .un, .un, .un, .un, .un, .un, .un, .un, .un, .un]) (Z := (fun _ _ x => .ret ((RK.fz (rHeavy T.C_Heavy)).ok x))) T.Fheaviest scheaviest (fun _ _ => rfl) (fun _ _ => rfl) (fun _ _ => ⟨.inl rfl, .inl rfl, .inl rfl, .inl rfl, .inl rfl, .inl rfl, .inl rfl, .inl rfl, .inl rfl, .inl rfl, .inl rfl, .inl rfl, .inl rfl, trivial⟩) (fun _ _ _ _ _ _ h => (own_none rfl h).elim) (fun _ _ _ => .inl rfl) (fun cdv A outer s H E a0 y hr => ?_)
  obtain ⟨book_, weights_, _⟩ := y
  show RB _ _ ([.un, .un, .un, .un, .un, .un, .un, .un, .un, .un, .un, .un, .un] : RF.Ctx) false [.fz ((rBook T.C_Book) book_), .fz ((rDkS rI) weights_), .un, .un, .un, .un, .un, .un, .un, .un, .un, .un, .un] _ (P_heaviest book_ weights_) _
  exact (rb_set (ps_set (i := 2) scheaviest.nd rfl (.inr rfl) peE) (re_frz (re_call () Gpage_weights (hr.mono (by decide)) (takes_of rfl rfl rfl rfl) (ra_cons (re_var (ρ := (rBook T.C_Book)) (x := book_) 0 rfl (pv 0)) (ra_cons (re_var (ρ := (rDkS rI)) (x := weights_) 1 rfl (pv 1)) ra_nil)) T.gpage_weights T.Fpage_weights.kp T.bpage_weights) frz_L) rfl fun (by_page_6 : (List Int)) => (rb_parF (ps_par (i := 3) (j := 4) rfl scheaviest.nd rfl rfl (by decide) rfl rfl (pa_cons peE (pa_cons peE pa_nil)) (by rfl)) (re_frz (re_lst0 (ρ := rI)) frz_L) re_int rfl rfl fun (best_7 : (List Int)) (top_8 : Int) => (rb_forF (s0 := (best_7, top_8)) (vs := [5]) (fun (s12 : (List Int) × Int) => [.fz ((rBook T.C_Book) book_), .fz ((rDkS rI) weights_), .fz ((rL rI) by_page_6), .fz ((rL rI) s12.1), .fz (rI s12.2), .un, .un, .un, .un, .un, .un, .un, .un]) (fun (x : (List Int)) Γ => Γ.set 5 (.fz ((rL rI) x))) (ps_for (passes_of rfl) rfl (pi_list peE) (pg_name (i := 5) scheaviest.nd rfl (.inl rfl)) pssS) (ri_list (re_frz (re_call () Gshort_rings (hr.mono (by decide)) (takes_of rfl rfl rfl rfl) (ra_cons (re_var (ρ := (rBook T.C_Book)) (x := book_) 0 rfl (pv 0)) ra_nil) T.gshort_rings T.Fshort_rings.kp T.bshort_rings) frz_L)) (fun _ => rg_name) ⟨.inr rfl, .inr rfl, .inr rfl, .inr rfl, .inr rfl, .inl rfl, .inl rfl, .inl rfl, .inl rfl, .inl rfl, .inl rfl, .inl rfl, .inl rfl, trivial⟩ (fun _ => ⟨.inl rfl, .inl rfl, .inl rfl, .inl rfl, .inl rfl, .inl rfl, .inl rfl, .inl rfl, .inl rfl, .inl rfl, .inl rfl, .inl rfl, .inl rfl, trivial⟩) (fun _ _ => ⟨.inl rfl, .inl rfl, .inl rfl, .inl rfl, .inl rfl, .inl rfl, .inl rfl, .inl rfl, .inl rfl, .inl rfl, .inl rfl, .inl rfl, .inl rfl, trivial⟩) (fun (s12 : (List Int) × Int) (w13 : (List Int)) => (rb_set (ps_set (i := 6) scheaviest.nd rfl (.inl rfl) peE) (re_sum (rsq_F (re_of (pe_lc (own := [("at", 12)]) (g := gName 12) rfl scheaviest.nd (pi_list peE) (blkOk_by (own := [("at", 12)]) (N := ["book", "weights", "by_page", "best", "top", "ring", "total", "shared", "num", "den", "gains", "weight", "at"]) (sc := defScope sheaviest) (by decide +kernel)) (fun _ _ _ _ _ => pg_name (i := 12) scheaviest.nd rfl (.inl rfl)) ptPi peEi) (rte_lc (vs := [12]) (fun (x : Int) Γ => Γ.set 12 (.fz (rI x))) (ri_list (re_var (ρ := (rL rI)) (x := w13) 5 rfl (pv 5))) (fun _ => rg_name) (fun _ => rgo_name) (un1 rfl) (fun (w14 : Int) => rti_nil) (fun (w14 : Int) _ _ _ _ _ => (re_ixL (re_var (ρ := (rL rI)) (x := by_page_6) 2 rfl (pv 2)) (re_var (ρ := rI) (x := w14) 12 rfl (pv 12))))))) T.z_sum) rfl fun (total_18 : Int) => (rb_if0 (rt_w (rw_or (rt_not (rt_seq (rsq_L (re_var (ρ := (rL rI)) (x := s12.1) 3 rfl (pv 3))))) (rw_or1 (rt_rc (rc_i i_gt (re_mul (re_var (ρ := rI) (x := total_18) 6 rfl (pv 6)) (re_len (rsq_L (re_var (ρ := (rL rI)) (x := s12.1) 3 rfl (pv 3))) T.z_len)) (re_mul (re_var (ρ := rI) (x := s12.2) 4 rfl (pv 4)) (re_len (rsq_L (re_var (ρ := (rL rI)) (x := w13) 5 rfl (pv 5))) T.z_len))))))) (rb_parF (ps_par (i := 3) (j := 4) rfl scheaviest.nd rfl rfl (by decide) rfl rfl (pa_cons peE (pa_cons peE pa_nil)) (by rfl)) (re_var (ρ := (rL rI)) (x := w13) 5 rfl (pv 5)) (re_var (ρ := rI) (x := total_18) 6 rfl (pv 6)) rfl rfl fun (best_31 : (List Int)) (top_32 : Int) => (rb_nil (x := (best_31, top_32)) (.inr rfl) ⟨.inr rfl, .inr rfl, .inr rfl, .inr rfl, .inr rfl, .inl rfl, .inl rfl, .inl rfl, .inl rfl, .inl rfl, .inl rfl, .inl rfl, .inl rfl, trivial⟩)) (rb_nil (x := (s12.1, s12.2)) (.inr rfl) ⟨.inr rfl, .inr rfl, .inr rfl, .inr rfl, .inr rfl, .inl rfl, .inl rfl, .inl rfl, .inl rfl, .inl rfl, .inl rfl, .inl rfl, .inl rfl, trivial⟩)))) fun (s33 : (List Int) × Int) => (rb_set (ps_set (i := 7) scheaviest.nd rfl (.inl rfl) peE) (re_gcd (re_var (ρ := rI) (x := s33.2) 4 rfl (pv 4)) (re_len (rsq_L (re_var (ρ := (rL rI)) (x := s33.1) 3 rfl (pv 3))) T.z_len) T.b_gcd) rfl fun (shared_37 : Int) => (rb_asg (tg := (fun (x : (Int × Int)) => setAll [8, 9] [rI x.1, rI x.2])) (vs := [8, 9]) (ps_asg peE (pg_tupK (K := K) rfl rfl (pgs_cons (pg_name (i := 8) scheaviest.nd rfl (.inr rfl)) (pgs_cons (pg_name (i := 9) scheaviest.nd rfl (.inr rfl)) pgs_nil)))) (re_tup (fun (y47 : Int × Int × Unit) => (y47.1, y47.2.1)) (rT2 rI rI) (fun (y47 : Int × Int × Unit) => [rI y47.1, rI y47.2.1]) (ra_cons (re_div (re_var (ρ := rI) (x := s33.2) 4 rfl (pv 4)) (re_var (ρ := rI) (x := shared_37) 7 rfl (pv 7))) (ra_cons (re_div (re_len (rsq_L (re_var (ρ := (rL rI)) (x := s33.1) 3 rfl (pv 3))) T.z_len) (re_var (ρ := rI) (x := shared_37) 7 rfl (pv 7))) ra_nil))) (fun (x : (Int × Int)) => rg_tup (ps := [rI x.1, rI x.2]) [8, 9] rfl) (fun _ => ⟨.inl rfl, .inl rfl, .inl rfl, .inl rfl, .inl rfl, .inl rfl, .inl rfl, .inl rfl, .inl rfl, .inl rfl, .inl rfl, .inl rfl, .inl rfl, trivial⟩) fun t48 => (rb_set (ps_setLc (i := 10) (own := [("weight", 11)]) (g := gName 11) rfl scheaviest.nd rfl rfl (sw_true rfl rfl rfl (by decide +kernel)) (pi_list peE) (blkOk_by (own := [("weight", 11)]) (N := ["book", "weights", "by_page", "best", "top", "ring", "total", "shared", "num", "den", "gains", "weight", "at"]) (sc := defScope sheaviest) (by decide +kernel)) (fun _ _ _ _ _ => pg_name (i := 11) scheaviest.nd rfl (.inl rfl)) ptPi peEi) (rte_frz (rte_lc (vs := [11]) (fun (x : Int) Γ => Γ.set 11 (.fz (rI x))) (ri_list (re_var (ρ := (rL rI)) (x := by_page_6) 2 rfl (pv 2))) (fun _ => rg_name) (fun _ => rgo_name) (un1 rfl) (fun (w49 : Int) => rti_nil) (fun (w49 : Int) _ _ _ _ _ => (re_sub (re_mul (re_var (ρ := rI) (x := t48.2) 9 rfl (pv 9)) (re_var (ρ := rI) (x := w49) 11 rfl (pv 11))) (re_var (ρ := rI) (x := t48.1) 8 rfl (pv 8))))) frz_L) rfl fun (gains_54 : (List Int)) => (rb_ret (fun (r55 : OHeavy) => r55) (re_frz (ρ' := (rHeavy T.C_Heavy)) (re_make T.M_Heavy GHeavy_init (hr.mono (by decide)) (takes_of rfl rfl rfl rfl) (ra_cons (re_tup (fun (y61 : Int × Int × Unit) => (y61.1, y61.2.1)) (rT2 rI rI) (fun (y61 : Int × Int × Unit) => [rI y61.1, rI y61.2.1]) (ra_cons (re_var (ρ := rI) (x := t48.1) 8 rfl (pv 8)) (ra_cons (re_var (ρ := rI) (x := t48.2) 9 rfl (pv 9)) ra_nil))) (ra_cons (re_frz (re_of (pe_lc (own := [("at", 12)]) (g := gName 12) rfl scheaviest.nd (pi_list peE) (blkOk_by (own := [("at", 12)]) (N := ["book", "weights", "by_page", "best", "top", "ring", "total", "shared", "num", "den", "gains", "weight", "at"]) (sc := defScope sheaviest) (by decide +kernel)) (fun _ _ _ _ _ => pg_name (i := 12) scheaviest.nd rfl (.inl rfl)) ptPi peEi) (rte_lc (vs := [12]) (fun (x : Int) Γ => Γ.set 12 (.fz (rI x))) (ri_list (re_var (ρ := (rL rI)) (x := s33.1) 3 rfl (pv 3))) (fun _ => rg_name) (fun _ => rgo_name) (un1 rfl) (fun (w62 : Int) => rti_nil) (fun (w62 : Int) _ _ _ _ _ => (re_ixTs (re_Tf (re_fld (ρ' := (rTf rS)) (g := fun (x : OBook) => x.1) (fsBook) (re_var (ρ := (rBook T.C_Book)) (x := book_) 0 rfl (pv 0)) T.cl_Book T.na_Book_names)) (re_var (ρ := rI) (x := w62) 12 rfl (pv 12)))))) frz_L) (ra_cons (re_frz (re_call () Gworths_of (hr.mono (by decide)) (takes_of rfl rfl rfl rfl) (ra_cons (re_var (ρ := (rBook T.C_Book)) (x := book_) 0 rfl (pv 0)) (ra_cons (re_var (ρ := (rL rI)) (x := gains_54) 10 rfl (pv 10)) ra_nil)) T.gworths_of T.Fworths_of.kp T.bworths_of) frz_L) ra_nil))) T.g_Heavy T.bHeavy_init) (fun _ => frz_In)) (fun _ => rfl))))))))
end
end DD
namespace DD
open PySem PySem.Spec PyProof.Rows L2 KO SX RF
section
variable {P : Program} {w : World} {K : PySem.W.Frag} {mg : Str → Option Value} {base : Heap}
theorem scmostin : FnScope ["book", "weights", "rounds", "by_page", "sums", "_", "at"] ["book", "weights", "rounds"] (defScope smostin) := ⟨rfl, rfl, rfl, by decide +kernel, rfl, by decide +kernel, by decide +kernel⟩
def P_mostin (book_ : OBook) (weights_ : (List (Str × Int))) (rounds_ : Int) : Mo Int :=
  ((((pure rounds_) >>= fun x2 => (pure ()) >>= fun y3 => pure (x2, y3)) >>= fun y1 => P_checkrounds y1.1) >>= fun u4 => ((((pure book_) >>= fun x8 => ((pure weights_) >>= fun x6 => (pure ()) >>= fun y7 => pure (x6, y7)) >>= fun y9 => pure (x8, y9)) >>= fun y5 => P_pageweights y5.1 y5.2.1) >>= fun by_page_10 => (((((pure (0 : Int)) >>= fun x11 => (pure ()) >>= fun y12 => pure (x11, y12)) >>= fun y13 => pure [y13.1]) >>= fun x16 => ((pure book_) >>= fun x14 => Mo.calm (P_BookLen x14) >>= fun n15 => Mo.rq (0 ≤ n15 ∧ n15 < 2 ^ 63) n15) >>= fun n17 => Mo.rq (-(2 ^ 63) ≤ n17 ∧ n17 < 2 ^ 63 ∧ x16.length * n17.toNat ≤ sizeLine) (List.replicate n17.toNat x16).flatten) >>= fun sums_18 => (((pure rounds_) >>= fun i19 => Mo.rq (-(2 ^ 62) ≤ i19 ∧ i19 < 2 ^ 62) (rangeL 0 i19.toNat)) >>= fun xs => Mo.fold (fun s21 w22 => ((((pure book_) >>= fun x28 => ((pure by_page_10) >>= fun x26 => ((pure s21) >>= fun x24 => (pure ()) >>= fun y25 => pure (x24, y25)) >>= fun y27 => pure (x26, y27)) >>= fun y29 => pure (x28, y29)) >>= fun y23 => P_onemore y23.1 y23.2.1 y23.2.2.1) >>= fun sums_30 => (pure (sums_30)))) xs (sums_18) >>= fun s31 => (((((pure book_) >>= fun x33 => pure (x33.2.1)) >>= Mo.lc (fun w34 => (pure true)) (fun w34 => ((pure s31) >>= fun x35 => (pure w34) >>= fun i36 => Mo.get (atI x35 i36)))) >>= fun x37 => Mo.rq (0 < x37.length) () >>= fun _ => Mo.any (fun i : Int => i ∈ x37 ∧ ∀ y ∈ x37, y ≤ i)) >>= fun r32 => pure r32)))))
theorem fn_mostin (T : Tx K mg) : FnOk P w K mg base (L2.CX P w) 6 T.fmost_in T.dmost_in ["book", "weights", "rounds"] (spR K mg (fun (c : Unit) (z : OBook × (List (Str × Int)) × Int × Unit) => [.fz ((rBook T.C_Book) z.1), .fz ((rDkS rI) z.2.1), .fz (rI z.2.2.1)]) (fun z => P_mostin z.1 z.2.1 z.2.2.1) (RK.fz rI)) := by
  have GBook_len := fn_BookLen (P := P) (w := w) (base := base) T
  have Gcheck_rounds := fn_checkrounds (P := P) (w := w) (base := base) T
  have Gone_more := fn_onemore (P := P) (w := w) (base := base) T
  have Gpage_weights := fn_pageweights (P := P) (w := w) (base := base) T
  refine fn_mk (Γe := fun c z => [.un, .un, .un, .un, .un, .un, .un]) (Γ0 := fun c z => [.fz ((rBook T.C_Book) z.1), .fz ((rDkS rI) z.2.1), .fz (rI z.2.2.1), .un, .un, .un, .un]) (Z := (fun _ _ x => .ret ((RK.fz rI).ok x))) T.Fmost_in scmostin (fun _ _ => rfl) (fun _ _ => rfl) (fun _ _ => ⟨.inl rfl, .inl rfl, .inl rfl, .inl rfl, .inl rfl, .inl rfl, .inl rfl, trivial⟩) (fun _ _ _ _ _ _ h => (own_none rfl h).elim) (fun _ _ _ => .inl rfl) (fun cdv A outer s H E a0 y hr => ?_)
  obtain ⟨book_, weights_, rounds_, _⟩ := y
  show RB _ _ ([.un, .un, .un, .un, .un, .un, .un] : RF.Ctx) false [.fz ((rBook T.C_Book) book_), .fz ((rDkS rI) weights_), .fz (rI rounds_), .un, .un, .un, .un] _ (P_mostin book_ weights_ rounds_) _
  exact (rb_expr (ps_expr peE) (re_call () Gcheck_rounds (hr.mono (by decide)) (takes_of rfl rfl rfl rfl) (ra_cons (re_var (ρ := rI) (x := rounds_) 2 rfl (pv 2)) ra_nil) T.gcheck_rounds T.Fcheck_rounds.kp T.bcheck_rounds) fun u4 => (rb_set (ps_set (i := 3) scmostin.nd rfl (.inl rfl) peE) (re_frz (re_call () Gpage_weights (hr.mono (by decide)) (takes_of rfl rfl rfl rfl) (ra_cons (re_var (ρ := (rBook T.C_Book)) (x := book_) 0 rfl (pv 0)) (ra_cons (re_var (ρ := (rDkS rI)) (x := weights_) 1 rfl (pv 1)) ra_nil)) T.gpage_weights T.Fpage_weights.kp T.bpage_weights) frz_L) rfl fun (by_page_10 : (List Int)) => (rb_set (ps_set (i := 4) scmostin.nd rfl (.inr rfl) peE) (re_frz (re_rep (re_frz (re_lst (fun (y13 : Int × Unit) => [y13.1]) rI (ra_cons re_int ra_nil)) frz_L) (re_lenO (m := fun z => P_BookLen z.1) (fsBook) T.m_Book_len GBook_len (hr.mono (by decide)) (takes_of rfl rfl rfl rfl) T.bBook_len (re_var (ρ := (rBook T.C_Book)) (x := book_) 0 rfl (pv 0)) T.z_len)) frz_L) rfl fun (sums_18 : (List Int)) => (rb_forF (s0 := (sums_18)) (vs := [5]) (fun (s21 : (List Int)) => [.fz ((rBook T.C_Book) book_), .fz ((rDkS rI) weights_), .fz (rI rounds_), .fz ((rL rI) by_page_10), .fz ((rL rI) s21), .un, .un]) (fun (x : Int) Γ => Γ.set 5 (.fz (rI x))) (ps_for (passes_of rfl) rfl (pi_range1 (by rfl) T.z_range (pa_cons peE pa_nil)) (pg_name (i := 5) scmostin.nd rfl (.inl rfl)) pssS) (ri_range1 (re_var (ρ := rI) (x := rounds_) 2 rfl (pv 2))) (fun _ => rg_name) ⟨.inr rfl, .inr rfl, .inr rfl, .inr rfl, .inr rfl, .inl rfl, .inl rfl, trivial⟩ (fun _ => ⟨.inl rfl, .inl rfl, .inl rfl, .inl rfl, .inl rfl, .inl rfl, .inl rfl, trivial⟩) (fun _ _ => ⟨.inl rfl, .inl rfl, .inl rfl, .inl rfl, .inl rfl, .inl rfl, .inl rfl, trivial⟩) (fun (s21 : (List Int)) (w22 : Int) => (rb_set (ps_set (i := 4) scmostin.nd rfl (.inr rfl) peE) (re_frz (re_call () Gone_more (hr.mono (by decide)) (takes_of rfl rfl rfl rfl) (ra_cons (re_var (ρ := (rBook T.C_Book)) (x := book_) 0 rfl (pv 0)) (ra_cons (re_var (ρ := (rL rI)) (x := by_page_10) 3 rfl (pv 3)) (ra_cons (re_var (ρ := (rL rI)) (x := s21) 4 rfl (pv 4)) ra_nil))) T.gone_more T.Fone_more.kp T.bone_more) frz_L) rfl fun (sums_30 : (List Int)) => (rb_nil (x := (sums_30)) (.inr rfl) ⟨.inr rfl, .inr rfl, .inr rfl, .inr rfl, .inr rfl, .inl rfl, .inl rfl, trivial⟩))) fun (s31 : (List Int)) => (rb_ret (fun (r32 : Int) => r32) (re_maxL (rsq_F (re_of (pe_lc (own := [("at", 6)]) (g := gName 6) rfl scmostin.nd (pi_tup peE) (blkOk_by (own := [("at", 6)]) (N := ["book", "weights", "rounds", "by_page", "sums", "_", "at"]) (sc := defScope smostin) (by decide +kernel)) (fun _ _ _ _ _ => pg_name (i := 6) scmostin.nd rfl (.inl rfl)) ptPi peEi) (rte_lc (vs := [6]) (fun (x : Int) Γ => Γ.set 6 (.fz (rI x))) (ri_tup (re_Tf (re_fld (ρ' := (rTf rI)) (g := fun (x : OBook) => x.2.1) (fsBook) (re_var (ρ := (rBook T.C_Book)) (x := book_) 0 rfl (pv 0)) T.cl_Book T.na_Book_starts))) (fun _ => rg_name) (fun _ => rgo_name) (un1 rfl) (fun (w34 : Int) => rti_nil) (fun (w34 : Int) _ _ _ _ _ => (re_ixL (re_var (ρ := (rL rI)) (x := s31) 4 rfl (pv 4)) (re_var (ρ := rI) (x := w34) 6 rfl (pv 6))))))) T.z_max) (fun _ => rfl))))))

theorem scLint : FnScope ["_law_got"] ["_law_got"] (defScope sLint) := ⟨rfl, rfl, rfl, by decide +kernel, rfl, by decide +kernel, by decide +kernel⟩
def P_Lint (got_ : Int) : Mo Bool :=
  ((((pure got_) >>= fun _ => pure true) >>= fun b3 => if b3 then (((pure got_) >>= fun _ => pure false) >>= fun b2 => pure (!b2)) else pure false) >>= fun r1 => pure r1)
theorem fn_Lint (T : Tx K mg) : FnOk P w K mg base (L2.CX P w) 2 T.f_law_int T.d_law_int ["_law_got"] (spR K mg (fun (c : Unit) (z : Int × Unit) => [.fz (rI z.1)]) (fun z => P_Lint z.1) (RK.fz rB)) := by
  refine fn_mk (Γe := fun c z => [.un]) (Γ0 := fun c z => [.fz (rI z.1)]) (Z := (fun _ _ x => .ret ((RK.fz rB).ok x))) T.F_law_int scLint (fun _ _ => rfl) (fun _ _ => rfl) (fun _ _ => ⟨.inl rfl, trivial⟩) (fun _ _ _ _ _ _ h => (own_none rfl h).elim) (fun _ _ _ => .inl rfl) (fun cdv A outer s H E a0 y hr => ?_)
  obtain ⟨got_, _⟩ := y
  show RB _ _ ([.un] : RF.Ctx) false [.fz (rI got_)] _ (P_Lint got_) _
  exact (rb_ret (fun (r1 : Bool) => r1) (re_and (re_isi (T := "int") (r := true) (ρ := rI) (re_var (ρ := rI) (x := got_) 0 rfl (pv 0)) (kit_ty (by first | rfl | decide +kernel)) T.z_isinstance (pe_bltn (v := .ty "int") (by rfl) T.z_int (by decide +kernel) rfl)) (re_one (re_not (re_isi (T := "bool") (r := false) (ρ := rI) (re_var (ρ := rI) (x := got_) 0 rfl (pv 0)) (kit_ty (by first | rfl | decide +kernel)) T.z_isinstance (pe_bltn (v := .ty "bool") (by rfl) T.z_bool (by decide +kernel) rfl))))) (fun _ => rfl))

theorem scLword : FnScope ["_law_pool_here", "_law_others", "_law_letters", "_law_code", "_law_way", "_law_size", "_law_word_here", "_law_at", "_law_k"] ["_law_pool_here", "_law_others"] (defScope sLword) := ⟨rfl, rfl, rfl, by decide +kernel, rfl, by decide +kernel, by decide +kernel⟩
def P_Lword (others_ : (List Str)) : Mo Str :=
  ((pure ("abcdefghijklmnopqrstuvwxyz" : Str)) >>= fun letters_1 => (((((pure (24 : Int)) >>= fun i4 => ((pure (26 : Int)) >>= fun i2 => (pure (8 : Int)) >>= fun j3 => Mo.rq (CPow i2 j3) (i2 ^ j3.toNat)) >>= fun j5 => Mo.rq (CMul i4 j5) (i4 * j5)) >>= fun x7 => (pure ()) >>= fun y8 => pure (x7, y8)) >>= fun y6 => Mo.take y6.1) >>= fun code_9 => (((pure code_9) >>= fun i10 => (pure (3 : Int)) >>= fun j11 => Mo.rq (0 < j11) (i10 % j11)) >>= fun way_12 => (((pure (1 : Int)) >>= fun i17 => (((pure code_9) >>= fun i13 => (pure (3 : Int)) >>= fun j14 => Mo.rq (CDiv i13 j14) (i13 / j14)) >>= fun i15 => (pure (8 : Int)) >>= fun j16 => Mo.rq (0 < j16) (i15 % j16)) >>= fun j18 => pure (i17 + j18)) >>= fun size_19 => (((pure code_9) >>= fun i20 => (pure (24 : Int)) >>= fun j21 => Mo.rq (CDiv i20 j21) (i20 / j21)) >>= fun code_22 => ((pure ("" : Str)) >>= fun word_23 => ((((pure way_12) >>= fun i24 => (pure (0 : Int)) >>= fun j25 => pure (decide (i24 = j25))) >>= fun b28 => if b28 then ((pure others_) >>= fun x26 => (pure []) >>= fun y27 => Mo.rq (Eqk (rL rS) x26 ∧ Eqk (rL rS) y27) (!decide (x26 = y27))) else pure false) >>= fun c29 => (if c29 = true then (((pure others_) >>= fun x46 => ((pure (1 : Int)) >>= fun i45 => pure (-i45)) >>= fun i47 => Mo.get (atI x46 i47)) >>= fun word_48 => (((pure size_19) >>= fun i50 => ((pure word_48) >>= fun x49 => Mo.rq (x49.length ≤ sizeLine) (x49.length : Int)) >>= fun j51 => Mo.rq (0 < j51) (i50 % j51)) >>= fun at_52 => (((((pure word_48) >>= fun x54 => (pure none) >>= fun l55 => ((pure at_52) >>= fun i53 => pure (some i53)) >>= fun h56 => Mo.rq (x54.length ≤ sizeLine) (cutS x54 l55 h56)) >>= fun x61 => ((pure letters_1) >>= fun x59 => ((pure code_22) >>= fun i57 => (pure (26 : Int)) >>= fun j58 => Mo.rq (0 < j58) (i57 % j58)) >>= fun i60 => Mo.rq (x59.length ≤ sizeLine) () >>= fun _ => Mo.get (atI (chars x59) i60)) >>= fun y62 => Mo.rq (x61.length + y62.length ≤ sizeLine) (x61 ++ y62)) >>= fun x69 => ((pure word_48) >>= fun x66 => (((pure at_52) >>= fun i63 => (pure (1 : Int)) >>= fun j64 => pure (i63 + j64)) >>= fun i65 => pure (some i65)) >>= fun l67 => (pure none) >>= fun h68 => Mo.rq (x66.length ≤ sizeLine) (cutS x66 l67 h68)) >>= fun y70 => Mo.rq (x69.length + y70.length ≤ sizeLine) (x69 ++ y70)) >>= fun word_71 => (pure (word_71))))) else (((pure size_19) >>= fun i30 => Mo.rq (-(2 ^ 62) ≤ i30 ∧ i30 < 2 ^ 62) (rangeL 0 i30.toNat)) >>= fun xs => Mo.fold (fun s32 w33 => (((pure s32.1) >>= fun x38 => ((pure letters_1) >>= fun x36 => ((pure s32.2) >>= fun i34 => (pure (26 : Int)) >>= fun j35 => Mo.rq (0 < j35) (i34 % j35)) >>= fun i37 => Mo.rq (x36.length ≤ sizeLine) () >>= fun _ => Mo.get (atI (chars x36) i37)) >>= fun y39 => Mo.rq (x38.length + y39.length ≤ sizeLine) (x38 ++ y39)) >>= fun word_40 => (((pure s32.2) >>= fun i41 => (pure (26 : Int)) >>= fun j42 => Mo.rq (CDiv i41 j42) (i41 / j42)) >>= fun code_43 => (pure (word_40, code_43))))) xs (word_23, code_22) >>= fun s44 => (pure (s44.1)))) >>= fun j72 => (((pure (26 : Int)) >>= fun i73 => Mo.rq (-(2 ^ 62) ≤ i73 ∧ i73 < 2 ^ 62) (rangeL 0 i73.toNat)) >>= fun xs => Mo.fold (fun s75 w76 => (((pure s75) >>= fun x77 => (pure others_) >>= fun y78 => pure (decide (x77 ∈ y78))) >>= fun c79 => if c79 = true then ((((pure letters_1) >>= fun x88 => ((((pure letters_1) >>= fun x82 => ((pure s75) >>= fun x80 => (pure (0 : Int)) >>= fun i81 => Mo.rq (x80.length ≤ sizeLine) () >>= fun _ => Mo.get (atI (chars x80) i81)) >>= fun y83 => pure (Txt.find x82 y83)) >>= fun i84 => (pure (1 : Int)) >>= fun j85 => pure (i84 + j85)) >>= fun i86 => (pure (26 : Int)) >>= fun j87 => Mo.rq (0 < j87) (i86 % j87)) >>= fun i89 => Mo.rq (x88.length ≤ sizeLine) () >>= fun _ => Mo.get (atI (chars x88) i89)) >>= fun x94 => ((pure s75) >>= fun x91 => ((pure (1 : Int)) >>= fun i90 => pure (some i90)) >>= fun l92 => (pure none) >>= fun h93 => Mo.rq (x91.length ≤ sizeLine) (cutS x91 l92 h93)) >>= fun y95 => Mo.rq (x94.length + y95.length ≤ sizeLine) (x94 ++ y95)) >>= fun word_96 => (pure (word_96))) else (pure (s75)))) xs (j72) >>= fun s97 => ((pure s97) >>= fun r98 => pure r98)))))))))
theorem fn_Lword (T : Tx K mg) : FnOk P w K mg base (L2.CX P w) 2 T.f_law_word T.d_law_word ["_law_pool_here", "_law_others"] (spR K mg (fun (c : Addr) (z : (List Str) × Unit) => [.ow false c oPool, .fz ((rL rS) z.1)]) (fun z => P_Lword z.1) (RK.fz rS)) := by
  have G_law_take := fn_take (P := P) (w := w) (base := base) T
  refine fn_mk (Γe := fun c z => [.ow false c oPool, .un, .un, .un, .un, .un, .un, .un, .un]) (Γ0 := fun c z => [.ow false c oPool, .fz ((rL rS) z.1), .un, .un, .un, .un, .un, .un, .un]) (Z := (fun _ _ x => .ret ((RK.fz rS).ok x))) T.F_law_word scLword (fun _ _ => rfl) (fun _ _ => rfl) (fun _ _ => ⟨.inr rfl, .inl rfl, .inl rfl, .inl rfl, .inl rfl, .inl rfl, .inl rfl, .inl rfl, .inl rfl, trivial⟩) (fun _ _ => own_first rfl) (fun _ _ _ => .inl rfl) (fun cdv A outer s H E a0 y hr => ?_)
  obtain ⟨others_, _⟩ := y
  show RB _ _ ([.ow false a0 oPool, .un, .un, .un, .un, .un, .un, .un, .un] : RF.Ctx) false [.ow false a0 oPool, .fz ((rL rS) others_), .un, .un, .un, .un, .un, .un, .un] _ (P_Lword others_) _
  exact (rb_set (ps_set (i := 2) scLword.nd rfl (.inl rfl) peE) re_str rfl fun (letters_1 : Str) => (rb_set (ps_set (i := 3) scLword.nd rfl (.inl rfl) peE) (re_call a0 G_law_take (hr.mono (by decide)) (takes_of rfl rfl rfl rfl) (ra_own (qo := oPool) rfl (pv 0) (ra_cons (re_mul re_int (re_pow re_int re_int)) ra_nil)) T.g_law_take T.F_law_take.kp T.b_law_take) rfl fun (code_9 : Int) => (rb_set (ps_set (i := 4) scLword.nd rfl (.inl rfl) peE) (re_mod (re_intI (re_var (ρ := rI) (x := code_9) 3 rfl (pv 3)) T.z_int) re_int) rfl fun (way_12 : Int) => (rb_set (ps_set (i := 5) scLword.nd rfl (.inl rfl) peE) (re_add re_int (re_mod (re_intI (re_div (re_var (ρ := rI) (x := code_9) 3 rfl (pv 3)) re_int) T.z_int) re_int)) rfl fun (size_19 : Int) => (rb_set (ps_set (i := 3) scLword.nd rfl (.inl rfl) peE) (re_div (re_var (ρ := rI) (x := code_9) 3 rfl (pv 3)) re_int) rfl fun (code_22 : Int) => (rb_set (ps_set (i := 6) scLword.nd rfl (.inl rfl) peE) re_str rfl fun (word_23 : Str) => (rb_ifJ (fun (j72 : Str) => [.ow false a0 oPool, .fz ((rL rS) others_), .fz (rS letters_1), .un, .fz (rI way_12), .fz (rI size_19), .fz (rS j72), .un, .un]) (rt_w (rw_and (rt_rc (rc_i i_eq (re_var (ρ := rI) (x := way_12) 4 rfl (pv 4)) re_int)) (rw_and1 (rt_rc (rc_neE (ρ := (rL rS)) hr.units (ha := (re_var (ρ := (rL rS)) (x := others_) 1 rfl (pv 1))) (hb := (re_frz (re_lst0 (ρ := rS)) frz_L))))))) (rb_set (ps_set (i := 6) scLword.nd rfl (.inl rfl) peE) (re_ixL (re_var (ρ := (rL rS)) (x := others_) 1 rfl (pv 1)) (re_neg re_int)) rfl fun (word_48 : Str) => (rb_set (ps_set (i := 7) scLword.nd rfl (.inl rfl) peE) (re_mod (re_intI (re_var (ρ := rI) (x := size_19) 5 rfl (pv 5)) T.z_int) (re_lenS (re_var (ρ := rS) (x := word_48) 6 rfl (pv 6)) T.z_len)) rfl fun (at_52 : Int) => (rb_set (ps_set (i := 6) scLword.nd rfl (.inl rfl) peE) (re_addS (re_addS (re_slS (re_var (ρ := rS) (x := word_48) 6 rfl (pv 6)) rp_none (rp_some (re_var (ρ := rI) (x := at_52) 7 rfl (pv 7)))) (re_ixS (re_var (ρ := rS) (x := letters_1) 2 rfl (pv 2)) (re_mod (re_intI (re_var (ρ := rI) (x := code_22) 3 rfl (pv 3)) T.z_int) re_int))) (re_slS (re_var (ρ := rS) (x := word_48) 6 rfl (pv 6)) (rp_some (re_add (re_var (ρ := rI) (x := at_52) 7 rfl (pv 7)) re_int)) rp_none)) rfl fun (word_71 : Str) => (rb_nil (x := (word_71)) (.inl rfl) ⟨.inr rfl, .inr rfl, .inr rfl, .inl rfl, .inr rfl, .inr rfl, .inr rfl, .inl rfl, .inl rfl, trivial⟩)))) (rb_forF (s0 := (word_23, code_22)) (vs := [8]) (fun (s32 : Str × Int) => [.ow false a0 oPool, .fz ((rL rS) others_), .fz (rS letters_1), .fz (rI s32.2), .fz (rI way_12), .fz (rI size_19), .fz (rS s32.1), .un, .un]) (fun (x : Int) Γ => Γ.set 8 (.fz (rI x))) (ps_for (passes_of rfl) rfl (pi_range1 (by rfl) T.z_range (pa_cons peE pa_nil)) (pg_name (i := 8) scLword.nd rfl (.inl rfl)) pssS) (ri_range1 (re_var (ρ := rI) (x := size_19) 5 rfl (pv 5))) (fun _ => rg_name) ⟨.inr rfl, .inr rfl, .inr rfl, .inr rfl, .inr rfl, .inr rfl, .inr rfl, .inl rfl, .inl rfl, trivial⟩ (fun _ => ⟨.inr rfl, .inl rfl, .inl rfl, .inl rfl, .inl rfl, .inl rfl, .inl rfl, .inl rfl, .inl rfl, trivial⟩) (fun _ _ => ⟨.inr rfl, .inl rfl, .inl rfl, .inl rfl, .inl rfl, .inl rfl, .inl rfl, .inl rfl, .inl rfl, trivial⟩) (fun (s32 : Str × Int) (w33 : Int) => (rb_set (ps_set (i := 6) scLword.nd rfl (.inl rfl) peE) (re_addS (re_var (ρ := rS) (x := s32.1) 6 rfl (pv 6)) (re_ixS (re_var (ρ := rS) (x := letters_1) 2 rfl (pv 2)) (re_mod (re_intI (re_var (ρ := rI) (x := s32.2) 3 rfl (pv 3)) T.z_int) re_int))) rfl fun (word_40 : Str) => (rb_set (ps_set (i := 3) scLword.nd rfl (.inl rfl) peE) (re_div (re_var (ρ := rI) (x := s32.2) 3 rfl (pv 3)) re_int) rfl fun (code_43 : Int) => (rb_nil (x := (word_40, code_43)) (.inr rfl) ⟨.inr rfl, .inr rfl, .inr rfl, .inr rfl, .inr rfl, .inr rfl, .inr rfl, .inl rfl, .inl rfl, trivial⟩)))) fun (s44 : Str × Int) => (rb_nil (x := (s44.1)) (.inl rfl) ⟨.inr rfl, .inr rfl, .inr rfl, .inl rfl, .inr rfl, .inr rfl, .inr rfl, .inl rfl, .inl rfl, trivial⟩)) (fun _ => ⟨.inr rfl, .inl rfl, .inl rfl, .inl rfl, .inl rfl, .inl rfl, .inl rfl, .inl rfl, .inl rfl, trivial⟩) fun (j72 : Str) => (rb_forF (s0 := (j72)) (vs := [8]) (fun (s75 : Str) => [.ow false a0 oPool, .fz ((rL rS) others_), .fz (rS letters_1), .un, .fz (rI way_12), .fz (rI size_19), .fz (rS s75), .un, .un]) (fun (x : Int) Γ => Γ.set 8 (.fz (rI x))) (ps_for (passes_of rfl) rfl (pi_range1 (by rfl) T.z_range (pa_cons peE pa_nil)) (pg_name (i := 8) scLword.nd rfl (.inl rfl)) pssS) (ri_range1 re_int) (fun _ => rg_name) ⟨.inr rfl, .inr rfl, .inr rfl, .inl rfl, .inr rfl, .inr rfl, .inr rfl, .inl rfl, .inl rfl, trivial⟩ (fun _ => ⟨.inr rfl, .inl rfl, .inl rfl, .inl rfl, .inl rfl, .inl rfl, .inl rfl, .inl rfl, .inl rfl, trivial⟩) (fun _ _ => ⟨.inr rfl, .inl rfl, .inl rfl, .inl rfl, .inl rfl, .inl rfl, .inl rfl, .inl rfl, .inl rfl, trivial⟩) (fun (s75 : Str) (w76 : Int) => (rb_if0 (rt_rc (rc_inS (re_var (ρ := rS) (x := s75) 6 rfl (pv 6)) (rsq_L (re_var (ρ := (rL rS)) (x := others_) 1 rfl (pv 1))))) (rb_set (ps_set (i := 6) scLword.nd rfl (.inl rfl) peE) (re_addS (re_ixS (re_var (ρ := rS) (x := letters_1) 2 rfl (pv 2)) (re_mod (re_intI (re_add (re_find (re_var (ρ := rS) (x := letters_1) 2 rfl (pv 2)) (re_ixS (re_var (ρ := rS) (x := s75) 6 rfl (pv 6)) re_int)) re_int) T.z_int) re_int)) (re_slS (re_var (ρ := rS) (x := s75) 6 rfl (pv 6)) (rp_some re_int) rp_none)) rfl fun (word_96 : Str) => (rb_nil (x := (word_96)) (.inr rfl) ⟨.inr rfl, .inr rfl, .inr rfl, .inl rfl, .inr rfl, .inr rfl, .inr rfl, .inl rfl, .inl rfl, trivial⟩)) (rb_nil (x := (s75)) (.inr rfl) ⟨.inr rfl, .inr rfl, .inr rfl, .inl rfl, .inr rfl, .inr rfl, .inr rfl, .inl rfl, .inl rfl, trivial⟩))) fun (s97 : Str) => (rb_ret (fun (r98 : Str) => r98) (re_var (ρ := rS) (x := s97) 6 rfl (pv 6)) (fun _ => rfl))))))))))

theorem scLwords : FnScope ["_law_pool_here", "_law_many", "_law_words_here", "_law_k"] ["_law_pool_here", "_law_many"] (defScope sLwords) := ⟨rfl, rfl, rfl, by decide +kernel, rfl, by decide +kernel, by decide +kernel⟩
def P_Lwords (many_ : Int) : Mo (List Str) :=
  ((pure []) >>= fun words_1 => (((pure many_) >>= fun i3 => Mo.rq (-(2 ^ 62) ≤ i3 ∧ i3 < 2 ^ 62) (rangeL 0 i3.toNat)) >>= fun xs => Mo.fold (fun s5 w6 => ((Mo.calm (((pure s5) >>= fun x9 => (pure ()) >>= fun y10 => pure (x9, y10)) >>= fun y8 => P_Lword y8.1)) >>= fun x11 => Mo.rq (s5.length < sizeLine) x11 >>= fun x11 => (pure ((s5 ++ [x11]))))) xs (words_1) >>= fun s12 => (pure s12)))
theorem fn_Lwords (T : Tx K mg) : FnOk P w K mg base (L2.CX P w) 3 T.f_law_words T.d_law_words ["_law_pool_here", "_law_many"] (spR K mg (fun (c : Addr) (z : Int × Unit) => [.ow false c oPool, .fz (rI z.1)]) (fun z => P_Lwords z.1) (RK.ow (oL rS))) := by
  have G_law_word := fn_Lword (P := P) (w := w) (base := base) T
  refine fn_mk (Γe := fun c z => [.ow false c oPool, .un, .un, .un]) (Γ0 := fun c z => [.ow false c oPool, .fz (rI z.1), .un, .un]) (Z := (fun _ _ x => .ret ((RK.ow (oL rS)).ok x))) T.F_law_words scLwords (fun _ _ => rfl) (fun _ _ => rfl) (fun _ _ => ⟨.inr rfl, .inl rfl, .inl rfl, .inl rfl, trivial⟩) (fun _ _ => own_first rfl) (fun _ _ _ => .inl rfl) (fun cdv A outer s H E a0 y hr => ?_)
  obtain ⟨many_, _⟩ := y
  show RB _ _ ([.ow false a0 oPool, .un, .un, .un] : RF.Ctx) false [.ow false a0 oPool, .fz (rI many_), .un, .un] _ (P_Lwords many_) _
  exact (rb_setO (ps_set (i := 2) scLwords.nd rfl (.inl rfl) peE) (re_lst0 (ρ := rS)) rfl fun (words_1 : (List Str)) a2 => (rb_forF (s0 := (words_1)) (vs := [3]) (fun (s5 : (List Str)) => [.ow false a0 oPool, .fz (rI many_), .ow true a2 (oL rS s5), .un]) (fun (x : Int) Γ => Γ.set 3 (.fz (rI x))) (ps_for (passes_of rfl) rfl (pi_range1 (by rfl) T.z_range (pa_cons peE pa_nil)) (pg_name (i := 3) scLwords.nd rfl (.inl rfl)) pssS) (ri_range1 (re_var (ρ := rI) (x := many_) 1 rfl (pv 1))) (fun _ => rg_name) ⟨.inr rfl, .inr rfl, .inr rfl, .inl rfl, trivial⟩ (fun _ => ⟨.inr rfl, .inl rfl, .inl rfl, .inl rfl, trivial⟩) (fun _ _ => ⟨.inr rfl, .inl rfl, .inl rfl, .inl rfl, trivial⟩) (fun (s5 : (List Str)) (w6 : Int) => (rb_app (ps_expr (pe_bm PySem.F.plainAttrs_list PySem.F.slot_list_append PySem.F.type_list_append mt_append (pv 2) (pa_cons peE pa_nil))) rfl (re_bor (j := 2) rfl ⟨inferInstance, trivial⟩ (re_call a0 G_law_word (hr.mono (by decide)) (takes_of rfl rfl rfl rfl) (ra_own (qo := oPool) rfl (pv 0) (ra_cons (re_var (ρ := (rL rS)) (x := s5) 2 rfl (pv 2)) ra_nil)) T.g_law_word T.F_law_word.kp T.b_law_word)) rfl fun x11 => (rb_nil (x := ((s5 ++ [x11]))) (.inr rfl) ⟨.inr rfl, .inr rfl, .inr rfl, .inl rfl, trivial⟩))) fun (s12 : (List Str)) => (rb_retO (y := s12) (z := s12) (k := oL rS) rfl (pv 2) rfl rfl)))

theorem scLsome : FnScope ["_law_pool_here", "_law_names", "_law_few", "_law_more", "_law_code", "_law_count", "_law_left", "_law_chosen", "_law_k", "_law_at"] ["_law_pool_here", "_law_names", "_law_few", "_law_more"] (defScope sLsome) := ⟨rfl, rfl, rfl, by decide +kernel, rfl, by decide +kernel, by decide +kernel⟩
def P_Lsome (names_ : (List Str)) (few_ : Int) (more_ : Int) : Mo (List Str) :=
  (((((pure (10 : Int)) >>= fun i1 => (pure (9 : Int)) >>= fun j2 => Mo.rq (CPow i1 j2) (i1 ^ j2.toNat)) >>= fun x4 => (pure ()) >>= fun y5 => pure (x4, y5)) >>= fun y3 => Mo.take y3.1) >>= fun code_6 => (((pure few_) >>= fun i13 => ((pure code_6) >>= fun i11 => (((pure more_) >>= fun i7 => (pure few_) >>= fun j8 => pure (i7 - j8)) >>= fun i9 => (pure (1 : Int)) >>= fun j10 => pure (i9 + j10)) >>= fun j12 => Mo.rq (0 < j12) (i11 % j12)) >>= fun j14 => pure (i13 + j14)) >>= fun count_15 => (((pure code_6) >>= fun i20 => (((pure more_) >>= fun i16 => (pure few_) >>= fun j17 => pure (i16 - j17)) >>= fun i18 => (pure (1 : Int)) >>= fun j19 => pure (i18 + j19)) >>= fun j21 => Mo.rq (CDiv i20 j21) (i20 / j21)) >>= fun code_22 => (((pure names_) >>= fun x23 => pure x23) >>= fun left_24 => ((pure []) >>= fun chosen_25 => (((pure count_15) >>= fun i27 => Mo.rq (-(2 ^ 62) ≤ i27 ∧ i27 < 2 ^ 62) (rangeL 0 i27.toNat)) >>= fun xs => Mo.fold (fun s29 w30 => (((pure s29.1) >>= fun i32 => ((pure s29.2.2) >>= fun x31 => pure (x31.length : Int)) >>= fun j33 => Mo.rq (0 < j33) (i32 % j33)) >>= fun at_34 => (((pure s29.1) >>= fun i36 => ((pure s29.2.2) >>= fun x35 => pure (x35.length : Int)) >>= fun j37 => Mo.rq (CDiv i36 j37) (i36 / j37)) >>= fun code_38 => (((pure s29.2.2) >>= fun x39 => (pure at_34) >>= fun i40 => Mo.get (atI x39 i40)) >>= fun x41 => Mo.rq (s29.2.1.length < sizeLine) x41 >>= fun x41 => ((((pure s29.2.2) >>= fun x43 => (pure none) >>= fun l44 => ((pure at_34) >>= fun i42 => pure (some i42)) >>= fun h45 => pure (cutL x43 l44 h45)) >>= fun x52 => ((pure s29.2.2) >>= fun x49 => (((pure at_34) >>= fun i46 => (pure (1 : Int)) >>= fun j47 => pure (i46 + j47)) >>= fun i48 => pure (some i48)) >>= fun l50 => (pure none) >>= fun h51 => pure (cutL x49 l50 h51)) >>= fun y53 => Mo.rq (x52.length + y53.length ≤ sizeLine) (x52 ++ y53)) >>= fun left_54 => (pure (code_38, (s29.2.1 ++ [x41]), left_54))))))) xs (code_22, chosen_25, left_24) >>= fun s55 => (pure s55.2.1)))))))
theorem fn_Lsome (T : Tx K mg) : FnOk P w K mg base (L2.CX P w) 2 T.f_law_some T.d_law_some ["_law_pool_here", "_law_names", "_law_few", "_law_more"] (spR K mg (fun (c : Addr) (z : (List Str) × Int × Int × Unit) => [.ow false c oPool, .fz ((rL rS) z.1), .fz (rI z.2.1), .fz (rI z.2.2.1)]) (fun z => P_Lsome z.1 z.2.1 z.2.2.1) (RK.ow (oL rS))) := by
  have G_law_take := fn_take (P := P) (w := w) (base := base) T
  refine fn_mk (Γe := fun c z => [.ow false c oPool, .un, .un, .un, .un, .un, .un, .un, .un, .un]) (Γ0 := fun c z => [.ow false c oPool, .fz ((rL rS) z.1), .fz (rI z.2.1), .fz (rI z.2.2.1), .un, .un, .un, .un, .un, .un]) (Z := (fun _ _ x => .ret ((RK.ow (oL rS)).ok x))) T.F_law_some scLsome (fun _ _ => rfl) (fun _ _ => rfl) (fun _ _ => ⟨.inr rfl, .inl rfl, .inl rfl, .inl rfl, .inl rfl, .inl rfl, .inl rfl, .inl rfl, .inl rfl, .inl rfl, trivial⟩) (fun _ _ => own_first rfl) (fun _ _ _ => .inl rfl) (fun cdv A outer s H E a0 y hr => ?_)
  obtain ⟨names_, few_, more_, _⟩ := y
  show RB _ _ ([.ow false a0 oPool, .un, .un, .un, .un, .un, .un, .un, .un, .un] : RF.Ctx) false [.ow false a0 oPool, .fz ((rL rS) names_), .fz (rI few_), .fz (rI more_), .un, .un, .un, .un, .un, .un] _ (P_Lsome names_ few_ more_) _
  exact (rb_set (ps_set (i := 4) scLsome.nd rfl (.inl rfl) peE) (re_call a0 G_law_take (hr.mono (by decide)) (takes_of rfl rfl rfl rfl) (ra_own (qo := oPool) rfl (pv 0) (ra_cons (re_pow re_int re_int) ra_nil)) T.g_law_take T.F_law_take.kp T.b_law_take) rfl fun (code_6 : Int) => (rb_set (ps_set (i := 5) scLsome.nd rfl (.inl rfl) peE) (re_add (re_var (ρ := rI) (x := few_) 2 rfl (pv 2)) (re_mod (re_intI (re_var (ρ := rI) (x := code_6) 4 rfl (pv 4)) T.z_int) (re_add (re_sub (re_var (ρ := rI) (x := more_) 3 rfl (pv 3)) (re_var (ρ := rI) (x := few_) 2 rfl (pv 2))) re_int))) rfl fun (count_15 : Int) => (rb_set (ps_set (i := 4) scLsome.nd rfl (.inl rfl) peE) (re_div (re_var (ρ := rI) (x := code_6) 4 rfl (pv 4)) (re_add (re_sub (re_var (ρ := rI) (x := more_) 3 rfl (pv 3)) (re_var (ρ := rI) (x := few_) 2 rfl (pv 2))) re_int)) rfl fun (code_22 : Int) => (rb_set (ps_set (i := 6) scLsome.nd rfl (.inl rfl) peE) (re_frz (re_list (rsq_L (re_var (ρ := (rL rS)) (x := names_) 1 rfl (pv 1))) T.z_list) frz_L) rfl fun (left_24 : (List Str)) => (rb_setO (ps_set (i := 7) scLsome.nd rfl (.inl rfl) peE) (re_lst0 (ρ := rS)) rfl fun (chosen_25 : (List Str)) a26 => (rb_forF (s0 := (code_22, chosen_25, left_24)) (vs := [8]) (fun (s29 : Int × (List Str) × (List Str)) => [.ow false a0 oPool, .fz ((rL rS) names_), .fz (rI few_), .fz (rI more_), .fz (rI s29.1), .fz (rI count_15), .fz ((rL rS) s29.2.2), .ow true a26 (oL rS s29.2.1), .un, .un]) (fun (x : Int) Γ => Γ.set 8 (.fz (rI x))) (ps_for (passes_of rfl) rfl (pi_range1 (by rfl) T.z_range (pa_cons peE pa_nil)) (pg_name (i := 8) scLsome.nd rfl (.inl rfl)) pssS) (ri_range1 (re_var (ρ := rI) (x := count_15) 5 rfl (pv 5))) (fun _ => rg_name) ⟨.inr rfl, .inr rfl, .inr rfl, .inr rfl, .inr rfl, .inr rfl, .inr rfl, .inr rfl, .inl rfl, .inl rfl, trivial⟩ (fun _ => ⟨.inr rfl, .inl rfl, .inl rfl, .inl rfl, .inl rfl, .inl rfl, .inl rfl, .inl rfl, .inl rfl, .inl rfl, trivial⟩) (fun _ _ => ⟨.inr rfl, .inl rfl, .inl rfl, .inl rfl, .inl rfl, .inl rfl, .inl rfl, .inl rfl, .inl rfl, .inl rfl, trivial⟩) (fun (s29 : Int × (List Str) × (List Str)) (w30 : Int) => (rb_set (ps_set (i := 9) scLsome.nd rfl (.inl rfl) peE) (re_mod (re_intI (re_var (ρ := rI) (x := s29.1) 4 rfl (pv 4)) T.z_int) (re_len (rsq_L (re_var (ρ := (rL rS)) (x := s29.2.2) 6 rfl (pv 6))) T.z_len)) rfl fun (at_34 : Int) => (rb_set (ps_set (i := 4) scLsome.nd rfl (.inl rfl) peE) (re_div (re_var (ρ := rI) (x := s29.1) 4 rfl (pv 4)) (re_len (rsq_L (re_var (ρ := (rL rS)) (x := s29.2.2) 6 rfl (pv 6))) T.z_len)) rfl fun (code_38 : Int) => (rb_app (ps_expr (pe_bm PySem.F.plainAttrs_list PySem.F.slot_list_append PySem.F.type_list_append mt_append (pv 7) (pa_cons peE pa_nil))) rfl (re_ixL (re_var (ρ := (rL rS)) (x := s29.2.2) 6 rfl (pv 6)) (re_var (ρ := rI) (x := at_34) 9 rfl (pv 9))) rfl fun x41 => (rb_set (ps_set (i := 6) scLsome.nd rfl (.inl rfl) peE) (re_frz (re_cat (re_frz (re_slL (re_var (ρ := (rL rS)) (x := s29.2.2) 6 rfl (pv 6)) rp_none (rp_some (re_var (ρ := rI) (x := at_34) 9 rfl (pv 9)))) frz_L) (re_frz (re_slL (re_var (ρ := (rL rS)) (x := s29.2.2) 6 rfl (pv 6)) (rp_some (re_add (re_var (ρ := rI) (x := at_34) 9 rfl (pv 9)) re_int)) rp_none) frz_L)) frz_L) rfl fun (left_54 : (List Str)) => (rb_nil (x := (code_38, (s29.2.1 ++ [x41]), left_54)) (.inr rfl) ⟨.inr rfl, .inr rfl, .inr rfl, .inr rfl, .inr rfl, .inr rfl, .inr rfl, .inr rfl, .inl rfl, .inl rfl, trivial⟩)))))) fun (s55 : Int × (List Str) × (List Str)) => (rb_retO (y := s55.2.1) (z := s55.2.1) (k := oL rS) rfl (pv 7) rfl rfl)))))))
end
end DD
namespace DD
open PySem PySem.Spec PyProof.Rows L2 KO SX RF
section
variable {P : Program} {w : World} {K : PySem.W.Frag} {mg : Str → Option Value} {base : Heap}
theorem scLsheets : FnScope ["_law_pool_here", "_law_lines", "_law_names", "_law_dense", "_law_sheets_here", "_law_name", "_law_wanted"] ["_law_pool_here"] (defScope sLsheets) := ⟨rfl, rfl, rfl, by decide +kernel, rfl, by decide +kernel, by decide +kernel⟩
def P_Lsheets  : Mo ((List (Str × (List Str) × (List Str))) × (List Str) × (List Str)) :=
  (((((((pure (3 : Int)) >>= fun x12 => ((pure (2 : Int)) >>= fun x10 => ((pure (8 : Int)) >>= fun x8 => ((pure (0 : Int)) >>= fun x6 => ((pure (1 : Int)) >>= fun x4 => ((pure (4 : Int)) >>= fun x2 => (pure ()) >>= fun y3 => pure (x2, y3)) >>= fun y5 => pure (x4, y5)) >>= fun y7 => pure (x6, y7)) >>= fun y9 => pure (x8, y9)) >>= fun y11 => pure (x10, y11)) >>= fun y13 => pure (x12, y13)) >>= fun y14 => pure [y14.1, y14.2.1, y14.2.2.1, y14.2.2.2.1, y14.2.2.2.2.1, y14.2.2.2.2.2.1]) >>= fun x18 => (((pure (6 : Int)) >>= fun x16 => (pure ()) >>= fun y17 => pure (x16, y17)) >>= fun y15 => Mo.take y15.1) >>= fun i19 => Mo.get (atI x18 i19)) >>= fun x20 => (pure ()) >>= fun y21 => pure (x20, y21)) >>= fun y1 => P_Lwords y1.1) >>= fun lines_22 => (((((pure (1 : Int)) >>= fun i28 => (((pure (4 : Int)) >>= fun x26 => (pure ()) >>= fun y27 => pure (x26, y27)) >>= fun y25 => Mo.take y25.1) >>= fun j29 => pure (i28 + j29)) >>= fun x30 => (pure ()) >>= fun y31 => pure (x30, y31)) >>= fun y24 => P_Lwords y24.1) >>= fun names_32 => ((((((pure (3 : Int)) >>= fun x34 => (pure ()) >>= fun y35 => pure (x34, y35)) >>= fun y33 => Mo.take y33.1) >>= fun i36 => (pure (0 : Int)) >>= fun j37 => pure (decide (i36 = j37))) >>= fun b47 => if b47 then ((Mo.calm ((pure lines_22) >>= fun x40 => (pure []) >>= fun y41 => Mo.rq (Eqk (rL rS) x40 ∧ Eqk (rL rS) y41) (!decide (x40 = y41)))) >>= fun b46 => if b46 then (((pure names_32) >>= fun x42 => (pure (0 : Int)) >>= fun i43 => Mo.get (atI x42 i43)) >>= fun x44 => (pure lines_22) >>= fun y45 => pure (!decide (x44 ∈ y45))) else pure false) else pure false) >>= fun c48 => (if c48 = true then (((pure names_32) >>= fun x49 => (pure (0 : Int)) >>= fun i50 => Mo.get (atI x49 i50)) >>= fun x51 => (pure (0 : Int)) >>= fun j52 => Mo.get (ixN lines_22.length j52) >>= fun n53 => (pure ((lines_22.set n53 x51)))) else (pure (lines_22))) >>= fun j54 => ((((pure names_32) >>= fun x55 => pure (x55.length : Int)) >>= fun i61 => ((pure (1 : Int)) >>= fun i59 => (((pure (4 : Int)) >>= fun x57 => (pure ()) >>= fun y58 => pure (x57, y58)) >>= fun y56 => Mo.take y56.1) >>= fun j60 => pure (i59 + j60)) >>= fun j62 => pure (min i61 j62)) >>= fun dense_63 => ((pure []) >>= fun sheets_64 => ((pure names_32) >>= fun xs => Mo.fold (fun s66 w67 => ((((pure j54) >>= fun x74 => ((pure (0 : Int)) >>= fun x72 => (((pure j54) >>= fun x69 => pure (x69.length : Int)) >>= fun x70 => (pure ()) >>= fun y71 => pure (x70, y71)) >>= fun y73 => pure (x72, y73)) >>= fun y75 => pure (x74, y75)) >>= fun y68 => P_Lsome y68.1 y68.2.1 y68.2.2.1) >>= fun wanted_76 => ((((pure w67) >>= fun x88 => ((pure wanted_76) >>= fun x86 => ((((pure names_32) >>= fun x82 => ((pure (1 : Int)) >>= fun x80 => ((pure dense_63) >>= fun x78 => (pure ()) >>= fun y79 => pure (x78, y79)) >>= fun y81 => pure (x80, y81)) >>= fun y83 => pure (x82, y83)) >>= fun y77 => P_Lsome y77.1 y77.2.1 y77.2.2.1) >>= fun x84 => (pure ()) >>= fun y85 => pure (x84, y85)) >>= fun y87 => pure (x86, y87)) >>= fun y89 => pure (x88, y89)) >>= fun y90 => pure (y90.1, y90.2.1, y90.2.2.1)) >>= fun x91 => Mo.rq (s66.length < sizeLine) x91 >>= fun x91 => (pure ((s66 ++ [x91])))))) xs (sheets_64) >>= fun s92 => ((((pure names_32) >>= fun x93 => pure (x93.length : Int)) >>= fun i99 => ((pure (1 : Int)) >>= fun i97 => (((pure (4 : Int)) >>= fun x95 => (pure ()) >>= fun y96 => pure (x95, y96)) >>= fun y94 => Mo.take y94.1) >>= fun j98 => pure (i97 + j98)) >>= fun j100 => pure (min i99 j100)) >>= fun dense_101 => ((((pure s92) >>= fun x114 => ((((pure names_32) >>= fun x108 => ((pure (1 : Int)) >>= fun x106 => ((pure dense_101) >>= fun x104 => (pure ()) >>= fun y105 => pure (x104, y105)) >>= fun y107 => pure (x106, y107)) >>= fun y109 => pure (x108, y109)) >>= fun y103 => P_Lsome y103.1 y103.2.1 y103.2.2.1) >>= fun x112 => ((pure j54) >>= fun x110 => (pure ()) >>= fun y111 => pure (x110, y111)) >>= fun y113 => pure (x112, y113)) >>= fun y115 => pure (x114, y115)) >>= fun y116 => pure (y116.1, y116.2.1, y116.2.2.1)) >>= fun r102 => pure r102))))))))
theorem fn_Lsheets (T : Tx K mg) : FnOk P w K mg base (L2.CX P w) 4 T.f_law_sheets T.d_law_sheets ["_law_pool_here"] (spR K mg (fun (c : Addr) (z : Unit) => [.ow false c oPool]) (fun z => P_Lsheets ) (RK.fz (rT3 (rL (rT3 rS (rL rS) (rL rS))) (rL rS) (rL rS)))) := by
  have G_law_some := fn_Lsome (P := P) (w := w) (base := base) T
  have G_law_take := fn_take (P := P) (w := w) (base := base) T
  have G_law_words := fn_Lwords (P := P) (w := w) (base := base) T
  refine fn_mk (Γe := fun c z => [.ow false c oPool, .un, .un, .un, .un, .un, .un]) (Γ0 := fun c z => [.ow false c oPool, .un, .un, .un, .un, .un, .un]) (Z := (fun _ _ x => .ret ((RK.fz (rT3 (rL (rT3 rS (rL rS) (rL rS))) (rL rS) (rL rS))).ok x))) T.F_law_sheets scLsheets (fun _ _ => rfl) (fun _ _ => rfl) (fun _ _ => ⟨.inr rfl, .inl rfl, .inl rfl, .inl rfl, .inl rfl, .inl rfl, .inl rfl, trivial⟩) (fun _ _ => own_first rfl) (fun _ _ _ => .inl rfl) (fun cdv A outer s H E a0 y hr => ?_)
  skip
  show RB _ _ ([.ow false a0 oPool, .un, .un, .un, .un, .un, .un] : RF.Ctx) false [.ow false a0 oPool, .un, .un, .un, .un, .un, .un] _ (P_Lsheets ) _
  exact (rb_setO (ps_set (i := 1) scLsheets.nd rfl (.inl rfl) peE) (re_call a0 G_law_words (hr.mono (by decide)) (takes_of rfl rfl rfl rfl) (ra_own (qo := oPool) rfl (pv 0) (ra_cons (re_ixL (re_frz (re_lst (fun (y14 : Int × Int × Int × Int × Int × Int × Unit) => [y14.1, y14.2.1, y14.2.2.1, y14.2.2.2.1, y14.2.2.2.2.1, y14.2.2.2.2.2.1]) rI (ra_cons re_int (ra_cons re_int (ra_cons re_int (ra_cons re_int (ra_cons re_int (ra_cons re_int ra_nil))))))) frz_L) (re_call a0 G_law_take (hr.mono (by decide)) (takes_of rfl rfl rfl rfl) (ra_own (qo := oPool) rfl (pv 0) (ra_cons re_int ra_nil)) T.g_law_take T.F_law_take.kp T.b_law_take)) ra_nil)) T.g_law_words T.F_law_words.kp T.b_law_words) rfl fun (lines_22 : (List Str)) a23 => (rb_set (ps_set (i := 2) scLsheets.nd rfl (.inl rfl) peE) (re_frz (re_call a0 G_law_words (hr.mono (by decide)) (takes_of rfl rfl rfl rfl) (ra_own (qo := oPool) rfl (pv 0) (ra_cons (re_add re_int (re_call a0 G_law_take (hr.mono (by decide)) (takes_of rfl rfl rfl rfl) (ra_own (qo := oPool) rfl (pv 0) (ra_cons re_int ra_nil)) T.g_law_take T.F_law_take.kp T.b_law_take)) ra_nil)) T.g_law_words T.F_law_words.kp T.b_law_words) frz_L) rfl fun (names_32 : (List Str)) => (rb_ifJ (fun (j54 : (List Str)) => [.ow false a0 oPool, .ow true a23 (oL rS j54), .fz ((rL rS) names_32), .un, .un, .un, .un]) (rt_w (rw_and (rt_rc (rc_i i_eq (re_call a0 G_law_take (hr.mono (by decide)) (takes_of rfl rfl rfl rfl) (ra_own (qo := oPool) rfl (pv 0) (ra_cons re_int ra_nil)) T.g_law_take T.F_law_take.kp T.b_law_take) re_int)) (rw_and (rt_bor (j := 1) rfl ⟨inferInstance, trivial⟩ (rt_rc (rc_neE (ρ := (rL rS)) hr.units (ha := (re_var (ρ := (rL rS)) (x := lines_22) 1 rfl (pv 1))) (hb := (re_frz (re_lst0 (ρ := rS)) frz_L))))) (rw_and1 (rt_rc (rc_ninS (re_ixL (re_var (ρ := (rL rS)) (x := names_32) 2 rfl (pv 2)) re_int) (rsq_O rfl (pv 1)))))))) (rb_setix (ps_asg peE (pg_sub (pv 1) peE set_list)) rfl (re_ixL (re_var (ρ := (rL rS)) (x := names_32) 2 rfl (pv 2)) re_int) re_int rfl fun x51 j52 n53 => (rb_nil (x := ((lines_22.set n53 x51))) (.inl rfl) ⟨.inr rfl, .inr rfl, .inr rfl, .inl rfl, .inl rfl, .inl rfl, .inl rfl, trivial⟩)) (rb_nil (x := (lines_22)) (.inl rfl) ⟨.inr rfl, .inr rfl, .inr rfl, .inl rfl, .inl rfl, .inl rfl, .inl rfl, trivial⟩) (fun _ => ⟨.inr rfl, .inl rfl, .inl rfl, .inl rfl, .inl rfl, .inl rfl, .inl rfl, trivial⟩) fun (j54 : (List Str)) => (rb_frz (i := 1) (p := rL rS j54) rfl (frz_L _ _) rfl (rb_set (ps_set (i := 3) scLsheets.nd rfl (.inl rfl) peE) (re_min2 (re_len (rsq_L (re_var (ρ := (rL rS)) (x := names_32) 2 rfl (pv 2))) T.z_len) (re_add re_int (re_call a0 G_law_take (hr.mono (by decide)) (takes_of rfl rfl rfl rfl) (ra_own (qo := oPool) rfl (pv 0) (ra_cons re_int ra_nil)) T.g_law_take T.F_law_take.kp T.b_law_take)) T.z_min) rfl fun (dense_63 : Int) => (rb_setO (ps_set (i := 4) scLsheets.nd rfl (.inl rfl) peE) (re_lst0 (ρ := (rT3 rS (rL rS) (rL rS)))) rfl fun (sheets_64 : (List (Str × (List Str) × (List Str)))) a65 => (rb_forF (s0 := (sheets_64)) (vs := [5]) (fun (s66 : (List (Str × (List Str) × (List Str)))) => [.ow false a0 oPool, .fz ((rL rS) j54), .fz ((rL rS) names_32), .fz (rI dense_63), .ow true a65 (oL (rT3 rS (rL rS) (rL rS)) s66), .un, .un]) (fun (x : Str) Γ => Γ.set 5 (.fz (rS x))) (ps_for (passes_of rfl) rfl (pi_list peE) (pg_name (i := 5) scLsheets.nd rfl (.inl rfl)) pssS) (ri_list (re_var (ρ := (rL rS)) (x := names_32) 2 rfl (pv 2))) (fun _ => rg_name) ⟨.inr rfl, .inr rfl, .inr rfl, .inr rfl, .inr rfl, .inl rfl, .inl rfl, trivial⟩ (fun _ => ⟨.inr rfl, .inl rfl, .inl rfl, .inl rfl, .inl rfl, .inl rfl, .inl rfl, trivial⟩) (fun _ _ => ⟨.inr rfl, .inl rfl, .inl rfl, .inl rfl, .inl rfl, .inl rfl, .inl rfl, trivial⟩) (fun (s66 : (List (Str × (List Str) × (List Str)))) (w67 : Str) => (rb_set (ps_set (i := 6) scLsheets.nd rfl (.inl rfl) peE) (re_frz (re_call a0 G_law_some (hr.mono (by decide)) (takes_of rfl rfl rfl rfl) (ra_own (qo := oPool) rfl (pv 0) (ra_cons (re_var (ρ := (rL rS)) (x := j54) 1 rfl (pv 1)) (ra_cons re_int (ra_cons (re_len (rsq_L (re_var (ρ := (rL rS)) (x := j54) 1 rfl (pv 1))) T.z_len) ra_nil)))) T.g_law_some T.F_law_some.kp T.b_law_some) frz_L) rfl fun (wanted_76 : (List Str)) => (rb_app (ps_expr (pe_bm PySem.F.plainAttrs_list PySem.F.slot_list_append PySem.F.type_list_append mt_append (pv 4) (pa_cons peE pa_nil))) rfl (re_tup (fun (y90 : Str × (List Str) × (List Str) × Unit) => (y90.1, y90.2.1, y90.2.2.1)) (rT3 rS (rL rS) (rL rS)) (fun (y90 : Str × (List Str) × (List Str) × Unit) => [rS y90.1, (rL rS) y90.2.1, (rL rS) y90.2.2.1]) (ra_cons (re_var (ρ := rS) (x := w67) 5 rfl (pv 5)) (ra_cons (re_var (ρ := (rL rS)) (x := wanted_76) 6 rfl (pv 6)) (ra_cons (re_frz (re_call a0 G_law_some (hr.mono (by decide)) (takes_of rfl rfl rfl rfl) (ra_own (qo := oPool) rfl (pv 0) (ra_cons (re_var (ρ := (rL rS)) (x := names_32) 2 rfl (pv 2)) (ra_cons re_int (ra_cons (re_var (ρ := rI) (x := dense_63) 3 rfl (pv 3)) ra_nil)))) T.g_law_some T.F_law_some.kp T.b_law_some) frz_L) ra_nil)))) rfl fun x91 => (rb_nil (x := ((s66 ++ [x91]))) (.inr rfl) ⟨.inr rfl, .inr rfl, .inr rfl, .inr rfl, .inr rfl, .inl rfl, .inl rfl, trivial⟩)))) fun (s92 : (List (Str × (List Str) × (List Str)))) => (rb_frz (i := 4) (p := rL (rT3 rS (rL rS) (rL rS)) s92) rfl (frz_L _ _) rfl (rb_set (ps_set (i := 3) scLsheets.nd rfl (.inl rfl) peE) (re_min2 (re_len (rsq_L (re_var (ρ := (rL rS)) (x := names_32) 2 rfl (pv 2))) T.z_len) (re_add re_int (re_call a0 G_law_take (hr.mono (by decide)) (takes_of rfl rfl rfl rfl) (ra_own (qo := oPool) rfl (pv 0) (ra_cons re_int ra_nil)) T.g_law_take T.F_law_take.kp T.b_law_take)) T.z_min) rfl fun (dense_101 : Int) => (rb_ret (fun (r102 : ((List (Str × (List Str) × (List Str))) × (List Str) × (List Str))) => r102) (re_tup (fun (y116 : (List (Str × (List Str) × (List Str))) × (List Str) × (List Str) × Unit) => (y116.1, y116.2.1, y116.2.2.1)) (rT3 (rL (rT3 rS (rL rS) (rL rS))) (rL rS) (rL rS)) (fun (y116 : (List (Str × (List Str) × (List Str))) × (List Str) × (List Str) × Unit) => [(rL (rT3 rS (rL rS) (rL rS))) y116.1, (rL rS) y116.2.1, (rL rS) y116.2.2.1]) (ra_cons (re_var (ρ := (rL (rT3 rS (rL rS) (rL rS)))) (x := s92) 4 rfl (pv 4)) (ra_cons (re_frz (re_call a0 G_law_some (hr.mono (by decide)) (takes_of rfl rfl rfl rfl) (ra_own (qo := oPool) rfl (pv 0) (ra_cons (re_var (ρ := (rL rS)) (x := names_32) 2 rfl (pv 2)) (ra_cons re_int (ra_cons (re_var (ρ := rI) (x := dense_101) 3 rfl (pv 3)) ra_nil)))) T.g_law_some T.F_law_some.kp T.b_law_some) frz_L) (ra_cons (re_var (ρ := (rL rS)) (x := j54) 1 rfl (pv 1)) ra_nil)))) (fun _ => rfl)))))))))))

theorem scLplaces : FnScope ["_law_names", "_law_chosen", "_law_k"] ["_law_names", "_law_chosen"] (defScope sLplaces) := ⟨rfl, rfl, rfl, by decide +kernel, rfl, by decide +kernel, by decide +kernel⟩
def P_Lplaces (names_ : (List Str)) (chosen_ : (List Str)) : Mo (List Int) :=
  (((((pure names_) >>= fun x2 => pure (x2.length : Int)) >>= fun i3 => Mo.rq (-(2 ^ 62) ≤ i3 ∧ i3 < 2 ^ 62) (rangeL 0 i3.toNat)) >>= Mo.lc (fun w5 => (((pure names_) >>= fun x6 => (pure w5) >>= fun i7 => Mo.get (atI x6 i7)) >>= fun x8 => (pure chosen_) >>= fun y9 => pure (decide (x8 ∈ y9)))) (fun w5 => (pure w5))) >>= fun r1 => pure r1)
theorem fn_Lplaces (T : Tx K mg) : FnOk P w K mg base (L2.CX P w) 2 T.f_law_places T.d_law_places ["_law_names", "_law_chosen"] (spR K mg (fun (c : Unit) (z : (List Str) × (List Str) × Unit) => [.fz ((rL rS) z.1), .fz ((rL rS) z.2.1)]) (fun z => P_Lplaces z.1 z.2.1) (RK.ow (oL rI))) := by
  refine fn_mk (Γe := fun c z => [.un, .un, .un]) (Γ0 := fun c z => [.fz ((rL rS) z.1), .fz ((rL rS) z.2.1), .un]) (Z := (fun _ _ x => .ret ((RK.ow (oL rI)).ok x))) T.F_law_places scLplaces (fun _ _ => rfl) (fun _ _ => rfl) (fun _ _ => ⟨.inl rfl, .inl rfl, .inl rfl, trivial⟩) (fun _ _ _ _ _ _ h => (own_none rfl h).elim) (fun _ _ _ => .inl rfl) (fun cdv A outer s H E a0 y hr => ?_)
  obtain ⟨names_, chosen_, _⟩ := y
  show RB _ _ ([.un, .un, .un] : RF.Ctx) false [.fz ((rL rS) names_), .fz ((rL rS) chosen_), .un] _ (P_Lplaces names_ chosen_) _
  exact (rb_ret (fun (r1 : (List Int)) => r1) (re_of (pe_lc (own := [("_law_k", 2)]) (g := gName 2) rfl scLplaces.nd (pi_range1 (by rfl) T.z_range (pa_cons peE pa_nil)) (blkOk_by (own := [("_law_k", 2)]) (N := ["_law_names", "_law_chosen", "_law_k"]) (sc := defScope sLplaces) (by decide +kernel)) (fun _ _ _ _ _ => pg_name (i := 2) scLplaces.nd rfl (.inl rfl)) ptPi peEi) (rte_lc (vs := [2]) (fun (x : Int) Γ => Γ.set 2 (.fz (rI x))) (ri_range1 (re_len (rsq_L (re_var (ρ := (rL rS)) (x := names_) 0 rfl (pv 0))) T.z_len)) (fun _ => rg_name) (fun _ => rgo_name) (un1 rfl) (fun (w5 : Int) => (rti_one (fun _ _ _ _ _ => (rt_rc (rc_inS (re_ixL (re_var (ρ := (rL rS)) (x := names_) 0 rfl (pv 0)) (re_var (ρ := rI) (x := w5) 2 rfl (pv 2))) (rsq_L (re_var (ρ := (rL rS)) (x := chosen_) 1 rfl (pv 1)))))))) (fun (w5 : Int) _ _ _ _ _ => (re_var (ρ := rI) (x := w5) 2 rfl (pv 2))))) (fun _ => rfl))

theorem scLhanded : FnScope ["_law_sheets_here", "_law_sheet"] ["_law_sheets_here"] (defScope sLhanded) := ⟨rfl, rfl, rfl, by decide +kernel, rfl, by decide +kernel, by decide +kernel⟩
def P_Lhanded (sheets_here_ : (List (Str × (List Str) × (List Str)))) : Mo (List (Str × (List Str) × (List Str))) :=
  (((pure sheets_here_) >>= Mo.lc (fun w2 => (pure true)) (fun w2 => ((((pure w2) >>= fun x3 => pure x3.1) >>= fun x12 => ((((pure w2) >>= fun x4 => pure x4.2.1) >>= fun x5 => pure x5) >>= fun x10 => ((((pure w2) >>= fun x6 => pure x6.2.2) >>= fun x7 => pure x7) >>= fun x8 => (pure ()) >>= fun y9 => pure (x8, y9)) >>= fun y11 => pure (x10, y11)) >>= fun y13 => pure (x12, y13)) >>= fun y14 => pure (y14.1, y14.2.1, y14.2.2.1)))) >>= fun r1 => pure r1)
theorem fn_Lhanded (T : Tx K mg) : FnOk P w K mg base (L2.CX P w) 2 T.f_law_handed T.d_law_handed ["_law_sheets_here"] (spR K mg (fun (c : Unit) (z : (List (Str × (List Str) × (List Str))) × Unit) => [.fz ((rL (rT3 rS (rL rS) (rL rS))) z.1)]) (fun z => P_Lhanded z.1) (RK.ow (oL (rT3 rS (rL rS) (rL rS))))) := by
  refine fn_mk (Γe := fun c z => [.un, .un]) (Γ0 := fun c z => [.fz ((rL (rT3 rS (rL rS) (rL rS))) z.1), .un]) (Z := (fun _ _ x => .ret ((RK.ow (oL (rT3 rS (rL rS) (rL rS)))).ok x))) T.F_law_handed scLhanded (fun _ _ => rfl) (fun _ _ => rfl) (fun _ _ => ⟨.inl rfl, .inl rfl, trivial⟩) (fun _ _ _ _ _ _ h => (own_none rfl h).elim) (fun _ _ _ => .inl rfl) (fun cdv A outer s H E a0 y hr => ?_)
  obtain ⟨sheets_here_, _⟩ := y
  show RB _ _ ([.un, .un] : RF.Ctx) false [.fz ((rL (rT3 rS (rL rS) (rL rS))) sheets_here_), .un] _ (P_Lhanded sheets_here_) _
  exact (rb_ret (fun (r1 : (List (Str × (List Str) × (List Str)))) => r1) (re_of (pe_lc (own := [("_law_sheet", 1)]) (g := gName 1) rfl scLhanded.nd (pi_list peE) (blkOk_by (own := [("_law_sheet", 1)]) (N := ["_law_sheets_here", "_law_sheet"]) (sc := defScope sLhanded) (by decide +kernel)) (fun _ _ _ _ _ => pg_name (i := 1) scLhanded.nd rfl (.inl rfl)) ptPi peEi) (rte_lc (vs := [1]) (fun (x : (Str × (List Str) × (List Str))) Γ => Γ.set 1 (.fz ((rT3 rS (rL rS) (rL rS)) x))) (ri_list (re_var (ρ := (rL (rT3 rS (rL rS) (rL rS)))) (x := sheets_here_) 0 rfl (pv 0))) (fun _ => rg_name) (fun _ => rgo_name) (un1 rfl) (fun (w2 : (Str × (List Str) × (List Str))) => rti_nil) (fun (w2 : (Str × (List Str) × (List Str))) _ _ _ _ _ => (re_tup (fun (y14 : Str × (List Str) × (List Str) × Unit) => (y14.1, y14.2.1, y14.2.2.1)) (rT3 rS (rL rS) (rL rS)) (fun (y14 : Str × (List Str) × (List Str) × Unit) => [rS y14.1, (rL rS) y14.2.1, (rL rS) y14.2.2.1]) (ra_cons (re_at (ρ := rS) (g := fun (x : (Str × (List Str) × (List Str))) => x.1) (fun (x : (Str × (List Str) × (List Str))) => [rS x.1, (rL rS) x.2.1, (rL rS) x.2.2]) (0) (re_var (ρ := (rT3 rS (rL rS) (rL rS))) (x := w2) 1 rfl (pv 1)) (hc := re_int)) (ra_cons (re_frz (re_list (rsq_L (re_at (ρ := (rL rS)) (g := fun (x : (Str × (List Str) × (List Str))) => x.2.1) (fun (x : (Str × (List Str) × (List Str))) => [rS x.1, (rL rS) x.2.1, (rL rS) x.2.2]) (1) (re_var (ρ := (rT3 rS (rL rS) (rL rS))) (x := w2) 1 rfl (pv 1)) (hc := re_int))) T.z_list) frz_L) (ra_cons (re_frz (re_list (rsq_L (re_at (ρ := (rL rS)) (g := fun (x : (Str × (List Str) × (List Str))) => x.2.2) (fun (x : (Str × (List Str) × (List Str))) => [rS x.1, (rL rS) x.2.1, (rL rS) x.2.2]) (2) (re_var (ρ := (rT3 rS (rL rS) (rL rS))) (x := w2) 1 rfl (pv 1)) (hc := re_int))) T.z_list) frz_L) ra_nil))))))) (fun _ => rfl))

theorem scLgrown : FnScope ["_law_followers", "_law_begin", "_law_found", "_law_k", "_law_here", "_law_other"] ["_law_followers", "_law_begin"] (defScope sLgrown) := ⟨rfl, rfl, rfl, by decide +kernel, rfl, by decide +kernel, by decide +kernel⟩
def P_Lgrown (followers_ : (List (List Int))) (begin_ : (List Int)) : Mo (List Int) :=
  (((pure begin_) >>= fun x1 => pure x1) >>= fun found_2 => ((((pure followers_) >>= fun x4 => pure (x4.length : Int)) >>= fun i5 => Mo.rq (-(2 ^ 62) ≤ i5 ∧ i5 < 2 ^ 62) (rangeL 0 i5.toNat)) >>= fun xs => Mo.fold (fun s7 w8 => (((pure s7) >>= fun x9 => pure x9) >>= fun xs => Mo.fold (fun s10 w11 => (((pure followers_) >>= fun x12 => (pure w11) >>= fun i13 => Mo.get (atI x12 i13)) >>= fun xs => Mo.fold (fun s14 w15 => (((pure w15) >>= fun x16 => (pure s14) >>= fun y17 => pure (!decide (x16 ∈ y17))) >>= fun c18 => if c18 = true then ((pure w15) >>= fun x19 => Mo.rq (s14.length < sizeLine) x19 >>= fun x19 => (pure ((s14 ++ [x19])))) else (pure (s14)))) xs (s10) >>= fun s20 => (pure (s20)))) xs (s7) >>= fun s21 => (pure (s21)))) xs (found_2) >>= fun s22 => (((pure s22) >>= fun x24 => Mo.rq (x24.length < 64) () >>= fun _ => Mo.any (fun ys : List Int => ys.Perm x24 ∧ ys.Pairwise (· ≤ ·))) >>= fun r23 => pure r23)))
theorem fn_Lgrown (T : Tx K mg) : FnOk P w K mg base (L2.CX P w) 2 T.f_law_grown T.d_law_grown ["_law_followers", "_law_begin"] (spR K mg (fun (c : Unit) (z : (List (List Int)) × (List Int) × Unit) => [.fz ((rL (rL rI)) z.1), .fz ((rL rI) z.2.1)]) (fun z => P_Lgrown z.1 z.2.1) (RK.ow (oL rI))) := by
  refine fn_mk (Γe := fun c z => [.un, .un, .un, .un, .un, .un]) (Γ0 := fun c z => [.fz ((rL (rL rI)) z.1), .fz ((rL rI) z.2.1), .un, .un, .un, .un]) (Z := (fun _ _ x => .ret ((RK.ow (oL rI)).ok x))) T.F_law_grown scLgrown (fun _ _ => rfl) (fun _ _ => rfl) (fun _ _ => ⟨.inl rfl, .inl rfl, .inl rfl, .inl rfl, .inl rfl, .inl rfl, trivial⟩) (fun _ _ _ _ _ _ h => (own_none rfl h).elim) (fun _ _ _ => .inl rfl) (fun cdv A outer s H E a0 y hr => ?_)
  obtain ⟨followers_, begin_, _⟩ := y
  show RB _ _ ([.un, .un, .un, .un, .un, .un] : RF.Ctx) false [.fz ((rL (rL rI)) followers_), .fz ((rL rI) begin_), .un, .un, .un, .un] _ (P_Lgrown followers_ begin_) _
  exact (rb_setO (ps_set (i := 2) scLgrown.nd rfl (.inl rfl) peE) (re_list (rsq_L (re_var (ρ := (rL rI)) (x := begin_) 1 rfl (pv 1))) T.z_list) rfl fun (found_2 : (List Int)) a3 => (rb_forF (s0 := (found_2)) (vs := [3]) (fun (s7 : (List Int)) => [.fz ((rL (rL rI)) followers_), .fz ((rL rI) begin_), .ow true a3 (oL rI s7), .un, .un, .un]) (fun (x : Int) Γ => Γ.set 3 (.fz (rI x))) (ps_for (passes_of rfl) rfl (pi_range1 (by rfl) T.z_range (pa_cons peE pa_nil)) (pg_name (i := 3) scLgrown.nd rfl (.inl rfl)) pssS) (ri_range1 (re_len (rsq_L (re_var (ρ := (rL (rL rI))) (x := followers_) 0 rfl (pv 0))) T.z_len)) (fun _ => rg_name) ⟨.inr rfl, .inr rfl, .inr rfl, .inl rfl, .inl rfl, .inl rfl, trivial⟩ (fun _ => ⟨.inl rfl, .inl rfl, .inl rfl, .inl rfl, .inl rfl, .inl rfl, trivial⟩) (fun _ _ => ⟨.inl rfl, .inl rfl, .inl rfl, .inl rfl, .inl rfl, .inl rfl, trivial⟩) (fun (s7 : (List Int)) (w8 : Int) => (rb_forF (s0 := (s7)) (vs := [4]) (fun (s10 : (List Int)) => [.fz ((rL (rL rI)) followers_), .fz ((rL rI) begin_), .ow true a3 (oL rI s10), .fz (rI w8), .un, .un]) (fun (x : Int) Γ => Γ.set 4 (.fz (rI x))) (ps_for (passes_of rfl) rfl (pi_list peE) (pg_name (i := 4) scLgrown.nd rfl (.inl rfl)) pssS) (ri_list (re_frz (re_list (rsq_O rfl (pv 2)) T.z_list) frz_L)) (fun _ => rg_name) ⟨.inr rfl, .inr rfl, .inr rfl, .inr rfl, .inl rfl, .inl rfl, trivial⟩ (fun _ => ⟨.inl rfl, .inl rfl, .inl rfl, .inl rfl, .inl rfl, .inl rfl, trivial⟩) (fun _ _ => ⟨.inl rfl, .inl rfl, .inl rfl, .inl rfl, .inl rfl, .inl rfl, trivial⟩) (fun (s10 : (List Int)) (w11 : Int) => (rb_forF (s0 := (s10)) (vs := [5]) (fun (s14 : (List Int)) => [.fz ((rL (rL rI)) followers_), .fz ((rL rI) begin_), .ow true a3 (oL rI s14), .fz (rI w8), .fz (rI w11), .un]) (fun (x : Int) Γ => Γ.set 5 (.fz (rI x))) (ps_for (passes_of rfl) rfl (pi_list peE) (pg_name (i := 5) scLgrown.nd rfl (.inl rfl)) pssS) (ri_list (re_ixL (re_var (ρ := (rL (rL rI))) (x := followers_) 0 rfl (pv 0)) (re_var (ρ := rI) (x := w11) 4 rfl (pv 4)))) (fun _ => rg_name) ⟨.inr rfl, .inr rfl, .inr rfl, .inr rfl, .inr rfl, .inl rfl, trivial⟩ (fun _ => ⟨.inl rfl, .inl rfl, .inl rfl, .inl rfl, .inl rfl, .inl rfl, trivial⟩) (fun _ _ => ⟨.inl rfl, .inl rfl, .inl rfl, .inl rfl, .inl rfl, .inl rfl, trivial⟩) (fun (s14 : (List Int)) (w15 : Int) => (rb_if0 (rt_rc (rc_ninI (re_var (ρ := rI) (x := w15) 5 rfl (pv 5)) (rsq_O rfl (pv 2)))) (rb_app (ps_expr (pe_bm PySem.F.plainAttrs_list PySem.F.slot_list_append PySem.F.type_list_append mt_append (pv 2) (pa_cons peE pa_nil))) rfl (re_var (ρ := rI) (x := w15) 5 rfl (pv 5)) rfl fun x19 => (rb_nil (x := ((s14 ++ [x19]))) (.inr rfl) ⟨.inr rfl, .inr rfl, .inr rfl, .inr rfl, .inr rfl, .inl rfl, trivial⟩)) (rb_nil (x := (s14)) (.inr rfl) ⟨.inr rfl, .inr rfl, .inr rfl, .inr rfl, .inr rfl, .inl rfl, trivial⟩))) fun (s20 : (List Int)) => (rb_nil (x := (s20)) (.inr rfl) ⟨.inr rfl, .inr rfl, .inr rfl, .inr rfl, .inl rfl, .inl rfl, trivial⟩))) fun (s21 : (List Int)) => (rb_nil (x := (s21)) (.inr rfl) ⟨.inr rfl, .inr rfl, .inr rfl, .inl rfl, .inl rfl, .inl rfl, trivial⟩))) fun (s22 : (List Int)) => (rb_frz (i := 2) (p := rL rI s22) rfl (frz_L _ _) rfl (rb_ret (fun (r23 : (List Int)) => r23) (re_sorted (rsq_L (re_var (ρ := (rL rI)) (x := s22) 2 rfl (pv 2))) T.z_sorted) (fun _ => rfl)))))

theorem scLmeangood : FnScope ["_law_mean", "_law_d"] ["_law_mean"] (defScope sLmeangood) := ⟨rfl, rfl, rfl, by decide +kernel, rfl, by decide +kernel, by decide +kernel⟩
def P_Lmeangood (mean_ : (Int × Int)) : Mo Bool :=
  (((((pure mean_) >>= fun _ => pure true) >>= fun b1 => pure (!b1)) >>= fun b18 => if b18 then pure true else (((((pure mean_) >>= fun x => pure ((fun (x : (Int × Int)) => [x.1, x.2]) x)) >>= fun x3 => pure (x3.length : Int)) >>= fun i4 => (pure (2 : Int)) >>= fun j5 => pure (decide (i4 ≠ j5))) >>= fun b17 => if b17 then pure true else ((((((pure mean_) >>= fun x7 => pure x7.1) >>= fun x8 => (pure ()) >>= fun y9 => pure (x8, y9)) >>= fun y6 => P_Lint y6.1) >>= fun b10 => pure (!b10)) >>= fun b16 => if b16 then pure true else (((((pure mean_) >>= fun x12 => pure x12.2) >>= fun x13 => (pure ()) >>= fun y14 => pure (x13, y14)) >>= fun y11 => P_Lint y11.1) >>= fun b15 => pure (!b15))))) >>= fun c19 => if c19 = true then ((pure false) >>= fun r20 => pure r20) else (((((pure mean_) >>= fun x21 => pure x21.1) >>= fun i22 => (pure (0 : Int)) >>= fun j23 => pure (decide (i22 < j23))) >>= fun b31 => if b31 then pure true else ((((pure mean_) >>= fun x24 => pure x24.2) >>= fun i25 => (pure (1 : Int)) >>= fun j26 => pure (decide (i25 < j26))) >>= fun b30 => if b30 then pure true else (((pure mean_) >>= fun x27 => pure x27.2) >>= fun i28 => (pure (4 : Int)) >>= fun j29 => pure (decide (j29 < i28))))) >>= fun c32 => if c32 = true then ((pure false) >>= fun r33 => pure r33) else (((((pure (2 : Int)) >>= fun i37 => (pure (5 : Int)) >>= fun j38 => Mo.rq (-(2 ^ 62) ≤ i37 ∧ i37 < 2 ^ 62 ∧ -(2 ^ 62) ≤ j38 ∧ j38 < 2 ^ 62) (rangeL i37 (j38 - i37).toNat)) >>= Mo.lc (fun w39 => (((((pure mean_) >>= fun x40 => pure x40.1) >>= fun i41 => (pure w39) >>= fun j42 => Mo.rq (0 < j42) (i41 % j42)) >>= fun i43 => (pure (0 : Int)) >>= fun j44 => pure (decide (i43 = j44))) >>= fun b50 => if b50 then ((((pure mean_) >>= fun x45 => pure x45.2) >>= fun i46 => (pure w39) >>= fun j47 => Mo.rq (0 < j47) (i46 % j47)) >>= fun i48 => (pure (0 : Int)) >>= fun j49 => pure (decide (i48 = j49))) else pure false)) (fun w39 => (pure w39))) >>= fun x35 => (pure []) >>= fun y36 => Mo.rq (Eqk (rL rI) x35 ∧ Eqk (rL rI) y36) (decide (x35 = y36))) >>= fun r34 => pure r34)))
theorem fn_Lmeangood (T : Tx K mg) : FnOk P w K mg base (L2.CX P w) 3 T.f_law_mean_good T.d_law_mean_good ["_law_mean"] (spR K mg (fun (c : Unit) (z : (Int × Int) × Unit) => [.fz ((rT2 rI rI) z.1)]) (fun z => P_Lmeangood z.1) (RK.fz rB)) := by
  have G_law_int := fn_Lint (P := P) (w := w) (base := base) T
  refine fn_mk (Γe := fun c z => [.un, .un]) (Γ0 := fun c z => [.fz ((rT2 rI rI) z.1), .un]) (Z := (fun _ _ x => .ret ((RK.fz rB).ok x))) T.F_law_mean_good scLmeangood (fun _ _ => rfl) (fun _ _ => rfl) (fun _ _ => ⟨.inl rfl, .inl rfl, trivial⟩) (fun _ _ _ _ _ _ h => (own_none rfl h).elim) (fun _ _ _ => .inl rfl) (fun cdv A outer s H E a0 y hr => ?_)
  obtain ⟨mean_, _⟩ := y
  show RB _ _ ([.un, .un] : RF.Ctx) false [.fz ((rT2 rI rI) mean_), .un] _ (P_Lmeangood mean_) _
  exact (rb_if1 (rt_w (rw_or (rt_not (rt_val (re_isi (T := "tuple") (r := true) (ρ := (rT2 rI rI)) (re_var (ρ := (rT2 rI rI)) (x := mean_) 0 rfl (pv 0)) (kit_ty (by first | rfl | decide +kernel)) T.z_isinstance (pe_bltn (v := .ty "tuple") (by rfl) T.z_tuple (by decide +kernel) rfl)))) (rw_or (rt_rc (rc_i i_ne (re_len (rsq_at (ρ := rI) (fun (x : (Int × Int)) => [x.1, x.2]) (re_var (ρ := (rT2 rI rI)) (x := mean_) 0 rfl (pv 0))) T.z_len) re_int)) (rw_or (rt_not (rt_val (re_call () G_law_int (hr.mono (by decide)) (takes_of rfl rfl rfl rfl) (ra_cons (re_at (ρ := rI) (g := fun (x : (Int × Int)) => x.1) (fun (x : (Int × Int)) => [rI x.1, rI x.2]) (0) (re_var (ρ := (rT2 rI rI)) (x := mean_) 0 rfl (pv 0)) (hc := re_int)) ra_nil) T.g_law_int T.F_law_int.kp T.b_law_int))) (rw_or1 (rt_not (rt_val (re_call () G_law_int (hr.mono (by decide)) (takes_of rfl rfl rfl rfl) (ra_cons (re_at (ρ := rI) (g := fun (x : (Int × Int)) => x.2) (fun (x : (Int × Int)) => [rI x.1, rI x.2]) (1) (re_var (ρ := (rT2 rI rI)) (x := mean_) 0 rfl (pv 0)) (hc := re_int)) ra_nil) T.g_law_int T.F_law_int.kp T.b_law_int)))))))) (rb_ret (fun (r20 : Bool) => r20) re_bl (fun _ => rfl)) (rb_if1 (rt_w (rw_or (rt_rc (rc_i i_lt (re_at (ρ := rI) (g := fun (x : (Int × Int)) => x.1) (fun (x : (Int × Int)) => [rI x.1, rI x.2]) (0) (re_var (ρ := (rT2 rI rI)) (x := mean_) 0 rfl (pv 0)) (hc := re_int)) re_int)) (rw_or (rt_rc (rc_i i_lt (re_at (ρ := rI) (g := fun (x : (Int × Int)) => x.2) (fun (x : (Int × Int)) => [rI x.1, rI x.2]) (1) (re_var (ρ := (rT2 rI rI)) (x := mean_) 0 rfl (pv 0)) (hc := re_int)) re_int)) (rw_or1 (rt_rc (rc_i i_gt (re_at (ρ := rI) (g := fun (x : (Int × Int)) => x.2) (fun (x : (Int × Int)) => [rI x.1, rI x.2]) (1) (re_var (ρ := (rT2 rI rI)) (x := mean_) 0 rfl (pv 0)) (hc := re_int)) re_int)))))) (rb_ret (fun (r33 : Bool) => r33) re_bl (fun _ => rfl)) (rb_ret (fun (r34 : Bool) => r34) (re_rc (rc_eqE (ρ := (rL rI)) hr.units (ha := (re_frz (re_of (pe_lc (own := [("_law_d", 1)]) (g := gName 1) rfl scLmeangood.nd (pi_range2 (by rfl) T.z_range (pa_cons peE (pa_cons peE pa_nil))) (blkOk_by (own := [("_law_d", 1)]) (N := ["_law_mean", "_law_d"]) (sc := defScope sLmeangood) (by decide +kernel)) (fun _ _ _ _ _ => pg_name (i := 1) scLmeangood.nd rfl (.inl rfl)) ptPi peEi) (rte_lc (vs := [1]) (fun (x : Int) Γ => Γ.set 1 (.fz (rI x))) (ri_range2 re_int re_int) (fun _ => rg_name) (fun _ => rgo_name) (un1 rfl) (fun (w39 : Int) => (rti_one (fun _ _ _ _ _ => (rt_w (rw_and (rt_rc (rc_i i_eq (re_mod (re_intI (re_at (ρ := rI) (g := fun (x : (Int × Int)) => x.1) (fun (x : (Int × Int)) => [rI x.1, rI x.2]) (0) (re_var (ρ := (rT2 rI rI)) (x := mean_) 0 rfl (pv 0)) (hc := re_int)) T.z_int) (re_var (ρ := rI) (x := w39) 1 rfl (pv 1))) re_int)) (rw_and1 (rt_rc (rc_i i_eq (re_mod (re_intI (re_at (ρ := rI) (g := fun (x : (Int × Int)) => x.2) (fun (x : (Int × Int)) => [rI x.1, rI x.2]) (1) (re_var (ρ := (rT2 rI rI)) (x := mean_) 0 rfl (pv 0)) (hc := re_int)) T.z_int) (re_var (ρ := rI) (x := w39) 1 rfl (pv 1))) re_int)))))))) (fun (w39 : Int) _ _ _ _ _ => (re_var (ρ := rI) (x := w39) 1 rfl (pv 1))))) frz_L)) (hb := (re_frz (re_lst0 (ρ := rI)) frz_L)))) (fun _ => rfl))))
end
end DD
namespace DD
open PySem PySem.Spec PyProof.Rows L2 KO SX RF
section
variable {P : Program} {w : World} {K : PySem.W.Frag} {mg : Str → Option Value} {base : Heap}
theorem scLringgood : FnScope ["_law_ring", "_law_names", "_law_followers", "_law_reached", "_law_seen_here", "_law_name", "_law_at"] ["_law_ring", "_law_names", "_law_followers", "_law_reached"] (defScope sLringgood) := ⟨rfl, rfl, rfl, by decide +kernel, rfl, by decide +kernel, by decide +kernel⟩
def P_Lringgood (ring_ : (List Str)) (names_ : (List Str)) (followers_ : (List (List Int))) (reached_ : (List Int)) : Mo Bool :=
  ((((((fun x => some ((fun x => x) x)) <$> (pure ring_)) >>= fun x1 => pure x1.isSome) >>= fun b2 => pure (!b2)) >>= fun b5 => if b5 then pure true else ((pure ring_) >>= fun x3 => (pure []) >>= fun y4 => Mo.rq (Eqk (rL rS) x3 ∧ Eqk (rL rS) y4) (decide (x3 = y4)))) >>= fun c6 => if c6 = true then ((pure false) >>= fun r7 => pure r7) else ((pure []) >>= fun seen_8 => ((pure ring_) >>= fun xs => Mo.loop (fun s10 w11 => (((((pure w11) >>= fun _ => pure true) >>= fun b12 => pure (!b12)) >>= fun b15 => if b15 then pure true else ((pure w11) >>= fun x13 => (pure names_) >>= fun y14 => pure (!decide (x13 ∈ y14)))) >>= fun c16 => if c16 = true then ((pure false) >>= fun r17 => pure (Lp.ret r17)) else (((pure names_) >>= fun y18 => (pure w11) >>= fun x19 => Mo.rq (Eqk rS x19 ∧ Eqks rS y18) () >>= fun _ => Mo.get (List.idxOf? x19 y18) >>= fun j20 => pure (j20 : Int)) >>= fun at_21 => ((((pure at_21) >>= fun x22 => (pure s10) >>= fun y23 => pure (decide (x22 ∈ y23))) >>= fun b26 => if b26 then pure true else ((pure at_21) >>= fun x24 => (pure reached_) >>= fun y25 => pure (!decide (x24 ∈ y25)))) >>= fun c27 => if c27 = true then ((pure false) >>= fun r28 => pure (Lp.ret r28)) else (((Mo.calm ((pure s10) >>= fun x31 => (pure []) >>= fun y32 => Mo.rq (Eqk (rL rI) x31 ∧ Eqk (rL rI) y32) (!decide (x31 = y32)))) >>= fun b39 => if b39 then ((pure at_21) >>= fun x37 => ((pure followers_) >>= fun x35 => (((pure (1 : Int)) >>= fun i33 => pure (-i33)) >>= fun i34 => Mo.get (atI s10 i34)) >>= fun i36 => Mo.get (atI x35 i36)) >>= fun y38 => pure (!decide (x37 ∈ y38))) else pure false) >>= fun c40 => if c40 = true then ((pure false) >>= fun r41 => pure (Lp.ret r41)) else ((pure at_21) >>= fun x42 => Mo.rq (s10.length < sizeLine) x42 >>= fun x42 => (pure (Lp.go ((s10 ++ [x42])))))))))) xs (seen_8) >>= Lp.out (fun s43 => ((((pure s43) >>= fun x45 => (pure (0 : Int)) >>= fun i46 => Mo.get (atI x45 i46)) >>= fun x52 => ((pure followers_) >>= fun x50 => ((pure s43) >>= fun x48 => ((pure (1 : Int)) >>= fun i47 => pure (-i47)) >>= fun i49 => Mo.get (atI x48 i49)) >>= fun i51 => Mo.get (atI x50 i51)) >>= fun y53 => pure (decide (x52 ∈ y53))) >>= fun r44 => pure r44)) (fun x => x))))
theorem fn_Lringgood (T : Tx K mg) : FnOk P w K mg base (L2.CX P w) 2 T.f_law_ring_good T.d_law_ring_good ["_law_ring", "_law_names", "_law_followers", "_law_reached"] (spR K mg (fun (c : Unit) (z : (List Str) × (List Str) × (List (List Int)) × (List Int) × Unit) => [.fz ((rL rS) z.1), .fz ((rL rS) z.2.1), .fz ((rL (rL rI)) z.2.2.1), .fz ((rL rI) z.2.2.2.1)]) (fun z => P_Lringgood z.1 z.2.1 z.2.2.1 z.2.2.2.1) (RK.fz rB)) := by
  refine fn_mk (Γe := fun c z => [.un, .un, .un, .un, .un, .un, .un]) (Γ0 := fun c z => [.fz ((rL rS) z.1), .fz ((rL rS) z.2.1), .fz ((rL (rL rI)) z.2.2.1), .fz ((rL rI) z.2.2.2.1), .un, .un, .un]) (Z := (fun _ _ x => .ret ((RK.fz rB).ok x))) T.F_law_ring_good scLringgood (fun _ _ => rfl) (fun _ _ => rfl) (fun _ _ => ⟨.inl rfl, .inl rfl, .inl rfl, .inl rfl, .inl rfl, .inl rfl, .inl rfl, trivial⟩) (fun _ _ _ _ _ _ h => (own_none rfl h).elim) (fun _ _ _ => .inl rfl) (fun cdv A outer s H E a0 y hr => ?_)
  obtain ⟨ring_, names_, followers_, reached_, _⟩ := y
  show RB _ _ ([.un, .un, .un, .un, .un, .un, .un] : RF.Ctx) false [.fz ((rL rS) ring_), .fz ((rL rS) names_), .fz ((rL (rL rI)) followers_), .fz ((rL rI) reached_), .un, .un, .un] _ (P_Lringgood ring_ names_ followers_ reached_) _
  exact (rb_if1 (rt_w (rw_or (rt_not (rt_val (re_isL (re_coe (ρ' := (rO (rL rS))) (f := (fun x => some ((fun x => x) x))) (co_some co_id) (re_var (ρ := (rL rS)) (x := ring_) 0 rfl (pv 0))) (kit_ty (by decide +kernel)) (kit_ty (by decide +kernel)) T.z_isinstance T.z_list))) (rw_or1 (rt_rc (rc_eqE (ρ := (rL rS)) hr.units (ha := (re_var (ρ := (rL rS)) (x := ring_) 0 rfl (pv 0))) (hb := (re_frz (re_lst0 (ρ := rS)) frz_L))))))) (rb_ret (fun (r7 : Bool) => r7) re_bl (fun _ => rfl)) (rb_setO (ps_set (i := 4) scLringgood.nd rfl (.inl rfl) peE) (re_lst0 (ρ := rI)) rfl fun (seen_8 : (List Int)) a9 => (rb_for (s0 := (seen_8)) (vs := [5]) (Zr := (fun x => .ret ((RK.fz rB).ok x))) (kr := (fun x => x)) (fun (s10 : (List Int)) => [.fz ((rL rS) ring_), .fz ((rL rS) names_), .fz ((rL (rL rI)) followers_), .fz ((rL rI) reached_), .ow true a9 (oL rI s10), .un, .un]) (fun (x : Str) Γ => Γ.set 5 (.fz (rS x))) (ps_for (passes_of rfl) rfl (pi_list peE) (pg_name (i := 5) scLringgood.nd rfl (.inl rfl)) pssS) (ri_list (re_var (ρ := (rL rS)) (x := ring_) 0 rfl (pv 0))) (fun _ => rg_name) ⟨.inr rfl, .inr rfl, .inr rfl, .inr rfl, .inr rfl, .inl rfl, .inl rfl, trivial⟩ (fun _ => ⟨.inl rfl, .inl rfl, .inl rfl, .inl rfl, .inl rfl, .inl rfl, .inl rfl, trivial⟩) (fun _ _ => ⟨.inl rfl, .inl rfl, .inl rfl, .inl rfl, .inl rfl, .inl rfl, .inl rfl, trivial⟩) (fun (s10 : (List Int)) (w11 : Str) => (rb_if1 (rt_w (rw_or (rt_not (rt_val (re_isi (T := "str") (r := true) (ρ := rS) (re_var (ρ := rS) (x := w11) 5 rfl (pv 5)) (kit_ty (by first | rfl | decide +kernel)) T.z_isinstance (pe_bltn (v := .ty "str") (by rfl) T.z_str (by decide +kernel) rfl)))) (rw_or1 (rt_rc (rc_ninS (re_var (ρ := rS) (x := w11) 5 rfl (pv 5)) (rsq_L (re_var (ρ := (rL rS)) (x := names_) 1 rfl (pv 1)))))))) (rb_ret (fun (r17 : Bool) => (Lp.ret r17)) re_bl (fun _ => rfl)) (rb_set (ps_set (i := 6) scLringgood.nd rfl (.inl rfl) peE) (re_index (ρ := rS) hr.u65 (hb := (re_var (ρ := (rL rS)) (x := names_) 1 rfl (pv 1))) (ha := (re_var (ρ := rS) (x := w11) 5 rfl (pv 5)))) rfl fun (at_21 : Int) => (rb_if1 (rt_w (rw_or (rt_rc (rc_inI (re_var (ρ := rI) (x := at_21) 6 rfl (pv 6)) (rsq_O rfl (pv 4)))) (rw_or1 (rt_rc (rc_ninI (re_var (ρ := rI) (x := at_21) 6 rfl (pv 6)) (rsq_L (re_var (ρ := (rL rI)) (x := reached_) 3 rfl (pv 3)))))))) (rb_ret (fun (r28 : Bool) => (Lp.ret r28)) re_bl (fun _ => rfl)) (rb_if1 (rt_w (rw_and (rt_bor (j := 4) rfl trivial (rt_rc (rc_neE (ρ := (rL rI)) hr.units (ha := (re_var (ρ := (rL rI)) (x := s10) 4 rfl (pv 4))) (hb := (re_frz (re_lst0 (ρ := rI)) frz_L))))) (rw_and1 (rt_rc (rc_ninI (re_var (ρ := rI) (x := at_21) 6 rfl (pv 6)) (rsq_L (re_ixL (re_var (ρ := (rL (rL rI))) (x := followers_) 2 rfl (pv 2)) (re_ixO rfl (pv 4) (re_neg re_int))))))))) (rb_ret (fun (r41 : Bool) => (Lp.ret r41)) re_bl (fun _ => rfl)) (rb_app (ps_expr (pe_bm PySem.F.plainAttrs_list PySem.F.slot_list_append PySem.F.type_list_append mt_append (pv 4) (pa_cons peE pa_nil))) rfl (re_var (ρ := rI) (x := at_21) 6 rfl (pv 6)) rfl fun x42 => (rb_nil (x := (Lp.go ((s10 ++ [x42])))) (.inr rfl) ⟨.inr rfl, .inr rfl, .inr rfl, .inr rfl, .inr rfl, .inl rfl, .inl rfl, trivial⟩))))))) (fun _ => rfl) (fun _ => ⟨_, rfl⟩) fun (s43 : (List Int)) => (rb_frz (i := 4) (p := rL rI s43) rfl (frz_L _ _) rfl (rb_ret (fun (r44 : Bool) => r44) (re_rc (rc_inI (re_ixL (re_var (ρ := (rL rI)) (x := s43) 4 rfl (pv 4)) re_int) (rsq_L (re_ixL (re_var (ρ := (rL (rL rI))) (x := followers_) 2 rfl (pv 2)) (re_ixL (re_var (ρ := (rL rI)) (x := s43) 4 rfl (pv 4)) (re_neg re_int)))))) (fun _ => rfl))))))

theorem scLsweep : FnScope ["_law_followers", "_law_gains", "_law_worths", "_law_fresh", "_law_k", "_law_other"] ["_law_followers", "_law_gains", "_law_worths"] (defScope sLsweep) := ⟨rfl, rfl, rfl, by decide +kernel, rfl, by decide +kernel, by decide +kernel⟩
def P_Lsweep (followers_ : (List (List Int))) (gains_ : (List Int)) (worths_ : (List Int)) : Mo (List Int) :=
  ((pure []) >>= fun fresh_1 => ((((pure gains_) >>= fun x3 => pure (x3.length : Int)) >>= fun i4 => Mo.rq (-(2 ^ 62) ≤ i4 ∧ i4 < 2 ^ 62) (rangeL 0 i4.toNat)) >>= fun xs => Mo.fold (fun s6 w7 => (((pure (0 : Int)) >>= fun i18 => (((pure gains_) >>= fun x8 => (pure w7) >>= fun i9 => Mo.get (atI x8 i9)) >>= fun i16 => ((((pure followers_) >>= fun x10 => (pure w7) >>= fun i11 => Mo.get (atI x10 i11)) >>= Mo.lc (fun w12 => (pure true)) (fun w12 => ((pure worths_) >>= fun x13 => (pure w12) >>= fun i14 => Mo.get (atI x13 i14)))) >>= fun x15 => Mo.rq (0 < x15.length) () >>= fun _ => Mo.any (fun i : Int => i ∈ x15 ∧ ∀ y ∈ x15, y ≤ i)) >>= fun j17 => pure (i16 + j17)) >>= fun j19 => pure (max i18 j19)) >>= fun x20 => Mo.rq (s6.length < sizeLine) x20 >>= fun x20 => (pure ((s6 ++ [x20]))))) xs (fresh_1) >>= fun s21 => (pure s21)))
theorem fn_Lsweep (T : Tx K mg) : FnOk P w K mg base (L2.CX P w) 2 T.f_law_sweep T.d_law_sweep ["_law_followers", "_law_gains", "_law_worths"] (spR K mg (fun (c : Unit) (z : (List (List Int)) × (List Int) × (List Int) × Unit) => [.fz ((rL (rL rI)) z.1), .fz ((rL rI) z.2.1), .fz ((rL rI) z.2.2.1)]) (fun z => P_Lsweep z.1 z.2.1 z.2.2.1) (RK.ow (oL rI))) := by
  refine fn_mk (Γe := fun c z => [.un, .un, .un, .un, .un, .un]) (Γ0 := fun c z => [.fz ((rL (rL rI)) z.1), .fz ((rL rI) z.2.1), .fz ((rL rI) z.2.2.1), .un, .un, .un]) (Z := (fun _ _ x => .ret ((RK.ow (oL rI)).ok x))) T.F_law_sweep scLsweep (fun _ _ => rfl) (fun _ _ => rfl) (fun _ _ => ⟨.inl rfl, .inl rfl, .inl rfl, .inl rfl, .inl rfl, .inl rfl, trivial⟩) (fun _ _ _ _ _ _ h => (own_none rfl h).elim) (fun _ _ _ => .inl rfl) (fun cdv A outer s H E a0 y hr => ?_)
  obtain ⟨followers_, gains_, worths_, _⟩ := y
  show RB _ _ ([.un, .un, .un, .un, .un, .un] : RF.Ctx) false [.fz ((rL (rL rI)) followers_), .fz ((rL rI) gains_), .fz ((rL rI) worths_), .un, .un, .un] _ (P_Lsweep followers_ gains_ worths_) _
  exact (rb_setO (ps_set (i := 3) scLsweep.nd rfl (.inl rfl) peE) (re_lst0 (ρ := rI)) rfl fun (fresh_1 : (List Int)) a2 => (rb_forF (s0 := (fresh_1)) (vs := [4]) (fun (s6 : (List Int)) => [.fz ((rL (rL rI)) followers_), .fz ((rL rI) gains_), .fz ((rL rI) worths_), .ow true a2 (oL rI s6), .un, .un]) (fun (x : Int) Γ => Γ.set 4 (.fz (rI x))) (ps_for (passes_of rfl) rfl (pi_range1 (by rfl) T.z_range (pa_cons peE pa_nil)) (pg_name (i := 4) scLsweep.nd rfl (.inl rfl)) pssS) (ri_range1 (re_len (rsq_L (re_var (ρ := (rL rI)) (x := gains_) 1 rfl (pv 1))) T.z_len)) (fun _ => rg_name) ⟨.inr rfl, .inr rfl, .inr rfl, .inr rfl, .inl rfl, .inl rfl, trivial⟩ (fun _ => ⟨.inl rfl, .inl rfl, .inl rfl, .inl rfl, .inl rfl, .inl rfl, trivial⟩) (fun _ _ => ⟨.inl rfl, .inl rfl, .inl rfl, .inl rfl, .inl rfl, .inl rfl, trivial⟩) (fun (s6 : (List Int)) (w7 : Int) => (rb_app (ps_expr (pe_bm PySem.F.plainAttrs_list PySem.F.slot_list_append PySem.F.type_list_append mt_append (pv 3) (pa_cons peE pa_nil))) rfl (re_max2 re_int (re_add (re_ixL (re_var (ρ := (rL rI)) (x := gains_) 1 rfl (pv 1)) (re_var (ρ := rI) (x := w7) 4 rfl (pv 4))) (re_maxL (rsq_F (re_of (pe_lc (own := [("_law_other", 5)]) (g := gName 5) rfl scLsweep.nd (pi_list peE) (blkOk_by (own := [("_law_other", 5)]) (N := ["_law_followers", "_law_gains", "_law_worths", "_law_fresh", "_law_k", "_law_other"]) (sc := defScope sLsweep) (by decide +kernel)) (fun _ _ _ _ _ => pg_name (i := 5) scLsweep.nd rfl (.inl rfl)) ptPi peEi) (rte_lc (vs := [5]) (fun (x : Int) Γ => Γ.set 5 (.fz (rI x))) (ri_list (re_ixL (re_var (ρ := (rL (rL rI))) (x := followers_) 0 rfl (pv 0)) (re_var (ρ := rI) (x := w7) 4 rfl (pv 4)))) (fun _ => rg_name) (fun _ => rgo_name) (un1 rfl) (fun (w12 : Int) => rti_nil) (fun (w12 : Int) _ _ _ _ _ => (re_ixL (re_var (ρ := (rL rI)) (x := worths_) 2 rfl (pv 2)) (re_var (ρ := rI) (x := w12) 5 rfl (pv 5))))))) T.z_max)) T.z_max) rfl fun x20 => (rb_nil (x := ((s6 ++ [x20]))) (.inr rfl) ⟨.inr rfl, .inr rfl, .inr rfl, .inr rfl, .inl rfl, .inl rfl, trivial⟩))) fun (s21 : (List Int)) => (rb_retO (y := s21) (z := s21) (k := oL rI) rfl (pv 3) rfl rfl)))

theorem scLshown : FnScope ["_law_worths", "_law_reached", "_law_found", "_law_k"] ["_law_worths", "_law_reached"] (defScope sLshown) := ⟨rfl, rfl, rfl, by decide +kernel, rfl, by decide +kernel, by decide +kernel⟩
def P_Lshown (worths_ : (List Int)) (reached_ : (List Int)) : Mo (List (Option Int)) :=
  ((pure []) >>= fun found_1 => ((((pure worths_) >>= fun x3 => pure (x3.length : Int)) >>= fun i4 => Mo.rq (-(2 ^ 62) ≤ i4 ∧ i4 < 2 ^ 62) (rangeL 0 i4.toNat)) >>= fun xs => Mo.fold (fun s6 w7 => (((pure w7) >>= fun x8 => (pure reached_) >>= fun y9 => pure (decide (x8 ∈ y9))) >>= fun c10 => if c10 = true then (((fun x => some ((fun x => x) x)) <$> ((pure worths_) >>= fun x11 => (pure w7) >>= fun i12 => Mo.get (atI x11 i12))) >>= fun x13 => Mo.rq (s6.length < sizeLine) x13 >>= fun x13 => (pure ((s6 ++ [x13])))) else (((fun _ => none) <$> (pure ())) >>= fun x14 => Mo.rq (s6.length < sizeLine) x14 >>= fun x14 => (pure ((s6 ++ [x14])))))) xs (found_1) >>= fun s15 => (pure s15)))
theorem fn_Lshown (T : Tx K mg) : FnOk P w K mg base (L2.CX P w) 2 T.f_law_shown T.d_law_shown ["_law_worths", "_law_reached"] (spR K mg (fun (c : Unit) (z : (List Int) × (List Int) × Unit) => [.fz ((rL rI) z.1), .fz ((rL rI) z.2.1)]) (fun z => P_Lshown z.1 z.2.1) (RK.ow (oL (rO rI)))) := by
  refine fn_mk (Γe := fun c z => [.un, .un, .un, .un]) (Γ0 := fun c z => [.fz ((rL rI) z.1), .fz ((rL rI) z.2.1), .un, .un]) (Z := (fun _ _ x => .ret ((RK.ow (oL (rO rI))).ok x))) T.F_law_shown scLshown (fun _ _ => rfl) (fun _ _ => rfl) (fun _ _ => ⟨.inl rfl, .inl rfl, .inl rfl, .inl rfl, trivial⟩) (fun _ _ _ _ _ _ h => (own_none rfl h).elim) (fun _ _ _ => .inl rfl) (fun cdv A outer s H E a0 y hr => ?_)
  obtain ⟨worths_, reached_, _⟩ := y
  show RB _ _ ([.un, .un, .un, .un] : RF.Ctx) false [.fz ((rL rI) worths_), .fz ((rL rI) reached_), .un, .un] _ (P_Lshown worths_ reached_) _
  exact (rb_setO (ps_set (i := 2) scLshown.nd rfl (.inl rfl) peE) (re_lst0 (ρ := (rO rI))) rfl fun (found_1 : (List (Option Int))) a2 => (rb_forF (s0 := (found_1)) (vs := [3]) (fun (s6 : (List (Option Int))) => [.fz ((rL rI) worths_), .fz ((rL rI) reached_), .ow true a2 (oL (rO rI) s6), .un]) (fun (x : Int) Γ => Γ.set 3 (.fz (rI x))) (ps_for (passes_of rfl) rfl (pi_range1 (by rfl) T.z_range (pa_cons peE pa_nil)) (pg_name (i := 3) scLshown.nd rfl (.inl rfl)) pssS) (ri_range1 (re_len (rsq_L (re_var (ρ := (rL rI)) (x := worths_) 0 rfl (pv 0))) T.z_len)) (fun _ => rg_name) ⟨.inr rfl, .inr rfl, .inr rfl, .inl rfl, trivial⟩ (fun _ => ⟨.inl rfl, .inl rfl, .inl rfl, .inl rfl, trivial⟩) (fun _ _ => ⟨.inl rfl, .inl rfl, .inl rfl, .inl rfl, trivial⟩) (fun (s6 : (List (Option Int))) (w7 : Int) => (rb_if0 (rt_rc (rc_inI (re_var (ρ := rI) (x := w7) 3 rfl (pv 3)) (rsq_L (re_var (ρ := (rL rI)) (x := reached_) 1 rfl (pv 1))))) (rb_app (ps_expr (pe_bm PySem.F.plainAttrs_list PySem.F.slot_list_append PySem.F.type_list_append mt_append (pv 2) (pa_cons peE pa_nil))) rfl (re_coe (ρ' := (rO rI)) (f := (fun x => some ((fun x => x) x))) (co_some co_id) (re_ixL (re_var (ρ := (rL rI)) (x := worths_) 0 rfl (pv 0)) (re_var (ρ := rI) (x := w7) 3 rfl (pv 3)))) rfl fun x13 => (rb_nil (x := ((s6 ++ [x13]))) (.inr rfl) ⟨.inr rfl, .inr rfl, .inr rfl, .inl rfl, trivial⟩)) (rb_app (ps_expr (pe_bm PySem.F.plainAttrs_list PySem.F.slot_list_append PySem.F.type_list_append mt_append (pv 2) (pa_cons peE pa_nil))) rfl (re_coe (ρ' := (rO rI)) (f := (fun _ => none)) co_none re_non) rfl fun x14 => (rb_nil (x := ((s6 ++ [x14]))) (.inr rfl) ⟨.inr rfl, .inr rfl, .inr rfl, .inl rfl, trivial⟩)))) fun (s15 : (List (Option Int))) => (rb_retO (y := s15) (z := s15) (k := oL (rO rI)) rfl (pv 2) rfl rfl)))

theorem scLheavygood : FnScope ["_law_heavy", "_law_names", "_law_followers", "_law_reached", "_law_weights", "_law_mean", "_law_ring", "_law_gains", "_law_worths", "_law_step", "_law_weight", "_law_name"] ["_law_heavy", "_law_names", "_law_followers", "_law_reached", "_law_weights"] (defScope sLheavygood) := ⟨rfl, rfl, rfl, by decide +kernel, rfl, by decide +kernel, by decide +kernel⟩
def P_Lheavygood (heavy_ : OHeavy) (names_ : (List Str)) (followers_ : (List (List Int))) (reached_ : (List Int)) (weights_ : (List Int)) : Mo Bool :=
  (((pure heavy_) >>= fun x1 => pure (x1.1)) >>= fun mean_2 => (((pure heavy_) >>= fun x3 => pure (x3.2.1)) >>= fun ring_4 => ((((((pure mean_2) >>= fun x6 => (pure ()) >>= fun y7 => pure (x6, y7)) >>= fun y5 => P_Lmeangood y5.1) >>= fun b8 => pure (!b8)) >>= fun b19 => if b19 then pure true else ((((pure ring_4) >>= fun x16 => ((pure names_) >>= fun x14 => ((pure followers_) >>= fun x12 => ((pure reached_) >>= fun x10 => (pure ()) >>= fun y11 => pure (x10, y11)) >>= fun y13 => pure (x12, y13)) >>= fun y15 => pure (x14, y15)) >>= fun y17 => pure (x16, y17)) >>= fun y9 => P_Lringgood y9.1 y9.2.1 y9.2.2.1 y9.2.2.2.1) >>= fun b18 => pure (!b18))) >>= fun c20 => if c20 = true then ((pure false) >>= fun r21 => pure r21) else ((((((pure ring_4) >>= Mo.lc (fun w22 => (pure true)) (fun w22 => ((pure weights_) >>= fun x26 => ((pure names_) >>= fun y23 => (pure w22) >>= fun x24 => Mo.rq (Eqk rS x24 ∧ Eqks rS y23) () >>= fun _ => Mo.get (List.idxOf? x24 y23) >>= fun j25 => pure (j25 : Int)) >>= fun i27 => Mo.get (atI x26 i27)))) >>= fun x28 => pure x28.sum) >>= fun i30 => ((pure mean_2) >>= fun x29 => pure x29.2) >>= fun j31 => Mo.rq (CMul i30 j31) (i30 * j31)) >>= fun i36 => (((pure mean_2) >>= fun x32 => pure x32.1) >>= fun i34 => ((pure ring_4) >>= fun x33 => pure (x33.length : Int)) >>= fun j35 => Mo.rq (CMul i34 j35) (i34 * j35)) >>= fun j37 => pure (decide (i36 ≠ j37))) >>= fun c38 => if c38 = true then ((pure false) >>= fun r39 => pure r39) else (((pure weights_) >>= Mo.lc (fun w40 => (pure true)) (fun w40 => ((((pure mean_2) >>= fun x41 => pure x41.2) >>= fun i42 => (pure w40) >>= fun j43 => Mo.rq (CMul i42 j43) (i42 * j43)) >>= fun i45 => ((pure mean_2) >>= fun x44 => pure x44.1) >>= fun j46 => pure (i45 - j46)))) >>= fun gains_47 => (((((pure (0 : Int)) >>= fun x48 => (pure ()) >>= fun y49 => pure (x48, y49)) >>= fun y50 => pure [y50.1]) >>= fun x52 => ((pure weights_) >>= fun x51 => pure (x51.length : Int)) >>= fun n53 => Mo.rq (-(2 ^ 63) ≤ n53 ∧ n53 < 2 ^ 63 ∧ x52.length * n53.toNat ≤ sizeLine) (List.replicate n53.toNat x52).flatten) >>= fun worths_54 => (((pure (4 : Int)) >>= fun i55 => Mo.rq (-(2 ^ 62) ≤ i55 ∧ i55 < 2 ^ 62) (rangeL 0 i55.toNat)) >>= fun xs => Mo.fold (fun s57 w58 => ((((pure followers_) >>= fun x64 => ((pure gains_47) >>= fun x62 => ((pure s57) >>= fun x60 => (pure ()) >>= fun y61 => pure (x60, y61)) >>= fun y63 => pure (x62, y63)) >>= fun y65 => pure (x64, y65)) >>= fun y59 => P_Lsweep y59.1 y59.2.1 y59.2.2.1) >>= fun worths_66 => (pure (worths_66)))) xs (worths_54) >>= fun s67 => (((((((pure followers_) >>= fun x76 => ((pure gains_47) >>= fun x74 => ((pure s67) >>= fun x72 => (pure ()) >>= fun y73 => pure (x72, y73)) >>= fun y75 => pure (x74, y75)) >>= fun y77 => pure (x76, y77)) >>= fun y71 => P_Lsweep y71.1 y71.2.1 y71.2.2.1) >>= fun x80 => ((pure reached_) >>= fun x78 => (pure ()) >>= fun y79 => pure (x78, y79)) >>= fun y81 => pure (x80, y81)) >>= fun y70 => P_Lshown y70.1 y70.2.1) >>= fun x68 => (((pure s67) >>= fun x85 => ((pure reached_) >>= fun x83 => (pure ()) >>= fun y84 => pure (x83, y84)) >>= fun y86 => pure (x85, y86)) >>= fun y82 => P_Lshown y82.1 y82.2.1) >>= fun y69 => Mo.rq (Eqk (rL (rO rI)) x68 ∧ Eqk (rL (rO rI)) y69) (!decide (x68 = y69))) >>= fun c87 => if c87 = true then ((pure false) >>= fun r88 => pure r88) else ((((((pure heavy_) >>= fun x90 => pure (x90.2.2)) >>= fun v91 => Mo.rq (Enc.ok (rL (rO rI)) v91) (Enc.d (rL (rO rI)) v91)) >>= fun x101 => (((((pure s67) >>= fun x95 => ((pure reached_) >>= fun x93 => (pure ()) >>= fun y94 => pure (x93, y94)) >>= fun y96 => pure (x95, y96)) >>= fun y92 => P_Lshown y92.1 y92.2.1) >>= fun v97 => Mo.rq (Enc.ok (rL (rO rI)) v97) (Enc.d (rL (rO rI)) v97)) >>= fun x99 => (pure ()) >>= fun y100 => pure (x99, y100)) >>= fun y102 => pure (x101, y102)) >>= fun y98 => Mo.rq (y98.1 = y98.2.1) true) >>= fun r89 => pure r89)))))))))
theorem fn_Lheavygood (T : Tx K mg) : FnOk P w K mg base (L2.CX P w) 9 T.f_law_heavy_good T.d_law_heavy_good ["_law_heavy", "_law_names", "_law_followers", "_law_reached", "_law_weights"] (spR K mg (fun (c : Unit) (z : OHeavy × (List Str) × (List (List Int)) × (List Int) × (List Int) × Unit) => [.fz ((rHeavy T.C_Heavy) z.1), .fz ((rL rS) z.2.1), .fz ((rL (rL rI)) z.2.2.1), .fz ((rL rI) z.2.2.2.1), .fz ((rL rI) z.2.2.2.2.1)]) (fun z => P_Lheavygood z.1 z.2.1 z.2.2.1 z.2.2.2.1 z.2.2.2.2.1) (RK.fz rB)) := by
  have G_law_mean_good := fn_Lmeangood (P := P) (w := w) (base := base) T
  have G_law_ring_good := fn_Lringgood (P := P) (w := w) (base := base) T
  have G_law_same := fn_same (P := P) (w := w) (base := base) T
  have G_law_shown := fn_Lshown (P := P) (w := w) (base := base) T
  have G_law_sweep := fn_Lsweep (P := P) (w := w) (base := base) T
  refine fn_mk (Γe := fun c z => [.un, .un, .un, .un, .un, .un, .un, .un, .un, .un, .un, .un]) (Γ0 := fun c z => [.fz ((rHeavy T.C_Heavy) z.1), .fz ((rL rS) z.2.1), .fz ((rL (rL rI)) z.2.2.1), .fz ((rL rI) z.2.2.2.1), .fz ((rL rI) z.2.2.2.2.1), .un, .un, .un, .un, .un, .un, .un]) (Z := (fun _ _ x => .ret ((RK.fz rB).ok x))) T.F_law_heavy_good scLheavygood (fun _ _ => rfl) (fun _ _ => rfl) (fun _ _ => ⟨.inl rfl, .inl rfl, .inl rfl, .inl rfl, .inl rfl, .inl rfl, .inl rfl, .inl rfl, .inl rfl, .inl rfl, .inl rfl, .inl rfl, trivial⟩) (fun _ _ _ _ _ _ h => (own_none rfl h).elim) (fun _ _ _ => .inl rfl) (fun cdv A outer s H E a0 y hr => ?_)
  obtain ⟨heavy_, names_, followers_, reached_, weights_, _⟩ := y
  show RB _ _ ([.un, .un, .un, .un, .un, .un, .un, .un, .un, .un, .un, .un] : RF.Ctx) false [.fz ((rHeavy T.C_Heavy) heavy_), .fz ((rL rS) names_), .fz ((rL (rL rI)) followers_), .fz ((rL rI) reached_), .fz ((rL rI) weights_), .un, .un, .un, .un, .un, .un, .un] _ (P_Lheavygood heavy_ names_ followers_ reached_ weights_) _
  exact (rb_set (ps_set (i := 5) scLheavygood.nd rfl (.inr rfl) peE) (re_fld (ρ' := (rT2 rI rI)) (g := fun (x : OHeavy) => x.1) (fsHeavy) (re_var (ρ := (rHeavy T.C_Heavy)) (x := heavy_) 0 rfl (pv 0)) T.cl_Heavy T.na_Heavy_mean) rfl fun (mean_2 : (Int × Int)) => (rb_set (ps_set (i := 6) scLheavygood.nd rfl (.inl rfl) peE) (re_fld (ρ' := (rL rS)) (g := fun (x : OHeavy) => x.2.1) (fsHeavy) (re_var (ρ := (rHeavy T.C_Heavy)) (x := heavy_) 0 rfl (pv 0)) T.cl_Heavy T.na_Heavy_ring) rfl fun (ring_4 : (List Str)) => (rb_if1 (rt_w (rw_or (rt_not (rt_val (re_call () G_law_mean_good (hr.mono (by decide)) (takes_of rfl rfl rfl rfl) (ra_cons (re_var (ρ := (rT2 rI rI)) (x := mean_2) 5 rfl (pv 5)) ra_nil) T.g_law_mean_good T.F_law_mean_good.kp T.b_law_mean_good))) (rw_or1 (rt_not (rt_val (re_call () G_law_ring_good (hr.mono (by decide)) (takes_of rfl rfl rfl rfl) (ra_cons (re_var (ρ := (rL rS)) (x := ring_4) 6 rfl (pv 6)) (ra_cons (re_var (ρ := (rL rS)) (x := names_) 1 rfl (pv 1)) (ra_cons (re_var (ρ := (rL (rL rI))) (x := followers_) 2 rfl (pv 2)) (ra_cons (re_var (ρ := (rL rI)) (x := reached_) 3 rfl (pv 3)) ra_nil)))) T.g_law_ring_good T.F_law_ring_good.kp T.b_law_ring_good)))))) (rb_ret (fun (r21 : Bool) => r21) re_bl (fun _ => rfl)) (rb_if1 (rt_rc (rc_i i_ne (re_mul (re_sum (rsq_F (re_of (pe_lc (own := [("_law_name", 11)]) (g := gName 11) rfl scLheavygood.nd (pi_list peE) (blkOk_by (own := [("_law_name", 11)]) (N := ["_law_heavy", "_law_names", "_law_followers", "_law_reached", "_law_weights", "_law_mean", "_law_ring", "_law_gains", "_law_worths", "_law_step", "_law_weight", "_law_name"]) (sc := defScope sLheavygood) (by decide +kernel)) (fun _ _ _ _ _ => pg_name (i := 11) scLheavygood.nd rfl (.inl rfl)) ptPi peEi) (rte_lc (vs := [11]) (fun (x : Str) Γ => Γ.set 11 (.fz (rS x))) (ri_list (re_var (ρ := (rL rS)) (x := ring_4) 6 rfl (pv 6))) (fun _ => rg_name) (fun _ => rgo_name) (un1 rfl) (fun (w22 : Str) => rti_nil) (fun (w22 : Str) _ _ _ _ _ => (re_ixL (re_var (ρ := (rL rI)) (x := weights_) 4 rfl (pv 4)) (re_index (ρ := rS) hr.u65 (hb := (re_var (ρ := (rL rS)) (x := names_) 1 rfl (pv 1))) (ha := (re_var (ρ := rS) (x := w22) 11 rfl (pv 11))))))))) T.z_sum) (re_at (ρ := rI) (g := fun (x : (Int × Int)) => x.2) (fun (x : (Int × Int)) => [rI x.1, rI x.2]) (1) (re_var (ρ := (rT2 rI rI)) (x := mean_2) 5 rfl (pv 5)) (hc := re_int))) (re_mul (re_at (ρ := rI) (g := fun (x : (Int × Int)) => x.1) (fun (x : (Int × Int)) => [rI x.1, rI x.2]) (0) (re_var (ρ := (rT2 rI rI)) (x := mean_2) 5 rfl (pv 5)) (hc := re_int)) (re_len (rsq_L (re_var (ρ := (rL rS)) (x := ring_4) 6 rfl (pv 6))) T.z_len)))) (rb_ret (fun (r39 : Bool) => r39) re_bl (fun _ => rfl)) (rb_set (ps_setLc (i := 7) (own := [("_law_weight", 10)]) (g := gName 10) rfl scLheavygood.nd rfl rfl (sw_true rfl rfl rfl (by decide +kernel)) (pi_list peE) (blkOk_by (own := [("_law_weight", 10)]) (N := ["_law_heavy", "_law_names", "_law_followers", "_law_reached", "_law_weights", "_law_mean", "_law_ring", "_law_gains", "_law_worths", "_law_step", "_law_weight", "_law_name"]) (sc := defScope sLheavygood) (by decide +kernel)) (fun _ _ _ _ _ => pg_name (i := 10) scLheavygood.nd rfl (.inl rfl)) ptPi peEi) (rte_frz (rte_lc (vs := [10]) (fun (x : Int) Γ => Γ.set 10 (.fz (rI x))) (ri_list (re_var (ρ := (rL rI)) (x := weights_) 4 rfl (pv 4))) (fun _ => rg_name) (fun _ => rgo_name) (un1 rfl) (fun (w40 : Int) => rti_nil) (fun (w40 : Int) _ _ _ _ _ => (re_sub (re_mul (re_at (ρ := rI) (g := fun (x : (Int × Int)) => x.2) (fun (x : (Int × Int)) => [rI x.1, rI x.2]) (1) (re_var (ρ := (rT2 rI rI)) (x := mean_2) 5 rfl (pv 5)) (hc := re_int)) (re_var (ρ := rI) (x := w40) 10 rfl (pv 10))) (re_at (ρ := rI) (g := fun (x : (Int × Int)) => x.1) (fun (x : (Int × Int)) => [rI x.1, rI x.2]) (0) (re_var (ρ := (rT2 rI rI)) (x := mean_2) 5 rfl (pv 5)) (hc := re_int))))) frz_L) rfl fun (gains_47 : (List Int)) => (rb_set (ps_set (i := 8) scLheavygood.nd rfl (.inl rfl) peE) (re_frz (re_rep (re_frz (re_lst (fun (y50 : Int × Unit) => [y50.1]) rI (ra_cons re_int ra_nil)) frz_L) (re_len (rsq_L (re_var (ρ := (rL rI)) (x := weights_) 4 rfl (pv 4))) T.z_len)) frz_L) rfl fun (worths_54 : (List Int)) => (rb_forF (s0 := (worths_54)) (vs := [9]) (fun (s57 : (List Int)) => [.fz ((rHeavy T.C_Heavy) heavy_), .fz ((rL rS) names_), .fz ((rL (rL rI)) followers_), .fz ((rL rI) reached_), .fz ((rL rI) weights_), .fz ((rT2 rI rI) mean_2), .fz ((rL rS) ring_4), .fz ((rL rI) gains_47), .fz ((rL rI) s57), .un, .un, .un]) (fun (x : Int) Γ => Γ.set 9 (.fz (rI x))) (ps_for (passes_of rfl) rfl (pi_range1 (by rfl) T.z_range (pa_cons peE pa_nil)) (pg_name (i := 9) scLheavygood.nd rfl (.inl rfl)) pssS) (ri_range1 re_int) (fun _ => rg_name) ⟨.inr rfl, .inr rfl, .inr rfl, .inr rfl, .inr rfl, .inr rfl, .inr rfl, .inr rfl, .inr rfl, .inl rfl, .inl rfl, .inl rfl, trivial⟩ (fun _ => ⟨.inl rfl, .inl rfl, .inl rfl, .inl rfl, .inl rfl, .inl rfl, .inl rfl, .inl rfl, .inl rfl, .inl rfl, .inl rfl, .inl rfl, trivial⟩) (fun _ _ => ⟨.inl rfl, .inl rfl, .inl rfl, .inl rfl, .inl rfl, .inl rfl, .inl rfl, .inl rfl, .inl rfl, .inl rfl, .inl rfl, .inl rfl, trivial⟩) (fun (s57 : (List Int)) (w58 : Int) => (rb_set (ps_set (i := 8) scLheavygood.nd rfl (.inl rfl) peE) (re_frz (re_call () G_law_sweep (hr.mono (by decide)) (takes_of rfl rfl rfl rfl) (ra_cons (re_var (ρ := (rL (rL rI))) (x := followers_) 2 rfl (pv 2)) (ra_cons (re_var (ρ := (rL rI)) (x := gains_47) 7 rfl (pv 7)) (ra_cons (re_var (ρ := (rL rI)) (x := s57) 8 rfl (pv 8)) ra_nil))) T.g_law_sweep T.F_law_sweep.kp T.b_law_sweep) frz_L) rfl fun (worths_66 : (List Int)) => (rb_nil (x := (worths_66)) (.inr rfl) ⟨.inr rfl, .inr rfl, .inr rfl, .inr rfl, .inr rfl, .inr rfl, .inr rfl, .inr rfl, .inr rfl, .inl rfl, .inl rfl, .inl rfl, trivial⟩))) fun (s67 : (List Int)) => (rb_if1 (rt_rc (rc_neE (ρ := (rL (rO rI))) hr.units (ha := (re_frz (re_call () G_law_shown (hr.mono (by decide)) (takes_of rfl rfl rfl rfl) (ra_cons (re_frz (re_call () G_law_sweep (hr.mono (by decide)) (takes_of rfl rfl rfl rfl) (ra_cons (re_var (ρ := (rL (rL rI))) (x := followers_) 2 rfl (pv 2)) (ra_cons (re_var (ρ := (rL rI)) (x := gains_47) 7 rfl (pv 7)) (ra_cons (re_var (ρ := (rL rI)) (x := s67) 8 rfl (pv 8)) ra_nil))) T.g_law_sweep T.F_law_sweep.kp T.b_law_sweep) frz_L) (ra_cons (re_var (ρ := (rL rI)) (x := reached_) 3 rfl (pv 3)) ra_nil)) T.g_law_shown T.F_law_shown.kp T.b_law_shown) frz_L)) (hb := (re_frz (re_call () G_law_shown (hr.mono (by decide)) (takes_of rfl rfl rfl rfl) (ra_cons (re_var (ρ := (rL rI)) (x := s67) 8 rfl (pv 8)) (ra_cons (re_var (ρ := (rL rI)) (x := reached_) 3 rfl (pv 3)) ra_nil)) T.g_law_shown T.F_law_shown.kp T.b_law_shown) frz_L)))) (rb_ret (fun (r88 : Bool) => r88) re_bl (fun _ => rfl)) (rb_ret (fun (r89 : Bool) => r89) (re_call () G_law_same (hr.mono (by decide)) (takes_of rfl rfl rfl rfl) (ra_cons (re_enc (ρ := (rL (rO rI))) (re_fld (ρ' := (rL (rO rI))) (g := fun (x : OHeavy) => x.2.2) (fsHeavy) (re_var (ρ := (rHeavy T.C_Heavy)) (x := heavy_) 0 rfl (pv 0)) T.cl_Heavy T.na_Heavy_worths)) (ra_cons (re_enc (ρ := (rL (rO rI))) (re_frz (re_call () G_law_shown (hr.mono (by decide)) (takes_of rfl rfl rfl rfl) (ra_cons (re_var (ρ := (rL rI)) (x := s67) 8 rfl (pv 8)) (ra_cons (re_var (ρ := (rL rI)) (x := reached_) 3 rfl (pv 3)) ra_nil)) T.g_law_shown T.F_law_shown.kp T.b_law_shown) frz_L)) ra_nil)) T.g_law_same T.F_law_same.kp T.b_law_same) (fun _ => rfl))))))))))

theorem scLperm : FnScope ["_law_pool_here", "_law_many", "_law_left", "_law_perm_here", "_law_k", "_law_at"] ["_law_pool_here", "_law_many"] (defScope sLperm) := ⟨rfl, rfl, rfl, by decide +kernel, rfl, by decide +kernel, by decide +kernel⟩
def P_Lperm (many_ : Int) : Mo (List Int) :=
  (((pure many_) >>= fun i1 => Mo.rq (-(2 ^ 62) ≤ i1 ∧ i1 ≤ 2 ^ 24) (rangeL 0 i1.toNat)) >>= fun left_3 => ((pure []) >>= fun perm_4 => (((pure many_) >>= fun i6 => Mo.rq (-(2 ^ 62) ≤ i6 ∧ i6 < 2 ^ 62) (rangeL 0 i6.toNat)) >>= fun xs => Mo.fold (fun s8 w9 => (((((pure s8.2) >>= fun x10 => pure (x10.length : Int)) >>= fun x12 => (pure ()) >>= fun y13 => pure (x12, y13)) >>= fun y11 => Mo.take y11.1) >>= fun at_14 => (((pure s8.2) >>= fun x15 => (pure at_14) >>= fun i16 => Mo.get (atI x15 i16)) >>= fun x17 => Mo.rq (s8.1.length < sizeLine) x17 >>= fun x17 => ((((pure s8.2) >>= fun x19 => (pure none) >>= fun l20 => ((pure at_14) >>= fun i18 => pure (some i18)) >>= fun h21 => pure (cutL x19 l20 h21)) >>= fun x28 => ((pure s8.2) >>= fun x25 => (((pure at_14) >>= fun i22 => (pure (1 : Int)) >>= fun j23 => pure (i22 + j23)) >>= fun i24 => pure (some i24)) >>= fun l26 => (pure none) >>= fun h27 => pure (cutL x25 l26 h27)) >>= fun y29 => Mo.rq (x28.length + y29.length ≤ sizeLine) (x28 ++ y29)) >>= fun left_30 => (pure ((s8.1 ++ [x17]), left_30)))))) xs (perm_4, left_3) >>= fun s31 => (pure s31.1))))
theorem fn_Lperm (T : Tx K mg) : FnOk P w K mg base (L2.CX P w) 2 T.f_law_perm T.d_law_perm ["_law_pool_here", "_law_many"] (spR K mg (fun (c : Addr) (z : Int × Unit) => [.ow false c oPool, .fz (rI z.1)]) (fun z => P_Lperm z.1) (RK.ow (oL rI))) := by
  have G_law_take := fn_take (P := P) (w := w) (base := base) T
  refine fn_mk (Γe := fun c z => [.ow false c oPool, .un, .un, .un, .un, .un]) (Γ0 := fun c z => [.ow false c oPool, .fz (rI z.1), .un, .un, .un, .un]) (Z := (fun _ _ x => .ret ((RK.ow (oL rI)).ok x))) T.F_law_perm scLperm (fun _ _ => rfl) (fun _ _ => rfl) (fun _ _ => ⟨.inr rfl, .inl rfl, .inl rfl, .inl rfl, .inl rfl, .inl rfl, trivial⟩) (fun _ _ => own_first rfl) (fun _ _ _ => .inl rfl) (fun cdv A outer s H E a0 y hr => ?_)
  obtain ⟨many_, _⟩ := y
  show RB _ _ ([.ow false a0 oPool, .un, .un, .un, .un, .un] : RF.Ctx) false [.ow false a0 oPool, .fz (rI many_), .un, .un, .un, .un] _ (P_Lperm many_) _
  exact (rb_set (ps_set (i := 2) scLperm.nd rfl (.inl rfl) peE) (re_frz (re_lstRg1 (re_var (ρ := rI) (x := many_) 1 rfl (pv 1)) T.z_list T.z_range) frz_L) rfl fun (left_3 : (List Int)) => (rb_setO (ps_set (i := 3) scLperm.nd rfl (.inl rfl) peE) (re_lst0 (ρ := rI)) rfl fun (perm_4 : (List Int)) a5 => (rb_forF (s0 := (perm_4, left_3)) (vs := [4]) (fun (s8 : (List Int) × (List Int)) => [.ow false a0 oPool, .fz (rI many_), .fz ((rL rI) s8.2), .ow true a5 (oL rI s8.1), .un, .un]) (fun (x : Int) Γ => Γ.set 4 (.fz (rI x))) (ps_for (passes_of rfl) rfl (pi_range1 (by rfl) T.z_range (pa_cons peE pa_nil)) (pg_name (i := 4) scLperm.nd rfl (.inl rfl)) pssS) (ri_range1 (re_var (ρ := rI) (x := many_) 1 rfl (pv 1))) (fun _ => rg_name) ⟨.inr rfl, .inr rfl, .inr rfl, .inr rfl, .inl rfl, .inl rfl, trivial⟩ (fun _ => ⟨.inr rfl, .inl rfl, .inl rfl, .inl rfl, .inl rfl, .inl rfl, trivial⟩) (fun _ _ => ⟨.inr rfl, .inl rfl, .inl rfl, .inl rfl, .inl rfl, .inl rfl, trivial⟩) (fun (s8 : (List Int) × (List Int)) (w9 : Int) => (rb_set (ps_set (i := 5) scLperm.nd rfl (.inl rfl) peE) (re_call a0 G_law_take (hr.mono (by decide)) (takes_of rfl rfl rfl rfl) (ra_own (qo := oPool) rfl (pv 0) (ra_cons (re_len (rsq_L (re_var (ρ := (rL rI)) (x := s8.2) 2 rfl (pv 2))) T.z_len) ra_nil)) T.g_law_take T.F_law_take.kp T.b_law_take) rfl fun (at_14 : Int) => (rb_app (ps_expr (pe_bm PySem.F.plainAttrs_list PySem.F.slot_list_append PySem.F.type_list_append mt_append (pv 3) (pa_cons peE pa_nil))) rfl (re_ixL (re_var (ρ := (rL rI)) (x := s8.2) 2 rfl (pv 2)) (re_var (ρ := rI) (x := at_14) 5 rfl (pv 5))) rfl fun x17 => (rb_set (ps_set (i := 2) scLperm.nd rfl (.inl rfl) peE) (re_frz (re_cat (re_frz (re_slL (re_var (ρ := (rL rI)) (x := s8.2) 2 rfl (pv 2)) rp_none (rp_some (re_var (ρ := rI) (x := at_14) 5 rfl (pv 5)))) frz_L) (re_frz (re_slL (re_var (ρ := (rL rI)) (x := s8.2) 2 rfl (pv 2)) (rp_some (re_add (re_var (ρ := rI) (x := at_14) 5 rfl (pv 5)) re_int)) rp_none) frz_L)) frz_L) rfl fun (left_30 : (List Int)) => (rb_nil (x := ((s8.1 ++ [x17]), left_30)) (.inr rfl) ⟨.inr rfl, .inr rfl, .inr rfl, .inr rfl, .inl rfl, .inl rfl, trivial⟩))))) fun (s31 : (List Int) × (List Int)) => (rb_retO (y := s31.1) (z := s31.1) (k := oL rI) rfl (pv 3) rfl rfl))))
end
end DD
namespace DD
open PySem PySem.Spec PyProof.Rows L2 KO SX RF
section
variable {P : Program} {w : World} {K : PySem.W.Frag} {mg : Str → Option Value} {base : Heap}
theorem scLpageweights : FnScope ["_law_sheets_here", "_law_pairs", "_law_found", "_law_sheet", "_law_pair"] ["_law_sheets_here", "_law_pairs"] (defScope sLpageweights) := ⟨rfl, rfl, rfl, by decide +kernel, rfl, by decide +kernel, by decide +kernel⟩
def P_Lpageweights (sheets_here_ : (List (Str × (List Str) × (List Str)))) (pairs_ : (List (Str × Int))) : Mo (List Int) :=
  ((pure []) >>= fun found_1 => ((pure sheets_here_) >>= fun xs => Mo.fold (fun s3 w4 => ((((pure pairs_) >>= Mo.lc (fun w5 => (((pure w5) >>= fun x6 => pure x6.1) >>= fun x8 => ((pure w4) >>= fun x7 => pure x7.2.1) >>= fun y9 => pure (decide (x8 ∈ y9)))) (fun w5 => ((pure w5) >>= fun x10 => pure x10.2))) >>= fun x11 => pure x11.sum) >>= fun x12 => Mo.rq (s3.length < sizeLine) x12 >>= fun x12 => (pure ((s3 ++ [x12]))))) xs (found_1) >>= fun s13 => (pure s13)))
theorem fn_Lpageweights (T : Tx K mg) : FnOk P w K mg base (L2.CX P w) 2 T.f_law_page_weights T.d_law_page_weights ["_law_sheets_here", "_law_pairs"] (spR K mg (fun (c : Unit) (z : (List (Str × (List Str) × (List Str))) × (List (Str × Int)) × Unit) => [.fz ((rL (rT3 rS (rL rS) (rL rS))) z.1), .fz ((rL (rT2 rS rI)) z.2.1)]) (fun z => P_Lpageweights z.1 z.2.1) (RK.ow (oL rI))) := by
  refine fn_mk (Γe := fun c z => [.un, .un, .un, .un, .un]) (Γ0 := fun c z => [.fz ((rL (rT3 rS (rL rS) (rL rS))) z.1), .fz ((rL (rT2 rS rI)) z.2.1), .un, .un, .un]) (Z := (fun _ _ x => .ret ((RK.ow (oL rI)).ok x))) T.F_law_page_weights scLpageweights (fun _ _ => rfl) (fun _ _ => rfl) (fun _ _ => ⟨.inl rfl, .inl rfl, .inl rfl, .inl rfl, .inl rfl, trivial⟩) (fun _ _ _ _ _ _ h => (own_none rfl h).elim) (fun _ _ _ => .inl rfl) (fun cdv A outer s H E a0 y hr => ?_)
  obtain ⟨sheets_here_, pairs_, _⟩ := y
  show RB _ _ ([.un, .un, .un, .un, .un] : RF.Ctx) false [.fz ((rL (rT3 rS (rL rS) (rL rS))) sheets_here_), .fz ((rL (rT2 rS rI)) pairs_), .un, .un, .un] _ (P_Lpageweights sheets_here_ pairs_) _
  exact (rb_setO (ps_set (i := 2) scLpageweights.nd rfl (.inl rfl) peE) (re_lst0 (ρ := rI)) rfl fun (found_1 : (List Int)) a2 => (rb_forF (s0 := (found_1)) (vs := [3]) (fun (s3 : (List Int)) => [.fz ((rL (rT3 rS (rL rS) (rL rS))) sheets_here_), .fz ((rL (rT2 rS rI)) pairs_), .ow true a2 (oL rI s3), .un, .un]) (fun (x : (Str × (List Str) × (List Str))) Γ => Γ.set 3 (.fz ((rT3 rS (rL rS) (rL rS)) x))) (ps_for (passes_of rfl) rfl (pi_list peE) (pg_name (i := 3) scLpageweights.nd rfl (.inr rfl)) pssS) (ri_list (re_var (ρ := (rL (rT3 rS (rL rS) (rL rS)))) (x := sheets_here_) 0 rfl (pv 0))) (fun _ => rg_name) ⟨.inr rfl, .inr rfl, .inr rfl, .inl rfl, .inl rfl, trivial⟩ (fun _ => ⟨.inl rfl, .inl rfl, .inl rfl, .inl rfl, .inl rfl, trivial⟩) (fun _ _ => ⟨.inl rfl, .inl rfl, .inl rfl, .inl rfl, .inl rfl, trivial⟩) (fun (s3 : (List Int)) (w4 : (Str × (List Str) × (List Str))) => (rb_app (ps_expr (pe_bm PySem.F.plainAttrs_list PySem.F.slot_list_append PySem.F.type_list_append mt_append (pv 2) (pa_cons peE pa_nil))) rfl (re_sum (rsq_F (re_of (pe_lc (own := [("_law_pair", 4)]) (g := gName 4) rfl scLpageweights.nd (pi_list peE) (blkOk_by (own := [("_law_pair", 4)]) (N := ["_law_sheets_here", "_law_pairs", "_law_found", "_law_sheet", "_law_pair"]) (sc := defScope sLpageweights) (by decide +kernel)) (fun _ _ _ _ _ => pg_name (i := 4) scLpageweights.nd rfl (.inl rfl)) ptPi peEi) (rte_lc (vs := [4]) (fun (x : (Str × Int)) Γ => Γ.set 4 (.fz ((rT2 rS rI) x))) (ri_list (re_var (ρ := (rL (rT2 rS rI))) (x := pairs_) 1 rfl (pv 1))) (fun _ => rg_name) (fun _ => rgo_name) (un1 rfl) (fun (w5 : (Str × Int)) => (rti_one (fun _ _ _ _ _ => (rt_rc (rc_inS (re_at (ρ := rS) (g := fun (x : (Str × Int)) => x.1) (fun (x : (Str × Int)) => [rS x.1, rI x.2]) (0) (re_var (ρ := (rT2 rS rI)) (x := w5) 4 rfl (pv 4)) (hc := re_int)) (rsq_L (re_at (ρ := (rL rS)) (g := fun (x : (Str × (List Str) × (List Str))) => x.2.1) (fun (x : (Str × (List Str) × (List Str))) => [rS x.1, (rL rS) x.2.1, (rL rS) x.2.2]) (1) (re_var (ρ := (rT3 rS (rL rS) (rL rS))) (x := w4) 3 rfl (pv 3)) (hc := re_int)))))))) (fun (w5 : (Str × Int)) _ _ _ _ _ => (re_at (ρ := rI) (g := fun (x : (Str × Int)) => x.2) (fun (x : (Str × Int)) => [rS x.1, rI x.2]) (1) (re_var (ρ := (rT2 rS rI)) (x := w5) 4 rfl (pv 4)) (hc := re_int)))))) T.z_sum) rfl fun x12 => (rb_nil (x := ((s3 ++ [x12]))) (.inr rfl) ⟨.inr rfl, .inr rfl, .inr rfl, .inl rfl, .inl rfl, trivial⟩))) fun (s13 : (List Int)) => (rb_retO (y := s13) (z := s13) (k := oL rI) rfl (pv 2) rfl rfl)))

theorem scLtable : FnScope ["_law_pairs", "_law_table_here", "_law_pair"] ["_law_pairs"] (defScope sLtable) := ⟨rfl, rfl, rfl, by decide +kernel, rfl, by decide +kernel, by decide +kernel⟩
def P_Ltable (pairs_ : (List (Str × Int))) : Mo (List (Str × Int)) :=
  ((pure []) >>= fun table_1 => ((pure pairs_) >>= fun xs => Mo.fold (fun s3 w4 => (((pure w4) >>= fun x5 => pure x5.2) >>= fun x7 => ((pure w4) >>= fun x6 => pure x6.1) >>= fun k8 => Mo.rq (s3.length < sizeLine) k8 >>= fun k9 => (pure ((dputS s3 k9 x7))))) xs (table_1) >>= fun s10 => ((pure s10) >>= fun r11 => pure r11)))
theorem fn_Ltable (T : Tx K mg) : FnOk P w K mg base (L2.CX P w) 2 T.f_law_table T.d_law_table ["_law_pairs"] (spR K mg (fun (c : Unit) (z : (List (Str × Int)) × Unit) => [.fz ((rL (rT2 rS rI)) z.1)]) (fun z => P_Ltable z.1) (RK.fz (rDkS rI))) := by
  refine fn_mk (Γe := fun c z => [.un, .un, .un]) (Γ0 := fun c z => [.fz ((rL (rT2 rS rI)) z.1), .un, .un]) (Z := (fun _ _ x => .ret ((RK.fz (rDkS rI)).ok x))) T.F_law_table scLtable (fun _ _ => rfl) (fun _ _ => rfl) (fun _ _ => ⟨.inl rfl, .inl rfl, .inl rfl, trivial⟩) (fun _ _ _ _ _ _ h => (own_none rfl h).elim) (fun _ _ _ => .inl rfl) (fun cdv A outer s H E a0 y hr => ?_)
  obtain ⟨pairs_, _⟩ := y
  show RB _ _ ([.un, .un, .un] : RF.Ctx) false [.fz ((rL (rT2 rS rI)) pairs_), .un, .un] _ (P_Ltable pairs_) _
  exact (rb_setO (ps_set (i := 1) scLtable.nd rfl (.inl rfl) peE) (re_dnewS (ρ := rI)) rfl fun (table_1 : (List (Str × Int))) a2 => (rb_forF (s0 := (table_1)) (vs := [2]) (fun (s3 : (List (Str × Int))) => [.fz ((rL (rT2 rS rI)) pairs_), .ow true a2 (oDkS rI s3), .un]) (fun (x : (Str × Int)) Γ => Γ.set 2 (.fz ((rT2 rS rI) x))) (ps_for (passes_of rfl) rfl (pi_list peE) (pg_name (i := 2) scLtable.nd rfl (.inl rfl)) pssS) (ri_list (re_var (ρ := (rL (rT2 rS rI))) (x := pairs_) 0 rfl (pv 0))) (fun _ => rg_name) ⟨.inr rfl, .inr rfl, .inl rfl, trivial⟩ (fun _ => ⟨.inl rfl, .inl rfl, .inl rfl, trivial⟩) (fun _ _ => ⟨.inl rfl, .inl rfl, .inl rfl, trivial⟩) (fun (s3 : (List (Str × Int))) (w4 : (Str × Int)) => (rb_dputS (ps_dput (u1 hr.units) (pv 1) peE peE (by rfl)) rfl (re_at (ρ := rI) (g := fun (x : (Str × Int)) => x.2) (fun (x : (Str × Int)) => [rS x.1, rI x.2]) (1) (re_var (ρ := (rT2 rS rI)) (x := w4) 2 rfl (pv 2)) (hc := re_int)) (re_at (ρ := rS) (g := fun (x : (Str × Int)) => x.1) (fun (x : (Str × Int)) => [rS x.1, rI x.2]) (0) (re_var (ρ := (rT2 rS rI)) (x := w4) 2 rfl (pv 2)) (hc := re_int)) rfl fun (x7 : Int) (k9 : Str) => (rb_nil (x := ((dputS s3 k9 x7))) (.inr rfl) ⟨.inr rfl, .inr rfl, .inl rfl, trivial⟩))) fun (s10 : (List (Str × Int))) => (rb_frz (i := 1) (p := rDkS rI s10) rfl (frz_DkS _ _) rfl (rb_ret (fun (r11 : (List (Str × Int))) => r11) (re_var (ρ := (rDkS rI)) (x := s10) 1 rfl (pv 1)) (fun _ => rfl)))))

theorem scLseen : FnScope ["_law_sheets_here", "_law_starts", "_law_pairs", "_law_steps", "_law_book", "_law_heavy", "_law_more", "_law_worth"] ["_law_sheets_here", "_law_starts", "_law_pairs", "_law_steps"] (defScope sLseen) := ⟨rfl, rfl, rfl, by decide +kernel, rfl, by decide +kernel, by decide +kernel⟩
def P_Lseen (sheets_here_ : (List (Str × (List Str) × (List Str)))) (starts_ : (List Str)) (pairs_ : (List (Str × Int))) (steps_ : Int) : Mo (Option ((Int × Int) × (List (Option Int)) × Int)) :=
  ((((((pure sheets_here_) >>= fun x3 => (pure ()) >>= fun y4 => pure (x3, y4)) >>= fun y2 => P_Lhanded y2.1) >>= fun x8 => (((pure starts_) >>= fun x5 => pure x5) >>= fun x6 => (pure ()) >>= fun y7 => pure (x6, y7)) >>= fun y9 => pure (x8, y9)) >>= fun y1 => P_BookInit y1.1 y1.2.1) >>= fun book_10 => ((((pure book_10) >>= fun x17 => ((((pure pairs_) >>= fun x13 => (pure ()) >>= fun y14 => pure (x13, y14)) >>= fun y12 => P_Ltable y12.1) >>= fun x15 => (pure ()) >>= fun y16 => pure (x15, y16)) >>= fun y18 => pure (x17, y18)) >>= fun y11 => P_heaviest y11.1 y11.2.1) >>= fun heavy_19 => ((((pure book_10) >>= fun x28 => ((((pure pairs_) >>= fun x22 => (pure ()) >>= fun y23 => pure (x22, y23)) >>= fun y21 => P_Ltable y21.1) >>= fun x26 => ((pure steps_) >>= fun x24 => (pure ()) >>= fun y25 => pure (x24, y25)) >>= fun y27 => pure (x26, y27)) >>= fun y29 => pure (x28, y29)) >>= fun y20 => P_mostin y20.1 y20.2.1 y20.2.2.1) >>= fun more_30 => (((((((pure heavy_19) >>= fun x32 => pure (x32.1)) >>= fun x33 => (pure ()) >>= fun y34 => pure (x33, y34)) >>= fun y31 => P_Lmeangood y31.1) >>= fun b35 => pure (!b35)) >>= fun b44 => if b44 then pure true else (((((fun x => some ((fun x => x) x)) <$> ((pure heavy_19) >>= fun x36 => pure (x36.2.2))) >>= fun x37 => pure x37.isSome) >>= fun b38 => pure (!b38)) >>= fun b43 => if b43 then pure true else ((((pure more_30) >>= fun x40 => (pure ()) >>= fun y41 => pure (x40, y41)) >>= fun y39 => P_Lint y39.1) >>= fun b42 => pure (!b42)))) >>= fun c45 => if c45 = true then (((fun _ => none) <$> (pure ())) >>= fun r46 => pure r46) else (((((pure heavy_19) >>= fun x47 => pure (x47.2.2)) >>= fun x48 => pure (x48.length : Int)) >>= fun i50 => ((pure sheets_here_) >>= fun x49 => pure (x49.length : Int)) >>= fun j51 => pure (decide (i50 ≠ j51))) >>= fun c52 => if c52 = true then (((fun _ => none) <$> (pure ())) >>= fun r53 => pure r53) else (((((pure heavy_19) >>= fun x56 => pure (x56.2.2)) >>= Mo.lc (fun w57 => (((pure w57) >>= fun x58 => pure x58.isSome) >>= fun b63 => if b63 then (((((pure w57) >>= Mo.get) >>= fun x60 => (pure ()) >>= fun y61 => pure (x60, y61)) >>= fun y59 => P_Lint y59.1) >>= fun b62 => pure (!b62)) else pure false)) (fun w57 => (pure w57))) >>= fun x54 => (pure []) >>= fun y55 => Mo.rq (Eqk (rL (rO rI)) x54 ∧ Eqk (rL (rO rI)) y55) (!decide (x54 = y55))) >>= fun c64 => if c64 = true then (((fun _ => none) <$> (pure ())) >>= fun r65 => pure r65) else (((fun x => some ((fun x => x) x)) <$> ((((pure heavy_19) >>= fun x67 => pure (x67.1)) >>= fun x74 => ((((pure heavy_19) >>= fun x68 => pure (x68.2.2)) >>= fun x69 => pure x69) >>= fun x72 => ((pure more_30) >>= fun x70 => (pure ()) >>= fun y71 => pure (x70, y71)) >>= fun y73 => pure (x72, y73)) >>= fun y75 => pure (x74, y75)) >>= fun y76 => pure (y76.1, y76.2.1, y76.2.2.1))) >>= fun r66 => pure r66)))))))
theorem fn_Lseen (T : Tx K mg) : FnOk P w K mg base (L2.CX P w) 8 T.f_law_seen T.d_law_seen ["_law_sheets_here", "_law_starts", "_law_pairs", "_law_steps"] (spR K mg (fun (c : Unit) (z : (List (Str × (List Str) × (List Str))) × (List Str) × (List (Str × Int)) × Int × Unit) => [.fz ((rL (rT3 rS (rL rS) (rL rS))) z.1), .fz ((rL rS) z.2.1), .fz ((rL (rT2 rS rI)) z.2.2.1), .fz (rI z.2.2.2.1)]) (fun z => P_Lseen z.1 z.2.1 z.2.2.1 z.2.2.2.1) (RK.fz (rO (rT3 (rT2 rI rI) (rL (rO rI)) rI)))) := by
  have GBook_init := fn_BookInit (P := P) (w := w) (base := base) T
  have G_law_handed := fn_Lhanded (P := P) (w := w) (base := base) T
  have G_law_int := fn_Lint (P := P) (w := w) (base := base) T
  have G_law_mean_good := fn_Lmeangood (P := P) (w := w) (base := base) T
  have G_law_table := fn_Ltable (P := P) (w := w) (base := base) T
  have Gheaviest := fn_heaviest (P := P) (w := w) (base := base) T
  have Gmost_in := fn_mostin (P := P) (w := w) (base := base) T
  refine fn_mk (Γe := fun c z => [.un, .un, .un, .un, .un, .un, .un, .un]) (Γ0 := fun c z => [.fz ((rL (rT3 rS (rL rS) (rL rS))) z.1), .fz ((rL rS) z.2.1), .fz ((rL (rT2 rS rI)) z.2.2.1), .fz (rI z.2.2.2.1), .un, .un, .un, .un]) (Z := (fun _ _ x => .ret ((RK.fz (rO (rT3 (rT2 rI rI) (rL (rO rI)) rI))).ok x))) T.F_law_seen scLseen (fun _ _ => rfl) (fun _ _ => rfl) (fun _ _ => ⟨.inl rfl, .inl rfl, .inl rfl, .inl rfl, .inl rfl, .inl rfl, .inl rfl, .inl rfl, trivial⟩) (fun _ _ _ _ _ _ h => (own_none rfl h).elim) (fun _ _ _ => .inl rfl) (fun cdv A outer s H E a0 y hr => ?_)
  obtain ⟨sheets_here_, starts_, pairs_, steps_, _⟩ := y
  show RB _ _ ([.un, .un, .un, .un, .un, .un, .un, .un] : RF.Ctx) false [.fz ((rL (rT3 rS (rL rS) (rL rS))) sheets_here_), .fz ((rL rS) starts_), .fz ((rL (rT2 rS rI)) pairs_), .fz (rI steps_), .un, .un, .un, .un] _ (P_Lseen sheets_here_ starts_ pairs_ steps_) _
  exact (rb_set (ps_set (i := 4) scLseen.nd rfl (.inl rfl) peE) (re_frz (ρ' := (rBook T.C_Book)) (re_make T.M_Book GBook_init (hr.mono (by decide)) (takes_of rfl rfl rfl rfl) (ra_cons (re_frz (re_call () G_law_handed (hr.mono (by decide)) (takes_of rfl rfl rfl rfl) (ra_cons (re_var (ρ := (rL (rT3 rS (rL rS) (rL rS)))) (x := sheets_here_) 0 rfl (pv 0)) ra_nil) T.g_law_handed T.F_law_handed.kp T.b_law_handed) frz_L) (ra_cons (re_frz (re_list (rsq_L (re_var (ρ := (rL rS)) (x := starts_) 1 rfl (pv 1))) T.z_list) frz_L) ra_nil)) T.g_Book T.bBook_init) (fun _ => frz_In)) rfl fun (book_10 : OBook) => (rb_set (ps_set (i := 5) scLseen.nd rfl (.inl rfl) peE) (re_call () Gheaviest (hr.mono (by decide)) (takes_of rfl rfl rfl rfl) (ra_cons (re_var (ρ := (rBook T.C_Book)) (x := book_10) 4 rfl (pv 4)) (ra_cons (re_call () G_law_table (hr.mono (by decide)) (takes_of rfl rfl rfl rfl) (ra_cons (re_var (ρ := (rL (rT2 rS rI))) (x := pairs_) 2 rfl (pv 2)) ra_nil) T.g_law_table T.F_law_table.kp T.b_law_table) ra_nil)) T.gheaviest T.Fheaviest.kp T.bheaviest) rfl fun (heavy_19 : OHeavy) => (rb_set (ps_set (i := 6) scLseen.nd rfl (.inl rfl) peE) (re_call () Gmost_in (hr.mono (by decide)) (takes_of rfl rfl rfl rfl) (ra_cons (re_var (ρ := (rBook T.C_Book)) (x := book_10) 4 rfl (pv 4)) (ra_cons (re_call () G_law_table (hr.mono (by decide)) (takes_of rfl rfl rfl rfl) (ra_cons (re_var (ρ := (rL (rT2 rS rI))) (x := pairs_) 2 rfl (pv 2)) ra_nil) T.g_law_table T.F_law_table.kp T.b_law_table) (ra_cons (re_var (ρ := rI) (x := steps_) 3 rfl (pv 3)) ra_nil))) T.gmost_in T.Fmost_in.kp T.bmost_in) rfl fun (more_30 : Int) => (rb_if1 (rt_w (rw_or (rt_not (rt_val (re_call () G_law_mean_good (hr.mono (by decide)) (takes_of rfl rfl rfl rfl) (ra_cons (re_fld (ρ' := (rT2 rI rI)) (g := fun (x : OHeavy) => x.1) (fsHeavy) (re_var (ρ := (rHeavy T.C_Heavy)) (x := heavy_19) 5 rfl (pv 5)) T.cl_Heavy T.na_Heavy_mean) ra_nil) T.g_law_mean_good T.F_law_mean_good.kp T.b_law_mean_good))) (rw_or (rt_not (rt_val (re_isL (re_coe (ρ' := (rO (rL (rO rI)))) (f := (fun x => some ((fun x => x) x))) (co_some co_id) (re_fld (ρ' := (rL (rO rI))) (g := fun (x : OHeavy) => x.2.2) (fsHeavy) (re_var (ρ := (rHeavy T.C_Heavy)) (x := heavy_19) 5 rfl (pv 5)) T.cl_Heavy T.na_Heavy_worths)) (kit_ty (by decide +kernel)) (kit_ty (by decide +kernel)) T.z_isinstance T.z_list))) (rw_or1 (rt_not (rt_val (re_call () G_law_int (hr.mono (by decide)) (takes_of rfl rfl rfl rfl) (ra_cons (re_var (ρ := rI) (x := more_30) 6 rfl (pv 6)) ra_nil) T.g_law_int T.F_law_int.kp T.b_law_int))))))) (rb_ret (fun (r46 : (Option ((Int × Int) × (List (Option Int)) × Int))) => r46) (re_coe (ρ' := (rO (rT3 (rT2 rI rI) (rL (rO rI)) rI))) (f := (fun _ => none)) co_none re_non) (fun _ => rfl)) (rb_if1 (rt_rc (rc_i i_ne (re_len (rsq_L (re_fld (ρ' := (rL (rO rI))) (g := fun (x : OHeavy) => x.2.2) (fsHeavy) (re_var (ρ := (rHeavy T.C_Heavy)) (x := heavy_19) 5 rfl (pv 5)) T.cl_Heavy T.na_Heavy_worths)) T.z_len) (re_len (rsq_L (re_var (ρ := (rL (rT3 rS (rL rS) (rL rS)))) (x := sheets_here_) 0 rfl (pv 0))) T.z_len))) (rb_ret (fun (r53 : (Option ((Int × Int) × (List (Option Int)) × Int))) => r53) (re_coe (ρ' := (rO (rT3 (rT2 rI rI) (rL (rO rI)) rI))) (f := (fun _ => none)) co_none re_non) (fun _ => rfl)) (rb_if1 (rt_rc (rc_neE (ρ := (rL (rO rI))) hr.units (ha := (re_frz (re_of (pe_lc (own := [("_law_worth", 7)]) (g := gName 7) rfl scLseen.nd (pi_list peE) (blkOk_by (own := [("_law_worth", 7)]) (N := ["_law_sheets_here", "_law_starts", "_law_pairs", "_law_steps", "_law_book", "_law_heavy", "_law_more", "_law_worth"]) (sc := defScope sLseen) (by decide +kernel)) (fun _ _ _ _ _ => pg_name (i := 7) scLseen.nd rfl (.inl rfl)) ptPi peEi) (rte_lc (vs := [7]) (fun (x : (Option Int)) Γ => Γ.set 7 (.fz ((rO rI) x))) (ri_list (re_fld (ρ' := (rL (rO rI))) (g := fun (x : OHeavy) => x.2.2) (fsHeavy) (re_var (ρ := (rHeavy T.C_Heavy)) (x := heavy_19) 5 rfl (pv 5)) T.cl_Heavy T.na_Heavy_worths)) (fun _ => rg_name) (fun _ => rgo_name) (un1 rfl) (fun (w57 : (Option Int)) => (rti_one (fun _ _ _ _ _ => (rt_w (rw_and (rt_rc (rc_notN (re_var (ρ := (rO rI)) (x := w57) 7 rfl (pv 7)))) (rw_and1 (rt_not (rt_val (re_call () G_law_int (hr.mono (by decide)) takes0 (ra_cons (re_get (re_var (ρ := (rO rI)) (x := w57) 7 rfl (pv 7))) ra_nil) T.g_law_int T.F_law_int.kp T.b_law_int))))))))) (fun (w57 : (Option Int)) _ _ _ _ _ => (re_var (ρ := (rO rI)) (x := w57) 7 rfl (pv 7))))) frz_L)) (hb := (re_frz (re_lst0 (ρ := (rO rI))) frz_L)))) (rb_ret (fun (r65 : (Option ((Int × Int) × (List (Option Int)) × Int))) => r65) (re_coe (ρ' := (rO (rT3 (rT2 rI rI) (rL (rO rI)) rI))) (f := (fun _ => none)) co_none re_non) (fun _ => rfl)) (rb_ret (fun (r66 : (Option ((Int × Int) × (List (Option Int)) × Int))) => r66) (re_coe (ρ' := (rO (rT3 (rT2 rI rI) (rL (rO rI)) rI))) (f := (fun x => some ((fun x => x) x))) (co_some co_id) (re_tup (fun (y76 : (Int × Int) × (List (Option Int)) × Int × Unit) => (y76.1, y76.2.1, y76.2.2.1)) (rT3 (rT2 rI rI) (rL (rO rI)) rI) (fun (y76 : (Int × Int) × (List (Option Int)) × Int × Unit) => [(rT2 rI rI) y76.1, (rL (rO rI)) y76.2.1, rI y76.2.2.1]) (ra_cons (re_fld (ρ' := (rT2 rI rI)) (g := fun (x : OHeavy) => x.1) (fsHeavy) (re_var (ρ := (rHeavy T.C_Heavy)) (x := heavy_19) 5 rfl (pv 5)) T.cl_Heavy T.na_Heavy_mean) (ra_cons (re_frz (re_list (rsq_L (re_fld (ρ' := (rL (rO rI))) (g := fun (x : OHeavy) => x.2.2) (fsHeavy) (re_var (ρ := (rHeavy T.C_Heavy)) (x := heavy_19) 5 rfl (pv 5)) T.cl_Heavy T.na_Heavy_worths)) T.z_list) frz_L) (ra_cons (re_var (ρ := rI) (x := more_30) 6 rfl (pv 6)) ra_nil))))) (fun _ => rfl))))))))

theorem scLscaledgood : FnScope ["_law_base", "_law_seen_here", "_law_factor", "_law_k"] ["_law_base", "_law_seen_here", "_law_factor"] (defScope sLscaledgood) := ⟨rfl, rfl, rfl, by decide +kernel, rfl, by decide +kernel, by decide +kernel⟩
def P_Lscaledgood (base_ : ((Int × Int) × (List (Option Int)) × Int)) (seen_here_ : (Option ((Int × Int) × (List (Option Int)) × Int))) (factor_ : Int) : Mo Bool :=
  ((((pure seen_here_) >>= fun x1 => pure x1.isNone) >>= fun b18 => if b18 then pure true else ((((((pure seen_here_) >>= Mo.get) >>= fun x2 => pure x2.1) >>= fun x3 => pure x3.1) >>= fun i6 => (((pure base_) >>= fun x4 => pure x4.1) >>= fun x5 => pure x5.2) >>= fun j7 => Mo.rq (CMul i6 j7) (i6 * j7)) >>= fun i16 => (((((pure base_) >>= fun x8 => pure x8.1) >>= fun x9 => pure x9.1) >>= fun i10 => (pure factor_) >>= fun j11 => Mo.rq (CMul i10 j11) (i10 * j11)) >>= fun i14 => ((((pure seen_here_) >>= Mo.get) >>= fun x12 => pure x12.1) >>= fun x13 => pure x13.2) >>= fun j15 => Mo.rq (CMul i14 j15) (i14 * j15)) >>= fun j17 => pure (decide (i16 ≠ j17)))) >>= fun c19 => if c19 = true then ((pure false) >>= fun r20 => pure r20) else (((((pure base_) >>= fun x21 => pure x21.2.1) >>= fun x22 => pure (x22.length : Int)) >>= fun i23 => Mo.rq (-(2 ^ 62) ≤ i23 ∧ i23 < 2 ^ 62) (rangeL 0 i23.toNat)) >>= fun xs => Mo.loop (fun s25 w26 => ((((((pure base_) >>= fun x27 => pure x27.2.1) >>= fun x28 => (pure w26) >>= fun i29 => Mo.get (atI x28 i29)) >>= fun x30 => pure x30.isNone) >>= fun b35 => if b35 then pure true else (((((pure seen_here_) >>= Mo.get) >>= fun x31 => pure x31.2.1) >>= fun x32 => (pure w26) >>= fun i33 => Mo.get (atI x32 i33)) >>= fun x34 => pure x34.isNone)) >>= fun c36 => if c36 = true then ((((((pure base_) >>= fun x37 => pure x37.2.1) >>= fun x38 => (pure w26) >>= fun i39 => Mo.get (atI x38 i39)) >>= fun x40 => pure x40.isSome) >>= fun b45 => if b45 then pure true else (((((pure seen_here_) >>= Mo.get) >>= fun x41 => pure x41.2.1) >>= fun x42 => (pure w26) >>= fun i43 => Mo.get (atI x42 i43)) >>= fun x44 => pure x44.isSome)) >>= fun c46 => if c46 = true then ((pure false) >>= fun r47 => pure (Lp.ret r47)) else (pure (Lp.go ()))) else ((((((((pure seen_here_) >>= Mo.get) >>= fun x48 => pure x48.2.1) >>= fun x49 => (pure w26) >>= fun i50 => Mo.get (atI x49 i50)) >>= Mo.get) >>= fun i53 => (((pure base_) >>= fun x51 => pure x51.1) >>= fun x52 => pure x52.2) >>= fun j54 => Mo.rq (CMul i53 j54) (i53 * j54)) >>= fun i64 => ((((((pure base_) >>= fun x55 => pure x55.2.1) >>= fun x56 => (pure w26) >>= fun i57 => Mo.get (atI x56 i57)) >>= Mo.get) >>= fun i58 => (pure factor_) >>= fun j59 => Mo.rq (CMul i58 j59) (i58 * j59)) >>= fun i62 => ((((pure seen_here_) >>= Mo.get) >>= fun x60 => pure x60.1) >>= fun x61 => pure x61.2) >>= fun j63 => Mo.rq (CMul i62 j63) (i62 * j63)) >>= fun j65 => pure (decide (i64 ≠ j65))) >>= fun c66 => if c66 = true then ((pure false) >>= fun r67 => pure (Lp.ret r67)) else (pure (Lp.go ()))))) xs () >>= Lp.out (fun s68 => (((((pure seen_here_) >>= Mo.get) >>= fun x70 => pure x70.2.2) >>= fun i74 => (((pure base_) >>= fun x71 => pure x71.2.2) >>= fun i72 => (pure factor_) >>= fun j73 => Mo.rq (CMul i72 j73) (i72 * j73)) >>= fun j75 => pure (decide (i74 = j75))) >>= fun r69 => pure r69)) (fun x => x)))
theorem fn_Lscaledgood (T : Tx K mg) : FnOk P w K mg base (L2.CX P w) 2 T.f_law_scaled_good T.d_law_scaled_good ["_law_base", "_law_seen_here", "_law_factor"] (spR K mg (fun (c : Unit) (z : ((Int × Int) × (List (Option Int)) × Int) × (Option ((Int × Int) × (List (Option Int)) × Int)) × Int × Unit) => [.fz ((rT3 (rT2 rI rI) (rL (rO rI)) rI) z.1), .fz ((rO (rT3 (rT2 rI rI) (rL (rO rI)) rI)) z.2.1), .fz (rI z.2.2.1)]) (fun z => P_Lscaledgood z.1 z.2.1 z.2.2.1) (RK.fz rB)) := by
  refine fn_mk (Γe := fun c z => [.un, .un, .un, .un]) (Γ0 := fun c z => [.fz ((rT3 (rT2 rI rI) (rL (rO rI)) rI) z.1), .fz ((rO (rT3 (rT2 rI rI) (rL (rO rI)) rI)) z.2.1), .fz (rI z.2.2.1), .un]) (Z := (fun _ _ x => .ret ((RK.fz rB).ok x))) T.F_law_scaled_good scLscaledgood (fun _ _ => rfl) (fun _ _ => rfl) (fun _ _ => ⟨.inl rfl, .inl rfl, .inl rfl, .inl rfl, trivial⟩) (fun _ _ _ _ _ _ h => (own_none rfl h).elim) (fun _ _ _ => .inl rfl) (fun cdv A outer s H E a0 y hr => ?_)
  obtain ⟨base_, seen_here_, factor_, _⟩ := y
  show RB _ _ ([.un, .un, .un, .un] : RF.Ctx) false [.fz ((rT3 (rT2 rI rI) (rL (rO rI)) rI) base_), .fz ((rO (rT3 (rT2 rI rI) (rL (rO rI)) rI)) seen_here_), .fz (rI factor_), .un] _ (P_Lscaledgood base_ seen_here_ factor_) _
  exact (rb_if1 (rt_w (rw_or (rt_rc (rc_isN (re_var (ρ := (rO (rT3 (rT2 rI rI) (rL (rO rI)) rI))) (x := seen_here_) 1 rfl (pv 1)))) (rw_or1 (rt_rc (rc_i i_ne (re_mul (re_at (ρ := rI) (g := fun (x : (Int × Int)) => x.1) (fun (x : (Int × Int)) => [rI x.1, rI x.2]) (0) (re_at (ρ := (rT2 rI rI)) (g := fun (x : ((Int × Int) × (List (Option Int)) × Int)) => x.1) (fun (x : ((Int × Int) × (List (Option Int)) × Int)) => [(rT2 rI rI) x.1, (rL (rO rI)) x.2.1, rI x.2.2]) (0) (re_get (re_var (ρ := (rO (rT3 (rT2 rI rI) (rL (rO rI)) rI))) (x := seen_here_) 1 rfl (pv 1))) (hc := re_int)) (hc := re_int)) (re_at (ρ := rI) (g := fun (x : (Int × Int)) => x.2) (fun (x : (Int × Int)) => [rI x.1, rI x.2]) (1) (re_at (ρ := (rT2 rI rI)) (g := fun (x : ((Int × Int) × (List (Option Int)) × Int)) => x.1) (fun (x : ((Int × Int) × (List (Option Int)) × Int)) => [(rT2 rI rI) x.1, (rL (rO rI)) x.2.1, rI x.2.2]) (0) (re_var (ρ := (rT3 (rT2 rI rI) (rL (rO rI)) rI)) (x := base_) 0 rfl (pv 0)) (hc := re_int)) (hc := re_int))) (re_mul (re_mul (re_at (ρ := rI) (g := fun (x : (Int × Int)) => x.1) (fun (x : (Int × Int)) => [rI x.1, rI x.2]) (0) (re_at (ρ := (rT2 rI rI)) (g := fun (x : ((Int × Int) × (List (Option Int)) × Int)) => x.1) (fun (x : ((Int × Int) × (List (Option Int)) × Int)) => [(rT2 rI rI) x.1, (rL (rO rI)) x.2.1, rI x.2.2]) (0) (re_var (ρ := (rT3 (rT2 rI rI) (rL (rO rI)) rI)) (x := base_) 0 rfl (pv 0)) (hc := re_int)) (hc := re_int)) (re_var (ρ := rI) (x := factor_) 2 rfl (pv 2))) (re_at (ρ := rI) (g := fun (x : (Int × Int)) => x.2) (fun (x : (Int × Int)) => [rI x.1, rI x.2]) (1) (re_at (ρ := (rT2 rI rI)) (g := fun (x : ((Int × Int) × (List (Option Int)) × Int)) => x.1) (fun (x : ((Int × Int) × (List (Option Int)) × Int)) => [(rT2 rI rI) x.1, (rL (rO rI)) x.2.1, rI x.2.2]) (0) (re_get (re_var (ρ := (rO (rT3 (rT2 rI rI) (rL (rO rI)) rI))) (x := seen_here_) 1 rfl (pv 1))) (hc := re_int)) (hc := re_int)))))))) (rb_ret (fun (r20 : Bool) => r20) re_bl (fun _ => rfl)) (rb_for (s0 := ()) (vs := [3]) (Zr := (fun x => .ret ((RK.fz rB).ok x))) (kr := (fun x => x)) (fun (s25 : Unit) => [.fz ((rT3 (rT2 rI rI) (rL (rO rI)) rI) base_), .fz ((rO (rT3 (rT2 rI rI) (rL (rO rI)) rI)) seen_here_), .fz (rI factor_), .un]) (fun (x : Int) Γ => Γ.set 3 (.fz (rI x))) (ps_for (passes_of rfl) rfl (pi_range1 (by rfl) T.z_range (pa_cons peE pa_nil)) (pg_name (i := 3) scLscaledgood.nd rfl (.inl rfl)) pssS) (ri_range1 (re_len (rsq_L (re_at (ρ := (rL (rO rI))) (g := fun (x : ((Int × Int) × (List (Option Int)) × Int)) => x.2.1) (fun (x : ((Int × Int) × (List (Option Int)) × Int)) => [(rT2 rI rI) x.1, (rL (rO rI)) x.2.1, rI x.2.2]) (1) (re_var (ρ := (rT3 (rT2 rI rI) (rL (rO rI)) rI)) (x := base_) 0 rfl (pv 0)) (hc := re_int))) T.z_len)) (fun _ => rg_name) ⟨.inr rfl, .inr rfl, .inr rfl, .inl rfl, trivial⟩ (fun _ => ⟨.inl rfl, .inl rfl, .inl rfl, .inl rfl, trivial⟩) (fun _ _ => ⟨.inl rfl, .inl rfl, .inl rfl, .inl rfl, trivial⟩) (fun (s25 : Unit) (w26 : Int) => (rb_if0 (rt_w (rw_or (rt_rc (rc_isN (re_ixL (re_at (ρ := (rL (rO rI))) (g := fun (x : ((Int × Int) × (List (Option Int)) × Int)) => x.2.1) (fun (x : ((Int × Int) × (List (Option Int)) × Int)) => [(rT2 rI rI) x.1, (rL (rO rI)) x.2.1, rI x.2.2]) (1) (re_var (ρ := (rT3 (rT2 rI rI) (rL (rO rI)) rI)) (x := base_) 0 rfl (pv 0)) (hc := re_int)) (re_var (ρ := rI) (x := w26) 3 rfl (pv 3))))) (rw_or1 (rt_rc (rc_isN (re_ixL (re_at (ρ := (rL (rO rI))) (g := fun (x : ((Int × Int) × (List (Option Int)) × Int)) => x.2.1) (fun (x : ((Int × Int) × (List (Option Int)) × Int)) => [(rT2 rI rI) x.1, (rL (rO rI)) x.2.1, rI x.2.2]) (1) (re_get (re_var (ρ := (rO (rT3 (rT2 rI rI) (rL (rO rI)) rI))) (x := seen_here_) 1 rfl (pv 1))) (hc := re_int)) (re_var (ρ := rI) (x := w26) 3 rfl (pv 3)))))))) (rb_if0 (rt_w (rw_or (rt_rc (rc_notN (re_ixL (re_at (ρ := (rL (rO rI))) (g := fun (x : ((Int × Int) × (List (Option Int)) × Int)) => x.2.1) (fun (x : ((Int × Int) × (List (Option Int)) × Int)) => [(rT2 rI rI) x.1, (rL (rO rI)) x.2.1, rI x.2.2]) (1) (re_var (ρ := (rT3 (rT2 rI rI) (rL (rO rI)) rI)) (x := base_) 0 rfl (pv 0)) (hc := re_int)) (re_var (ρ := rI) (x := w26) 3 rfl (pv 3))))) (rw_or1 (rt_rc (rc_notN (re_ixL (re_at (ρ := (rL (rO rI))) (g := fun (x : ((Int × Int) × (List (Option Int)) × Int)) => x.2.1) (fun (x : ((Int × Int) × (List (Option Int)) × Int)) => [(rT2 rI rI) x.1, (rL (rO rI)) x.2.1, rI x.2.2]) (1) (re_get (re_var (ρ := (rO (rT3 (rT2 rI rI) (rL (rO rI)) rI))) (x := seen_here_) 1 rfl (pv 1))) (hc := re_int)) (re_var (ρ := rI) (x := w26) 3 rfl (pv 3)))))))) (rb_ret (fun (r47 : Bool) => (Lp.ret r47)) re_bl (fun _ => rfl)) (rb_nil (x := (Lp.go ())) (.inr rfl) ⟨.inr rfl, .inr rfl, .inr rfl, .inl rfl, trivial⟩)) (rb_if0 (rt_rc (rc_i i_ne (re_mul (re_get (re_ixL (re_at (ρ := (rL (rO rI))) (g := fun (x : ((Int × Int) × (List (Option Int)) × Int)) => x.2.1) (fun (x : ((Int × Int) × (List (Option Int)) × Int)) => [(rT2 rI rI) x.1, (rL (rO rI)) x.2.1, rI x.2.2]) (1) (re_get (re_var (ρ := (rO (rT3 (rT2 rI rI) (rL (rO rI)) rI))) (x := seen_here_) 1 rfl (pv 1))) (hc := re_int)) (re_var (ρ := rI) (x := w26) 3 rfl (pv 3)))) (re_at (ρ := rI) (g := fun (x : (Int × Int)) => x.2) (fun (x : (Int × Int)) => [rI x.1, rI x.2]) (1) (re_at (ρ := (rT2 rI rI)) (g := fun (x : ((Int × Int) × (List (Option Int)) × Int)) => x.1) (fun (x : ((Int × Int) × (List (Option Int)) × Int)) => [(rT2 rI rI) x.1, (rL (rO rI)) x.2.1, rI x.2.2]) (0) (re_var (ρ := (rT3 (rT2 rI rI) (rL (rO rI)) rI)) (x := base_) 0 rfl (pv 0)) (hc := re_int)) (hc := re_int))) (re_mul (re_mul (re_get (re_ixL (re_at (ρ := (rL (rO rI))) (g := fun (x : ((Int × Int) × (List (Option Int)) × Int)) => x.2.1) (fun (x : ((Int × Int) × (List (Option Int)) × Int)) => [(rT2 rI rI) x.1, (rL (rO rI)) x.2.1, rI x.2.2]) (1) (re_var (ρ := (rT3 (rT2 rI rI) (rL (rO rI)) rI)) (x := base_) 0 rfl (pv 0)) (hc := re_int)) (re_var (ρ := rI) (x := w26) 3 rfl (pv 3)))) (re_var (ρ := rI) (x := factor_) 2 rfl (pv 2))) (re_at (ρ := rI) (g := fun (x : (Int × Int)) => x.2) (fun (x : (Int × Int)) => [rI x.1, rI x.2]) (1) (re_at (ρ := (rT2 rI rI)) (g := fun (x : ((Int × Int) × (List (Option Int)) × Int)) => x.1) (fun (x : ((Int × Int) × (List (Option Int)) × Int)) => [(rT2 rI rI) x.1, (rL (rO rI)) x.2.1, rI x.2.2]) (0) (re_get (re_var (ρ := (rO (rT3 (rT2 rI rI) (rL (rO rI)) rI))) (x := seen_here_) 1 rfl (pv 1))) (hc := re_int)) (hc := re_int))))) (rb_ret (fun (r67 : Bool) => (Lp.ret r67)) re_bl (fun _ => rfl)) (rb_nil (x := (Lp.go ())) (.inr rfl) ⟨.inr rfl, .inr rfl, .inr rfl, .inl rfl, trivial⟩)))) (fun _ => rfl) (fun _ => ⟨_, rfl⟩) fun (s68 : Unit) => (rb_ret (fun (r69 : Bool) => r69) (re_rc (rc_i i_eq (re_at (ρ := rI) (g := fun (x : ((Int × Int) × (List (Option Int)) × Int)) => x.2.2) (fun (x : ((Int × Int) × (List (Option Int)) × Int)) => [(rT2 rI rI) x.1, (rL (rO rI)) x.2.1, rI x.2.2]) (2) (re_get (re_var (ρ := (rO (rT3 (rT2 rI rI) (rL (rO rI)) rI))) (x := seen_here_) 1 rfl (pv 1))) (hc := re_int)) (re_mul (re_at (ρ := rI) (g := fun (x : ((Int × Int) × (List (Option Int)) × Int)) => x.2.2) (fun (x : ((Int × Int) × (List (Option Int)) × Int)) => [(rT2 rI rI) x.1, (rL (rO rI)) x.2.1, rI x.2.2]) (2) (re_var (ρ := (rT3 (rT2 rI rI) (rL (rO rI)) rI)) (x := base_) 0 rfl (pv 0)) (hc := re_int)) (re_var (ρ := rI) (x := factor_) 2 rfl (pv 2))))) (fun _ => rfl))))

theorem scLnotless : FnScope ["_law_base", "_law_seen_here"] ["_law_base", "_law_seen_here"] (defScope sLnotless) := ⟨rfl, rfl, rfl, by decide +kernel, rfl, by decide +kernel, by decide +kernel⟩
def P_Lnotless (base_ : ((Int × Int) × (List (Option Int)) × Int)) (seen_here_ : (Option ((Int × Int) × (List (Option Int)) × Int))) : Mo Bool :=
  ((((pure seen_here_) >>= fun x2 => pure x2.isSome) >>= fun b22 => if b22 then (((((((pure seen_here_) >>= Mo.get) >>= fun x3 => pure x3.1) >>= fun x4 => pure x4.1) >>= fun i7 => (((pure base_) >>= fun x5 => pure x5.1) >>= fun x6 => pure x6.2) >>= fun j8 => Mo.rq (CMul i7 j8) (i7 * j8)) >>= fun i15 => ((((pure base_) >>= fun x9 => pure x9.1) >>= fun x10 => pure x10.1) >>= fun i13 => ((((pure seen_here_) >>= Mo.get) >>= fun x11 => pure x11.1) >>= fun x12 => pure x12.2) >>= fun j14 => Mo.rq (CMul i13 j14) (i13 * j14)) >>= fun j16 => pure (decide (j16 ≤ i15))) >>= fun b21 => if b21 then ((((pure seen_here_) >>= Mo.get) >>= fun x17 => pure x17.2.2) >>= fun i19 => ((pure base_) >>= fun x18 => pure x18.2.2) >>= fun j20 => pure (decide (j20 ≤ i19))) else pure false) else pure false) >>= fun r1 => pure r1)
theorem fn_Lnotless (T : Tx K mg) : FnOk P w K mg base (L2.CX P w) 2 T.f_law_not_less T.d_law_not_less ["_law_base", "_law_seen_here"] (spR K mg (fun (c : Unit) (z : ((Int × Int) × (List (Option Int)) × Int) × (Option ((Int × Int) × (List (Option Int)) × Int)) × Unit) => [.fz ((rT3 (rT2 rI rI) (rL (rO rI)) rI) z.1), .fz ((rO (rT3 (rT2 rI rI) (rL (rO rI)) rI)) z.2.1)]) (fun z => P_Lnotless z.1 z.2.1) (RK.fz rB)) := by
  refine fn_mk (Γe := fun c z => [.un, .un]) (Γ0 := fun c z => [.fz ((rT3 (rT2 rI rI) (rL (rO rI)) rI) z.1), .fz ((rO (rT3 (rT2 rI rI) (rL (rO rI)) rI)) z.2.1)]) (Z := (fun _ _ x => .ret ((RK.fz rB).ok x))) T.F_law_not_less scLnotless (fun _ _ => rfl) (fun _ _ => rfl) (fun _ _ => ⟨.inl rfl, .inl rfl, trivial⟩) (fun _ _ _ _ _ _ h => (own_none rfl h).elim) (fun _ _ _ => .inl rfl) (fun cdv A outer s H E a0 y hr => ?_)
  obtain ⟨base_, seen_here_, _⟩ := y
  show RB _ _ ([.un, .un] : RF.Ctx) false [.fz ((rT3 (rT2 rI rI) (rL (rO rI)) rI) base_), .fz ((rO (rT3 (rT2 rI rI) (rL (rO rI)) rI)) seen_here_)] _ (P_Lnotless base_ seen_here_) _
  exact (rb_ret (fun (r1 : Bool) => r1) (re_and (re_rc (rc_notN (re_var (ρ := (rO (rT3 (rT2 rI rI) (rL (rO rI)) rI))) (x := seen_here_) 1 rfl (pv 1)))) (re_and (re_rc (rc_i i_ge (re_mul (re_at (ρ := rI) (g := fun (x : (Int × Int)) => x.1) (fun (x : (Int × Int)) => [rI x.1, rI x.2]) (0) (re_at (ρ := (rT2 rI rI)) (g := fun (x : ((Int × Int) × (List (Option Int)) × Int)) => x.1) (fun (x : ((Int × Int) × (List (Option Int)) × Int)) => [(rT2 rI rI) x.1, (rL (rO rI)) x.2.1, rI x.2.2]) (0) (re_get (re_var (ρ := (rO (rT3 (rT2 rI rI) (rL (rO rI)) rI))) (x := seen_here_) 1 rfl (pv 1))) (hc := re_int)) (hc := re_int)) (re_at (ρ := rI) (g := fun (x : (Int × Int)) => x.2) (fun (x : (Int × Int)) => [rI x.1, rI x.2]) (1) (re_at (ρ := (rT2 rI rI)) (g := fun (x : ((Int × Int) × (List (Option Int)) × Int)) => x.1) (fun (x : ((Int × Int) × (List (Option Int)) × Int)) => [(rT2 rI rI) x.1, (rL (rO rI)) x.2.1, rI x.2.2]) (0) (re_var (ρ := (rT3 (rT2 rI rI) (rL (rO rI)) rI)) (x := base_) 0 rfl (pv 0)) (hc := re_int)) (hc := re_int))) (re_mul (re_at (ρ := rI) (g := fun (x : (Int × Int)) => x.1) (fun (x : (Int × Int)) => [rI x.1, rI x.2]) (0) (re_at (ρ := (rT2 rI rI)) (g := fun (x : ((Int × Int) × (List (Option Int)) × Int)) => x.1) (fun (x : ((Int × Int) × (List (Option Int)) × Int)) => [(rT2 rI rI) x.1, (rL (rO rI)) x.2.1, rI x.2.2]) (0) (re_var (ρ := (rT3 (rT2 rI rI) (rL (rO rI)) rI)) (x := base_) 0 rfl (pv 0)) (hc := re_int)) (hc := re_int)) (re_at (ρ := rI) (g := fun (x : (Int × Int)) => x.2) (fun (x : (Int × Int)) => [rI x.1, rI x.2]) (1) (re_at (ρ := (rT2 rI rI)) (g := fun (x : ((Int × Int) × (List (Option Int)) × Int)) => x.1) (fun (x : ((Int × Int) × (List (Option Int)) × Int)) => [(rT2 rI rI) x.1, (rL (rO rI)) x.2.1, rI x.2.2]) (0) (re_get (re_var (ρ := (rO (rT3 (rT2 rI rI) (rL (rO rI)) rI))) (x := seen_here_) 1 rfl (pv 1))) (hc := re_int)) (hc := re_int))))) (re_one (re_rc (rc_i i_ge (re_at (ρ := rI) (g := fun (x : ((Int × Int) × (List (Option Int)) × Int)) => x.2.2) (fun (x : ((Int × Int) × (List (Option Int)) × Int)) => [(rT2 rI rI) x.1, (rL (rO rI)) x.2.1, rI x.2.2]) (2) (re_get (re_var (ρ := (rO (rT3 (rT2 rI rI) (rL (rO rI)) rI))) (x := seen_here_) 1 rfl (pv 1))) (hc := re_int)) (re_at (ρ := rI) (g := fun (x : ((Int × Int) × (List (Option Int)) × Int)) => x.2.2) (fun (x : ((Int × Int) × (List (Option Int)) × Int)) => [(rT2 rI rI) x.1, (rL (rO rI)) x.2.1, rI x.2.2]) (2) (re_var (ρ := (rT3 (rT2 rI rI) (rL (rO rI)) rI)) (x := base_) 0 rfl (pv 0)) (hc := re_int))))))) (fun _ => rfl))
end
end DD
namespace DD
open PySem PySem.Spec PyProof.Rows L2 KO SX RF
section
variable {P : Program} {w : World} {K : PySem.W.Frag} {mg : Str → Option Value} {base : Heap}
theorem scLwith : FnScope ["_law_words_here", "_law_word_here"] ["_law_words_here", "_law_word_here"] (defScope sLwith) := ⟨rfl, rfl, rfl, by decide +kernel, rfl, by decide +kernel, by decide +kernel⟩
def P_Lwith (words_here_ : (List Str)) (word_here_ : Str) : Mo (List Str) :=
  (((pure word_here_) >>= fun x1 => (pure words_here_) >>= fun y2 => pure (decide (x1 ∈ y2))) >>= fun c3 => if c3 = true then (((pure words_here_) >>= fun x5 => pure x5) >>= fun r4 => pure r4) else (((pure words_here_) >>= fun x10 => (((pure word_here_) >>= fun x7 => (pure ()) >>= fun y8 => pure (x7, y8)) >>= fun y9 => pure [y9.1]) >>= fun y11 => Mo.rq (x10.length + y11.length ≤ sizeLine) (x10 ++ y11)) >>= fun r6 => pure r6))
theorem fn_Lwith (T : Tx K mg) : FnOk P w K mg base (L2.CX P w) 2 T.f_law_with T.d_law_with ["_law_words_here", "_law_word_here"] (spR K mg (fun (c : Unit) (z : (List Str) × Str × Unit) => [.fz ((rL rS) z.1), .fz (rS z.2.1)]) (fun z => P_Lwith z.1 z.2.1) (RK.ow (oL rS))) := by
  refine fn_mk (Γe := fun c z => [.un, .un]) (Γ0 := fun c z => [.fz ((rL rS) z.1), .fz (rS z.2.1)]) (Z := (fun _ _ x => .ret ((RK.ow (oL rS)).ok x))) T.F_law_with scLwith (fun _ _ => rfl) (fun _ _ => rfl) (fun _ _ => ⟨.inl rfl, .inl rfl, trivial⟩) (fun _ _ _ _ _ _ h => (own_none rfl h).elim) (fun _ _ _ => .inl rfl) (fun cdv A outer s H E a0 y hr => ?_)
  obtain ⟨words_here_, word_here_, _⟩ := y
  show RB _ _ ([.un, .un] : RF.Ctx) false [.fz ((rL rS) words_here_), .fz (rS word_here_)] _ (P_Lwith words_here_ word_here_) _
  exact (rb_if1 (rt_rc (rc_inS (re_var (ρ := rS) (x := word_here_) 1 rfl (pv 1)) (rsq_L (re_var (ρ := (rL rS)) (x := words_here_) 0 rfl (pv 0))))) (rb_ret (fun (r4 : (List Str)) => r4) (re_list (rsq_L (re_var (ρ := (rL rS)) (x := words_here_) 0 rfl (pv 0))) T.z_list) (fun _ => rfl)) (rb_ret (fun (r6 : (List Str)) => r6) (re_cat (re_var (ρ := (rL rS)) (x := words_here_) 0 rfl (pv 0)) (re_frz (re_lst (fun (y9 : Str × Unit) => [y9.1]) rS (ra_cons (re_var (ρ := rS) (x := word_here_) 1 rfl (pv 1)) ra_nil)) frz_L)) (fun _ => rfl)))
end
end DD
namespace DD
open PySem PySem.Spec PyProof.Rows L2 KO SX RF
section
variable {P : Program} {w : World} {K : PySem.W.Frag} {mg : Str → Option Value} {base : Heap}
theorem scLaw : FnScope ["_law_script", "_law_pool_here", "_law_drawn", "_law_sheet", "_law_sheets_here", "_law_starts", "_law_names", "_law_followers", "_law_reached", "_law_factor", "_law_pairs", "_law_heavier", "_law_fresh", "_law_extra", "_law_longer", "_law_at", "_law_steps", "_law_perm_here", "_law_wider", "_law_begin", "_law_heavy", "_law_base", "_law_scaled", "_law_due", "_law_line", "_law_pair", "_law_k"] ["_law_script"] (defScope sLaw) := ⟨rfl, rfl, rfl, by decide +kernel, rfl, by decide +kernel, by decide +kernel⟩
def P_Law (script_ : List Int) : Mo Bool :=
  ((((pure script_) >>= fun x4 => ((pure (0 : Int)) >>= fun x2 => (pure ()) >>= fun y3 => pure (x2, y3)) >>= fun y5 => pure (x4, y5)) >>= fun y1 => Mo.rq (0 ≤ y1.2.1 ∧ y1.2.1 ≤ 1000) ()) >>= fun pool_6 => (((pure ()) >>= fun y8 => P_Lsheets) >>= fun drawn_9 => ((((pure drawn_9) >>= fun x10 => pure x10.1) >>= Mo.lc (fun w11 => (pure true)) (fun w11 => ((((pure w11) >>= fun x12 => pure x12.1) >>= fun x23 => ((((pure w11) >>= fun x13 => pure x13.2.1) >>= fun x15 => (pure none) >>= fun l16 => ((pure (7 : Int)) >>= fun i14 => pure (some i14)) >>= fun h17 => pure (cutL x15 l16 h17)) >>= fun x21 => (((pure w11) >>= fun x18 => pure x18.2.2) >>= fun x19 => (pure ()) >>= fun y20 => pure (x19, y20)) >>= fun y22 => pure (x21, y22)) >>= fun y24 => pure (x23, y24)) >>= fun y25 => pure (y25.1, y25.2.1, y25.2.2.1)))) >>= fun sheets_26 => (((pure drawn_9) >>= fun x27 => pure x27.2.1) >>= fun starts_28 => (((pure sheets_26) >>= Mo.lc (fun w29 => (pure true)) (fun w29 => ((pure w29) >>= fun x30 => pure x30.1))) >>= fun names_31 => (((pure sheets_26) >>= Mo.lc (fun w32 => (pure true)) (fun w32 => (((pure names_31) >>= fun x37 => (((pure w32) >>= fun x34 => pure x34.2.2) >>= fun x35 => (pure ()) >>= fun y36 => pure (x35, y36)) >>= fun y38 => pure (x37, y38)) >>= fun y33 => P_Lplaces y33.1 y33.2.1))) >>= fun followers_39 => ((((pure followers_39) >>= fun x48 => ((((pure names_31) >>= fun x44 => ((pure starts_28) >>= fun x42 => (pure ()) >>= fun y43 => pure (x42, y43)) >>= fun y45 => pure (x44, y45)) >>= fun y41 => P_Lplaces y41.1 y41.2.1) >>= fun x46 => (pure ()) >>= fun y47 => pure (x46, y47)) >>= fun y49 => pure (x48, y49)) >>= fun y40 => P_Lgrown y40.1 y40.2.1) >>= fun reached_50 => ((((pure script_) >>= fun x54 => ((pure (1 : Int)) >>= fun x52 => (pure ()) >>= fun y53 => pure (x52, y53)) >>= fun y55 => pure (x54, y55)) >>= fun y51 => Mo.rq (0 ≤ y51.2.1 ∧ y51.2.1 ≤ 1000) ()) >>= fun pool_56 => (((pure (1 : Int)) >>= fun i75 => ((((((pure (99 : Int)) >>= fun x64 => ((pure (9 : Int)) >>= fun x62 => ((pure (9 : Int)) >>= fun x60 => ((pure (9 : Int)) >>= fun x58 => (pure ()) >>= fun y59 => pure (x58, y59)) >>= fun y61 => pure (x60, y61)) >>= fun y63 => pure (x62, y63)) >>= fun y65 => pure (x64, y65)) >>= fun y66 => pure [y66.1, y66.2.1, y66.2.2.1, y66.2.2.2.1]) >>= fun x70 => (((pure (4 : Int)) >>= fun x68 => (pure ()) >>= fun y69 => pure (x68, y69)) >>= fun y67 => Mo.take y67.1) >>= fun i71 => Mo.get (atI x70 i71)) >>= fun x73 => (pure ()) >>= fun y74 => pure (x73, y74)) >>= fun y72 => Mo.take y72.1) >>= fun j76 => pure (i75 + j76)) >>= fun factor_77 => ((((pure drawn_9) >>= fun x78 => pure x78.2.2) >>= Mo.lc (fun w79 => (pure true)) (fun w79 => (((pure w79) >>= fun x89 => ((((((pure (99 : Int)) >>= fun i80 => (pure factor_77) >>= fun j81 => Mo.rq (CDiv i80 j81) (i80 / j81)) >>= fun i82 => (pure (1 : Int)) >>= fun j83 => pure (i82 + j83)) >>= fun x85 => (pure ()) >>= fun y86 => pure (x85, y86)) >>= fun y84 => Mo.take y84.1) >>= fun x87 => (pure ()) >>= fun y88 => pure (x87, y88)) >>= fun y90 => pure (x89, y90)) >>= fun y91 => pure (y91.1, y91.2.1)))) >>= fun pairs_92 => (((pure pairs_92) >>= Mo.lc (fun w93 => (pure true)) (fun w93 => ((((pure w93) >>= fun x94 => pure x94.1) >>= fun x106 => ((((pure w93) >>= fun x95 => pure x95.2) >>= fun i102 => ((((pure (100 : Int)) >>= fun i97 => ((pure w93) >>= fun x96 => pure x96.2) >>= fun j98 => pure (i97 - j98)) >>= fun x100 => (pure ()) >>= fun y101 => pure (x100, y101)) >>= fun y99 => Mo.take y99.1) >>= fun j103 => pure (i102 + j103)) >>= fun x104 => (pure ()) >>= fun y105 => pure (x104, y105)) >>= fun y107 => pure (x106, y107)) >>= fun y108 => pure (y108.1, y108.2.1)))) >>= fun heavier_109 => (((((pure names_31) >>= fun x112 => ((pure drawn_9) >>= fun x111 => pure x111.2.2) >>= fun y113 => Mo.rq (x112.length + y113.length ≤ sizeLine) (x112 ++ y113)) >>= fun x114 => (pure ()) >>= fun y115 => pure (x114, y115)) >>= fun y110 => P_Lword y110.1) >>= fun fresh_116 => ((((pure (100 : Int)) >>= fun x118 => (pure ()) >>= fun y119 => pure (x118, y119)) >>= fun y117 => Mo.take y117.1) >>= fun extra_120 => ((pure []) >>= fun longer_121 => ((pure sheets_26) >>= fun xs => Mo.fold (fun s123 w124 => (((((((pure w124) >>= fun x125 => pure x125.2.1) >>= fun x126 => pure (x126.length : Int)) >>= fun i127 => (pure (1 : Int)) >>= fun j128 => pure (i127 + j128)) >>= fun x130 => (pure ()) >>= fun y131 => pure (x130, y131)) >>= fun y129 => Mo.take y129.1) >>= fun at_132 => (((((pure w124) >>= fun x133 => pure x133.1) >>= fun x156 => ((((((pure w124) >>= fun x134 => pure x134.2.1) >>= fun x136 => (pure none) >>= fun l137 => ((pure at_132) >>= fun i135 => pure (some i135)) >>= fun h138 => pure (cutL x136 l137 h138)) >>= fun x142 => (((pure fresh_116) >>= fun x139 => (pure ()) >>= fun y140 => pure (x139, y140)) >>= fun y141 => pure [y141.1]) >>= fun y143 => Mo.rq (x142.length + y143.length ≤ sizeLine) (x142 ++ y143)) >>= fun x149 => (((pure w124) >>= fun x144 => pure x144.2.1) >>= fun x146 => ((pure at_132) >>= fun i145 => pure (some i145)) >>= fun l147 => (pure none) >>= fun h148 => pure (cutL x146 l147 h148)) >>= fun y150 => Mo.rq (x149.length + y150.length ≤ sizeLine) (x149 ++ y150)) >>= fun x154 => (((pure w124) >>= fun x151 => pure x151.2.2) >>= fun x152 => (pure ()) >>= fun y153 => pure (x152, y153)) >>= fun y155 => pure (x154, y155)) >>= fun y157 => pure (x156, y157)) >>= fun y158 => pure (y158.1, y158.2.1, y158.2.2.1)) >>= fun x159 => Mo.rq (s123.length < sizeLine) x159 >>= fun x159 => (pure ((s123 ++ [x159])))))) xs (longer_121) >>= fun s160 => ((((pure (201 : Int)) >>= fun x162 => (pure ()) >>= fun y163 => pure (x162, y163)) >>= fun y161 => Mo.take y161.1) >>= fun steps_164 => (((((pure names_31) >>= fun x166 => pure (x166.length : Int)) >>= fun x167 => (pure ()) >>= fun y168 => pure (x167, y168)) >>= fun y165 => P_Lperm y165.1) >>= fun perm_169 => (((pure sheets_26) >>= Mo.lc (fun w170 => (pure true)) (fun w170 => ((((pure w170) >>= fun x171 => pure x171.1) >>= fun x189 => (((pure w170) >>= fun x172 => pure x172.2.1) >>= fun x187 => (((((pure w170) >>= fun x174 => pure x174.2.2) >>= fun x183 => (((pure names_31) >>= fun x179 => ((((pure names_31) >>= fun x175 => pure (x175.length : Int)) >>= fun x177 => (pure ()) >>= fun y178 => pure (x177, y178)) >>= fun y176 => Mo.take y176.1) >>= fun i180 => Mo.get (atI x179 i180)) >>= fun x181 => (pure ()) >>= fun y182 => pure (x181, y182)) >>= fun y184 => pure (x183, y184)) >>= fun y173 => P_Lwith y173.1 y173.2.1) >>= fun x185 => (pure ()) >>= fun y186 => pure (x185, y186)) >>= fun y188 => pure (x187, y188)) >>= fun y190 => pure (x189, y190)) >>= fun y191 => pure (y191.1, y191.2.1, y191.2.2.1)))) >>= fun wider_192 => ((((pure starts_28) >>= fun x202 => (((pure names_31) >>= fun x198 => ((((pure names_31) >>= fun x194 => pure (x194.length : Int)) >>= fun x196 => (pure ()) >>= fun y197 => pure (x196, y197)) >>= fun y195 => Mo.take y195.1) >>= fun i199 => Mo.get (atI x198 i199)) >>= fun x200 => (pure ()) >>= fun y201 => pure (x200, y201)) >>= fun y203 => pure (x202, y203)) >>= fun y193 => P_Lwith y193.1 y193.2.1) >>= fun begin_204 => ((((((((pure sheets_26) >>= fun x208 => (pure ()) >>= fun y209 => pure (x208, y209)) >>= fun y207 => P_Lhanded y207.1) >>= fun x213 => (((pure starts_28) >>= fun x210 => pure x210) >>= fun x211 => (pure ()) >>= fun y212 => pure (x211, y212)) >>= fun y214 => pure (x213, y214)) >>= fun y206 => P_BookInit y206.1 y206.2.1) >>= fun x220 => ((((pure pairs_92) >>= fun x216 => (pure ()) >>= fun y217 => pure (x216, y217)) >>= fun y215 => P_Ltable y215.1) >>= fun x218 => (pure ()) >>= fun y219 => pure (x218, y219)) >>= fun y221 => pure (x220, y221)) >>= fun y205 => P_heaviest y205.1 y205.2.1) >>= fun heavy_222 => (((((pure heavy_222) >>= fun x237 => ((pure names_31) >>= fun x235 => ((pure followers_39) >>= fun x233 => ((pure reached_50) >>= fun x231 => ((((pure sheets_26) >>= fun x227 => ((pure pairs_92) >>= fun x225 => (pure ()) >>= fun y226 => pure (x225, y226)) >>= fun y228 => pure (x227, y228)) >>= fun y224 => P_Lpageweights y224.1 y224.2.1) >>= fun x229 => (pure ()) >>= fun y230 => pure (x229, y230)) >>= fun y232 => pure (x231, y232)) >>= fun y234 => pure (x233, y234)) >>= fun y236 => pure (x235, y236)) >>= fun y238 => pure (x237, y238)) >>= fun y223 => P_Lheavygood y223.1 y223.2.1 y223.2.2.1 y223.2.2.2.1 y223.2.2.2.2.1) >>= fun b239 => pure (!b239)) >>= fun c240 => if c240 = true then ((pure false) >>= fun r241 => pure r241) else ((((pure sheets_26) >>= fun x249 => ((pure starts_28) >>= fun x247 => ((pure pairs_92) >>= fun x245 => ((pure steps_164) >>= fun x243 => (pure ()) >>= fun y244 => pure (x243, y244)) >>= fun y246 => pure (x245, y246)) >>= fun y248 => pure (x247, y248)) >>= fun y250 => pure (x249, y250)) >>= fun y242 => P_Lseen y242.1 y242.2.1 y242.2.2.1 y242.2.2.2.1) >>= fun base_251 => ((((pure base_251) >>= fun x252 => pure x252.isNone) >>= fun b269 => if b269 then pure true else ((((((((pure heavy_222) >>= fun x253 => pure (x253.1)) >>= fun x257 => (((pure heavy_222) >>= fun x254 => pure (x254.2.2)) >>= fun x255 => (pure ()) >>= fun y256 => pure (x255, y256)) >>= fun y258 => pure (x257, y258)) >>= fun y259 => pure (y259.1, y259.2.1)) >>= fun v260 => Mo.rq (Enc.ok (rT2 (rT2 rI rI) (rL (rO rI))) v260) (Enc.d (rT2 (rT2 rI rI) (rL (rO rI))) v260)) >>= fun x266 => (((((pure base_251) >>= Mo.get) >>= fun x261 => pure ((fun (x : ((Int × Int) × (List (Option Int)) × Int)) => (x.1, x.2.1)) x261)) >>= fun v262 => Mo.rq (Enc.ok (rT2 (rT2 rI rI) (rL (rO rI))) v262) (Enc.d (rT2 (rT2 rI rI) (rL (rO rI))) v262)) >>= fun x264 => (pure ()) >>= fun y265 => pure (x264, y265)) >>= fun y267 => pure (x266, y267)) >>= fun y263 => Mo.rq (y263.1 = y263.2.1) true) >>= fun b268 => pure (!b268))) >>= fun c270 => if c270 = true then ((pure false) >>= fun r271 => pure r271) else (((pure pairs_92) >>= Mo.lc (fun w272 => (((pure w272) >>= fun x273 => pure x273.2) >>= fun i274 => (pure (0 : Int)) >>= fun j275 => pure (decide (j275 < i274)))) (fun w272 => ((((pure w272) >>= fun x276 => pure x276.1) >>= fun x282 => ((((pure w272) >>= fun x277 => pure x277.2) >>= fun i278 => (pure factor_77) >>= fun j279 => Mo.rq (CMul i278 j279) (i278 * j279)) >>= fun x280 => (pure ()) >>= fun y281 => pure (x280, y281)) >>= fun y283 => pure (x282, y283)) >>= fun y284 => pure (y284.1, y284.2.1)))) >>= fun scaled_285 => ((((((pure base_251) >>= Mo.get) >>= fun x300 => ((((pure sheets_26) >>= fun x294 => ((pure starts_28) >>= fun x292 => ((pure scaled_285) >>= fun x290 => ((pure steps_164) >>= fun x288 => (pure ()) >>= fun y289 => pure (x288, y289)) >>= fun y291 => pure (x290, y291)) >>= fun y293 => pure (x292, y293)) >>= fun y295 => pure (x294, y295)) >>= fun y287 => P_Lseen y287.1 y287.2.1 y287.2.2.1 y287.2.2.2.1) >>= fun x298 => ((pure factor_77) >>= fun x296 => (pure ()) >>= fun y297 => pure (x296, y297)) >>= fun y299 => pure (x298, y299)) >>= fun y301 => pure (x300, y301)) >>= fun y286 => P_Lscaledgood y286.1 y286.2.1 y286.2.2.1) >>= fun b302 => pure (!b302)) >>= fun c303 => if c303 = true then ((pure false) >>= fun r304 => pure r304) else ((((((pure base_251) >>= Mo.get) >>= fun x317 => ((((pure sheets_26) >>= fun x313 => ((pure starts_28) >>= fun x311 => ((pure heavier_109) >>= fun x309 => ((pure steps_164) >>= fun x307 => (pure ()) >>= fun y308 => pure (x307, y308)) >>= fun y310 => pure (x309, y310)) >>= fun y312 => pure (x311, y312)) >>= fun y314 => pure (x313, y314)) >>= fun y306 => P_Lseen y306.1 y306.2.1 y306.2.2.1 y306.2.2.2.1) >>= fun x315 => (pure ()) >>= fun y316 => pure (x315, y316)) >>= fun y318 => pure (x317, y318)) >>= fun y305 => P_Lnotless y305.1 y305.2.1) >>= fun b319 => pure (!b319)) >>= fun c320 => if c320 = true then ((pure false) >>= fun r321 => pure r321) else ((((((((((pure base_251) >>= Mo.get) >>= fun x322 => pure x322.1) >>= fun x323 => pure x323.1) >>= fun i328 => ((pure extra_120) >>= fun i326 => ((((pure base_251) >>= Mo.get) >>= fun x324 => pure x324.1) >>= fun x325 => pure x325.2) >>= fun j327 => Mo.rq (CMul i326 j327) (i326 * j327)) >>= fun j329 => pure (i328 + j329)) >>= fun x334 => (((((pure base_251) >>= Mo.get) >>= fun x330 => pure x330.1) >>= fun x331 => pure x331.2) >>= fun x332 => (pure ()) >>= fun y333 => pure (x332, y333)) >>= fun y335 => pure (x334, y335)) >>= fun y336 => pure (y336.1, y336.2.1)) >>= fun x347 => ((((pure base_251) >>= Mo.get) >>= fun x337 => pure x337.2.1) >>= fun x345 => (((((pure base_251) >>= Mo.get) >>= fun x338 => pure x338.2.2) >>= fun i341 => ((pure extra_120) >>= fun i339 => (pure steps_164) >>= fun j340 => Mo.rq (CMul i339 j340) (i339 * j340)) >>= fun j342 => pure (i341 + j342)) >>= fun x343 => (pure ()) >>= fun y344 => pure (x343, y344)) >>= fun y346 => pure (x345, y346)) >>= fun y348 => pure (x347, y348)) >>= fun y349 => pure (y349.1, y349.2.1, y349.2.2.1)) >>= fun due_350 => ((((((((pure s160) >>= fun x368 => ((pure starts_28) >>= fun x366 => (((pure pairs_92) >>= fun x360 => (((((pure fresh_116) >>= fun x354 => ((pure extra_120) >>= fun x352 => (pure ()) >>= fun y353 => pure (x352, y353)) >>= fun y355 => pure (x354, y355)) >>= fun y356 => pure (y356.1, y356.2.1)) >>= fun x357 => (pure ()) >>= fun y358 => pure (x357, y358)) >>= fun y359 => pure [y359.1]) >>= fun y361 => Mo.rq (x360.length + y361.length ≤ sizeLine) (x360 ++ y361)) >>= fun x364 => ((pure steps_164) >>= fun x362 => (pure ()) >>= fun y363 => pure (x362, y363)) >>= fun y365 => pure (x364, y365)) >>= fun y367 => pure (x366, y367)) >>= fun y369 => pure (x368, y369)) >>= fun y351 => P_Lseen y351.1 y351.2.1 y351.2.2.1 y351.2.2.2.1) >>= fun v370 => Mo.rq (Enc.ok (rO (rT3 (rT2 rI rI) (rL (rO rI)) rI)) v370) (Enc.d (rO (rT3 (rT2 rI rI) (rL (rO rI)) rI)) v370)) >>= fun x375 => (((pure due_350) >>= fun v371 => Mo.rq (Enc.ok (rT3 (rT2 rI rI) (rL (rO rI)) rI) v371) (Enc.d (rT3 (rT2 rI rI) (rL (rO rI)) rI) v371)) >>= fun x373 => (pure ()) >>= fun y374 => pure (x373, y374)) >>= fun y376 => pure (x375, y376)) >>= fun y372 => Mo.rq (y372.1 = y372.2.1) true) >>= fun b377 => pure (!b377)) >>= fun c378 => if c378 = true then ((pure false) >>= fun r379 => pure r379) else ((((((pure base_251) >>= Mo.get) >>= fun x380 => pure x380.1) >>= fun x390 => (((pure perm_169) >>= Mo.lc (fun w381 => (pure true)) (fun w381 => ((((pure base_251) >>= Mo.get) >>= fun x382 => pure x382.2.1) >>= fun x383 => (pure w381) >>= fun i384 => Mo.get (atI x383 i384)))) >>= fun x388 => ((((pure base_251) >>= Mo.get) >>= fun x385 => pure x385.2.2) >>= fun x386 => (pure ()) >>= fun y387 => pure (x386, y387)) >>= fun y389 => pure (x388, y389)) >>= fun y391 => pure (x390, y391)) >>= fun y392 => pure (y392.1, y392.2.1, y392.2.2.1)) >>= fun due_393 => (((((((((pure perm_169) >>= Mo.lc (fun w395 => (pure true)) (fun w395 => ((pure sheets_26) >>= fun x396 => (pure w395) >>= fun i397 => Mo.get (atI x396 i397)))) >>= fun x404 => ((pure starts_28) >>= fun x402 => ((pure pairs_92) >>= fun x400 => ((pure steps_164) >>= fun x398 => (pure ()) >>= fun y399 => pure (x398, y399)) >>= fun y401 => pure (x400, y401)) >>= fun y403 => pure (x402, y403)) >>= fun y405 => pure (x404, y405)) >>= fun y394 => P_Lseen y394.1 y394.2.1 y394.2.2.1 y394.2.2.2.1) >>= fun v406 => Mo.rq (Enc.ok (rO (rT3 (rT2 rI rI) (rL (rO rI)) rI)) v406) (Enc.d (rO (rT3 (rT2 rI rI) (rL (rO rI)) rI)) v406)) >>= fun x411 => (((pure due_393) >>= fun v407 => Mo.rq (Enc.ok (rT3 (rT2 rI rI) (rL (rO rI)) rI) v407) (Enc.d (rT3 (rT2 rI rI) (rL (rO rI)) rI) v407)) >>= fun x409 => (pure ()) >>= fun y410 => pure (x409, y410)) >>= fun y412 => pure (x411, y412)) >>= fun y408 => Mo.rq (y408.1 = y408.2.1) true) >>= fun b413 => pure (!b413)) >>= fun c414 => if c414 = true then ((pure false) >>= fun r415 => pure r415) else ((((((pure base_251) >>= Mo.get) >>= fun x428 => ((((pure wider_192) >>= fun x424 => ((pure begin_204) >>= fun x422 => ((pure pairs_92) >>= fun x420 => ((pure steps_164) >>= fun x418 => (pure ()) >>= fun y419 => pure (x418, y419)) >>= fun y421 => pure (x420, y421)) >>= fun y423 => pure (x422, y423)) >>= fun y425 => pure (x424, y425)) >>= fun y417 => P_Lseen y417.1 y417.2.1 y417.2.2.1 y417.2.2.2.1) >>= fun x426 => (pure ()) >>= fun y427 => pure (x426, y427)) >>= fun y429 => pure (x428, y429)) >>= fun y416 => P_Lnotless y416.1 y416.2.1) >>= fun b430 => pure (!b430)) >>= fun c431 => if c431 = true then ((pure false) >>= fun r432 => pure r432) else ((((((pure (0 : Int)) >>= fun x435 => ((pure (1 : Int)) >>= fun x433 => (pure ()) >>= fun y434 => pure (x433, y434)) >>= fun y436 => pure (x435, y436)) >>= fun y437 => pure (y437.1, y437.2.1)) >>= fun x453 => (((((((pure (0 : Int)) >>= fun x439 => (pure ()) >>= fun y440 => pure (x439, y440)) >>= fun y441 => pure [y441.1]) >>= fun x443 => ((pure names_31) >>= fun x442 => pure (x442.length : Int)) >>= fun n444 => Mo.rq (-(2 ^ 63) ≤ n444 ∧ n444 < 2 ^ 63 ∧ x443.length * n444.toNat ≤ sizeLine) (List.replicate n444.toNat x443).flatten) >>= fun x447 => ((pure reached_50) >>= fun x445 => (pure ()) >>= fun y446 => pure (x445, y446)) >>= fun y448 => pure (x447, y448)) >>= fun y438 => P_Lshown y438.1 y438.2.1) >>= fun x451 => ((pure (0 : Int)) >>= fun x449 => (pure ()) >>= fun y450 => pure (x449, y450)) >>= fun y452 => pure (x451, y452)) >>= fun y454 => pure (x453, y454)) >>= fun y455 => pure (y455.1, y455.2.1, y455.2.2.1)) >>= fun due_456 => ((((((((pure sheets_26) >>= fun x464 => ((pure starts_28) >>= fun x462 => ((pure []) >>= fun x460 => ((pure steps_164) >>= fun x458 => (pure ()) >>= fun y459 => pure (x458, y459)) >>= fun y461 => pure (x460, y461)) >>= fun y463 => pure (x462, y463)) >>= fun y465 => pure (x464, y465)) >>= fun y457 => P_Lseen y457.1 y457.2.1 y457.2.2.1 y457.2.2.2.1) >>= fun v466 => Mo.rq (Enc.ok (rO (rT3 (rT2 rI rI) (rL (rO rI)) rI)) v466) (Enc.d (rO (rT3 (rT2 rI rI) (rL (rO rI)) rI)) v466)) >>= fun x471 => (((pure due_456) >>= fun v467 => Mo.rq (Enc.ok (rT3 (rT2 rI rI) (rL (rO rI)) rI) v467) (Enc.d (rT3 (rT2 rI rI) (rL (rO rI)) rI) v467)) >>= fun x469 => (pure ()) >>= fun y470 => pure (x469, y470)) >>= fun y472 => pure (x471, y472)) >>= fun y468 => Mo.rq (y468.1 = y468.2.1) true) >>= fun b473 => pure (!b473)) >>= fun c474 => if c474 = true then ((pure false) >>= fun r475 => pure r475) else (((((((pure sheets_26) >>= fun x484 => ((pure starts_28) >>= fun x482 => ((pure pairs_92) >>= fun x480 => ((pure steps_164) >>= fun x478 => (pure ()) >>= fun y479 => pure (x478, y479)) >>= fun y481 => pure (x480, y481)) >>= fun y483 => pure (x482, y483)) >>= fun y485 => pure (x484, y485)) >>= fun y477 => P_Lseen y477.1 y477.2.1 y477.2.2.1 y477.2.2.2.1) >>= fun v486 => Mo.rq (Enc.ok (rO (rT3 (rT2 rI rI) (rL (rO rI)) rI)) v486) (Enc.d (rO (rT3 (rT2 rI rI) (rL (rO rI)) rI)) v486)) >>= fun x491 => (((pure base_251) >>= fun v487 => Mo.rq (Enc.ok (rO (rT3 (rT2 rI rI) (rL (rO rI)) rI)) v487) (Enc.d (rO (rT3 (rT2 rI rI) (rL (rO rI)) rI)) v487)) >>= fun x489 => (pure ()) >>= fun y490 => pure (x489, y490)) >>= fun y492 => pure (x491, y492)) >>= fun y488 => Mo.rq (y488.1 = y488.2.1) true) >>= fun r476 => pure r476))))))))))))))))))))))))))))))))))
theorem fn_Law (T : Tx K mg) : FnOk P w K mg base (L2.CX P w) 10 T.flaw T.dlaw ["_law_script"] (spR K mg (fun (c : Unit) (z : List Int × Unit) => [.fz ((rScr K) z.1)]) (fun z => P_Law z.1) (RK.fz rB)) := by
  have GBook_init := fn_BookInit (P := P) (w := w) (base := base) T
  have G_law_grown := fn_Lgrown (P := P) (w := w) (base := base) T
  have G_law_handed := fn_Lhanded (P := P) (w := w) (base := base) T
  have G_law_heavy_good := fn_Lheavygood (P := P) (w := w) (base := base) T
  have G_law_not_less := fn_Lnotless (P := P) (w := w) (base := base) T
  have G_law_page_weights := fn_Lpageweights (P := P) (w := w) (base := base) T
  have G_law_perm := fn_Lperm (P := P) (w := w) (base := base) T
  have G_law_places := fn_Lplaces (P := P) (w := w) (base := base) T
  have G_law_pool := fn_pool (P := P) (w := w) (base := base) T
  have G_law_same := fn_same (P := P) (w := w) (base := base) T
  have G_law_scaled_good := fn_Lscaledgood (P := P) (w := w) (base := base) T
  have G_law_seen := fn_Lseen (P := P) (w := w) (base := base) T
  have G_law_sheets := fn_Lsheets (P := P) (w := w) (base := base) T
  have G_law_shown := fn_Lshown (P := P) (w := w) (base := base) T
  have G_law_table := fn_Ltable (P := P) (w := w) (base := base) T
  have G_law_take := fn_take (P := P) (w := w) (base := base) T
  have G_law_with := fn_Lwith (P := P) (w := w) (base := base) T
  have G_law_word := fn_Lword (P := P) (w := w) (base := base) T
  have Gheaviest := fn_heaviest (P := P) (w := w) (base := base) T
  refine fn_mk (Γe := fun c z => [.un, .un, .un, .un, .un, .un, .un, .un, .un, .un, .un, .un, .un, .un, .un, .un, .un, .un, .un, .un, .un, .un, .un, .un, .un, .un, .un]) (Γ0 := fun c z => [.fz ((rScr K) z.1), .un, .un, .un, .un, .un, .un, .un, .un, .un, .un, .un, .un, .un, .un, .un, .un, .un, .un, .un, .un, .un, .un, .un, .un, .un, .un]) (Z := (fun _ _ x => .ret ((RK.fz rB).ok x))) T.Flaw scLaw (fun _ _ => rfl) (fun _ _ => rfl) (fun _ _ => ⟨.inl rfl, .inl rfl, .inl rfl, .inl rfl, .inl rfl, .inl rfl, .inl rfl, .inl rfl, .inl rfl, .inl rfl, .inl rfl, .inl rfl, .inl rfl, .inl rfl, .inl rfl, .inl rfl, .inl rfl, .inl rfl, .inl rfl, .inl rfl, .inl rfl, .inl rfl, .inl rfl, .inl rfl, .inl rfl, .inl rfl, .inl rfl, trivial⟩) (fun _ _ _ _ _ _ h => (own_none rfl h).elim) (fun _ _ _ => .inl rfl) (fun cdv A outer s H E a0 y hr => ?_)
  obtain ⟨script_, _⟩ := y
  show RB _ _ ([.un, .un, .un, .un, .un, .un, .un, .un, .un, .un, .un, .un, .un, .un, .un, .un, .un, .un, .un, .un, .un, .un, .un, .un, .un, .un, .un] : RF.Ctx) false [.fz ((rScr K) script_), .un, .un, .un, .un, .un, .un, .un, .un, .un, .un, .un, .un, .un, .un, .un, .un, .un, .un, .un, .un, .un, .un, .un, .un, .un, .un] _ (P_Law script_) _
  exact (rb_setO (ρ := fun _ => oPool) (ps_set (i := 1) scLaw.nd rfl (.inr rfl) peE) (re_call () G_law_pool (hr.mono (by decide)) (takes_of rfl rfl rfl rfl) (ra_cons (re_var (ρ := (rScr K)) (x := script_) 0 rfl (pv 0)) (ra_cons re_int ra_nil)) T.g_law_pool T.F_law_pool.kp T.b_law_pool) rfl fun (pool_6 : Unit) a7 => (rb_set (ps_set (i := 2) scLaw.nd rfl (.inl rfl) peE) (re_call a7 G_law_sheets (hr.mono (by decide)) (takes_of rfl rfl rfl rfl) (ra_own (qo := oPool) rfl (pv 1) ra_nil) T.g_law_sheets T.F_law_sheets.kp T.b_law_sheets) rfl fun (drawn_9 : ((List (Str × (List Str) × (List Str))) × (List Str) × (List Str))) => (rb_set (ps_set (i := 4) scLaw.nd rfl (.inr rfl) peE) (re_frz (re_of (pe_lc (own := [("_law_sheet", 3)]) (g := gName 3) rfl scLaw.nd (pi_list peE) (blkOk_by (own := [("_law_sheet", 3)]) (N := ["_law_script", "_law_pool_here", "_law_drawn", "_law_sheet", "_law_sheets_here", "_law_starts", "_law_names", "_law_followers", "_law_reached", "_law_factor", "_law_pairs", "_law_heavier", "_law_fresh", "_law_extra", "_law_longer", "_law_at", "_law_steps", "_law_perm_here", "_law_wider", "_law_begin", "_law_heavy", "_law_base", "_law_scaled", "_law_due", "_law_line", "_law_pair", "_law_k"]) (sc := defScope sLaw) (by decide +kernel)) (fun _ _ _ _ _ => pg_name (i := 3) scLaw.nd rfl (.inl rfl)) ptPi peEi) (rte_lc (vs := [3]) (fun (x : (Str × (List Str) × (List Str))) Γ => Γ.set 3 (.fz ((rT3 rS (rL rS) (rL rS)) x))) (ri_list (re_at (ρ := (rL (rT3 rS (rL rS) (rL rS)))) (g := fun (x : ((List (Str × (List Str) × (List Str))) × (List Str) × (List Str))) => x.1) (fun (x : ((List (Str × (List Str) × (List Str))) × (List Str) × (List Str))) => [(rL (rT3 rS (rL rS) (rL rS))) x.1, (rL rS) x.2.1, (rL rS) x.2.2]) (0) (re_var (ρ := (rT3 (rL (rT3 rS (rL rS) (rL rS))) (rL rS) (rL rS))) (x := drawn_9) 2 rfl (pv 2)) (hc := re_int))) (fun _ => rg_name) (fun _ => rgo_name) (un1 rfl) (fun (w11 : (Str × (List Str) × (List Str))) => rti_nil) (fun (w11 : (Str × (List Str) × (List Str))) _ _ _ _ _ => (re_tup (fun (y25 : Str × (List Str) × (List Str) × Unit) => (y25.1, y25.2.1, y25.2.2.1)) (rT3 rS (rL rS) (rL rS)) (fun (y25 : Str × (List Str) × (List Str) × Unit) => [rS y25.1, (rL rS) y25.2.1, (rL rS) y25.2.2.1]) (ra_cons (re_at (ρ := rS) (g := fun (x : (Str × (List Str) × (List Str))) => x.1) (fun (x : (Str × (List Str) × (List Str))) => [rS x.1, (rL rS) x.2.1, (rL rS) x.2.2]) (0) (re_var (ρ := (rT3 rS (rL rS) (rL rS))) (x := w11) 3 rfl (pv 3)) (hc := re_int)) (ra_cons (re_frz (re_slL (re_at (ρ := (rL rS)) (g := fun (x : (Str × (List Str) × (List Str))) => x.2.1) (fun (x : (Str × (List Str) × (List Str))) => [rS x.1, (rL rS) x.2.1, (rL rS) x.2.2]) (1) (re_var (ρ := (rT3 rS (rL rS) (rL rS))) (x := w11) 3 rfl (pv 3)) (hc := re_int)) rp_none (rp_some re_int)) frz_L) (ra_cons (re_at (ρ := (rL rS)) (g := fun (x : (Str × (List Str) × (List Str))) => x.2.2) (fun (x : (Str × (List Str) × (List Str))) => [rS x.1, (rL rS) x.2.1, (rL rS) x.2.2]) (2) (re_var (ρ := (rT3 rS (rL rS) (rL rS))) (x := w11) 3 rfl (pv 3)) (hc := re_int)) ra_nil))))))) frz_L) rfl fun (sheets_26 : (List (Str × (List Str) × (List Str)))) => (rb_set (ps_set (i := 5) scLaw.nd rfl (.inl rfl) peE) (re_at (ρ := (rL rS)) (g := fun (x : ((List (Str × (List Str) × (List Str))) × (List Str) × (List Str))) => x.2.1) (fun (x : ((List (Str × (List Str) × (List Str))) × (List Str) × (List Str))) => [(rL (rT3 rS (rL rS) (rL rS))) x.1, (rL rS) x.2.1, (rL rS) x.2.2]) (1) (re_var (ρ := (rT3 (rL (rT3 rS (rL rS) (rL rS))) (rL rS) (rL rS))) (x := drawn_9) 2 rfl (pv 2)) (hc := re_int)) rfl fun (starts_28 : (List Str)) => (rb_set (ps_set (i := 6) scLaw.nd rfl (.inr rfl) peE) (re_frz (re_of (pe_lc (own := [("_law_sheet", 3)]) (g := gName 3) rfl scLaw.nd (pi_list peE) (blkOk_by (own := [("_law_sheet", 3)]) (N := ["_law_script", "_law_pool_here", "_law_drawn", "_law_sheet", "_law_sheets_here", "_law_starts", "_law_names", "_law_followers", "_law_reached", "_law_factor", "_law_pairs", "_law_heavier", "_law_fresh", "_law_extra", "_law_longer", "_law_at", "_law_steps", "_law_perm_here", "_law_wider", "_law_begin", "_law_heavy", "_law_base", "_law_scaled", "_law_due", "_law_line", "_law_pair", "_law_k"]) (sc := defScope sLaw) (by decide +kernel)) (fun _ _ _ _ _ => pg_name (i := 3) scLaw.nd rfl (.inl rfl)) ptPi peEi) (rte_lc (vs := [3]) (fun (x : (Str × (List Str) × (List Str))) Γ => Γ.set 3 (.fz ((rT3 rS (rL rS) (rL rS)) x))) (ri_list (re_var (ρ := (rL (rT3 rS (rL rS) (rL rS)))) (x := sheets_26) 4 rfl (pv 4))) (fun _ => rg_name) (fun _ => rgo_name) (un1 rfl) (fun (w29 : (Str × (List Str) × (List Str))) => rti_nil) (fun (w29 : (Str × (List Str) × (List Str))) _ _ _ _ _ => (re_at (ρ := rS) (g := fun (x : (Str × (List Str) × (List Str))) => x.1) (fun (x : (Str × (List Str) × (List Str))) => [rS x.1, (rL rS) x.2.1, (rL rS) x.2.2]) (0) (re_var (ρ := (rT3 rS (rL rS) (rL rS))) (x := w29) 3 rfl (pv 3)) (hc := re_int))))) frz_L) rfl fun (names_31 : (List Str)) => (rb_set (ps_setLc (i := 7) (own := [("_law_sheet", 3)]) (g := gName 3) rfl scLaw.nd rfl rfl (sw_true rfl rfl rfl (by decide +kernel)) (pi_list peE) (blkOk_by (own := [("_law_sheet", 3)]) (N := ["_law_script", "_law_pool_here", "_law_drawn", "_law_sheet", "_law_sheets_here", "_law_starts", "_law_names", "_law_followers", "_law_reached", "_law_factor", "_law_pairs", "_law_heavier", "_law_fresh", "_law_extra", "_law_longer", "_law_at", "_law_steps", "_law_perm_here", "_law_wider", "_law_begin", "_law_heavy", "_law_base", "_law_scaled", "_law_due", "_law_line", "_law_pair", "_law_k"]) (sc := defScope sLaw) (by decide +kernel)) (fun _ _ _ _ _ => pg_name (i := 3) scLaw.nd rfl (.inl rfl)) ptPi peEi) (rte_frz (rte_lc (vs := [3]) (fun (x : (Str × (List Str) × (List Str))) Γ => Γ.set 3 (.fz ((rT3 rS (rL rS) (rL rS)) x))) (ri_list (re_var (ρ := (rL (rT3 rS (rL rS) (rL rS)))) (x := sheets_26) 4 rfl (pv 4))) (fun _ => rg_name) (fun _ => rgo_name) (un1 rfl) (fun (w32 : (Str × (List Str) × (List Str))) => rti_nil) (fun (w32 : (Str × (List Str) × (List Str))) _ _ _ _ _ => (re_frz (re_call () G_law_places (hr.mono (by decide)) takes0 (ra_cons (re_var (ρ := (rL rS)) (x := names_31) 6 rfl (pv 6)) (ra_cons (re_at (ρ := (rL rS)) (g := fun (x : (Str × (List Str) × (List Str))) => x.2.2) (fun (x : (Str × (List Str) × (List Str))) => [rS x.1, (rL rS) x.2.1, (rL rS) x.2.2]) (2) (re_var (ρ := (rT3 rS (rL rS) (rL rS))) (x := w32) 3 rfl (pv 3)) (hc := re_int)) ra_nil)) T.g_law_places T.F_law_places.kp T.b_law_places) frz_L))) frz_L) rfl fun (followers_39 : (List (List Int))) => (rb_set (ps_set (i := 8) scLaw.nd rfl (.inl rfl) peE) (re_frz (re_call () G_law_grown (hr.mono (by decide)) (takes_of rfl rfl rfl rfl) (ra_cons (re_var (ρ := (rL (rL rI))) (x := followers_39) 7 rfl (pv 7)) (ra_cons (re_frz (re_call () G_law_places (hr.mono (by decide)) (takes_of rfl rfl rfl rfl) (ra_cons (re_var (ρ := (rL rS)) (x := names_31) 6 rfl (pv 6)) (ra_cons (re_var (ρ := (rL rS)) (x := starts_28) 5 rfl (pv 5)) ra_nil)) T.g_law_places T.F_law_places.kp T.b_law_places) frz_L) ra_nil)) T.g_law_grown T.F_law_grown.kp T.b_law_grown) frz_L) rfl fun (reached_50 : (List Int)) => (rb_setO (ρ := fun _ => oPool) (ps_set (i := 1) scLaw.nd rfl (.inr rfl) peE) (re_call () G_law_pool (hr.mono (by decide)) (takes_of rfl rfl rfl rfl) (ra_cons (re_var (ρ := (rScr K)) (x := script_) 0 rfl (pv 0)) (ra_cons re_int ra_nil)) T.g_law_pool T.F_law_pool.kp T.b_law_pool) rfl fun (pool_56 : Unit) a57 => (rb_set (ps_set (i := 9) scLaw.nd rfl (.inr rfl) peE) (re_add re_int (re_call a57 G_law_take (hr.mono (by decide)) (takes_of rfl rfl rfl rfl) (ra_own (qo := oPool) rfl (pv 1) (ra_cons (re_ixL (re_frz (re_lst (fun (y66 : Int × Int × Int × Int × Unit) => [y66.1, y66.2.1, y66.2.2.1, y66.2.2.2.1]) rI (ra_cons re_int (ra_cons re_int (ra_cons re_int (ra_cons re_int ra_nil))))) frz_L) (re_call a57 G_law_take (hr.mono (by decide)) (takes_of rfl rfl rfl rfl) (ra_own (qo := oPool) rfl (pv 1) (ra_cons re_int ra_nil)) T.g_law_take T.F_law_take.kp T.b_law_take)) ra_nil)) T.g_law_take T.F_law_take.kp T.b_law_take)) rfl fun (factor_77 : Int) => (rb_set (ps_setLc (i := 10) (own := [("_law_line", 24)]) (g := gName 24) rfl scLaw.nd rfl rfl (sw_true rfl rfl rfl (by decide +kernel)) (pi_list peE) (blkOk_by (own := [("_law_line", 24)]) (N := ["_law_script", "_law_pool_here", "_law_drawn", "_law_sheet", "_law_sheets_here", "_law_starts", "_law_names", "_law_followers", "_law_reached", "_law_factor", "_law_pairs", "_law_heavier", "_law_fresh", "_law_extra", "_law_longer", "_law_at", "_law_steps", "_law_perm_here", "_law_wider", "_law_begin", "_law_heavy", "_law_base", "_law_scaled", "_law_due", "_law_line", "_law_pair", "_law_k"]) (sc := defScope sLaw) (by decide +kernel)) (fun _ _ _ _ _ => pg_name (i := 24) scLaw.nd rfl (.inl rfl)) ptPi peEi) (rte_frz (rte_lc (vs := [24]) (fun (x : Str) Γ => Γ.set 24 (.fz (rS x))) (ri_list (re_at (ρ := (rL rS)) (g := fun (x : ((List (Str × (List Str) × (List Str))) × (List Str) × (List Str))) => x.2.2) (fun (x : ((List (Str × (List Str) × (List Str))) × (List Str) × (List Str))) => [(rL (rT3 rS (rL rS) (rL rS))) x.1, (rL rS) x.2.1, (rL rS) x.2.2]) (2) (re_var (ρ := (rT3 (rL (rT3 rS (rL rS) (rL rS))) (rL rS) (rL rS))) (x := drawn_9) 2 rfl (pv 2)) (hc := re_int))) (fun _ => rg_name) (fun _ => rgo_name) (un1 rfl) (fun (w79 : Str) => rti_nil) (fun (w79 : Str) _ _ _ _ _ => (re_tup (fun (y91 : Str × Int × Unit) => (y91.1, y91.2.1)) (rT2 rS rI) (fun (y91 : Str × Int × Unit) => [rS y91.1, rI y91.2.1]) (ra_cons (re_var (ρ := rS) (x := w79) 24 rfl (pv 24)) (ra_cons (re_call a57 G_law_take (hr.mono (by decide)) takes0 (ra_own (qo := oPool) rfl (pv 1) (ra_cons (re_add (re_div re_int (re_var (ρ := rI) (x := factor_77) 9 rfl (pv 9))) re_int) ra_nil)) T.g_law_take T.F_law_take.kp T.b_law_take) ra_nil))))) frz_L) rfl fun (pairs_92 : (List (Str × Int))) => (rb_set (ps_setLc (i := 11) (own := [("_law_pair", 25)]) (g := gName 25) rfl scLaw.nd rfl rfl (sw_true rfl rfl rfl (by decide +kernel)) (pi_list peE) (blkOk_by (own := [("_law_pair", 25)]) (N := ["_law_script", "_law_pool_here", "_law_drawn", "_law_sheet", "_law_sheets_here", "_law_starts", "_law_names", "_law_followers", "_law_reached", "_law_factor", "_law_pairs", "_law_heavier", "_law_fresh", "_law_extra", "_law_longer", "_law_at", "_law_steps", "_law_perm_here", "_law_wider", "_law_begin", "_law_heavy", "_law_base", "_law_scaled", "_law_due", "_law_line", "_law_pair", "_law_k"]) (sc := defScope sLaw) (by decide +kernel)) (fun _ _ _ _ _ => pg_name (i := 25) scLaw.nd rfl (.inl rfl)) ptPi peEi) (rte_frz (rte_lc (vs := [25]) (fun (x : (Str × Int)) Γ => Γ.set 25 (.fz ((rT2 rS rI) x))) (ri_list (re_var (ρ := (rL (rT2 rS rI))) (x := pairs_92) 10 rfl (pv 10))) (fun _ => rg_name) (fun _ => rgo_name) (un1 rfl) (fun (w93 : (Str × Int)) => rti_nil) (fun (w93 : (Str × Int)) _ _ _ _ _ => (re_tup (fun (y108 : Str × Int × Unit) => (y108.1, y108.2.1)) (rT2 rS rI) (fun (y108 : Str × Int × Unit) => [rS y108.1, rI y108.2.1]) (ra_cons (re_at (ρ := rS) (g := fun (x : (Str × Int)) => x.1) (fun (x : (Str × Int)) => [rS x.1, rI x.2]) (0) (re_var (ρ := (rT2 rS rI)) (x := w93) 25 rfl (pv 25)) (hc := re_int)) (ra_cons (re_add (re_at (ρ := rI) (g := fun (x : (Str × Int)) => x.2) (fun (x : (Str × Int)) => [rS x.1, rI x.2]) (1) (re_var (ρ := (rT2 rS rI)) (x := w93) 25 rfl (pv 25)) (hc := re_int)) (re_call a57 G_law_take (hr.mono (by decide)) takes0 (ra_own (qo := oPool) rfl (pv 1) (ra_cons (re_sub re_int (re_at (ρ := rI) (g := fun (x : (Str × Int)) => x.2) (fun (x : (Str × Int)) => [rS x.1, rI x.2]) (1) (re_var (ρ := (rT2 rS rI)) (x := w93) 25 rfl (pv 25)) (hc := re_int))) ra_nil)) T.g_law_take T.F_law_take.kp T.b_law_take)) ra_nil))))) frz_L) rfl fun (heavier_109 : (List (Str × Int))) => (rb_set (ps_set (i := 12) scLaw.nd rfl (.inl rfl) peE) (re_call a57 G_law_word (hr.mono (by decide)) (takes_of rfl rfl rfl rfl) (ra_own (qo := oPool) rfl (pv 1) (ra_cons (re_frz (re_cat (re_var (ρ := (rL rS)) (x := names_31) 6 rfl (pv 6)) (re_at (ρ := (rL rS)) (g := fun (x : ((List (Str × (List Str) × (List Str))) × (List Str) × (List Str))) => x.2.2) (fun (x : ((List (Str × (List Str) × (List Str))) × (List Str) × (List Str))) => [(rL (rT3 rS (rL rS) (rL rS))) x.1, (rL rS) x.2.1, (rL rS) x.2.2]) (2) (re_var (ρ := (rT3 (rL (rT3 rS (rL rS) (rL rS))) (rL rS) (rL rS))) (x := drawn_9) 2 rfl (pv 2)) (hc := re_int))) frz_L) ra_nil)) T.g_law_word T.F_law_word.kp T.b_law_word) rfl fun (fresh_116 : Str) => (rb_set (ps_set (i := 13) scLaw.nd rfl (.inl rfl) peE) (re_call a57 G_law_take (hr.mono (by decide)) (takes_of rfl rfl rfl rfl) (ra_own (qo := oPool) rfl (pv 1) (ra_cons re_int ra_nil)) T.g_law_take T.F_law_take.kp T.b_law_take) rfl fun (extra_120 : Int) => (rb_setO (ps_set (i := 14) scLaw.nd rfl (.inl rfl) peE) (re_lst0 (ρ := (rT3 rS (rL rS) (rL rS)))) rfl fun (longer_121 : (List (Str × (List Str) × (List Str)))) a122 => (rb_forF (s0 := (longer_121)) (vs := [3]) (fun (s123 : (List (Str × (List Str) × (List Str)))) => [.fz ((rScr K) script_), .ow true a57 oPool, .fz ((rT3 (rL (rT3 rS (rL rS) (rL rS))) (rL rS) (rL rS)) drawn_9), .un, .fz ((rL (rT3 rS (rL rS) (rL rS))) sheets_26), .fz ((rL rS) starts_28), .fz ((rL rS) names_31), .fz ((rL (rL rI)) followers_39), .fz ((rL rI) reached_50), .fz (rI factor_77), .fz ((rL (rT2 rS rI)) pairs_92), .fz ((rL (rT2 rS rI)) heavier_109), .fz (rS fresh_116), .fz (rI extra_120), .ow true a122 (oL (rT3 rS (rL rS) (rL rS)) s123), .un, .un, .un, .un, .un, .un, .un, .un, .un, .un, .un, .un]) (fun (x : (Str × (List Str) × (List Str))) Γ => Γ.set 3 (.fz ((rT3 rS (rL rS) (rL rS)) x))) (ps_for (passes_of rfl) rfl (pi_list peE) (pg_name (i := 3) scLaw.nd rfl (.inl rfl)) pssS) (ri_list (re_var (ρ := (rL (rT3 rS (rL rS) (rL rS)))) (x := sheets_26) 4 rfl (pv 4))) (fun _ => rg_name) ⟨.inr rfl, .inr rfl, .inr rfl, .inl rfl, .inr rfl, .inr rfl, .inr rfl, .inr rfl, .inr rfl, .inr rfl, .inr rfl, .inr rfl, .inr rfl, .inr rfl, .inr rfl, .inl rfl, .inl rfl, .inl rfl, .inl rfl, .inl rfl, .inl rfl, .inl rfl, .inl rfl, .inl rfl, .inl rfl, .inl rfl, .inl rfl, trivial⟩ (fun _ => ⟨.inl rfl, .inl rfl, .inl rfl, .inl rfl, .inl rfl, .inl rfl, .inl rfl, .inl rfl, .inl rfl, .inl rfl, .inl rfl, .inl rfl, .inl rfl, .inl rfl, .inl rfl, .inl rfl, .inl rfl, .inl rfl, .inl rfl, .inl rfl, .inl rfl, .inl rfl, .inl rfl, .inl rfl, .inl rfl, .inl rfl, .inl rfl, trivial⟩) (fun _ _ => ⟨.inl rfl, .inl rfl, .inl rfl, .inl rfl, .inl rfl, .inl rfl, .inl rfl, .inl rfl, .inl rfl, .inl rfl, .inl rfl, .inl rfl, .inl rfl, .inl rfl, .inl rfl, .inl rfl, .inl rfl, .inl rfl, .inl rfl, .inl rfl, .inl rfl, .inl rfl, .inl rfl, .inl rfl, .inl rfl, .inl rfl, .inl rfl, trivial⟩) (fun (s123 : (List (Str × (List Str) × (List Str)))) (w124 : (Str × (List Str) × (List Str))) => (rb_set (ps_set (i := 15) scLaw.nd rfl (.inl rfl) peE) (re_call a57 G_law_take (hr.mono (by decide)) (takes_of rfl rfl rfl rfl) (ra_own (qo := oPool) rfl (pv 1) (ra_cons (re_add (re_len (rsq_L (re_at (ρ := (rL rS)) (g := fun (x : (Str × (List Str) × (List Str))) => x.2.1) (fun (x : (Str × (List Str) × (List Str))) => [rS x.1, (rL rS) x.2.1, (rL rS) x.2.2]) (1) (re_var (ρ := (rT3 rS (rL rS) (rL rS))) (x := w124) 3 rfl (pv 3)) (hc := re_int))) T.z_len) re_int) ra_nil)) T.g_law_take T.F_law_take.kp T.b_law_take) rfl fun (at_132 : Int) => (rb_app (ps_expr (pe_bm PySem.F.plainAttrs_list PySem.F.slot_list_append PySem.F.type_list_append mt_append (pv 14) (pa_cons peE pa_nil))) rfl (re_tup (fun (y158 : Str × (List Str) × (List Str) × Unit) => (y158.1, y158.2.1, y158.2.2.1)) (rT3 rS (rL rS) (rL rS)) (fun (y158 : Str × (List Str) × (List Str) × Unit) => [rS y158.1, (rL rS) y158.2.1, (rL rS) y158.2.2.1]) (ra_cons (re_at (ρ := rS) (g := fun (x : (Str × (List Str) × (List Str))) => x.1) (fun (x : (Str × (List Str) × (List Str))) => [rS x.1, (rL rS) x.2.1, (rL rS) x.2.2]) (0) (re_var (ρ := (rT3 rS (rL rS) (rL rS))) (x := w124) 3 rfl (pv 3)) (hc := re_int)) (ra_cons (re_frz (re_cat (re_frz (re_cat (re_frz (re_slL (re_at (ρ := (rL rS)) (g := fun (x : (Str × (List Str) × (List Str))) => x.2.1) (fun (x : (Str × (List Str) × (List Str))) => [rS x.1, (rL rS) x.2.1, (rL rS) x.2.2]) (1) (re_var (ρ := (rT3 rS (rL rS) (rL rS))) (x := w124) 3 rfl (pv 3)) (hc := re_int)) rp_none (rp_some (re_var (ρ := rI) (x := at_132) 15 rfl (pv 15)))) frz_L) (re_frz (re_lst (fun (y141 : Str × Unit) => [y141.1]) rS (ra_cons (re_var (ρ := rS) (x := fresh_116) 12 rfl (pv 12)) ra_nil)) frz_L)) frz_L) (re_frz (re_slL (re_at (ρ := (rL rS)) (g := fun (x : (Str × (List Str) × (List Str))) => x.2.1) (fun (x : (Str × (List Str) × (List Str))) => [rS x.1, (rL rS) x.2.1, (rL rS) x.2.2]) (1) (re_var (ρ := (rT3 rS (rL rS) (rL rS))) (x := w124) 3 rfl (pv 3)) (hc := re_int)) (rp_some (re_var (ρ := rI) (x := at_132) 15 rfl (pv 15))) rp_none) frz_L)) frz_L) (ra_cons (re_at (ρ := (rL rS)) (g := fun (x : (Str × (List Str) × (List Str))) => x.2.2) (fun (x : (Str × (List Str) × (List Str))) => [rS x.1, (rL rS) x.2.1, (rL rS) x.2.2]) (2) (re_var (ρ := (rT3 rS (rL rS) (rL rS))) (x := w124) 3 rfl (pv 3)) (hc := re_int)) ra_nil (hc := se_Subscript)) (hc := se_BinOp)) (hc := se_Subscript))) rfl fun x159 => (rb_nil (x := ((s123 ++ [x159]))) (.inr rfl) ⟨.inr rfl, .inr rfl, .inr rfl, .inl rfl, .inr rfl, .inr rfl, .inr rfl, .inr rfl, .inr rfl, .inr rfl, .inr rfl, .inr rfl, .inr rfl, .inr rfl, .inr rfl, .inl rfl, .inl rfl, .inl rfl, .inl rfl, .inl rfl, .inl rfl, .inl rfl, .inl rfl, .inl rfl, .inl rfl, .inl rfl, .inl rfl, trivial⟩)))) fun (s160 : (List (Str × (List Str) × (List Str)))) => (rb_frz (i := 14) (p := rL (rT3 rS (rL rS) (rL rS)) s160) rfl (frz_L _ _) rfl (rb_set (ps_set (i := 16) scLaw.nd rfl (.inl rfl) peE) (re_call a57 G_law_take (hr.mono (by decide)) (takes_of rfl rfl rfl rfl) (ra_own (qo := oPool) rfl (pv 1) (ra_cons re_int ra_nil)) T.g_law_take T.F_law_take.kp T.b_law_take) rfl fun (steps_164 : Int) => (rb_set (ps_set (i := 17) scLaw.nd rfl (.inl rfl) peE) (re_frz (re_call a57 G_law_perm (hr.mono (by decide)) (takes_of rfl rfl rfl rfl) (ra_own (qo := oPool) rfl (pv 1) (ra_cons (re_len (rsq_L (re_var (ρ := (rL rS)) (x := names_31) 6 rfl (pv 6))) T.z_len) ra_nil)) T.g_law_perm T.F_law_perm.kp T.b_law_perm) frz_L) rfl fun (perm_169 : (List Int)) => (rb_set (ps_setLc (i := 18) (own := [("_law_sheet", 3)]) (g := gName 3) rfl scLaw.nd rfl rfl (sw_true rfl rfl rfl (by decide +kernel)) (pi_list peE) (blkOk_by (own := [("_law_sheet", 3)]) (N := ["_law_script", "_law_pool_here", "_law_drawn", "_law_sheet", "_law_sheets_here", "_law_starts", "_law_names", "_law_followers", "_law_reached", "_law_factor", "_law_pairs", "_law_heavier", "_law_fresh", "_law_extra", "_law_longer", "_law_at", "_law_steps", "_law_perm_here", "_law_wider", "_law_begin", "_law_heavy", "_law_base", "_law_scaled", "_law_due", "_law_line", "_law_pair", "_law_k"]) (sc := defScope sLaw) (by decide +kernel)) (fun _ _ _ _ _ => pg_name (i := 3) scLaw.nd rfl (.inl rfl)) ptPi peEi) (rte_frz (rte_lc (vs := [3]) (fun (x : (Str × (List Str) × (List Str))) Γ => Γ.set 3 (.fz ((rT3 rS (rL rS) (rL rS)) x))) (ri_list (re_var (ρ := (rL (rT3 rS (rL rS) (rL rS)))) (x := sheets_26) 4 rfl (pv 4))) (fun _ => rg_name) (fun _ => rgo_name) (un1 rfl) (fun (w170 : (Str × (List Str) × (List Str))) => rti_nil) (fun (w170 : (Str × (List Str) × (List Str))) _ _ _ _ _ => (re_tup (fun (y191 : Str × (List Str) × (List Str) × Unit) => (y191.1, y191.2.1, y191.2.2.1)) (rT3 rS (rL rS) (rL rS)) (fun (y191 : Str × (List Str) × (List Str) × Unit) => [rS y191.1, (rL rS) y191.2.1, (rL rS) y191.2.2.1]) (ra_cons (re_at (ρ := rS) (g := fun (x : (Str × (List Str) × (List Str))) => x.1) (fun (x : (Str × (List Str) × (List Str))) => [rS x.1, (rL rS) x.2.1, (rL rS) x.2.2]) (0) (re_var (ρ := (rT3 rS (rL rS) (rL rS))) (x := w170) 3 rfl (pv 3)) (hc := re_int)) (ra_cons (re_at (ρ := (rL rS)) (g := fun (x : (Str × (List Str) × (List Str))) => x.2.1) (fun (x : (Str × (List Str) × (List Str))) => [rS x.1, (rL rS) x.2.1, (rL rS) x.2.2]) (1) (re_var (ρ := (rT3 rS (rL rS) (rL rS))) (x := w170) 3 rfl (pv 3)) (hc := re_int)) (ra_cons (re_frz (re_call () G_law_with (hr.mono (by decide)) takes0 (ra_cons (re_at (ρ := (rL rS)) (g := fun (x : (Str × (List Str) × (List Str))) => x.2.2) (fun (x : (Str × (List Str) × (List Str))) => [rS x.1, (rL rS) x.2.1, (rL rS) x.2.2]) (2) (re_var (ρ := (rT3 rS (rL rS) (rL rS))) (x := w170) 3 rfl (pv 3)) (hc := re_int)) (ra_cons (re_ixL (re_var (ρ := (rL rS)) (x := names_31) 6 rfl (pv 6)) (re_call a57 G_law_take (hr.mono (by decide)) takes0 (ra_own (qo := oPool) rfl (pv 1) (ra_cons (re_len (rsq_L (re_var (ρ := (rL rS)) (x := names_31) 6 rfl (pv 6))) T.z_len) ra_nil)) T.g_law_take T.F_law_take.kp T.b_law_take)) ra_nil)) T.g_law_with T.F_law_with.kp T.b_law_with) frz_L) ra_nil)))))) frz_L) rfl fun (wider_192 : (List (Str × (List Str) × (List Str)))) => (rb_set (ps_set (i := 19) scLaw.nd rfl (.inl rfl) peE) (re_frz (re_call () G_law_with (hr.mono (by decide)) (takes_of rfl rfl rfl rfl) (ra_cons (re_var (ρ := (rL rS)) (x := starts_28) 5 rfl (pv 5)) (ra_cons (re_ixL (re_var (ρ := (rL rS)) (x := names_31) 6 rfl (pv 6)) (re_call a57 G_law_take (hr.mono (by decide)) (takes_of rfl rfl rfl rfl) (ra_own (qo := oPool) rfl (pv 1) (ra_cons (re_len (rsq_L (re_var (ρ := (rL rS)) (x := names_31) 6 rfl (pv 6))) T.z_len) ra_nil)) T.g_law_take T.F_law_take.kp T.b_law_take)) ra_nil)) T.g_law_with T.F_law_with.kp T.b_law_with) frz_L) rfl fun (begin_204 : (List Str)) => (rb_set (ps_set (i := 20) scLaw.nd rfl (.inl rfl) peE) (re_call () Gheaviest (hr.mono (by decide)) (takes_of rfl rfl rfl rfl) (ra_cons (re_frz (ρ' := (rBook T.C_Book)) (re_make T.M_Book GBook_init (hr.mono (by decide)) (takes_of rfl rfl rfl rfl) (ra_cons (re_frz (re_call () G_law_handed (hr.mono (by decide)) (takes_of rfl rfl rfl rfl) (ra_cons (re_var (ρ := (rL (rT3 rS (rL rS) (rL rS)))) (x := sheets_26) 4 rfl (pv 4)) ra_nil) T.g_law_handed T.F_law_handed.kp T.b_law_handed) frz_L) (ra_cons (re_frz (re_list (rsq_L (re_var (ρ := (rL rS)) (x := starts_28) 5 rfl (pv 5))) T.z_list) frz_L) ra_nil)) T.g_Book T.bBook_init) (fun _ => frz_In)) (ra_cons (re_call () G_law_table (hr.mono (by decide)) (takes_of rfl rfl rfl rfl) (ra_cons (re_var (ρ := (rL (rT2 rS rI))) (x := pairs_92) 10 rfl (pv 10)) ra_nil) T.g_law_table T.F_law_table.kp T.b_law_table) ra_nil)) T.gheaviest T.Fheaviest.kp T.bheaviest) rfl fun (heavy_222 : OHeavy) => (rb_if1 (rt_not (rt_val (re_call () G_law_heavy_good (hr.mono (by decide)) (takes_of rfl rfl rfl rfl) (ra_cons (re_var (ρ := (rHeavy T.C_Heavy)) (x := heavy_222) 20 rfl (pv 20)) (ra_cons (re_var (ρ := (rL rS)) (x := names_31) 6 rfl (pv 6)) (ra_cons (re_var (ρ := (rL (rL rI))) (x := followers_39) 7 rfl (pv 7)) (ra_cons (re_var (ρ := (rL rI)) (x := reached_50) 8 rfl (pv 8)) (ra_cons (re_frz (re_call () G_law_page_weights (hr.mono (by decide)) (takes_of rfl rfl rfl rfl) (ra_cons (re_var (ρ := (rL (rT3 rS (rL rS) (rL rS)))) (x := sheets_26) 4 rfl (pv 4)) (ra_cons (re_var (ρ := (rL (rT2 rS rI))) (x := pairs_92) 10 rfl (pv 10)) ra_nil)) T.g_law_page_weights T.F_law_page_weights.kp T.b_law_page_weights) frz_L) ra_nil))))) T.g_law_heavy_good T.F_law_heavy_good.kp T.b_law_heavy_good))) (rb_ret (fun (r241 : Bool) => r241) re_bl (fun _ => rfl)) (rb_set (ps_set (i := 21) scLaw.nd rfl (.inr rfl) peE) (re_call () G_law_seen (hr.mono (by decide)) (takes_of rfl rfl rfl rfl) (ra_cons (re_var (ρ := (rL (rT3 rS (rL rS) (rL rS)))) (x := sheets_26) 4 rfl (pv 4)) (ra_cons (re_var (ρ := (rL rS)) (x := starts_28) 5 rfl (pv 5)) (ra_cons (re_var (ρ := (rL (rT2 rS rI))) (x := pairs_92) 10 rfl (pv 10)) (ra_cons (re_var (ρ := rI) (x := steps_164) 16 rfl (pv 16)) ra_nil)))) T.g_law_seen T.F_law_seen.kp T.b_law_seen) rfl fun (base_251 : (Option ((Int × Int) × (List (Option Int)) × Int))) => (rb_if1 (rt_w (rw_or (rt_rc (rc_isN (re_var (ρ := (rO (rT3 (rT2 rI rI) (rL (rO rI)) rI))) (x := base_251) 21 rfl (pv 21)))) (rw_or1 (rt_not (rt_val (re_call () G_law_same (hr.mono (by decide)) (takes_of rfl rfl rfl rfl) (ra_cons (re_enc (ρ := (rT2 (rT2 rI rI) (rL (rO rI)))) (re_tup (fun (y259 : (Int × Int) × (List (Option Int)) × Unit) => (y259.1, y259.2.1)) (rT2 (rT2 rI rI) (rL (rO rI))) (fun (y259 : (Int × Int) × (List (Option Int)) × Unit) => [(rT2 rI rI) y259.1, (rL (rO rI)) y259.2.1]) (ra_cons (re_fld (ρ' := (rT2 rI rI)) (g := fun (x : OHeavy) => x.1) (fsHeavy) (re_var (ρ := (rHeavy T.C_Heavy)) (x := heavy_222) 20 rfl (pv 20)) T.cl_Heavy T.na_Heavy_mean) (ra_cons (re_fld (ρ' := (rL (rO rI))) (g := fun (x : OHeavy) => x.2.2) (fsHeavy) (re_var (ρ := (rHeavy T.C_Heavy)) (x := heavy_222) 20 rfl (pv 20)) T.cl_Heavy T.na_Heavy_worths) ra_nil)))) (ra_cons (re_enc (ρ := (rT2 (rT2 rI rI) (rL (rO rI)))) (re_slT (ρ' := (rT2 (rT2 rI rI) (rL (rO rI)))) (fun (x : ((Int × Int) × (List (Option Int)) × Int)) => (x.1, x.2.1)) (fun (x : ((Int × Int) × (List (Option Int)) × Int)) => [(rT2 rI rI) x.1, (rL (rO rI)) x.2.1, rI x.2.2]) none (some (2)) (re_get (re_var (ρ := (rO (rT3 (rT2 rI rI) (rL (rO rI)) rI))) (x := base_251) 21 rfl (pv 21))) rp_none rp_int)) ra_nil)) T.g_law_same T.F_law_same.kp T.b_law_same)))))) (rb_ret (fun (r271 : Bool) => r271) re_bl (fun _ => rfl)) (rb_set (ps_setLc (i := 22) (own := [("_law_pair", 25)]) (g := gName 25) rfl scLaw.nd rfl rfl (sw_true rfl rfl rfl (by decide +kernel)) (pi_list peE) (blkOk_by (own := [("_law_pair", 25)]) (N := ["_law_script", "_law_pool_here", "_law_drawn", "_law_sheet", "_law_sheets_here", "_law_starts", "_law_names", "_law_followers", "_law_reached", "_law_factor", "_law_pairs", "_law_heavier", "_law_fresh", "_law_extra", "_law_longer", "_law_at", "_law_steps", "_law_perm_here", "_law_wider", "_law_begin", "_law_heavy", "_law_base", "_law_scaled", "_law_due", "_law_line", "_law_pair", "_law_k"]) (sc := defScope sLaw) (by decide +kernel)) (fun _ _ _ _ _ => pg_name (i := 25) scLaw.nd rfl (.inl rfl)) ptPi peEi) (rte_frz (rte_lc (vs := [25]) (fun (x : (Str × Int)) Γ => Γ.set 25 (.fz ((rT2 rS rI) x))) (ri_list (re_var (ρ := (rL (rT2 rS rI))) (x := pairs_92) 10 rfl (pv 10))) (fun _ => rg_name) (fun _ => rgo_name) (un1 rfl) (fun (w272 : (Str × Int)) => (rti_one (fun _ _ _ _ _ => (rt_rc (rc_i i_gt (re_at (ρ := rI) (g := fun (x : (Str × Int)) => x.2) (fun (x : (Str × Int)) => [rS x.1, rI x.2]) (1) (re_var (ρ := (rT2 rS rI)) (x := w272) 25 rfl (pv 25)) (hc := re_int)) re_int))))) (fun (w272 : (Str × Int)) _ _ _ _ _ => (re_tup (fun (y284 : Str × Int × Unit) => (y284.1, y284.2.1)) (rT2 rS rI) (fun (y284 : Str × Int × Unit) => [rS y284.1, rI y284.2.1]) (ra_cons (re_at (ρ := rS) (g := fun (x : (Str × Int)) => x.1) (fun (x : (Str × Int)) => [rS x.1, rI x.2]) (0) (re_var (ρ := (rT2 rS rI)) (x := w272) 25 rfl (pv 25)) (hc := re_int)) (ra_cons (re_mul (re_at (ρ := rI) (g := fun (x : (Str × Int)) => x.2) (fun (x : (Str × Int)) => [rS x.1, rI x.2]) (1) (re_var (ρ := (rT2 rS rI)) (x := w272) 25 rfl (pv 25)) (hc := re_int)) (re_var (ρ := rI) (x := factor_77) 9 rfl (pv 9))) ra_nil))))) frz_L) rfl fun (scaled_285 : (List (Str × Int))) => (rb_if1 (rt_not (rt_val (re_call () G_law_scaled_good (hr.mono (by decide)) (takes_of rfl rfl rfl rfl) (ra_cons (re_get (re_var (ρ := (rO (rT3 (rT2 rI rI) (rL (rO rI)) rI))) (x := base_251) 21 rfl (pv 21))) (ra_cons (re_call () G_law_seen (hr.mono (by decide)) (takes_of rfl rfl rfl rfl) (ra_cons (re_var (ρ := (rL (rT3 rS (rL rS) (rL rS)))) (x := sheets_26) 4 rfl (pv 4)) (ra_cons (re_var (ρ := (rL rS)) (x := starts_28) 5 rfl (pv 5)) (ra_cons (re_var (ρ := (rL (rT2 rS rI))) (x := scaled_285) 22 rfl (pv 22)) (ra_cons (re_var (ρ := rI) (x := steps_164) 16 rfl (pv 16)) ra_nil)))) T.g_law_seen T.F_law_seen.kp T.b_law_seen) (ra_cons (re_var (ρ := rI) (x := factor_77) 9 rfl (pv 9)) ra_nil))) T.g_law_scaled_good T.F_law_scaled_good.kp T.b_law_scaled_good))) (rb_ret (fun (r304 : Bool) => r304) re_bl (fun _ => rfl)) (rb_if1 (rt_not (rt_val (re_call () G_law_not_less (hr.mono (by decide)) (takes_of rfl rfl rfl rfl) (ra_cons (re_get (re_var (ρ := (rO (rT3 (rT2 rI rI) (rL (rO rI)) rI))) (x := base_251) 21 rfl (pv 21))) (ra_cons (re_call () G_law_seen (hr.mono (by decide)) (takes_of rfl rfl rfl rfl) (ra_cons (re_var (ρ := (rL (rT3 rS (rL rS) (rL rS)))) (x := sheets_26) 4 rfl (pv 4)) (ra_cons (re_var (ρ := (rL rS)) (x := starts_28) 5 rfl (pv 5)) (ra_cons (re_var (ρ := (rL (rT2 rS rI))) (x := heavier_109) 11 rfl (pv 11)) (ra_cons (re_var (ρ := rI) (x := steps_164) 16 rfl (pv 16)) ra_nil)))) T.g_law_seen T.F_law_seen.kp T.b_law_seen) ra_nil)) T.g_law_not_less T.F_law_not_less.kp T.b_law_not_less))) (rb_ret (fun (r321 : Bool) => r321) re_bl (fun _ => rfl)) (rb_set (ps_set (i := 23) scLaw.nd rfl (.inl rfl) peE) (re_tup (fun (y349 : (Int × Int) × (List (Option Int)) × Int × Unit) => (y349.1, y349.2.1, y349.2.2.1)) (rT3 (rT2 rI rI) (rL (rO rI)) rI) (fun (y349 : (Int × Int) × (List (Option Int)) × Int × Unit) => [(rT2 rI rI) y349.1, (rL (rO rI)) y349.2.1, rI y349.2.2.1]) (ra_cons (re_tup (fun (y336 : Int × Int × Unit) => (y336.1, y336.2.1)) (rT2 rI rI) (fun (y336 : Int × Int × Unit) => [rI y336.1, rI y336.2.1]) (ra_cons (re_add (re_at (ρ := rI) (g := fun (x : (Int × Int)) => x.1) (fun (x : (Int × Int)) => [rI x.1, rI x.2]) (0) (re_at (ρ := (rT2 rI rI)) (g := fun (x : ((Int × Int) × (List (Option Int)) × Int)) => x.1) (fun (x : ((Int × Int) × (List (Option Int)) × Int)) => [(rT2 rI rI) x.1, (rL (rO rI)) x.2.1, rI x.2.2]) (0) (re_get (re_var (ρ := (rO (rT3 (rT2 rI rI) (rL (rO rI)) rI))) (x := base_251) 21 rfl (pv 21))) (hc := re_int)) (hc := re_int)) (re_mul (re_var (ρ := rI) (x := extra_120) 13 rfl (pv 13)) (re_at (ρ := rI) (g := fun (x : (Int × Int)) => x.2) (fun (x : (Int × Int)) => [rI x.1, rI x.2]) (1) (re_at (ρ := (rT2 rI rI)) (g := fun (x : ((Int × Int) × (List (Option Int)) × Int)) => x.1) (fun (x : ((Int × Int) × (List (Option Int)) × Int)) => [(rT2 rI rI) x.1, (rL (rO rI)) x.2.1, rI x.2.2]) (0) (re_get (re_var (ρ := (rO (rT3 (rT2 rI rI) (rL (rO rI)) rI))) (x := base_251) 21 rfl (pv 21))) (hc := re_int)) (hc := re_int)))) (ra_cons (re_at (ρ := rI) (g := fun (x : (Int × Int)) => x.2) (fun (x : (Int × Int)) => [rI x.1, rI x.2]) (1) (re_at (ρ := (rT2 rI rI)) (g := fun (x : ((Int × Int) × (List (Option Int)) × Int)) => x.1) (fun (x : ((Int × Int) × (List (Option Int)) × Int)) => [(rT2 rI rI) x.1, (rL (rO rI)) x.2.1, rI x.2.2]) (0) (re_get (re_var (ρ := (rO (rT3 (rT2 rI rI) (rL (rO rI)) rI))) (x := base_251) 21 rfl (pv 21))) (hc := re_int)) (hc := re_int)) ra_nil))) (ra_cons (re_at (ρ := (rL (rO rI))) (g := fun (x : ((Int × Int) × (List (Option Int)) × Int)) => x.2.1) (fun (x : ((Int × Int) × (List (Option Int)) × Int)) => [(rT2 rI rI) x.1, (rL (rO rI)) x.2.1, rI x.2.2]) (1) (re_get (re_var (ρ := (rO (rT3 (rT2 rI rI) (rL (rO rI)) rI))) (x := base_251) 21 rfl (pv 21))) (hc := re_int)) (ra_cons (re_add (re_at (ρ := rI) (g := fun (x : ((Int × Int) × (List (Option Int)) × Int)) => x.2.2) (fun (x : ((Int × Int) × (List (Option Int)) × Int)) => [(rT2 rI rI) x.1, (rL (rO rI)) x.2.1, rI x.2.2]) (2) (re_get (re_var (ρ := (rO (rT3 (rT2 rI rI) (rL (rO rI)) rI))) (x := base_251) 21 rfl (pv 21))) (hc := re_int)) (re_mul (re_var (ρ := rI) (x := extra_120) 13 rfl (pv 13)) (re_var (ρ := rI) (x := steps_164) 16 rfl (pv 16)))) ra_nil)))) rfl fun (due_350 : ((Int × Int) × (List (Option Int)) × Int)) => (rb_if1 (rt_not (rt_val (re_call () G_law_same (hr.mono (by decide)) (takes_of rfl rfl rfl rfl) (ra_cons (re_enc (ρ := (rO (rT3 (rT2 rI rI) (rL (rO rI)) rI))) (re_call () G_law_seen (hr.mono (by decide)) (takes_of rfl rfl rfl rfl) (ra_cons (re_var (ρ := (rL (rT3 rS (rL rS) (rL rS)))) (x := s160) 14 rfl (pv 14)) (ra_cons (re_var (ρ := (rL rS)) (x := starts_28) 5 rfl (pv 5)) (ra_cons (re_frz (re_cat (re_var (ρ := (rL (rT2 rS rI))) (x := pairs_92) 10 rfl (pv 10)) (re_frz (re_lst (fun (y359 : (Str × Int) × Unit) => [y359.1]) (rT2 rS rI) (ra_cons (re_tup (fun (y356 : Str × Int × Unit) => (y356.1, y356.2.1)) (rT2 rS rI) (fun (y356 : Str × Int × Unit) => [rS y356.1, rI y356.2.1]) (ra_cons (re_var (ρ := rS) (x := fresh_116) 12 rfl (pv 12)) (ra_cons (re_var (ρ := rI) (x := extra_120) 13 rfl (pv 13)) ra_nil))) ra_nil (hc := se_Tuple))) frz_L)) frz_L) (ra_cons (re_var (ρ := rI) (x := steps_164) 16 rfl (pv 16)) ra_nil)))) T.g_law_seen T.F_law_seen.kp T.b_law_seen)) (ra_cons (re_enc (ρ := (rT3 (rT2 rI rI) (rL (rO rI)) rI)) (re_var (ρ := (rT3 (rT2 rI rI) (rL (rO rI)) rI)) (x := due_350) 23 rfl (pv 23))) ra_nil)) T.g_law_same T.F_law_same.kp T.b_law_same))) (rb_ret (fun (r379 : Bool) => r379) re_bl (fun _ => rfl)) (rb_set (ps_set (i := 23) scLaw.nd rfl (.inl rfl) peE) (re_tup (fun (y392 : (Int × Int) × (List (Option Int)) × Int × Unit) => (y392.1, y392.2.1, y392.2.2.1)) (rT3 (rT2 rI rI) (rL (rO rI)) rI) (fun (y392 : (Int × Int) × (List (Option Int)) × Int × Unit) => [(rT2 rI rI) y392.1, (rL (rO rI)) y392.2.1, rI y392.2.2.1]) (ra_cons (re_at (ρ := (rT2 rI rI)) (g := fun (x : ((Int × Int) × (List (Option Int)) × Int)) => x.1) (fun (x : ((Int × Int) × (List (Option Int)) × Int)) => [(rT2 rI rI) x.1, (rL (rO rI)) x.2.1, rI x.2.2]) (0) (re_get (re_var (ρ := (rO (rT3 (rT2 rI rI) (rL (rO rI)) rI))) (x := base_251) 21 rfl (pv 21))) (hc := re_int)) (ra_cons (re_frz (re_of (pe_lc (own := [("_law_k", 26)]) (g := gName 26) rfl scLaw.nd (pi_list peE) (blkOk_by (own := [("_law_k", 26)]) (N := ["_law_script", "_law_pool_here", "_law_drawn", "_law_sheet", "_law_sheets_here", "_law_starts", "_law_names", "_law_followers", "_law_reached", "_law_factor", "_law_pairs", "_law_heavier", "_law_fresh", "_law_extra", "_law_longer", "_law_at", "_law_steps", "_law_perm_here", "_law_wider", "_law_begin", "_law_heavy", "_law_base", "_law_scaled", "_law_due", "_law_line", "_law_pair", "_law_k"]) (sc := defScope sLaw) (by decide +kernel)) (fun _ _ _ _ _ => pg_name (i := 26) scLaw.nd rfl (.inl rfl)) ptPi peEi) (rte_lc (vs := [26]) (fun (x : Int) Γ => Γ.set 26 (.fz (rI x))) (ri_list (re_var (ρ := (rL rI)) (x := perm_169) 17 rfl (pv 17))) (fun _ => rg_name) (fun _ => rgo_name) (un1 rfl) (fun (w381 : Int) => rti_nil) (fun (w381 : Int) _ _ _ _ _ => (re_ixL (re_at (ρ := (rL (rO rI))) (g := fun (x : ((Int × Int) × (List (Option Int)) × Int)) => x.2.1) (fun (x : ((Int × Int) × (List (Option Int)) × Int)) => [(rT2 rI rI) x.1, (rL (rO rI)) x.2.1, rI x.2.2]) (1) (re_get (re_var (ρ := (rO (rT3 (rT2 rI rI) (rL (rO rI)) rI))) (x := base_251) 21 rfl (pv 21))) (hc := re_int)) (re_var (ρ := rI) (x := w381) 26 rfl (pv 26)))))) frz_L) (ra_cons (re_at (ρ := rI) (g := fun (x : ((Int × Int) × (List (Option Int)) × Int)) => x.2.2) (fun (x : ((Int × Int) × (List (Option Int)) × Int)) => [(rT2 rI rI) x.1, (rL (rO rI)) x.2.1, rI x.2.2]) (2) (re_get (re_var (ρ := (rO (rT3 (rT2 rI rI) (rL (rO rI)) rI))) (x := base_251) 21 rfl (pv 21))) (hc := re_int)) ra_nil)))) rfl fun (due_393 : ((Int × Int) × (List (Option Int)) × Int)) => (rb_if1 (rt_not (rt_val (re_call () G_law_same (hr.mono (by decide)) (takes_of rfl rfl rfl rfl) (ra_cons (re_enc (ρ := (rO (rT3 (rT2 rI rI) (rL (rO rI)) rI))) (re_call () G_law_seen (hr.mono (by decide)) (takes_of rfl rfl rfl rfl) (ra_cons (re_frz (re_of (pe_lc (own := [("_law_k", 26)]) (g := gName 26) rfl scLaw.nd (pi_list peE) (blkOk_by (own := [("_law_k", 26)]) (N := ["_law_script", "_law_pool_here", "_law_drawn", "_law_sheet", "_law_sheets_here", "_law_starts", "_law_names", "_law_followers", "_law_reached", "_law_factor", "_law_pairs", "_law_heavier", "_law_fresh", "_law_extra", "_law_longer", "_law_at", "_law_steps", "_law_perm_here", "_law_wider", "_law_begin", "_law_heavy", "_law_base", "_law_scaled", "_law_due", "_law_line", "_law_pair", "_law_k"]) (sc := defScope sLaw) (by decide +kernel)) (fun _ _ _ _ _ => pg_name (i := 26) scLaw.nd rfl (.inl rfl)) ptPi peEi) (rte_lc (vs := [26]) (fun (x : Int) Γ => Γ.set 26 (.fz (rI x))) (ri_list (re_var (ρ := (rL rI)) (x := perm_169) 17 rfl (pv 17))) (fun _ => rg_name) (fun _ => rgo_name) (un1 rfl) (fun (w395 : Int) => rti_nil) (fun (w395 : Int) _ _ _ _ _ => (re_ixL (re_var (ρ := (rL (rT3 rS (rL rS) (rL rS)))) (x := sheets_26) 4 rfl (pv 4)) (re_var (ρ := rI) (x := w395) 26 rfl (pv 26)))))) frz_L) (ra_cons (re_var (ρ := (rL rS)) (x := starts_28) 5 rfl (pv 5)) (ra_cons (re_var (ρ := (rL (rT2 rS rI))) (x := pairs_92) 10 rfl (pv 10)) (ra_cons (re_var (ρ := rI) (x := steps_164) 16 rfl (pv 16)) ra_nil)))) T.g_law_seen T.F_law_seen.kp T.b_law_seen)) (ra_cons (re_enc (ρ := (rT3 (rT2 rI rI) (rL (rO rI)) rI)) (re_var (ρ := (rT3 (rT2 rI rI) (rL (rO rI)) rI)) (x := due_393) 23 rfl (pv 23))) ra_nil)) T.g_law_same T.F_law_same.kp T.b_law_same))) (rb_ret (fun (r415 : Bool) => r415) re_bl (fun _ => rfl)) (rb_if1 (rt_not (rt_val (re_call () G_law_not_less (hr.mono (by decide)) (takes_of rfl rfl rfl rfl) (ra_cons (re_get (re_var (ρ := (rO (rT3 (rT2 rI rI) (rL (rO rI)) rI))) (x := base_251) 21 rfl (pv 21))) (ra_cons (re_call () G_law_seen (hr.mono (by decide)) (takes_of rfl rfl rfl rfl) (ra_cons (re_var (ρ := (rL (rT3 rS (rL rS) (rL rS)))) (x := wider_192) 18 rfl (pv 18)) (ra_cons (re_var (ρ := (rL rS)) (x := begin_204) 19 rfl (pv 19)) (ra_cons (re_var (ρ := (rL (rT2 rS rI))) (x := pairs_92) 10 rfl (pv 10)) (ra_cons (re_var (ρ := rI) (x := steps_164) 16 rfl (pv 16)) ra_nil)))) T.g_law_seen T.F_law_seen.kp T.b_law_seen) ra_nil)) T.g_law_not_less T.F_law_not_less.kp T.b_law_not_less))) (rb_ret (fun (r432 : Bool) => r432) re_bl (fun _ => rfl)) (rb_set (ps_set (i := 23) scLaw.nd rfl (.inl rfl) peE) (re_tup (fun (y455 : (Int × Int) × (List (Option Int)) × Int × Unit) => (y455.1, y455.2.1, y455.2.2.1)) (rT3 (rT2 rI rI) (rL (rO rI)) rI) (fun (y455 : (Int × Int) × (List (Option Int)) × Int × Unit) => [(rT2 rI rI) y455.1, (rL (rO rI)) y455.2.1, rI y455.2.2.1]) (ra_cons (re_tup (fun (y437 : Int × Int × Unit) => (y437.1, y437.2.1)) (rT2 rI rI) (fun (y437 : Int × Int × Unit) => [rI y437.1, rI y437.2.1]) (ra_cons re_int (ra_cons re_int ra_nil))) (ra_cons (re_frz (re_call () G_law_shown (hr.mono (by decide)) (takes_of rfl rfl rfl rfl) (ra_cons (re_frz (re_rep (re_frz (re_lst (fun (y441 : Int × Unit) => [y441.1]) rI (ra_cons re_int ra_nil)) frz_L) (re_len (rsq_L (re_var (ρ := (rL rS)) (x := names_31) 6 rfl (pv 6))) T.z_len)) frz_L) (ra_cons (re_var (ρ := (rL rI)) (x := reached_50) 8 rfl (pv 8)) ra_nil)) T.g_law_shown T.F_law_shown.kp T.b_law_shown) frz_L) (ra_cons re_int ra_nil)))) rfl fun (due_456 : ((Int × Int) × (List (Option Int)) × Int)) => (rb_if1 (rt_not (rt_val (re_call () G_law_same (hr.mono (by decide)) (takes_of rfl rfl rfl rfl) (ra_cons (re_enc (ρ := (rO (rT3 (rT2 rI rI) (rL (rO rI)) rI))) (re_call () G_law_seen (hr.mono (by decide)) (takes_of rfl rfl rfl rfl) (ra_cons (re_var (ρ := (rL (rT3 rS (rL rS) (rL rS)))) (x := sheets_26) 4 rfl (pv 4)) (ra_cons (re_var (ρ := (rL rS)) (x := starts_28) 5 rfl (pv 5)) (ra_cons (re_frz (re_lst0 (ρ := (rT2 rS rI))) frz_L) (ra_cons (re_var (ρ := rI) (x := steps_164) 16 rfl (pv 16)) ra_nil)))) T.g_law_seen T.F_law_seen.kp T.b_law_seen)) (ra_cons (re_enc (ρ := (rT3 (rT2 rI rI) (rL (rO rI)) rI)) (re_var (ρ := (rT3 (rT2 rI rI) (rL (rO rI)) rI)) (x := due_456) 23 rfl (pv 23))) ra_nil)) T.g_law_same T.F_law_same.kp T.b_law_same))) (rb_ret (fun (r475 : Bool) => r475) re_bl (fun _ => rfl)) (rb_ret (fun (r476 : Bool) => r476) (re_call () G_law_same (hr.mono (by decide)) (takes_of rfl rfl rfl rfl) (ra_cons (re_enc (ρ := (rO (rT3 (rT2 rI rI) (rL (rO rI)) rI))) (re_call () G_law_seen (hr.mono (by decide)) (takes_of rfl rfl rfl rfl) (ra_cons (re_var (ρ := (rL (rT3 rS (rL rS) (rL rS)))) (x := sheets_26) 4 rfl (pv 4)) (ra_cons (re_var (ρ := (rL rS)) (x := starts_28) 5 rfl (pv 5)) (ra_cons (re_var (ρ := (rL (rT2 rS rI))) (x := pairs_92) 10 rfl (pv 10)) (ra_cons (re_var (ρ := rI) (x := steps_164) 16 rfl (pv 16)) ra_nil)))) T.g_law_seen T.F_law_seen.kp T.b_law_seen)) (ra_cons (re_enc (ρ := (rO (rT3 (rT2 rI rI) (rL (rO rI)) rI))) (re_var (ρ := (rO (rT3 (rT2 rI rI) (rL (rO rI)) rI))) (x := base_251) 21 rfl (pv 21))) ra_nil)) T.g_law_same T.F_law_same.kp T.b_law_same) (fun _ => rfl))))))))))))))))))))))))))))))))))))
end
end DD
namespace DD
open PySem PySem.Spec PyProof.Rows L2 KO SX RF
theorem isname_eq {z : Str} (h : z.length ≤ 1000) : P_isname z = pure (decide (isw z)) := by
  unfold P_isname
  simp only [pure_bind, bind_assoc, map_pure]
  rw [Mo.rq_of (by rw [sizeLine_eq]; omega)]
  simp only [pure_bind]
  by_cases h1 : (1 : Int) ≤ z.length
  · by_cases h2 : (z.length : Int) ≤ 8
    · simp only [h1, h2, decide_true, if_true, pure_bind]
      rw [Mo.lc_pure (p := fun _ => true) (g := fun w : Str => !decide (tl w < [97]) && !decide ([122] < tl w)) (by rw [len_chars, sizeLine_eq]; omega) (fun _ _ => rfl) (fun w _ _ => by
        have e1 : ("a" : Str).cps.toList = [97] := by decide +kernel
        have e2 : ("z" : Str).cps.toList = [122] := by decide +kernel
        rw [e1, e2]
        show (if (!decide (tl w < [97])) = true then pure (!decide ([122] < tl w)) else pure false : Mo Bool) = _
        cases decide (tl w < [97]) <;> rfl)]
      simp only [pure_bind]
      congr 1
      rw [List.filter_eq_self.mpr (by simp), Bool.eq_iff_iff]
      simp only [List.all_map, List.all_eq_true, decide_eq_true_eq, Function.comp, id]
      constructor
      · intro k
        refine ⟨⟨by omega, by omega⟩, fun c hc => ?_⟩
        have := k ⟨#[c]⟩ (List.mem_map.mpr ⟨c, hc, rfl⟩)
        rw [tl_one] at this
        simp only [lt_one, Bool.and_eq_true, Bool.not_eq_true', decide_eq_false_iff_not] at this
        omega
      · intro k w hw
        obtain ⟨c, hc, rfl⟩ := mem_chars hw
        have := k.2 c hc
        rw [tl_one]
        simp only [lt_one, Bool.and_eq_true, Bool.not_eq_true', decide_eq_false_iff_not]
        omega
    · have : ¬ isw z := fun k => by have := k.1; omega
      simp [h1, h2, this]
  · have : ¬ isw z := fun k => by have := k.1; omega
    simp [h1, this]
theorem eqk_w {w : Str} (h : isw w) : Eqk rS w := by
  show PyData.strOk w = true
  unfold PyData.strOk
  rw [Array.all_eq_true']
  intro c hc
  have := h.2 c (by unfold tl; simpa using hc)
  simp; omega
theorem chars_at0 {z : Str} {c : Nat} {r : List Nat} (h : tl z = c :: r) : atI (chars z) 0 = some (⟨#[c]⟩ : Str) := by
  have : chars z = (⟨#[c]⟩ : Str) :: r.map (fun c => (⟨#[c]⟩ : Str)) := by
    unfold chars
    show (tl z).map _ = _
    rw [h]; rfl
  rw [this]
  exact atI_zero
theorem find_abc {c : Nat} (h : 97 ≤ c) (h2 : c ≤ 122) : Txt.find abc ⟨#[c]⟩ = (c : Int) - 97 := by
  have : ∀ k : Fin 26, Txt.find abc ⟨#[97 + k.val]⟩ = (k.val : Int) := by decide +kernel
  have e := this ⟨c - 97, by omega⟩
  rw [show 97 + (⟨c - 97, by omega⟩ : Fin 26).val = c by show 97 + (c - 97) = c; omega] at e
  rw [e]
  show ((c - 97 : Nat) : Int) = _
  omega
def rotc (c : Nat) : Nat := 97 + (c - 97 + 1) % 26
theorem rotc_in {c : Nat} : 97 ≤ rotc c ∧ rotc c ≤ 122 := by unfold rotc; omega
theorem abc_rot {c : Nat} (h : 97 ≤ c) (h2 : c ≤ 122) : atI (chars abc) ((Txt.find abc ⟨#[c]⟩ + 1) % 26) = some ⟨#[rotc c]⟩ := by
  rw [find_abc h h2, chars_abc]
  have e : ((c : Int) - 97 + 1) % 26 = (((c - 97 + 1) % 26 : Nat) : Int) := by omega
  rw [e]
  have hk : (c - 97 + 1) % 26 < 26 := Nat.mod_lt _ (by decide)
  unfold atI ixN
  rw [if_pos (by omega), if_pos (by simp; omega)]
  show ((List.range 26).map _)[((((c - 97 + 1) % 26 : Nat) : Int)).toNat]? = _
  rw [Int.toNat_natCast, List.getElem?_map, List.getElem?_range hk]
  rfl
def rot (l : List Nat) : List Nat := match l with | [] => [] | c :: r => rotc c :: r
def rots : Nat → List Nat → List Nat
  | 0, l => l
  | k + 1, l => rot (rots k l)
theorem rots_cons (c : Nat) (r : List Nat) : ∀ k, 97 ≤ c → c ≤ 122 → rots k (c :: r) = (97 + (c - 97 + k) % 26) :: r
  | 0, h, h2 => by
    show c :: r = _
    rw [Nat.mod_eq_of_lt (by omega)]
    congr 1
    omega
  | k + 1, h, h2 => by
    show rot (rots k (c :: r)) = _
    rw [rots_cons c r k h h2]
    show rotc (97 + (c - 97 + k) % 26) :: r = _
    unfold rotc
    congr 2
    omega
theorem isw_cons {z : Str} (h : isw z) : ∃ c r, tl z = c :: r ∧ 97 ≤ c ∧ c ≤ 122 := by
  cases e : tl z with
  | nil => have := h.1.1; rw [len_tl, e] at this; simp at this
  | cons c r => exact ⟨c, r, rfl, h.2 c (by rw [e]; exact List.mem_cons_self)⟩
theorem isw_rot {z y : Str} (h : isw z) (e : tl y = rot (tl z)) : isw y := by
  obtain ⟨c, r, e1, h1, h2⟩ := isw_cons h
  rw [e1] at e
  refine ⟨?_, fun d hd => ?_⟩
  · have := h.1
    rw [len_tl, e1] at this
    rw [len_tl, e]
    exact this
  · rw [e] at hd
    rcases List.mem_cons.mp hd with k | k
    · subst k; exact rotc_in
    · exact h.2 d (by rw [e1]; exact List.mem_cons_of_mem _ k)
theorem rots_many {z : Str} (h : isw z) {others : List Str} (k : ∀ i, i < 26 → ∃ w ∈ others, tl w = rots i (tl z)) : 26 ≤ others.length := by
  obtain ⟨c, r, e1, h1, h2⟩ := isw_cons h
  have hn : ((List.range 26).map fun i => rots i (tl z)).Nodup := by
    rw [e1]
    refine List.pairwise_map.mpr (List.Pairwise.imp_of_mem (fun {a b} ha hb hab e => ?_) (List.nodup_range (n := 26)))
    rw [rots_cons c r a h1 h2, rots_cons c r b h1 h2] at e
    have := (List.cons.inj e).1
    rw [List.mem_range] at ha hb
    omega
  have := nodup_le (l := (List.range 26).map fun i => rots i (tl z)) (m := others.map tl) hn fun x hx => by
    obtain ⟨i, hi, rfl⟩ := List.mem_map.mp hx
    obtain ⟨w, hw, e⟩ := k i (List.mem_range.mp hi)
    exact List.mem_map.mpr ⟨w, hw, e⟩
  simpa using this
def okw (n : Nat) (z : Str) : Prop := z.length ≤ n ∧ ∀ c ∈ tl z, c < 128
theorem isw_ok {z : Str} (h : isw z) : okw 8 z := ⟨h.1.2, fun c hc => by have := h.2 c hc; omega⟩
theorem okw.le {n m : Nat} {z : Str} (h : okw n z) (k : n ≤ m) : okw m z := ⟨Nat.le_trans h.1 k, h.2⟩
theorem eqk_ok {n : Nat} {w : Str} (h : okw n w) : Eqk rS w := by
  show PyData.strOk w = true
  unfold PyData.strOk
  rw [Array.all_eq_true']
  intro c hc
  have := h.2 c (by unfold tl; simpa using hc)
  simp; omega
theorem eqk_oks {n : Nat} {ws : List Str} (hl : ws.length ≤ 1000) (h : ∀ w ∈ ws, okw n w) : Eqk (rL rS) ws := ⟨hl, fun w hw => eqk_ok (h w hw)⟩
theorem eqk_nil : Eqk (rL rS) ([] : List Str) := ⟨by simp, by simp⟩
theorem len_one (c : Nat) : (⟨#[c]⟩ : Str).length = 1 := rfl
theorem len_cut (w : Str) (a b : Option Int) : (cutS w a b).length ≤ w.length := cutS_length w a b
theorem isw_put {w : Str} (h : isw w) {i : Int} (h0 : 0 ≤ i) (h1 : i < w.length) {c : Nat} (c1 : 97 ≤ c) (c2 : c ≤ 122) : isw (cutS w none (some i) ++ ⟨#[c]⟩ ++ cutS w (some (i + 1)) none) := by
  have hl := h.1
  refine ⟨?_, fun d hd => ?_⟩
  · rw [len_app, len_app, len_one, len_tl (cutS w none _), len_tl (cutS w (some _) _), tl_cut, tl_cut, cut_to _ h0, cut_from _ (by omega), List.length_take, List.length_drop, ← len_tl]
    omega
  · rw [tl_app, tl_app, tl_one, tl_cut, tl_cut, cut_to _ h0, cut_from _ (by omega)] at hd
    rcases List.mem_append.mp hd with hd | hd
    · rcases List.mem_append.mp hd with hd | hd
      · exact h.2 d (List.mem_of_mem_take hd)
      · simp at hd; omega
    · exact h.2 d (List.mem_of_mem_drop hd)
theorem Lword_ok {others : List Str} (ho : ∀ w, others.getLast? = some w → isw w) (hk : Eqk (rL rS) others) {Q : Str → Prop} {E : Ex → Prop} (q : ∀ z, isw z → (others.length < 26 → z ∉ others) → Q z) : (P_Lword others).run Q E := by
  unfold P_Lword
  simp only [pure_bind, bind_assoc, map_pure]
  rw [Mo.rq_of (show CPow 26 8 by unfold CPow; decide)]
  simp only [pure_bind]
  rw [show ((26 : Int) ^ (8 : Int).toNat) = 208827064576 by decide +kernel, Mo.rq_of (show CMul 24 208827064576 from .inl ⟨by decide, by decide⟩)]
  simp only [pure_bind]
  rw [Mo.run_bind, Mo.run_take]
  refine ⟨by decide, fun code hc => ?_⟩
  have hz := sizeLine_eq
  rw [Mo.rq_of (by decide), pure_bind, Mo.rq_of (show CDiv code 3 from ⟨by decide, by decide⟩), pure_bind, Mo.rq_of (by decide), pure_bind, Mo.rq_of (show CDiv code 24 from ⟨by decide, by decide⟩), pure_bind]
  rw [show (Str.ofString "abcdefghijklmnopqrstuvwxyz" : Str) = abc from rfl]
  obtain ⟨b, e, hb⟩ : ∃ b : Bool, (if decide (code % 3 = 0) = true then Mo.rq (Eqk (rL rS) others ∧ Eqk (rL rS) []) (!decide (others = [])) else pure false : Mo Bool) = pure b ∧ (b = true → others ≠ []) := by
    by_cases c : code % 3 = 0
    · exact ⟨!decide (others = []), by rw [if_pos (decide_eq_true c), Mo.rq_of ⟨hk, eqk_nil⟩], fun h => by simpa using h⟩
    · exact ⟨false, by rw [if_neg (by simpa using c)], fun h => by cases h⟩
  rw [e, pure_bind]
  refine Mo.cut isw ?_ fun j hj => ?_
  · cases b with
    | true =>
      rw [if_pos rfl]
      have hne := hb rfl
      obtain ⟨w, e1⟩ : ∃ w, others.getLast? = some w := by
        cases e : others.getLast? with
        | none => exact absurd (List.getLast?_eq_none_iff.mp e) hne
        | some w => exact ⟨w, rfl⟩
      have hw := ho w e1
      have hl := hw.1
      rw [atI_last e1, Mo.get_some, pure_bind, Mo.rq_of (by omega), pure_bind, Mo.rq_of (by omega), pure_bind, Mo.rq_of (by omega), pure_bind, Mo.rq_of (by decide), pure_bind, Mo.rq_of (by rw [len_abc]; omega), pure_bind]
      have hm0 : 0 ≤ code / 24 % 26 := Int.emod_nonneg _ (by decide)
      have hm1 : code / 24 % 26 < 26 := Int.emod_lt_of_pos _ (by decide)
      obtain ⟨c, c1, c2, e3⟩ := abc_at hm0 hm1
      have l1 := len_cut w none (some ((1 + code / 3 % 8) % (w.length : Int)))
      have l2 := len_cut w (some ((1 + code / 3 % 8) % (w.length : Int) + 1)) none
      rw [e3, Mo.get_some, pure_bind, Mo.rq_of (by rw [len_one]; omega), pure_bind, Mo.rq_of (by omega), pure_bind, Mo.rq_of (by rw [len_app, len_one]; omega), pure_bind]
      exact isw_put hw (Int.emod_nonneg _ (by omega)) (Int.emod_lt_of_pos _ (by omega)) c1 c2
    | false =>
      rw [if_neg Bool.false_ne_true]
      have hm0 : 0 ≤ code / 3 % 8 := Int.emod_nonneg _ (by decide)
      have hm1 : code / 3 % 8 < 8 := Int.emod_lt_of_pos _ (by decide)
      rw [Mo.rq_of ⟨by omega, by omega⟩, pure_bind, Mo.run_bind]
      refine Mo.fold_inv (fun i (s : Str × Int) => s.1.length = i ∧ ∀ c ∈ tl s.1, 97 ≤ c ∧ c ≤ 122) (k := 0) ⟨rfl, fun c hc => by simp [tl, show (("" : Str).cps) = #[] from rfl] at hc⟩ (fun i x s hx hs => ?_) (fun s hs => ?_)
      · have hi : i < 8 := by
          have := (List.getElem?_eq_some_iff.mp hx).1
          rw [rangeL_len] at this
          omega
        obtain ⟨c, c1, c2, e3⟩ := abc_at (i := s.2 % 26) (Int.emod_nonneg _ (by decide)) (Int.emod_lt_of_pos _ (by decide))
        have hs1 := hs.1
        rw [Mo.rq_of (by decide), pure_bind, Mo.rq_of (by rw [len_abc]; omega), pure_bind, e3, Mo.get_some, pure_bind, Mo.rq_of (by rw [len_one]; omega), pure_bind, Mo.rq_of (show CDiv s.2 26 from ⟨by decide, by decide⟩), pure_bind]
        refine ⟨by show (s.1 ++ _).length = _; rw [len_app, len_one, hs1], fun d hd => ?_⟩
        have hd : d ∈ tl (s.1 ++ ⟨#[c]⟩) := hd
        rw [tl_app, tl_one] at hd
        rcases List.mem_append.mp hd with k | k
        · exact hs.2 d k
        · simp at k; omega
      · rw [Mo.run_pure]
        have hs1 := hs.1
        rw [rangeL_len] at hs1
        exact ⟨by omega, hs.2⟩
  · rw [Mo.rq_of (by decide), pure_bind, Mo.run_bind]
    refine Mo.fold_inv (fun i (s : Str) => isw s ∧ (s ∉ others ∨ (tl s = rots i (tl j) ∧ ∀ k, k < i → ∃ w ∈ others, tl w = rots k (tl j)))) (k := 0) ⟨hj, .inr ⟨rfl, fun k hk => absurd hk (Nat.not_lt_zero _)⟩⟩ (fun i x s hx hs => ?_) (fun s hs => ?_)
    · by_cases c : s ∈ others
      · simp only [c, decide_true, if_true]
        obtain ⟨d, r, e1, d1, d2⟩ := isw_cons hs.1
        have hl := hs.1.1.2
        have l2 := len_cut s (some 1) none
        rw [Mo.rq_of (by omega), pure_bind, chars_at0 e1, Mo.get_some, pure_bind, Mo.rq_of (by decide), pure_bind, Mo.rq_of (by rw [len_abc]; omega), pure_bind, abc_rot d1 d2, Mo.get_some, pure_bind, Mo.rq_of (by omega), pure_bind, Mo.rq_of (by rw [len_one]; omega), pure_bind]
        have et : tl (⟨#[rotc d]⟩ ++ cutS s (some 1) none) = rot (tl s) := by
          rw [tl_app, tl_cut, cut_from _ (by decide), e1]
          rfl
        refine ⟨isw_rot hs.1 et, ?_⟩
        rcases hs.2 with k | ⟨k1, k2⟩
        · exact absurd c k
        · refine .inr ⟨?_, fun m hm => ?_⟩
          · rw [et, k1, show 0 + i + 1 = i + 1 by omega, show 0 + i = i by omega]; rfl
          · by_cases hm2 : m < 0 + i
            · exact k2 m hm2
            · rw [show m = 0 + i by omega]; exact ⟨s, c, k1⟩
      · simp only [c, decide_false, Bool.false_eq_true, if_false]
        exact ⟨hs.1, .inl c⟩
    · refine q s hs.1 fun few hm => ?_
      rcases hs.2 with k | ⟨k1, k2⟩
      · exact k hm
      · have := rots_many hj (others := others) fun i hi => k2 i (by rw [rangeL_len]; simpa using hi)
        omega
end DD
namespace DD
open PySem PySem.Spec PyProof.Rows L2 KO SX RF
theorem Lwords_ok {many : Int} (h : 0 ≤ many) (h2 : many ≤ 25) {Q : List Str → Prop} {E : Ex → Prop} (q : ∀ ws, ws.length = many.toNat → ws.Nodup → (∀ w ∈ ws, isw w) → Q ws) : (P_Lwords many).run Q E := by
  unfold P_Lwords
  simp only [pure_bind, bind_assoc, map_pure]
  rw [Mo.rq_of ⟨by omega, by omega⟩, pure_bind, Mo.run_bind]
  refine Mo.fold_inv (fun k (s : List Str) => s.length = k ∧ s.Nodup ∧ ∀ w ∈ s, isw w) (k := 0) ⟨rfl, List.nodup_nil, by simp⟩ (fun i x s hx hs => ?_) (fun s hs => ?_)
  · obtain ⟨hi, hd, hw⟩ := hs
    have hb : i < many.toNat := by have := (List.getElem?_eq_some_iff.mp hx).1; rwa [rangeL_len] at this
    have hz := sizeLine_eq
    refine Mo.cut (fun z => isw z ∧ z ∉ s) (Lword_ok (fun w e => hw w (List.mem_of_getLast? e)) ⟨by omega, fun w hw2 => eqk_w (hw w hw2)⟩ fun z z1 z2 => ⟨z1, z2 (by omega)⟩) fun z hz2 => ?_
    rw [Mo.rq_of (by omega), pure_bind, Mo.run_pure]
    refine ⟨by rw [List.length_append, hi]; rfl, ?_, fun v hv => ?_⟩
    · rw [List.nodup_append]
      refine ⟨hd, by simp, fun a ha b hb hab => ?_⟩
      simp at hb
      subst hb hab
      exact hz2.2 ha
    · rcases List.mem_append.mp hv with h | h
      · exact hw v h
      · simp at h; rw [h]; exact hz2.1
  · rw [Mo.run_pure]
    exact q s (by rw [hs.1, rangeL_len]; omega) hs.2.1 hs.2.2
theorem Lsome_ok {names : List Str} (hn : names.Nodup) (hl : names.length ≤ 25) {few more : Int} (h0 : 0 ≤ few) (h1 : few ≤ more) (h2 : more ≤ names.length) {Q : List Str → Prop} {E : Ex → Prop}
    (q : ∀ ws : List Str, few ≤ ws.length → ws.length ≤ more → ws.Nodup → (∀ w ∈ ws, w ∈ names) → Q ws) : (P_Lsome names few more).run Q E := by
  unfold P_Lsome
  simp only [pure_bind, bind_assoc, map_pure, Mo.rq_of cpow9, pow9]
  rw [Mo.run_bind, Mo.run_take]
  refine ⟨by decide, fun code hc => ?_⟩
  have hz := sizeLine_eq
  have m0 : 0 ≤ code % (more - few + 1) := Int.emod_nonneg _ (by omega)
  have m1 : code % (more - few + 1) < more - few + 1 := Int.emod_lt_of_pos _ (by omega)
  rw [Mo.rq_of (by omega), pure_bind, Mo.rq_of (show CDiv code (more - few + 1) from ⟨by omega, by omega⟩), pure_bind, Mo.rq_of ⟨by omega, by omega⟩, pure_bind, Mo.run_bind]
  refine Mo.fold_inv (fun k (s : Int × List Str × List Str) => s.2.1.length = k ∧ (s.2.1 ++ s.2.2).Perm names) (k := 0) ⟨rfl, List.Perm.refl _⟩ (fun i x s hx hs => ?_) (fun s hs => ?_)
  · obtain ⟨hi, hp⟩ := hs
    have hb : i < (few + code % (more - few + 1)).toNat := by have := (List.getElem?_eq_some_iff.mp hx).1; rwa [rangeL_len] at this
    have hlen := hp.length_eq
    rw [List.length_append] at hlen
    have a0 : 0 ≤ s.1 % (s.2.2.length : Int) := Int.emod_nonneg _ (by omega)
    have a1 : s.1 % (s.2.2.length : Int) < s.2.2.length := Int.emod_lt_of_pos _ (by omega)
    rw [Mo.rq_of (by omega), pure_bind, Mo.rq_of (show CDiv s.1 s.2.2.length from ⟨by omega, by omega⟩), pure_bind]
    obtain ⟨w, e1, e2⟩ := atI_in (xs := s.2.2) a0 a1
    have l1 : (cutL s.2.2 none (some (s.1 % (s.2.2.length : Int)))).length ≤ s.2.2.length := by rw [cut_to _ a0, List.length_take]; omega
    have l2 : (cutL s.2.2 (some (s.1 % (s.2.2.length : Int) + 1)) none).length ≤ s.2.2.length := by rw [cut_from _ (by omega), List.length_drop]; omega
    rw [e1, Mo.get_some, pure_bind, Mo.rq_of (by omega), pure_bind, Mo.rq_of (by omega), pure_bind, Mo.run_pure]
    refine ⟨by show (s.2.1 ++ [w]).length = _; rw [List.length_append, hi]; rfl, ?_⟩
    show ((s.2.1 ++ [w]) ++ (cutL s.2.2 none (some (s.1 % (s.2.2.length : Int))) ++ cutL s.2.2 (some (s.1 % (s.2.2.length : Int) + 1)) none)).Perm names
    refine List.Perm.trans ?_ hp
    rw [cut_to _ a0, cut_from _ (by omega), show (s.1 % (s.2.2.length : Int) + 1).toNat = (s.1 % (s.2.2.length : Int)).toNat + 1 by omega]
    generalize (s.1 % (s.2.2.length : Int)).toNat = n at e2
    rw [List.append_assoc]
    refine List.Perm.append_left _ ?_
    have e3 : s.2.2 = s.2.2.take n ++ w :: s.2.2.drop (n + 1) := by
      have hlt := (List.getElem?_eq_some_iff.mp e2)
      obtain ⟨k1, k2⟩ := hlt
      rw [← k2, List.getElem_cons_drop, List.take_append_drop]
    refine List.Perm.trans ?_ (List.Perm.of_eq e3.symm)
    show (w :: (s.2.2.take n ++ s.2.2.drop (n + 1))).Perm _
    exact List.perm_middle.symm
  · rw [Mo.run_pure]
    obtain ⟨hi, hp⟩ := hs
    rw [rangeL_len] at hi
    have hnd : (s.2.1 ++ s.2.2).Nodup := hp.nodup_iff.mpr hn
    exact q _ (by omega) (by omega) (List.nodup_append.mp hnd).1 fun w hw => hp.mem_iff.mp (List.mem_append_left _ hw)
abbrev Sheet := Str × List Str × List Str
structure Gd (S : List Sheet) (st ls : List Str) : Prop where
  n1 : 1 ≤ S.length
  n4 : S.length ≤ 4
  nd : (S.map (·.1)).Nodup
  wd : ∀ s ∈ S, isw s.1
  ln : ∀ s ∈ S, s.2.1.length ≤ 8 ∧ s.2.1.Nodup ∧ ∀ w ∈ s.2.1, isw w
  fo : ∀ s ∈ S, 1 ≤ s.2.2.length ∧ s.2.2.Nodup ∧ ∀ w ∈ s.2.2, w ∈ S.map (·.1)
  st : 1 ≤ st.length ∧ st.Nodup ∧ ∀ w ∈ st, w ∈ S.map (·.1)
  lu : ls.Nodup
  ls : ls.length ≤ 8 ∧ ∀ w ∈ ls, isw w
theorem nodup_set {l : List Str} (h : l.Nodup) {x : Str} (hx : x ∉ l) (i : Nat) : (l.set i x).Nodup := by
  rw [List.nodup_iff_pairwise_ne] at h ⊢
  rw [List.pairwise_iff_getElem] at h ⊢
  intro a b ha hb hab
  rw [List.length_set] at ha hb
  rw [List.getElem_set, List.getElem_set]
  have m : ∀ (c : Nat) (hc : c < l.length), l[c] ≠ x := fun c hc e => hx (e ▸ List.getElem_mem hc)
  split
  · rename_i e
    split
    · omega
    · exact fun e => m b hb e.symm
  · split
    · exact m a ha
    · exact h a b ha hb hab
theorem atI0_head {ws : List Str} (h : 1 ≤ ws.length) : ∃ w, atI ws 0 = some w ∧ w ∈ ws := by
  obtain ⟨w, e1, e2⟩ := atI_in (xs := ws) (i := 0) (by decide) (by omega)
  exact ⟨w, e1, List.mem_of_getElem? e2⟩
theorem Lsheets_ok {Q : List Sheet × List Str × List Str → Prop} {E : Ex → Prop} (q : ∀ S st ls, Gd S st ls → (∀ s ∈ S, ∀ w ∈ s.2.1, w ∈ ls) → Q (S, st, ls)) : P_Lsheets.run Q E := by
  unfold P_Lsheets
  simp only [pure_bind, bind_assoc, map_pure]
  have hz := sizeLine_eq
  rw [Mo.run_bind, Mo.run_take]
  refine ⟨by decide, fun a ha => ?_⟩
  obtain ⟨n, e1, e2⟩ := atI_in (xs := ([3, 2, 8, 0, 1, 4] : List Int)) ha.1 ha.2
  have hn : 0 ≤ n ∧ n ≤ 8 := by
    have := List.mem_of_getElem? e2
    simp at this
    omega
  rw [e1, Mo.get_some, pure_bind]
  refine Mo.cut (fun ws => ws.length ≤ 8 ∧ ws.Nodup ∧ ∀ w ∈ ws, isw w) (Lwords_ok hn.1 (by omega) fun ws w1 w2 w3 => ⟨by omega, w2, w3⟩) fun lines hl => ?_
  rw [Mo.run_bind, Mo.run_take]
  refine ⟨by decide, fun b hb => ?_⟩
  refine Mo.cut (fun ws => (1 ≤ ws.length ∧ ws.length ≤ 4) ∧ ws.Nodup ∧ ∀ w ∈ ws, isw w) (Lwords_ok (by omega) (by omega) fun ws w1 w2 w3 => ⟨⟨by omega, by omega⟩, w2, w3⟩) fun names hns => ?_
  rw [Mo.run_bind, Mo.run_take]
  refine ⟨by decide, fun c hc => ?_⟩
  obtain ⟨x0, a1, a2⟩ := atI0_head hns.1.1
  obtain ⟨t, et, ht⟩ : ∃ t : Bool, (if decide (c = 0) = true then (do
            let b46 ← (Mo.rq (Eqk (rL rS) lines ∧ Eqk (rL rS) []) !decide (lines = [])).calm
            if b46 = true then do
                let x44 ← Mo.get (atI names 0)
                pure !decide (x44 ∈ lines)
              else pure false)
          else pure false : Mo Bool) = pure t ∧ (t = true → x0 ∉ lines ∧ lines ≠ []) := by
    by_cases h : c = 0
    · rw [if_pos (decide_eq_true h), Mo.rq_of ⟨⟨by omega, fun w hw => eqk_w (hl.2.2 w hw)⟩, eqk_nil⟩, Mo.calm_pure, pure_bind, a1, Mo.get_some]
      by_cases h2 : lines = []
      · exact ⟨false, by simp [h2], fun h => by cases h⟩
      · exact ⟨!decide (x0 ∈ lines), by simp [h2], fun h => ⟨by simpa using h, h2⟩⟩
    · exact ⟨false, by rw [if_neg (by simpa using h)], fun h => by cases h⟩
  rw [et, pure_bind]
  refine Mo.cut (fun ws => ws.length ≤ 8 ∧ ws.Nodup ∧ ∀ w ∈ ws, isw w) ?_ fun ls hls => ?_
  · cases t with
    | true =>
      rw [if_pos rfl]
      obtain ⟨t1, t2⟩ := ht rfl
      have hne : 0 < lines.length := List.length_pos_iff.mpr t2
      rw [a1, Mo.get_some, pure_bind, show ixN lines.length 0 = some 0 by unfold ixN; rw [if_pos (by decide), if_pos (by omega)]; rfl, Mo.get_some, pure_bind, Mo.run_pure]
      refine ⟨by rw [List.length_set]; exact hl.1, nodup_set hl.2.1 t1 0, fun w hw => ?_⟩
      rcases List.mem_or_eq_of_mem_set hw with h | h
      · exact hl.2.2 w h
      · rw [h]; exact hns.2.2 _ a2
    | false => rw [if_neg Bool.false_ne_true]; exact hl
  rw [Mo.run_bind, Mo.run_take]
  refine ⟨by decide, fun d hd => ?_⟩
  have hm : ∀ d : Int, 0 ≤ d → 1 ≤ min (names.length : Int) (1 + d) ∧ min (names.length : Int) (1 + d) ≤ names.length := fun d hd => by omega
  refine Mo.cut (fun S : List Sheet => S.map (·.1) = names ∧ ∀ s ∈ S, (s.2.1.length ≤ 8 ∧ s.2.1.Nodup ∧ ∀ w ∈ s.2.1, w ∈ ls) ∧ 1 ≤ s.2.2.length ∧ s.2.2.Nodup ∧ ∀ w ∈ s.2.2, w ∈ names) ?_ fun S hS => ?_
  · refine Mo.fold_inv (fun k (S : List Sheet) => S.map (·.1) = names.take k ∧ ∀ s ∈ S, (s.2.1.length ≤ 8 ∧ s.2.1.Nodup ∧ ∀ w ∈ s.2.1, w ∈ ls) ∧ 1 ≤ s.2.2.length ∧ s.2.2.Nodup ∧ ∀ w ∈ s.2.2, w ∈ names) (k := 0) ⟨by simp, by simp⟩ (fun i x S hx hS => ?_) (fun S hS => ?_)
    · refine Mo.cut (fun ws => ws.length ≤ 8 ∧ ws.Nodup ∧ ∀ w ∈ ws, w ∈ ls) (Lsome_ok hls.2.1 (by omega) (by decide) (by omega) (Int.le_refl _) fun ws w1 w2 w3 w4 => ⟨by omega, w3, w4⟩) fun ws hws => ?_
      refine Mo.cut (fun ws => 1 ≤ ws.length ∧ ws.Nodup ∧ ∀ w ∈ ws, w ∈ names) (Lsome_ok hns.2.1 (by omega) (by decide) (hm d hd.1).1 (hm d hd.1).2 fun ws w1 w2 w3 w4 => ⟨by omega, w3, w4⟩) fun fs hfs => ?_
      have hSl : S.length ≤ 4 := by have := congrArg List.length hS.1; rw [List.length_map, List.length_take] at this; omega
      rw [Mo.rq_of (by omega), pure_bind, Mo.run_pure]
      refine ⟨?_, fun s hs => ?_⟩
      · rw [List.map_append, hS.1, show 0 + i + 1 = i + 1 by omega, show 0 + i = i by omega, List.take_add_one, hx]
        rfl
      · rcases List.mem_append.mp hs with h | h
        · exact hS.2 s h
        · simp at h; rw [h]; exact ⟨hws, hfs⟩
    · exact ⟨by rw [hS.1, Nat.zero_add, List.take_length], hS.2⟩
  rw [Mo.run_bind, Mo.run_take]
  refine ⟨by decide, fun e he => ?_⟩
  refine Mo.cut (fun ws => 1 ≤ ws.length ∧ ws.Nodup ∧ ∀ w ∈ ws, w ∈ names) (Lsome_ok hns.2.1 (by omega) (by decide) (hm e he.1).1 (hm e he.1).2 fun ws w1 w2 w3 w4 => ⟨by omega, w3, w4⟩) fun st hst => ?_
  have hSl : S.length = names.length := by have := congrArg List.length hS.1; rwa [List.length_map] at this
  rw [Mo.run_pure]
  exact q S st ls ⟨by omega, by omega, by rw [hS.1]; exact hns.2.1, fun s hs => hns.2.2 _ (by rw [← hS.1]; exact List.mem_map.mpr ⟨s, hs, rfl⟩), fun s hs => ⟨(hS.2 s hs).1.1, (hS.2 s hs).1.2.1, fun w hw => hls.2.2 w ((hS.2 s hs).1.2.2 w hw)⟩, fun s hs => by rw [hS.1]; exact (hS.2 s hs).2, by rw [hS.1]; exact hst, hls.2.1, ⟨hls.1, hls.2.2⟩⟩ fun s hs => (hS.2 s hs).1.2.2
end DD
namespace DD
open PySem PySem.Spec PyProof.Rows L2 KO SX RF
abbrev nms (S : List Sheet) : List Str := S.map (·.1)
def pl (names chosen : List Str) : List Int := (rangeL 0 names.length).filter fun w => match names[w.toNat]? with | some n => decide (n ∈ chosen) | none => false
theorem Lplaces_eq {names : List Str} (hl : names.length ≤ 1000) (chosen : List Str) : P_Lplaces names chosen = pure (pl names chosen) := by
  unfold P_Lplaces
  simp only [pure_bind, bind_assoc, map_pure]
  have hz := sizeLine_eq
  rw [Mo.rq_of ⟨by omega, by omega⟩, pure_bind, show ((names.length : Int)).toNat = names.length by omega]
  rw [Mo.lc_pure (p := fun w : Int => match names[w.toNat]? with | some n => decide (n ∈ chosen) | none => false) (g := fun w => w) (by rw [rangeL_len]; omega) (fun w hw => ?_) (fun _ _ _ => rfl)]
  · rw [List.map_id']; rfl
  · obtain ⟨h1, h2⟩ := rangeL_mem.mp hw
    obtain ⟨x, e1, e2⟩ := atI_in (xs := names) h1 (by omega)
    rw [e1, Mo.get_some, pure_bind]
    simp only [e2]
theorem pl_mem {names chosen : List Str} {w : Int} : w ∈ pl names chosen ↔ 0 ≤ w ∧ ∃ n, names[w.toNat]? = some n ∧ n ∈ chosen := by
  unfold pl
  rw [List.mem_filter, rangeL_mem]
  constructor
  · rintro ⟨⟨h1, h2⟩, h3⟩
    refine ⟨h1, ?_⟩
    cases e : names[w.toNat]? with
    | none => rw [e] at h3; cases h3
    | some n => rw [e] at h3; exact ⟨n, rfl, by simpa using h3⟩
  · rintro ⟨h1, n, e, h3⟩
    have := (List.getElem?_eq_some_iff.mp e).1
    exact ⟨⟨h1, by omega⟩, by rw [e]; simpa using h3⟩
theorem rangeL_lt {lo : Int} {n : Nat} : (rangeL lo n).Pairwise (· < ·) := by
  unfold rangeL
  rw [List.pairwise_map]
  exact List.Pairwise.imp (fun {a b} h => by omega) (List.pairwise_lt_range (n := n))
theorem pl_lt {names chosen : List Str} : (pl names chosen).Pairwise (· < ·) := rangeL_lt.filter _
theorem rising_eq : ∀ {l m : List Int}, l.Pairwise (· < ·) → m.Pairwise (· < ·) → (∀ x, x ∈ l ↔ x ∈ m) → l = m
  | [], [], _, _, _ => rfl
  | [], y :: m, _, _, h => absurd ((h y).mpr List.mem_cons_self) (by simp)
  | x :: l, [], _, _, h => absurd ((h x).mp List.mem_cons_self) (by simp)
  | x :: l, y :: m, hl, hm, h => by
    obtain ⟨l1, l2⟩ := List.pairwise_cons.mp hl
    obtain ⟨m1, m2⟩ := List.pairwise_cons.mp hm
    have e : x = y := by
      rcases List.mem_cons.mp ((h x).mp List.mem_cons_self) with k | k
      · exact k
      · rcases List.mem_cons.mp ((h y).mpr List.mem_cons_self) with k2 | k2
        · exact k2.symm
        · have := m1 x k; have := l1 y k2; omega
    subst e
    congr 1
    refine rising_eq l2 m2 fun z => ?_
    constructor
    · intro hz
      rcases List.mem_cons.mp ((h z).mp (List.mem_cons_of_mem _ hz)) with k | k
      · have := l1 z hz; omega
      · exact k
    · intro hz
      rcases List.mem_cons.mp ((h z).mpr (List.mem_cons_of_mem _ hz)) with k | k
      · have := m1 z hz; omega
      · exact k
theorem idx_some {names : List Str} {c : Str} (h : c ∈ names) : ∃ j, List.idxOf? c names = some j ∧ names[j]? = some c ∧ ∀ i, i < j → names[i]? ≠ some c := by
  cases e : List.idxOf? c names with
  | none => rw [List.idxOf?_eq_none_iff] at e; exact absurd h e
  | some j =>
    obtain ⟨k1, k2, k3⟩ := List.idxOf?_eq_some_iff.mp e
    refine ⟨j, rfl, by rw [List.getElem?_eq_getElem k1, k2], fun i hi e2 => ?_⟩
    rw [List.getElem?_eq_getElem (by omega)] at e2
    exact k3 i hi (Option.some.inj e2)
theorem at_inj {names : List Str} (hn : names.Nodup) {i j : Nat} {x : Str} (h1 : names[i]? = some x) (h2 : names[j]? = some x) : i = j := (List.getElem?_inj (List.getElem?_eq_some_iff.mp h1).1 hn).mp (h1.trans h2.symm)
theorem asc_eq {names chosen : List Str} (hn : names.Nodup) (hc : chosen.Nodup) (hs : ∀ c ∈ chosen, c ∈ names) (hl : names.length ≤ 60) : P_ascendingindexes chosen names = pure (pl names chosen) := by
  unfold P_ascendingindexes
  simp only [pure_bind, bind_assoc, map_pure]
  have hz := sizeLine_eq
  have hcl : chosen.length ≤ names.length := nodup_le hc hs
  rw [Mo.lc_map (g := fun c => ((List.idxOf? c names).getD 0 : Int)) (by omega) fun c h => by
    obtain ⟨j, e, _⟩ := idx_some (hs c h)
    rw [e, Mo.get_some, pure_bind]
    rfl]
  rw [pure_bind, Mo.rq_of (by rw [List.length_map]; omega), pure_bind]
  refine Mo.ext' fun Q E => ?_
  have hnd : (chosen.map fun c => (((List.idxOf? c names).getD 0 : Nat) : Int)).Nodup := by
    rw [List.nodup_iff_pairwise_ne, List.pairwise_map]
    refine List.Pairwise.imp_of_mem (fun {a b} ha hb hab e => ?_) (List.nodup_iff_pairwise_ne.mp hc)
    obtain ⟨i, e1, e2, _⟩ := idx_some (hs a ha)
    obtain ⟨j, f1, f2, _⟩ := idx_some (hs b hb)
    rw [e1, f1] at e
    have e : (i : Int) = j := e
    have : i = j := by omega
    subst this
    rw [e2] at f2
    exact hab (Option.some.inj f2)
  have key : ∀ ys : List Int, (ys.Perm (chosen.map fun c => (((List.idxOf? c names).getD 0 : Nat) : Int)) ∧ ys.Pairwise (fun x1 x2 => x1 ≤ x2)) ↔ ys = pl names chosen := fun ys => by
    have mem : ∀ x : Int, x ∈ (chosen.map fun c => (((List.idxOf? c names).getD 0 : Nat) : Int)) ↔ x ∈ pl names chosen := fun x => by
      rw [pl_mem, List.mem_map]
      constructor
      · rintro ⟨c, hc2, rfl⟩
        obtain ⟨j, e, e2, _⟩ := idx_some (hs c hc2)
        rw [e]
        exact ⟨by simp, c, by simpa using e2, hc2⟩
      · rintro ⟨h0, n, e, h3⟩
        obtain ⟨j, f1, f2, _⟩ := idx_some (hs n h3)
        refine ⟨n, h3, ?_⟩
        rw [f1]
        have := at_inj hn e f2
        simp
        omega
    constructor
    · rintro ⟨hp, ho⟩
      refine rising_eq ?_ pl_lt fun x => (hp.mem_iff).trans (mem x)
      have hn2 := hp.nodup_iff.mpr hnd
      rw [List.nodup_iff_pairwise_ne] at hn2
      exact (List.Pairwise.and ho hn2).imp fun {a b} h => by omega
    · rintro rfl
      refine ⟨?_, pl_lt.imp fun {a b} h => by omega⟩
      refine (List.perm_ext_iff_of_nodup ?_ hnd).mpr fun x => (mem x).symm
      rw [List.nodup_iff_pairwise_ne]
      exact pl_lt.imp fun {a b} h => by omega
  show (∀ ys : List Int, _ → Q ys) = Q (pl names chosen)
  refine propext ⟨fun h => h _ ((key _).mpr rfl), fun h ys hy => ?_⟩
  rw [(key ys).mp hy]
  exact h
theorem eraseDups_nodup (xs : List Str) : setLen xs = xs.length ↔ xs.Nodup := by
  induction h : xs.length generalizing xs with
  | zero => rw [List.length_eq_zero_iff.mp h]; simp [setLen]
  | succ n ih =>
    have hne : xs ≠ [] := by intro e; rw [e] at h; simp at h
    have e1 : xs = xs.dropLast ++ [xs.getLast hne] := (List.dropLast_concat_getLast hne).symm
    have e2 : xs.dropLast.length = n := by rw [List.length_dropLast]; omega
    have e3 := ih xs.dropLast e2
    have le : setLen xs.dropLast ≤ xs.dropLast.length := setLen_le _
    generalize xs.dropLast = ys at *
    generalize xs.getLast hne = x at *
    subst e1
    unfold setLen at *
    rw [eraseDups_snoc, List.nodup_append]
    by_cases c : x ∈ ys
    · rw [if_pos c]
      constructor
      · intro k; omega
      · rintro ⟨_, _, k⟩
        exact absurd rfl (k x c x (by simp))
    · rw [if_neg c]
      constructor
      · intro k
        refine ⟨e3.mp (by omega), by simp, fun a ha b hb hab => ?_⟩
        simp at hb
        subst hb hab
        exact c ha
      · rintro ⟨k, _, _⟩
        have := e3.mpr k
        omega
theorem alldiffer_eq {ws : List Str} (h : ws.length ≤ 1000) : P_alldiffer ws = pure (decide ws.Nodup) := by
  unfold P_alldiffer
  simp only [pure_bind, bind_assoc, map_pure]
  rw [Mo.rq_of h, pure_bind]
  congr 1
  have := eraseDups_nodup ws
  rw [Bool.eq_iff_iff, decide_eq_true_iff, decide_eq_true_iff, ← this]
  omega
def okl (ls : List Str) : Bool := decide (ls.length ≤ 8) && decide ls.Nodup && ls.all fun l => decide (isw l)
def okf (names chosen : List Str) : Bool := decide (0 < chosen.length) && decide chosen.Nodup && chosen.all fun c => decide (c ∈ names)
theorem arelines_eq {ls : List Str} (h : ls.length ≤ 1000) (hw : ∀ w ∈ ls, w.length ≤ 1000) : P_arelines ls = pure (okl ls) := by
  unfold P_arelines
  simp only [pure_bind, bind_assoc, map_pure]
  have hz := sizeLine_eq
  unfold okl
  by_cases c : ls.length ≤ 8
  · rw [if_pos (by simp; omega), alldiffer_eq h, pure_bind]
    by_cases d : ls.Nodup
    · rw [if_pos (by simpa using d), Mo.lc_map (g := fun l => decide (isw l)) (by omega) fun w hw2 => isname_eq (hw w hw2), pure_bind, pure_bind]
      simp [c, d, List.all_map, Function.comp_def]
    · rw [if_neg (by simpa using d), pure_bind]
      simp [d]
  · rw [if_neg (by simp; omega), pure_bind]
    simp [c]
theorem arepages_eq {names chosen : List Str} (h : chosen.length ≤ 1000) : P_arepages chosen names = pure (okf names chosen) := by
  unfold P_arepages
  simp only [pure_bind, bind_assoc, map_pure]
  have hz := sizeLine_eq
  unfold okf
  by_cases c : 0 < chosen.length
  · rw [decide_eq_true (show (0 : Int) < chosen.length by omega), if_pos rfl, alldiffer_eq h, pure_bind]
    by_cases d : chosen.Nodup
    · rw [if_pos (by simpa using d), Mo.lc_map (g := fun l => decide (l ∈ names)) (by omega) fun w hw2 => rfl, pure_bind, pure_bind]
      simp [c, d, List.all_map, Function.comp_def]
    · rw [if_neg (by simpa using d), pure_bind]
      simp [d]
  · rw [decide_eq_false (show ¬ (0 : Int) < chosen.length by omega), if_neg Bool.false_ne_true, pure_bind]
    simp [c]
def badp (S : List Sheet) (p : Int × Sheet) : Bool := !decide (isw p.2.1) || decide (p.2.1 ∈ (nms S).take p.1.toNat) || !okl p.2.2.1
abbrev Wr := Str × Int
def bb (p : Wr) : Ex := ⟨Str.ofString "BadBook", [(Str.ofString "place", Enc.d RF.rI p.2), (Str.ofString "part", Enc.d rS p.1)]⟩
def fst1 (S : List Sheet) : Option Wr := if 1 ≤ S.length ∧ S.length ≤ 4 then (enumL S).findSome? fun p => if badp S p = true then some (Str.ofString "page", p.1) else none else some (Str.ofString "pages", 0)
def fst2 (S : List Sheet) (st : List Str) : Option Wr := match (enumL S).findSome? (fun p => if okf (nms S) p.2.2.2 = true then none else some (Str.ofString "followers", p.1)) with
  | some p => some p
  | none => if okf (nms S) st = true then none else some (Str.ofString "starts", 0)
def frst (S : List Sheet) (st : List Str) : Option Wr := match fst1 S with | some p => some p | none => fst2 S st
structure Sm (S : List Sheet) (st : List Str) : Prop where
  n : S.length ≤ 100
  w : ∀ s ∈ S, okw 100 s.1
  l : ∀ s ∈ S, s.2.1.length ≤ 100 ∧ ∀ w ∈ s.2.1, okw 100 w
  f : ∀ s ∈ S, s.2.2.length ≤ 100 ∧ ∀ w ∈ s.2.2, okw 100 w
  s : st.length ≤ 100 ∧ ∀ w ∈ st, okw 100 w
theorem checkpages_eq {S : List Sheet} {st : List Str} (h : Sm S st) : P_checkpages S = Mo.fin bb () (fst1 S) := by
  unfold P_checkpages
  simp only [pure_bind, bind_assoc, map_pure]
  have hz := sizeLine_eq
  have hn := h.n
  unfold fst1
  have e0 : (if decide (1 ≤ (S.length : Int)) = true then pure (decide ((S.length : Int) ≤ 4)) else pure false : Mo Bool) = pure (decide (1 ≤ S.length ∧ S.length ≤ 4)) := by
    rw [if_in]
    congr 1
    rw [Bool.eq_iff_iff]
    simp
    omega
  rw [e0, pure_bind]
  by_cases c : 1 ≤ S.length ∧ S.length ≤ 4
  · rw [decide_eq_true c, if_neg (by decide), if_pos c, Mo.lc_map (g := fun p : Sheet => p.1) (by omega) fun _ _ => rfl, pure_bind]
    rw [Mo.fold_fin (bc := bb) (g := fun p => if badp S p = true then some (Str.ofString "page", p.1) else none) fun p hp => ?_]
    · cases (enumL S).findSome? _ <;> rfl
    · obtain ⟨h1, h2, h3⟩ := enumL_mem hp
      have hm := List.mem_of_getElem? h3
      have hw := (h.w _ hm).1
      rw [isname_eq (by omega), pure_bind, arelines_eq (by have := (h.l _ hm).1; omega) fun w hw2 => by have := ((h.l _ hm).2 w hw2).1; omega]
      simp only [pure_bind, cut_to _ h1]
      have e : (if (!decide (isw p.2.1)) = true then pure true else if decide (p.2.1 ∈ (nms S).take p.1.toNat) = true then pure true else pure (!okl p.2.2.1) : Mo Bool) = pure (badp S p) := by
        unfold badp
        cases decide (isw p.2.1) <;> cases decide (p.2.1 ∈ (nms S).take p.1.toNat) <;> rfl
      rw [e, pure_bind]
      cases badp S p with
      | true => rw [if_pos rfl, if_pos rfl, Mo.rq_of ⟨trivial, trivial⟩, pure_bind]; rfl
      | false => rw [if_neg Bool.false_ne_true, if_neg Bool.false_ne_true]; rfl
  · rw [decide_eq_false c, if_pos (by decide), if_neg c, Mo.rq_of ⟨trivial, trivial⟩, pure_bind]
    rfl
theorem checkorder_eq {S : List Sheet} {st : List Str} (h : Sm S st) : P_checkorder S st = Mo.fin bb () (fst2 S st) := by
  unfold P_checkorder
  simp only [pure_bind, bind_assoc, map_pure]
  have hz := sizeLine_eq
  have hn := h.n
  rw [Mo.lc_map (g := fun p : Sheet => p.1) (by omega) fun _ _ => rfl, pure_bind]
  rw [Mo.fold_fin (bc := bb) (g := fun p => if okf (nms S) p.2.2.2 = true then none else some (Str.ofString "followers", p.1)) fun p hp => ?_]
  · unfold fst2
    cases (enumL S).findSome? (fun p => if okf (nms S) p.2.2.2 = true then none else some (Str.ofString "followers", p.1)) with
    | some p => rfl
    | none =>
      show (P_arepages st (nms S) >>= _ : Mo Unit) = _
      rw [arepages_eq (by have := h.s.1; omega), pure_bind]
      cases okf (nms S) st with
      | true => rfl
      | false => rw [if_pos (show (!false) = true from rfl), Mo.rq_of ⟨trivial, trivial⟩, pure_bind]; rfl
  · obtain ⟨h1, h2, h3⟩ := enumL_mem hp
    have hm := List.mem_of_getElem? h3
    rw [arepages_eq (by have := (h.f _ hm).1; omega), pure_bind]
    cases okf (nms S) p.2.2.2 with
    | true => rfl
    | false => rw [if_pos (show (!false) = true from rfl), if_neg Bool.false_ne_true, Mo.rq_of ⟨trivial, trivial⟩, pure_bind]; rfl
def bk (S : List Sheet) (st : List Str) : OBook := (nms S, pl (nms S) st, S.map (·.2.1), S.map fun s => pl (nms S) s.2.2)
theorem first_none {S : List Sheet} {st : List Str} (h : frst S st = none) : (1 ≤ S.length ∧ S.length ≤ 4) ∧ (nms S).Nodup ∧ (∀ s ∈ S, s.2.2.Nodup ∧ ∀ c ∈ s.2.2, c ∈ nms S) ∧ st.Nodup ∧ ∀ c ∈ st, c ∈ nms S := by
  unfold frst at h
  cases e : fst1 S with
  | some p => rw [e] at h; cases h
  | none =>
    rw [e] at h
    have h : fst2 S st = none := h
    unfold fst1 at e
    by_cases c : 1 ≤ S.length ∧ S.length ≤ 4
    · rw [if_pos c] at e
      unfold fst2 at h
      cases e2 : (enumL S).findSome? (fun p => if okf (nms S) p.2.2.2 = true then none else some (Str.ofString "followers", p.1)) with
      | some p => rw [e2] at h; cases h
      | none =>
        rw [e2] at h
        have h : (if okf (nms S) st = true then none else some (Str.ofString "starts", 0)) = (none : Option Wr) := h
        have hf : ∀ ch, okf (nms S) ch = true → ch.Nodup ∧ ∀ c ∈ ch, c ∈ nms S := fun ch k => by
          unfold okf at k
          simp only [Bool.and_eq_true, decide_eq_true_eq, List.all_eq_true] at k
          exact ⟨k.1.2, k.2⟩
        have hst : okf (nms S) st = true := by
          cases q : okf (nms S) st with
          | true => rfl
          | false => rw [q] at h; cases h
        refine ⟨c, ?_, fun s hs => ?_, hf _ hst⟩
        · rw [List.nodup_iff_pairwise_ne, List.pairwise_iff_getElem]
          intro i j hi hj hij he
          have hj' : j < S.length := by simpa using hj
          have k := findSome_none e ((j : Int), S[j]) (enum_in (List.getElem?_eq_getElem hj'))
          have : badp S ((j : Int), S[j]) = true := by
            unfold badp
            have : (S[j]).1 ∈ (nms S).take ((j : Int)).toNat := by
              rw [Int.toNat_natCast]
              rw [List.mem_iff_getElem?]
              refine ⟨i, ?_⟩
              rw [List.getElem?_take, if_pos hij, List.getElem?_eq_getElem hi, he]
              simp
            rw [decide_eq_true this]
            simp
          rw [if_pos this] at k
          cases k
        · obtain ⟨i, hi⟩ := List.getElem?_of_mem hs
          have k := findSome_none e2 _ (enum_in hi)
          cases q : okf (nms S) s.2.2 with
          | true => exact hf _ q
          | false => rw [q] at k; cases k
    · rw [if_neg c] at e; cases e
theorem BookInit_eq {S : List Sheet} {st : List Str} (h : Sm S st) : P_BookInit S st = Mo.fin bb (bk S st) (frst S st) := by
  unfold P_BookInit
  simp only [pure_bind, bind_assoc, map_pure]
  have hz := sizeLine_eq
  have hn := h.n
  rw [checkpages_eq h, checkorder_eq h]
  cases e : frst S st with
  | some p =>
    unfold frst at e
    cases e1 : fst1 S with
    | some p' => rw [e1] at e; cases e; rfl
    | none =>
      rw [e1] at e
      have e : fst2 S st = some p := e
      rw [e]
      rfl
  | none =>
    obtain ⟨n1, n2, n3, n4, n5⟩ := first_none e
    unfold frst at e
    cases e1 : fst1 S with
    | some p' => rw [e1] at e; cases e
    | none =>
      rw [e1] at e
      have e : fst2 S st = none := e
      rw [e]
      show (Mo.lc _ _ _ >>= _ : Mo OBook) = _
      rw [Mo.lc_map (g := fun p : Sheet => p.1) (by omega) fun _ _ => rfl, pure_bind, asc_eq n2 n4 n5 (by rw [List.length_map]; omega), pure_bind, Mo.lc_map (g := fun p : Sheet => p.2.1) (by omega) fun _ _ => rfl, pure_bind, Mo.lc_map (g := fun p : Sheet => pl (nms S) p.2.2) (by omega) fun s hs => asc_eq n2 (n3 s hs).1 (n3 s hs).2 (by rw [List.length_map]; omega), pure_bind]
      rfl
end DD
namespace DD
open PySem PySem.Spec PyProof.Rows L2 KO SX RF
theorem Lhanded_eq {S : List Sheet} (h : S.length ≤ 1000) : P_Lhanded S = pure S := by
  unfold P_Lhanded
  simp only [pure_bind, bind_assoc, map_pure]
  rw [Mo.lc_map (g := fun p : Sheet => p) (by rw [sizeLine_eq]; omega) fun _ _ => rfl, List.map_id']
  rfl
theorem Gd.good {S : List Sheet} {st ls : List Str} (g : Gd S st ls) : frst S st = none := by
  have okf_of : ∀ ch : List Str, 1 ≤ ch.length → ch.Nodup → (∀ w ∈ ch, w ∈ nms S) → okf (nms S) ch = true := fun ch h1 h2 h3 => by
    unfold okf
    rw [decide_eq_true (show 0 < ch.length by omega), decide_eq_true h2, Bool.true_and, Bool.true_and, List.all_eq_true]
    exact fun w hw => decide_eq_true (h3 w hw)
  have e1 : fst1 S = none := by
    unfold fst1
    rw [if_pos ⟨g.n1, g.n4⟩, List.findSome?_eq_none_iff]
    intro p hp
    obtain ⟨h1, h2, h3⟩ := enumL_mem hp
    have hm := List.mem_of_getElem? h3
    have : badp S p = false := by
      unfold badp okl
      have hl := g.ln _ hm
      have n1 : p.2.1 ∉ (nms S).take p.1.toNat := nodup_take g.nd (by rw [List.getElem?_map, h3]; rfl)
      rw [decide_eq_true (g.wd _ hm), decide_eq_false n1, decide_eq_true hl.1, decide_eq_true hl.2.1, List.all_eq_true.mpr fun w hw => decide_eq_true (hl.2.2 w hw)]
      rfl
    rw [this]
    rfl
  have e2 : fst2 S st = none := by
    unfold fst2
    rw [show (enumL S).findSome? (fun p => if okf (nms S) p.2.2.2 = true then none else some (Str.ofString "followers", p.1)) = none by
      rw [List.findSome?_eq_none_iff]
      intro p hp
      obtain ⟨h1, h2, h3⟩ := enumL_mem hp
      have hf := g.fo _ (List.mem_of_getElem? h3)
      rw [okf_of _ hf.1 hf.2.1 hf.2.2]
      rfl]
    show (if okf (nms S) st = true then none else some (Str.ofString "starts", 0)) = (none : Option Wr)
    rw [okf_of _ g.st.1 g.st.2.1 g.st.2.2]
    rfl
  unfold frst
  rw [e1]
  exact e2
theorem Gd.sm {S : List Sheet} {st ls : List Str} (g : Gd S st ls) : Sm S st := by
  have nm : ∀ w ∈ nms S, isw w := fun w hw => by obtain ⟨s, hs, rfl⟩ := List.mem_map.mp hw; exact g.wd s hs
  have ln : (nms S).length ≤ 4 := by rw [List.length_map]; exact g.n4
  refine ⟨by have := g.n4; omega, fun s hs => (isw_ok (g.wd s hs)).le (by decide), fun s hs => ⟨by have := (g.ln s hs).1; omega, fun w hw => (isw_ok ((g.ln s hs).2.2 w hw)).le (by decide)⟩, fun s hs => ⟨?_, fun w hw => (isw_ok (nm w ((g.fo s hs).2.2 w hw))).le (by decide)⟩, ?_, fun w hw => (isw_ok (nm w (g.st.2.2 w hw))).le (by decide)⟩
  · exact Nat.le_trans (nodup_le (g.fo s hs).2.1 (g.fo s hs).2.2) (by show (nms S).length ≤ 100; omega)
  · exact Nat.le_trans (nodup_le g.st.2.1 g.st.2.2) (by show (nms S).length ≤ 100; omega)
def sm (n : Nat) (f : Nat → Int) : Int := ((List.range n).map f).sum
def rep (n : Nat) (f : Nat → Int) : List Int := (List.range n).map f
theorem rep_len {n : Nat} {f : Nat → Int} : (rep n f).length = n := by simp [rep]
theorem rep_get {n : Nat} {f : Nat → Int} {i : Nat} (h : i < n) : (rep n f)[i]? = some (f i) := by unfold rep; rw [List.getElem?_map, List.getElem?_range h]; rfl
theorem rep_at {n : Nat} {f : Nat → Int} {w : Int} (h : 0 ≤ w) (h2 : w < n) : atI (rep n f) w = some (f w.toNat) := by
  obtain ⟨x, e1, e2⟩ := atI_in (xs := rep n f) h (by rw [rep_len]; exact h2)
  rw [rep_get (by omega)] at e2
  rw [e1, e2]
theorem rep_const {n : Nat} {c : Int} : (List.replicate n [c]).flatten = rep n fun _ => c := by
  unfold rep
  induction n with
  | zero => rfl
  | succ n ih => rw [List.replicate_succ, List.flatten_cons, ih, List.range_succ_eq_map, List.map_cons, List.map_map]; rfl
structure Pls (n : Nat) (f : List Int) : Prop where
  lt : f.Pairwise (· < ·)
  r : ∀ w ∈ f, 0 ≤ w ∧ w < n
theorem Pls.eq {n : Nat} {f : List Int} (h : Pls n f) : f = (rangeL 0 n).filter fun w => decide (w ∈ f) := by
  refine rising_eq h.lt (rangeL_lt.filter _) fun x => ?_
  rw [List.mem_filter, rangeL_mem]
  constructor
  · intro hx; have := h.r x hx; exact ⟨⟨this.1, by omega⟩, by simpa using hx⟩
  · intro hx; simpa using hx.2
theorem sum_filter {p : Int → Bool} {g : Int → Int} : ∀ (l : List Int), ((l.filter p).map g).sum = (l.map fun w => if p w = true then g w else 0).sum
  | [] => rfl
  | w :: l => by
    rw [List.filter_cons, List.map_cons, List.sum_cons, ← sum_filter l]
    cases p w with
    | true => rw [if_pos rfl, if_pos rfl, List.map_cons, List.sum_cons]
    | false => simp
theorem Pls.sum {n : Nat} {f : List Int} (h : Pls n f) (g : Int → Int) : (f.map g).sum = sm n fun j => if (j : Int) ∈ f then g j else 0 := by
  conv => lhs; rw [h.eq]
  rw [sum_filter]
  unfold sm rangeL
  rw [List.map_map]
  congr 1
  refine List.map_congr_left fun k hk => ?_
  show (if decide ((0 : Int) + k ∈ f) = true then g (0 + k) else 0) = _
  rw [Int.zero_add]
  simp
theorem pl_pls {names chosen : List Str} : Pls names.length (pl names chosen) := ⟨pl_lt, fun w hw => by
  obtain ⟨h, n, e, _⟩ := pl_mem.mp hw
  have := (List.getElem?_eq_some_iff.mp e).1
  exact ⟨h, by omega⟩⟩
structure Fol (n : Nat) (fol : List (List Int)) : Prop where
  l : fol.length = n
  p : ∀ f ∈ fol, Pls n f
theorem Fol.at {n : Nat} {fol : List (List Int)} (h : Fol n fol) {k : Nat} (hk : k < n) : ∃ f, fol[k]? = some f ∧ fol.getD k [] = f ∧ Pls n f := by
  have hk : k < fol.length := by rw [h.l]; exact hk
  refine ⟨fol[k], List.getElem?_eq_getElem hk, by rw [List.getD_eq_getElem?_getD, List.getElem?_eq_getElem hk]; rfl, h.p _ (List.getElem_mem hk)⟩
end DD
namespace DD
open PySem PySem.Spec PyProof.Rows L2 KO SX RF
inductive Rch (fol : List (List Int)) (st : List Int) : Int → Prop
  | base {x : Int} : x ∈ st → Rch fol st x
  | step {x y : Int} {f : List Int} : Rch fol st x → 0 ≤ x → fol[x.toNat]? = some f → y ∈ f → Rch fol st y
def Cld (fol : List (List Int)) (X Y : List Int) : Prop := ∀ x ∈ X, ∀ f, fol[x.toNat]? = some f → ∀ y ∈ f, y ∈ Y
theorem Rch.r {n : Nat} {fol : List (List Int)} (hf : Fol n fol) {st : List Int} (hs : Pls n st) {x : Int} (h : Rch fol st x) : 0 ≤ x ∧ x < n := by
  induction h with
  | base h => exact hs.r _ h
  | step _ _ e h _ => exact (hf.p _ (List.mem_of_getElem? e)).r _ h
theorem rch_all {n : Nat} {fol : List (List Int)} {st X : List Int} (h1 : ∀ x ∈ st, x ∈ X) (h2 : Cld fol X X) {x : Int} (h : Rch fol st x) : x ∈ X := by
  induction h with
  | base h => exact h1 _ h
  | step _ _ e h ih => exact h2 _ ih _ e _ h
theorem Pls.nodup {n : Nat} {f : List Int} (h : Pls n f) : f.Nodup := List.nodup_iff_pairwise_ne.mpr (h.lt.imp fun {a b} h => by omega)
theorem Pls.len {n : Nat} {f : List Int} (h : Pls n f) : f.length ≤ n := by
  have := nodup_le (l := f) (m := rangeL 0 n) h.nodup fun w hw => rangeL_mem.mpr ⟨(h.r w hw).1, by have := (h.r w hw).2; omega⟩
  rwa [rangeL_len] at this
theorem in_len {n : Nat} {X : List Int} (h : X.Nodup) (k : ∀ x ∈ X, 0 ≤ x ∧ x < n) : X.length ≤ n := by
  have := nodup_le (l := X) (m := rangeL 0 n) h fun w hw => rangeL_mem.mpr ⟨(k w hw).1, by have := (k w hw).2; omega⟩
  rwa [rangeL_len] at this
theorem sort_rising {X ys : List Int} (hd : X.Nodup) (hp : ys.Perm X) (hs : ys.Pairwise fun a b => a ≤ b) : ys.Pairwise (· < ·) := by
  have h2 := List.nodup_iff_pairwise_ne.mp (hp.nodup_iff.mpr hd)
  exact (List.Pairwise.and hs h2).imp fun {a b} h => by omega
theorem reach_ok {B : OBook} {n : Nat} (hn : n ≤ 60) (hst : Pls n B.2.1) (hf : Fol n B.2.2.2) {Q : List Int → Prop} {E : Ex → Prop} (q : ∀ ys, ys.Pairwise (· < ·) → (∀ x, x ∈ ys ↔ Rch B.2.2.2 B.2.1 x) → Q ys) : (P_BookReachable B).run Q E := by
  unfold P_BookReachable
  simp only [pure_bind, bind_assoc, map_pure]
  have hz := sizeLine_eq
  rw [Mo.run_bind]
  refine Mo.while_inv (fun s : List Int × List Int => s.2.Nodup ∧ (∀ x ∈ s.1, Rch B.2.2.2 B.2.1 x) ∧ (∀ x ∈ s.2, Rch B.2.2.2 B.2.1 x) ∧ (∀ x ∈ B.2.1, x ∈ s.2 ++ s.1) ∧ Cld B.2.2.2 s.2 (s.2 ++ s.1) ∧ s.1.length ≤ (s.2.length + 1) * n) (fun s => s.1.length + (n + 1) * (n - s.2.length)) (fun s hs => ?_) ⟨List.nodup_nil, fun x hx => .base hx, by simp, fun x hx => by simpa using hx, fun x hx => by simp at hx, by simpa using hst.len⟩
  obtain ⟨s1, s2⟩ := s
  obtain ⟨h1, h2, h3, h4, h5, h6⟩ := hs
  dsimp only at h1 h2 h3 h4 h5 h6 ⊢
  rw [Mo.run_pure]
  have lenf := in_len h1 fun x hx => (h3 x hx).r hf hst
  have h7 : s1.length ≤ 61 * 60 := Nat.le_trans h6 (Nat.mul_le_mul (by omega) hn)
  cases e : s1 with
  | nil =>
    subst e
    rw [if_neg (by simp)]
    show (Mo.rq (s2.length < 64) () >>= _ : Mo (List Int)).run Q E
    rw [Mo.rq_of (by omega), pure_bind]
    simp only [bind_pure]
    intro ys hys
    refine q ys (sort_rising h1 hys.1 hys.2) fun x => ?_
    rw [hys.1.mem_iff]
    simp only [List.append_nil] at h4 h5
    exact ⟨h3 x, rch_all (n := n) h4 h5⟩
  | cons a t =>
    rw [if_pos (by simp), ← e]
    have hne : s1 ≠ [] := by rw [e]; simp
    have hp : 0 < s1.length := List.length_pos_iff.mpr hne
    have hlast : s1[s1.length - 1]? = some (s1.getLast hne) := by
      rw [List.getElem?_eq_getElem (by omega), List.getLast_eq_getElem]
    have hsplit : s1 = s1.dropLast ++ [s1.getLast hne] := (List.dropLast_concat_getLast hne).symm
    have hd : s1.dropLast.length = s1.length - 1 := List.length_dropLast
    generalize s1.getLast hne = x at hlast hsplit
    generalize s1.dropLast = d at hsplit hd
    have hx : Rch B.2.2.2 B.2.1 x := h2 x (by rw [hsplit]; simp)
    have hdr : ∀ y ∈ d, Rch B.2.2.2 B.2.1 y := fun y hy => h2 y (by rw [hsplit]; exact List.mem_append_left _ hy)
    rw [hlast, Mo.get_some, pure_bind]
    by_cases c : x ∈ s2
    · rw [decide_eq_true c, if_neg (by decide)]
      refine ⟨⟨h1, hdr, h3, fun y hy => ?_, fun y hy f hf2 z hz2 => ?_, Nat.le_trans (show d.length ≤ s1.length by omega) h6⟩, Nat.add_lt_add_right (show d.length < s1.length by omega) _⟩
      · have := h4 y hy
        rw [hsplit] at this
        simp only [List.mem_append, List.mem_singleton] at this ⊢
        rcases this with k | k | k
        · exact .inl k
        · exact .inr k
        · rw [k]; exact .inl c
      · have := h5 y hy f hf2 z hz2
        rw [hsplit] at this
        simp only [List.mem_append, List.mem_singleton] at this ⊢
        rcases this with k | k | k
        · exact .inl k
        · exact .inr k
        · rw [k]; exact .inl c
    · rw [decide_eq_false c, if_pos (by decide)]
      have hr := hx.r hf hst
      obtain ⟨f, f1, f2, f3⟩ := hf.at (k := x.toNat) (by omega)
      obtain ⟨g, a1, a2⟩ := atI_in (xs := B.2.2.2) (i := x) hr.1 (by rw [hf.l]; exact hr.2)
      rw [f1] at a2
      obtain rfl := Option.some.inj a2
      have fl := f3.len
      rw [Mo.rq_of (by omega), pure_bind, a1, Mo.get_some, pure_bind, Mo.rq_of (by omega), pure_bind]
      have nd : (s2 ++ [x]).Nodup := by
        rw [List.nodup_append]
        refine ⟨h1, by simp, fun a ha b hb hab => ?_⟩
        rw [List.mem_singleton.mp hb] at hab
        exact c (hab ▸ ha)
      have l2 := in_len (n := n) nd fun y hy => by
        rcases List.mem_append.mp hy with k | k
        · exact (h3 y k).r hf hst
        · rw [List.mem_singleton.mp k]; exact hr
      rw [List.length_append] at l2
      simp only [List.length_cons, List.length_nil] at l2
      refine ⟨⟨nd, fun y hy => ?_, fun y hy => ?_, fun y hy => ?_, fun y hy f hf2 z hz2 => ?_, ?_⟩, ?_⟩
      · rcases List.mem_append.mp hy with k | k
        · exact hdr y k
        · exact .step hx hr.1 f1 k
      · rcases List.mem_append.mp hy with k | k
        · exact h3 y k
        · rw [List.mem_singleton.mp k]; exact hx
      · have := h4 y hy
        rw [hsplit] at this
        simp only [List.mem_append, List.mem_singleton] at this ⊢
        rcases this with k | k | k
        · exact .inl (.inl k)
        · exact .inr (.inl k)
        · exact .inl (.inr k)
      · rcases List.mem_append.mp hy with k | k
        · have := h5 y k f hf2 z hz2
          rw [hsplit] at this
          simp only [List.mem_append, List.mem_singleton] at this ⊢
          rcases this with k | k | k
          · exact .inl (.inl k)
          · exact .inr (.inl k)
          · exact .inl (.inr k)
        · rw [List.mem_singleton.mp k] at hf2
          rw [f1] at hf2
          cases hf2
          simp only [List.mem_append]
          exact .inr (.inr hz2)
      · show (d ++ f).length ≤ ((s2 ++ [x]).length + 1) * n
        rw [List.length_append, List.length_append]
        simp only [List.length_cons, List.length_nil]
        rw [show s2.length + (0 + 1) + 1 = (s2.length + 1) + 1 by omega, Nat.succ_mul]
        omega
      · show (d ++ f).length + (n + 1) * (n - (s2 ++ [x]).length) < s1.length + (n + 1) * (n - s2.length)
        rw [List.length_append, List.length_append]
        simp only [List.length_cons, List.length_nil]
        have e3 : n - s2.length = (n - (s2.length + (0 + 1))) + 1 := by omega
        rw [e3, Nat.mul_succ]
        omega
theorem add_eq : ∀ (f s : List Int), s.length + f.length ≤ 10000 → ∃ r, Mo.fold (fun (s14 : List Int) (w15 : Int) => if (!decide (w15 ∈ s14)) = true then (do
                                let x19 ← Mo.rq (s14.length < sizeLine) w15
                                pure (s14 ++ [x19]) : Mo (List Int))
                              else pure s14) f s = pure r ∧ (s.Nodup → r.Nodup) ∧ (∀ x, x ∈ r ↔ x ∈ s ∨ x ∈ f) ∧ s.length ≤ r.length ∧ r.length ≤ s.length + f.length ∧ ((∀ x ∈ f, x ∈ s) → r = s) ∧ ((∃ x ∈ f, x ∉ s) → s.length < r.length)
  | [], s, _ => ⟨s, rfl, fun h => h, fun x => by simp, Nat.le_refl _, Nat.le_refl _, fun _ => rfl, fun ⟨x, h, _⟩ => by simp at h⟩
  | w :: f, s, hl => by
    have hz := sizeLine_eq
    rw [List.length_cons] at hl
    by_cases c : w ∈ s
    · obtain ⟨r, h1, h2, h3, h4, h5, h6, h7⟩ := add_eq f s (by omega)
      refine ⟨r, ?_, h2, fun x => ?_, h4, by rw [List.length_cons]; omega, fun k => h6 fun x hx => k x (List.mem_cons_of_mem _ hx), fun ⟨x, k1, k2⟩ => ?_⟩
      · show ((if (!decide (w ∈ s)) = true then _ else pure s) >>= fun s => Mo.fold _ f s : Mo (List Int)) = _
        rw [decide_eq_true c, if_neg (by decide), pure_bind]
        exact h1
      · rw [h3]
        constructor
        · rintro (k | k)
          · exact .inl k
          · exact .inr (List.mem_cons_of_mem _ k)
        · rintro (k | k)
          · exact .inl k
          · rcases List.mem_cons.mp k with q | q
            · rw [q]; exact .inl c
            · exact .inr q
      · rcases List.mem_cons.mp k1 with q | q
        · rw [q] at k2; exact absurd c k2
        · exact h7 ⟨x, q, k2⟩
    · obtain ⟨r, h1, h2, h3, h4, h5, h6, h7⟩ := add_eq f (s ++ [w]) (by rw [List.length_append]; simp only [List.length_cons, List.length_nil]; omega)
      have hlen : (s ++ [w]).length = s.length + 1 := by rw [List.length_append]; rfl
      refine ⟨r, ?_, fun hd => h2 ?_, fun x => ?_, by omega, by rw [List.length_cons]; omega, fun k => absurd (k w List.mem_cons_self) c, fun _ => by omega⟩
      · show ((if (!decide (w ∈ s)) = true then _ else pure s) >>= fun s => Mo.fold _ f s : Mo (List Int)) = _
        rw [decide_eq_false c, if_pos (by decide), Mo.rq_of (by omega), pure_bind, pure_bind]
        exact h1
      · rw [List.nodup_append]
        refine ⟨hd, by simp, fun a ha b hb hab => ?_⟩
        rw [List.mem_singleton.mp hb] at hab
        exact c (hab ▸ ha)
      · rw [h3]
        simp only [List.mem_append, List.mem_cons, List.not_mem_nil, or_false]
        constructor
        · rintro ((k | k) | k)
          · exact .inl k
          · exact .inr (.inl k)
          · exact .inr (.inr k)
        · rintro (k | k | k)
          · exact .inl (.inl k)
          · exact .inl (.inr k)
          · exact .inr k
theorem round_eq {n : Nat} (hn : n ≤ 60) {fol : List (List Int)} (hf : Fol n fol) {st : List Int} (hs : Pls n st) : ∀ (X s : List Int), (∀ x ∈ X, Rch fol st x) → s.Nodup → (∀ x ∈ s, Rch fol st x) →
    ∃ r, Mo.fold (fun (s10 : List Int) (w11 : Int) => Mo.get (atI fol w11) >>= fun xs => Mo.fold (fun (s14 : List Int) (w15 : Int) => if (!decide (w15 ∈ s14)) = true then (do
                                let x19 ← Mo.rq (s14.length < sizeLine) w15
                                pure (s14 ++ [x19]) : Mo (List Int))
                              else pure s14) xs s10) X s = pure r ∧ r.Nodup ∧ (∀ x ∈ r, Rch fol st x) ∧ (∀ x ∈ s, x ∈ r) ∧ s.length ≤ r.length ∧ (Cld fol X s → r = s) ∧ (¬ Cld fol X s → s.length < r.length)
  | [], s, _, hd, hr => ⟨s, rfl, hd, hr, fun _ h => h, Nat.le_refl _, fun _ => rfl, fun k => absurd (fun x hx => by simp at hx) k⟩
  | w :: X, s, hX, hd, hr => by
    have hw := hX w List.mem_cons_self
    have hwr := hw.r hf hs
    obtain ⟨f, f1, f2, f3⟩ := hf.at (k := w.toNat) (by omega)
    obtain ⟨g, a1, a2⟩ := atI_in (xs := fol) (i := w) hwr.1 (by rw [hf.l]; exact hwr.2)
    rw [f1] at a2
    obtain rfl := Option.some.inj a2
    have fl := f3.len
    have sl := in_len hd fun x hx => (hr x hx).r hf hs
    obtain ⟨r, h1, h2, h3, h4, h5, h6, h7⟩ := add_eq f s (by omega)
    have hd2 := h2 hd
    have hr2 : ∀ x ∈ r, Rch fol st x := fun x hx => by
      rcases (h3 x).mp hx with k | k
      · exact hr x k
      · exact .step hw hwr.1 f1 k
    obtain ⟨t, k1, k2, k3, k4, k5, k6, k7⟩ := round_eq hn hf hs X r (fun x hx => hX x (List.mem_cons_of_mem _ hx)) hd2 hr2
    refine ⟨t, ?_, k2, k3, fun x hx => k4 x ((h3 x).mpr (.inl hx)), by omega, fun c => ?_, fun c => ?_⟩
    · show ((Mo.get (atI fol w) >>= fun xs => _) >>= fun s => Mo.fold _ X s : Mo (List Int)) = _
      rw [a1, Mo.get_some, pure_bind, h1, pure_bind]
      exact k1
    · have e : r = s := h6 fun x hx => c w List.mem_cons_self f f1 x hx
      rw [k6 fun x hx g hg y hy => by rw [e]; exact c x (List.mem_cons_of_mem _ hx) g hg y hy]
      exact e
    · by_cases d : ∀ x ∈ f, x ∈ s
      · have e : r = s := h6 d
        subst e
        refine k7 fun q => c fun x hx g hg y hy => ?_
        rcases List.mem_cons.mp hx with p | p
        · rw [p, f1] at hg
          cases hg
          exact d y hy
        · exact q x p g hg y hy
      · have : ∃ x ∈ f, x ∉ s := by
          by_cases q : ∃ x ∈ f, x ∉ s
          · exact q
          · exact absurd (fun x hx => by
              by_cases p : x ∈ s
              · exact p
              · exact absurd ⟨x, hx, p⟩ q) d
        have := h7 this
        omega
theorem grown_ok {n : Nat} (hn : n ≤ 60) {fol : List (List Int)} (hf : Fol n fol) {st : List Int} (hs : Pls n st) (h1 : 1 ≤ st.length) {Q : List Int → Prop} {E : Ex → Prop} (q : ∀ ys, ys.Pairwise (· < ·) → (∀ x, x ∈ ys ↔ Rch fol st x) → Q ys) : (P_Lgrown fol st).run Q E := by
  unfold P_Lgrown
  simp only [pure_bind, bind_assoc, map_pure, bind_pure]
  have hz := sizeLine_eq
  rw [hf.l, Mo.rq_of ⟨by omega, by omega⟩, pure_bind, Int.toNat_natCast, Mo.run_bind]
  refine Mo.fold_inv (fun i (s : List Int) => s.Nodup ∧ (∀ x ∈ s, Rch fol st x) ∧ (∀ x ∈ st, x ∈ s) ∧ (Cld fol s s ∨ i + 1 ≤ s.length)) (k := 0) ⟨hs.nodup, fun x hx => .base hx, fun x hx => hx, .inr h1⟩ (fun i x s hx hI => ?_) (fun s hI => ?_)
  · obtain ⟨i1, i2, i3, i4⟩ := hI
    obtain ⟨r, k1, k2, k3, k4, k5, k6, k7⟩ := round_eq hn hf hs s s i2 i1 i2
    rw [k1, Mo.run_pure]
    refine ⟨k2, k3, fun x hx => k4 x (i3 x hx), ?_⟩
    by_cases c : Cld fol s s
    · rw [k6 c]; exact .inl c
    · rcases i4 with p | p
      · exact absurd p c
      · have := k7 c
        exact .inr (by omega)
  · obtain ⟨i1, i2, i3, i4⟩ := hI
    have sl := in_len i1 fun x hx => (i2 x hx).r hf hs
    have hc : Cld fol s s := by
      rcases i4 with p | p
      · exact p
      · rw [rangeL_len] at p; omega
    rw [Mo.rq_of (by omega), pure_bind]
    intro ys hys
    refine q ys (sort_rising i1 hys.1 hys.2) fun x => ?_
    rw [hys.1.mem_iff]
    exact ⟨i2 x, rch_all (n := n) i3 hc⟩
section
variable {S : List Sheet} {st ls : List Str} (g : Gd S st ls)
include g
theorem Gd.nl : (nms S).length ≤ 60 := by rw [List.length_map]; have := g.n4; omega
theorem Gd.fol : Fol (nms S).length (bk S st).2.2.2 := ⟨by show (S.map _).length = _; rw [List.length_map, List.length_map], fun f hf => by
  obtain ⟨s, _, rfl⟩ := List.mem_map.mp hf
  exact pl_pls⟩
theorem pl_ne {ch : List Str} (h1 : 1 ≤ ch.length) (h2 : ∀ c ∈ ch, c ∈ nms S) : 1 ≤ (pl (nms S) ch).length := by
  have : ch ≠ [] := by intro e; rw [e] at h1; simp at h1
  obtain ⟨c, hc⟩ := List.exists_mem_of_ne_nil _ this
  obtain ⟨j, _, e, _⟩ := idx_some (h2 c hc)
  have : (j : Int) ∈ pl (nms S) ch := pl_mem.mpr ⟨by omega, c, by simpa using e, hc⟩
  exact List.length_pos_iff.mpr (List.ne_nil_of_mem this)
theorem Gd.init : P_BookInit S st = pure (bk S st) := by rw [BookInit_eq g.sm, g.good]; rfl
end
end DD
namespace DD
open PySem PySem.Spec PyProof.Rows L2 KO SX RF
def fl (fol : List (List Int)) (v : Int) : List Int := fol.getD v.toNat []
def Wk (fol : List (List Int)) : List Int → Prop
  | [] => True
  | [_] => True
  | a :: b :: r => b ∈ fl fol a ∧ Wk fol (b :: r)
section
variable {fol : List (List Int)} {st : List Int} {n : Nat}
theorem wk_split : ∀ (a : List Int) (x : Int) (b : List Int), Wk fol (a ++ x :: b) ↔ Wk fol (a ++ [x]) ∧ Wk fol (x :: b)
  | [], x, b => ⟨fun h => ⟨trivial, h⟩, fun h => h.2⟩
  | [c], x, b => ⟨fun h => ⟨⟨h.1, trivial⟩, h.2⟩, fun h => ⟨h.1.1, h.2⟩⟩
  | c :: d :: a, x, b => by
    have ih := wk_split (d :: a) x b
    show (d ∈ fl fol c ∧ Wk fol (d :: a ++ x :: b)) ↔ (d ∈ fl fol c ∧ Wk fol (d :: a ++ [x])) ∧ _
    rw [ih]
    exact ⟨fun ⟨h1, h2, h3⟩ => ⟨⟨h1, h2⟩, h3⟩, fun ⟨⟨h1, h2⟩, h3⟩ => ⟨h1, h2, h3⟩⟩
theorem wk_snoc {a : List Int} {x y : Int} : Wk fol (a ++ [x, y]) ↔ Wk fol (a ++ [x]) ∧ y ∈ fl fol x := by
  rw [wk_split a x [y]]
  exact ⟨fun ⟨h1, h2⟩ => ⟨h1, h2.1⟩, fun ⟨h1, h2⟩ => ⟨h1, h2, trivial⟩⟩
theorem fl_at (hf : Fol n fol) {v : Int} (h : 0 ≤ v ∧ v < n) : fol[v.toNat]? = some (fl fol v) ∧ Pls n (fl fol v) := by
  obtain ⟨f, e1, e2, e3⟩ := hf.at (k := v.toNat) (by omega)
  unfold fl
  rw [e2]
  exact ⟨e1, e3⟩
theorem fl_rch (hf : Fol n fol) (hs : Pls n st) {x y : Int} (h : Rch fol st x) (k : y ∈ fl fol x) : Rch fol st y := by
  have r := h.r hf hs
  exact .step h r.1 (fl_at hf r).1 k
theorem wk_rch (hf : Fol n fol) (hs : Pls n st) : ∀ {r : List Int}, Wk fol r → (∀ x, r.head? = some x → Rch fol st x) → ∀ x ∈ r, Rch fol st x
  | [], _, _, x, hx => by simp at hx
  | [a], _, h, x, hx => by rw [List.mem_singleton.mp hx]; exact h a rfl
  | a :: b :: r, w, h, x, hx => by
    have ha := h a rfl
    rcases List.mem_cons.mp hx with e | e
    · rw [e]; exact ha
    · exact wk_rch hf hs w.2 (fun y hy => by cases hy; exact fl_rch hf hs ha w.1) x e
structure SP (fol : List (List Int)) (st : List Int) (r : List Int) : Prop where
  ne : r ≠ []
  nd : r.Nodup
  hd : ∀ x, r.head? = some x → Rch fol st x
  wk : Wk fol r
structure SR (fol : List (List Int)) (st : List Int) (r : List Int) : Prop extends SP fol st r where
  cl : ∀ x y, r.head? = some x → r.getLast? = some y → x ∈ fl fol y
theorem SP.rch {r : List Int} (h : SP fol st r) (hf : Fol n fol) (hs : Pls n st) : ∀ x ∈ r, Rch fol st x := wk_rch hf hs h.wk h.hd
theorem SP.len {r : List Int} (h : SP fol st r) (hf : Fol n fol) (hs : Pls n st) : 1 ≤ r.length ∧ r.length ≤ n := ⟨List.length_pos_iff.mpr h.ne, in_len h.nd fun x hx => (h.rch hf hs x hx).r hf hs⟩
theorem SP.snoc {a : List Int} {x y : Int} (h : SP fol st (a ++ [x])) (k : y ∈ fl fol x) (m : y ∉ a ++ [x]) : SP fol st (a ++ [x] ++ [y]) := by
  refine ⟨by simp, ?_, fun z hz => h.hd z ?_, ?_⟩
  · rw [List.nodup_append]
    refine ⟨h.nd, by simp, fun b hb c hc e => ?_⟩
    rw [List.mem_singleton.mp hc] at e
    exact m (e ▸ hb)
  · cases a with
    | nil => exact hz
    | cons _ _ => exact hz
  · rw [List.append_assoc]
    exact wk_snoc.mpr ⟨h.wk, k⟩
def cst (w : List (List Int)) : Nat := (w.map fun r => 5 ^ (4 - r.length)).sum
theorem cst_app {a b : List (List Int)} : cst (a ++ b) = cst a + cst b := by unfold cst; rw [List.map_append, List.sum_append]
theorem cst_len {a : List (List Int)} : a.length ≤ cst a := by
  induction a with
  | nil => exact Nat.le_refl _
  | cons x a ih =>
    show a.length + 1 ≤ (5 ^ (4 - x.length) + cst a)
    have : 0 < 5 ^ (4 - x.length) := Nat.pow_pos (by decide)
    omega
theorem cst_const {k : Nat} : ∀ {a : List (List Int)}, (∀ r ∈ a, r.length = k) → cst a = a.length * 5 ^ (4 - k)
  | [], _ => by simp [cst]
  | x :: a, h => by
    show 5 ^ (4 - x.length) + cst a = (a.length + 1) * _
    rw [cst_const fun r hr => h r (List.mem_cons_of_mem _ hr), h x List.mem_cons_self, Nat.add_mul]
    omega
theorem cst_step {k m : Nat} (h1 : 1 ≤ k) (h2 : k ≤ 4) (h3 : m ≤ 4) (h4 : k = 4 → m = 0) : m * 5 ^ (4 - (k + 1)) + 1 ≤ 5 ^ (4 - k) := by
  obtain rfl | rfl | rfl | rfl : k = 1 ∨ k = 2 ∨ k = 3 ∨ k = 4 := by omega
  · simp; omega
  · simp; omega
  · simp; omega
  · simp; omega
end
theorem followers_eq {B : OBook} {n : Nat} (hN : B.1.length = n) (hf : Fol n B.2.2.2) {v : Int} (h : 0 ≤ v ∧ v < n) : P_BookFollowersof B v = pure (fl B.2.2.2 v) := by
  unfold P_BookFollowersof P_BookCheckpage
  simp only [pure_bind, bind_assoc, map_pure]
  rw [hN, if_pos (decide_eq_true h.1), pure_bind, decide_eq_true h.2, if_neg (by decide), pure_bind]
  obtain ⟨g, a1, a2⟩ := atI_in (xs := B.2.2.2) (i := v) h.1 (by rw [hf.l]; exact h.2)
  rw [(fl_at hf h).1] at a2
  obtain rfl := Option.some.inj a2
  rw [a1, Mo.get_some, pure_bind]
end DD
namespace DD
open PySem PySem.Spec PyProof.Rows L2 KO SX RF
theorem getL_none {a : List Int} {x : Int} : (a ++ [x]).getLast? = some x := by simp
theorem shortrings_ok {B : OBook} {n : Nat} (hn : n ≤ 4) (hN : B.1.length = n) (hst : Pls n B.2.1) (hf : Fol n B.2.2.2) {Q : List (List Int) → Prop} {E : Ex → Prop} (q : ∀ rs, (∀ r, r ∈ rs ↔ SR B.2.2.2 B.2.1 r) → rs.length ≤ 500 → Q rs) : (P_shortrings B).run Q E := by
  unfold P_shortrings
  simp only [pure_bind, bind_assoc, map_pure]
  have hz := sizeLine_eq
  rw [Mo.run_bind]
  refine reach_ok (by omega) hst hf fun R hR1 hR2 => ?_
  have hRl : R.length ≤ n := in_len (hR1.imp fun h => Int.ne_of_lt h) fun x hx => ((hR2 x).mp hx).r hf hst
  rw [Mo.lc_map (g := fun v : Int => [v]) (by omega) fun _ _ => rfl, pure_bind, Mo.run_bind]
  refine Mo.while_inv (fun s : List (List Int) × List (List Int) => (∀ w ∈ s.1, SP B.2.2.2 B.2.1 w) ∧ (∀ r ∈ s.2, SR B.2.2.2 B.2.1 r) ∧ (∀ r, SR B.2.2.2 B.2.1 r → r ∈ s.2 ∨ ∃ w ∈ s.1, ∃ t, r = w ++ t) ∧ s.2.length + cst s.1 ≤ 500) (fun s => cst s.1) (fun s hs => ?_) ⟨fun w hw => ?_, fun r hr => by simp at hr, fun r hr => .inr ?_, ?_⟩
  · obtain ⟨s1, s2⟩ := s
    obtain ⟨h1, h2, h3, h4⟩ := hs
    dsimp only at h1 h2 h3 h4 ⊢
    rw [Mo.run_pure]
    have hcl := cst_len (a := s1)
    cases e : s1 with
    | nil =>
      rw [if_neg (by simp)]
      show Q s2
      subst e
      refine q s2 (fun r => ⟨h2 r, fun k => ?_⟩) (by omega)
      rcases h3 r k with k | ⟨w, hw, _⟩
      · exact k
      · simp at hw
    | cons a t =>
      rw [if_pos (by simp), ← e]
      have hne : s1 ≠ [] := by rw [e]; simp
      have hp : 0 < s1.length := List.length_pos_iff.mpr hne
      have hlast : s1[s1.length - 1]? = some (s1.getLast hne) := by
        rw [List.getElem?_eq_getElem (by omega), List.getLast_eq_getElem]
      have hsplit : s1 = s1.dropLast ++ [s1.getLast hne] := (List.dropLast_concat_getLast hne).symm
      have hd : s1.dropLast.length = s1.length - 1 := List.length_dropLast
      generalize s1.getLast hne = row at hlast hsplit
      generalize s1.dropLast = d at hsplit hd
      have hrow : SP B.2.2.2 B.2.1 row := h1 row (by rw [hsplit]; simp)
      have hdr : ∀ y ∈ d, SP B.2.2.2 B.2.1 y := fun y hy => h1 y (by rw [hsplit]; exact List.mem_append_left _ hy)
      have hrl := hrow.len hf hst
      have hc : cst s1 = cst d + cst [row] := by rw [hsplit, cst_app]
      rw [hlast, Mo.get_some, pure_bind]
      obtain ⟨b, x, rfl⟩ : ∃ b x, row = b ++ [x] := ⟨row.dropLast, row.getLast hrow.ne, (List.dropLast_concat_getLast hrow.ne).symm⟩
      have hx : 0 ≤ x ∧ x < n := (hrow.rch hf hst x (by simp)).r hf hst
      obtain ⟨hfl1, hfl2⟩ := fl_at hf hx
      have hfl3 : (fl B.2.2.2 x).length ≤ n := hfl2.len
      obtain ⟨h, t', he⟩ : ∃ h t', b ++ [x] = h :: t' := by
        cases eb : b ++ [x] with
        | nil => simp at eb
        | cons h t' => exact ⟨h, t', rfl⟩
      rw [atI_last getL_none, Mo.get_some, pure_bind, followers_eq hN hf hx, pure_bind, show atI (b ++ [x]) 0 = some h by rw [he]; exact atI_zero, Mo.get_some, pure_bind]
      have hlenb : (b ++ [x]).length = b.length + 1 := by simp
      rw [Mo.lc_pure (p := fun w => !decide (w ∈ b ++ [x])) (g := fun w => b ++ [x] ++ [w]) (by omega) (fun _ _ => rfl) (fun w _ _ => Mo.rq_of (by simp only [List.length_cons, List.length_nil]; omega))]
      have hnl : (((fl B.2.2.2 x).filter fun w => !decide (w ∈ b ++ [x])).map fun w => b ++ [x] ++ [w]).length ≤ 4 := by
        rw [List.length_map]
        have := List.length_filter_le (fun w => !decide (w ∈ b ++ [x])) (fl B.2.2.2 x)
        omega
      have hnew : ∀ w ∈ (((fl B.2.2.2 x).filter fun w => !decide (w ∈ b ++ [x])).map fun w => b ++ [x] ++ [w]), SP B.2.2.2 B.2.1 w ∧ w.length = (b ++ [x]).length + 1 := fun w hw => by
        obtain ⟨y, hy, rfl⟩ := List.mem_map.mp hw
        rw [List.mem_filter] at hy
        exact ⟨hrow.snoc hy.1 (by simpa using hy.2), by rw [List.length_append]; rfl⟩
      have hin : ∀ y ∈ fl B.2.2.2 x, y ∉ b ++ [x] → b ++ [x] ++ [y] ∈ (((fl B.2.2.2 x).filter fun w => !decide (w ∈ b ++ [x])).map fun w => b ++ [x] ++ [w]) := fun y hy hn => List.mem_map.mpr ⟨y, List.mem_filter.mpr ⟨hy, by simpa using hn⟩, rfl⟩
      generalize (((fl B.2.2.2 x).filter fun w => !decide (w ∈ b ++ [x])).map fun w => b ++ [x] ++ [w]) = new at hnl hnew hin
      have hcn := cst_const (a := new) (k := (b ++ [x]).length + 1) fun r hr => (hnew r hr).2
      have hst' := cst_step (k := (b ++ [x]).length) (m := new.length) hrl.1 (by omega) hnl fun h4 => by
        cases new with
        | nil => rfl
        | cons y ys =>
          have := (hnew y List.mem_cons_self)
          have := (this.1.len hf hst).2
          have := (hnew y List.mem_cons_self).2
          omega
      have hc1 : cst [b ++ [x]] = 5 ^ (4 - (b ++ [x]).length) := by simp [cst]
      rw [← hcn] at hst'
      have hrw : ∀ r, SR B.2.2.2 B.2.1 r → r ∈ s2 ∨ r = b ++ [x] ∨ ∃ w ∈ d ++ new, ∃ t, r = w ++ t := fun r hr => by
        rcases h3 r hr with k | ⟨w, hw, t, rfl⟩
        · exact .inl k
        · rw [hsplit] at hw
          rcases List.mem_append.mp hw with k | k
          · exact .inr (.inr ⟨w, List.mem_append_left _ k, t, rfl⟩)
          · rw [List.mem_singleton.mp k] at hr ⊢
            cases t with
            | nil => exact .inr (.inl (List.append_nil _))
            | cons y t =>
              refine .inr (.inr ⟨b ++ [x] ++ [y], List.mem_append_right _ (hin y ?_ ?_), t, by simp⟩)
              · have := hr.wk
                rw [List.append_assoc, List.singleton_append, wk_split] at this
                exact this.2.1
              · intro hm
                have := hr.nd
                rw [List.nodup_append] at this
                exact this.2.2 y hm y List.mem_cons_self rfl
      have hd4 : d.length + new.length ≤ 1000 := by omega
      by_cases c : h ∈ fl B.2.2.2 x
      · rw [if_pos (decide_eq_true c), Mo.rq_of (by omega)]
        simp only [pure_bind]
        rw [Mo.rq_of (by omega), pure_bind]
        have hsr : SR B.2.2.2 B.2.1 (b ++ [x]) := ⟨hrow, fun u v hu hv => by
          rw [he] at hu
          rw [getL_none] at hv
          cases hu
          cases hv
          exact c⟩
        refine ⟨⟨fun w hw => ?_, fun r hr => ?_, fun r hr => ?_, ?_⟩, ?_⟩
        · rcases List.mem_append.mp hw with k | k
          · exact hdr w k
          · exact (hnew w k).1
        · rcases List.mem_append.mp hr with k | k
          · exact h2 r k
          · rw [List.mem_singleton.mp k]; exact hsr
        · rcases hrw r hr with k | k | k
          · exact .inl (List.mem_append_left _ k)
          · rw [k]; exact .inl (List.mem_append_right _ (by simp))
          · exact .inr k
        · show (s2 ++ [b ++ [x]]).length + cst (d ++ new) ≤ 500
          rw [cst_app, List.length_append, List.length_singleton]
          omega
        · show cst (d ++ new) < cst s1
          rw [cst_app]
          omega
      · rw [if_neg (by simpa using c)]
        simp only [pure_bind]
        rw [Mo.rq_of (by omega), pure_bind]
        refine ⟨⟨fun w hw => ?_, h2, fun r hr => ?_, ?_⟩, ?_⟩
        · rcases List.mem_append.mp hw with k | k
          · exact hdr w k
          · exact (hnew w k).1
        · rcases hrw r hr with k | k | k
          · exact .inl k
          · subst k
            exact absurd (hr.cl h x (by rw [he]; rfl) getL_none) c
          · exact .inr k
        · show s2.length + cst (d ++ new) ≤ 500
          rw [cst_app]
          omega
        · show cst (d ++ new) < cst s1
          rw [cst_app]
          omega
  · obtain ⟨v, hv, rfl⟩ := List.mem_map.mp hw
    exact ⟨by simp, by simp, fun x hx => by cases hx; exact (hR2 v).mp hv, trivial⟩
  · obtain ⟨h, t, rfl⟩ : ∃ h t, r = h :: t := by
      cases r with
      | nil => exact absurd rfl hr.ne
      | cons h t => exact ⟨h, t, rfl⟩
    exact ⟨[h], List.mem_map.mpr ⟨h, (hR2 h).mpr (hr.hd h rfl), rfl⟩, t, rfl⟩
  · show 0 + cst (R.map fun v => [v]) ≤ 500
    rw [cst_const (k := 1) fun r hr => by obtain ⟨v, _, rfl⟩ := List.mem_map.mp hr; rfl, List.length_map]
    have : R.length * 5 ^ (4 - 1) ≤ 4 * 5 ^ 3 := Nat.mul_le_mul (by omega) (Nat.le_refl _)
    omega
end DD
namespace DD
open PySem PySem.Spec PyProof.Rows L2 KO SX RF
def mxl : List Int → Int
  | [] => 0
  | [x] => x
  | x :: y :: r => max x (mxl (y :: r))
theorem mxl_mem : ∀ {l : List Int}, l ≠ [] → mxl l ∈ l
  | [], h => absurd rfl h
  | [x], _ => List.mem_singleton.mpr rfl
  | x :: y :: r, _ => by
    have ih := mxl_mem (l := y :: r) (by simp)
    show max x (mxl (y :: r)) ∈ _
    by_cases c : x ≤ mxl (y :: r)
    · rw [Int.max_eq_right c]; exact List.mem_cons_of_mem _ ih
    · rw [Int.max_eq_left (by omega)]; exact List.mem_cons_self
theorem mxl_le : ∀ {l : List Int} {x : Int}, x ∈ l → x ≤ mxl l
  | [], x, h => by simp at h
  | [y], x, h => by rw [List.mem_singleton.mp h]; exact Int.le_refl _
  | a :: b :: r, x, h => by
    show x ≤ max a (mxl (b :: r))
    rcases List.mem_cons.mp h with e | e
    · rw [e]; exact Int.le_max_left _ _
    · exact Int.le_trans (mxl_le e) (Int.le_max_right _ _)
theorem mxl_uq {l : List Int} {i : Int} (h : i ∈ l) (k : ∀ y ∈ l, y ≤ i) : i = mxl l := by
  have h1 := mxl_le h
  have h2 := k _ (mxl_mem (List.ne_nil_of_mem h))
  omega
section
variable {fol : List (List Int)} {st : List Int} {n : Nat} {g : Nat → Int}
def om (fol : List (List Int)) (g s : Nat → Int) (k : Nat) : Int := g k + mxl ((fl fol k).map fun u => s u.toNat)
def Ws (fol : List (List Int)) (g : Nat → Int) : Nat → Nat → Int
  | 0, _ => 0
  | i + 1, k => max 0 (om fol g (Ws fol g i) k)
def gs (g : Nat → Int) (p : List Int) : Int := (p.map fun v => g v.toNat).sum
theorem gs_app {p q : List Int} : gs g (p ++ q) = gs g p + gs g q := by unfold gs; rw [List.map_append, List.sum_append]
theorem gs_cons {v : Int} {q : List Int} : gs g (v :: q) = g v.toNat + gs g q := by unfold gs; rw [List.map_cons, List.sum_cons]
theorem ws_nn : ∀ {i k : Nat}, 0 ≤ Ws fol g i k
  | 0, _ => Int.le_refl _
  | _ + 1, _ => Int.le_max_left _ _
def Full (n : Nat) (fol : List (List Int)) : Prop := ∀ v : Int, 0 ≤ v ∧ v < n → fl fol v ≠ []
theorem toNat_fl {v : Int} (h : 0 ≤ v) : fl fol ((v.toNat : Nat) : Int) = fl fol v := by rw [Int.toNat_of_nonneg h]
theorem ws_ge (hf : Fol n fol) (hF : Full n fol) : ∀ (k : Nat) (v : Int) (t : List Int), Wk fol (v :: t) → 0 ≤ v ∧ v < n → (v :: t).length ≤ k → gs g (v :: t) ≤ Ws fol g k v.toNat
  | 0, v, t, _, _, h => by simp at h
  | k + 1, v, t, w, hv, h => by
    refine Int.le_trans ?_ (Int.le_max_right _ _)
    unfold om
    rw [toNat_fl hv.1, gs_cons]
    refine Int.add_le_add_left ?_ _
    cases t with
    | nil =>
      obtain ⟨u, hu⟩ := List.exists_mem_of_ne_nil _ (hF v hv)
      exact Int.le_trans (ws_nn (fol := fol) (g := g)) (mxl_le (List.mem_map.mpr ⟨u, hu, rfl⟩))
    | cons u t =>
      have hu := (fl_at hf hv).2.r u w.1
      exact Int.le_trans (ws_ge hf hF k u t w.2 hu (by simp only [List.length_cons] at h ⊢; omega)) (mxl_le (List.mem_map.mpr ⟨u, w.1, rfl⟩))
theorem ws_at (hf : Fol n fol) (hF : Full n fol) : ∀ (k : Nat) (v : Int), 0 ≤ v ∧ v < n → Ws fol g k v.toNat = 0 ∨ ∃ t, Wk fol (v :: t) ∧ (v :: t).length ≤ k ∧ gs g (v :: t) = Ws fol g k v.toNat
  | 0, v, _ => .inl rfl
  | k + 1, v, hv => by
    by_cases c : om fol g (Ws fol g k) v.toNat ≤ 0
    · exact .inl (Int.max_eq_left c)
    · refine .inr ?_
      have e : Ws fol g (k + 1) v.toNat = om fol g (Ws fol g k) v.toNat := Int.max_eq_right (by omega)
      rw [e]
      unfold om
      rw [toNat_fl hv.1]
      have hm := mxl_mem (l := (fl fol v).map fun u => Ws fol g k u.toNat) (by simpa using hF v hv)
      obtain ⟨u, hu, hu2⟩ := List.mem_map.mp hm
      rw [← hu2]
      have hur := (fl_at hf hv).2.r u hu
      rcases ws_at hf hF k u hur with z | ⟨t, w, l, z⟩
      · rw [z]
        exact ⟨[], trivial, by simp, by rw [gs_cons]; rfl⟩
      · exact ⟨u :: t, ⟨hu, w⟩, by simp only [List.length_cons] at l ⊢; omega, by rw [gs_cons, z]⟩
theorem twice : ∀ {p : List Int}, ¬ p.Nodup → ∃ a x b c, p = a ++ x :: b ++ x :: c ∧ (x :: b).Nodup
  | [], h => absurd List.nodup_nil h
  | v :: p, h => by
    by_cases c : p.Nodup
    · have hm : v ∈ p := by
        refine Decidable.byContradiction fun k => h (List.nodup_cons.mpr ⟨k, c⟩)
      obtain ⟨b, r, e, hn⟩ := List.append_of_mem hm |>.elim fun b ⟨r, e⟩ => (⟨b, r, e, by
        rw [e, List.nodup_append] at c
        exact fun k => c.2.2 v k v List.mem_cons_self rfl⟩ : ∃ b r, p = b ++ v :: r ∧ v ∉ b)
      refine ⟨[], v, b, r, by rw [e]; rfl, List.nodup_cons.mpr ⟨hn, ?_⟩⟩
      rw [e, List.nodup_append] at c
      exact c.1
    · obtain ⟨a, x, b, r, e, k⟩ := twice c
      exact ⟨v :: a, x, b, r, by rw [e]; rfl, k⟩
theorem ring_in (hf : Fol n fol) (hs : Pls n st) {a b c : List Int} {x : Int} (w : Wk fol (a ++ x :: b ++ x :: c)) (h : ∀ y, (a ++ x :: b ++ x :: c).head? = some y → Rch fol st y) (k : (x :: b).Nodup) : SR fol st (x :: b) := by
  have hx : Rch fol st x := wk_rch hf hs w h x (by simp)
  rw [wk_split, List.append_assoc, List.cons_append, wk_split] at w
  have w2 := w.1.2
  refine ⟨⟨by simp, k, fun y hy => by cases hy; exact hx, ?_⟩, fun u v hu hv => ?_⟩
  · have : ∀ (l : List Int) (y : Int), Wk fol (l ++ [y]) → Wk fol l := fun l y hw => by
      rcases List.eq_nil_or_concat l with rfl | ⟨m, z, rfl⟩
      · trivial
      · rw [List.concat_eq_append] at hw ⊢
        rw [List.append_assoc] at hw
        exact (wk_snoc.mp hw).1
    exact this (x :: b) x w2
  · cases hu
    obtain ⟨m, e⟩ : ∃ m, x :: b = m ++ [v] := by
      rcases List.eq_nil_or_concat (x :: b) with e | ⟨m, z, e⟩
      · simp at e
      · rw [List.concat_eq_append] at e
        rw [e] at hv
        simp at hv
        exact ⟨m, by rw [e, hv]⟩
    have w3 : Wk fol (x :: b ++ [x]) := w2
    rw [e, List.append_assoc] at w3
    exact (wk_snoc.mp w3).2
theorem shorten (hf : Fol n fol) (hs : Pls n st) (hr : ∀ r, SR fol st r → gs g r ≤ 0) : ∀ (m : Nat) (v : Int) (t : List Int), (v :: t).length ≤ m → Wk fol (v :: t) → Rch fol st v → ∃ t', Wk fol (v :: t') ∧ (v :: t').length ≤ n ∧ gs g (v :: t) ≤ gs g (v :: t')
  | 0, v, t, h, _, _ => by simp at h
  | m + 1, v, t, h, w, hv => by
    by_cases c : (v :: t).Nodup
    · exact ⟨t, w, in_len c fun x hx => (wk_rch hf hs w (fun y hy => by cases hy; exact hv) x hx).r hf hs, Int.le_refl _⟩
    · obtain ⟨a, x, b, r, e, k⟩ := twice c
      have ring := ring_in hf hs (e ▸ w) (fun y hy => by rw [← e] at hy; cases hy; exact hv) k
      have hneg := hr _ ring
      obtain ⟨t2, e2⟩ : ∃ t2, a ++ x :: r = v :: t2 := by
        cases a with
        | nil => cases e; exact ⟨r, rfl⟩
        | cons _ a => cases e; exact ⟨a ++ x :: r, rfl⟩
      have w2 : Wk fol (a ++ x :: r) := by
        have w' := w
        rw [e, wk_split] at w'
        have w3 := w'.1
        rw [List.append_assoc, List.cons_append, wk_split] at w3
        exact (wk_split a x r).mpr ⟨w3.1, w'.2⟩
      have l2 : (v :: t2).length ≤ m := by
        rw [← e2]
        rw [e] at h
        simp only [List.length_append, List.length_cons] at h ⊢
        omega
      obtain ⟨t', k1, k2, k3⟩ := shorten hf hs hr m v t2 l2 (e2 ▸ w2) hv
      refine ⟨t', k1, k2, Int.le_trans ?_ k3⟩
      rw [e, ← e2, gs_app, gs_app, gs_app]
      omega
theorem ws_still (hf : Fol n fol) (hF : Full n fol) (hs : Pls n st) (hr : ∀ r, SR fol st r → gs g r ≤ 0) {v : Int} (hv : Rch fol st v) {m : Nat} (hm : n ≤ m) : Ws fol g m v.toNat = Ws fol g n v.toNat := by
  have hvr := hv.r hf hs
  have h1 : Ws fol g m v.toNat ≤ Ws fol g n v.toNat := by
    rcases ws_at (g := g) hf hF m v hvr with z | ⟨t, w, l, z⟩
    · rw [z]; exact ws_nn
    · obtain ⟨t', k1, k2, k3⟩ := shorten hf hs hr _ v t (Nat.le_refl _) w hv
      have := ws_ge (g := g) hf hF n v t' k1 hvr k2
      omega
  have h2 : Ws fol g n v.toNat ≤ Ws fol g m v.toNat := by
    rcases ws_at (g := g) hf hF n v hvr with z | ⟨t, w, l, z⟩
    · rw [z]; exact ws_nn
    · rw [← z]
      exact ws_ge hf hF m v t w hvr (by omega)
  omega
theorem walk_far (hf : Fol n fol) (hF : Full n fol) : ∀ (k : Nat) (v : Int), 0 ≤ v ∧ v < n → ∃ t, Wk fol (v :: t) ∧ t.length = k
  | 0, v, _ => ⟨[], trivial, rfl⟩
  | k + 1, v, hv => by
    obtain ⟨u, hu⟩ := List.exists_mem_of_ne_nil _ (hF v hv)
    obtain ⟨t, w, l⟩ := walk_far hf hF k u ((fl_at hf hv).2.r u hu)
    exact ⟨u :: t, ⟨hu, w⟩, by rw [List.length_cons, l]⟩
theorem some_ring (hf : Fol n fol) (hF : Full n fol) (hs : Pls n st) (h : st ≠ []) : ∃ r, SR fol st r := by
  obtain ⟨v, hv⟩ := List.exists_mem_of_ne_nil _ h
  obtain ⟨t, w, l⟩ := walk_far hf hF n v (hs.r v hv)
  have hd : ∀ y, (v :: t).head? = some y → Rch fol st y := fun y hy => by cases hy; exact .base hv
  have : ¬ (v :: t).Nodup := fun c => by
    have := in_len c fun x hx => (wk_rch hf hs w hd x hx).r hf hs
    rw [List.length_cons] at this
    omega
  obtain ⟨a, x, b, r, e, k⟩ := twice this
  exact ⟨_, ring_in hf hs (e ▸ w) (fun y hy => hd y (by rw [e]; exact hy)) k⟩
end
end DD
namespace DD
open PySem PySem.Spec PyProof.Rows L2 KO SX RF
section
variable {B : OBook} {n : Nat}
theorem len_eq (hN : B.1.length = n) : (P_BookLen B).calm = pure (n : Int) := by
  unfold P_BookLen
  simp only [pure_bind, bind_assoc, map_pure]
  rw [hN]
  rfl
theorem rep_of {f : Nat → Int} {ys : List Int} (hl : ys.length = n) (h : ∀ (i : Nat) (y : Int), i < n → ys[i]? = some y → y = f i) : ys = rep n f := by
  refine List.ext_getElem? fun j => ?_
  by_cases hj : j < n
  · rw [rep_get hj]
    cases e : ys[j]? with
    | none => rw [List.getElem?_eq_none_iff] at e; omega
    | some y => rw [h j y hj e]
  · rw [List.getElem?_eq_none (by omega), List.getElem?_eq_none (by rw [rep_len]; omega)]
theorem range_get {i : Nat} {x : Int} (h : (rangeL 0 n)[i]? = some x) : i < n ∧ x = i := by
  unfold rangeL at h
  rw [List.getElem?_map] at h
  by_cases hi : i < n
  · rw [List.getElem?_range hi] at h
    simp only [Option.map_some, Option.some.injEq] at h
    exact ⟨hi, by omega⟩
  · rw [List.getElem?_eq_none (by simpa using hi)] at h
    cases h
theorem onemore_ok (hn : n ≤ 60) (hN : B.1.length = n) (hf : Fol n B.2.2.2) (hF : Full n B.2.2.2) {g s : Nat → Int} {Q : List Int → Prop} {E : Ex → Prop} (q : Q (rep n (om B.2.2.2 g s))) : (P_onemore B (rep n g) (rep n s)).run Q E := by
  unfold P_onemore
  simp only [pure_bind, bind_assoc, map_pure, bind_pure]
  have hz := sizeLine_eq
  rw [len_eq hN, pure_bind, Mo.rq_of ⟨by omega, by omega⟩, pure_bind, Mo.rq_of ⟨by omega, by omega⟩, pure_bind, Int.toNat_natCast]
  refine Mo.lc_each (R := fun w y => y = om B.2.2.2 g s w.toNat) (by rw [rangeL_len]; omega) (fun w hw => ?_) fun ys hl h => ?_
  · obtain ⟨h1, h2⟩ := rangeL_mem.mp hw
    have hw2 : 0 ≤ w ∧ w < (n : Int) := ⟨h1, by omega⟩
    rw [rep_at hw2.1 hw2.2, Mo.get_some, pure_bind, followers_eq hN hf hw2, pure_bind]
    have hp := (fl_at hf hw2).2
    have := hp.len
    rw [Mo.lc_map (g := fun u : Int => s u.toNat) (by omega) (fun u hu => by
      have := hp.r u hu
      rw [rep_at this.1 this.2, Mo.get_some]), pure_bind, Mo.rq_of (by rw [List.length_map]; exact List.length_pos_iff.mpr (hF w hw2)), pure_bind]
    intro i hi
    show g w.toNat + i = om B.2.2.2 g s w.toNat
    unfold om
    rw [toNat_fl h1, mxl_uq hi.1 hi.2]
  · rw [rangeL_len] at hl
    rw [rep_of hl fun i y hi hy => by
      have e : (rangeL 0 n)[i]? = some (i : Int) := by unfold rangeL; rw [List.getElem?_map, List.getElem?_range hi]; simp
      have := h i i y e hy
      rw [this, Int.toNat_natCast]]
    exact q
theorem max0_eq {f : Nat → Int} (hn : n ≤ 60) : Mo.lc (fun _ => pure true) (fun w25 : Int => (pure (max 0 w25) : Mo Int)) (rep n f) = pure (rep n fun k => max 0 (f k)) := by
  rw [Mo.lc_map (g := fun w : Int => max 0 w) (by rw [rep_len, sizeLine_eq]; omega) fun _ _ => rfl]
  unfold rep
  rw [List.map_map]
  rfl
def shw (R : List Int) (n : Nat) (f : Nat → Int) : List (Option Int) := (List.range n).map fun (k : Nat) => if (k : Int) ∈ R then some (f k) else none
theorem worthsof_ok (hn : n ≤ 60) (hN : B.1.length = n) (hst : Pls n B.2.1) (hf : Fol n B.2.2.2) (hF : Full n B.2.2.2) {g : Nat → Int} {Q : List (Option Int) → Prop} {E : Ex → Prop} (q : ∀ R, R.Pairwise (· < ·) → (∀ x, x ∈ R ↔ Rch B.2.2.2 B.2.1 x) → Q (shw R n (Ws B.2.2.2 g n))) : (P_worthsof B (rep n g)).run Q E := by
  unfold P_worthsof
  simp only [pure_bind, bind_assoc, map_pure, bind_pure]
  have hz := sizeLine_eq
  rw [Mo.run_bind]
  refine reach_ok hn hst hf fun R hR1 hR2 => ?_
  rw [len_eq hN, pure_bind, Mo.rq_of ⟨by omega, by omega⟩, pure_bind, Mo.rq_of ⟨by omega, by omega, by simp only [List.length_cons, List.length_nil]; omega⟩, pure_bind, pure_bind, Mo.rq_of ⟨by omega, by omega⟩, pure_bind, Mo.rq_of ⟨by omega, by omega⟩, pure_bind, Int.toNat_natCast, rep_const, Mo.run_bind]
  refine Mo.fold_inv (fun i (s : List Int) => s = rep n (Ws B.2.2.2 g i)) (k := 0) rfl (fun i x s hx hI => ?_) fun s hI => ?_
  · rw [hI, Mo.run_bind]
    refine onemore_ok hn hN hf hF ?_
    rw [max0_eq hn]
    show rep n _ = rep n _
    rw [Nat.zero_add]
    rfl
  · rw [hI, rangeL_len, Nat.zero_add, pure_bind, Mo.rq_of ⟨by omega, by omega⟩, pure_bind, Mo.rq_of ⟨by omega, by omega⟩, pure_bind, Int.toNat_natCast]
    rw [Mo.lc_map (g := fun w : Int => if w ∈ R then some (Ws B.2.2.2 g n w.toNat) else none) (by rw [rangeL_len]; omega) fun w hw => ?_]
    · have e : (rangeL 0 n).map (fun w : Int => if w ∈ R then some (Ws B.2.2.2 g n w.toNat) else none) = shw R n (Ws B.2.2.2 g n) := by
        unfold rangeL shw
        rw [List.map_map]
        refine List.map_congr_left fun k _ => ?_
        show (if (0 + (k : Int)) ∈ R then some (Ws B.2.2.2 g n (0 + (k : Int)).toNat) else none) = _
        rw [show (0 : Int) + (k : Int) = k by omega, Int.toNat_natCast]
      rw [e]
      exact q R hR1 hR2
    · obtain ⟨h1, h2⟩ := rangeL_mem.mp hw
      by_cases c : w ∈ R
      · rw [if_pos (decide_eq_true c), if_pos c, rep_at h1 (by omega), Mo.get_some]; rfl
      · rw [if_neg (by simpa using c), if_neg c]
end
section
variable {fol : List (List Int)} {n : Nat}
theorem Lsweep_ok (hn : n ≤ 60) (hf : Fol n fol) (hF : Full n fol) {g s : Nat → Int} {Q : List Int → Prop} {E : Ex → Prop} (q : Q (rep n fun k => max 0 (om fol g s k))) : (P_Lsweep fol (rep n g) (rep n s)).run Q E := by
  unfold P_Lsweep
  simp only [pure_bind, bind_assoc, map_pure, bind_pure]
  have hz := sizeLine_eq
  rw [rep_len, Mo.rq_of ⟨by omega, by omega⟩, pure_bind, Int.toNat_natCast]
  refine Mo.fold_inv (fun i (r : List Int) => r = rep i fun k => max 0 (om fol g s k)) (k := 0) rfl (fun i x r hx hI => ?_) fun r hI => ?_
  · obtain ⟨hi, rfl⟩ := range_get hx
    have hw2 : 0 ≤ (i : Int) ∧ (i : Int) < (n : Int) := by omega
    obtain ⟨f, a1, a2⟩ := atI_in (xs := fol) (i := (i : Int)) hw2.1 (by rw [hf.l]; exact hw2.2)
    rw [(fl_at hf hw2).1] at a2
    obtain rfl := Option.some.inj a2
    have hp := (fl_at hf hw2).2
    have := hp.len
    rw [rep_at hw2.1 hw2.2, Mo.get_some, pure_bind, a1, Mo.get_some, pure_bind]
    rw [Mo.lc_map (g := fun u : Int => s u.toNat) (by omega) (fun u hu => by
      have := hp.r u hu
      rw [rep_at this.1 this.2, Mo.get_some]), pure_bind, Mo.rq_of (by rw [List.length_map]; exact List.length_pos_iff.mpr (hF _ hw2)), pure_bind]
    intro j hj
    rw [hI]
    show (Mo.rq _ _ >>= _ : Mo (List Int)).run _ _
    rw [Mo.rq_of (by rw [rep_len]; omega), pure_bind]
    show rep (0 + i) _ ++ _ = rep (0 + i + 1) _
    rw [Nat.zero_add]
    unfold rep
    rw [List.range_succ, List.map_append, mxl_uq hj.1 hj.2]
    rfl
  · rw [hI, rangeL_len, Nat.zero_add]
    exact q
theorem Lshown_eq (hn : n ≤ 60) {R : List Int} {s : Nat → Int} : P_Lshown (rep n s) R = pure (shw R n s) := by
  unfold P_Lshown
  simp only [pure_bind, bind_assoc, map_pure, bind_pure]
  have hz := sizeLine_eq
  rw [rep_len, Mo.rq_of ⟨by omega, by omega⟩, pure_bind, Int.toNat_natCast]
  have key : ∀ (m : Nat) (l : List Nat), (∀ k ∈ l, k < n) → ∀ acc : List (Option Int), acc.length + l.length ≤ 1000 → Mo.fold (fun (s6 : List (Option Int)) (w7 : Int) => if decide (w7 ∈ R) = true then (do
                let x13 ← (fun x => some x) <$> Mo.get (atI (rep n s) w7)
                let x13 ← Mo.rq (s6.length < sizeLine) x13
                pure (s6 ++ [x13]) : Mo (List (Option Int)))
              else do
                let x13 ← Mo.rq (s6.length < sizeLine) none
                pure (s6 ++ [x13])) (l.map fun (k : Nat) => (0 : Int) + (k : Int)) acc = pure (acc ++ l.map fun (k : Nat) => if (k : Int) ∈ R then some (s k) else none) := fun m l => by
    induction l with
    | nil => intro _ acc _; rw [List.map_nil, List.map_nil, List.append_nil]; rfl
    | cons k l ih =>
      intro h acc hl
      rw [List.length_cons] at hl
      have hk := h k List.mem_cons_self
      rw [List.map_cons]
      show ((if decide ((0 : Int) + (k : Int) ∈ R) = true then _ else _) >>= fun s => Mo.fold _ (l.map fun (k : Nat) => (0 : Int) + (k : Int)) s : Mo (List (Option Int))) = _
      rw [show (0 : Int) + (k : Int) = k by omega]
      by_cases c : (k : Int) ∈ R
      · rw [if_pos (decide_eq_true c), rep_at (by omega) (by omega), Mo.get_some, map_pure, pure_bind, Mo.rq_of (by omega), pure_bind, pure_bind, ih (fun j hj => h j (List.mem_cons_of_mem _ hj)) _ (by rw [List.length_append, List.length_singleton]; omega), List.map_cons, if_pos c, Int.toNat_natCast, List.append_assoc]
        rfl
      · rw [if_neg (by simpa using c), Mo.rq_of (by omega), pure_bind, pure_bind, ih (fun j hj => h j (List.mem_cons_of_mem _ hj)) _ (by rw [List.length_append, List.length_singleton]; omega), List.map_cons, if_neg c, List.append_assoc]
        rfl
  have := key n (List.range n) (fun k hk => List.mem_range.mp hk) [] (by rw [List.length_range]; simp; omega)
  rw [List.nil_append] at this
  exact this
end
end DD
namespace DD
open PySem PySem.Spec PyProof.Rows L2 KO SX RF
theorem dput_new {d : List (Str × Int)} {k : Str} {x : Int} (h : k ∉ d.map (·.1)) : dputS d k x = d ++ [(k, x)] := by
  unfold dputS
  rw [if_neg]
  intro c
  rw [List.any_eq_true] at c
  obtain ⟨p, hp, e⟩ := c
  exact h (List.mem_map.mpr ⟨p, hp, by simpa using e⟩)
theorem dput_old {pre d : List (Str × Int)} {k : Str} {x y : Int} (h : k ∉ pre.map (·.1)) (h2 : k ∉ d.map (·.1)) : dputS (pre ++ (k, y) :: d) k x = pre ++ (k, x) :: d := by
  unfold dputS
  rw [if_pos (by simp)]
  have same : ∀ l : List (Str × Int), k ∉ l.map (·.1) → (l.map fun p => if p.1 = k then (p.1, x) else p) = l := fun l hl => by
    induction l with
    | nil => rfl
    | cons p l ih =>
      rw [List.map_cons, if_neg (fun e => hl (by rw [← e]; exact List.mem_cons_self)), ih fun c => hl (List.mem_cons_of_mem _ c)]
  rw [List.map_append, List.map_cons, same pre h, same d h2, if_pos rfl]
theorem fill_eq : ∀ (ws pre d : List (Str × Int)), ((pre ++ ws).map (·.1)).Nodup → (d = [] ∨ d.map (·.1) = ws.map (·.1)) → (pre ++ ws).length ≤ 1000 → d.length ≤ ws.length →
    Mo.fold (fun (s87 : List (Str × Int)) (w88 : Str × Int) => (do
      let k93 ← Mo.rq (s87.length < sizeLine) w88.fst
      pure (dputS s87 k93 w88.snd) : Mo (List (Str × Int)))) ws (pre ++ d) = pure (pre ++ ws)
  | [], pre, d, _, h, _, hl => by
    have : d = [] := List.length_eq_zero_iff.mp (by simpa using hl)
    rw [this]
    rfl
  | (k, x) :: ws, pre, d, hn, h, hl, hd => by
    have hz := sizeLine_eq
    rw [List.length_append, List.length_cons] at hl
    rw [List.length_cons] at hd
    show ((Mo.rq ((pre ++ d).length < sizeLine) k >>= fun k93 => pure (dputS (pre ++ d) k93 x)) >>= fun s => Mo.fold _ ws s : Mo (List (Str × Int))) = _
    rw [Mo.rq_of (by rw [List.length_append]; omega), pure_bind, pure_bind]
    have hn' := hn
    rw [List.map_append, List.map_cons, List.nodup_append] at hn'
    obtain ⟨n1, n2, n3⟩ := hn'
    have hk1 : k ∉ pre.map (·.1) := fun c => n3 k c k List.mem_cons_self rfl
    have hk2 : k ∉ ws.map (·.1) := (List.nodup_cons.mp n2).1
    have e : pre ++ (k, x) :: ws = (pre ++ [(k, x)]) ++ ws := by simp
    rw [e] at hn ⊢
    rcases h with rfl | h
    · rw [List.append_nil, dput_new hk1]
      have := fill_eq ws (pre ++ [(k, x)]) [] hn (.inl rfl) (by rw [List.length_append, List.length_append, List.length_singleton]; omega) (by simp)
      rw [List.append_nil] at this
      exact this
    · cases d with
      | nil => simp at h
      | cons p d =>
        obtain ⟨k', y⟩ := p
        rw [List.map_cons, List.map_cons] at h
        obtain ⟨e1, e2⟩ := List.cons.inj h
        have e1 : k' = k := e1
        subst e1
        rw [dput_old hk1 (by rw [e2]; exact hk2), show pre ++ (k', x) :: d = (pre ++ [(k', x)]) ++ d by simp]
        exact fill_eq ws (pre ++ [(k', x)]) d hn (.inr e2) (by rw [List.length_append, List.length_append, List.length_singleton]; omega) (by rw [List.length_cons] at hd; omega)
theorem dget_cons {k : Str} {x : Int} {d : List (Str × Int)} {w : Str} : dgetS ((k, x) :: d) w = if k = w then some x else dgetS d w := by
  unfold dgetS
  rw [List.find?_cons]
  by_cases c : k = w
  · rw [if_pos c, decide_eq_true c]; rfl
  · rw [if_neg c, decide_eq_false c]
theorem dget_none {d : List (Str × Int)} {w : Str} (h : w ∉ d.map (·.1)) : dgetS d w = none := by
  induction d with
  | nil => rfl
  | cons p d ih =>
    rw [dget_cons, if_neg (fun e => h (by rw [← e]; exact List.mem_cons_self)), ih fun c => h (List.mem_cons_of_mem _ c)]
def pw (d : List (Str × Int)) (l : List Str) : Int := ((d.filter fun p => decide (p.1 ∈ l)).map (·.2)).sum
theorem pw_eq {l : List Str} (hl : l.Nodup) : ∀ {d : List (Str × Int)}, (d.map (·.1)).Nodup → (l.map fun w => (dgetS d w).getD 0).sum = pw d l
  | [], _ => by
    unfold pw
    have : ∀ l : List Str, (l.map fun w => (dgetS ([] : List (Str × Int)) w).getD 0).sum = 0 := fun l => by
      induction l with
      | nil => rfl
      | cons w l ih => rw [List.map_cons, List.sum_cons, ih]; rfl
    exact this l
  | (k, x) :: d, hn => by
    rw [List.map_cons, List.nodup_cons] at hn
    have ih := pw_eq hl hn.2
    have none_k : dgetS d k = none := dget_none hn.1
    have add : ∀ l : List Str, (l.map fun w => (dgetS ((k, x) :: d) w).getD 0).sum = (l.map fun w => if k = w then x else 0).sum + (l.map fun w => (dgetS d w).getD 0).sum := fun l => by
      induction l with
      | nil => rfl
      | cons w l ih =>
        rw [List.map_cons, List.map_cons, List.map_cons, List.sum_cons, List.sum_cons, List.sum_cons, ih, dget_cons]
        by_cases c : k = w
        · subst c
          rw [if_pos rfl, if_pos rfl, none_k]
          show x + _ = x + _ + (0 + _)
          omega
        · rw [if_neg c, if_neg c]; omega
    have one : ∀ l : List Str, l.Nodup → (l.map fun w => if k = w then x else 0).sum = if k ∈ l then x else 0 := fun l hl => by
      induction l with
      | nil => rfl
      | cons w l ih =>
        rw [List.nodup_cons] at hl
        rw [List.map_cons, List.sum_cons, ih hl.2]
        by_cases c : k = w
        · subst c
          rw [if_pos rfl, if_neg hl.1, if_pos List.mem_cons_self]; omega
        · rw [if_neg c]
          by_cases c2 : k ∈ l
          · rw [if_pos c2, if_pos (List.mem_cons_of_mem _ c2)]; omega
          · rw [if_neg c2, if_neg (fun h => by rcases List.mem_cons.mp h with e | e; exact c e; exact c2 e)]; rfl
    rw [add, one l hl, ih]
    unfold pw
    rw [List.filter_cons]
    by_cases c : k ∈ l
    · rw [if_pos c, decide_eq_true c, if_pos rfl, List.map_cons, List.sum_cons]
    · rw [if_neg c, decide_eq_false c, if_neg (by decide)]; omega
theorem pw_r {d : List (Str × Int)} {l : List Str} (h : ∀ p ∈ d, 0 ≤ p.2 ∧ p.2 ≤ 99) : 0 ≤ pw d l ∧ pw d l ≤ 99 * d.length := by
  unfold pw
  induction d with
  | nil => simp
  | cons p d ih =>
    have hp := h p List.mem_cons_self
    have := ih fun q hq => h q (List.mem_cons_of_mem _ hq)
    rw [List.filter_cons, List.length_cons]
    by_cases c : p.1 ∈ l
    · rw [decide_eq_true c, if_pos rfl, List.map_cons, List.sum_cons]; omega
    · rw [decide_eq_false c, if_neg (by decide)]; omega
end DD
namespace DD
open PySem PySem.Spec PyProof.Rows L2 KO SX RF
section
variable {S : List Sheet} {st ls : List Str} (g : Gd S st ls)
def lns (S : List Sheet) (k : Nat) : List Str := (S.map (·.2.1)).getD k []
def wts (S : List Sheet) (d : List (Str × Int)) (k : Nat) : Int := pw d (lns S k)
theorem lns_at {k : Nat} {s : Sheet} (h : S[k]? = some s) : lns S k = s.2.1 := by
  unfold lns
  rw [List.getD_eq_getElem?_getD, List.getElem?_map, h]
  rfl
include g
theorem lines_eq {v : Int} (h : 0 ≤ v ∧ v < (nms S).length) : P_BookLinesof (bk S st) v = pure (lns S v.toNat) ∧ ∃ s ∈ S, lns S v.toNat = s.2.1 := by
  have hl : (nms S).length = S.length := List.length_map ..
  obtain ⟨s, hs⟩ : ∃ s, S[v.toNat]? = some s := ⟨_, List.getElem?_eq_getElem (by omega)⟩
  have e := lns_at hs
  refine ⟨?_, s, List.mem_of_getElem? hs, e⟩
  unfold P_BookLinesof P_BookCheckpage
  simp only [pure_bind, bind_assoc, map_pure]
  rw [if_pos (decide_eq_true h.1), pure_bind, show ((bk S st).1.length : Int) = ((nms S).length : Int) from rfl, decide_eq_true h.2, if_neg (by decide), pure_bind]
  obtain ⟨f, a1, a2⟩ := atI_in (xs := S.map (·.2.1)) (i := v) h.1 (by rw [List.length_map, ← hl]; exact h.2)
  rw [List.getElem?_map, hs] at a2
  obtain rfl := Option.some.inj a2
  rw [show (bk S st).2.2.1 = S.map (·.2.1) from rfl, a1, Mo.get_some, pure_bind, e]
theorem pageweights_eq {d : List (Str × Int)} (hd : (d.map (·.1)).Nodup) : P_pageweights (bk S st) d = pure (rep (nms S).length (wts S d)) := by
  unfold P_pageweights
  simp only [pure_bind, bind_assoc, map_pure, bind_pure]
  have hz := sizeLine_eq
  have hn := g.nl
  rw [len_eq (B := bk S st) (n := (nms S).length) rfl, pure_bind, Mo.rq_of ⟨by omega, by omega⟩, pure_bind, Mo.rq_of ⟨by omega, by omega⟩, pure_bind, Int.toNat_natCast]
  rw [Mo.lc_map (g := fun w : Int => wts S d w.toNat) (by rw [rangeL_len]; omega) fun w hw => ?_]
  · unfold rangeL rep
    rw [List.map_map]
    refine congrArg pure (List.map_congr_left fun k _ => ?_)
    show wts S d (0 + (k : Int)).toNat = _
    rw [show (0 : Int) + (k : Int) = k by omega, Int.toNat_natCast]
  · obtain ⟨h1, h2⟩ := rangeL_mem.mp hw
    obtain ⟨e1, s, hs, e2⟩ := lines_eq g (st := st) (v := w) ⟨h1, by omega⟩
    have hl := g.ln s hs
    rw [e1, pure_bind, Mo.lc_map (g := fun w => (dgetS d w).getD 0) (by rw [e2]; have := hl.1; omega) fun _ _ => rfl, pure_bind, pw_eq (by rw [e2]; exact hl.2.1) hd]
    rfl
theorem Lpageweights_eq {d : List (Str × Int)} (hd : d.length ≤ 1000) : P_Lpageweights S d = pure (rep (nms S).length (wts S d)) := by
  unfold P_Lpageweights
  simp only [pure_bind, bind_assoc, map_pure, bind_pure]
  have hz := sizeLine_eq
  have key : ∀ (l : List Sheet) (acc : List Int), acc.length + l.length ≤ 1000 → Mo.fold (fun (s3 : List Int) (w4 : Sheet) => (do
              let x ← Mo.lc (fun w5 : Str × Int => pure (decide (w5.fst ∈ w4.snd.fst))) (fun x10 => pure x10.snd) d
              let x12 ← Mo.rq (s3.length < sizeLine) x.sum
              pure (s3 ++ [x12]) : Mo (List Int))) l acc = pure (acc ++ l.map fun s => pw d s.2.1) := fun l => by
    induction l with
    | nil => intro acc _; rw [List.map_nil, List.append_nil]; rfl
    | cons s l ih =>
      intro acc hl
      rw [List.length_cons] at hl
      show ((Mo.lc _ _ d >>= _) >>= fun s => Mo.fold _ l s : Mo (List Int)) = _
      rw [Mo.lc_pure (p := fun p : Str × Int => decide (p.1 ∈ s.2.1)) (g := fun p : Str × Int => p.2) (by omega) (fun _ _ => rfl) (fun _ _ _ => rfl), pure_bind, Mo.rq_of (by omega), pure_bind, pure_bind, ih _ (by rw [List.length_append, List.length_singleton]; omega), List.map_cons, List.append_assoc]
      rfl
  have h4 := g.n4
  rw [key S [] (by simp; omega), List.nil_append]
  refine congrArg pure (rep_of (by rw [List.length_map, List.length_map]) fun i y hi hy => ?_)
  rw [List.getElem?_map] at hy
  cases e : S[i]? with
  | none => rw [e] at hy; cases hy
  | some s =>
    rw [e] at hy
    cases hy
    unfold wts
    rw [lns_at e]
end
end DD
namespace DD
open PySem PySem.Spec PyProof.Rows L2 KO SX RF
theorem frac {a b c la lb lc : Int} (h1 : a * lb ≤ b * la) (h2 : b * lc ≤ c * lb) (ha : 0 ≤ la) (hb : 0 < lb) (hc : 0 ≤ lc) : a * lc ≤ c * la := by
  refine Int.le_of_mul_le_mul_right (a := lb) ?_ hb
  have e1 : a * lc * lb = a * lb * lc := by rw [Int.mul_assoc, Int.mul_comm lc lb, ← Int.mul_assoc]
  have e2 : c * la * lb = c * lb * la := by rw [Int.mul_assoc, Int.mul_comm la lb, ← Int.mul_assoc]
  have e3 : b * la * lc = b * lc * la := by rw [Int.mul_assoc, Int.mul_comm la lc, ← Int.mul_assoc]
  have k1 := Int.mul_le_mul_of_nonneg_right h1 hc
  have k2 := Int.mul_le_mul_of_nonneg_right h2 ha
  omega
theorem gs_nn {w : Nat → Int} (h : ∀ k, 0 ≤ w k) : ∀ {p : List Int}, 0 ≤ gs w p
  | [] => Int.le_refl _
  | v :: p => by
    rw [gs_cons]
    have := gs_nn h (p := p)
    have := h v.toNat
    omega
theorem gs_lin {w : Nat → Int} {a b : Int} : ∀ {p : List Int}, gs (fun k => a * w k - b) p = a * gs w p - b * p.length
  | [] => by simp [gs]
  | v :: p => by
    rw [gs_cons, gs_cons, gs_lin (p := p), List.length_cons, show ((p.length + 1 : Nat) : Int) = p.length + 1 by omega, Int.mul_add, Int.mul_add]
    omega
section
variable {S : List Sheet} {st ls : List Str} (g : Gd S st ls)
def flS (S : List Sheet) : List (List Int) := S.map fun s => pl (nms S) s.2.2
structure Mn (S : List Sheet) (st : List Str) (w : Nat → Int) (b : List Int) (num den : Int) : Prop where
  rg : SR (flS S) (pl (nms S) st) b
  dr : 1 ≤ den ∧ den ≤ 4
  nn : 0 ≤ num
  co : Nat.gcd num.natAbs den.natAbs = 1
  eq : gs w b * den = num * b.length
  mx : ∀ r, SR (flS S) (pl (nms S) st) r → gs w r * den ≤ num * r.length
def nm (S : List Sheet) (v : Int) : Str := (nms S).getD v.toNat ""
structure Hv (S : List Sheet) (st : List Str) (w : Nat → Int) (h : OHeavy) : Prop where
  p : ∃ b R, Mn S st w b h.1.1 h.1.2 ∧ h.2.1 = b.map (nm S) ∧ R.Pairwise (· < ·) ∧ (∀ x, x ∈ R ↔ Rch (flS S) (pl (nms S) st) x) ∧ h.2.2 = shw R (nms S).length (Ws (flS S) (fun k => h.1.2 * w k - h.1.1) (nms S).length)
include g
theorem Gd.full : Full (nms S).length (flS S) := fun v hv => by
  obtain ⟨s, hs, e⟩ : ∃ s ∈ S, fl (flS S) v = pl (nms S) s.2.2 := by
    have hl : (nms S).length = S.length := List.length_map ..
    have e := (fl_at (g.fol (st := st)) hv).1
    have e : (S.map fun s => pl (nms S) s.2.2)[v.toNat]? = some (fl (flS S) v) := e
    rw [List.getElem?_map] at e
    cases q : S[v.toNat]? with
    | none => rw [q] at e; cases e
    | some s => rw [q] at e; exact ⟨s, List.mem_of_getElem? q, (Option.some.inj e).symm⟩
  rw [e]
  have := g.fo s hs
  exact List.length_pos_iff.mp (pl_ne g this.1 this.2.2)
end
end DD
namespace DD
open PySem PySem.Spec PyProof.Rows L2 KO SX RF
theorem cmul_of {i j : Int} (h : -1000000 ≤ i ∧ i ≤ 1000000) : CMul i j := by unfold CMul; omega
theorem gs_le {w : Nat → Int} {c : Int} (h : ∀ k, w k ≤ c) : ∀ {p : List Int}, gs w p ≤ c * p.length
  | [] => by simp [gs]
  | v :: p => by
    rw [gs_cons, List.length_cons, show ((p.length + 1 : Nat) : Int) = p.length + 1 by omega, Int.mul_add]
    have := gs_le h (p := p)
    have := h v.toNat
    omega
theorem lcs {n : Nat} {w : Nat → Int} {r : List Int} (hr : ∀ x ∈ r, 0 ≤ x ∧ x < n) (hl : r.length ≤ 1000) : Mo.lc (fun _ => pure true) (fun v : Int => Mo.get (atI (rep n w) v)) r = pure (r.map fun v => w v.toNat) := by
  refine Mo.lc_map (by rw [sizeLine_eq]; omega) fun v hv => ?_
  rw [rep_at (hr v hv).1 (hr v hv).2, Mo.get_some]
section
variable {S : List Sheet} {st ls : List Str} (g : Gd S st ls)
theorem nm_at {v : Int} (h : 0 ≤ v ∧ v < (nms S).length) : (nms S)[v.toNat]? = some (nm S v) ∧ atI (nms S) v = some (nm S v) := by
  have e : (nms S)[v.toNat]? = some (nm S v) := by
    unfold nm
    rw [List.getD_eq_getElem?_getD, List.getElem?_eq_getElem (by omega)]
    rfl
  obtain ⟨x, a1, a2⟩ := atI_in (xs := nms S) (i := v) h.1 h.2
  rw [e] at a2
  exact ⟨e, by rw [a1, a2]⟩
theorem wts_r {d : List (Str × Int)} (h : ∀ p ∈ d, 0 ≤ p.2 ∧ p.2 ≤ 99) (hl : d.length ≤ 100) (k : Nat) : 0 ≤ wts S d k ∧ wts S d k ≤ 9900 := by
  have := pw_r (l := lns S k) h
  unfold wts
  omega
include g
theorem heaviest_ok {d : List (Str × Int)} (hd : (d.map (·.1)).Nodup) (hv : ∀ p ∈ d, 0 ≤ p.2 ∧ p.2 ≤ 99) (hl : d.length ≤ 100) {Q : OHeavy → Prop} {E : Ex → Prop} (q : ∀ h, Hv S st (wts S d) h → Q h) : (P_heaviest (bk S st) d).run Q E := by
  have hn : (nms S).length ≤ 4 := by rw [List.length_map]; exact g.n4
  have hf : Fol (nms S).length (flS S) := g.fol (st := st)
  have hs : Pls (nms S).length (pl (nms S) st) := pl_pls
  have hz := sizeLine_eq
  have wr := wts_r (S := S) hv hl
  unfold P_heaviest P_HeavyInit
  simp only [pure_bind, bind_assoc, map_pure]
  rw [pageweights_eq g hd, pure_bind, Mo.run_bind]
  generalize wts S d = w at *
  refine shortrings_ok hn rfl hs hf fun rs hrs hrl => ?_
  have hrs : ∀ r, r ∈ rs ↔ SR (flS S) (pl (nms S) st) r := hrs
  have len4 : ∀ {r}, SR (flS S) (pl (nms S) st) r → 1 ≤ r.length ∧ r.length ≤ 4 := fun h => by
    have := h.toSP.len hf hs
    omega
  have gsr : ∀ {r}, SR (flS S) (pl (nms S) st) r → 0 ≤ gs w r ∧ gs w r ≤ 39600 := fun {r} h => by
    have h1 := gs_nn (w := w) (fun k => (wr k).1) (p := r)
    have h2 := gs_le (w := w) (c := 9900) (fun k => (wr k).2) (p := r)
    have := len4 h
    omega
  rw [Mo.run_bind]
  refine Mo.fold_inv (fun i (s : List Int × Int) => (i = 0 → s = ([], 0)) ∧ (0 < i → SR (flS S) (pl (nms S) st) s.1 ∧ s.2 = gs w s.1 ∧ ∀ r ∈ rs.take i, gs w r * s.1.length ≤ s.2 * r.length)) (k := 0) ⟨fun _ => rfl, fun h => absurd h (by omega)⟩ (fun i r s hr hI => ?_) fun s hI => ?_
  · rw [Nat.zero_add] at hI ⊢
    have hsr := (hrs r).mp (List.mem_of_getElem? hr)
    have l4 := len4 hsr
    rw [lcs (fun x hx => (hsr.toSP.rch hf hs x hx).r hf hs) (by omega), pure_bind]
    show (_ >>= _ : Mo (List Int × Int)).run _ _
    have es : (r.map fun v => w v.toNat).sum = gs w r := rfl
    rw [es]
    have gr := gsr hsr
    have tk : ∀ r' ∈ rs.take (i + 1), r' ∈ rs.take i ∨ r' = r := fun r' h => by
      rw [List.take_add_one, hr] at h
      simpa using h
    have new : (∀ r' ∈ rs.take i, gs w r' * r.length ≤ gs w r * r'.length) → (Mo.run (pure (r, gs w r)) (fun s => (i + 1 = 0 → s = ([], 0)) ∧ (0 < i + 1 → SR (flS S) (pl (nms S) st) s.1 ∧ s.2 = gs w s.1 ∧ ∀ r ∈ rs.take (i + 1), gs w r * s.1.length ≤ s.2 * r.length)) E) := fun h => by
      rw [Mo.run_pure]
      refine ⟨fun h => absurd h (by omega), fun _ => ⟨hsr, rfl, fun r' hr' => ?_⟩⟩
      rcases tk r' hr' with k | k
      · exact h r' k
      · rw [k]; exact Int.le_refl _
    by_cases c : s.1 = []
    · rw [c, if_pos (by rfl), pure_bind, if_pos rfl]
      have : i = 0 := Decidable.byContradiction fun k => (hI.2 (by omega)).1.ne c
      subst this
      exact new fun r' h => by simp at h
    · have i0 : 0 < i := by
        refine Nat.pos_of_ne_zero fun k => c ?_
        rw [hI.1 k]
      obtain ⟨h1, h2, h3⟩ := hI.2 i0
      have g1 := gsr h1
      rw [← h2] at g1
      have l1 := len4 h1
      rw [if_neg (by simpa using c), Mo.rq_of (cmul_of (by omega)), pure_bind, Mo.rq_of (cmul_of (by omega)), pure_bind, pure_bind]
      by_cases c2 : s.2 * r.length < gs w r * s.1.length
      · rw [if_pos (decide_eq_true c2)]
        exact new fun r' h => frac (h3 r' h) (Int.le_of_lt c2) (by omega) (by omega) (by omega)
      · rw [if_neg (by simpa using c2), Mo.run_pure]
        refine ⟨fun h => absurd h (by omega), fun _ => ⟨h1, h2, fun r' hr' => ?_⟩⟩
        rcases tk r' hr' with k | k
        · exact h3 r' k
        · rw [k]; exact Int.not_lt.mp c2
  · rw [Nat.zero_add] at hI
    obtain ⟨r0, hr0⟩ := some_ring hf g.full hs (List.length_pos_iff.mp (pl_ne g g.st.1 g.st.2.2))
    have h0 := (hrs r0).mpr hr0
    obtain ⟨h1, h2, h3⟩ := hI.2 (List.length_pos_iff.mpr (List.ne_nil_of_mem h0))
    rw [List.take_length] at h3
    obtain ⟨b, t⟩ := s
    dsimp only at h1 h2 h3 ⊢
    have lb := len4 h1
    have gb := gsr h1
    rw [← h2] at gb
    obtain ⟨T, rfl⟩ := Int.eq_ofNat_of_zero_le gb.1
    have bl : ((b.length : Int)).natAbs = b.length := Int.natAbs_natCast _
    rw [bl, Int.natAbs_natCast]
    have gp : 0 < T.gcd b.length := Nat.gcd_pos_of_pos_right _ (by omega)
    obtain ⟨nu, hnu⟩ := Nat.gcd_dvd_left T b.length
    obtain ⟨de, hde⟩ := Nat.gcd_dvd_right T b.length
    have co : Nat.gcd nu de = 1 := by
      have := Nat.gcd_mul_left (T.gcd b.length) nu de
      rw [← hnu, ← hde] at this
      exact Nat.eq_of_mul_eq_mul_left gp (by rw [Nat.mul_one]; exact this.symm)
    generalize T.gcd b.length = gg at *
    have de1 : 1 ≤ de := Nat.pos_of_ne_zero fun k => by rw [k] at hde; omega
    have ggl : gg ≤ 4 := Nat.le_trans (Nat.le_mul_of_pos_right gg de1) (by omega)
    have de4 : de ≤ 4 := Nat.le_trans (Nat.le_mul_of_pos_left de gp) (by omega)
    have nul : nu ≤ 39600 := Nat.le_trans (Nat.le_mul_of_pos_left nu gp) (by omega)
    have e1 : ((T : Nat) : Int) / (gg : Int) = nu := by
      rw [hnu, Int.natCast_mul, Int.mul_ediv_cancel_left _ (by omega)]
    have e2 : ((b.length : Nat) : Int) / (gg : Int) = de := by
      rw [hde, Int.natCast_mul, Int.mul_ediv_cancel_left _ (by omega)]
    have cd : ∀ x : Int, CDiv x gg := fun x => by unfold CDiv; omega
    rw [Mo.rq_of (cd _), pure_bind, Mo.rq_of (cd _), pure_bind, e1, e2]
    rw [Mo.lc_map (g := fun x : Int => (de : Int) * x - nu) (by rw [rep_len]; omega) fun x _ => by
      rw [Mo.rq_of (cmul_of (by omega)), pure_bind], pure_bind]
    rw [Mo.lc_map (g := nm S) (by omega) fun x hx => by
      rw [show (bk S st).fst = nms S from rfl, (nm_at ((h1.toSP.rch hf hs x hx).r hf hs)).2, Mo.get_some], pure_bind]
    rw [show (rep (nms S).length w).map (fun x : Int => (de : Int) * x - nu) = rep (nms S).length fun k => (de : Int) * w k - nu by
      unfold rep; rw [List.map_map]; rfl, Mo.run_bind]
    refine worthsof_ok (show (nms S).length ≤ 60 by omega) rfl hs hf g.full fun R hR1 hR2 => ?_
    rw [Mo.run_pure]
    have eqm : gs w b * (de : Int) = (nu : Int) * b.length := by
      rw [← h2, hnu, hde, Int.natCast_mul, Int.natCast_mul, Int.mul_assoc, Int.mul_left_comm]
    refine q _ ⟨b, R, ⟨h1, (show (1 : Int) ≤ de ∧ (de : Int) ≤ 4 by omega), (show (0 : Int) ≤ nu by omega), co, eqm, fun r hr => ?_⟩, rfl, hR1, hR2, rfl⟩
    have k := h3 r ((hrs r).mpr hr)
    refine Int.le_of_mul_le_mul_left (a := (gg : Int)) ?_ (by omega)
    have x1 : (gg : Int) * (gs w r * de) = gs w r * b.length := by rw [hde, Int.natCast_mul, Int.mul_left_comm]
    have x2 : (gg : Int) * ((nu : Int) * r.length) = T * r.length := by rw [hnu, Int.natCast_mul, Int.mul_assoc]
    rw [x1, x2]
    exact k
end
end DD
namespace DD
open PySem PySem.Spec PyProof.Rows L2 KO SX RF
theorem Lint_eq {x : Int} : P_Lint x = pure true := by unfold P_Lint; simp
theorem meangood {m : Int × Int} (h1 : 1 ≤ m.2 ∧ m.2 ≤ 4) (h2 : 0 ≤ m.1) (h3 : Nat.gcd m.1.natAbs m.2.natAbs = 1) : P_Lmeangood m = pure true := by
  have hz := sizeLine_eq
  unfold P_Lmeangood
  simp only [pure_bind, bind_assoc, map_pure, Lint_eq]
  rw [if_neg (by simp), if_neg (by simp), if_neg (by simp), pure_bind, if_neg (by simp), if_neg (by simpa using h2), if_neg (by simpa using h1.1), pure_bind, if_neg (by simpa using h1.2), Mo.rq_of (by decide), pure_bind]
  rw [Mo.lc_pure (p := fun w : Int => decide (m.1 % w = 0) && decide (m.2 % w = 0)) (g := fun w => w) (by rw [rangeL_len]; omega) (fun w hw => ?_) (fun _ _ _ => rfl), pure_bind]
  · have e : (rangeL 2 (5 - 2 : Int).toNat).filter (fun w : Int => decide (m.1 % w = 0) && decide (m.2 % w = 0)) = [] := by
      rw [List.filter_eq_nil_iff]
      intro w hw c
      have hw := rangeL_mem.mp hw
      rw [Bool.and_eq_true, decide_eq_true_eq, decide_eq_true_eq] at c
      have d1 := Int.natAbs_dvd_natAbs.mpr (Int.dvd_of_emod_eq_zero c.1)
      have d2 := Int.natAbs_dvd_natAbs.mpr (Int.dvd_of_emod_eq_zero c.2)
      have := Nat.dvd_gcd d1 d2
      rw [h3, Nat.dvd_one] at this
      omega
    rw [e, List.map_nil, Mo.rq_of ⟨⟨by simp, by simp⟩, ⟨by simp, by simp⟩⟩]
    rfl
  · have hw := rangeL_mem.mp hw
    rw [Mo.rq_of (by omega), pure_bind]
    by_cases c : m.1 % w = 0
    · rw [if_pos (decide_eq_true c), Mo.rq_of (by omega), pure_bind, decide_eq_true c, Bool.true_and]
    · rw [if_neg (by simpa using c), decide_eq_false c, Bool.false_and]
theorem wk_get {fol : List (List Int)} : ∀ {b : List Int} {i : Nat} {x y : Int}, Wk fol b → b[i]? = some x → b[i + 1]? = some y → y ∈ fl fol x
  | [], _, _, _, _, h, _ => by simp at h
  | [_], i, _, _, _, _, h => by simp at h
  | a :: c :: r, 0, x, y, w, h1, h2 => by
    cases h1
    cases h2
    exact w.1
  | a :: c :: r, i + 1, x, y, w, h1, h2 => wk_get (b := c :: r) (i := i) w.2 h1 h2
section
variable {S : List Sheet} {st ls : List Str} (g : Gd S st ls)
include g
theorem nm_isw {v : Int} (h : 0 ≤ v ∧ v < (nms S).length) : nm S v ∈ nms S ∧ isw (nm S v) := by
  have hm := List.mem_of_getElem? (nm_at h).1
  obtain ⟨s, hs, e⟩ := List.mem_map.mp hm
  exact ⟨hm, by rw [← e]; exact g.wd s hs⟩
theorem nm_idx {v : Int} (h : 0 ≤ v ∧ v < (nms S).length) : ∃ j, List.idxOf? (nm S v) (nms S) = some j ∧ (j : Int) = v := by
  obtain ⟨j, h1, h2, _⟩ := idx_some (nm_isw g h).1
  have := at_inj g.nd h2 (nm_at h).1
  exact ⟨j, h1, by omega⟩
theorem nms_ks : Eqks rS (nms S) := ⟨by rw [List.length_map]; have := g.n4; omega, fun w hw => by
  obtain ⟨s, hs, e⟩ := List.mem_map.mp hw
  exact eqk_ok (isw_ok (by rw [← e]; exact g.wd s hs))⟩
theorem fl_get {v : Int} (h : 0 ≤ v ∧ v < (nms S).length) : atI (flS S) v = some (fl (flS S) v) := by
  have hf : Fol (nms S).length (flS S) := g.fol (st := st)
  obtain ⟨f, a1, a2⟩ := atI_in (xs := flS S) (i := v) h.1 (by rw [hf.l]; exact h.2)
  rw [(fl_at hf h).1] at a2
  rw [a1, a2]
theorem ringgood_ok {b R : List Int} (hb : SR (flS S) (pl (nms S) st) b) (hR : ∀ x, x ∈ R ↔ Rch (flS S) (pl (nms S) st) x) {Q : Bool → Prop} {E : Ex → Prop} (q : Q true) : (P_Lringgood (b.map (nm S)) (nms S) (flS S) R).run Q E := by
  have hn : (nms S).length ≤ 4 := by rw [List.length_map]; exact g.n4
  have hf : Fol (nms S).length (flS S) := g.fol (st := st)
  have hs : Pls (nms S).length (pl (nms S) st) := pl_pls
  have hz := sizeLine_eq
  have hc := hb.toSP.rch hf hs
  have hr : ∀ x ∈ b, 0 ≤ x ∧ x < (nms S).length := fun x hx => (hc x hx).r hf hs
  have hl := hb.toSP.len hf hs
  have es : Eqk (rL rS) (b.map (nm S)) := eqk_oks (n := 8) (by rw [List.length_map]; omega) fun w hw => by
    obtain ⟨x, hx, rfl⟩ := List.mem_map.mp hw
    exact isw_ok (nm_isw g (hr x hx)).2
  have ri : ∀ {l : List Int}, l.length ≤ 1000 → Eqk (rL RF.rI) l := fun h => ⟨h, fun _ _ => trivial⟩
  unfold P_Lringgood
  simp only [pure_bind, bind_assoc, map_pure]
  rw [if_neg (by simp), Mo.rq_of ⟨es, eqk_nil⟩, pure_bind, if_neg (by simpa using hb.ne), Mo.run_bind]
  refine Mo.loop_inv (fun i (s : List Int) => s = b.take i) (k := 0) rfl (fun i w s hw hI => ?_) fun s hI => ?_
  · rw [Nat.zero_add] at hI ⊢
    rw [List.getElem?_map] at hw
    cases hx : b[i]? with
    | none => rw [hx] at hw; cases hw
    | some x =>
      rw [hx] at hw
      cases hw
      have hxb := List.mem_of_getElem? hx
      have hxr := hr x hxb
      have hi := (List.getElem?_eq_some_iff.mp hx).1
      obtain ⟨m1, m2⟩ := nm_isw g hxr
      obtain ⟨j, j1, j2⟩ := nm_idx g hxr
      have sl : s.length ≤ 4 := by rw [hI, List.length_take]; omega
      have done : (Mo.rq (s.length < sizeLine) x >>= fun x42 => pure (Lp.go (s ++ [x42])) : Mo (Lp (List Int) Bool)).run (Lp.is (fun s => s = b.take (i + 1)) (fun s => (Lp.brk s : Lp (List Int) Bool) |> fun o => (Lp.out (fun s43 => do
                let x52 ← Mo.get (atI s43 0)
                let x ← Mo.get (atI s43 (-1))
                let y53 ← Mo.get (atI (flS S) x)
                pure (decide (x52 ∈ y53))) (fun x => x) o).run Q E) fun a => (Lp.out (fun s43 => do
                let x52 ← Mo.get (atI s43 0)
                let x ← Mo.get (atI s43 (-1))
                let y53 ← Mo.get (atI (flS S) x)
                pure (decide (x52 ∈ y53))) (fun x => x) (Lp.ret a)).run Q E) E := by
        rw [Mo.rq_of (by omega), pure_bind, Mo.run_pure]
        show s ++ [x] = b.take (i + 1)
        rw [hI, List.take_add_one, hx]
        rfl
      rw [if_neg (by simp), decide_eq_true m1, Bool.not_true, pure_bind, if_neg (by decide), Mo.rq_of ⟨eqk_w m2, nms_ks g⟩, pure_bind, j1, Mo.get_some, pure_bind]
      simp only [j2]
      rw [if_neg (by rw [hI]; simpa using nodup_take hb.nd hx), decide_eq_true ((hR x).mpr (hc x hxb)), Bool.not_true, pure_bind, if_neg (by decide), Mo.rq_of ⟨ri (by omega), ri (by simp)⟩, Mo.calm_pure, pure_bind]
      cases i with
      | zero =>
        rw [hI, if_neg (by simp), pure_bind, if_neg (by decide), ← hI]
        exact done
      | succ i =>
        obtain ⟨y, hy⟩ : ∃ y, b[i]? = some y := ⟨_, List.getElem?_eq_getElem (by omega)⟩
        have hyr := hr y (List.mem_of_getElem? hy)
        have last : s.getLast? = some y := by
          rw [hI, List.take_add_one, hy]
          simp
        have sne : s ≠ [] := fun k => by rw [k] at last; cases last
        rw [if_pos (by simpa using sne), atI_last last, Mo.get_some, pure_bind, fl_get g hyr, Mo.get_some, pure_bind, decide_eq_true (wk_get hb.wk hy hx), Bool.not_true, pure_bind, if_neg (by decide)]
        exact done
  · rw [Nat.zero_add, List.length_map, List.take_length] at hI
    subst hI
    obtain ⟨h, t, e⟩ : ∃ h t, s = h :: t := by
      cases s with
      | nil => exact absurd rfl hb.ne
      | cons h t => exact ⟨h, t, rfl⟩
    have e0 : atI s 0 = some h := by rw [e]; exact atI_zero
    obtain ⟨y, hy⟩ : ∃ y, s.getLast? = some y := by
      cases k : s.getLast? with
      | none => rw [List.getLast?_eq_none_iff] at k; exact absurd k hb.ne
      | some y => exact ⟨y, rfl⟩
    have hyr := hr y (List.mem_of_getLast? hy)
    show (Mo.get (atI s 0) >>= _ : Mo Bool).run Q E
    rw [e0, Mo.get_some, pure_bind, atI_last hy, Mo.get_some, pure_bind, fl_get g hyr, Mo.get_some, pure_bind, decide_eq_true (hb.cl h y (by rw [e]; rfl) hy)]
    exact q
end
end DD
namespace DD
open PySem PySem.Spec PyProof.Rows L2 KO SX RF
theorem shw_len {R : List Int} {n : Nat} {f : Nat → Int} : (shw R n f).length = n := by unfold shw; rw [List.length_map, List.length_range]
theorem shw_congr {R : List Int} {n : Nat} {f f' : Nat → Int} (h : ∀ k, k < n → (k : Int) ∈ R → f k = f' k) : shw R n f = shw R n f' := by
  refine List.map_congr_left fun k hk => ?_
  by_cases c : (k : Int) ∈ R
  · rw [if_pos c, if_pos c, h k (List.mem_range.mp hk) c]
  · rw [if_neg c, if_neg c]
theorem oi_k {l : List (Option Int)} (h : l.length ≤ 1000) : Eqk (rL (rO RF.rI)) l := ⟨h, fun x _ => by cases x <;> trivial⟩
theorem oi_ok {l : List (Option Int)} (h : l.length ≤ 1000) : Enc.ok (rL (rO RF.rI)) l := ⟨h, fun x _ => by cases x <;> trivial⟩
section
variable {S : List Sheet} {st ls : List Str} (g : Gd S st ls)
include g
theorem idx_lc {w : Nat → Int} {b : List Int} (hr : ∀ x ∈ b, 0 ≤ x ∧ x < (nms S).length) (hl : b.length ≤ 1000) : Mo.lc (fun _ => pure true) (fun w25 : Str => (do
    Mo.rq (Eqk rS w25 ∧ Eqks rS (nms S)) ()
    let x ← Mo.get (List.idxOf? w25 (nms S))
    Mo.get (atI (rep (nms S).length w) ↑x) : Mo Int)) (b.map (nm S)) = pure (b.map fun v => w v.toNat) := by
  rw [Mo.lc_map (g := fun c => w ((List.idxOf? c (nms S)).getD 0)) (by rw [List.length_map, sizeLine_eq]; omega) fun c hc => ?_]
  · rw [List.map_map]
    refine congrArg pure (List.map_congr_left fun v hv => ?_)
    obtain ⟨j, j1, j2⟩ := nm_idx g (hr v hv)
    show w ((List.idxOf? (nm S v) (nms S)).getD 0) = _
    rw [j1, ← j2, Int.toNat_natCast]
    rfl
  · obtain ⟨v, hv, rfl⟩ := List.mem_map.mp hc
    obtain ⟨j, j1, j2⟩ := nm_idx g (hr v hv)
    have := hr v hv
    rw [Mo.rq_of ⟨eqk_w (nm_isw g (hr v hv)).2, nms_ks g⟩, pure_bind, j1, Mo.get_some, pure_bind, rep_at (by omega) (by omega), Mo.get_some, Int.toNat_natCast]
    rfl
theorem heavy_shw {w : Nat → Int} {h : OHeavy} (hh : Hv S st w h) {R : List Int} (hR1 : R.Pairwise (· < ·)) (hR : ∀ x, x ∈ R ↔ Rch (flS S) (pl (nms S) st) x) {m : Nat} (hm : 4 ≤ m) : h.2.2 = shw R (nms S).length (Ws (flS S) (fun k => h.1.2 * w k - h.1.1) m) := by
  have hn : (nms S).length ≤ 4 := by rw [List.length_map]; exact g.n4
  have hf : Fol (nms S).length (flS S) := g.fol (st := st)
  have hs : Pls (nms S).length (pl (nms S) st) := pl_pls
  obtain ⟨b, R', mn, e1, r1, r2, e2⟩ := hh.p
  have : R' = R := rising_eq r1 hR1 fun x => (r2 x).trans (hR x).symm
  rw [e2, this]
  refine shw_congr fun k hk c => ?_
  have := ws_still (g := fun k => h.1.2 * w k - h.1.1) hf g.full hs (fun r hr => by
    rw [gs_lin]
    have := mn.mx r hr
    have e : h.1.2 * gs w r = gs w r * h.1.2 := Int.mul_comm _ _
    omega) ((hR k).mp c) (m := m) (by omega)
  rw [Int.toNat_natCast] at this
  exact this.symm
theorem heavygood_ok {w : Nat → Int} (wr : ∀ k, 0 ≤ w k ∧ w k ≤ 9900) {h : OHeavy} (hh : Hv S st w h) {R : List Int} (hR1 : R.Pairwise (· < ·)) (hR : ∀ x, x ∈ R ↔ Rch (flS S) (pl (nms S) st) x) {Q : Bool → Prop} {E : Ex → Prop} (q : Q true) : (P_Lheavygood h (nms S) (flS S) R (rep (nms S).length w)).run Q E := by
  have hn : (nms S).length ≤ 4 := by rw [List.length_map]; exact g.n4
  have hf : Fol (nms S).length (flS S) := g.fol (st := st)
  have hs : Pls (nms S).length (pl (nms S) st) := pl_pls
  have hz := sizeLine_eq
  have s4 := heavy_shw g hh hR1 hR (m := 4) (by omega)
  have s5 := heavy_shw g hh hR1 hR (m := 5) (by omega)
  obtain ⟨b, R', mn, e1, r1, r2, e2⟩ := hh.p
  have hl := mn.rg.toSP.len hf hs
  have hr : ∀ x ∈ b, 0 ≤ x ∧ x < (nms S).length := fun x hx => (mn.rg.toSP.rch hf hs x hx).r hf hs
  have dr := mn.dr
  unfold P_Lheavygood
  simp only [pure_bind, bind_assoc, map_pure]
  rw [meangood dr mn.nn mn.co, pure_bind, if_neg (by simp), e1, Mo.run_bind, Mo.run_bind]
  refine ringgood_ok g mn.rg hR ?_
  show (Mo.lc _ _ _ >>= _ : Mo Bool).run Q E
  rw [idx_lc g hr (by omega), pure_bind, show (b.map fun v => w v.toNat).sum = gs w b from rfl, Mo.rq_of (by unfold CMul; omega), pure_bind, List.length_map, Mo.rq_of (by unfold CMul; omega), pure_bind, if_neg (by simpa using mn.eq)]
  rw [Mo.lc_map (g := fun x : Int => h.1.2 * x - h.1.1) (by rw [rep_len]; omega) fun x _ => by
      rw [Mo.rq_of (by unfold CMul; omega), pure_bind], pure_bind]
  rw [show (rep (nms S).length w).map (fun x : Int => h.1.2 * x - h.1.1) = rep (nms S).length fun k => h.1.2 * w k - h.1.1 by
      unfold rep; rw [List.map_map]; rfl, rep_len, Mo.rq_of ⟨by omega, by omega, by simp only [List.length_cons, List.length_nil]; omega⟩, pure_bind, Int.toNat_natCast, rep_const, Mo.rq_of (by decide), pure_bind, Mo.run_bind]
  refine Mo.fold_inv (fun i (s : List Int) => s = rep (nms S).length (Ws (flS S) (fun k => h.1.2 * w k - h.1.1) i)) (k := 0) rfl (fun i x s hx hI => ?_) fun s hI => ?_
  · rw [hI, Mo.run_bind]
    refine Lsweep_ok (by omega) hf g.full ?_
    show rep _ _ = rep _ _
    rw [Nat.zero_add]
    rfl
  · rw [hI, rangeL_len, Nat.zero_add, Mo.run_bind]
    refine Lsweep_ok (by omega) hf g.full ?_
    show (P_Lshown (rep (nms S).length (Ws (flS S) (fun k => h.1.2 * w k - h.1.1) 5)) R >>= _ : Mo Bool).run Q E
    rw [Lshown_eq (by omega), pure_bind, show (4 : Int).toNat = 4 from rfl, Lshown_eq (by omega), pure_bind, ← s4, ← s5]
    have k : h.2.2.length ≤ 1000 := by rw [s4, shw_len]; omega
    rw [Mo.rq_of ⟨oi_k k, oi_k k⟩, pure_bind, if_neg (by simp), Mo.rq_of (oi_ok k), pure_bind, pure_bind, Mo.rq_of (oi_ok k), pure_bind, Mo.rq_of rfl]
    exact q
end
end DD
namespace DD
open PySem PySem.Spec PyProof.Rows L2 KO SX RF
theorem mn_uq {S : List Sheet} {st : List Str} {w : Nat → Int} {b b' : List Int} {nu de nu' de' : Int} (h : Mn S st w b nu de) (k : Mn S st w b' nu' de') : nu = nu' ∧ de = de' := by
  have lb : (1 : Int) ≤ b.length := by have := List.length_pos_iff.mpr h.rg.ne; omega
  have lb' : (1 : Int) ≤ b'.length := by have := List.length_pos_iff.mpr k.rg.ne; omega
  have half : ∀ {b : List Int} {nu de nu' de' : Int}, (1 : Int) ≤ b.length → 1 ≤ de → 1 ≤ de' → gs w b * de = nu * b.length → gs w b * de' ≤ nu' * b.length → nu * de' ≤ nu' * de := by
    intro b nu de nu' de' hl hd hd' e m
    refine Int.le_of_mul_le_mul_right (a := (b.length : Int)) ?_ (by omega)
    have e1 : nu * de' * b.length = nu * b.length * de' := by rw [Int.mul_assoc, Int.mul_comm de', ← Int.mul_assoc]
    have e2 : nu' * de * b.length = nu' * b.length * de := by rw [Int.mul_assoc, Int.mul_comm de, ← Int.mul_assoc]
    have e3 : gs w b * de' * de = gs w b * de * de' := by rw [Int.mul_assoc, Int.mul_comm de', ← Int.mul_assoc]
    have := Int.mul_le_mul_of_nonneg_right m (show 0 ≤ de by omega)
    rw [e1, e2, ← e, ← e3]
    exact this
  have x1 := half lb h.dr.1 k.dr.1 h.eq (k.mx b h.rg)
  have x2 := half lb' k.dr.1 h.dr.1 k.eq (h.mx b' k.rg)
  have e : nu * de' = nu' * de := by omega
  obtain ⟨a, rfl⟩ := Int.eq_ofNat_of_zero_le h.nn
  obtain ⟨a', rfl⟩ := Int.eq_ofNat_of_zero_le k.nn
  obtain ⟨c, rfl⟩ := Int.eq_ofNat_of_zero_le (show 0 ≤ de by have := h.dr; omega)
  obtain ⟨c', rfl⟩ := Int.eq_ofNat_of_zero_le (show 0 ≤ de' by have := k.dr; omega)
  have co : Nat.Coprime a c := h.co
  have co' : Nat.Coprime a' c' := k.co
  have e : a * c' = a' * c := by exact_mod_cast e
  have d1 : c ∣ c' := co.symm.dvd_of_dvd_mul_left (by rw [e]; exact Nat.dvd_mul_left _ _)
  have d2 : c' ∣ c := co'.symm.dvd_of_dvd_mul_left (by rw [← e]; exact Nat.dvd_mul_left _ _)
  have ec := Nat.dvd_antisymm d1 d2
  subst ec
  have : 0 < c := by have := h.dr.1; omega
  rw [Nat.eq_of_mul_eq_mul_right this e]
  exact ⟨rfl, rfl⟩
structure Wt (ps : List (Str × Int)) : Prop where
  nd : (ps.map (·.1)).Nodup
  l : ps.length ≤ 9
  v : ∀ p ∈ ps, 0 ≤ p.2 ∧ p.2 ≤ 99
end DD
namespace DD
open PySem PySem.Spec PyProof.Rows L2 KO SX RF
section
variable {fol : List (List Int)} {st : List Int} {n : Nat} {w : Nat → Int}
def Up (fol : List (List Int)) (w : Nat → Int) : Nat → Nat → Int
  | 0, _ => 0
  | i + 1, k => om fol w (Up fol w i) k
theorem up_ge (hf : Fol n fol) (hF : Full n fol) : ∀ (k : Nat) (v : Int) (t : List Int), Wk fol (v :: t) → 0 ≤ v ∧ v < n → (v :: t).length = k → gs w (v :: t) ≤ Up fol w k v.toNat
  | 0, v, t, _, _, h => by simp at h
  | k + 1, v, t, wk, hv, h => by
    show _ ≤ om fol w (Up fol w k) v.toNat
    unfold om
    rw [toNat_fl hv.1, gs_cons]
    refine Int.add_le_add_left ?_ _
    cases t with
    | nil =>
      have : k = 0 := by simpa using h.symm
      subst this
      obtain ⟨u, hu⟩ := List.exists_mem_of_ne_nil _ (hF v hv)
      exact mxl_le (List.mem_map.mpr ⟨u, hu, rfl⟩)
    | cons u t =>
      have hu := (fl_at hf hv).2.r u wk.1
      exact Int.le_trans (up_ge hf hF k u t wk.2 hu (by simp only [List.length_cons] at h ⊢; omega)) (mxl_le (List.mem_map.mpr ⟨u, wk.1, rfl⟩))
theorem up_at (hf : Fol n fol) (hF : Full n fol) : ∀ (k : Nat) (v : Int), 0 ≤ v ∧ v < n → ∃ t, Wk fol (v :: t) ∧ (v :: t).length = k + 1 ∧ gs w (v :: t) = Up fol w (k + 1) v.toNat
  | 0, v, hv => by
    refine ⟨[], trivial, rfl, ?_⟩
    show _ = om fol w (Up fol w 0) v.toNat
    unfold om
    rw [toNat_fl hv.1, gs_cons]
    have hm := mxl_mem (l := (fl fol v).map fun u => Up fol w 0 u.toNat) (by simpa using hF v hv)
    obtain ⟨u, hu, hu2⟩ := List.mem_map.mp hm
    rw [← hu2]
    rfl
  | k + 1, v, hv => by
    have e : Up fol w (k + 1 + 1) v.toNat = om fol w (Up fol w (k + 1)) v.toNat := rfl
    rw [e]
    unfold om
    rw [toNat_fl hv.1]
    have hm := mxl_mem (l := (fl fol v).map fun u => Up fol w (k + 1) u.toNat) (by simpa using hF v hv)
    obtain ⟨u, hu, hu2⟩ := List.mem_map.mp hm
    rw [← hu2]
    have hur := (fl_at hf hv).2.r u hu
    obtain ⟨t, a, l, z⟩ := up_at hf hF k u hur
    exact ⟨u :: t, ⟨hu, a⟩, by rw [List.length_cons, l], by rw [gs_cons, z]⟩
structure Fw (fol : List (List Int)) (st : List Int) (i : Nat) (p : List Int) : Prop where
  wk : Wk fol p
  l : p.length = i
  hd : ∀ x, p.head? = some x → x ∈ st
structure Gt (fol : List (List Int)) (st : List Int) (w : Nat → Int) (i : Nat) (x : Int) : Prop where
  at_ : ∃ p, Fw fol st i p ∧ gs w p = x
  le : ∀ p, Fw fol st i p → gs w p ≤ x
theorem Gt.uq {i : Nat} {x y : Int} (h : Gt fol st w i x) (k : Gt fol st w i y) : x = y := by
  obtain ⟨p, p1, p2⟩ := h.at_
  obtain ⟨q, q1, q2⟩ := k.at_
  have := h.le q q1
  have := k.le p p1
  omega
theorem gt_zero : Gt fol st w 0 0 := ⟨⟨[], ⟨trivial, rfl, fun x h => by simp at h⟩, rfl⟩, fun p hp => by
  rw [List.length_eq_zero_iff.mp hp.l]
  exact Int.le_refl _⟩
theorem gt_up (hf : Fol n fol) (hF : Full n fol) (hs : Pls n st) {i : Nat} {x : Int} (h1 : x ∈ st.map fun v => Up fol w i v.toNat) (h2 : ∀ y ∈ st.map (fun v => Up fol w i v.toNat), y ≤ x) : Gt fol st w i x := by
  obtain ⟨v, hv, e⟩ := List.mem_map.mp h1
  cases i with
  | zero =>
    have : x = 0 := e.symm
    rw [this]
    exact gt_zero
  | succ i =>
    obtain ⟨t, a, l, z⟩ := up_at (w := w) hf hF i v (hs.r v hv)
    refine ⟨⟨v :: t, ⟨a, l, fun y hy => by cases hy; exact hv⟩, by rw [z]; exact e⟩, fun p hp => ?_⟩
    cases p with
    | nil => have := hp.l; simp at this
    | cons u t =>
      have hu := hp.hd u rfl
      exact Int.le_trans (up_ge hf hF _ u t hp.wk (hs.r u hu) hp.l) (h2 _ (List.mem_map.mpr ⟨u, hu, rfl⟩))
end
section
variable {S : List Sheet} {st ls : List Str} (g : Gd S st ls)
include g
theorem mostin_ok {d : List (Str × Int)} (hd : (d.map (·.1)).Nodup) {r : Int} (h0 : 0 ≤ r) (h1 : r ≤ 200) {Q : Int → Prop} {E : Ex → Prop} (q : ∀ x, Gt (flS S) (pl (nms S) st) (wts S d) r.toNat x → Q x) : (P_mostin (bk S st) d r).run Q E := by
  have hn : (nms S).length ≤ 4 := by rw [List.length_map]; exact g.n4
  have hf : Fol (nms S).length (flS S) := g.fol (st := st)
  have hs : Pls (nms S).length (pl (nms S) st) := pl_pls
  have hz := sizeLine_eq
  unfold P_mostin P_checkrounds
  simp only [pure_bind, bind_assoc, map_pure, bind_pure]
  rw [if_pos (decide_eq_true h0), pure_bind, decide_eq_true h1, if_neg (by decide), pure_bind, pageweights_eq g hd, pure_bind]
  generalize wts S d = w at *
  rw [len_eq (B := bk S st) (n := (nms S).length) rfl, pure_bind, Mo.rq_of ⟨by omega, by omega⟩, pure_bind, Mo.rq_of ⟨by omega, by omega, by simp only [List.length_cons, List.length_nil]; omega⟩, pure_bind, Int.toNat_natCast, rep_const, Mo.rq_of ⟨by omega, by omega⟩, pure_bind, Mo.run_bind]
  refine Mo.fold_inv (fun i (s : List Int) => s = rep (nms S).length (Up (flS S) w i)) (k := 0) rfl (fun i x s hx hI => ?_) fun s hI => ?_
  · rw [hI]
    refine onemore_ok (B := bk S st) (show (nms S).length ≤ 60 by omega) rfl hf g.full ?_
    show rep _ _ = rep _ _
    rw [Nat.zero_add]
    rfl
  · rw [hI, rangeL_len, Nat.zero_add]
    have sl := hs.len
    rw [show (bk S st).2.1 = pl (nms S) st from rfl, Mo.lc_map (g := fun v : Int => Up (flS S) w r.toNat v.toNat) (by omega) fun v hv => by
      rw [rep_at (hs.r v hv).1 (hs.r v hv).2, Mo.get_some], pure_bind]
    rw [Mo.rq_of (by rw [List.length_map]; exact pl_ne g g.st.1 g.st.2.2), pure_bind]
    intro i hi
    exact q i (gt_up hf g.full hs hi.1 hi.2)
end
end DD
namespace DD
open PySem PySem.Spec PyProof.Rows L2 KO SX RF
theorem frac_le {c1 c2 g1 g2 n1 n2 d1 d2 L : Int} (e : g1 * d1 = n1 * L) (m : g2 * d2 ≤ n2 * L) (k : c1 * g1 ≤ c2 * g2) (hL : 1 ≤ L) (h1 : 0 ≤ d1) (h2 : 0 ≤ d2) (hc : 0 ≤ c2) : c1 * n1 * d2 ≤ c2 * n2 * d1 := by
  refine Int.le_of_mul_le_mul_right (a := L) ?_ (by omega)
  have e1 : c1 * n1 * d2 * L = c1 * g1 * (d1 * d2) := by
    rw [show c1 * n1 * d2 * L = c1 * (n1 * L) * d2 by ac_rfl, ← e]; ac_rfl
  have e2 : c2 * n2 * d1 * L = c2 * d1 * (n2 * L) := by ac_rfl
  have k1 := Int.mul_le_mul_of_nonneg_right k (Int.mul_nonneg h1 h2)
  have k2 := Int.mul_le_mul_of_nonneg_left m (Int.mul_nonneg hc h1)
  have e3 : c2 * g2 * (d1 * d2) = c2 * d1 * (g2 * d2) := by ac_rfl
  rw [e1, e2]
  omega
section
variable {fol fol' : List (List Int)} {st st' : List Int} {n : Nat} {w w' : Nat → Int}
theorem mxl_mul {c : Int} (hc : 0 ≤ c) : ∀ {l : List Int}, mxl (l.map fun x => c * x) = c * mxl l
  | [] => (Int.mul_zero c).symm
  | [x] => rfl
  | x :: y :: r => by
    show max (c * x) (mxl ((y :: r).map fun x => c * x)) = c * max x (mxl (y :: r))
    rw [mxl_mul hc]
    by_cases h : x ≤ mxl (y :: r)
    · rw [Int.max_eq_right h, Int.max_eq_right (Int.mul_le_mul_of_nonneg_left h hc)]
    · have h' : mxl (y :: r) ≤ x := by omega
      rw [Int.max_eq_left h', Int.max_eq_left (Int.mul_le_mul_of_nonneg_left h' hc)]
theorem ws_mul {c : Int} (hc : 0 ≤ c) : ∀ (i k : Nat), Ws fol (fun k => c * w k) i k = c * Ws fol w i k
  | 0, _ => (Int.mul_zero c).symm
  | i + 1, k => by
    show max 0 (c * w k + mxl ((fl fol k).map fun u => Ws fol (fun k => c * w k) i u.toNat)) = c * max 0 (w k + mxl ((fl fol k).map fun u => Ws fol w i u.toNat))
    rw [show ((fl fol k).map fun u => Ws fol (fun k => c * w k) i u.toNat) = ((fl fol k).map fun u => Ws fol w i u.toNat).map fun x => c * x by
      rw [List.map_map]; exact List.map_congr_left fun u _ => ws_mul hc i u.toNat, mxl_mul hc, ← Int.mul_add]
    generalize w k + mxl ((fl fol k).map fun u => Ws fol w i u.toNat) = y
    by_cases h : 0 ≤ y
    · rw [Int.max_eq_right h, Int.max_eq_right (Int.mul_nonneg hc h)]
    · have h' : y ≤ 0 := by omega
      rw [Int.max_eq_left h', Int.max_eq_left (Int.mul_nonpos_of_nonneg_of_nonpos hc h'), Int.mul_zero]
theorem ws_ext (h : ∀ k, w k = w' k) (i k : Nat) : Ws fol w i k = Ws fol w' i k := by rw [funext h]
theorem gs_ext {p : List Int} (h : ∀ v ∈ p, w v.toNat = w' v.toNat) : gs w p = gs w' p := by
  unfold gs
  rw [List.map_congr_left h]
theorem gs_mono : ∀ {p : List Int}, (∀ v ∈ p, w v.toNat ≤ w' v.toNat) → gs w p ≤ gs w' p
  | [], _ => Int.le_refl _
  | v :: p, h => by
    rw [gs_cons, gs_cons]
    have := gs_mono (p := p) fun v hv => h v (List.mem_cons_of_mem _ hv)
    have := h v List.mem_cons_self
    omega
theorem gs_mul {c : Int} : ∀ {p : List Int}, gs (fun k => c * w k) p = c * gs w p
  | [] => (Int.mul_zero c).symm
  | v :: p => by rw [gs_cons, gs_cons, gs_mul, Int.mul_add]
theorem gs_plus {c : Int} : ∀ {p : List Int}, gs (fun k => w k + c) p = gs w p + c * p.length
  | [] => by simp [gs]
  | v :: p => by
    rw [gs_cons, gs_cons, gs_plus (p := p), List.length_cons, show ((p.length + 1 : Nat) : Int) = p.length + 1 by omega, Int.mul_add]
    omega
theorem fw_rch (hf : Fol n fol) (hs : Pls n st) {i : Nat} {p : List Int} (h : Fw fol st i p) : ∀ x ∈ p, Rch fol st x := wk_rch hf hs h.wk fun x hx => .base (h.hd x hx)
theorem fw_r (hf : Fol n fol) (hs : Pls n st) {i : Nat} {p : List Int} (h : Fw fol st i p) : ∀ x ∈ p, 0 ≤ x ∧ x < n := fun x hx => (fw_rch hf hs h x hx).r hf hs
structure Rn (n : Nat) (fol : List (List Int)) (st : List Int) (fol' : List (List Int)) (st' : List Int) (σ : Int → Int) : Prop where
  r : ∀ x : Int, 0 ≤ x ∧ x < n → 0 ≤ σ x ∧ σ x < n
  inj : ∀ x y : Int, 0 ≤ x ∧ x < n → 0 ≤ y ∧ y < n → σ x = σ y → x = y
  st : ∀ x ∈ st', σ x ∈ st
  fl : ∀ x : Int, 0 ≤ x ∧ x < n → ∀ y ∈ fl fol' x, σ y ∈ fl fol (σ x)
variable {σ : Int → Int}
theorem Rn.rch (h : Rn n fol st fol' st' σ) (hf : Fol n fol) (hs : Pls n st) (hf' : Fol n fol') (hs' : Pls n st') {x : Int} (k : Rch fol' st' x) : Rch fol st (σ x) := by
  induction k with
  | base k => exact .base (h.st _ k)
  | @step x y f k h0 e m ih =>
    have xr := k.r hf' hs'
    have := (fl_at hf' xr).1
    rw [e] at this
    refine fl_rch hf hs ih (h.fl x xr y ?_)
    rw [← Option.some.inj this]
    exact m
theorem Rn.wk (h : Rn n fol st fol' st' σ) : ∀ {p : List Int}, Wk fol' p → (∀ x ∈ p, 0 ≤ x ∧ x < n) → Wk fol (p.map σ)
  | [], _, _ => trivial
  | [_], _, _ => trivial
  | a :: b :: r, w, k => ⟨h.fl a (k a List.mem_cons_self) b w.1, Rn.wk h (p := b :: r) w.2 fun x hx => k x (List.mem_cons_of_mem _ hx)⟩
theorem Rn.sr (h : Rn n fol st fol' st' σ) (hf : Fol n fol) (hs : Pls n st) (hf' : Fol n fol') (hs' : Pls n st') {b : List Int} (k : SR fol' st' b) : SR fol st (b.map σ) := by
  have rc := k.toSP.rch hf' hs'
  have br : ∀ x ∈ b, 0 ≤ x ∧ x < n := fun x hx => (rc x hx).r hf' hs'
  refine ⟨⟨by simpa using k.ne, ?_, fun x hx => ?_, h.wk k.wk br⟩, fun x y hx hy => ?_⟩
  · rw [List.nodup_iff_pairwise_ne, List.pairwise_map]
    refine (List.nodup_iff_pairwise_ne.mp k.nd).imp_of_mem fun {a c} ha hc ne e => ne (h.inj a c (br a ha) (br c hc) e)
  · rw [List.head?_map] at hx
    obtain ⟨u, hu, e⟩ := Option.map_eq_some_iff.mp hx
    rw [← e]
    exact h.rch hf hs hf' hs' (k.hd u hu)
  · rw [List.head?_map] at hx
    rw [List.getLast?_map] at hy
    obtain ⟨u, hu, e⟩ := Option.map_eq_some_iff.mp hx
    obtain ⟨v, hv, e2⟩ := Option.map_eq_some_iff.mp hy
    rw [← e, ← e2]
    exact h.fl v (br v (List.mem_of_getLast? hv)) u (k.cl u v hu hv)
theorem Rn.fw (h : Rn n fol st fol' st' σ) (hf' : Fol n fol') (hs' : Pls n st') {i : Nat} {p : List Int} (k : Fw fol' st' i p) : Fw fol st i (p.map σ) := by
  refine ⟨h.wk k.wk (fw_r hf' hs' k), by rw [List.length_map, k.l], fun x hx => ?_⟩
  rw [List.head?_map] at hx
  obtain ⟨u, hu, e⟩ := Option.map_eq_some_iff.mp hx
  rw [← e]
  exact h.st u (k.hd u hu)
theorem gs_map {p : List Int} (hw : ∀ x : Int, 0 ≤ x ∧ x < n → w' x.toNat = w (σ x).toNat) (hp : ∀ x ∈ p, 0 ≤ x ∧ x < n) : gs w (p.map σ) = gs w' p := by
  unfold gs
  rw [List.map_map]
  refine congrArg List.sum (List.map_congr_left fun x hx => (hw x (hp x hx)).symm)
theorem Rn.ws (h : Rn n fol st fol' st' σ) (hf : Fol n fol) (hF : Full n fol) (hs : Pls n st) (hf' : Fol n fol') (hF' : Full n fol') (hw : ∀ x : Int, 0 ≤ x ∧ x < n → w' x.toNat = w (σ x).toNat) {x : Int} (hx : 0 ≤ x ∧ x < n) (i : Nat) : Ws fol' w' i x.toNat ≤ Ws fol w i (σ x).toNat := by
  rcases ws_at (g := w') hf' hF' i x hx with z | ⟨t, k, l, z⟩
  · rw [z]; exact ws_nn
  · have tr : ∀ y ∈ x :: t, 0 ≤ y ∧ y < n := by
      have : ∀ (p : List Int), Wk fol' p → (∀ y, p.head? = some y → 0 ≤ y ∧ y < n) → ∀ y ∈ p, 0 ≤ y ∧ y < n := fun p => by
        induction p with
        | nil => intro _ _ y hy; simp at hy
        | cons a p ih =>
          intro wk hd y hy
          have ha := hd a rfl
          rcases List.mem_cons.mp hy with e | e
          · rw [e]; exact ha
          · cases p with
            | nil => simp at e
            | cons b r => exact ih wk.2 (fun y hy => by cases hy; exact (fl_at hf' ha).2.r b wk.1) y e
      exact this _ k fun y hy => by cases hy; exact hx
    have kk := h.wk k tr
    have := ws_ge (g := w) hf hF i (σ x) (t.map σ) kk (h.r x hx) (by rw [List.length_cons, List.length_map]; exact l)
    rw [← z, ← gs_map hw tr]
    exact this
theorem Rn.gt (h : Rn n fol st fol' st' σ) (hf' : Fol n fol') (hs' : Pls n st') (hw : ∀ x : Int, 0 ≤ x ∧ x < n → w' x.toNat ≤ w (σ x).toNat) {i : Nat} {x y : Int} (a : Gt fol' st' w' i x) (b : Gt fol st w i y) : x ≤ y := by
  obtain ⟨p, p1, p2⟩ := a.at_
  have := b.le _ (h.fw hf' hs' p1)
  have e : gs w' p ≤ gs w (p.map σ) := by
    rw [gs_map (w' := fun k => w (σ (k : Int)).toNat) (n := n) (fun x hx => by rw [Int.toNat_of_nonneg hx.1]) (fw_r hf' hs' p1)]
    refine gs_mono fun v hv => ?_
    have := fw_r hf' hs' p1 v hv
    rw [Int.toNat_of_nonneg this.1]
    exact hw v this
  omega
end
end DD
namespace DD
open PySem PySem.Spec PyProof.Rows L2 KO SX RF
theorem table_eq {ps : List (Str × Int)} (h : Wt ps) : P_Ltable ps = pure ps := by
  unfold P_Ltable
  simp only [pure_bind, bind_assoc, map_pure, bind_pure]
  have := fill_eq ps [] [] (by rw [List.nil_append]; exact h.nd) (.inl rfl) (by rw [List.nil_append]; have := h.l; omega) (by simp)
  rw [List.nil_append] at this
  exact this
abbrev Seen := (Int × Int) × List (Option Int) × Int
structure Sn (S : List Sheet) (st : List Str) (w : Nat → Int) (r : Nat) (t : Seen) : Prop where
  h : ∃ h : OHeavy, Hv S st w h ∧ t.1 = h.1 ∧ t.2.1 = h.2.2
  g : Gt (flS S) (pl (nms S) st) w r t.2.2
theorem seen_ok {S : List Sheet} {st ls : List Str} (g : Gd S st ls) {ps : List (Str × Int)} (hp : Wt ps) {r : Int} (h0 : 0 ≤ r) (h1 : r ≤ 200) {Q : Option Seen → Prop} {E : Ex → Prop} (q : ∀ t, Sn S st (wts S ps) r.toNat t → Q (some t)) : (P_Lseen S st ps r).run Q E := by
  have hz := sizeLine_eq
  have hn : (nms S).length ≤ 4 := by rw [List.length_map]; exact g.n4
  have hl : (nms S).length = S.length := List.length_map _
  have hpl := hp.l
  unfold P_Lseen
  simp only [pure_bind, bind_assoc, map_pure, bind_pure]
  rw [Lhanded_eq (by omega), pure_bind, g.init, pure_bind, table_eq hp, pure_bind, Mo.run_bind]
  refine heaviest_ok g hp.nd hp.v (by omega) fun h hh => ?_
  rw [Mo.run_bind]
  refine mostin_ok g hp.nd h0 h1 fun x hx => ?_
  obtain ⟨b, R, mn, e1, r1, r2, e2⟩ := hh.p
  have len : h.2.2.length = S.length := by rw [e2, shw_len, hl]
  show (P_Lmeangood h.1 >>= _ : Mo (Option Seen)).run Q E
  rw [meangood mn.dr mn.nn mn.co, pure_bind, if_neg (by simp), if_neg (by simp), Lint_eq, pure_bind, pure_bind, if_neg (by decide), if_neg (by rw [len]; simp)]
  rw [Mo.lc_pure (p := fun _ => false) (g := fun o => o) (by omega) (fun o _ => by
    cases o with
    | none => rfl
    | some x => rw [if_pos (by rfl), Mo.get_some, pure_bind, Lint_eq]; rfl) (fun _ _ k => by cases k), pure_bind]
  rw [show (h.2.2.filter fun _ => false).map (fun o : Option Int => o) = [] by simp, Mo.rq_of ⟨oi_k (by simp), oi_k (by simp)⟩, pure_bind, if_neg (by simp), Mo.run_pure]
  exact q _ ⟨⟨h, hh, rfl, rfl⟩, hx⟩
section
variable {S : List Sheet} {st ls : List Str} (g : Gd S st ls)
include g
theorem Gd.fR : Fol (nms S).length (flS S) := g.fol (st := st)
theorem Gd.four : (nms S).length ≤ 4 := by rw [List.length_map]; exact g.n4
theorem sn_ok {w : Nat → Int} {r : Nat} {t : Seen} (h : Sn S st w r t) : t.2.1.length = (nms S).length ∧ (0 ≤ t.1.1 ∧ 1 ≤ t.1.2 ∧ t.1.2 ≤ 4) := by
  obtain ⟨h', hh, e1, e2⟩ := h.h
  obtain ⟨b, R, mn, k1, r1, r2, k2⟩ := hh.p
  rw [e1, e2, k2, shw_len]
  exact ⟨rfl, mn.nn, mn.dr⟩
theorem sn_uq {w : Nat → Int} {r : Nat} {t t' : Seen} (h : Sn S st w r t) (k : Sn S st w r t') : t = t' := by
  obtain ⟨a, a1, a2, a3⟩ := h.h
  obtain ⟨b, b1, b2, b3⟩ := k.h
  obtain ⟨_, R, m1, _, r1, r2, _⟩ := a1.p
  obtain ⟨_, _, m2, _⟩ := b1.p
  have mm : a.1 = b.1 := Prod.ext (mn_uq m1 m2).1 (mn_uq m1 m2).2
  have s1 := heavy_shw g a1 r1 r2 (m := 4) (by omega)
  have s2 := heavy_shw g b1 r1 r2 (m := 4) (by omega)
  refine Prod.ext (by rw [a2, b2, mm]) (Prod.ext (by rw [a3, b3, s1, s2, mm]) (Gt.uq h.g k.g))
theorem rn_id {ls' : List Str} : Rn (nms S).length (flS S) (pl (nms S) st) (flS S) (pl (nms S) st) fun x => x := ⟨fun _ h => h, fun _ _ _ _ h => h, fun _ h => h, fun _ _ _ h => h⟩
theorem sn_mul {w : Nat → Int} {c : Int} (hc : 1 ≤ c) {r : Nat} {t t' : Seen} (h : Sn S st w r t) (k : Sn S st (fun i => c * w i) r t') : t'.1.1 * t.1.2 = t.1.1 * c * t'.1.2 ∧ t'.2.2 = t.2.2 * c ∧ ∃ R f f', t.2.1 = shw R (nms S).length f ∧ t'.2.1 = shw R (nms S).length f' ∧ ∀ i, f' i * t.1.2 = f i * c * t'.1.2 := by
  obtain ⟨a, a1, a2, a3⟩ := h.h
  obtain ⟨b, b1, b2, b3⟩ := k.h
  obtain ⟨ra, R, m1, _, r1, r2, _⟩ := a1.p
  obtain ⟨rb, _, m2, _⟩ := b1.p
  have s1 := heavy_shw g a1 r1 r2 (m := 4) (by omega)
  have s2 := heavy_shw g b1 r1 r2 (m := 4) (by omega)
  have d1 := m1.dr
  have d2 := m2.dr
  have la : (1 : Int) ≤ ra.length := by have := List.length_pos_iff.mpr m1.rg.ne; omega
  have lb : (1 : Int) ≤ rb.length := by have := List.length_pos_iff.mpr m2.rg.ne; omega
  have x1 := frac_le (c1 := c) (c2 := 1) m1.eq (m2.mx ra m1.rg) (by rw [gs_mul]; omega) la (by omega) (by omega) (by omega)
  have x2 := frac_le (c1 := 1) (c2 := c) m2.eq (m1.mx rb m2.rg) (by rw [gs_mul]; omega) lb (by omega) (by omega) (by omega)
  have e1 : b.1.1 * a.1.2 = c * a.1.1 * b.1.2 := by rw [Int.one_mul] at x1 x2; omega
  rw [a2, b2, a3, b3]
  refine ⟨by rw [e1]; ac_rfl, ?_, R, _, _, s1, s2, fun i => ?_⟩
  · refine Gt.uq (k.g) ⟨?_, fun p hp => ?_⟩
    · obtain ⟨p, p1, p2⟩ := h.g.at_
      exact ⟨p, p1, by rw [gs_mul, p2, Int.mul_comm]⟩
    · rw [gs_mul, Int.mul_comm]
      exact Int.mul_le_mul_of_nonneg_right (h.g.le p hp) (by omega)
  · rw [Int.mul_comm, ← ws_mul (by omega)]
    rw [show Ws (flS S) (fun k => a.1.2 * w k - a.1.1) 4 i * c * b.1.2 = (c * b.1.2) * Ws (flS S) (fun k => a.1.2 * w k - a.1.1) 4 i by ac_rfl, ← ws_mul (Int.mul_nonneg (by omega) (by omega))]
    refine ws_ext (fun k => ?_) 4 i
    rw [Int.mul_sub, Int.mul_sub, show a.1.2 * b.1.1 = c * b.1.2 * a.1.1 by rw [Int.mul_comm, e1]; ac_rfl]
    rw [show a.1.2 * (b.1.2 * (c * w k)) = c * b.1.2 * (a.1.2 * w k) by ac_rfl]
end
theorem sn_le {S S' : List Sheet} {st st' ls ls' : List Str} (g : Gd S st ls) (g' : Gd S' st' ls') (hl : (nms S').length = (nms S).length) (rn : Rn (nms S).length (flS S') (pl (nms S') st') (flS S) (pl (nms S) st) fun x => x) {w w' : Nat → Int} (hw : ∀ k, w k ≤ w' k) {r : Nat} {t t' : Seen} (h : Sn S st w r t) (k : Sn S' st' w' r t') : t.1.1 * t'.1.2 ≤ t'.1.1 * t.1.2 ∧ t.2.2 ≤ t'.2.2 := by
  have hf := g.fR
  have hs : Pls (nms S).length (pl (nms S) st) := pl_pls
  have hf' := g'.fR
  have hs' : Pls (nms S').length (pl (nms S') st') := pl_pls
  rw [hl] at hf' hs'
  obtain ⟨a, a1, a2, a3⟩ := h.h
  obtain ⟨b, b1, b2, b3⟩ := k.h
  obtain ⟨ra, R, m1, _⟩ := a1.p
  obtain ⟨rb, _, m2, _⟩ := b1.p
  have d1 := m1.dr
  have d2 := m2.dr
  have la : (1 : Int) ≤ ra.length := by have := List.length_pos_iff.mpr m1.rg.ne; omega
  have sr := rn.sr hf' hs' hf hs m1.rg
  rw [List.map_id'] at sr
  have x1 := frac_le (c1 := 1) (c2 := 1) m1.eq (m2.mx ra sr) (by
    have := gs_mono (w := w) (w' := w') (p := ra) fun v _ => hw _
    omega) la (by omega) (by omega) (by omega)
  rw [Int.one_mul, Int.one_mul] at x1
  rw [a2, b2]
  exact ⟨x1, rn.gt hf hs (fun x _ => hw _) h.g k.g⟩
end DD
namespace DD
open PySem PySem.Spec PyProof.Rows L2 KO SX RF
theorem cm2 {i j : Int} (h : -1000000 ≤ j ∧ j ≤ 1000000) : CMul i j := by unfold CMul; omega
theorem scaledgood_ok {R : List Int} {n : Nat} (hn : n ≤ 4) {f f' : Nat → Int} {t t' : Seen} {c : Int} (h1 : t.2.1 = shw R n f) (h2 : t'.2.1 = shw R n f') (hc : 1 ≤ c ∧ c ≤ 100) (hd : 1 ≤ t.1.2 ∧ t.1.2 ≤ 4) (hd' : 1 ≤ t'.1.2 ∧ t'.1.2 ≤ 4) (e1 : t'.1.1 * t.1.2 = t.1.1 * c * t'.1.2) (e2 : t'.2.2 = t.2.2 * c) (e3 : ∀ i, f' i * t.1.2 = f i * c * t'.1.2) : P_Lscaledgood t (some t') c = pure true := by
  have hz := sizeLine_eq
  unfold P_Lscaledgood
  simp only [pure_bind, bind_assoc, map_pure, Mo.get_some]
  rw [if_neg (by simp), Mo.rq_of (cm2 (by omega)), pure_bind, Mo.rq_of (cm2 (by omega)), pure_bind, Mo.rq_of (cm2 (by omega)), pure_bind, pure_bind, if_neg (by simpa using e1), h1, h2, shw_len, Mo.rq_of ⟨by omega, by omega⟩, pure_bind, Int.toNat_natCast]
  rw [Mo.loop_find (g := fun _ => none) fun v hv => ?_]
  · rw [show (rangeL 0 n).findSome? (fun _ => (none : Option Bool)) = none by rw [List.findSome?_eq_none_iff]; exact fun _ _ => rfl]
    simp only [Lp.of, pure_bind, Lp.out]
    rw [Mo.rq_of (cm2 (by omega)), pure_bind, decide_eq_true e2]
  · have hv := rangeL_mem.mp hv
    have at_ : ∀ (f : Nat → Int), atI (shw R n f) v = some (if v ∈ R then some (f v.toNat) else none) := fun f => by
      obtain ⟨x, a1, a2⟩ := atI_in (xs := shw R n f) (i := v) hv.1 (by rw [shw_len]; omega)
      unfold shw at a2
      rw [List.getElem?_map, List.getElem?_range (by omega)] at a2
      rw [a1, ← Option.some.inj a2]
      show some (if ((v.toNat : Nat) : Int) ∈ R then _ else _) = _
      rw [Int.toNat_of_nonneg hv.1]
    rw [at_, at_]
    simp only [Mo.get_some, pure_bind]
    by_cases c0 : v ∈ R
    · rw [if_pos c0, if_pos c0, if_neg (by simp), pure_bind]
      simp only [Mo.get_some, pure_bind, Option.isNone_some, Bool.false_eq_true, if_false]
      rw [Mo.rq_of (cm2 (by omega)), pure_bind, Mo.rq_of (cm2 (by omega)), pure_bind, Mo.rq_of (cm2 (by omega)), pure_bind, if_neg (by simpa using e3 v.toNat)]
      rfl
    · rw [if_neg c0, if_neg c0, if_pos (by rfl), pure_bind, if_pos rfl, if_neg (by simp), pure_bind, if_neg (by simp)]
      rfl
theorem notless_ok {t t' : Seen} (hd : 1 ≤ t.1.2 ∧ t.1.2 ≤ 4) (hd' : 1 ≤ t'.1.2 ∧ t'.1.2 ≤ 4) (e1 : t.1.1 * t'.1.2 ≤ t'.1.1 * t.1.2) (e2 : t.2.2 ≤ t'.2.2) : P_Lnotless t (some t') = pure true := by
  unfold P_Lnotless
  simp only [pure_bind, bind_assoc, map_pure, Mo.get_some]
  rw [if_pos (by rfl), Mo.rq_of (cm2 (by omega)), pure_bind, Mo.rq_of (cm2 (by omega)), pure_bind, if_pos (decide_eq_true e1), pure_bind, decide_eq_true e2]
structure Iso (S : List Sheet) (st : List Str) (S' : List Sheet) (st' : List Str) (σ τ : Int → Int) : Prop where
  l : (nms S').length = (nms S).length
  a : Rn (nms S).length (flS S) (pl (nms S) st) (flS S') (pl (nms S') st') σ
  b : Rn (nms S).length (flS S') (pl (nms S') st') (flS S) (pl (nms S) st) τ
  ab : ∀ x : Int, 0 ≤ x ∧ x < (nms S).length → σ (τ x) = x
  ba : ∀ x : Int, 0 ≤ x ∧ x < (nms S).length → τ (σ x) = x
theorem iso_sn {S S' : List Sheet} {st st' ls ls' : List Str} (g : Gd S st ls) (g' : Gd S' st' ls') {σ τ : Int → Int} (h : Iso S st S' st' σ τ) {w w' : Nat → Int} {e : Int} (he : 0 ≤ e) (hw : ∀ x : Int, 0 ≤ x ∧ x < (nms S).length → w' x.toNat = w (σ x).toNat + e) {r : Nat} {t t' : Seen} (k : Sn S st w r t) (k' : Sn S' st' w' r t') : t'.1 = (t.1.1 + e * t.1.2, t.1.2) ∧ t'.2.2 = t.2.2 + e * r ∧ t'.2.1.length = (nms S).length ∧ ∀ x : Int, 0 ≤ x ∧ x < (nms S).length → t'.2.1[x.toNat]? = t.2.1[(σ x).toNat]? := by
  have hf := g.fR
  have hs : Pls (nms S).length (pl (nms S) st) := pl_pls
  have hf' := g'.fR
  have hs' : Pls (nms S').length (pl (nms S') st') := pl_pls
  have hF := g.full
  have hF' := g'.full
  rw [h.l] at hf' hs' hF'
  generalize hN : (nms S).length = N at *
  obtain ⟨o, o1, o2, o3⟩ := k.h
  obtain ⟨o', p1, p2, p3⟩ := k'.h
  obtain ⟨b, R, mn, _, r1, r2, _⟩ := o1.p
  obtain ⟨b', R', mn', _, r1', r2', _⟩ := p1.p
  have wb : ∀ x : Int, 0 ≤ x ∧ x < N → (fun k => w k + e) x.toNat = w' (τ x).toNat := fun x hx => by
    rw [hw (τ x) (h.b.r x (by rw [hN]; exact hx) |> fun q => by rw [hN] at q; exact q), h.ab x (by rw [hN]; exact hx)]
  have rb := h.b
  have ra := h.a
  rw [hN] at rb ra
  have br : ∀ x ∈ b, 0 ≤ x ∧ x < N := fun x hx => (mn.rg.toSP.rch hf hs x hx).r hf hs
  have ga : ∀ {p : List Int}, (∀ x ∈ p, 0 ≤ x ∧ x < N) → gs w' p = gs w (p.map σ) + e * p.length := fun {p} hp => by
    rw [gs_map (w' := fun k => w (σ (k : Int)).toNat) (n := N) (fun x hx => by rw [Int.toNat_of_nonneg hx.1]) hp, ← gs_plus]
    refine gs_ext fun v hv => ?_
    have := hp v hv
    rw [Int.toNat_of_nonneg this.1]
    exact hw v this
  have gb : ∀ {p : List Int}, (∀ x ∈ p, 0 ≤ x ∧ x < N) → gs w' (p.map τ) = gs w p + e * p.length := fun {p} hp => by
    rw [gs_map (w' := fun k => w k + e) wb hp, gs_plus]
  have tr : Mn S' st' w' (b.map τ) (o.1.1 + e * o.1.2) o.1.2 := by
    refine ⟨rb.sr hf' hs' hf hs mn.rg, mn.dr, ?_, ?_, ?_, fun q hq => ?_⟩
    · have := Int.mul_nonneg he (show 0 ≤ o.1.2 by have := mn.dr; omega)
      have := mn.nn
      omega
    · obtain ⟨E, rfl⟩ := Int.eq_ofNat_of_zero_le he
      obtain ⟨D, hD⟩ := Int.eq_ofNat_of_zero_le (show 0 ≤ o.1.2 by have := mn.dr; omega)
      obtain ⟨U, hU⟩ := Int.eq_ofNat_of_zero_le mn.nn
      have co := mn.co
      rw [hD, hU] at co ⊢
      rw [show (U : Int) + (E : Int) * (D : Int) = ((U + E * D : Nat) : Int) by rw [Int.natCast_add, Int.natCast_mul], Int.natAbs_natCast, Int.natAbs_natCast]
      rw [Int.natAbs_natCast, Int.natAbs_natCast] at co
      rw [Nat.gcd_comm, Nat.add_comm, Nat.gcd_mul_right_add_right, Nat.gcd_comm]
      exact co
    · have := mn.eq
      rw [gb br, List.length_map, Int.add_mul, Int.add_mul, this]
      rw [show e * (b.length : Int) * o.1.2 = e * o.1.2 * (b.length : Int) by ac_rfl]
    · have qr : ∀ x ∈ q, 0 ≤ x ∧ x < N := fun x hx => (hq.toSP.rch hf' hs' x hx).r hf' hs'
      have := mn.mx _ (ra.sr hf hs hf' hs' hq)
      rw [List.length_map] at this
      rw [ga qr, Int.add_mul, Int.add_mul, show e * (q.length : Int) * o.1.2 = e * o.1.2 * (q.length : Int) by ac_rfl]
      omega
  have mm := mn_uq mn' tr
  have s1 := heavy_shw g o1 r1 r2 (m := 4) (by omega)
  have s2 := heavy_shw g' p1 r1' r2' (m := 4) (by omega)
  rw [h.l, hN] at s2
  rw [hN] at s1
  have tl : t'.2.1.length = N := by rw [p3, s2, shw_len]
  refine ⟨by rw [p2, o2]; exact Prod.ext mm.1 mm.2, ?_, tl, fun x hx => ?_⟩
  · refine Gt.uq k'.g ⟨?_, fun p hp => ?_⟩
    · obtain ⟨p, q1, q2⟩ := k.g.at_
      exact ⟨p.map τ, rb.fw hf hs q1, by rw [gb (fw_r hf hs q1), q2, q1.l]⟩
    · rw [ga (fw_r hf' hs' hp), hp.l]
      have := k.g.le _ (ra.fw hf' hs' hp)
      omega
  · have sx := ra.r x hx
    rw [p3, o3, s1, s2]
    unfold shw
    rw [List.getElem?_map, List.getElem?_map, List.getElem?_range (by omega), List.getElem?_range (by omega)]
    show some (if ((x.toNat : Nat) : Int) ∈ R' then some (Ws (flS S') (fun k => o'.1.2 * w' k - o'.1.1) 4 x.toNat) else none) = some (if (((σ x).toNat : Nat) : Int) ∈ R then some (Ws (flS S) (fun k => o.1.2 * w k - o.1.1) 4 (σ x).toNat) else none)
    rw [Int.toNat_of_nonneg hx.1, Int.toNat_of_nonneg sx.1]
    have iff : x ∈ R' ↔ σ x ∈ R := by
      rw [r2', r2]
      constructor
      · exact ra.rch hf hs hf' hs'
      · intro q
        have := rb.rch hf' hs' hf hs q
        rwa [h.ba x (by rw [hN]; exact hx)] at this
    have wx : ∀ y : Int, 0 ≤ y ∧ y < N → (fun k => o'.1.2 * w' k - o'.1.1) y.toNat = (fun k => o.1.2 * w k - o.1.1) (σ y).toNat := fun y hy => by
      show o'.1.2 * w' y.toNat - o'.1.1 = o.1.2 * w (σ y).toNat - o.1.1
      rw [mm.1, mm.2, hw y hy, Int.mul_add, Int.mul_comm e]
      omega
    have wy : ∀ y : Int, 0 ≤ y ∧ y < N → (fun k => o.1.2 * w k - o.1.1) y.toNat = (fun k => o'.1.2 * w' k - o'.1.1) (τ y).toNat := fun y hy => by
      rw [wx (τ y) (rb.r y hy), h.ab y (by rw [hN]; exact hy)]
    have l1 := ra.ws (w' := fun k => o'.1.2 * w' k - o'.1.1) (w := fun k => o.1.2 * w k - o.1.1) hf hF hs hf' hF' wx hx 4
    have l2 := rb.ws (w' := fun k => o.1.2 * w k - o.1.1) (w := fun k => o'.1.2 * w' k - o'.1.1) hf' hF' hs' hf hF wy sx 4
    rw [h.ba x (by rw [hN]; exact hx)] at l2
    by_cases c : x ∈ R'
    · rw [if_pos c, if_pos (iff.mp c), Int.le_antisymm l1 l2]
    · rw [if_neg c, if_neg fun q => c (iff.mpr q)]
end DD
namespace DD
open PySem PySem.Spec PyProof.Rows L2 KO SX RF
theorem pw_cons {p : Str × Int} {d : List (Str × Int)} {l : List Str} : pw (p :: d) l = (if p.1 ∈ l then p.2 else 0) + pw d l := by
  unfold pw
  rw [List.filter_cons]
  by_cases c : p.1 ∈ l
  · rw [decide_eq_true c, if_pos rfl, if_pos c, List.map_cons, List.sum_cons]
  · rw [decide_eq_false c, if_neg (by decide), if_neg c]; omega
theorem pw_mul {c : Int} {l : List Str} : ∀ {d : List (Str × Int)}, (∀ p ∈ d, 0 ≤ p.2) → pw ((d.filter fun p => decide (0 < p.2)).map fun p => (p.1, p.2 * c)) l = c * pw d l
  | [], _ => (Int.mul_zero c).symm
  | p :: d, h => by
    have ih := pw_mul (c := c) (l := l) (d := d) fun q hq => h q (List.mem_cons_of_mem _ hq)
    have hp := h p List.mem_cons_self
    rw [pw_cons, Int.mul_add, ← ih, List.filter_cons]
    by_cases k : 0 < p.2
    · rw [decide_eq_true k, if_pos rfl, List.map_cons, pw_cons]
      show (if p.1 ∈ l then p.2 * c else 0) + _ = c * (if p.1 ∈ l then p.2 else 0) + _
      by_cases m : p.1 ∈ l
      · rw [if_pos m, if_pos m, Int.mul_comm]
      · rw [if_neg m, if_neg m, Int.mul_zero]
    · rw [decide_eq_false k, if_neg (by decide), show p.2 = 0 by omega]
      have : c * (if p.1 ∈ l then (0 : Int) else 0) = 0 := by split <;> exact Int.mul_zero c
      rw [this, Int.zero_add]
theorem pw_mono {l : List Str} : ∀ {d d' : List (Str × Int)}, d'.length = d.length → (∀ (i : Nat) p p', d[i]? = some p → d'[i]? = some p' → p'.1 = p.1 ∧ p.2 ≤ p'.2) → pw d l ≤ pw d' l
  | [], [], _, _ => Int.le_refl _
  | [], _ :: _, h, _ => by simp at h
  | _ :: _, [], h, _ => by simp at h
  | p :: d, p' :: d', h, k => by
    have ih := pw_mono (l := l) (d := d) (d' := d') (by simpa using h) fun i a b ha hb => k (i + 1) a b ha hb
    obtain ⟨k1, k2⟩ := k 0 p p' rfl rfl
    rw [pw_cons, pw_cons, k1]
    by_cases c : p.1 ∈ l
    · rw [if_pos c, if_pos c]; omega
    · rw [if_neg c, if_neg c]; omega
theorem pw_longer {z : Str} {x : Int} {l : List Str} {a : Nat} : ∀ {d : List (Str × Int)}, z ∉ d.map (·.1) → pw (d ++ [(z, x)]) (l.take a ++ [z] ++ l.drop a) = pw d l + x
  | [], _ => by
    rw [List.nil_append, pw_cons, if_pos (by simp)]
    simp [pw]
  | p :: d, h => by
    rw [List.map_cons, List.mem_cons, not_or] at h
    rw [List.cons_append, pw_cons, pw_cons, pw_longer h.2]
    have : p.1 ∈ l.take a ++ [z] ++ l.drop a ↔ p.1 ∈ l := by
      rw [List.mem_append, List.mem_append, List.mem_singleton]
      conv => rhs; rw [← List.take_append_drop a l, List.mem_append]
      constructor
      · rintro ((k | k) | k)
        · exact .inl k
        · exact absurd k.symm h.1
        · exact .inr k
      · rintro (k | k)
        · exact .inl (.inl k)
        · exact .inr k
    by_cases c : p.1 ∈ l
    · rw [if_pos c, if_pos (this.mpr c)]; omega
    · rw [if_neg c, if_neg fun k => c (this.mp k)]; omega
structure Sim (P : List Str → List Str → Prop) (S S' : List Sheet) : Prop where
  l : S'.length = S.length
  e : ∀ (i : Nat) s, S[i]? = some s → ∃ l, S'[i]? = some (s.1, l, s.2.2) ∧ P s.2.1 l
section
variable {P : List Str → List Str → Prop} {S S' : List Sheet}
theorem Sim.back (h : Sim P S S') {i : Nat} {s' : Sheet} (hs : S'[i]? = some s') : ∃ s l, S[i]? = some s ∧ s' = (s.1, l, s.2.2) ∧ P s.2.1 l := by
  have hi := (List.getElem?_eq_some_iff.mp hs).1
  have e : S[i]? = some (S[i]'(by rw [← h.l]; exact hi)) := List.getElem?_eq_getElem _
  obtain ⟨l, e1, e2⟩ := h.e i _ e
  rw [hs] at e1
  exact ⟨_, l, e, Option.some.inj e1, e2⟩
theorem Sim.mem (h : Sim P S S') {s' : Sheet} (hs : s' ∈ S') : ∃ s ∈ S, ∃ l, s' = (s.1, l, s.2.2) ∧ P s.2.1 l := by
  obtain ⟨i, hi, e⟩ := List.getElem_of_mem hs
  obtain ⟨s, l, k1, k2, k3⟩ := h.back (i := i) (s' := s') (by rw [List.getElem?_eq_getElem hi, e])
  exact ⟨s, List.mem_of_getElem? k1, l, k2, k3⟩
theorem Sim.map {α : Type} {f : Sheet → α} (h : Sim P S S') (hf : ∀ (s : Sheet) l, f (s.1, l, s.2.2) = f s) : S'.map f = S.map f := by
  refine List.ext_getElem? fun i => ?_
  rw [List.getElem?_map, List.getElem?_map]
  cases e : S[i]? with
  | none =>
    rw [List.getElem?_eq_none_iff] at e
    rw [List.getElem?_eq_none (by rw [h.l]; exact e)]
  | some s =>
    obtain ⟨l, e1, _⟩ := h.e i s e
    rw [e1]
    show some _ = some _
    rw [hf]
theorem Sim.nms (h : Sim P S S') : nms S' = nms S := h.map fun _ _ => rfl
theorem Sim.fl (h : Sim P S S') : flS S' = flS S := by
  unfold flS
  rw [h.nms]
  exact h.map fun _ _ => rfl
theorem Sim.gd {st ls : List Str} (h : Sim P S S') (g : Gd S st ls) (hP : ∀ s ∈ S, ∀ l, P s.2.1 l → l.length ≤ 8 ∧ l.Nodup ∧ ∀ w ∈ l, isw w) : Gd S' st ls := by
  have e : S'.map (·.1) = S.map (·.1) := h.nms
  refine ⟨by rw [h.l]; exact g.n1, by rw [h.l]; exact g.n4, by rw [e]; exact g.nd, fun s' hs => ?_, fun s' hs => ?_, fun s' hs => ?_, by rw [e]; exact g.st, g.lu, g.ls⟩
  · obtain ⟨s, k1, l, k2, _⟩ := h.mem hs
    rw [k2]
    exact g.wd s k1
  · obtain ⟨s, k1, l, k2, k3⟩ := h.mem hs
    rw [k2]
    exact hP s k1 l k3
  · obtain ⟨s, k1, l, k2, _⟩ := h.mem hs
    rw [k2, e]
    exact g.fo s k1
end
end DD
namespace DD
open PySem PySem.Spec PyProof.Rows L2 KO SX RF
theorem rangeL_nodup {n : Nat} : (rangeL 0 n).Nodup := List.nodup_iff_pairwise_ne.mpr (rangeL_lt.imp fun {a b} h => by omega)
theorem Lperm_ok {n : Nat} (hn : n ≤ 60) {Q : List Int → Prop} {E : Ex → Prop} (q : ∀ p, p.Perm (rangeL 0 n) → Q p) : (P_Lperm n).run Q E := by
  have hz := sizeLine_eq
  unfold P_Lperm
  simp only [pure_bind, bind_assoc, map_pure]
  rw [Mo.rq_of ⟨by omega, by omega⟩, pure_bind, Mo.rq_of ⟨by omega, by omega⟩, pure_bind, Int.toNat_natCast, Mo.run_bind]
  refine Mo.fold_inv (fun k (s : List Int × List Int) => s.1.length = k ∧ (s.1 ++ s.2).Perm (rangeL 0 n)) (k := 0) ⟨rfl, List.Perm.refl _⟩ (fun i x s hx hs => ?_) fun s hs => ?_
  · obtain ⟨hi, hp⟩ := hs
    have hb := (range_get hx).1
    have hlen := hp.length_eq
    rw [List.length_append, rangeL_len] at hlen
    rw [Mo.run_bind, Mo.run_take]
    refine ⟨by omega, fun a ha => ?_⟩
    obtain ⟨w, e1, e2⟩ := atI_in (xs := s.2) ha.1 ha.2
    have l1 : (cutL s.2 none (some a)).length ≤ s.2.length := by rw [cut_to _ ha.1, List.length_take]; omega
    have l2 : (cutL s.2 (some (a + 1)) none).length ≤ s.2.length := by rw [cut_from _ (by omega), List.length_drop]; omega
    rw [e1, Mo.get_some, pure_bind, Mo.rq_of (by omega), pure_bind, Mo.rq_of (by omega), pure_bind, Mo.run_pure]
    refine ⟨by show (s.1 ++ [w]).length = _; rw [List.length_append, hi]; rfl, ?_⟩
    show ((s.1 ++ [w]) ++ (cutL s.2 none (some a) ++ cutL s.2 (some (a + 1)) none)).Perm _
    refine List.Perm.trans ?_ hp
    rw [cut_to _ ha.1, cut_from _ (by omega), show (a + 1).toNat = a.toNat + 1 by omega]
    generalize a.toNat = m at e2
    rw [List.append_assoc]
    refine List.Perm.append_left _ ?_
    have e3 : s.2 = s.2.take m ++ w :: s.2.drop (m + 1) := by
      have hlt := (List.getElem?_eq_some_iff.mp e2)
      obtain ⟨k1, k2⟩ := hlt
      rw [← k2, List.getElem_cons_drop, List.take_append_drop]
    refine List.Perm.trans ?_ (List.Perm.of_eq e3.symm)
    show (w :: (s.2.take m ++ s.2.drop (m + 1))).Perm _
    exact List.perm_middle.symm
  · obtain ⟨hi, hp⟩ := hs
    rw [rangeL_len] at hi
    have hlen := hp.length_eq
    rw [List.length_append, rangeL_len] at hlen
    have : s.2 = [] := List.length_eq_zero_iff.mp (by omega)
    rw [this, List.append_nil] at hp
    exact q s.1 hp
theorem Gd.perm {S S' : List Sheet} {st ls : List Str} (g : Gd S st ls) (h : S'.Perm S) : Gd S' st ls := by
  have hm : ∀ s, s ∈ S' → s ∈ S := fun s hs => h.mem_iff.mp hs
  have hp : (S'.map (·.1)).Perm (S.map (·.1)) := h.map _
  refine ⟨by rw [h.length_eq]; exact g.n1, by rw [h.length_eq]; exact g.n4, hp.nodup_iff.mpr g.nd, fun s hs => g.wd s (hm s hs), fun s hs => g.ln s (hm s hs), fun s hs => ?_, ?_, g.lu, g.ls⟩
  · obtain ⟨a, b, c⟩ := g.fo s (hm s hs)
    exact ⟨a, b, fun w hw => hp.mem_iff.mpr (c w hw)⟩
  · obtain ⟨a, b, c⟩ := g.st
    exact ⟨a, b, fun w hw => hp.mem_iff.mpr (c w hw)⟩
def shf (S : List Sheet) (v : Int) : Sheet := S.getD v.toNat ("", [], [])
theorem shf_at {S : List Sheet} {v : Int} (h : 0 ≤ v ∧ v < S.length) : S[v.toNat]? = some (shf S v) ∧ atI S v = some (shf S v) := by
  have e : S[v.toNat]? = some (shf S v) := by
    unfold shf
    rw [List.getD_eq_getElem?_getD, List.getElem?_eq_getElem (by omega)]
    rfl
  obtain ⟨x, a1, a2⟩ := atI_in (xs := S) (i := v) h.1 h.2
  rw [e] at a2
  exact ⟨e, by rw [a1, a2]⟩
theorem shf_all {S : List Sheet} : (rangeL 0 S.length).map (shf S) = S := by
  refine List.ext_getElem? fun i => ?_
  rw [List.getElem?_map]
  unfold rangeL
  rw [List.getElem?_map]
  by_cases hi : i < S.length
  · rw [List.getElem?_range hi]
    have := (shf_at (S := S) (v := (i : Int)) ⟨by omega, by omega⟩).1
    rw [Int.toNat_natCast] at this
    rw [this, ← this]
    simp [this]
  · rw [List.getElem?_eq_none (by simpa using hi), List.getElem?_eq_none (by omega)]
    rfl
section
variable {S : List Sheet} {st ls : List Str} (g : Gd S st ls) {p : List Int} (hp : p.Perm (rangeL 0 S.length))
noncomputable def inv (p : List Int) (y : Int) : Int := by
  classical
  exact if h : ∃ j : Nat, p[j]? = some y then (h.choose : Int) else 0
def sig (p : List Int) (x : Int) : Int := p.getD x.toNat 0
include hp
theorem sig_at {x : Int} (h : 0 ≤ x ∧ x < S.length) : p[x.toNat]? = some (sig p x) ∧ (0 ≤ sig p x ∧ sig p x < S.length) := by
  have hl := hp.length_eq
  rw [rangeL_len] at hl
  have e : p[x.toNat]? = some (sig p x) := by
    unfold sig
    rw [List.getD_eq_getElem?_getD, List.getElem?_eq_getElem (by omega)]
    rfl
  have := rangeL_mem.mp (hp.mem_iff.mp (List.mem_of_getElem? e))
  exact ⟨e, this.1, by omega⟩
theorem inv_at {y : Int} (h : 0 ≤ y ∧ y < S.length) : (0 ≤ inv p y ∧ inv p y < S.length) ∧ sig p (inv p y) = y := by
  have hl := hp.length_eq
  rw [rangeL_len] at hl
  have hm : y ∈ p := hp.mem_iff.mpr (rangeL_mem.mpr ⟨h.1, by omega⟩)
  have ex : ∃ j : Nat, p[j]? = some y := by
    obtain ⟨j, hj, e⟩ := List.getElem_of_mem hm
    exact ⟨j, by rw [List.getElem?_eq_getElem hj, e]⟩
  have e : inv p y = (ex.choose : Int) := by
    unfold inv
    exact dif_pos ex
  have sp := ex.choose_spec
  have lt := (List.getElem?_eq_some_iff.mp sp).1
  rw [e]
  refine ⟨by omega, ?_⟩
  unfold sig
  rw [Int.toNat_natCast, List.getD_eq_getElem?_getD, sp]
  rfl
theorem sig_inj {x y : Int} (hx : 0 ≤ x ∧ x < S.length) (hy : 0 ≤ y ∧ y < S.length) (e : sig p x = sig p y) : x = y := by
  have nd : p.Nodup := hp.nodup_iff.mpr rangeL_nodup
  have h1 := (sig_at hp hx).1
  have h2 := (sig_at hp hy).1
  rw [← e] at h2
  have := (List.getElem?_inj (List.getElem?_eq_some_iff.mp h1).1 nd).mp (h1.trans h2.symm)
  omega
theorem perm_at {x : Int} (h : 0 ≤ x ∧ x < S.length) : (p.map (shf S))[x.toNat]? = some (shf S (sig p x)) := by
  rw [List.getElem?_map, (sig_at hp h).1]
  rfl
theorem perm_perm : (p.map (shf S)).Perm S := (hp.map (shf S)).trans (List.Perm.of_eq shf_all)
theorem perm_len : (p.map (shf S)).length = S.length := (perm_perm hp).length_eq
theorem perm_pl {ch : List Str} {x : Int} (h : 0 ≤ x ∧ x < S.length) : x ∈ pl (nms (p.map (shf S))) ch ↔ sig p x ∈ pl (nms S) ch := by
  have a := (sig_at hp h).2
  have e1 : (nms (p.map (shf S)))[x.toNat]? = some (shf S (sig p x)).1 := by
    show ((p.map (shf S)).map (·.1))[x.toNat]? = _
    rw [List.getElem?_map, perm_at hp h]
    rfl
  have e2 : (nms S)[(sig p x).toNat]? = some (shf S (sig p x)).1 := by
    show (S.map (·.1))[(sig p x).toNat]? = _
    rw [List.getElem?_map, (shf_at a).1]
    rfl
  rw [pl_mem, pl_mem, e1, e2]
  constructor
  · rintro ⟨_, n, k⟩
    exact ⟨a.1, n, k⟩
  · rintro ⟨_, n, k⟩
    exact ⟨h.1, n, k⟩
theorem perm_fl {x y : Int} (hx : 0 ≤ x ∧ x < S.length) (hy : 0 ≤ y ∧ y < S.length) : y ∈ fl (flS (p.map (shf S))) x ↔ sig p y ∈ fl (flS S) (sig p x) := by
  have a := (sig_at hp hx).2
  have e1 : fl (flS (p.map (shf S))) x = pl (nms (p.map (shf S))) (shf S (sig p x)).2.2 := by
    unfold fl flS
    rw [List.getD_eq_getElem?_getD, List.getElem?_map, perm_at hp hx]
    rfl
  have e2 : fl (flS S) (sig p x) = pl (nms S) (shf S (sig p x)).2.2 := by
    unfold fl flS
    rw [List.getD_eq_getElem?_getD, List.getElem?_map, (shf_at a).1]
    rfl
  rw [e1, e2]
  exact perm_pl hp hy
theorem perm_wts {d : List (Str × Int)} {x : Int} (h : 0 ≤ x ∧ x < S.length) : wts (p.map (shf S)) d x.toNat = wts S d (sig p x).toNat := by
  have a := (sig_at hp h).2
  unfold wts
  rw [lns_at (perm_at hp h), lns_at (shf_at a).1]
include g
theorem perm_iso : Iso S st (p.map (shf S)) st (sig p) (inv p) := by
  have hl : (nms S).length = S.length := List.length_map _
  have hl' : (nms (p.map (shf S))).length = S.length := by
    show ((p.map (shf S)).map _).length = _
    rw [List.length_map, perm_len hp]
  have g' := g.perm (perm_perm hp)
  have hf := g.fR
  have hf' := g'.fR
  have plr : ∀ {ch : List Str} {y : Int}, y ∈ pl (nms S) ch → 0 ≤ y ∧ y < S.length := fun h => by
    have := pl_pls.r _ h
    omega
  have plr' : ∀ {ch : List Str} {y : Int}, y ∈ pl (nms (p.map (shf S))) ch → 0 ≤ y ∧ y < S.length := fun h => by
    have := pl_pls.r _ h
    omega
  refine ⟨by rw [hl, hl'], ⟨fun x hx => ?_, fun x y hx hy e => ?_, fun x hx => ?_, fun x hx y hy => ?_⟩, ⟨fun x hx => ?_, fun x y hx hy e => ?_, fun x hx => ?_, fun x hx y hy => ?_⟩, fun x hx => ?_, fun x hx => ?_⟩
  · rw [hl] at hx ⊢; exact (sig_at hp hx).2
  · rw [hl] at hx hy; exact sig_inj hp hx hy e
  · exact (perm_pl hp (plr' hx)).mp hx
  · rw [hl] at hx
    have yr := (fl_at hf' (v := x) (by rw [hl']; exact hx)).2.r y hy
    rw [hl'] at yr
    exact (perm_fl hp hx yr).mp hy
  · rw [hl] at hx ⊢; exact (inv_at hp hx).1
  · rw [hl] at hx hy
    rw [← (inv_at hp hx).2, ← (inv_at hp hy).2, e]
  · have k := inv_at hp (plr hx)
    rw [perm_pl hp k.1, k.2]
    exact hx
  · rw [hl] at hx
    have yr := (fl_at hf (v := x) (by rw [hl]; exact hx)).2.r y hy
    rw [hl] at yr
    have k1 := inv_at hp hx
    have k2 := inv_at hp yr
    rw [perm_fl hp k1.1 k2.1, k1.2, k2.2]
    exact hy
  · rw [hl] at hx; exact (inv_at hp hx).2
  · rw [hl] at hx
    have a := (sig_at hp hx).2
    have k := inv_at hp a
    exact sig_inj hp k.1 hx k.2
end
end DD
namespace DD
open PySem PySem.Spec PyProof.Rows L2 KO SX RF
theorem keys_of {α β : Type} {f : α → Str} {k : β → Str} {xs : List α} {ys : List β} (hl : ys.length = xs.length) (h : ∀ (i : Nat) x y, xs[i]? = some x → ys[i]? = some y → k y = f x) : ys.map k = xs.map f := by
  refine List.ext_getElem? fun i => ?_
  rw [List.getElem?_map, List.getElem?_map]
  cases e1 : xs[i]? with
  | none =>
    rw [List.getElem?_eq_none_iff] at e1
    rw [List.getElem?_eq_none (by omega)]
    rfl
  | some p =>
    have hi := (List.getElem?_eq_some_iff.mp e1).1
    have e2 : ys[i]? = some ys[i] := List.getElem?_eq_getElem (by omega)
    rw [e2]
    show some (k ys[i]) = some (f p)
    rw [h i p _ e1 e2]
theorem pair_of {α β : Type} {xs : List α} {ys : List β} (hl : ys.length = xs.length) {y : β} (hy : y ∈ ys) : ∃ (i : Nat) (x : α), xs[i]? = some x ∧ ys[i]? = some y := by
  obtain ⟨i, hi, e⟩ := List.getElem_of_mem hy
  exact ⟨i, xs[i], List.getElem?_eq_getElem (by omega), by rw [← e]; exact List.getElem?_eq_getElem hi⟩
theorem with_eq {ws : List Str} {w : Str} (h : ws.length ≤ 1000) : P_Lwith ws w = pure (if w ∈ ws then ws else ws ++ [w]) := by
  unfold P_Lwith
  simp only [pure_bind, bind_assoc, map_pure, bind_pure]
  by_cases c : w ∈ ws
  · rw [if_pos (decide_eq_true c), if_pos c]
  · rw [if_neg (by simpa using c), if_neg c, Mo.rq_of (by rw [sizeLine_eq, List.length_singleton]; omega)]
theorem with_in {ws ns : List Str} {w : Str} (hd : ws.Nodup) (hs : ∀ x ∈ ws, x ∈ ns) (hw : w ∈ ns) : (if w ∈ ws then ws else ws ++ [w]).Nodup ∧ (∀ x ∈ (if w ∈ ws then ws else ws ++ [w]), x ∈ ns) ∧ (∀ x ∈ ws, x ∈ (if w ∈ ws then ws else ws ++ [w])) := by
  by_cases c : w ∈ ws
  · rw [if_pos c]
    exact ⟨hd, hs, fun _ h => h⟩
  · rw [if_neg c]
    refine ⟨?_, fun x hx => ?_, fun x hx => List.mem_append_left _ hx⟩
    · rw [List.nodup_append]
      exact ⟨hd, by simp, fun a ha b hb e => c (by rw [List.mem_singleton] at hb; rw [← hb, ← e]; exact ha)⟩
    · rcases List.mem_append.mp hx with k | k
      · exact hs x k
      · rw [List.mem_singleton.mp k]; exact hw
theorem pl_mono {names a b : List Str} (h : ∀ x ∈ a, x ∈ b) {v : Int} (k : v ∈ pl names a) : v ∈ pl names b := by
  obtain ⟨k1, n, k2, k3⟩ := pl_mem.mp k
  exact pl_mem.mpr ⟨k1, n, k2, h n k3⟩
structure Wid (S S' : List Sheet) : Prop where
  l : S'.length = S.length
  e : ∀ (i : Nat) s s', S[i]? = some s → S'[i]? = some s' → s'.1 = s.1 ∧ s'.2.1 = s.2.1 ∧ s'.2.2.Nodup ∧ (∀ w ∈ s'.2.2, w ∈ nms S) ∧ ∀ w ∈ s.2.2, w ∈ s'.2.2
section
variable {S S' : List Sheet} {st ls : List Str}
theorem Wid.nms (h : Wid S S') : nms S' = nms S := keys_of (f := fun s : Sheet => s.1) (k := fun s : Sheet => s.1) h.l fun i x y a b => (h.e i x y a b).1
theorem Wid.gd (h : Wid S S') (g : Gd S st ls) {st' : List Str} (h1 : st'.Nodup) (h2 : ∀ w ∈ st', w ∈ DD.nms S) (h3 : ∀ w ∈ st, w ∈ st') : Gd S' st' ls := by
  have e : S'.map (·.1) = S.map (·.1) := h.nms
  refine ⟨by rw [h.l]; exact g.n1, by rw [h.l]; exact g.n4, by rw [e]; exact g.nd, fun s' hs => ?_, fun s' hs => ?_, fun s' hs => ?_, ?_, g.lu, g.ls⟩
  · obtain ⟨i, s, a, b⟩ := pair_of h.l hs
    rw [(h.e i s s' a b).1]
    exact g.wd s (List.mem_of_getElem? a)
  · obtain ⟨i, s, a, b⟩ := pair_of h.l hs
    rw [(h.e i s s' a b).2.1]
    exact g.ln s (List.mem_of_getElem? a)
  · obtain ⟨i, s, a, b⟩ := pair_of h.l hs
    obtain ⟨_, _, k1, k2, k3⟩ := h.e i s s' a b
    have := g.fo s (List.mem_of_getElem? a)
    obtain ⟨w, hw⟩ := List.exists_mem_of_ne_nil _ (List.length_pos_iff.mp this.1)
    exact ⟨List.length_pos_iff.mpr (List.ne_nil_of_mem (k3 w hw)), k1, by rw [e]; exact k2⟩
  · obtain ⟨w, hw⟩ := List.exists_mem_of_ne_nil _ (List.length_pos_iff.mp g.st.1)
    exact ⟨List.length_pos_iff.mpr (List.ne_nil_of_mem (h3 w hw)), h1, by rw [e]; exact h2⟩
theorem Wid.rn (h : Wid S S') {st' : List Str} (h3 : ∀ w ∈ st, w ∈ st') : Rn (DD.nms S).length (flS S') (pl (DD.nms S') st') (flS S) (pl (DD.nms S) st) fun x => x := by
  have hl : (DD.nms S).length = S.length := List.length_map _
  refine ⟨fun _ h => h, fun _ _ _ _ h => h, fun x hx => ?_, fun x hx y hy => ?_⟩
  · rw [h.nms]
    exact pl_mono h3 hx
  · have a : S[x.toNat]? = some (S[x.toNat]'(by omega)) := List.getElem?_eq_getElem _
    have b : S'[x.toNat]? = some (S'[x.toNat]'(by rw [h.l]; omega)) := List.getElem?_eq_getElem _
    have k := (h.e _ _ _ a b).2.2.2.2
    have e1 : fl (flS S) x = pl (DD.nms S) (S[x.toNat]'(by omega)).2.2 := by
      unfold fl flS
      rw [List.getD_eq_getElem?_getD, List.getElem?_map, a]
      rfl
    have e2 : fl (flS S') x = pl (DD.nms S') (S'[x.toNat]'(by rw [h.l]; omega)).2.2 := by
      unfold fl flS
      rw [List.getD_eq_getElem?_getD, List.getElem?_map, b]
      rfl
    rw [e1] at hy
    rw [e2, h.nms]
    exact pl_mono k hy
theorem Wid.wts (h : Wid S S') {d : List (Str × Int)} : wts S' d = wts S d := by
  have : S'.map (fun s : Sheet => s.2.1) = S.map (fun s : Sheet => s.2.1) := by
    refine List.ext_getElem? fun i => ?_
    rw [List.getElem?_map, List.getElem?_map]
    cases e1 : S[i]? with
    | none =>
      rw [List.getElem?_eq_none_iff] at e1
      rw [List.getElem?_eq_none (by rw [h.l]; exact e1)]
    | some s =>
      have hi := (List.getElem?_eq_some_iff.mp e1).1
      have e2 : S'[i]? = some (S'[i]'(by rw [h.l]; exact hi)) := List.getElem?_eq_getElem _
      rw [e2]
      show some (S'[i]'(by rw [h.l]; exact hi)).2.1 = some s.2.1
      rw [(h.e i s _ e1 e2).2.1]
  funext k
  unfold DD.wts lns
  rw [this]
end
theorem ws_zero {fol : List (List Int)} : ∀ (i k : Nat), Ws fol (fun _ => 0) i k = 0
  | 0, _ => rfl
  | i + 1, k => by
    have h := ws_mul (fol := fol) (c := 0) (w := fun _ => 0) (Int.le_refl _) (i + 1) k
    rw [Int.zero_mul] at h
    rw [h, Int.zero_mul]
theorem sn_zero {S : List Sheet} {st ls : List Str} (g : Gd S st ls) {R : List Int} (hR1 : R.Pairwise (· < ·)) (hR : ∀ x, x ∈ R ↔ Rch (flS S) (pl (nms S) st) x) {r : Nat} {t : Seen} (h : Sn S st (fun _ => 0) r t) : t = ((0, 1), shw R (nms S).length (fun _ => 0), 0) := by
  obtain ⟨o, o1, o2, o3⟩ := h.h
  obtain ⟨b, R', mn, _⟩ := o1.p
  have gz : ∀ p : List Int, gs (fun _ => 0) p = 0 := fun p => by
    induction p with
    | nil => rfl
    | cons v p ih => rw [gs_cons, ih]; rfl
  have n0 : o.1.1 = 0 := by
    have e := mn.eq
    rw [gz, Int.zero_mul] at e
    rcases Int.mul_eq_zero.mp e.symm with k | k
    · exact k
    · have := List.length_pos_iff.mpr mn.rg.ne
      omega
  have d1 : o.1.2 = 1 := by
    have := mn.co
    have dr := mn.dr
    rw [n0, Int.natAbs_zero, Nat.gcd_zero_left] at this
    omega
  have s1 := heavy_shw g o1 hR1 hR (m := 4) (by omega)
  refine Prod.ext (by rw [o2]; exact Prod.ext n0 d1) (Prod.ext ?_ ?_)
  · rw [o3, s1, n0, d1]
    exact shw_congr fun k _ _ => (ws_ext (fun _ => by omega) 4 k).trans (ws_zero 4 k)
  · obtain ⟨p, _, e⟩ := h.g.at_
    rw [gz] at e
    exact e.symm
end DD
namespace DD
open PySem PySem.Spec PyProof.Rows L2 KO SX RF
theorem seen_enc {S : List Sheet} {st ls : List Str} (g : Gd S st ls) {w : Nat → Int} {r : Nat} {t : Seen} (h : Sn S st w r t) : Enc.ok (rO (rT3 (rT2 RF.rI RF.rI) (rL (rO RF.rI)) RF.rI)) (some t) := by
  have := (sn_ok g h).1
  have := g.four
  exact ⟨⟨trivial, trivial⟩, oi_ok (by omega), trivial⟩
theorem t3_enc {x : (Int × Int) × List (Option Int) × Int} (h : x.2.1.length ≤ 1000) : Enc.ok (rT3 (rT2 RF.rI RF.rI) (rL (rO RF.rI)) RF.rI) x := ⟨⟨trivial, trivial⟩, oi_ok h, trivial⟩
structure Ps (ls : List Str) (c : Int) (ps : List (Str × Int)) : Prop where
  w : Wt ps
  k : ps.map (·.1) = ls
  c : ∀ p ∈ ps, p.2 * c ≤ 99
theorem lines_ok {ls : List Str} (h1 : ls.length ≤ 8) (h2 : ls.Nodup) {x : Int} (hx : 0 ≤ x ∧ x < 99) {Q : List (Str × Int) → Prop} {E : Ex → Prop} (q : ∀ ps, Ps ls (1 + x) ps → Q ps) : (Mo.lc (fun _ => pure true) (fun w79 : Str => (do
              let x ← Mo.rq (CDiv 99 (1 + x)) (99 / (1 + x))
              let x ← Mo.take (x + 1)
              pure (w79, x) : Mo (Str × Int))) ls).run Q E := by
  have hz := sizeLine_eq
  have d0 : 0 ≤ 99 / (1 + x) := Int.ediv_nonneg (by omega) (by omega)
  have d1 : 99 / (1 + x) ≤ 99 := Int.ediv_le_self _ (by omega)
  refine Mo.lc_each (R := fun l p => p.1 = l ∧ 0 ≤ p.2 ∧ p.2 ≤ 99 / (1 + x)) (by omega) (fun l hl => ?_) fun ps pl pe => ?_
  · rw [Mo.rq_of (show CDiv 99 (1 + x) from ⟨by omega, by omega⟩), pure_bind, Mo.run_bind, Mo.run_take]
    refine ⟨by omega, fun y hy => ?_⟩
    rw [Mo.run_pure]
    exact ⟨rfl, hy.1, by show y ≤ _; omega⟩
  · have hk : ps.map (·.1) = ls := by
      rw [keys_of (f := fun l : Str => l) (k := fun p : Str × Int => p.1) pl fun i a b h1 h2 => (pe i a b h1 h2).1, List.map_id']
    refine q ps ⟨⟨by rw [hk]; exact h2, by omega, fun p hp => ?_⟩, hk, fun p hp => ?_⟩
    · obtain ⟨i, a, k1, k2⟩ := pair_of pl hp
      have := (pe i a p k1 k2).2
      omega
    · obtain ⟨i, a, k1, k2⟩ := pair_of pl hp
      have := (pe i a p k1 k2).2.2
      exact (Int.le_ediv_iff_mul_le (by omega)).mp this
theorem heavier_ok {ls : List Str} {c : Int} {ps : List (Str × Int)} (h : Ps ls c ps) {Q : List (Str × Int) → Prop} {E : Ex → Prop} (q : ∀ hs, Wt hs → (∀ l, pw ps l ≤ pw hs l) → Q hs) : (Mo.lc (fun _ => pure true) (fun w93 : Str × Int => (do
              let x ← Mo.take (100 - w93.snd)
              pure (w93.fst, w93.snd + x) : Mo (Str × Int))) ps).run Q E := by
  have hz := sizeLine_eq
  have pl := h.w.l
  refine Mo.lc_each (R := fun p y => y.1 = p.1 ∧ p.2 ≤ y.2 ∧ 0 ≤ y.2 ∧ y.2 ≤ 99) (by omega) (fun p hp => ?_) fun hs hl he => ?_
  · have := h.w.v p hp
    rw [Mo.run_bind, Mo.run_take]
    refine ⟨by omega, fun y hy => ?_⟩
    rw [Mo.run_pure]
    exact ⟨rfl, by show p.2 ≤ p.2 + y; omega, by show 0 ≤ p.2 + y; omega, by show p.2 + y ≤ 99; omega⟩
  · have hk : hs.map (·.1) = ps.map (·.1) := keys_of (f := fun p : Str × Int => p.1) (k := fun p : Str × Int => p.1) hl fun i a b h1 h2 => (he i a b h1 h2).1
    refine q hs ⟨by rw [hk]; exact h.w.nd, by omega, fun y hy => ?_⟩ fun l => pw_mono hl fun i p p' a b => ⟨(he i p p' a b).1, (he i p p' a b).2.1⟩
    obtain ⟨i, a, k1, k2⟩ := pair_of hl hy
    exact (he i a y k1 k2).2.2
theorem longer_ok {S : List Sheet} (hn : S.length ≤ 100) (h7 : ∀ s ∈ S, s.2.1.length ≤ 7) {z : Str} {Q : List Sheet → Prop} {E : Ex → Prop} (q : ∀ S', Sim (fun a b => ∃ i : Nat, b = a.take i ++ [z] ++ a.drop i) S S' → Q S') : (Mo.fold (fun (s123 : List Sheet) (w124 : Sheet) => (do
              let at_132 ← Mo.take (↑w124.snd.fst.length + 1)
              let x ←
                Mo.rq ((cutL w124.snd.fst none (some at_132)).length + [z].length ≤ sizeLine)
                    (cutL w124.snd.fst none (some at_132) ++ [z])
              let x ←
                Mo.rq (x.length + (cutL w124.snd.fst (some at_132) none).length ≤ sizeLine)
                    (x ++ cutL w124.snd.fst (some at_132) none)
              let x159 ← Mo.rq (s123.length < sizeLine) (w124.fst, x, w124.snd.snd)
              pure (s123 ++ [x159]) : Mo (List Sheet))) S []).run Q E := by
  have hz := sizeLine_eq
  refine Mo.fold_inv (fun k (T : List Sheet) => T.length = k ∧ ∀ (i : Nat) s, i < k → S[i]? = some s → ∃ l, T[i]? = some (s.1, l, s.2.2) ∧ ∃ i : Nat, l = s.2.1.take i ++ [z] ++ s.2.1.drop i) (k := 0) ⟨rfl, fun i s h => absurd h (by omega)⟩ (fun i s T hs hT => ?_) fun T hT => ?_
  · rw [Nat.zero_add] at hT ⊢
    have sl := h7 s (List.mem_of_getElem? hs)
    have il := (List.getElem?_eq_some_iff.mp hs).1
    rw [Mo.run_bind, Mo.run_take]
    refine ⟨by omega, fun a ha => ?_⟩
    rw [cut_to _ ha.1, cut_from _ ha.1, Mo.rq_of (by rw [List.length_take, List.length_singleton]; omega), pure_bind, Mo.rq_of (by rw [List.length_append, List.length_take, List.length_drop, List.length_singleton]; omega), pure_bind, Mo.rq_of (by omega), pure_bind, Mo.run_pure]
    refine ⟨by rw [List.length_append, hT.1, List.length_singleton], fun j s' hj hs' => ?_⟩
    by_cases c : j < i
    · obtain ⟨l, k1, k2⟩ := hT.2 j s' c hs'
      exact ⟨l, by rw [List.getElem?_append_left (by omega)]; exact k1, k2⟩
    · have e : j = i := by omega
      subst e
      rw [hs] at hs'
      obtain rfl := Option.some.inj hs'
      exact ⟨_, by rw [List.getElem?_append_right (by omega), hT.1, Nat.sub_self]; rfl, a.toNat, rfl⟩
  · rw [Nat.zero_add] at hT
    exact q T ⟨hT.1, fun i s hs => hT.2 i s (List.getElem?_eq_some_iff.mp hs).1 hs⟩
theorem wider_ok {S : List Sheet} {st ls : List Str} (g : Gd S st ls) {Q : List Sheet → Prop} {E : Ex → Prop} (q : ∀ S', Wid S S' → Q S') : (Mo.lc (fun _ => pure true) (fun w170 : Sheet => (do
              let x ← Mo.take ↑(nms S).length
              let x ← Mo.get (atI (nms S) x)
              let x ← P_Lwith w170.snd.snd x
              pure (w170.fst, w170.snd.fst, x) : Mo Sheet)) S).run Q E := by
  have hz := sizeLine_eq
  have hn := g.sm.n
  have h1 := g.n1
  have hl : (nms S).length = S.length := List.length_map _
  refine Mo.lc_each (R := fun s s' => s ∈ S → s'.1 = s.1 ∧ s'.2.1 = s.2.1 ∧ s'.2.2.Nodup ∧ (∀ w ∈ s'.2.2, w ∈ nms S) ∧ ∀ w ∈ s.2.2, w ∈ s'.2.2) (by omega) (fun s hs => ?_) fun S' hl' he => q S' ⟨hl', fun i s s' a b => he i s s' a b (List.mem_of_getElem? a)⟩
  rw [Mo.run_bind, Mo.run_take]
  refine ⟨by omega, fun a ha => ?_⟩
  obtain ⟨k1, k2⟩ := nm_at (S := S) ha
  have fo := g.fo s hs
  have fl := nodup_le fo.2.1 fo.2.2
  rw [k2, Mo.get_some, pure_bind, with_eq (by show s.2.2.length ≤ 1000; rw [List.length_map] at fl; omega), pure_bind, Mo.run_pure]
  intro _
  obtain ⟨i1, i2, i3⟩ := with_in fo.2.1 fo.2.2 (nm_isw g ha).1
  exact ⟨rfl, rfl, i1, i2, i3⟩
end DD
namespace DD
open PySem PySem.Spec PyProof.Rows L2 KO SX RF
section
variable {S : List Sheet} {st ls : List Str} (g : Gd S st ls)
include g
theorem longer_sn {S' : List Sheet} {z : Str} (h7 : ∀ s ∈ S, s.2.1.length ≤ 7) (hz : isw z) (hzl : ∀ s ∈ S, z ∉ s.2.1) (h : Sim (fun a b => ∃ i : Nat, b = a.take i ++ [z] ++ a.drop i) S S') {ps : List (Str × Int)} {e : Int} (he : 0 ≤ e) (hk : z ∉ ps.map (·.1)) : Gd S' st ls ∧ ∀ (r : Nat) t t', Sn S st (wts S ps) r t → Sn S' st (wts S' (ps ++ [(z, e)])) r t' → t' = ((t.1.1 + e * t.1.2, t.1.2), t.2.1, t.2.2 + e * r) := by
  have g' : Gd S' st ls := h.gd g fun s hs l ⟨i, e⟩ => by
    have a := g.ln s hs
    have b := h7 s hs
    have c := hzl s hs
    have nd := a.2.1
    rw [← List.take_append_drop i s.2.1, List.nodup_append] at nd
    rw [← List.take_append_drop i s.2.1, List.mem_append, not_or] at c
    rw [e]
    refine ⟨?_, ?_, fun w hw => ?_⟩
    · rw [List.length_append, List.length_append, List.length_take, List.length_drop, List.length_singleton]; omega
    · rw [List.nodup_append, List.nodup_append]
      refine ⟨⟨nd.1, by simp, fun x hx y hy k => c.1 (by rw [List.mem_singleton] at hy; rw [← hy, ← k]; exact hx)⟩, nd.2.1, fun x hx y hy k => ?_⟩
      rcases List.mem_append.mp hx with m | m
      · exact nd.2.2 x m y hy k
      · rw [List.mem_singleton] at m
        exact c.2 (by rw [← m, k]; exact hy)
    · rcases List.mem_append.mp hw with m | m
      · rcases List.mem_append.mp m with m | m
        · exact a.2.2 w (List.mem_of_mem_take m)
        · rw [List.mem_singleton.mp m]; exact hz
      · exact a.2.2 w (List.mem_of_mem_drop m)
  refine ⟨g', fun r t t' a b => ?_⟩
  have iso : Iso S st S' st (fun x => x) fun x => x := by
    refine ⟨by rw [h.nms], ?_, ?_, fun _ _ => rfl, fun _ _ => rfl⟩
    · rw [h.fl, h.nms]
      exact rn_id g (ls' := [])
    · rw [h.fl, h.nms]
      exact rn_id g (ls' := [])
  have hl : (nms S).length = S.length := List.length_map _
  obtain ⟨k1, k2, k3, k4⟩ := iso_sn g g' iso he (w := wts S ps) (w' := wts S' (ps ++ [(z, e)])) (fun x hx => by
    have e0 : S[x.toNat]? = some (S[x.toNat]'(by omega)) := List.getElem?_eq_getElem _
    obtain ⟨l, e1, i, e2⟩ := h.e _ _ e0
    unfold wts
    rw [lns_at e1, lns_at e0]
    show pw _ l = _
    rw [e2, pw_longer hk]) a b
  have tl := (sn_ok g a).1
  refine Prod.ext k1 (Prod.ext ?_ k2)
  refine List.ext_getElem? fun i => ?_
  by_cases hi : i < (nms S).length
  · have := k4 (i : Int) ⟨by omega, by omega⟩
    rwa [Int.toNat_natCast] at this
  · rw [List.getElem?_eq_none (by omega), List.getElem?_eq_none (show t.2.1.length ≤ i by omega)]
theorem perm_sn {p : List Int} (hp : p.Perm (rangeL 0 S.length)) {ps : List (Str × Int)} {r : Nat} {t t' : Seen} (a : Sn S st (wts S ps) r t) (b : Sn (p.map (shf S)) st (wts (p.map (shf S)) ps) r t') : t' = (t.1, p.map (fun v : Int => (t.2.1).getD v.toNat none), t.2.2) := by
  have g' := g.perm (perm_perm hp)
  have hl : (nms S).length = S.length := List.length_map _
  have pl := hp.length_eq
  rw [rangeL_len] at pl
  obtain ⟨k1, k2, k3, k4⟩ := iso_sn g g' (perm_iso g hp) (Int.le_refl 0) (w := wts S ps) (w' := wts (p.map (shf S)) ps) (fun x hx => by rw [perm_wts hp (by rw [← hl]; exact hx), Int.add_zero]) a b
  refine Prod.ext (by rw [k1]; refine Prod.ext ?_ rfl; show t.1.1 + 0 * t.1.2 = t.1.1; omega) (Prod.ext ?_ (by rw [k2]; show t.2.2 + 0 * (r : Int) = t.2.2; omega))
  refine List.ext_getElem? fun i => ?_
  show t'.2.1[i]? = (p.map _)[i]?
  rw [List.getElem?_map]
  by_cases hi : i < (nms S).length
  · have k := k4 (i : Int) ⟨by omega, by omega⟩
    have s1 := sig_at hp (x := (i : Int)) ⟨by omega, by omega⟩
    rw [Int.toNat_natCast] at k s1
    have tl := (sn_ok g a).1
    rw [k, s1.1]
    show _ = some ((t.2.1).getD (sig p i).toNat none)
    rw [List.getD_eq_getElem?_getD, List.getElem?_eq_getElem (by omega)]
    rfl
  · rw [List.getElem?_eq_none (by omega), List.getElem?_eq_none (by omega)]
    rfl
theorem perm_lc {p : List Int} (hp : p.Perm (rangeL 0 S.length)) {t : Seen} (ht : t.2.1.length = S.length) : Mo.lc (fun _ => pure true) (fun w381 : Int => (Mo.get (atI t.2.1 w381) : Mo (Option Int))) p = pure (p.map (fun v : Int => (t.2.1).getD v.toNat none)) ∧ Mo.lc (fun _ => pure true) (fun w395 : Int => (Mo.get (atI S w395) : Mo Sheet)) p = pure (p.map (shf S)) := by
  have hz := sizeLine_eq
  have pl := hp.length_eq
  rw [rangeL_len] at pl
  have hn := g.n4
  have pr : ∀ v ∈ p, 0 ≤ v ∧ v < S.length := fun v hv => by
    have := rangeL_mem.mp (hp.mem_iff.mp hv)
    omega
  refine ⟨Mo.lc_map (by omega) fun v hv => ?_, Mo.lc_map (by omega) fun v hv => ?_⟩
  · obtain ⟨x, a1, a2⟩ := atI_in (xs := t.2.1) (i := v) (pr v hv).1 (by rw [ht]; exact (pr v hv).2)
    rw [a1, Mo.get_some, List.getD_eq_getElem?_getD, a2]
    rfl
  · rw [(shf_at (pr v hv)).2, Mo.get_some]
end
end DD
namespace DD
open PySem PySem.Spec PyProof.Rows L2 KO SX RF
theorem Law_ok (ns : List Int) : (P_Law ns).run (fun b => b = true) (fun _ => False) := by
  unfold P_Law
  simp only [pure_bind, bind_assoc, map_pure, bind_pure]
  have hz := sizeLine_eq
  rw [Mo.rq_of (by decide), pure_bind, Mo.run_bind]
  refine Lsheets_ok fun S0 st ls g0 hsub0 => ?_
  show (Mo.lc _ _ S0 >>= _ : Mo Bool).run _ _
  have hn0 := g0.sm.n
  rw [Mo.lc_map (g := fun s : Sheet => (s.1, s.2.1.take 7, s.2.2)) (by omega) fun s _ => by rw [cut_to _ (by decide)]; rfl, pure_bind]
  obtain ⟨S, hS⟩ : ∃ S, S = S0.map (fun s : Sheet => (s.1, s.2.1.take 7, s.2.2)) := ⟨_, rfl⟩
  have sim : Sim (fun a b => b = a.take 7) S0 S := ⟨by rw [hS, List.length_map], fun i s hs => ⟨s.2.1.take 7, by rw [hS, List.getElem?_map, hs]; rfl, rfl⟩⟩
  have g : Gd S st ls := sim.gd g0 fun s hs l e => by
    have a := g0.ln s hs
    rw [e]
    exact ⟨by rw [List.length_take]; omega, (List.take_sublist _ _).nodup a.2.1, fun w hw => a.2.2 w (List.mem_of_mem_take hw)⟩
  have h7 : ∀ s ∈ S, s.2.1.length ≤ 7 := fun s hs => by
    rw [hS] at hs
    obtain ⟨u, _, rfl⟩ := List.mem_map.mp hs
    show (u.2.1.take 7).length ≤ 7
    rw [List.length_take]; omega
  have hsub : ∀ s ∈ S, ∀ w ∈ s.2.1, w ∈ ls := fun s hs w hw => by
    rw [hS] at hs
    obtain ⟨u, hu, rfl⟩ := List.mem_map.mp hs
    exact hsub0 u hu w (List.mem_of_mem_take hw)
  rw [← hS]
  clear sim hS
  have hn := g.sm.n
  have hnl := g.nl
  have hl : (nms S).length = S.length := List.length_map _
  have h4 := g.four
  have h8 := g.ls.1
  have hf := g.fR
  have hs : Pls (nms S).length (pl (nms S) st) := pl_pls
  rw [Mo.lc_map (g := fun p : Sheet => p.1) (by omega) fun _ _ => rfl, pure_bind]
  rw [Mo.lc_map (g := fun s : Sheet => pl (nms S) s.2.2) (by omega) fun s _ => Lplaces_eq (names := nms S) (by omega) _, pure_bind]
  show (P_Lplaces (nms S) st >>= _ : Mo Bool).run _ _
  rw [Lplaces_eq (by omega), pure_bind, Mo.run_bind]
  refine grown_ok (by omega) hf hs (pl_ne g g.st.1 g.st.2.2) fun R hR1 hR => ?_
  have hR : ∀ x, x ∈ R ↔ Rch (flS S) (pl (nms S) st) x := hR
  rw [Mo.rq_of (by decide), pure_bind, Mo.run_bind, Mo.run_take]
  refine ⟨by decide, fun a ha => ?_⟩
  obtain ⟨m, e1, e2⟩ := atI_in (xs := ([99, 9, 9, 9] : List Int)) ha.1 ha.2
  have hm : m = 99 ∨ m = 9 := by
    have := List.mem_of_getElem? e2
    simpa using this
  rw [e1, Mo.get_some, pure_bind, Mo.run_bind, Mo.run_take]
  refine ⟨by omega, fun x hx => ?_⟩
  rw [Mo.run_bind]
  refine lines_ok h8 g.lu ⟨hx.1, by omega⟩ fun ps hp => ?_
  have pwt := hp.w
  have ppl := hp.w.l
  rw [Mo.run_bind]
  refine heavier_ok hp fun hv hvw hvl => ?_
  rw [Mo.rq_of (show (nms S).length + ls.length ≤ sizeLine by omega), pure_bind, Mo.run_bind]
  have wn : ∀ w ∈ nms S ++ ls, isw w := fun w hw => by
    rcases List.mem_append.mp hw with k | k
    · obtain ⟨s, hs, rfl⟩ := List.mem_map.mp k; exact g.wd s hs
    · exact g.ls.2 w k
  refine Lword_ok (fun w hw => wn w (List.mem_of_getLast? hw)) (eqk_oks (n := 8) (by rw [List.length_append]; omega) fun w hw => isw_ok (wn w hw)) fun z z1 z2 => ?_
  have zn := z2 (by rw [List.length_append]; omega)
  rw [List.mem_append, not_or] at zn
  rw [Mo.run_bind, Mo.run_take]
  refine ⟨by decide, fun e he => ?_⟩
  rw [Mo.run_bind]
  refine longer_ok (by omega) h7 fun S1 hS1 => ?_
  rw [Mo.run_bind, Mo.run_take]
  refine ⟨by decide, fun r hr => ?_⟩
  show (P_Lperm ((nms S).length : Nat) >>= _ : Mo Bool).run _ _
  rw [Mo.run_bind]
  refine Lperm_ok (by omega) fun pm hpm => ?_
  rw [hl] at hpm
  rw [Mo.run_bind]
  refine wider_ok g fun S2 hS2 => ?_
  rw [Mo.run_bind, Mo.run_take]
  refine ⟨by have := g.n1; rw [List.length_map]; omega, fun b hb => ?_⟩
  have hb : 0 ≤ b ∧ b < (nms S).length := hb
  obtain ⟨b1, b2⟩ := nm_at (S := S) hb
  have sl := nodup_le g.st.2.1 g.st.2.2
  rw [List.length_map] at sl
  show (Mo.get (atI (nms S) b) >>= _ : Mo Bool).run _ _
  rw [b2, Mo.get_some, pure_bind, with_eq (show st.length ≤ 1000 by omega), pure_bind, Lhanded_eq (by omega), pure_bind, g.init, pure_bind, table_eq pwt, pure_bind, Mo.run_bind]
  obtain ⟨i1, i2, i3⟩ := with_in g.st.2.1 g.st.2.2 (nm_isw g hb).1
  refine heaviest_ok g pwt.nd pwt.v (by omega) fun h hh => ?_
  show (P_Lpageweights S ps >>= _ : Mo Bool).run _ _
  rw [Lpageweights_eq g (by omega), pure_bind, Mo.run_bind]
  refine heavygood_ok g (wts_r pwt.v (by omega)) hh hR1 hR ?_
  rw [if_neg (by simp), Mo.run_bind]
  refine seen_ok g pwt hr.1 (by omega) fun t ht => ?_
  have tok := sn_ok g ht
  have tl : t.2.1.length ≤ 1000 := by omega
  have ko : (h.1, h.2.2) = (t.1, t.2.1) := by
    have := sn_uq g ht (t' := (h.1, h.2.2, t.2.2)) ⟨⟨h, hh, rfl, rfl⟩, ht.g⟩
    rw [this]
  rw [ko]
  simp only [Mo.get_some, pure_bind]
  rw [if_neg (by simp), Mo.rq_of (show Enc.ok (rT2 (rT2 RF.rI RF.rI) (rL (rO RF.rI))) (t.1, t.2.1) from ⟨⟨trivial, trivial⟩, oi_ok tl⟩)]
  simp only [pure_bind]
  rw [Mo.rq_of trivial]
  simp only [pure_bind, Bool.not_true, Bool.false_eq_true, if_false]
  rw [Mo.lc_pure (p := fun p : Str × Int => decide (0 < p.2)) (g := fun p : Str × Int => (p.1, p.2 * (1 + x))) (by omega) (fun _ _ => rfl) (fun p _ _ => by rw [Mo.rq_of (cm2 (by omega)), pure_bind]), pure_bind, Mo.run_bind]
  have swt : Wt ((ps.filter fun p => decide (0 < p.2)).map fun p => (p.1, p.2 * (1 + x))) := by
    refine ⟨?_, ?_, fun p hp' => ?_⟩
    · rw [List.map_map]
      exact (List.Sublist.map (fun p : Str × Int => p.1) (List.filter_sublist (l := ps))).nodup pwt.nd
    · rw [List.length_map]
      exact Nat.le_trans (List.length_filter_le _ _) ppl
    · obtain ⟨q, hq, rfl⟩ := List.mem_map.mp hp'
      have hq := (List.mem_filter.mp hq).1
      exact ⟨Int.mul_nonneg (pwt.v q hq).1 (by omega), hp.c q hq⟩
  refine seen_ok g swt hr.1 (by omega) fun t1 ht1 => ?_
  have ew : wts S ((ps.filter fun p => decide (0 < p.2)).map fun p => (p.1, p.2 * (1 + x))) = fun i => (1 + x) * wts S ps i := by
    funext i
    exact pw_mul fun p hp' => (pwt.v p hp').1
  rw [ew] at ht1
  obtain ⟨m1, m2, R', f, f', m3, m4, m5⟩ := sn_mul g (by omega) ht ht1
  show (P_Lscaledgood t (some t1) (1 + x) >>= _ : Mo Bool).run _ _
  rw [scaledgood_ok h4 m3 m4 (by omega) tok.2.2 (sn_ok g ht1).2.2 m1 m2 m5, pure_bind, if_neg (by decide), Mo.run_bind]
  refine seen_ok g hvw hr.1 (by omega) fun t2 ht2 => ?_
  have le2 := sn_le g g rfl (rn_id g (ls' := [])) (fun k => hvl _) ht ht2
  rw [notless_ok tok.2.2 (sn_ok g ht2).2.2 le2.1 le2.2, pure_bind, if_neg (by decide)]
  have zk : z ∉ ps.map (·.1) := by rw [hp.k]; exact zn.2
  obtain ⟨g1, lsn⟩ := longer_sn g h7 z1 (fun s hs hz => zn.2 (hsub s hs z hz)) hS1 he.1 zk
  have lwt : Wt (ps ++ [(z, e)]) := by
    have pk : ps.length ≤ 8 := by
      have := congrArg List.length hp.k
      rw [List.length_map] at this
      omega
    refine ⟨?_, by rw [List.length_append, List.length_singleton]; omega, fun p hp' => ?_⟩
    · rw [List.map_append, List.nodup_append]
      refine ⟨pwt.nd, by simp, fun u hu v hv k => ?_⟩
      rw [List.map_cons, List.map_nil, List.mem_singleton] at hv
      rw [k, hv] at hu
      exact zk hu
    · rcases List.mem_append.mp hp' with k | k
      · exact pwt.v p k
      · rw [List.mem_singleton.mp k]; exact ⟨he.1, by show e ≤ 99; omega⟩
  rw [Mo.rq_of (cm2 (by omega)), pure_bind, Mo.rq_of (cm2 (by omega)), pure_bind, Mo.rq_of (by rw [List.length_singleton]; omega), pure_bind, Mo.run_bind]
  refine seen_ok g1 lwt hr.1 (by omega) fun t3 ht3 => ?_
  have e3 := lsn _ _ _ ht ht3
  rw [show ((r.toNat : Nat) : Int) = r by omega] at e3
  rw [Mo.rq_of (seen_enc g1 ht3), pure_bind, Mo.rq_of (t3_enc (x := ((t.1.1 + e * t.1.2, t.1.2), t.2.1, t.2.2 + e * r)) tl), pure_bind, Mo.rq_of (by rw [e3]; rfl), pure_bind, if_neg (by decide)]
  obtain ⟨p1, p2⟩ := perm_lc g hpm (t := t) (by omega)
  rw [p1, pure_bind, p2, pure_bind, Mo.run_bind]
  refine seen_ok (g.perm (perm_perm hpm)) pwt hr.1 (by omega) fun t4 ht4 => ?_
  have e4 := perm_sn g hpm ht ht4
  have pml := hpm.length_eq
  rw [rangeL_len] at pml
  rw [Mo.rq_of (seen_enc (g.perm (perm_perm hpm)) ht4), pure_bind, Mo.rq_of (t3_enc (x := (t.1, pm.map (fun v : Int => (t.2.1).getD v.toNat none), t.2.2)) (by show (pm.map _).length ≤ 1000; rw [List.length_map]; omega)), pure_bind, Mo.rq_of (by rw [e4]; rfl), pure_bind, if_neg (by decide), Mo.run_bind]
  have g2 := hS2.gd g i1 i2 i3
  refine seen_ok g2 pwt hr.1 (by omega) fun t5 ht5 => ?_
  have le5 := sn_le g g2 (by rw [hS2.nms]) (hS2.rn i3) (fun k => by rw [hS2.wts]; exact Int.le_refl _) ht ht5
  rw [notless_ok tok.2.2 (sn_ok g2 ht5).2.2 le5.1 le5.2, pure_bind, if_neg (by decide)]
  have hl2 : (S.map fun p : Sheet => p.1).length ≤ 4 := h4
  rw [Mo.rq_of ⟨by omega, by omega, by simp only [List.length_cons, List.length_nil]; omega⟩, pure_bind, Int.toNat_natCast, rep_const]
  show (P_Lshown (rep (nms S).length fun _ => 0) R >>= _ : Mo Bool).run _ _
  rw [Lshown_eq (by omega), pure_bind, Mo.run_bind]
  refine seen_ok g (ps := []) ⟨by simp, by simp, fun p hp' => by simp at hp'⟩ hr.1 (by omega) fun t6 ht6 => ?_
  have e6 := sn_zero g hR1 hR (t := t6) (r := r.toNat) ht6
  rw [Mo.rq_of (seen_enc g ht6), pure_bind, Mo.rq_of (t3_enc (x := ((0, 1), shw R (nms S).length (fun _ => 0), 0)) (by show (shw _ _ _).length ≤ 1000; rw [shw_len]; omega)), pure_bind, Mo.rq_of (by rw [e6]; rfl), pure_bind, if_neg (by decide), Mo.run_bind]
  refine seen_ok g pwt hr.1 (by omega) fun t7 ht7 => ?_
  rw [sn_uq g ht7 ht, Mo.rq_of (seen_enc g ht), pure_bind, pure_bind, Mo.rq_of rfl]
  rfl
end DD
namespace DD
open PySem PySem.Spec PyProof.Rows L2 KO SX RF
def spLaw (K : PySem.W.Frag) : Sp := fun vs H Q _ => ∃ (a : Addr) (ns : List Int), vs = [.ref a] ∧ SqL K H a (ns.map V.int) ∧ ns.length ≤ 63 ∧ ∀ H', Q (.bl true) H'
theorem ok_law {P : Program} {w : World} {K : PySem.W.Frag} {mg : Str → Option Value} {base : Heap} (T : Tx K mg) : FnOk P w K mg base CX0 10 T.flaw T.dlaw ["_law_script"] (spLaw K) := by
  refine (fn_Law (P := P) (w := w) (base := base) T).c0 fun vs H Q E h => ?_
  obtain ⟨a, ns, rfl, hs, hl, q⟩ := h
  refine ⟨(), (ns, ()), H, ⟨Go.refl (Same.refl H), fun i e he => ?_, fun i j l m b p r h1 h2 => ?_, rfl⟩, (P_Law ns).mono (fun b hb v F' H' _ _ hv => ?_) (fun _ z => z.elim) (Law_ok ns)⟩
  · match i, he with
    | 0, he =>
      cases he
      exact ⟨.ref a, rfl, a, rfl, hs⟩
    | i + 1, he => cases he
  · match i, h1 with
    | 0, h1 => cases h1
    | i + 1, h1 => cases h1
  · obtain rfl : v = .bl b := hv
    rw [hb]
    exact q H'
end DD
namespace DD
open PySem L2 SX
theorem all_mk {l : PySem.W.OpenLaw} {w : World} {K : PySem.W.Frag} {h : Heap} {mg : Str → Option Value} {fa : Addr} (X : K.In h) (G : h.Ns mainGlobals mg) (hfa : mg "law" = some (.ref fa)) {nm_BadBook q_BadBook : Str} {N_BadBook : Addr} {bs_BadBook : List Value} {sn_BadBook : List Str} {sub_BadBook : List Value} {ab_BadBook : Bool} {col_BadBook : Option Bool} {dd_BadBook : Option Addr} {m0_BadBook m1_BadBook m2_BadBook m3_BadBook m5_BadBook : Option Value} {nm_BadNumber q_BadNumber : Str} {N_BadNumber : Addr} {bs_BadNumber : List Value} {sn_BadNumber : List Str} {sub_BadNumber : List Value} {ab_BadNumber : Bool} {col_BadNumber : Option Bool} {dd_BadNumber : Option Addr} {m0_BadNumber m1_BadNumber m2_BadNumber m3_BadNumber m5_BadNumber : Option Value} {nm_UnknownName q_UnknownName : Str} {N_UnknownName : Addr} {bs_UnknownName : List Value} {sn_UnknownName : List Str} {sub_UnknownName : List Value} {ab_UnknownName : Bool} {col_UnknownName : Option Bool} {dd_UnknownName : Option Addr} {m0_UnknownName m1_UnknownName m2_UnknownName m3_UnknownName m5_UnknownName : Option Value} {nm_UnknownPage q_UnknownPage : Str} {N_UnknownPage : Addr} {bs_UnknownPage : List Value} {sn_UnknownPage : List Str} {sub_UnknownPage : List Value} {ab_UnknownPage : Bool} {col_UnknownPage : Option Bool} {dd_UnknownPage : Option Addr} {m0_UnknownPage m1_UnknownPage m2_UnknownPage m3_UnknownPage m5_UnknownPage : Option Value} {f0 f1 f2 f3 f4 f5 f6 f7 f8 f9 f10 f11 f12 f13 f14 f15 f16 f17 f18 f19 f20 f21 f22 f23 f24 f25 f26 f27 f28 f29 f30 f31 f32 f33 f34 f35 f36 f37 f38 f39 f40 f41 f42 f43 f44 f45 f46 f47 f48 f49 f50 f51 CBook CHeavy CDepotError CBadBook CUnknownName CBadNumber CUnknownPage : Addr} {od0 an0 od1 an1 od2 an2 od3 an3 od4 an4 od5 an5 od6 an6 od7 an7 od8 an8 od9 an9 od10 an10 od11 an11 od12 an12 od13 an13 od14 an14 od15 an15 od16 an16 od17 an17 od18 an18 od19 an19 od20 an20 od21 an21 od22 an22 od23 an23 od24 an24 od25 an25 od26 an26 od27 an27 od28 an28 od29 an29 od30 an30 od31 an31 od32 an32 od33 an33 od34 an34 od35 an35 od36 an36 od37 an37 od38 an38 od39 an39 od40 an40 od41 an41 od42 an42 od43 an43 od44 an44 od45 an45 od46 an46 od47 an47 od48 an48 od49 an49 od50 an50 od51 an51 : Option Addr} {sl0 sl1 sl2 sl3 sl4 sl5 sl6 sl7 sl8 sl9 sl10 sl11 sl12 sl13 sl14 sl15 sl16 sl17 sl18 sl19 sl20 sl21 sl22 sl23 sl24 sl25 sl26 sl27 sl28 sl29 sl30 sl31 sl32 sl33 sl34 sl35 sl36 sl37 sl38 sl39 sl40 sl41 sl42 sl43 sl44 sl45 sl46 sl47 sl48 sl49 sl50 sl51 : Array (Option Value)} {oc0 kV0 dc0 pm0 cd0 ct0 oc1 kV1 dc1 pm1 cd1 ct1 oc2 kV2 dc2 pm2 cd2 ct2 oc3 kV3 dc3 pm3 cd3 ct3 oc4 kV4 dc4 pm4 cd4 ct4 oc5 kV5 dc5 pm5 cd5 ct5 oc6 kV6 dc6 pm6 cd6 ct6 oc7 kV7 dc7 pm7 cd7 ct7 oc8 kV8 dc8 pm8 cd8 ct8 oc9 kV9 dc9 pm9 cd9 ct9 oc10 kV10 dc10 pm10 cd10 ct10 oc11 kV11 dc11 pm11 cd11 ct11 oc12 kV12 dc12 pm12 cd12 ct12 oc13 kV13 dc13 pm13 cd13 ct13 oc14 kV14 dc14 pm14 cd14 ct14 oc15 kV15 dc15 pm15 cd15 ct15 oc16 kV16 dc16 pm16 cd16 ct16 oc17 kV17 dc17 pm17 cd17 ct17 oc18 kV18 dc18 pm18 cd18 ct18 oc19 kV19 dc19 pm19 cd19 ct19 oc20 kV20 dc20 pm20 cd20 ct20 oc21 kV21 dc21 pm21 cd21 ct21 oc22 kV22 dc22 pm22 cd22 ct22 oc23 kV23 dc23 pm23 cd23 ct23 oc24 kV24 dc24 pm24 cd24 ct24 oc25 kV25 dc25 pm25 cd25 ct25 oc26 kV26 dc26 pm26 cd26 ct26 oc27 kV27 dc27 pm27 cd27 ct27 oc28 kV28 dc28 pm28 cd28 ct28 oc29 kV29 dc29 pm29 cd29 ct29 oc30 kV30 dc30 pm30 cd30 ct30 oc31 kV31 dc31 pm31 cd31 ct31 oc32 kV32 dc32 pm32 cd32 ct32 oc33 kV33 dc33 pm33 cd33 ct33 oc34 kV34 dc34 pm34 cd34 ct34 oc35 kV35 dc35 pm35 cd35 ct35 oc36 kV36 dc36 pm36 cd36 ct36 oc37 kV37 dc37 pm37 cd37 ct37 oc38 kV38 dc38 pm38 cd38 ct38 oc39 kV39 dc39 pm39 cd39 ct39 oc40 kV40 dc40 pm40 cd40 ct40 oc41 kV41 dc41 pm41 cd41 ct41 oc42 kV42 dc42 pm42 cd42 ct42 oc43 kV43 dc43 pm43 cd43 ct43 oc44 kV44 dc44 pm44 cd44 ct44 oc45 kV45 dc45 pm45 cd45 ct45 oc46 kV46 dc46 pm46 cd46 ct46 oc47 kV47 dc47 pm47 cd47 ct47 oc48 kV48 dc48 pm48 cd48 ct48 oc49 kV49 dc49 pm49 cd49 ct49 oc50 kV50 dc50 pm50 cd50 ct50 oc51 kV51 dc51 pm51 cd51 ct51 : Value} {u_MOST_LETTERS u_MOST_PAGES u_MOST_LINES u_MOST_ROUNDS : Tok}
    (k_MOST_LETTERS : PySem.W.nsIn K mainGlobals "MOST_LETTERS" = some (some (.int 8 u_MOST_LETTERS)))
    (k_MOST_PAGES : PySem.W.nsIn K mainGlobals "MOST_PAGES" = some (some (.int 4 u_MOST_PAGES)))
    (k_MOST_LINES : PySem.W.nsIn K mainGlobals "MOST_LINES" = some (some (.int 8 u_MOST_LINES)))
    (k_MOST_ROUNDS : PySem.W.nsIn K mainGlobals "MOST_ROUNDS" = some (some (.int 200 u_MOST_ROUNDS)))
    (z_abs : PySem.W.nsIn K mainGlobals "abs" = some none)
    (z_all : PySem.W.nsIn K mainGlobals "all" = some none)
    (z_bool : PySem.W.nsIn K mainGlobals "bool" = some none)
    (z_enumerate : PySem.W.nsIn K mainGlobals "enumerate" = some none)
    (z_int : PySem.W.nsIn K mainGlobals "int" = some none)
    (z_isinstance : PySem.W.nsIn K mainGlobals "isinstance" = some none)
    (z_len : PySem.W.nsIn K mainGlobals "len" = some none)
    (z_list : PySem.W.nsIn K mainGlobals "list" = some none)
    (z_max : PySem.W.nsIn K mainGlobals "max" = some none)
    (z_min : PySem.W.nsIn K mainGlobals "min" = some none)
    (z_range : PySem.W.nsIn K mainGlobals "range" = some none)
    (z_set : PySem.W.nsIn K mainGlobals "set" = some none)
    (z_sorted : PySem.W.nsIn K mainGlobals "sorted" = some none)
    (z_str : PySem.W.nsIn K mainGlobals "str" = some none)
    (z_sum : PySem.W.nsIn K mainGlobals "sum" = some none)
    (z_tuple : PySem.W.nsIn K mainGlobals "tuple" = some none)
    (a_Book : PySem.W.nsIn K mainGlobals "Book" = some (some (.ref CBook)))
    (pg_Book : PySem.W.plainGet K CBook Str.empty = true)
    (hd_Book : PySem.W.hasDictIn K CBook = true)
    (po_Book : PySem.W.plainOver K CBook = true)
    (sa_Book : PySem.W.findIn K (.ref CBook) "__setattr__" = some (some (.builtin "object.__setattr__")))
    (mk_Book : PySem.W.makesIn K CBook = true)
    (kc_Book : PySem.W.keepIn K (.ref CBook) = true)
    (na_Book_names : PySem.W.findIn K (.ref CBook) "names" = some none)
    (na_Book_starts : PySem.W.findIn K (.ref CBook) "starts" = some none)
    (na_Book__lines : PySem.W.findIn K (.ref CBook) "_lines" = some none)
    (na_Book__followers : PySem.W.findIn K (.ref CBook) "_followers" = some none)
    (a_Heavy : PySem.W.nsIn K mainGlobals "Heavy" = some (some (.ref CHeavy)))
    (pg_Heavy : PySem.W.plainGet K CHeavy Str.empty = true)
    (hd_Heavy : PySem.W.hasDictIn K CHeavy = true)
    (po_Heavy : PySem.W.plainOver K CHeavy = true)
    (sa_Heavy : PySem.W.findIn K (.ref CHeavy) "__setattr__" = some (some (.builtin "object.__setattr__")))
    (mk_Heavy : PySem.W.makesIn K CHeavy = true)
    (kc_Heavy : PySem.W.keepIn K (.ref CHeavy) = true)
    (na_Heavy_mean : PySem.W.findIn K (.ref CHeavy) "mean" = some none)
    (na_Heavy_ring : PySem.W.findIn K (.ref CHeavy) "ring" = some none)
    (na_Heavy_worths : PySem.W.findIn K (.ref CHeavy) "worths" = some none)
    (a_DepotError : PySem.W.nsIn K mainGlobals "DepotError" = some (some (.ref CDepotError)))
    (a_BadBook : PySem.W.nsIn K mainGlobals "BadBook" = some (some (.ref CBadBook)))
    (a_UnknownName : PySem.W.nsIn K mainGlobals "UnknownName" = some (some (.ref CUnknownName)))
    (a_BadNumber : PySem.W.nsIn K mainGlobals "BadNumber" = some (some (.ref CBadNumber)))
    (a_UnknownPage : PySem.W.nsIn K mainGlobals "UnknownPage" = some (some (.ref CUnknownPage)))
    (a0 : PySem.W.findIn K (.ref CBadBook) "__init__" = some (some (.ref f0)))
    (i0 : PySem.W.typeIn K (.ref f0) = some (.type "function"))
    (l0 : K.lookup f0 = some ⟨oc0, od0, .func (PySem.W.fnOf "__init__" "BadBook.__init__" (defArgs sBadBookInit) (defBody sBadBookInit) (defScope sBadBookInit) .none kV0 dc0 pm0 an0 cd0 ct0), sl0⟩)
    (c0 : PySem.W.codeIn K cd0 "BadBook.__init__" = true)
    (k0 : PySem.W.keepIn K (.ref f0) = true)
    (a1 : PySem.W.findIn K (.ref CUnknownName) "__init__" = some (some (.ref f1)))
    (i1 : PySem.W.typeIn K (.ref f1) = some (.type "function"))
    (l1 : K.lookup f1 = some ⟨oc1, od1, .func (PySem.W.fnOf "__init__" "UnknownName.__init__" (defArgs sUnknownNameInit) (defBody sUnknownNameInit) (defScope sUnknownNameInit) .none kV1 dc1 pm1 an1 cd1 ct1), sl1⟩)
    (c1 : PySem.W.codeIn K cd1 "UnknownName.__init__" = true)
    (k1 : PySem.W.keepIn K (.ref f1) = true)
    (a2 : PySem.W.findIn K (.ref CBadNumber) "__init__" = some (some (.ref f2)))
    (i2 : PySem.W.typeIn K (.ref f2) = some (.type "function"))
    (l2 : K.lookup f2 = some ⟨oc2, od2, .func (PySem.W.fnOf "__init__" "BadNumber.__init__" (defArgs sBadNumberInit) (defBody sBadNumberInit) (defScope sBadNumberInit) .none kV2 dc2 pm2 an2 cd2 ct2), sl2⟩)
    (c2 : PySem.W.codeIn K cd2 "BadNumber.__init__" = true)
    (k2 : PySem.W.keepIn K (.ref f2) = true)
    (a3 : PySem.W.findIn K (.ref CUnknownPage) "__init__" = some (some (.ref f3)))
    (i3 : PySem.W.typeIn K (.ref f3) = some (.type "function"))
    (l3 : K.lookup f3 = some ⟨oc3, od3, .func (PySem.W.fnOf "__init__" "UnknownPage.__init__" (defArgs sUnknownPageInit) (defBody sUnknownPageInit) (defScope sUnknownPageInit) .none kV3 dc3 pm3 an3 cd3 ct3), sl3⟩)
    (c3 : PySem.W.codeIn K cd3 "UnknownPage.__init__" = true)
    (k3 : PySem.W.keepIn K (.ref f3) = true)
    (a4 : PySem.W.nsIn K mainGlobals "is_name" = some (some (.ref f4)))
    (l4 : K.lookup f4 = some ⟨oc4, od4, .func (PySem.W.fnOf "is_name" "is_name" (defArgs sisname) (defBody sisname) (defScope sisname) .none kV4 dc4 pm4 an4 cd4 ct4), sl4⟩)
    (c4 : PySem.W.codeIn K cd4 "is_name" = true)
    (k4 : PySem.W.keepIn K (.ref f4) = true)
    (a5 : PySem.W.nsIn K mainGlobals "all_differ" = some (some (.ref f5)))
    (l5 : K.lookup f5 = some ⟨oc5, od5, .func (PySem.W.fnOf "all_differ" "all_differ" (defArgs salldiffer) (defBody salldiffer) (defScope salldiffer) .none kV5 dc5 pm5 an5 cd5 ct5), sl5⟩)
    (c5 : PySem.W.codeIn K cd5 "all_differ" = true)
    (k5 : PySem.W.keepIn K (.ref f5) = true)
    (a6 : PySem.W.nsIn K mainGlobals "are_lines" = some (some (.ref f6)))
    (l6 : K.lookup f6 = some ⟨oc6, od6, .func (PySem.W.fnOf "are_lines" "are_lines" (defArgs sarelines) (defBody sarelines) (defScope sarelines) .none kV6 dc6 pm6 an6 cd6 ct6), sl6⟩)
    (c6 : PySem.W.codeIn K cd6 "are_lines" = true)
    (k6 : PySem.W.keepIn K (.ref f6) = true)
    (a7 : PySem.W.nsIn K mainGlobals "are_pages" = some (some (.ref f7)))
    (l7 : K.lookup f7 = some ⟨oc7, od7, .func (PySem.W.fnOf "are_pages" "are_pages" (defArgs sarepages) (defBody sarepages) (defScope sarepages) .none kV7 dc7 pm7 an7 cd7 ct7), sl7⟩)
    (c7 : PySem.W.codeIn K cd7 "are_pages" = true)
    (k7 : PySem.W.keepIn K (.ref f7) = true)
    (a8 : PySem.W.nsIn K mainGlobals "check_pages" = some (some (.ref f8)))
    (l8 : K.lookup f8 = some ⟨oc8, od8, .func (PySem.W.fnOf "check_pages" "check_pages" (defArgs scheckpages) (defBody scheckpages) (defScope scheckpages) .none kV8 dc8 pm8 an8 cd8 ct8), sl8⟩)
    (c8 : PySem.W.codeIn K cd8 "check_pages" = true)
    (k8 : PySem.W.keepIn K (.ref f8) = true)
    (a9 : PySem.W.nsIn K mainGlobals "check_order" = some (some (.ref f9)))
    (l9 : K.lookup f9 = some ⟨oc9, od9, .func (PySem.W.fnOf "check_order" "check_order" (defArgs scheckorder) (defBody scheckorder) (defScope scheckorder) .none kV9 dc9 pm9 an9 cd9 ct9), sl9⟩)
    (c9 : PySem.W.codeIn K cd9 "check_order" = true)
    (k9 : PySem.W.keepIn K (.ref f9) = true)
    (a10 : PySem.W.nsIn K mainGlobals "check_rounds" = some (some (.ref f10)))
    (l10 : K.lookup f10 = some ⟨oc10, od10, .func (PySem.W.fnOf "check_rounds" "check_rounds" (defArgs scheckrounds) (defBody scheckrounds) (defScope scheckrounds) .none kV10 dc10 pm10 an10 cd10 ct10), sl10⟩)
    (c10 : PySem.W.codeIn K cd10 "check_rounds" = true)
    (k10 : PySem.W.keepIn K (.ref f10) = true)
    (a11 : PySem.W.nsIn K mainGlobals "ascending_indexes" = some (some (.ref f11)))
    (l11 : K.lookup f11 = some ⟨oc11, od11, .func (PySem.W.fnOf "ascending_indexes" "ascending_indexes" (defArgs sascendingindexes) (defBody sascendingindexes) (defScope sascendingindexes) .none kV11 dc11 pm11 an11 cd11 ct11), sl11⟩)
    (c11 : PySem.W.codeIn K cd11 "ascending_indexes" = true)
    (k11 : PySem.W.keepIn K (.ref f11) = true)
    (a12 : PySem.W.findIn K (.ref CBook) "__init__" = some (some (.ref f12)))
    (i12 : PySem.W.isFn K (.ref f12) = true)
    (l12 : K.lookup f12 = some ⟨oc12, od12, .func (PySem.W.fnOf "__init__" "Book.__init__" (defArgs sBookInit) (defBody sBookInit) (defScope sBookInit) .none kV12 dc12 pm12 an12 cd12 ct12), sl12⟩)
    (c12 : PySem.W.codeIn K cd12 "Book.__init__" = true)
    (k12 : PySem.W.keepIn K (.ref f12) = true)
    (a13 : PySem.W.findIn K (.ref CBook) "__len__" = some (some (.ref f13)))
    (i13 : PySem.W.isFn K (.ref f13) = true)
    (l13 : K.lookup f13 = some ⟨oc13, od13, .func (PySem.W.fnOf "__len__" "Book.__len__" (defArgs sBookLen) (defBody sBookLen) (defScope sBookLen) .none kV13 dc13 pm13 an13 cd13 ct13), sl13⟩)
    (c13 : PySem.W.codeIn K cd13 "Book.__len__" = true)
    (k13 : PySem.W.keepIn K (.ref f13) = true)
    (a14 : PySem.W.findIn K (.ref CBook) "__eq__" = some (some (.ref f14)))
    (i14 : PySem.W.isFn K (.ref f14) = true)
    (l14 : K.lookup f14 = some ⟨oc14, od14, .func (PySem.W.fnOf "__eq__" "Book.__eq__" (defArgs sBookEq) (defBody sBookEq) (defScope sBookEq) .none kV14 dc14 pm14 an14 cd14 ct14), sl14⟩)
    (c14 : PySem.W.codeIn K cd14 "Book.__eq__" = true)
    (k14 : PySem.W.keepIn K (.ref f14) = true)
    (a15 : PySem.W.findIn K (.ref CBook) "_check_page" = some (some (.ref f15)))
    (i15 : PySem.W.isFn K (.ref f15) = true)
    (l15 : K.lookup f15 = some ⟨oc15, od15, .func (PySem.W.fnOf "_check_page" "Book._check_page" (defArgs sBookCheckpage) (defBody sBookCheckpage) (defScope sBookCheckpage) .none kV15 dc15 pm15 an15 cd15 ct15), sl15⟩)
    (c15 : PySem.W.codeIn K cd15 "Book._check_page" = true)
    (k15 : PySem.W.keepIn K (.ref f15) = true)
    (a16 : PySem.W.findIn K (.ref CBook) "lines_of" = some (some (.ref f16)))
    (i16 : PySem.W.isFn K (.ref f16) = true)
    (l16 : K.lookup f16 = some ⟨oc16, od16, .func (PySem.W.fnOf "lines_of" "Book.lines_of" (defArgs sBookLinesof) (defBody sBookLinesof) (defScope sBookLinesof) .none kV16 dc16 pm16 an16 cd16 ct16), sl16⟩)
    (c16 : PySem.W.codeIn K cd16 "Book.lines_of" = true)
    (k16 : PySem.W.keepIn K (.ref f16) = true)
    (a17 : PySem.W.findIn K (.ref CBook) "followers_of" = some (some (.ref f17)))
    (i17 : PySem.W.isFn K (.ref f17) = true)
    (l17 : K.lookup f17 = some ⟨oc17, od17, .func (PySem.W.fnOf "followers_of" "Book.followers_of" (defArgs sBookFollowersof) (defBody sBookFollowersof) (defScope sBookFollowersof) .none kV17 dc17 pm17 an17 cd17 ct17), sl17⟩)
    (c17 : PySem.W.codeIn K cd17 "Book.followers_of" = true)
    (k17 : PySem.W.keepIn K (.ref f17) = true)
    (a18 : PySem.W.findIn K (.ref CBook) "index" = some (some (.ref f18)))
    (i18 : PySem.W.isFn K (.ref f18) = true)
    (l18 : K.lookup f18 = some ⟨oc18, od18, .func (PySem.W.fnOf "index" "Book.index" (defArgs sBookIndex) (defBody sBookIndex) (defScope sBookIndex) .none kV18 dc18 pm18 an18 cd18 ct18), sl18⟩)
    (c18 : PySem.W.codeIn K cd18 "Book.index" = true)
    (k18 : PySem.W.keepIn K (.ref f18) = true)
    (a19 : PySem.W.findIn K (.ref CBook) "reachable" = some (some (.ref f19)))
    (i19 : PySem.W.isFn K (.ref f19) = true)
    (l19 : K.lookup f19 = some ⟨oc19, od19, .func (PySem.W.fnOf "reachable" "Book.reachable" (defArgs sBookReachable) (defBody sBookReachable) (defScope sBookReachable) .none kV19 dc19 pm19 an19 cd19 ct19), sl19⟩)
    (c19 : PySem.W.codeIn K cd19 "Book.reachable" = true)
    (k19 : PySem.W.keepIn K (.ref f19) = true)
    (a20 : PySem.W.findIn K (.ref CHeavy) "__init__" = some (some (.ref f20)))
    (i20 : PySem.W.isFn K (.ref f20) = true)
    (l20 : K.lookup f20 = some ⟨oc20, od20, .func (PySem.W.fnOf "__init__" "Heavy.__init__" (defArgs sHeavyInit) (defBody sHeavyInit) (defScope sHeavyInit) .none kV20 dc20 pm20 an20 cd20 ct20), sl20⟩)
    (c20 : PySem.W.codeIn K cd20 "Heavy.__init__" = true)
    (k20 : PySem.W.keepIn K (.ref f20) = true)
    (a21 : PySem.W.nsIn K mainGlobals "page_weights" = some (some (.ref f21)))
    (l21 : K.lookup f21 = some ⟨oc21, od21, .func (PySem.W.fnOf "page_weights" "page_weights" (defArgs spageweights) (defBody spageweights) (defScope spageweights) .none kV21 dc21 pm21 an21 cd21 ct21), sl21⟩)
    (c21 : PySem.W.codeIn K cd21 "page_weights" = true)
    (k21 : PySem.W.keepIn K (.ref f21) = true)
    (a22 : PySem.W.nsIn K mainGlobals "short_rings" = some (some (.ref f22)))
    (l22 : K.lookup f22 = some ⟨oc22, od22, .func (PySem.W.fnOf "short_rings" "short_rings" (defArgs sshortrings) (defBody sshortrings) (defScope sshortrings) .none kV22 dc22 pm22 an22 cd22 ct22), sl22⟩)
    (c22 : PySem.W.codeIn K cd22 "short_rings" = true)
    (k22 : PySem.W.keepIn K (.ref f22) = true)
    (a23 : PySem.W.nsIn K mainGlobals "one_more" = some (some (.ref f23)))
    (l23 : K.lookup f23 = some ⟨oc23, od23, .func (PySem.W.fnOf "one_more" "one_more" (defArgs sonemore) (defBody sonemore) (defScope sonemore) .none kV23 dc23 pm23 an23 cd23 ct23), sl23⟩)
    (c23 : PySem.W.codeIn K cd23 "one_more" = true)
    (k23 : PySem.W.keepIn K (.ref f23) = true)
    (a24 : PySem.W.nsIn K mainGlobals "worths_of" = some (some (.ref f24)))
    (l24 : K.lookup f24 = some ⟨oc24, od24, .func (PySem.W.fnOf "worths_of" "worths_of" (defArgs sworthsof) (defBody sworthsof) (defScope sworthsof) .none kV24 dc24 pm24 an24 cd24 ct24), sl24⟩)
    (c24 : PySem.W.codeIn K cd24 "worths_of" = true)
    (k24 : PySem.W.keepIn K (.ref f24) = true)
    (a25 : PySem.W.nsIn K mainGlobals "heaviest" = some (some (.ref f25)))
    (l25 : K.lookup f25 = some ⟨oc25, od25, .func (PySem.W.fnOf "heaviest" "heaviest" (defArgs sheaviest) (defBody sheaviest) (defScope sheaviest) .none kV25 dc25 pm25 an25 cd25 ct25), sl25⟩)
    (c25 : PySem.W.codeIn K cd25 "heaviest" = true)
    (k25 : PySem.W.keepIn K (.ref f25) = true)
    (a26 : PySem.W.nsIn K mainGlobals "most_in" = some (some (.ref f26)))
    (l26 : K.lookup f26 = some ⟨oc26, od26, .func (PySem.W.fnOf "most_in" "most_in" (defArgs smostin) (defBody smostin) (defScope smostin) .none kV26 dc26 pm26 an26 cd26 ct26), sl26⟩)
    (c26 : PySem.W.codeIn K cd26 "most_in" = true)
    (k26 : PySem.W.keepIn K (.ref f26) = true)
    (a27 : PySem.W.nsIn K mainGlobals "_law_cell" = some (some (.ref f27)))
    (l27 : K.lookup f27 = some ⟨oc27, od27, .func (PySem.W.fnOf "_law_cell" "_law_cell" (defArgs sLcell) (defBody sLcell) (defScope sLcell) .none kV27 dc27 pm27 an27 cd27 ct27), sl27⟩)
    (c27 : PySem.W.codeIn K cd27 "_law_cell" = true)
    (k27 : PySem.W.keepIn K (.ref f27) = true)
    (a28 : PySem.W.nsIn K mainGlobals "_law_pool" = some (some (.ref f28)))
    (l28 : K.lookup f28 = some ⟨oc28, od28, .func (PySem.W.fnOf "_law_pool" "_law_pool" (defArgs sLpool) (defBody sLpool) (defScope sLpool) .none kV28 dc28 pm28 an28 cd28 ct28), sl28⟩)
    (c28 : PySem.W.codeIn K cd28 "_law_pool" = true)
    (k28 : PySem.W.keepIn K (.ref f28) = true)
    (a29 : PySem.W.nsIn K mainGlobals "_law_take" = some (some (.ref f29)))
    (l29 : K.lookup f29 = some ⟨oc29, od29, .func (PySem.W.fnOf "_law_take" "_law_take" (defArgs sLtake) (defBody sLtake) (defScope sLtake) .none kV29 dc29 pm29 an29 cd29 ct29), sl29⟩)
    (c29 : PySem.W.codeIn K cd29 "_law_take" = true)
    (k29 : PySem.W.keepIn K (.ref f29) = true)
    (a30 : PySem.W.nsIn K mainGlobals "_law_same" = some (some (.ref f30)))
    (l30 : K.lookup f30 = some ⟨oc30, od30, .func (PySem.W.fnOf "_law_same" "_law_same" (defArgs sLsame) (defBody sLsame) (defScope sLsame) .none kV30 dc30 pm30 an30 cd30 ct30), sl30⟩)
    (c30 : PySem.W.codeIn K cd30 "_law_same" = true)
    (k30 : PySem.W.keepIn K (.ref f30) = true)
    (a31 : PySem.W.nsIn K mainGlobals "_law_int" = some (some (.ref f31)))
    (l31 : K.lookup f31 = some ⟨oc31, od31, .func (PySem.W.fnOf "_law_int" "_law_int" (defArgs sLint) (defBody sLint) (defScope sLint) .none kV31 dc31 pm31 an31 cd31 ct31), sl31⟩)
    (c31 : PySem.W.codeIn K cd31 "_law_int" = true)
    (k31 : PySem.W.keepIn K (.ref f31) = true)
    (a32 : PySem.W.nsIn K mainGlobals "_law_word" = some (some (.ref f32)))
    (l32 : K.lookup f32 = some ⟨oc32, od32, .func (PySem.W.fnOf "_law_word" "_law_word" (defArgs sLword) (defBody sLword) (defScope sLword) .none kV32 dc32 pm32 an32 cd32 ct32), sl32⟩)
    (c32 : PySem.W.codeIn K cd32 "_law_word" = true)
    (k32 : PySem.W.keepIn K (.ref f32) = true)
    (a33 : PySem.W.nsIn K mainGlobals "_law_words" = some (some (.ref f33)))
    (l33 : K.lookup f33 = some ⟨oc33, od33, .func (PySem.W.fnOf "_law_words" "_law_words" (defArgs sLwords) (defBody sLwords) (defScope sLwords) .none kV33 dc33 pm33 an33 cd33 ct33), sl33⟩)
    (c33 : PySem.W.codeIn K cd33 "_law_words" = true)
    (k33 : PySem.W.keepIn K (.ref f33) = true)
    (a34 : PySem.W.nsIn K mainGlobals "_law_some" = some (some (.ref f34)))
    (l34 : K.lookup f34 = some ⟨oc34, od34, .func (PySem.W.fnOf "_law_some" "_law_some" (defArgs sLsome) (defBody sLsome) (defScope sLsome) .none kV34 dc34 pm34 an34 cd34 ct34), sl34⟩)
    (c34 : PySem.W.codeIn K cd34 "_law_some" = true)
    (k34 : PySem.W.keepIn K (.ref f34) = true)
    (a35 : PySem.W.nsIn K mainGlobals "_law_sheets" = some (some (.ref f35)))
    (l35 : K.lookup f35 = some ⟨oc35, od35, .func (PySem.W.fnOf "_law_sheets" "_law_sheets" (defArgs sLsheets) (defBody sLsheets) (defScope sLsheets) .none kV35 dc35 pm35 an35 cd35 ct35), sl35⟩)
    (c35 : PySem.W.codeIn K cd35 "_law_sheets" = true)
    (k35 : PySem.W.keepIn K (.ref f35) = true)
    (a36 : PySem.W.nsIn K mainGlobals "_law_places" = some (some (.ref f36)))
    (l36 : K.lookup f36 = some ⟨oc36, od36, .func (PySem.W.fnOf "_law_places" "_law_places" (defArgs sLplaces) (defBody sLplaces) (defScope sLplaces) .none kV36 dc36 pm36 an36 cd36 ct36), sl36⟩)
    (c36 : PySem.W.codeIn K cd36 "_law_places" = true)
    (k36 : PySem.W.keepIn K (.ref f36) = true)
    (a37 : PySem.W.nsIn K mainGlobals "_law_handed" = some (some (.ref f37)))
    (l37 : K.lookup f37 = some ⟨oc37, od37, .func (PySem.W.fnOf "_law_handed" "_law_handed" (defArgs sLhanded) (defBody sLhanded) (defScope sLhanded) .none kV37 dc37 pm37 an37 cd37 ct37), sl37⟩)
    (c37 : PySem.W.codeIn K cd37 "_law_handed" = true)
    (k37 : PySem.W.keepIn K (.ref f37) = true)
    (a38 : PySem.W.nsIn K mainGlobals "_law_grown" = some (some (.ref f38)))
    (l38 : K.lookup f38 = some ⟨oc38, od38, .func (PySem.W.fnOf "_law_grown" "_law_grown" (defArgs sLgrown) (defBody sLgrown) (defScope sLgrown) .none kV38 dc38 pm38 an38 cd38 ct38), sl38⟩)
    (c38 : PySem.W.codeIn K cd38 "_law_grown" = true)
    (k38 : PySem.W.keepIn K (.ref f38) = true)
    (a39 : PySem.W.nsIn K mainGlobals "_law_mean_good" = some (some (.ref f39)))
    (l39 : K.lookup f39 = some ⟨oc39, od39, .func (PySem.W.fnOf "_law_mean_good" "_law_mean_good" (defArgs sLmeangood) (defBody sLmeangood) (defScope sLmeangood) .none kV39 dc39 pm39 an39 cd39 ct39), sl39⟩)
    (c39 : PySem.W.codeIn K cd39 "_law_mean_good" = true)
    (k39 : PySem.W.keepIn K (.ref f39) = true)
    (a40 : PySem.W.nsIn K mainGlobals "_law_ring_good" = some (some (.ref f40)))
    (l40 : K.lookup f40 = some ⟨oc40, od40, .func (PySem.W.fnOf "_law_ring_good" "_law_ring_good" (defArgs sLringgood) (defBody sLringgood) (defScope sLringgood) .none kV40 dc40 pm40 an40 cd40 ct40), sl40⟩)
    (c40 : PySem.W.codeIn K cd40 "_law_ring_good" = true)
    (k40 : PySem.W.keepIn K (.ref f40) = true)
    (a41 : PySem.W.nsIn K mainGlobals "_law_sweep" = some (some (.ref f41)))
    (l41 : K.lookup f41 = some ⟨oc41, od41, .func (PySem.W.fnOf "_law_sweep" "_law_sweep" (defArgs sLsweep) (defBody sLsweep) (defScope sLsweep) .none kV41 dc41 pm41 an41 cd41 ct41), sl41⟩)
    (c41 : PySem.W.codeIn K cd41 "_law_sweep" = true)
    (k41 : PySem.W.keepIn K (.ref f41) = true)
    (a42 : PySem.W.nsIn K mainGlobals "_law_shown" = some (some (.ref f42)))
    (l42 : K.lookup f42 = some ⟨oc42, od42, .func (PySem.W.fnOf "_law_shown" "_law_shown" (defArgs sLshown) (defBody sLshown) (defScope sLshown) .none kV42 dc42 pm42 an42 cd42 ct42), sl42⟩)
    (c42 : PySem.W.codeIn K cd42 "_law_shown" = true)
    (k42 : PySem.W.keepIn K (.ref f42) = true)
    (a43 : PySem.W.nsIn K mainGlobals "_law_heavy_good" = some (some (.ref f43)))
    (l43 : K.lookup f43 = some ⟨oc43, od43, .func (PySem.W.fnOf "_law_heavy_good" "_law_heavy_good" (defArgs sLheavygood) (defBody sLheavygood) (defScope sLheavygood) .none kV43 dc43 pm43 an43 cd43 ct43), sl43⟩)
    (c43 : PySem.W.codeIn K cd43 "_law_heavy_good" = true)
    (k43 : PySem.W.keepIn K (.ref f43) = true)
    (a44 : PySem.W.nsIn K mainGlobals "_law_perm" = some (some (.ref f44)))
    (l44 : K.lookup f44 = some ⟨oc44, od44, .func (PySem.W.fnOf "_law_perm" "_law_perm" (defArgs sLperm) (defBody sLperm) (defScope sLperm) .none kV44 dc44 pm44 an44 cd44 ct44), sl44⟩)
    (c44 : PySem.W.codeIn K cd44 "_law_perm" = true)
    (k44 : PySem.W.keepIn K (.ref f44) = true)
    (a45 : PySem.W.nsIn K mainGlobals "_law_page_weights" = some (some (.ref f45)))
    (l45 : K.lookup f45 = some ⟨oc45, od45, .func (PySem.W.fnOf "_law_page_weights" "_law_page_weights" (defArgs sLpageweights) (defBody sLpageweights) (defScope sLpageweights) .none kV45 dc45 pm45 an45 cd45 ct45), sl45⟩)
    (c45 : PySem.W.codeIn K cd45 "_law_page_weights" = true)
    (k45 : PySem.W.keepIn K (.ref f45) = true)
    (a46 : PySem.W.nsIn K mainGlobals "_law_table" = some (some (.ref f46)))
    (l46 : K.lookup f46 = some ⟨oc46, od46, .func (PySem.W.fnOf "_law_table" "_law_table" (defArgs sLtable) (defBody sLtable) (defScope sLtable) .none kV46 dc46 pm46 an46 cd46 ct46), sl46⟩)
    (c46 : PySem.W.codeIn K cd46 "_law_table" = true)
    (k46 : PySem.W.keepIn K (.ref f46) = true)
    (a47 : PySem.W.nsIn K mainGlobals "_law_seen" = some (some (.ref f47)))
    (l47 : K.lookup f47 = some ⟨oc47, od47, .func (PySem.W.fnOf "_law_seen" "_law_seen" (defArgs sLseen) (defBody sLseen) (defScope sLseen) .none kV47 dc47 pm47 an47 cd47 ct47), sl47⟩)
    (c47 : PySem.W.codeIn K cd47 "_law_seen" = true)
    (k47 : PySem.W.keepIn K (.ref f47) = true)
    (a48 : PySem.W.nsIn K mainGlobals "_law_scaled_good" = some (some (.ref f48)))
    (l48 : K.lookup f48 = some ⟨oc48, od48, .func (PySem.W.fnOf "_law_scaled_good" "_law_scaled_good" (defArgs sLscaledgood) (defBody sLscaledgood) (defScope sLscaledgood) .none kV48 dc48 pm48 an48 cd48 ct48), sl48⟩)
    (c48 : PySem.W.codeIn K cd48 "_law_scaled_good" = true)
    (k48 : PySem.W.keepIn K (.ref f48) = true)
    (a49 : PySem.W.nsIn K mainGlobals "_law_not_less" = some (some (.ref f49)))
    (l49 : K.lookup f49 = some ⟨oc49, od49, .func (PySem.W.fnOf "_law_not_less" "_law_not_less" (defArgs sLnotless) (defBody sLnotless) (defScope sLnotless) .none kV49 dc49 pm49 an49 cd49 ct49), sl49⟩)
    (c49 : PySem.W.codeIn K cd49 "_law_not_less" = true)
    (k49 : PySem.W.keepIn K (.ref f49) = true)
    (a50 : PySem.W.nsIn K mainGlobals "_law_with" = some (some (.ref f50)))
    (l50 : K.lookup f50 = some ⟨oc50, od50, .func (PySem.W.fnOf "_law_with" "_law_with" (defArgs sLwith) (defBody sLwith) (defScope sLwith) .none kV50 dc50 pm50 an50 cd50 ct50), sl50⟩)
    (c50 : PySem.W.codeIn K cd50 "_law_with" = true)
    (k50 : PySem.W.keepIn K (.ref f50) = true)
    (a51 : PySem.W.nsIn K mainGlobals "law" = some (some (.ref f51)))
    (l51 : K.lookup f51 = some ⟨oc51, od51, .func (PySem.W.fnOf "law" "law" (defArgs sLaw) (defBody sLaw) (defScope sLaw) .none kV51 dc51 pm51 an51 cd51 ct51), sl51⟩)
    (c51 : PySem.W.codeIn K cd51 "law" = true)
    (k51 : PySem.W.keepIn K (.ref f51) = true)
    (h_ty_DepotError : PySem.W.typeIn K (.ref CDepotError) = some (.type "type"))
    (h_bs_DepotError : PySem.W.subIn K (.ref CDepotError) (.type "BaseException") = some true)
    (h_hd_DepotError : PySem.W.hasDictIn K CDepotError = true)
    (h_ty_BadBook : PySem.W.typeIn K (.ref CBadBook) = some (.type "type"))
    (h_bs_BadBook : PySem.W.subIn K (.ref CBadBook) (.type "BaseException") = some true)
    (h_hd_BadBook : PySem.W.hasDictIn K CBadBook = true)
    (h_ty_UnknownName : PySem.W.typeIn K (.ref CUnknownName) = some (.type "type"))
    (h_bs_UnknownName : PySem.W.subIn K (.ref CUnknownName) (.type "BaseException") = some true)
    (h_hd_UnknownName : PySem.W.hasDictIn K CUnknownName = true)
    (h_ty_BadNumber : PySem.W.typeIn K (.ref CBadNumber) = some (.type "type"))
    (h_bs_BadNumber : PySem.W.subIn K (.ref CBadNumber) (.type "BaseException") = some true)
    (h_hd_BadNumber : PySem.W.hasDictIn K CBadNumber = true)
    (h_ty_UnknownPage : PySem.W.typeIn K (.ref CUnknownPage) = some (.type "type"))
    (h_bs_UnknownPage : PySem.W.subIn K (.ref CUnknownPage) (.type "BaseException") = some true)
    (h_hd_UnknownPage : PySem.W.hasDictIn K CUnknownPage = true)
    (h_kp_BadBook : PySem.W.keepIn K (.ref CBadBook) = true)
    (h_ga_BadBook : PySem.W.findIn K (.ref CBadBook) "__getattribute__" = some (some (.builtin "BaseException.__getattribute__")))
    (h_gg_BadBook : PySem.W.findIn K (.ref CBadBook) "__getattr__" = some none)
    (h_cl_BadBook : PySem.W.findIn K (.ref CBadBook) "__class__" = some (some (.builtin "object.__class__")))
    (h_mr_BadBook : PySem.W.mroIn K CBadBook (.type "object") = some true)
    (h_sb_BadBook_ValueError : PySem.W.subIn K (.ref CBadBook) (.type "ValueError") = some true)
    (h_no_BadBook_part : PySem.W.findIn K (.ref CBadBook) "part" = some none)
    (h_no_BadBook_place : PySem.W.findIn K (.ref CBadBook) "place" = some none)
    (h_sa_BadBook : PySem.W.findIn K (.ref CBadBook) "__setattr__" = some (some (.builtin "object.__setattr__")))
    (h_kp_BadNumber : PySem.W.keepIn K (.ref CBadNumber) = true)
    (h_ga_BadNumber : PySem.W.findIn K (.ref CBadNumber) "__getattribute__" = some (some (.builtin "BaseException.__getattribute__")))
    (h_gg_BadNumber : PySem.W.findIn K (.ref CBadNumber) "__getattr__" = some none)
    (h_cl_BadNumber : PySem.W.findIn K (.ref CBadNumber) "__class__" = some (some (.builtin "object.__class__")))
    (h_mr_BadNumber : PySem.W.mroIn K CBadNumber (.type "object") = some true)
    (h_sb_BadNumber_ValueError : PySem.W.subIn K (.ref CBadNumber) (.type "ValueError") = some true)
    (h_no_BadNumber_number : PySem.W.findIn K (.ref CBadNumber) "number" = some none)
    (h_sa_BadNumber : PySem.W.findIn K (.ref CBadNumber) "__setattr__" = some (some (.builtin "object.__setattr__")))
    (h_kp_UnknownName : PySem.W.keepIn K (.ref CUnknownName) = true)
    (h_ga_UnknownName : PySem.W.findIn K (.ref CUnknownName) "__getattribute__" = some (some (.builtin "BaseException.__getattribute__")))
    (h_gg_UnknownName : PySem.W.findIn K (.ref CUnknownName) "__getattr__" = some none)
    (h_cl_UnknownName : PySem.W.findIn K (.ref CUnknownName) "__class__" = some (some (.builtin "object.__class__")))
    (h_mr_UnknownName : PySem.W.mroIn K CUnknownName (.type "object") = some true)
    (h_sb_UnknownName_ValueError : PySem.W.subIn K (.ref CUnknownName) (.type "ValueError") = some true)
    (h_no_UnknownName_name : PySem.W.findIn K (.ref CUnknownName) "name" = some none)
    (h_sa_UnknownName : PySem.W.findIn K (.ref CUnknownName) "__setattr__" = some (some (.builtin "object.__setattr__")))
    (h_kp_UnknownPage : PySem.W.keepIn K (.ref CUnknownPage) = true)
    (h_ga_UnknownPage : PySem.W.findIn K (.ref CUnknownPage) "__getattribute__" = some (some (.builtin "BaseException.__getattribute__")))
    (h_gg_UnknownPage : PySem.W.findIn K (.ref CUnknownPage) "__getattr__" = some none)
    (h_cl_UnknownPage : PySem.W.findIn K (.ref CUnknownPage) "__class__" = some (some (.builtin "object.__class__")))
    (h_mr_UnknownPage : PySem.W.mroIn K CUnknownPage (.type "object") = some true)
    (h_sb_UnknownPage_ValueError : PySem.W.subIn K (.ref CUnknownPage) (.type "ValueError") = some true)
    (h_no_UnknownPage_number : PySem.W.findIn K (.ref CUnknownPage) "number" = some none)
    (h_sa_UnknownPage : PySem.W.findIn K (.ref CUnknownPage) "__setattr__" = some (some (.builtin "object.__setattr__")))
    (h_sp_class : PySem.W.specialIn K (.builtin "object.__class__") "__get__" = some (some (.builtin "getset_descriptor.__get__")))
    (h_tk_class : PySem.W.takesIn K (.builtin "object.__class__") = some true)
    (h_ic_Book : PySem.W.findIn K (.ref CBook) "__class__" = some (some (.builtin "object.__class__")))
    (h_mr_Book : PySem.W.mroIn K CBook (.type "object") = some true)
    (h_ity_Book : PySem.W.typeIn K (.ref CBook) = some (.type "type"))
    (h_isb_Book : PySem.W.subIn K (.ref CBook) (.ref CBook) = some true)
    (h_ihd_Book : PySem.W.hasDictIn K CBook = true)
    (k_gcd : PySem.W.nsIn K mainGlobals "gcd" = some (some (.builtin "math.gcd")))
    (xl_BadBook : K.lookup CBadBook = some (excClassObj nm_BadBook q_BadBook CBadBook N_BadBook bs_BadBook [.ref CDepotError, .type "ValueError", .type "Exception", .type "BaseException", .type "object"] true sn_BadBook sub_BadBook ab_BadBook col_BadBook dd_BadBook m0_BadBook m1_BadBook m2_BadBook m3_BadBook m5_BadBook "ValueError.__new__"))
    (xl_BadNumber : K.lookup CBadNumber = some (excClassObj nm_BadNumber q_BadNumber CBadNumber N_BadNumber bs_BadNumber [.ref CDepotError, .type "ValueError", .type "Exception", .type "BaseException", .type "object"] true sn_BadNumber sub_BadNumber ab_BadNumber col_BadNumber dd_BadNumber m0_BadNumber m1_BadNumber m2_BadNumber m3_BadNumber m5_BadNumber "ValueError.__new__"))
    (xl_UnknownName : K.lookup CUnknownName = some (excClassObj nm_UnknownName q_UnknownName CUnknownName N_UnknownName bs_UnknownName [.ref CDepotError, .type "ValueError", .type "Exception", .type "BaseException", .type "object"] true sn_UnknownName sub_UnknownName ab_UnknownName col_UnknownName dd_UnknownName m0_UnknownName m1_UnknownName m2_UnknownName m3_UnknownName m5_UnknownName "ValueError.__new__"))
    (xl_UnknownPage : K.lookup CUnknownPage = some (excClassObj nm_UnknownPage q_UnknownPage CUnknownPage N_UnknownPage bs_UnknownPage [.ref CDepotError, .type "ValueError", .type "Exception", .type "BaseException", .type "object"] true sn_UnknownPage sub_UnknownPage ab_UnknownPage col_UnknownPage dd_UnknownPage m0_UnknownPage m1_UnknownPage m2_UnknownPage m3_UnknownPage m5_UnknownPage "ValueError.__new__")) :
    ∃ fd : FuncData, (∀ (s : Shared) (v : Value), BindsTo s fd ⟨[v], []⟩ [("_law_script", v)]) ∧ ∀ base : Heap, K.In base → base.Ns mainGlobals mg → FnOk l.prog w K mg base CX0 10 fa fd ["_law_script"] (spLaw K) := by
  have e := hfa.symm.trans (PySem.W.mg_of X G a51)
  cases e
  have F0 := fun_mk (st := sBadBookInit) l0 c0 k0
  have b0 := F0.binds (ps := ["self", "part", "place"]) fun _ _ _ _ _ _ us hl => match us, hl with | [_, _, _], _ => rfl
  have F1 := fun_mk (st := sUnknownNameInit) l1 c1 k1
  have b1 := F1.binds (ps := ["self", "name"]) fun _ _ _ _ _ _ us hl => match us, hl with | [_, _], _ => rfl
  have F2 := fun_mk (st := sBadNumberInit) l2 c2 k2
  have b2 := F2.binds (ps := ["self", "number"]) fun _ _ _ _ _ _ us hl => match us, hl with | [_, _], _ => rfl
  have F3 := fun_mk (st := sUnknownPageInit) l3 c3 k3
  have b3 := F3.binds (ps := ["self", "number"]) fun _ _ _ _ _ _ us hl => match us, hl with | [_, _], _ => rfl
  have F4 := fun_mk (st := sisname) l4 c4 k4
  have b4 := F4.binds (ps := ["text"]) fun _ _ _ _ _ _ us hl => match us, hl with | [_], _ => rfl
  have F5 := fun_mk (st := salldiffer) l5 c5 k5
  have b5 := F5.binds (ps := ["words"]) fun _ _ _ _ _ _ us hl => match us, hl with | [_], _ => rfl
  have F6 := fun_mk (st := sarelines) l6 c6 k6
  have b6 := F6.binds (ps := ["lines"]) fun _ _ _ _ _ _ us hl => match us, hl with | [_], _ => rfl
  have F7 := fun_mk (st := sarepages) l7 c7 k7
  have b7 := F7.binds (ps := ["chosen", "names"]) fun _ _ _ _ _ _ us hl => match us, hl with | [_, _], _ => rfl
  have F8 := fun_mk (st := scheckpages) l8 c8 k8
  have b8 := F8.binds (ps := ["pages"]) fun _ _ _ _ _ _ us hl => match us, hl with | [_], _ => rfl
  have F9 := fun_mk (st := scheckorder) l9 c9 k9
  have b9 := F9.binds (ps := ["pages", "starts"]) fun _ _ _ _ _ _ us hl => match us, hl with | [_, _], _ => rfl
  have F10 := fun_mk (st := scheckrounds) l10 c10 k10
  have b10 := F10.binds (ps := ["rounds"]) fun _ _ _ _ _ _ us hl => match us, hl with | [_], _ => rfl
  have F11 := fun_mk (st := sascendingindexes) l11 c11 k11
  have b11 := F11.binds (ps := ["chosen", "names"]) fun _ _ _ _ _ _ us hl => match us, hl with | [_, _], _ => rfl
  have F12 := fun_mk (st := sBookInit) l12 c12 k12
  have b12 := F12.binds (ps := ["self", "pages", "starts"]) fun _ _ _ _ _ _ us hl => match us, hl with | [_, _, _], _ => rfl
  have F13 := fun_mk (st := sBookLen) l13 c13 k13
  have b13 := F13.binds (ps := ["self"]) fun _ _ _ _ _ _ us hl => match us, hl with | [_], _ => rfl
  have F14 := fun_mk (st := sBookEq) l14 c14 k14
  have b14 := F14.binds (ps := ["self", "other"]) fun _ _ _ _ _ _ us hl => match us, hl with | [_, _], _ => rfl
  have F15 := fun_mk (st := sBookCheckpage) l15 c15 k15
  have b15 := F15.binds (ps := ["self", "index"]) fun _ _ _ _ _ _ us hl => match us, hl with | [_, _], _ => rfl
  have F16 := fun_mk (st := sBookLinesof) l16 c16 k16
  have b16 := F16.binds (ps := ["self", "index"]) fun _ _ _ _ _ _ us hl => match us, hl with | [_, _], _ => rfl
  have F17 := fun_mk (st := sBookFollowersof) l17 c17 k17
  have b17 := F17.binds (ps := ["self", "index"]) fun _ _ _ _ _ _ us hl => match us, hl with | [_, _], _ => rfl
  have F18 := fun_mk (st := sBookIndex) l18 c18 k18
  have b18 := F18.binds (ps := ["self", "name"]) fun _ _ _ _ _ _ us hl => match us, hl with | [_, _], _ => rfl
  have F19 := fun_mk (st := sBookReachable) l19 c19 k19
  have b19 := F19.binds (ps := ["self"]) fun _ _ _ _ _ _ us hl => match us, hl with | [_], _ => rfl
  have F20 := fun_mk (st := sHeavyInit) l20 c20 k20
  have b20 := F20.binds (ps := ["self", "mean", "ring", "worths"]) fun _ _ _ _ _ _ us hl => match us, hl with | [_, _, _, _], _ => rfl
  have F21 := fun_mk (st := spageweights) l21 c21 k21
  have b21 := F21.binds (ps := ["book", "weights"]) fun _ _ _ _ _ _ us hl => match us, hl with | [_, _], _ => rfl
  have F22 := fun_mk (st := sshortrings) l22 c22 k22
  have b22 := F22.binds (ps := ["book"]) fun _ _ _ _ _ _ us hl => match us, hl with | [_], _ => rfl
  have F23 := fun_mk (st := sonemore) l23 c23 k23
  have b23 := F23.binds (ps := ["book", "gains", "sums"]) fun _ _ _ _ _ _ us hl => match us, hl with | [_, _, _], _ => rfl
  have F24 := fun_mk (st := sworthsof) l24 c24 k24
  have b24 := F24.binds (ps := ["book", "gains"]) fun _ _ _ _ _ _ us hl => match us, hl with | [_, _], _ => rfl
  have F25 := fun_mk (st := sheaviest) l25 c25 k25
  have b25 := F25.binds (ps := ["book", "weights"]) fun _ _ _ _ _ _ us hl => match us, hl with | [_, _], _ => rfl
  have F26 := fun_mk (st := smostin) l26 c26 k26
  have b26 := F26.binds (ps := ["book", "weights", "rounds"]) fun _ _ _ _ _ _ us hl => match us, hl with | [_, _, _], _ => rfl
  have F27 := fun_mk (st := sLcell) l27 c27 k27
  have b27 := F27.binds (ps := ["_law_script", "_law_k"]) fun _ _ _ _ _ _ us hl => match us, hl with | [_, _], _ => rfl
  have F28 := fun_mk (st := sLpool) l28 c28 k28
  have b28 := F28.binds (ps := ["_law_script", "_law_k"]) fun _ _ _ _ _ _ us hl => match us, hl with | [_, _], _ => rfl
  have F29 := fun_mk (st := sLtake) l29 c29 k29
  have b29 := F29.binds (ps := ["_law_pool_here", "_law_many"]) fun _ _ _ _ _ _ us hl => match us, hl with | [_, _], _ => rfl
  have F30 := fun_mk (st := sLsame) l30 c30 k30
  have b30 := F30.binds (ps := ["_law_got", "_law_due"]) fun _ _ _ _ _ _ us hl => match us, hl with | [_, _], _ => rfl
  have F31 := fun_mk (st := sLint) l31 c31 k31
  have b31 := F31.binds (ps := ["_law_got"]) fun _ _ _ _ _ _ us hl => match us, hl with | [_], _ => rfl
  have F32 := fun_mk (st := sLword) l32 c32 k32
  have b32 := F32.binds (ps := ["_law_pool_here", "_law_others"]) fun _ _ _ _ _ _ us hl => match us, hl with | [_, _], _ => rfl
  have F33 := fun_mk (st := sLwords) l33 c33 k33
  have b33 := F33.binds (ps := ["_law_pool_here", "_law_many"]) fun _ _ _ _ _ _ us hl => match us, hl with | [_, _], _ => rfl
  have F34 := fun_mk (st := sLsome) l34 c34 k34
  have b34 := F34.binds (ps := ["_law_pool_here", "_law_names", "_law_few", "_law_more"]) fun _ _ _ _ _ _ us hl => match us, hl with | [_, _, _, _], _ => rfl
  have F35 := fun_mk (st := sLsheets) l35 c35 k35
  have b35 := F35.binds (ps := ["_law_pool_here"]) fun _ _ _ _ _ _ us hl => match us, hl with | [_], _ => rfl
  have F36 := fun_mk (st := sLplaces) l36 c36 k36
  have b36 := F36.binds (ps := ["_law_names", "_law_chosen"]) fun _ _ _ _ _ _ us hl => match us, hl with | [_, _], _ => rfl
  have F37 := fun_mk (st := sLhanded) l37 c37 k37
  have b37 := F37.binds (ps := ["_law_sheets_here"]) fun _ _ _ _ _ _ us hl => match us, hl with | [_], _ => rfl
  have F38 := fun_mk (st := sLgrown) l38 c38 k38
  have b38 := F38.binds (ps := ["_law_followers", "_law_begin"]) fun _ _ _ _ _ _ us hl => match us, hl with | [_, _], _ => rfl
  have F39 := fun_mk (st := sLmeangood) l39 c39 k39
  have b39 := F39.binds (ps := ["_law_mean"]) fun _ _ _ _ _ _ us hl => match us, hl with | [_], _ => rfl
  have F40 := fun_mk (st := sLringgood) l40 c40 k40
  have b40 := F40.binds (ps := ["_law_ring", "_law_names", "_law_followers", "_law_reached"]) fun _ _ _ _ _ _ us hl => match us, hl with | [_, _, _, _], _ => rfl
  have F41 := fun_mk (st := sLsweep) l41 c41 k41
  have b41 := F41.binds (ps := ["_law_followers", "_law_gains", "_law_worths"]) fun _ _ _ _ _ _ us hl => match us, hl with | [_, _, _], _ => rfl
  have F42 := fun_mk (st := sLshown) l42 c42 k42
  have b42 := F42.binds (ps := ["_law_worths", "_law_reached"]) fun _ _ _ _ _ _ us hl => match us, hl with | [_, _], _ => rfl
  have F43 := fun_mk (st := sLheavygood) l43 c43 k43
  have b43 := F43.binds (ps := ["_law_heavy", "_law_names", "_law_followers", "_law_reached", "_law_weights"]) fun _ _ _ _ _ _ us hl => match us, hl with | [_, _, _, _, _], _ => rfl
  have F44 := fun_mk (st := sLperm) l44 c44 k44
  have b44 := F44.binds (ps := ["_law_pool_here", "_law_many"]) fun _ _ _ _ _ _ us hl => match us, hl with | [_, _], _ => rfl
  have F45 := fun_mk (st := sLpageweights) l45 c45 k45
  have b45 := F45.binds (ps := ["_law_sheets_here", "_law_pairs"]) fun _ _ _ _ _ _ us hl => match us, hl with | [_, _], _ => rfl
  have F46 := fun_mk (st := sLtable) l46 c46 k46
  have b46 := F46.binds (ps := ["_law_pairs"]) fun _ _ _ _ _ _ us hl => match us, hl with | [_], _ => rfl
  have F47 := fun_mk (st := sLseen) l47 c47 k47
  have b47 := F47.binds (ps := ["_law_sheets_here", "_law_starts", "_law_pairs", "_law_steps"]) fun _ _ _ _ _ _ us hl => match us, hl with | [_, _, _, _], _ => rfl
  have F48 := fun_mk (st := sLscaledgood) l48 c48 k48
  have b48 := F48.binds (ps := ["_law_base", "_law_seen_here", "_law_factor"]) fun _ _ _ _ _ _ us hl => match us, hl with | [_, _, _], _ => rfl
  have F49 := fun_mk (st := sLnotless) l49 c49 k49
  have b49 := F49.binds (ps := ["_law_base", "_law_seen_here"]) fun _ _ _ _ _ _ us hl => match us, hl with | [_, _], _ => rfl
  have F50 := fun_mk (st := sLwith) l50 c50 k50
  have b50 := F50.binds (ps := ["_law_words_here", "_law_word_here"]) fun _ _ _ _ _ _ us hl => match us, hl with | [_, _], _ => rfl
  have F51 := fun_mk (st := sLaw) l51 c51 k51
  have b51 := F51.binds (ps := ["_law_script"]) fun _ _ _ _ _ _ us hl => match us, hl with | [_], _ => rfl
  let T : Tx K mg := { t_MOST_LETTERS := _, c_MOST_LETTERS := PySem.W.mg_of X G k_MOST_LETTERS, t_MOST_PAGES := _, c_MOST_PAGES := PySem.W.mg_of X G k_MOST_PAGES, t_MOST_LINES := _, c_MOST_LINES := PySem.W.mg_of X G k_MOST_LINES, t_MOST_ROUNDS := _, c_MOST_ROUNDS := PySem.W.mg_of X G k_MOST_ROUNDS, z_abs := PySem.W.mg_none_of X G z_abs, z_all := PySem.W.mg_none_of X G z_all, z_bool := PySem.W.mg_none_of X G z_bool, z_enumerate := PySem.W.mg_none_of X G z_enumerate, z_int := PySem.W.mg_none_of X G z_int, z_isinstance := PySem.W.mg_none_of X G z_isinstance, z_len := PySem.W.mg_none_of X G z_len, z_list := PySem.W.mg_none_of X G z_list, z_max := PySem.W.mg_none_of X G z_max, z_min := PySem.W.mg_none_of X G z_min, z_range := PySem.W.mg_none_of X G z_range, z_set := PySem.W.mg_none_of X G z_set, z_sorted := PySem.W.mg_none_of X G z_sorted, z_str := PySem.W.mg_none_of X G z_str, z_sum := PySem.W.mg_none_of X G z_sum, z_tuple := PySem.W.mg_none_of X G z_tuple, C_Book := CBook, g_Book := PySem.W.mg_of X G a_Book, cl_Book := ⟨pg_Book, hd_Book, po_Book, sa_Book⟩, na_Book_names := na_Book_names, na_Book_starts := na_Book_starts, na_Book__lines := na_Book__lines, na_Book__followers := na_Book__followers, C_Heavy := CHeavy, g_Heavy := PySem.W.mg_of X G a_Heavy, cl_Heavy := ⟨pg_Heavy, hd_Heavy, po_Heavy, sa_Heavy⟩, na_Heavy_mean := na_Heavy_mean, na_Heavy_ring := na_Heavy_ring, na_Heavy_worths := na_Heavy_worths, fBadBook_init := f0, dBadBook_init := _, FBadBook_init := F0, bBadBook_init := b0, fUnknownName_init := f1, dUnknownName_init := _, FUnknownName_init := F1, bUnknownName_init := b1, fBadNumber_init := f2, dBadNumber_init := _, FBadNumber_init := F2, bBadNumber_init := b2, fUnknownPage_init := f3, dUnknownPage_init := _, FUnknownPage_init := F3, bUnknownPage_init := b3, fis_name := f4, dis_name := _, Fis_name := F4, bis_name := b4, gis_name := PySem.W.mg_of X G a4, fall_differ := f5, dall_differ := _, Fall_differ := F5, ball_differ := b5, gall_differ := PySem.W.mg_of X G a5, fare_lines := f6, dare_lines := _, Fare_lines := F6, bare_lines := b6, gare_lines := PySem.W.mg_of X G a6, fare_pages := f7, dare_pages := _, Fare_pages := F7, bare_pages := b7, gare_pages := PySem.W.mg_of X G a7, fcheck_pages := f8, dcheck_pages := _, Fcheck_pages := F8, bcheck_pages := b8, gcheck_pages := PySem.W.mg_of X G a8, fcheck_order := f9, dcheck_order := _, Fcheck_order := F9, bcheck_order := b9, gcheck_order := PySem.W.mg_of X G a9, fcheck_rounds := f10, dcheck_rounds := _, Fcheck_rounds := F10, bcheck_rounds := b10, gcheck_rounds := PySem.W.mg_of X G a10, fascending_indexes := f11, dascending_indexes := _, Fascending_indexes := F11, bascending_indexes := b11, gascending_indexes := PySem.W.mg_of X G a11, fBook_init := f12, dBook_init := _, FBook_init := F12, bBook_init := b12, M_Book := ⟨mk_Book, a12, i12, kc_Book⟩, fBook_len := f13, dBook_len := _, FBook_len := F13, bBook_len := b13, m_Book_len := ⟨a13, i13, k13⟩, fBook_eq := f14, dBook_eq := _, FBook_eq := F14, bBook_eq := b14, m_Book_eq := ⟨a14, i14, k14⟩, fBook_check_page := f15, dBook_check_page := _, FBook_check_page := F15, bBook_check_page := b15, m_Book_check_page := ⟨a15, i15, k15⟩, fBook_lines_of := f16, dBook_lines_of := _, FBook_lines_of := F16, bBook_lines_of := b16, m_Book_lines_of := ⟨a16, i16, k16⟩, fBook_followers_of := f17, dBook_followers_of := _, FBook_followers_of := F17, bBook_followers_of := b17, m_Book_followers_of := ⟨a17, i17, k17⟩, fBook_index := f18, dBook_index := _, FBook_index := F18, bBook_index := b18, m_Book_index := ⟨a18, i18, k18⟩, fBook_reachable := f19, dBook_reachable := _, FBook_reachable := F19, bBook_reachable := b19, m_Book_reachable := ⟨a19, i19, k19⟩, fHeavy_init := f20, dHeavy_init := _, FHeavy_init := F20, bHeavy_init := b20, M_Heavy := ⟨mk_Heavy, a20, i20, kc_Heavy⟩, fpage_weights := f21, dpage_weights := _, Fpage_weights := F21, bpage_weights := b21, gpage_weights := PySem.W.mg_of X G a21, fshort_rings := f22, dshort_rings := _, Fshort_rings := F22, bshort_rings := b22, gshort_rings := PySem.W.mg_of X G a22, fone_more := f23, done_more := _, Fone_more := F23, bone_more := b23, gone_more := PySem.W.mg_of X G a23, fworths_of := f24, dworths_of := _, Fworths_of := F24, bworths_of := b24, gworths_of := PySem.W.mg_of X G a24, fheaviest := f25, dheaviest := _, Fheaviest := F25, bheaviest := b25, gheaviest := PySem.W.mg_of X G a25, fmost_in := f26, dmost_in := _, Fmost_in := F26, bmost_in := b26, gmost_in := PySem.W.mg_of X G a26, f_law_cell := f27, d_law_cell := _, F_law_cell := F27, b_law_cell := b27, g_law_cell := PySem.W.mg_of X G a27, f_law_pool := f28, d_law_pool := _, F_law_pool := F28, b_law_pool := b28, g_law_pool := PySem.W.mg_of X G a28, f_law_take := f29, d_law_take := _, F_law_take := F29, b_law_take := b29, g_law_take := PySem.W.mg_of X G a29, f_law_same := f30, d_law_same := _, F_law_same := F30, b_law_same := b30, g_law_same := PySem.W.mg_of X G a30, f_law_int := f31, d_law_int := _, F_law_int := F31, b_law_int := b31, g_law_int := PySem.W.mg_of X G a31, f_law_word := f32, d_law_word := _, F_law_word := F32, b_law_word := b32, g_law_word := PySem.W.mg_of X G a32, f_law_words := f33, d_law_words := _, F_law_words := F33, b_law_words := b33, g_law_words := PySem.W.mg_of X G a33, f_law_some := f34, d_law_some := _, F_law_some := F34, b_law_some := b34, g_law_some := PySem.W.mg_of X G a34, f_law_sheets := f35, d_law_sheets := _, F_law_sheets := F35, b_law_sheets := b35, g_law_sheets := PySem.W.mg_of X G a35, f_law_places := f36, d_law_places := _, F_law_places := F36, b_law_places := b36, g_law_places := PySem.W.mg_of X G a36, f_law_handed := f37, d_law_handed := _, F_law_handed := F37, b_law_handed := b37, g_law_handed := PySem.W.mg_of X G a37, f_law_grown := f38, d_law_grown := _, F_law_grown := F38, b_law_grown := b38, g_law_grown := PySem.W.mg_of X G a38, f_law_mean_good := f39, d_law_mean_good := _, F_law_mean_good := F39, b_law_mean_good := b39, g_law_mean_good := PySem.W.mg_of X G a39, f_law_ring_good := f40, d_law_ring_good := _, F_law_ring_good := F40, b_law_ring_good := b40, g_law_ring_good := PySem.W.mg_of X G a40, f_law_sweep := f41, d_law_sweep := _, F_law_sweep := F41, b_law_sweep := b41, g_law_sweep := PySem.W.mg_of X G a41, f_law_shown := f42, d_law_shown := _, F_law_shown := F42, b_law_shown := b42, g_law_shown := PySem.W.mg_of X G a42, f_law_heavy_good := f43, d_law_heavy_good := _, F_law_heavy_good := F43, b_law_heavy_good := b43, g_law_heavy_good := PySem.W.mg_of X G a43, f_law_perm := f44, d_law_perm := _, F_law_perm := F44, b_law_perm := b44, g_law_perm := PySem.W.mg_of X G a44, f_law_page_weights := f45, d_law_page_weights := _, F_law_page_weights := F45, b_law_page_weights := b45, g_law_page_weights := PySem.W.mg_of X G a45, f_law_table := f46, d_law_table := _, F_law_table := F46, b_law_table := b46, g_law_table := PySem.W.mg_of X G a46, f_law_seen := f47, d_law_seen := _, F_law_seen := F47, b_law_seen := b47, g_law_seen := PySem.W.mg_of X G a47, f_law_scaled_good := f48, d_law_scaled_good := _, F_law_scaled_good := F48, b_law_scaled_good := b48, g_law_scaled_good := PySem.W.mg_of X G a48, f_law_not_less := f49, d_law_not_less := _, F_law_not_less := F49, b_law_not_less := b49, g_law_not_less := PySem.W.mg_of X G a49, f_law_with := f50, d_law_with := _, F_law_with := F50, b_law_with := b50, g_law_with := PySem.W.mg_of X G a50, flaw := fa, dlaw := _, Flaw := F51, blaw := b51, glaw := PySem.W.mg_of X G a51, C_DepotError := CDepotError, g_DepotError := PySem.W.mg_of X G a_DepotError, C_BadBook := CBadBook, g_BadBook := PySem.W.mg_of X G a_BadBook, C_UnknownName := CUnknownName, g_UnknownName := PySem.W.mg_of X G a_UnknownName, C_BadNumber := CBadNumber, g_BadNumber := PySem.W.mg_of X G a_BadNumber, C_UnknownPage := CUnknownPage, g_UnknownPage := PySem.W.mg_of X G a_UnknownPage, ty_DepotError := h_ty_DepotError, bs_DepotError := h_bs_DepotError, hd_DepotError := h_hd_DepotError, ty_BadBook := h_ty_BadBook, bs_BadBook := h_bs_BadBook, hd_BadBook := h_hd_BadBook, ty_UnknownName := h_ty_UnknownName, bs_UnknownName := h_bs_UnknownName, hd_UnknownName := h_hd_UnknownName, ty_BadNumber := h_ty_BadNumber, bs_BadNumber := h_bs_BadNumber, hd_BadNumber := h_hd_BadNumber, ty_UnknownPage := h_ty_UnknownPage, bs_UnknownPage := h_bs_UnknownPage, hd_UnknownPage := h_hd_UnknownPage, kp_BadBook := h_kp_BadBook, ga_BadBook := h_ga_BadBook, gg_BadBook := h_gg_BadBook, cl_BadBook := h_cl_BadBook, mr_BadBook := h_mr_BadBook, sb_BadBook_ValueError := h_sb_BadBook_ValueError, no_BadBook_part := h_no_BadBook_part, no_BadBook_place := h_no_BadBook_place, sa_BadBook := h_sa_BadBook, kp_BadNumber := h_kp_BadNumber, ga_BadNumber := h_ga_BadNumber, gg_BadNumber := h_gg_BadNumber, cl_BadNumber := h_cl_BadNumber, mr_BadNumber := h_mr_BadNumber, sb_BadNumber_ValueError := h_sb_BadNumber_ValueError, no_BadNumber_number := h_no_BadNumber_number, sa_BadNumber := h_sa_BadNumber, kp_UnknownName := h_kp_UnknownName, ga_UnknownName := h_ga_UnknownName, gg_UnknownName := h_gg_UnknownName, cl_UnknownName := h_cl_UnknownName, mr_UnknownName := h_mr_UnknownName, sb_UnknownName_ValueError := h_sb_UnknownName_ValueError, no_UnknownName_name := h_no_UnknownName_name, sa_UnknownName := h_sa_UnknownName, kp_UnknownPage := h_kp_UnknownPage, ga_UnknownPage := h_ga_UnknownPage, gg_UnknownPage := h_gg_UnknownPage, cl_UnknownPage := h_cl_UnknownPage, mr_UnknownPage := h_mr_UnknownPage, sb_UnknownPage_ValueError := h_sb_UnknownPage_ValueError, no_UnknownPage_number := h_no_UnknownPage_number, sa_UnknownPage := h_sa_UnknownPage, sp_class := h_sp_class, tk_class := h_tk_class, ic_Book := h_ic_Book, mr_Book := h_mr_Book, ity_Book := h_ity_Book, isb_Book := h_isb_Book, ihd_Book := h_ihd_Book, b_gcd := PySem.W.mg_of X G k_gcd, ox_BadBook := ⟨⟨nm_BadBook, q_BadBook, N_BadBook, bs_BadBook, _, sn_BadBook, sub_BadBook, ab_BadBook, col_BadBook, dd_BadBook, m0_BadBook, m1_BadBook, m2_BadBook, m3_BadBook, m5_BadBook, xl_BadBook, by rfl⟩, h_sa_BadBook, h_bs_BadBook, h_ty_BadBook, h_kp_BadBook⟩, ni_BadBook := a0, ti_BadBook := i0, ox_BadNumber := ⟨⟨nm_BadNumber, q_BadNumber, N_BadNumber, bs_BadNumber, _, sn_BadNumber, sub_BadNumber, ab_BadNumber, col_BadNumber, dd_BadNumber, m0_BadNumber, m1_BadNumber, m2_BadNumber, m3_BadNumber, m5_BadNumber, xl_BadNumber, by rfl⟩, h_sa_BadNumber, h_bs_BadNumber, h_ty_BadNumber, h_kp_BadNumber⟩, ni_BadNumber := a2, ti_BadNumber := i2, ox_UnknownName := ⟨⟨nm_UnknownName, q_UnknownName, N_UnknownName, bs_UnknownName, _, sn_UnknownName, sub_UnknownName, ab_UnknownName, col_UnknownName, dd_UnknownName, m0_UnknownName, m1_UnknownName, m2_UnknownName, m3_UnknownName, m5_UnknownName, xl_UnknownName, by rfl⟩, h_sa_UnknownName, h_bs_UnknownName, h_ty_UnknownName, h_kp_UnknownName⟩, ni_UnknownName := a1, ti_UnknownName := i1, ox_UnknownPage := ⟨⟨nm_UnknownPage, q_UnknownPage, N_UnknownPage, bs_UnknownPage, _, sn_UnknownPage, sub_UnknownPage, ab_UnknownPage, col_UnknownPage, dd_UnknownPage, m0_UnknownPage, m1_UnknownPage, m2_UnknownPage, m3_UnknownPage, m5_UnknownPage, xl_UnknownPage, by rfl⟩, h_sa_UnknownPage, h_bs_UnknownPage, h_ty_UnknownPage, h_kp_UnknownPage⟩, ni_UnknownPage := a3, ti_UnknownPage := i3 }
  exact ⟨_, fun s v => .of_eq rfl, fun base _ _ => ok_law T⟩
end DD
open PySem PySem.W PyProof.Rows
set_option maxRecDepth 100000 in
set_option maxHeartbeats 0 in
theorem PySem.Challenge.cw_depotday_k11_heavier_weights_holds : PySem.Challenge.rw_depotday_k11_heavier_weights.Holds := by
  w_on; o_law; k_head; (case hw => w_witness2)
  k_fill
  refine L2.walk_of (l := PySem.Challenge.rw_depotday_k11_heavier_weights) (n := 63) (k := 10) (x := "_law_script") (CX := fun _ => L2.CX0) (sp := fun w => DD.spLaw _) rfl (by decide) rfl ⟨rfl, by decide, by decide⟩ (fun w h Y => PySem.W.kIn_of Y) ?F (fun _ _ a ns hl _ hS => ⟨a, ns, rfl, hS, hl, fun _ => rfl⟩) (fun _ _ _ _ _ h => h)
  case F =>
    intro w mg fa h KX G hmg
    refine' DD.all_mk KX G hmg ?k_MOST_LETTERS ?k_MOST_PAGES ?k_MOST_LINES ?k_MOST_ROUNDS ?z_abs ?z_all ?z_bool ?z_enumerate ?z_int ?z_isinstance ?z_len ?z_list ?z_max ?z_min ?z_range ?z_set ?z_sorted ?z_str ?z_sum ?z_tuple ?a_Book ?pg_Book ?hd_Book ?po_Book ?sa_Book ?mk_Book ?kc_Book ?na_Book_names ?na_Book_starts ?na_Book__lines ?na_Book__followers ?a_Heavy ?pg_Heavy ?hd_Heavy ?po_Heavy ?sa_Heavy ?mk_Heavy ?kc_Heavy ?na_Heavy_mean ?na_Heavy_ring ?na_Heavy_worths ?a_DepotError ?a_BadBook ?a_UnknownName ?a_BadNumber ?a_UnknownPage ?a0 ?i0 ?l0 ?c0 ?k0 ?a1 ?i1 ?l1 ?c1 ?k1 ?a2 ?i2 ?l2 ?c2 ?k2 ?a3 ?i3 ?l3 ?c3 ?k3 ?a4 ?l4 ?c4 ?k4 ?a5 ?l5 ?c5 ?k5 ?a6 ?l6 ?c6 ?k6 ?a7 ?l7 ?c7 ?k7 ?a8 ?l8 ?c8 ?k8 ?a9 ?l9 ?c9 ?k9 ?a10 ?l10 ?c10 ?k10 ?a11 ?l11 ?c11 ?k11 ?a12 ?i12 ?l12 ?c12 ?k12 ?a13 ?i13 ?l13 ?c13 ?k13 ?a14 ?i14 ?l14 ?c14 ?k14 ?a15 ?i15 ?l15 ?c15 ?k15 ?a16 ?i16 ?l16 ?c16 ?k16 ?a17 ?i17 ?l17 ?c17 ?k17 ?a18 ?i18 ?l18 ?c18 ?k18 ?a19 ?i19 ?l19 ?c19 ?k19 ?a20 ?i20 ?l20 ?c20 ?k20 ?a21 ?l21 ?c21 ?k21 ?a22 ?l22 ?c22 ?k22 ?a23 ?l23 ?c23 ?k23 ?a24 ?l24 ?c24 ?k24 ?a25 ?l25 ?c25 ?k25 ?a26 ?l26 ?c26 ?k26 ?a27 ?l27 ?c27 ?k27 ?a28 ?l28 ?c28 ?k28 ?a29 ?l29 ?c29 ?k29 ?a30 ?l30 ?c30 ?k30 ?a31 ?l31 ?c31 ?k31 ?a32 ?l32 ?c32 ?k32 ?a33 ?l33 ?c33 ?k33 ?a34 ?l34 ?c34 ?k34 ?a35 ?l35 ?c35 ?k35 ?a36 ?l36 ?c36 ?k36 ?a37 ?l37 ?c37 ?k37 ?a38 ?l38 ?c38 ?k38 ?a39 ?l39 ?c39 ?k39 ?a40 ?l40 ?c40 ?k40 ?a41 ?l41 ?c41 ?k41 ?a42 ?l42 ?c42 ?k42 ?a43 ?l43 ?c43 ?k43 ?a44 ?l44 ?c44 ?k44 ?a45 ?l45 ?c45 ?k45 ?a46 ?l46 ?c46 ?k46 ?a47 ?l47 ?c47 ?k47 ?a48 ?l48 ?c48 ?k48 ?a49 ?l49 ?c49 ?k49 ?a50 ?l50 ?c50 ?k50 ?a51 ?l51 ?c51 ?k51 ?h_ty_DepotError ?h_bs_DepotError ?h_hd_DepotError ?h_ty_BadBook ?h_bs_BadBook ?h_hd_BadBook ?h_ty_UnknownName ?h_bs_UnknownName ?h_hd_UnknownName ?h_ty_BadNumber ?h_bs_BadNumber ?h_hd_BadNumber ?h_ty_UnknownPage ?h_bs_UnknownPage ?h_hd_UnknownPage ?h_kp_BadBook ?h_ga_BadBook ?h_gg_BadBook ?h_cl_BadBook ?h_mr_BadBook ?h_sb_BadBook_ValueError ?h_no_BadBook_part ?h_no_BadBook_place ?h_sa_BadBook ?h_kp_BadNumber ?h_ga_BadNumber ?h_gg_BadNumber ?h_cl_BadNumber ?h_mr_BadNumber ?h_sb_BadNumber_ValueError ?h_no_BadNumber_number ?h_sa_BadNumber ?h_kp_UnknownName ?h_ga_UnknownName ?h_gg_UnknownName ?h_cl_UnknownName ?h_mr_UnknownName ?h_sb_UnknownName_ValueError ?h_no_UnknownName_name ?h_sa_UnknownName ?h_kp_UnknownPage ?h_ga_UnknownPage ?h_gg_UnknownPage ?h_cl_UnknownPage ?h_mr_UnknownPage ?h_sb_UnknownPage_ValueError ?h_no_UnknownPage_number ?h_sa_UnknownPage ?h_sp_class ?h_tk_class ?h_ic_Book ?h_mr_Book ?h_ity_Book ?h_isb_Book ?h_ihd_Book ?k_gcd ?xl_BadBook ?xl_BadNumber ?xl_UnknownName ?xl_UnknownPage
    (case k_MOST_LETTERS => k_is)
    (case k_MOST_PAGES => k_is)
    (case k_MOST_LINES => k_is)
    (case k_MOST_ROUNDS => k_is)
    (case z_abs => k_is)
    (case z_all => k_is)
    (case z_bool => k_is)
    (case z_enumerate => k_is)
    (case z_int => k_is)
    (case z_isinstance => k_is)
    (case z_len => k_is)
    (case z_list => k_is)
    (case z_max => k_is)
    (case z_min => k_is)
    (case z_range => k_is)
    (case z_set => k_is)
    (case z_sorted => k_is)
    (case z_str => k_is)
    (case z_sum => k_is)
    (case z_tuple => k_is)
    (case a_Book => k_is)
    (case pg_Book => k_is)
    (case hd_Book => k_is)
    (case po_Book => k_is)
    (case sa_Book => k_is)
    (case mk_Book => k_is)
    (case kc_Book => k_is)
    (case na_Book_names => k_is)
    (case na_Book_starts => k_is)
    (case na_Book__lines => k_is)
    (case na_Book__followers => k_is)
    (case a_Heavy => k_is)
    (case pg_Heavy => k_is)
    (case hd_Heavy => k_is)
    (case po_Heavy => k_is)
    (case sa_Heavy => k_is)
    (case mk_Heavy => k_is)
    (case kc_Heavy => k_is)
    (case na_Heavy_mean => k_is)
    (case na_Heavy_ring => k_is)
    (case na_Heavy_worths => k_is)
    (case a_DepotError => k_is)
    (case a_BadBook => k_is)
    (case a_UnknownName => k_is)
    (case a_BadNumber => k_is)
    (case a_UnknownPage => k_is)
    (case a0 => k_is)
    (case i0 => k_is)
    (case l0 => k_is)
    (case c0 => k_is)
    (case k0 => k_is)
    (case a1 => k_is)
    (case i1 => k_is)
    (case l1 => k_is)
    (case c1 => k_is)
    (case k1 => k_is)
    (case a2 => k_is)
    (case i2 => k_is)
    (case l2 => k_is)
    (case c2 => k_is)
    (case k2 => k_is)
    (case a3 => k_is)
    (case i3 => k_is)
    (case l3 => k_is)
    (case c3 => k_is)
    (case k3 => k_is)
    (case a4 => k_is)
    (case l4 => k_is)
    (case c4 => k_is)
    (case k4 => k_is)
    (case a5 => k_is)
    (case l5 => k_is)
    (case c5 => k_is)
    (case k5 => k_is)
    (case a6 => k_is)
    (case l6 => k_is)
    (case c6 => k_is)
    (case k6 => k_is)
    (case a7 => k_is)
    (case l7 => k_is)
    (case c7 => k_is)
    (case k7 => k_is)
    (case a8 => k_is)
    (case l8 => k_is)
    (case c8 => k_is)
    (case k8 => k_is)
    (case a9 => k_is)
    (case l9 => k_is)
    (case c9 => k_is)
    (case k9 => k_is)
    (case a10 => k_is)
    (case l10 => k_is)
    (case c10 => k_is)
    (case k10 => k_is)
    (case a11 => k_is)
    (case l11 => k_is)
    (case c11 => k_is)
    (case k11 => k_is)
    (case a12 => k_is)
    (case i12 => k_is)
    (case l12 => k_is)
    (case c12 => k_is)
    (case k12 => k_is)
    (case a13 => k_is)
    (case i13 => k_is)
    (case l13 => k_is)
    (case c13 => k_is)
    (case k13 => k_is)
    (case a14 => k_is)
    (case i14 => k_is)
    (case l14 => k_is)
    (case c14 => k_is)
    (case k14 => k_is)
    (case a15 => k_is)
    (case i15 => k_is)
    (case l15 => k_is)
    (case c15 => k_is)
    (case k15 => k_is)
    (case a16 => k_is)
    (case i16 => k_is)
    (case l16 => k_is)
    (case c16 => k_is)
    (case k16 => k_is)
    (case a17 => k_is)
    (case i17 => k_is)
    (case l17 => k_is)
    (case c17 => k_is)
    (case k17 => k_is)
    (case a18 => k_is)
    (case i18 => k_is)
    (case l18 => k_is)
    (case c18 => k_is)
    (case k18 => k_is)
    (case a19 => k_is)
    (case i19 => k_is)
    (case l19 => k_is)
    (case c19 => k_is)
    (case k19 => k_is)
    (case a20 => k_is)
    (case i20 => k_is)
    (case l20 => k_is)
    (case c20 => k_is)
    (case k20 => k_is)
    (case a21 => k_is)
    (case l21 => k_is)
    (case c21 => k_is)
    (case k21 => k_is)
    (case a22 => k_is)
    (case l22 => k_is)
    (case c22 => k_is)
    (case k22 => k_is)
    (case a23 => k_is)
    (case l23 => k_is)
    (case c23 => k_is)
    (case k23 => k_is)
    (case a24 => k_is)
    (case l24 => k_is)
    (case c24 => k_is)
    (case k24 => k_is)
    (case a25 => k_is)
    (case l25 => k_is)
    (case c25 => k_is)
    (case k25 => k_is)
    (case a26 => k_is)
    (case l26 => k_is)
    (case c26 => k_is)
    (case k26 => k_is)
    (case a27 => k_is)
    (case l27 => k_is)
    (case c27 => k_is)
    (case k27 => k_is)
    (case a28 => k_is)
    (case l28 => k_is)
    (case c28 => k_is)
    (case k28 => k_is)
    (case a29 => k_is)
    (case l29 => k_is)
    (case c29 => k_is)
    (case k29 => k_is)
    (case a30 => k_is)
    (case l30 => k_is)
    (case c30 => k_is)
    (case k30 => k_is)
    (case a31 => k_is)
    (case l31 => k_is)
    (case c31 => k_is)
    (case k31 => k_is)
    (case a32 => k_is)
    (case l32 => k_is)
    (case c32 => k_is)
    (case k32 => k_is)
    (case a33 => k_is)
    (case l33 => k_is)
    (case c33 => k_is)
    (case k33 => k_is)
    (case a34 => k_is)
    (case l34 => k_is)
    (case c34 => k_is)
    (case k34 => k_is)
    (case a35 => k_is)
    (case l35 => k_is)
    (case c35 => k_is)
    (case k35 => k_is)
    (case a36 => k_is)
    (case l36 => k_is)
    (case c36 => k_is)
    (case k36 => k_is)
    (case a37 => k_is)
    (case l37 => k_is)
    (case c37 => k_is)
    (case k37 => k_is)
    (case a38 => k_is)
    (case l38 => k_is)
    (case c38 => k_is)
    (case k38 => k_is)
    (case a39 => k_is)
    (case l39 => k_is)
    (case c39 => k_is)
    (case k39 => k_is)
    (case a40 => k_is)
    (case l40 => k_is)
    (case c40 => k_is)
    (case k40 => k_is)
    (case a41 => k_is)
    (case l41 => k_is)
    (case c41 => k_is)
    (case k41 => k_is)
    (case a42 => k_is)
    (case l42 => k_is)
    (case c42 => k_is)
    (case k42 => k_is)
    (case a43 => k_is)
    (case l43 => k_is)
    (case c43 => k_is)
    (case k43 => k_is)
    (case a44 => k_is)
    (case l44 => k_is)
    (case c44 => k_is)
    (case k44 => k_is)
    (case a45 => k_is)
    (case l45 => k_is)
    (case c45 => k_is)
    (case k45 => k_is)
    (case a46 => k_is)
    (case l46 => k_is)
    (case c46 => k_is)
    (case k46 => k_is)
    (case a47 => k_is)
    (case l47 => k_is)
    (case c47 => k_is)
    (case k47 => k_is)
    (case a48 => k_is)
    (case l48 => k_is)
    (case c48 => k_is)
    (case k48 => k_is)
    (case a49 => k_is)
    (case l49 => k_is)
    (case c49 => k_is)
    (case k49 => k_is)
    (case a50 => k_is)
    (case l50 => k_is)
    (case c50 => k_is)
    (case k50 => k_is)
    (case a51 => k_is)
    (case l51 => k_is)
    (case c51 => k_is)
    (case k51 => k_is)
    (case h_ty_DepotError => k_is)
    (case h_bs_DepotError => k_is)
    (case h_hd_DepotError => k_is)
    (case h_ty_BadBook => k_is)
    (case h_bs_BadBook => k_is)
    (case h_hd_BadBook => k_is)
    (case h_ty_UnknownName => k_is)
    (case h_bs_UnknownName => k_is)
    (case h_hd_UnknownName => k_is)
    (case h_ty_BadNumber => k_is)
    (case h_bs_BadNumber => k_is)
    (case h_hd_BadNumber => k_is)
    (case h_ty_UnknownPage => k_is)
    (case h_bs_UnknownPage => k_is)
    (case h_hd_UnknownPage => k_is)
    (case h_kp_BadBook => k_is)
    (case h_ga_BadBook => k_is)
    (case h_gg_BadBook => k_is)
    (case h_cl_BadBook => k_is)
    (case h_mr_BadBook => k_is)
    (case h_sb_BadBook_ValueError => k_is)
    (case h_no_BadBook_part => k_is)
    (case h_no_BadBook_place => k_is)
    (case h_sa_BadBook => k_is)
    (case h_kp_BadNumber => k_is)
    (case h_ga_BadNumber => k_is)
    (case h_gg_BadNumber => k_is)
    (case h_cl_BadNumber => k_is)
    (case h_mr_BadNumber => k_is)
    (case h_sb_BadNumber_ValueError => k_is)
    (case h_no_BadNumber_number => k_is)
    (case h_sa_BadNumber => k_is)
    (case h_kp_UnknownName => k_is)
    (case h_ga_UnknownName => k_is)
    (case h_gg_UnknownName => k_is)
    (case h_cl_UnknownName => k_is)
    (case h_mr_UnknownName => k_is)
    (case h_sb_UnknownName_ValueError => k_is)
    (case h_no_UnknownName_name => k_is)
    (case h_sa_UnknownName => k_is)
    (case h_kp_UnknownPage => k_is)
    (case h_ga_UnknownPage => k_is)
    (case h_gg_UnknownPage => k_is)
    (case h_cl_UnknownPage => k_is)
    (case h_mr_UnknownPage => k_is)
    (case h_sb_UnknownPage_ValueError => k_is)
    (case h_no_UnknownPage_number => k_is)
    (case h_sa_UnknownPage => k_is)
    (case h_sp_class => k_is)
    (case h_tk_class => k_is)
    (case h_ic_Book => k_is)
    (case h_mr_Book => k_is)
    (case h_ity_Book => k_is)
    (case h_isb_Book => k_is)
    (case h_ihd_Book => k_is)
    (case k_gcd => k_is)
    (case xl_BadBook => k_is)
    (case xl_BadNumber => k_is)
    (case xl_UnknownName => k_is)
    (case xl_UnknownPage => k_is)
#print axioms PySem.Challenge.cw_depotday_k11_heavier_weights_holds
