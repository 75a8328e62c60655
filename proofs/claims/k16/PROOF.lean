import PyProof.Rows.All
import Wide.All
import OpenK.AllK
import Wide.FinOn
import HandS.ForMost
import HandS.Exc
import HandS.TryOnly
import HandS.ExcOwn
import HandS.WordsExc
import HandS.ExcInit
import HandS.ExcField
import HandS.ExcIs
import HandS.HotCalls
import HandS.IsInst
import HandS.ClsMeth
import HandS.More
import KE.KExcIs
import HandS.StrMore
import HandS.Walk
import HandS.Codes
import KE.GoesEnumKw
import KE.GoesMore
import PyProof.ListStr
import KE.DataEq
import KE.KCallOwn
import HandS.Star
import PyProof.CollectStr
import HandS.Strs
import KE.GoesZip
import HandS.Zip
import HandS.Small
import HandS.DictComp
import PySem.Challenge.RW_galloon_k16_paints
set_option Elab.async false
set_option linter.all false
set_option maxRecDepth 100000
section
set_option Elab.async false
set_option maxRecDepth 100000
set_option maxHeartbeats 4000000
namespace Kit
open PySem PySem.Spec PyProof.Rows L2
abbrev St := L2.St

/-! ### defs as they stand in the text, and what they promise -/
structure DefT (K : PySem.W.Frag) (mg : Str → Option Value) (x : Str) (st : Stmt) : Prop where
  ex : ∃ (f : Addr) (fd : FuncData), Fun K x x st f fd ∧ mg x = some (.ref f)
structure MetT (K : PySem.W.Frag) (C : Addr) (m q : Str) (st : Stmt) : Prop where
  ex : ∃ (f : Addr) (fd : FuncData), Fun K m q st f fd ∧ Meth K C m f
structure ClsT (K : PySem.W.Frag) (mg : Str → Option Value) (C : Addr) (x : Str) : Prop where
  cl : Cls K C
  gC : mg x = some (.ref C)
  mak : PySem.W.makesIn K C = true
  kp : PySem.W.keepIn K (.ref C) = true
section
variable (P : Program) (w : World) (K : PySem.W.Frag) (mg : Str → Option Value) (base : Heap)
structure Can (k : Nat) (x : Str) (sp : Sp) : Prop where
  ex : ∃ (f : Addr) (fd : FuncData) (ps : List Str), FnOk P w K mg base (L2.CX P w) k f fd ps sp ∧ mg x = some (.ref f) ∧ PySem.W.keepIn K (.ref f) = true ∧ Binds K fd ps []
structure CanM (k : Nat) (C : Addr) (m : Str) (sp : Sp) : Prop where
  ex : ∃ (f : Addr) (fd : FuncData) (ps : List Str), FnOk P w K mg base (L2.CX P w) k f fd ps sp ∧ Cls K C ∧ Meth K C m f ∧ Binds K fd ps []
structure CanN (k : Nat) (C : Addr) (x : Str) (sp : Sp) : Prop where
  ex : ∃ (f : Addr) (fd : FuncData) (ps : List Str), FnOk P w K mg base (L2.CX P w) k f fd ps sp ∧ Mk K C f ∧ mg x = some (.ref C) ∧ Binds K fd ps []
end
/-- how n plain parameters bind -/
def BindsPlain (st : Stmt) (x q : Str) (ps : List Str) : Prop := ∀ (kV doc pm : Value) (an : Option Addr) (cdv ct : Value) (us : List Value), us.length = ps.length →
  bindArgs (PySem.W.fnOf x q (defArgs st) (defBody st) (defScope st) .none kV doc pm an cdv ct) ⟨us, []⟩ = pure (ps.zip us)
section
variable {P : Program} {w : World} {K : PySem.W.Frag} {mg : Str → Option Value} {base : Heap}
theorem can_of {x : Str} {st : Stmt} {N ps : List Str} {k : Nat} {sp : Sp} (D : DefT K mg x st) (S : FnScope N ps (defScope st)) (hb : BindsPlain st x x ps) (len : ∀ vs H Q E, sp vs H Q E → vs.length = ps.length)
    (body : ∀ (f : Addr) (cdv : Value) (A : Around) (outer : List Env) (s : Shared) (H : Hp) (vs : List V) (Q : VK) (E : XK), Room k (A.deeper (envOfC x (defScope st) s.heap.objs.size f cdv)) → sp vs H Q E →
      ∃ t, PSs (cxOf (L2.CX P w) P w K mg base N x (defScope st) f cdv A outer s H E) (defBody st) t ∧ t { nx := fun _ H' => Q .non H', rt := Q } (start N vs) H) : Can P w K mg base (k + 1) x sp := by
  obtain ⟨f, fd, F, g⟩ := D.ex
  exact ⟨f, fd, ps, F.okX S len (body f), g, F.kp, F.binds hb⟩
theorem canM_of {m q : Str} {C : Addr} {st : Stmt} {N ps : List Str} {k : Nat} {sp : Sp} (c : Cls K C) (D : MetT K C m q st) (S : FnScope N ps (defScope st)) (hb : BindsPlain st m q ps) (len : ∀ vs H Q E, sp vs H Q E → vs.length = ps.length)
    (body : ∀ (f : Addr) (cdv : Value) (A : Around) (outer : List Env) (s : Shared) (H : Hp) (vs : List V) (Q : VK) (E : XK), Room k (A.deeper (envOfC q (defScope st) s.heap.objs.size f cdv)) → sp vs H Q E →
      ∃ t, PSs (cxOf (L2.CX P w) P w K mg base N q (defScope st) f cdv A outer s H E) (defBody st) t ∧ t { nx := fun _ H' => Q .non H', rt := Q } (start N vs) H) : CanM P w K mg base (k + 1) C m sp := by
  obtain ⟨f, fd, F, g⟩ := D.ex
  exact ⟨f, fd, ps, F.okX S len (body f), c, g, F.binds hb⟩
theorem canN_of {x q : Str} {C : Addr} {st : Stmt} {N ps : List Str} {k : Nat} {sp : Sp} (c : ClsT K mg C x) (D : MetT K C "__init__" q st) (S : FnScope N ps (defScope st)) (hb : BindsPlain st "__init__" q ps) (len : ∀ vs H Q E, sp vs H Q E → vs.length = ps.length)
    (body : ∀ (f : Addr) (cdv : Value) (A : Around) (outer : List Env) (s : Shared) (H : Hp) (vs : List V) (Q : VK) (E : XK), Room k (A.deeper (envOfC q (defScope st) s.heap.objs.size f cdv)) → sp vs H Q E →
      ∃ t, PSs (cxOf (L2.CX P w) P w K mg base N q (defScope st) f cdv A outer s H E) (defBody st) t ∧ t { nx := fun _ H' => Q .non H', rt := Q } (start N vs) H) : CanN P w K mg base (k + 1) C x sp := by
  obtain ⟨f, fd, F, g⟩ := D.ex
  exact ⟨f, fd, ps, F.okX S len (body f), ⟨c.mak, g.at_, g.fn, c.kp⟩, c.gC, F.binds hb⟩
end

/-! ### calls: E0 where nothing is raised; a wish at the slots where something may be -/
section
variable {X : Cx} {k j : Nat} {C : Addr} {x m : Str} {sp : Sp} {W : WX} {p pos apos : Pos} {e o : Expr} {es : List Expr} {ta : TE} {t : TA}
theorem pc_f (c : Can X.prog X.w X.K X.mg X.base k x sp) (hr : Room j X.A) (hk : k ≤ j) (hg : Gl X x) (ha : PA X (e :: es) t)
    (hdb : (x == ("__debug__" : Str)) = false := by decide) (he : starEach (e :: es) X.env = (false, eval e X.env) :: starEach es X.env := by rfl) (hpl : (backTo pos (starEach es X.env)).any (·.1) = false := by rfl) :
    PE X (.Call (.Name x p) (e :: es) [] pos) (tCall sp [] E0 t) := by
  obtain ⟨f, fd, ps, F, hm, kp, b⟩ := c.ex
  exact pe_call F (hr.mono hk) hg hm kp b .nil passL ha hdb he hpl
theorem pc_f0 (c : Can X.prog X.w X.K X.mg X.base k x sp) (hr : Room j X.A) (hk : k ≤ j) (hg : Gl X x)
    (hdb : (x == ("__debug__" : Str)) = false := by decide) : PE X (.Call (.Name x p) [] [] pos) (tCall sp [] E0 tNil) := by
  obtain ⟨f, fd, ps, F, hm, kp, b⟩ := c.ex
  exact pe_call0 F (hr.mono hk) hg hm kp b .nil passL hdb
theorem pc_fS (c : Can X.prog X.w X.K X.mg X.base k x sp) (tk : Takes X W) (hr : Room j X.A) (hk : k ≤ j) (hg : Gl X x) (ha : PA X (e :: es) t)
    (hdb : (x == ("__debug__" : Str)) = false := by decide) (he : starEach (e :: es) X.env = (false, eval e X.env) :: starEach es X.env := by rfl) (hpl : (backTo pos (starEach es X.env)).any (·.1) = false := by rfl) :
    PE X (.Call (.Name x p) (e :: es) [] pos) (tCallS sp (WE W) t) := by
  obtain ⟨f, fd, ps, F, hm, kp, b⟩ := c.ex
  exact pe_callS F (hr.mono hk) hg hm kp b (passAt tk) ha hdb he hpl
theorem pc_m {pl : Sem Bool} (c : CanM X.prog X.w X.K X.mg X.base k C m sp) (hr : Room j X.A) (hk : k ≤ j) (he : PE X o ta) (ha : PA X (e :: es) t)
    (hst : starEach (e :: es) X.env = (false, eval e X.env) :: starEach es X.env := by rfl) (hpl : (backTo pos (starEach es X.env)).any (·.1) = false := by rfl)
    (ht : eval (.Call (.Attribute o m apos) (e :: es) [] pos) X.env = (do
      let v ← eval o X.env
      standAt apos.atName
      let (f, first) ← holding [v] (getMethod v m pl)
      callWith pos f first (backTo pos (starEach (e :: es) X.env)) (backToKw pos (keywordEach [] X.env))) := by rfl) :
    PE X (.Call (.Attribute o m apos) (e :: es) [] pos) (tMeth C m sp [] E0 ta t) := by
  obtain ⟨f, fd, ps, F, hc, hm, b⟩ := c.ex
  exact pe_meth (pl := pl) he hc hm F (hr.mono hk) b .nil passL ha hst hpl ht
/-- o.m(e, ..) that may raise, the wish at the slots -/
def tMethS (C : Addr) (m : Str) (sp : Sp) (W : WX) (ta : TE) (t : TA) : TE := fun σ H Q => ta σ H fun y G => ∃ a dx fs, y = .ref a ∧ G a = some (.ins C dx fs) ∧ fs.lookup m = none ∧ t σ G fun vs G' => sp (y :: vs) G' Q (WE W σ)
theorem pc_mS {pl : Sem Bool} (c : CanM X.prog X.w X.K X.mg X.base k C m sp) (tk : Takes X W) (hr : Room j X.A) (hk : k ≤ j) (he : PE X o ta) (ha : PA X (e :: es) t)
    (hst : starEach (e :: es) X.env = (false, eval e X.env) :: starEach es X.env := by rfl) (hpl : (backTo pos (starEach es X.env)).any (·.1) = false := by rfl)
    (ht : eval (.Call (.Attribute o m apos) (e :: es) [] pos) X.env = (do
      let v ← eval o X.env
      standAt apos.atName
      let (f, first) ← holding [v] (getMethod v m pl)
      callWith pos f first (backTo pos (starEach (e :: es) X.env)) (backToKw pos (keywordEach [] X.env))) := by rfl) :
    PE X (.Call (.Attribute o m apos) (e :: es) [] pos) (tMethS C m sp W ta t) := by
  obtain ⟨f, fd, ps, F, hc, hm, b⟩ := c.ex
  constructor
  intro pins s σ H Q I h
  refine PySem.W.methodCall_KW (pl := pl) (thn (he.run pins s σ H _ I h) ?_) ht
  rintro u s1 ⟨y, G, I1, ry, a, dx, fs, rfl, ga, l, q⟩
  cases ry
  refine getmeth_ok I1 ga hc hm l ?_
  refine PySem.W.callWith_K (first := [.ref a]) (h₀ := X.base) I.ok.mod.kin hm.kp (thn (ha.run pos pins s1 σ G _ I1 q) ?_) hst hpl
  rintro us s2 ⟨vs, G', I2, r, q2⟩
  exact ⟨I2.kIn, run_fnS (us := .ref a :: us) (vs := .ref a :: vs) F (hr.mono hk) b (passAt tk σ) I2 (.cons rfl r) q2⟩
theorem pc_n (c : CanN X.prog X.w X.K X.mg X.base k C x sp) (hr : Room j X.A) (hk : k + 1 ≤ j) (hg : Gl X x) (ha : PA X (e :: es) t)
    (hdb : (x == ("__debug__" : Str)) = false := by decide) (he : starEach (e :: es) X.env = (false, eval e X.env) :: starEach es X.env := by rfl) (hpl : (backTo pos (starEach es X.env)).any (·.1) = false := by rfl) :
    PE X (.Call (.Name x p) (e :: es) [] pos) (tMake C sp [] E0 t) := by
  obtain ⟨f, fd, ps, F, M, hm, b⟩ := c.ex
  exact pe_make M F (hr.mono hk) hg hm b .nil passL ha hdb he hpl
def tMakeS (C : Addr) (sp : Sp) (W : WX) (t : TA) : TE := fun σ H Q => t σ H fun vs G => ∀ y dx, G y = none → G dx = none → dx ≠ y →
  sp (.ref y :: vs) (upd (upd G dx (.own y)) y (.ins C dx [])) (fun v G' => v = .non ∧ Q (.ref y) G') (WE W σ)
end
end Kit

end
section
set_option Elab.async false
set_option maxRecDepth 100000
set_option maxHeartbeats 4000000
namespace Kit
open PySem PySem.Spec PyProof.Rows L2

/-! ### a class made, whose __init__ may raise -/
section
variable {X : Cx} {k j : Nat} {C : Addr} {x : Str} {sp : Sp} {W : WX} {p pos : Pos} {e : Expr} {es : List Expr} {t : TA}
theorem pc_nS (c : CanN X.prog X.w X.K X.mg X.base k C x sp) (tk : Takes X W) (hr : Room j X.A) (hk : k + 1 ≤ j) (hg : Gl X x) (ha : PA X (e :: es) t)
    (hdb : (x == ("__debug__" : Str)) = false := by decide) (he : starEach (e :: es) X.env = (false, eval e X.env) :: starEach es X.env := by rfl) (hpl : (backTo pos (starEach es X.env)).any (·.1) = false := by rfl) :
    PE X (.Call (.Name x p) (e :: es) [] pos) (tMakeS C sp W t) := by
  obtain ⟨f, fd, ps, F, M, hm, b⟩ := c.ex
  have hr := hr.mono hk
  constructor
  intro pins s σ H Q I h
  refine wpAny_Call_Name_kw (ld_glob I hg hm ?_ hdb)
  refine PySem.W.callWith_K (h₀ := X.base) I.ok.mod.kin M.kp (thn (ha.run pos pins s σ H _ I h) ?_) he hpl
  rintro us s1 ⟨vs, G, I1, r, q⟩
  refine ⟨I1.kIn, ?_⟩
  have hq := q (s1.heap.objs.size + 1) s1.heap.objs.size (I1.hok.fresh (Nat.le_succ _)) (I1.hok.fresh (Nat.le_refl _)) (Nat.ne_of_lt (Nat.lt_succ_self _))
  have J := Inv.made (C := C) I1
  have r2 : Vals (V.ref (s1.heap.objs.size + 1) :: vs) (Value.ref (s1.heap.objs.size + 1) :: us) := .cons rfl r
  have hl : (Value.ref (s1.heap.objs.size + 1) :: us ++ []).length = ps.length := by
    have z := r2.length
    rw [F.len _ _ _ _ hq] at z
    rw [List.append_nil]
    exact z.symm
  have bb := b _ (Value.ref (s1.heap.objs.size + 1) :: us) J.kIn hl
  rw [List.append_nil] at bb
  refine wpAny_call (make_map (f := f) I1.kIn M.makes M.init (beq_iff_eq.mp M.fn) (codeAny_mono (F.run _ X.stack _ _ ⟨Value.ref (s1.heap.objs.size + 1) :: us, []⟩ (Value.ref (s1.heap.objs.size + 1) :: us) _ _ (WE W σ) (hr.make C us []) (J.env0.make C us []) bb r2 hq) ?_))
  intro r s' z
  cases r with
  | error er => exact passAt tk σ pins _ _ er s' J z
  | ok fl =>
    cases fl with
    | ret u =>
      obtain ⟨v, H', I3, rv, ev, q3⟩ := J.after z
      subst ev
      exact ⟨rv, V.ref (s1.heap.objs.size + 1), H', I3, rfl, q3⟩
    | next => exact z.elim
    | brk => exact z.elim
    | cont => exact z.elim
end

/-! ### own errors with one field -/
structure ErrT (K : PySem.W.Frag) (mg : Str → Option Value) (C : Addr) (x q fld : Str) (st : Stmt) : Prop where
  gC : mg x = some (.ref C)
  oex : OexC K C
  noF : PySem.W.findIn K (.ref C) fld = some none
  ini : ∃ (f : Addr) (fd : FuncData), Fun K "__init__" q st f fd ∧ PySem.W.findIn K (.ref C) "__init__" = some (some (.ref f)) ∧ PySem.W.typeIn K (.ref f) = some (.type "function")
/-- what isinstance and the reading of a field ask of an error's class -/
structure ErrC (K : PySem.W.Frag) (C : Addr) : Prop where
  xf : XfC K C
  ha : PySem.W.findIn K (.ref C) "__class__" = some (some (.builtin "object.__class__"))
  hn : PySem.W.specialIn K (.builtin "object.__class__") "__get__" = some (some (.builtin "getset_descriptor.__get__"))
  ht : PySem.W.takesIn K (.builtin "object.__class__") = some true
  hm : PySem.W.mroIn K C (.type "object") = some true
  hc : (PySem.W.clsIn K C).isSome = true
def spErr (C : Addr) (fld : Str) : Sp := fun vs H Q _ => ∃ (a : Addr) (y : V), vs = [.ref a, y] ∧ H a = some (exo a C none) ∧ ∀ dx, H dx = none → dx ≠ a → Q .non (upd (upd H dx (exd dx [(fld, y)])) a (exo a C (some dx)))
section
variable (P : Program) (w : World) (K : PySem.W.Frag) (mg : Str → Option Value) (base : Heap)
structure CanE (C : Addr) (x fld : Str) : Prop where
  gC : mg x = some (.ref C)
  oex : OexC K C
  ex : ∃ (f : Addr) (fd : FuncData) (ps : List Str), FnOk P w K mg base (L2.CX P w) 1 f fd ps (spErr C fld) ∧ PySem.W.findIn K (.ref C) "__init__" = some (some (.ref f)) ∧ PySem.W.typeIn K (.ref f) = some (.type "function") ∧ Binds K fd ps []
end
section
variable {P : Program} {w : World} {K : PySem.W.Frag} {mg : Str → Option Value} {base : Heap}
theorem canE_of {C : Addr} {x q fld : Str} {st : Stmt} {N ps : List Str} (D : ErrT K mg C x q fld st) (S : FnScope N ps (defScope st)) (hb : BindsPlain st "__init__" q ps) (hl : ps.length = 2)
    (body : ∀ (f : Addr) (cdv : Value) (A : Around) (outer : List Env) (s : Shared) (H : Hp) (E : XK),
      PSs (cxOf (L2.CX P w) P w K mg base N q (defScope st) f cdv A outer s H E) (defBody st) (tOst K fld (tVar 0) (tVar 1))) (hN : N.length = 2) : CanE P w K mg base C x fld := by
  obtain ⟨f, fd, F, g, ty⟩ := D.ini
  refine ⟨D.gC, D.oex, f, fd, ps, F.okX S (fun vs H Q E h => ?_) (fun cdv A outer s H vs Q E _ h => ?_), g, ty, F.binds hb⟩
  · obtain ⟨a, y, rfl, _⟩ := h
    rw [hl]
    rfl
  · obtain ⟨a, y, rfl, ha, z⟩ := h
    refine ⟨_, body f cdv A outer s H E, ?_⟩
    match N, hN with
    | [n0, n1], _ => exact ⟨y, rfl, .ref a, rfl, a, C, rfl, D.oex, D.noF, .inl ⟨ha, fun dx n ne => z dx n ne⟩⟩
end
section
variable {X : Cx} {C : Addr} {x fld : Str} {W : WX} {p pos pos2 : Pos} {e : Expr} {te : TE} {j : Nat}
/-- raise X(e) -/
theorem pr_err (c : CanE X.prog X.w X.K X.mg X.base C x fld) (tk : Takes X W) (hcalm : X.calm = true) (hr : Room j X.A) (hk : 2 ≤ j) (hg : Gl X x) (ha : PE X e te)
    (he : starEach [e] X.env = (false, eval e X.env) :: starEach [] X.env := by rfl) (hpl : (backTo pos (starEach [] X.env)).any (·.1) = false := by rfl) (hdb : (x == ("__debug__" : Str)) = false := by decide) :
    PS X (.Raise (some (.Call (.Name x p) [e] [] pos)) none pos2) (fun _ σ H => tMkO C (spErr C fld) [] (tCons te tNil) σ H fun cls d H' => W cls d σ H') := by
  obtain ⟨f, fd, ps, F, g, ty, b⟩ := c.ex
  exact L2.ps_raise hcalm tk (pmk_oex c.oex g ty F (hr.mono hk) b .nil passL hg c.gC (pa_cons ha pa_nil (hs := he)) hdb he hpl)
/-- the reading behind the value of e -/
theorem mkE {H : Hp} {y : V} {Q : XK} (h : ∀ d, H d = none → Q (.ref C) (some d) (upd H d (.xd [(fld, y)]))) : [y].length ≤ 1000 ∧ ∀ a, H a = none → spErr C fld (.ref a :: ([y] ++ [])) (upd H a (exo a C none))
    (fun v G => v = .non ∧ ∃ (d : Addr) (fs : List (Str × V)), G a = some (exo a C (some d)) ∧ G d = some (exd d fs) ∧ H d = none ∧ Q (.ref C) (some d) (upd (L2.del G a) d (.xd fs))) (fun _ _ _ => False) := by
  refine ⟨by show 1 ≤ 1000; decide, fun a na => ⟨a, y, rfl, upd_same, fun dx n ne => ⟨rfl, dx, [(fld, y)], upd_same, ?_, ?_, ?_⟩⟩⟩
  · rw [upd_ne ne, upd_same]
  · rw [upd_ne ne] at n
    exact n
  · rw [upd_ne ne] at n
    have z : upd (L2.del (upd (upd (upd H a (exo a C none)) dx (exd dx [(fld, y)])) a (exo a C (some dx))) a) dx (.xd [(fld, y)]) = upd H dx (.xd [(fld, y)]) := by
      funext b
      by_cases hb : b = dx
      · rw [hb, upd_same, upd_same]
      · rw [upd_ne hb, upd_ne hb]
        by_cases hc : b = a
        · rw [hc, L2.del_same, na]
        · rw [L2.del_ne hc, upd_ne hc, upd_ne hb, upd_ne hc]
    rw [z]
    exact h dx n
end

/-! ### a def called in an except suite, the caught error handed to it -/
abbrev SpE := Addr → Value → Option Addr → Sp
structure FnE (P : Program) (w : World) (K : PySem.W.Frag) (mg : Str → Option Value) (base : Heap) (k : Nat) (f : Addr) (fd : FuncData) (ps : List Str) (sp : SpE) : Prop where
  len : ∀ a cls d vs H Q E, sp a cls d vs H Q E → vs.length = ps.length
  run : ∀ (A : Around) (outer : List Env) (s : Shared) (H : Hp) (args : Args) (us : List Value) (vs : List V) (Q : VK) (E : XK) (p : Addr × Obj) (cls : Value) (d : Option Addr), L2H.RoomH k A → L2H.PinOk outer H s p → Zc cls d p.2 → (∃ z, p.2.data = .fields z) →
    Env0 P w K mg base A outer s H → BindsTo s fd args (ps.zip us) → Vals vs us → sp p.1 cls d vs H Q E → codeAny (model P w) A (.call (.ref f) args) (CR (L2.CX P w) outer P w H s Q E) s
abbrev cxE (P : Program) (w : World) (K : PySem.W.Frag) (mg : Str → Option Value) (base : Heap) (N : List Str) (x : Str) (st : Stmt) (f : Addr) (cdv : Value) (A : Around) (outer : List Env) (s : Shared) (H : Hp) (E : XK) (p : Addr × Obj) : Cx :=
  L2H.cxH (L2.CX P w) P w K mg base N x (defScope st) f cdv A outer s H E p
structure CanS (P : Program) (w : World) (K : PySem.W.Frag) (mg : Str → Option Value) (base : Heap) (k : Nat) (x : Str) (sp : SpE) : Prop where
  ex : ∃ (f : Addr) (fd : FuncData) (ps : List Str), FnE P w K mg base k f fd ps sp ∧ mg x = some (.ref f) ∧ PySem.W.keepIn K (.ref f) = true ∧ Binds K fd ps []
section
variable {P : Program} {w : World} {K : PySem.W.Frag} {mg : Str → Option Value} {base : Heap}
theorem canS_of {x : Str} {st : Stmt} {N ps : List Str} {k : Nat} {sp : SpE} (D : DefT K mg x st) (S : FnScope N ps (defScope st)) (hb : BindsPlain st x x ps) (len : ∀ a cls d vs H Q E, sp a cls d vs H Q E → vs.length = ps.length)
    (body : ∀ (f : Addr) (cdv : Value) (A : Around) (outer : List Env) (s : Shared) (H : Hp) (vs : List V) (Q : VK) (E : XK) (p : Addr × Obj) (cls : Value) (d : Option Addr), L2H.RoomH k (A.deeper (envOfC x (defScope st) s.heap.objs.size f cdv)) → Zc cls d p.2 → (∃ z, p.2.data = .fields z) → sp p.1 cls d vs H Q E →
      ∃ t, PSs (cxE P w K mg base N x st f cdv A outer s H E p) (defBody st) t ∧ t { nx := fun _ H' => Q .non H', rt := Q } (start N vs) H) : CanS P w K mg base (k + 1) x sp := by
  obtain ⟨f, fd, F, g⟩ := D.ex
  refine ⟨f, fd, ps, ⟨len, ?_⟩, g, F.kp, F.binds hb⟩
  obtain ⟨oc, od, kV, doc, pm, an, cdv, ct, osl, rfl, lk, hcd⟩ := F.ex
  intro A outer s H args us vs Q E p cls d hr hpin hz hf e0 hbt r hsp
  have hl := len _ _ _ _ _ _ _ hsp
  have KX : K.In s.heap := e0.mod.kin.keeps fun b o e => (e0.bs b o e).1
  have lim : s.heap.NoLimit := e0.mod.nolimit.keeps fun b o e => (e0.bs b o e).1
  have hkind : ∀ y ∈ ps.zip us, (defScope st).names.lookup y.1 = some .local ∨ ((defScope st).names.lookup y.1 = some .cell ∧ ((cellsFrom (s.heap.objs.size + 1) (defScope st).names []).lookup y.1).isSome = true) := by
    rintro ⟨n, v⟩ hy
    rcases S.par n (List.of_mem_zip hy).1 with q | q
    · exact .inl q
    · exact .inr ⟨q, PySem.W.cellsFrom_some _ _ _ (.inl q)⟩
  refine codeAny_call_function hr.depth (KX _ _ lk) rfl S.co S.gen rfl (PySem.W.codeRec_of KX hcd) (hbt _ _ _ _ ?_)
  refine wpAny_newFunctionEnv_cells S.kind hkind ?_
  intro env he s1 y
  subst he
  refine ⟨lim.keeps y.toInCall.keep, codeAny_func ?_⟩
  obtain ⟨t, ht, hq⟩ := body f cdv A outer s H vs Q E p cls d (hr.deeper _) hz hf hsp
  have I : Inv (cxE P w K mg base N x st f cdv A outer s H E p) [] (start N vs) H s1 := L2H.inv_startH S hpin e0 hl r y
  refine wpAny_mono (ht.run [] s1 (start N vs) H _ I hq) ?_ fun e s' hs => hs
  intro fl s' hs
  cases fl with
  | ret u =>
    obtain ⟨v, σ', H', J, rv, q⟩ := hs
    exact ⟨v, H', J.os, J.bare, J.base, J.hok, rv, q⟩
  | next =>
    obtain ⟨σ', H', J, q⟩ := hs
    exact ⟨V.non, H', J.os, J.bare, J.base, J.hok, rfl, q⟩
  | brk =>
    obtain ⟨_, _, _, q⟩ := hs
    exact q.elim
  | cont =>
    obtain ⟨_, _, _, q⟩ := hs
    exact q.elim
end
/-- f(e, ..) in a suite that holds the error at a -/
def tCallE (sp : SpE) (a : Addr) (cls : Value) (d : Option Addr) (t : TA) : TE := fun σ H Q => t σ H fun vs G => sp a cls d vs G Q E0
section
variable {X : Cx} {k j : Nat} {x : Str} {sp : SpE} {a : Addr} {oe : Obj} {pn : List (Addr × Obj)} {cls : Value} {d : Option Addr} {p pos : Pos} {e : Expr} {es : List Expr} {t : TA}
theorem pc_E (c : CanS X.prog X.w X.K X.mg X.base k x sp) (hz : Zc cls d oe) (hf : ∃ z, oe.data = .fields z) (hr : Room j X.A) (hk : k ≤ j) (hg : Gl X x) (ha : PA (X.suite a ((a, oe) :: pn)) (e :: es) t)
    (hdb : (x == ("__debug__" : Str)) = false := by decide) (he : starEach (e :: es) X.env = (false, eval e X.env) :: starEach es X.env := by rfl) (hpl : (backTo pos (starEach es X.env)).any (·.1) = false := by rfl) :
    PE (X.suite a ((a, oe) :: pn)) (.Call (.Name x p) (e :: es) [] pos) (tCallE sp a cls d t) := by
  obtain ⟨f, fd, ps, F, hm, kp, hb⟩ := c.ex
  constructor
  intro pins s σ H Q I h
  refine wpAny_Call_Name_kw (ld_glob I hg hm ?_ hdb)
  refine PySem.W.callWith_K (h₀ := X.base) I.ok.mod.kin kp (thn (ha.run pos pins s σ H _ I h) ?_) he hpl
  rintro us s1 ⟨vs, G, I1, r, q⟩
  refine ⟨I1.kIn, ?_⟩
  have hl : us.length = ps.length := by
    rw [← r.length]
    exact F.len _ _ _ _ _ _ _ q
  have b := hb s1 us I1.kIn (by rw [List.append_nil]; exact hl)
  rw [List.append_nil] at b
  have P1 := I1.pin (a, oe) (List.mem_append_left _ List.mem_cons_self)
  have hpin : L2H.PinOk (X.suite a ((a, oe) :: pn)).stack G s1 (a, oe) := ⟨P1.1, P1.2.1, fun hm => (List.mem_cons.mp (I1.stkSub a hm)).elim P1.2.2.1 P1.2.2.2.1, P1.2.2.2.2⟩
  refine wpAny_call (codeAny_mono (F.run _ _ s1 G ⟨us, []⟩ us vs Q E0 (a, oe) cls d ?_ hpin hz hf I1.env0 b r q) ?_)
  · exact ⟨(hr.mono hk).dp, (hr.mono hk).un⟩
  · intro z s' hq
    cases z with
    | error er =>
      obtain ⟨_, _, _, _, _, _, _, _, _, _, _, _, y⟩ := hq
      exact y.elim
    | ok fl =>
      cases fl with
      | ret u => exact I1.after hq
      | next => exact hq.elim
      | brk => exact hq.elim
      | cont => exact hq.elim
end
/-! ### what such a def asks of the error: isinstance, a field -/
/-- the error's own dict, where it has one, is tracked -/
def XdOk (d : Option Addr) (H : Hp) : Prop := ∀ dd, d = some dd → ∃ fs, H dd = some (.xd fs)
section
variable {X : Cx} {a : Addr} {oe : Obj} {cls : Value} {d : Option Addr} {e : Expr} {te : TE} {fld : Str} {pos : Pos}
theorem pin_at (hp : (a, oe) ∈ X.pn) (hz : Zc cls d oe) (hf : ∃ z, oe.data = .fields z) {pins : List (Addr × Obj)} {σ : St} {H : Hp} {s : Shared} (I : Inv X pins σ H s) (hd : XdOk d H) {D : Addr} (hD : cls = .ref D) : ∃ od, PySem.W.InstAt s.heap a oe D od := by
  obtain ⟨hget, _⟩ := I.pin (a, oe) (List.mem_append_left _ hp)
  obtain ⟨vs, hv⟩ := hf
  subst hD
  cases hd0 : d with
  | none => exact ⟨none, hget, hz.1, by unfold PySem.W.notCls; rw [hv] <;> rfl, by rw [hz.2, hd0] <;> trivial⟩
  | some dd =>
    obtain ⟨fs, hfs⟩ := hd dd hd0
    have z : ObjOk X.prog X.w H s.heap dd (.xd fs) := I.hok dd _ hfs
    obtain ⟨mA, ⟨od, es, ep, ho, _⟩, _⟩ := z
    exact ⟨some od, hget, hz.1, by unfold PySem.W.notCls; rw [hv] <;> rfl, by rw [hz.2, hd0]; exact ho⟩
/-- isinstance(e, c), e the pinned error at a -/
def rIsP (K : PySem.W.Frag) (a : Addr) (cls : Value) (d : Option Addr) : List V → Hp → VK → Prop := fun xs H Q => ∃ (D : Addr) (c : V) (cv : Value) (b : Bool), cls = .ref D ∧ ErrC K D ∧ XdOk d H ∧ xs = [.ref a, c] ∧ (∀ u, RelV c u → u = cv) ∧ PySem.W.kitOne K (.ref D) cv = some b ∧ Q (.bl b) H
theorem call_isP (hp : (a, oe) ∈ X.pn) (hz : Zc cls d oe) (hf : ∃ z, oe.data = .fields z) : CallR X (.builtin "isinstance") (rIsP X.K a cls d) := by
  intro pins s σ H xs us Q I r h
  obtain ⟨D, c, cv, b, hD, C, hdd, rfl, hcv, e, q⟩ := h
  cases r with
  | cons rx rr =>
    cases rr with
    | cons rt rr =>
      cases rr
      cases rx
      have ec := hcv _ rt
      subst ec
      obtain ⟨od, J⟩ := pin_at hp hz hf I hdd hD
      exact PySem.W.kia_one (PySem.W.kitx_exc C.hc C.xf.ga C.xf.gg C.xf.exC C.ha C.hn C.ht C.hm) I.kIn J e (fun z => nomatch z) fun tk => ⟨.bl b, H, I.kept (t' := tk) fun _ _ z => z, rfl, q⟩
/-- e.fld, e the pinned error at a -/
def tXP (K : PySem.W.Frag) (a : Addr) (cls : Value) (d : Option Addr) (fld : Str) (te : TE) : TE := fun σ H Q => te σ H fun x G => ∃ (D dd : Addr) (fs : List (Str × V)) (v : V), x = .ref a ∧ cls = .ref D ∧ XfC K D ∧ PySem.W.findIn K (.ref D) fld = some none ∧ d = some dd ∧ G dd = some (.xd fs) ∧ fs.lookup fld = some v ∧ Q v G
theorem pe_xp (hp : (a, oe) ∈ X.pn) (hz : Zc cls d oe) (hf : ∃ z, oe.data = .fields z) (he : PE X e te) (hb : attributeBase e fld X.env (eval e X.env) = eval e X.env := by rfl) : PE X (.Attribute e fld pos) (tXP X.K a cls d fld te) := by
  constructor
  intro pins s σ H Q I h
  refine attr_of hb (thn (he.run pins s σ H _ I h) ?_)
  rintro u s1 ⟨x, G, I1, rx, D, dd, fs, v, rfl, hD, T, hno, ed, ea, l, q⟩
  cases rx
  subst ed
  obtain ⟨hget, _⟩ := I1.pin (a, oe) (List.mem_append_left _ hp)
  obtain ⟨vs, hv⟩ := hf
  have hx : ObjOk X.prog X.w G s1.heap dd (.xd fs) := I1.hok dd _ ea
  obtain ⟨mA, hns, hrel⟩ := hx
  obtain ⟨od, ho, hl⟩ := lookIn_ns hns
  obtain ⟨u, hu, ru⟩ := RelO.some_of (v := v) (o := mA fld) (by rw [← l]; exact hrel fld)
  have J : PySem.W.InstAt s1.heap a oe D (some od) := ⟨hget, hz.1.trans hD, by unfold PySem.W.notCls; rw [hv] <;> rfl, by rw [hz.2]; exact ho⟩
  exact HandSPX.exc_get I1.kIn J T.ga T.gg T.exC (PySem.W.findObj_own T.hdC hno rfl (by rw [hl, hu])) (handed_of ru) ⟨v, G, I1.tok _, ru, q⟩
/-- list.count of flat items -/
def rCntF (K : PySem.W.Frag) : V → List V → Hp → VK → Prop := fun x xs H Q => ∃ (p : Addr) (ys : List V) (y : V), x = .ref p ∧ xs = [y] ∧ SqL K H p ys ∧ flatV y = true ∧ ys.all flatV = true ∧ Q (.int (ys.countP fun z => eqV z y : Nat)) H
theorem countU {y : V} : ∀ {ys : List V} {us : List Value}, Vals ys us → ys.all flatV = true → us.countP (eqU y) = ys.countP fun z => eqV z y
  | _, _, .nil, _ => rfl
  | z :: zs, u :: us, .cons r t, f => by
    rw [List.all_cons, Bool.and_eq_true] at f
    rw [List.countP_cons, List.countP_cons, countU t f.2, eqU_of r f.1]
theorem mt_countF : MtR X "list.count" (rCntF X.K) := by
  intro pins s σ H x xs v us Q I rx rxs h
  obtain ⟨p, ys, y, rfl, rfl, hs, fy, fys, q⟩ := h
  cases rx
  cases rxs with
  | cons ry rt =>
    rename_i uy ut
    cases rt
    obtain ⟨its, rv, ⟨⟨cls, dd, data, sl⟩, n, ho, hc, hdn, hd⟩, hlen⟩ := I.list hs
    simp only at hc hd
    subst hc hd
    refine call_meets PySem.F.slot_list_count ⟨_, ho, rfl⟩ PySem.F.entry_list_count (PySem.F.args_list_count_2 _ _)
      (SeqAt.list_countAt p its.toArray n dd sl uy (eqU y)) ⟨ho, fun u hu => mem_eqAt ry fy rv fys u (by simpa using hu), ?_⟩
    have ec : its.toArray.toList.countP (eqU y) = ys.countP fun z => eqV z y := countU rv fys
    refine ⟨.int (ys.countP fun z => eqV z y : Nat), H, I.tok _, ⟨s.toks, ?_⟩, q⟩
    show Value.int ((its.toArray.toList.countP (eqU y) : Nat) : Int) s.toks = _
    rw [ec]
end
end Kit

end
section
set_option Elab.async false
set_option maxRecDepth 100000
set_option maxHeartbeats 4000000
namespace Kit
open PySem PySem.Spec PyProof.Rows L2

/-! ### texts as lists of codes -/
def S (l : List Nat) : Str := ⟨l.toArray⟩
abbrev tx (l : List Nat) : V := .str (S l)
theorem S_len (l : List Nat) : (S l).length = l.length := by
  show l.toArray.size = l.length
  exact List.size_toArray
theorem S_cps (l : List Nat) : (S l).cps.toList = l := rfl
theorem S_app (l m : List Nat) : S l ++ S m = S (l ++ m) := by
  show (⟨l.toArray ++ m.toArray⟩ : Str) = ⟨(l ++ m).toArray⟩
  rw [List.append_toArray]
theorem S_inj {l m : List Nat} (h : S l = S m) : l = m := by
  have z := congrArg (fun s => s.cps.toList) h
  exact z
theorem S_eq {l m : List Nat} : S l = S m ↔ l = m := ⟨S_inj, fun h => by rw [h]⟩
theorem S_of (s : Str) : ∃ l, s = S l := ⟨s.cps.toList, by cases s; rfl⟩
theorem S_one (c : Nat) : (⟨#[c]⟩ : Str) = S [c] := rfl
theorem cut_S (l : List Nat) (lo hi : Option Int) : cutS (S l) lo hi = S ((l.drop (HT.sIx l.length 0 lo)).take (HT.sIx l.length l.length hi - HT.sIx l.length 0 lo)) := by
  unfold cutS
  rw [S_len]
  rfl
/-- what was tracked stays -/
abbrev Ex := @Same
theorem ex_new {H : Hp} {p : Addr} {o : HO} (h : H p = none) : Same H (upd H p o) := fun b u e => by
  rw [upd_ne (ne_of_none e h)]
  exact e
/-- an object that H does not know may change -/
theorem ex_mut {H G : Hp} {p : Addr} {o : HO} (e : Same H G) (h : H p = none) : Same H (upd G p o) := fun b u hb => by
  rw [upd_ne (ne_of_none hb h)]
  exact e b u hb
theorem szl {n : Nat} (h : n ≤ 100000) : n ≤ sizeLine := Nat.le_trans h (by decide)
theorem szlt {n : Nat} (h : n < 100000) : n < sizeLine := Nat.lt_of_lt_of_le h (by decide)
theorem seqL_of {K : PySem.W.Frag} {H : Hp} {a : Addr} {xs : List V} (h : H a = some (.lst xs)) : SqL K H a xs := .inl (.inl h)
theorem seqT_of {K : PySem.W.Frag} {H : Hp} {a : Addr} {xs : List V} (h : H a = some (.tup xs)) : SqT K H a xs := .inl (.inl h)

/-! ### data: what laws compare -/
inductive D where
  | non | bl (b : Bool) | int (i : Int) | txt (l : List Nat) | lst (xs : List D) | tup (xs : List D)
mutual
def Rp (H : Hp) : D → V → Prop
  | .non, v => v = .non
  | .bl b, v => v = .bl b
  | .int i, v => v = .int i
  | .txt l, v => v = tx l
  | .lst ds, v => ∃ p vs, v = .ref p ∧ H p = some (.lst vs) ∧ Rps H ds vs
  | .tup ds, v => ∃ p vs, v = .ref p ∧ H p = some (.tup vs) ∧ Rps H ds vs
def Rps (H : Hp) : List D → List V → Prop
  | [], vs => vs = []
  | d :: ds, vs => ∃ v r, vs = v :: r ∧ Rp H d v ∧ Rps H ds r
end
mutual
theorem Rp.mono {H G : Hp} (e : Same H G) : ∀ (d : D) (v : V), Rp H d v → Rp G d v
  | .non, _, h => h
  | .bl _, _, h => h
  | .int _, _, h => h
  | .txt _, _, h => h
  | .lst ds, _, ⟨p, vs, hv, hp, r⟩ => ⟨p, vs, hv, e _ _ hp, Rps.mono e ds vs r⟩
  | .tup ds, _, ⟨p, vs, hv, hp, r⟩ => ⟨p, vs, hv, e _ _ hp, Rps.mono e ds vs r⟩
theorem Rps.mono {H G : Hp} (e : Same H G) : ∀ (ds : List D) (vs : List V), Rps H ds vs → Rps G ds vs
  | [], _, h => h
  | d :: ds, _, ⟨v, r, hv, h1, h2⟩ => ⟨v, r, hv, Rp.mono e d v h1, Rps.mono e ds r h2⟩
end
theorem Rps.len {H : Hp} : ∀ {ds : List D} {vs : List V}, Rps H ds vs → vs.length = ds.length
  | [], _, h => by
    cases h
    rfl
  | d :: ds, _, ⟨v, r, hv, _, h2⟩ => by
    rw [hv, List.length_cons, List.length_cons, Rps.len h2]
theorem Rps.at {H : Hp} : ∀ {ds : List D} {vs : List V} (i : Nat) (d : D), Rps H ds vs → ds[i]? = some d → ∃ v, vs[i]? = some v ∧ Rp H d v
  | [], _, _, _, _, e => by simp at e
  | d :: ds, _, 0, d', ⟨v, r, hv, h1, _⟩, e => by
    rw [hv]
    simp at e
    subst e
    exact ⟨v, rfl, h1⟩
  | d :: ds, _, i + 1, d', ⟨v, r, hv, _, h2⟩, e => by
    rw [hv]
    exact Rps.at i d' h2 (by simpa using e)
theorem Rps.txts {H : Hp} : ∀ (ls : List (List Nat)), Rps H (ls.map .txt) (ls.map tx)
  | [] => rfl
  | l :: ls => ⟨tx l, ls.map tx, rfl, rfl, Rps.txts ls⟩
theorem Rps.txts_eq {H : Hp} : ∀ {ls : List (List Nat)} {vs : List V}, Rps H (ls.map .txt) vs → vs = ls.map tx
  | [], _, h => h
  | l :: ls, _, ⟨v, r, hv, h1, h2⟩ => by
    rw [hv, Rps.txts_eq h2, show v = tx l from h1]
    rfl

/-! ### purses -/
def PurseAt (H : Hp) (p : Addr) : Prop := ∃ x y z : Int, H p = some (.lst [.int x, .int y, .int z]) ∧ 0 ≤ x
def spDraw : Sp := fun vs H Q _ => ∃ (p : Addr) (n : Int), vs = [.ref p, .int n] ∧ PurseAt H p ∧ 0 < n ∧ n < 1000000000 ∧ ∀ (d : Int) (o : HO), 0 ≤ d → d < n → PurseAt (upd H p o) p → Q (.int d) (upd H p o)
def spPurse (K : PySem.W.Frag) : Sp := fun vs H Q _ => ∃ (a : Addr) (ns : List Int) (k s : Int), vs = [.ref a, .int k, .int s] ∧ SqL K H a (ns.map V.int) ∧ ns.length ≤ 63 ∧ 0 ≤ k ∧ k ≤ 63 ∧ ∀ (q : Addr) (o : HO), H q = none → PurseAt (upd H q o) q → Q (.ref q) (upd H q o)
end Kit

end
section
set_option Elab.async false
set_option maxRecDepth 100000
set_option maxHeartbeats 4000000
namespace Kit
open PySem PySem.Spec PyProof.Rows L2

/-! ### comprehensions without a test, one name -/
section
variable {J : It} {n : Nat} {G : Hp → Prop} {Y : Nat → Hp → V → Hp → Prop} {te : TE} {σ : St} {H1 : Hp} {D : Addr} {Qd : Hp → Prop}
theorem wipe1 (j : Nat) (x : Option V) : wipe ((wipe σ [j]).set j x) [j] = wipe σ [j] := by
  show ((wipe σ [j]).set j x).set j none = σ.set j none
  rw [List.set_set]
  show (σ.set j none).set j none = σ.set j none
  rw [List.set_set]
theorem set1 (j : Nat) (x : Option V) : (wipe σ [j]).set j x = σ.set j x := by
  show (σ.set j none).set j x = _
  rw [List.set_set]
theorem lc_one (w : Walk J n G Y) {j : Nat} (out : List V) (hn : out.length = n) (hsz : n ≤ 100000) (hD : H1 D = none) (hG : ∀ H, Same H1 H → G H)
    (hs : ∀ i x H H' v, i < n → Same H1 H → Y i H x H' → out[i]? = some v → Same H H' ∧ ∀ Q : VK, (∀ M, Same H' M → Q v M) → te (σ.set j (some x)) H' Q)
    (hd : ∀ H, Same H1 H → H D = some (.lst out) → Qd H) :
    ∃ W : Nat → Nat → Hp → Prop, (∃ m, W 0 m (upd H1 D (.lst []))) ∧ ∀ i m H, W i m H →
      (J.stop i H ∧ Qd H) ∨ (J.go i H ∧ ∃ Nx : Hp → Prop, (∀ H', Nx H' → ∃ m', m' < m ∧ W (i + 1) m' H') ∧ ∀ x H', J.yld i H x H' → gName j x (wipe σ [j]) H' fun σ2 H2 => wipe σ2 [j] = wipe σ [j] ∧ tYes σ2 H2 fun b H3 =>
        if b = true then te σ2 H3 fun y H4 => ∃ acc, H4 D = some (.lst acc) ∧ acc.length < sizeLine ∧ Nx (upd H4 D (.lst (acc ++ [y]))) else Nx H3) := by
  refine lc_it w (fun i H => Same H1 H ∧ H D = some (.lst (out.take i))) ⟨ex_new hD, upd_same⟩ (fun i H _ h => hG H h.1) ?_ ?_
  · rintro i x H H' hi ⟨s1, hHD⟩ y
    have hv : out[i]? = some (out[i]'(by omega)) := List.getElem?_eq_getElem _
    obtain ⟨s2, ht⟩ := hs i x H H' _ hi s1 y hv
    show wipe ((wipe σ [j]).set j (some x)) [j] = _ ∧ _
    refine ⟨wipe1 j _, ?_⟩
    unfold tYes
    dsimp only
    rw [if_pos rfl]
    rw [set1]
    refine ht _ fun M s3 => ⟨out.take i, s3 _ _ (s2 _ _ hHD), by rw [List.length_take]; exact szlt (by omega), ?_⟩
    refine ⟨ex_mut ((s1.trans s2).trans s3) hD, ?_⟩
    rw [upd_same, List.take_add_one, hv]
    rfl
  · rintro H ⟨s1, hHD⟩
    refine hd H s1 ?_
    rw [hHD, List.take_of_length_le (by omega)]
end

/-! ### what a def may let out -/
def Ra (E : XK) (C : Addr) (fld : Str) (y : V) (H : Hp) : Prop := ∀ d M, Same H M → M d = some (.xd [(fld, y)]) → E (.ref C) (some d) M
theorem Ra.mono {E : XK} {C : Addr} {fld : Str} {y : V} {H G : Hp} (h : Ra E C fld y H) (e : Same H G) : Ra E C fld y G := fun d M s => h d M (e.trans s)
theorem Ra.now {E : XK} {C : Addr} {fld : Str} {y : V} {H : Hp} (h : Ra E C fld y H) : [y].length ≤ 1000 ∧ ∀ a, H a = none → spErr C fld (.ref a :: ([y] ++ [])) (upd H a (exo a C none))
    (fun v G => v = .non ∧ ∃ (d : Addr) (fs : List (Str × V)), G a = some (exo a C (some d)) ∧ G d = some (exd d fs) ∧ H d = none ∧ E (.ref C) (some d) (upd (L2.del G a) d (.xd fs))) (fun _ _ _ => False) :=
  mkE fun d hd => h d _ (ex_new hd) upd_same

/-! ### columns of a scheme: plain facts -/
def cols (n : Nat) : List Nat := (List.range n).map (97 + ·)
def inCol (n x : Nat) : Bool := decide (97 ≤ x ∧ x < 97 + n)
def inDig (c x : Nat) : Bool := decide (48 ≤ x ∧ x < 48 + c)
def isCol (n : Nat) (l : List Nat) : Bool := decide (l.length = 1) && l.all (inCol n)
def isStrip (n : Nat) (l : List Nat) : Bool := l.all (inCol n)
def isColour (c : Nat) (l : List Nat) : Bool := decide (l.length = 1) && l.all (inDig c)
def isDigs (r c : Nat) (l : List Nat) : Bool := decide (l.length = r) && l.all (inDig c)
def dig : Nat → Nat → Nat → List Nat
  | 0, _, _ => []
  | r + 1, c, k => (48 + (k / c ^ r) % c) :: dig r c k
def num (c : Nat) (l : List Nat) : Nat := l.foldl (fun acc d => acc * c + (d - 48)) 0
def Good (r c n : Nat) : Prop := (r, c, n) ∈ [(1, 2, 2), (1, 3, 3), (2, 2, 4), (2, 3, 9), (3, 2, 8)]
instance : Decidable (Good r c n) := by unfold Good; infer_instance
theorem mem_cols {n x : Nat} : x ∈ cols n ↔ inCol n x = true := by
  unfold cols inCol
  rw [List.mem_map, decide_eq_true_iff]
  constructor
  · rintro ⟨k, hk, rfl⟩
    have := List.mem_range.mp hk
    omega
  · intro h
    exact ⟨x - 97, List.mem_range.mpr (by omega), by omega⟩
theorem Good.cases {r c n : Nat} (h : Good r c n) : (r = 1 ∧ c = 2 ∧ n = 2) ∨ (r = 1 ∧ c = 3 ∧ n = 3) ∨ (r = 2 ∧ c = 2 ∧ n = 4) ∨ (r = 2 ∧ c = 3 ∧ n = 9) ∨ (r = 3 ∧ c = 2 ∧ n = 8) := by
  simpa [Good] using h
theorem cols_len (n : Nat) : (cols n).length = n := by simp [cols]
theorem dig_len (r c k : Nat) : (dig r c k).length = r := by
  induction r with
  | zero => rfl
  | succ r ih => rw [dig, List.length_cons, ih]
theorem dig_in {r c k : Nat} (hc : 0 < c) : (dig r c k).all (inDig c) = true := by
  induction r with
  | zero => rfl
  | succ r ih =>
    rw [dig, List.all_cons, ih, Bool.and_true]
    unfold inDig
    have := Nat.mod_lt (k / c ^ r) hc
    rw [decide_eq_true_iff]
    omega
theorem dig_digs {r c k : Nat} (hc : 0 < c) : isDigs r c (dig r c k) = true := by
  unfold isDigs
  rw [dig_len, dig_in hc]
  simp
/-- a list of digits is one of finitely many -/
def digLists : Nat → Nat → List (List Nat)
  | 0, _ => [[]]
  | r + 1, c => (List.range c).flatMap fun d => (digLists r c).map ((48 + d) :: ·)
theorem mem_digLists {r c : Nat} : ∀ {l : List Nat}, isDigs r c l = true → l ∈ digLists r c := by
  induction r with
  | zero =>
    intro l h
    unfold isDigs at h
    rw [Bool.and_eq_true, decide_eq_true_iff] at h
    rw [List.length_eq_zero_iff.mp h.1]
    exact List.mem_singleton.mpr rfl
  | succ r ih =>
    intro l h
    unfold isDigs at h
    rw [Bool.and_eq_true, decide_eq_true_iff] at h
    match l, h with
    | x :: l, ⟨h1, h2⟩ =>
      rw [List.all_cons, Bool.and_eq_true] at h2
      have hx := h2.1
      unfold inDig at hx
      rw [decide_eq_true_iff] at hx
      rw [digLists, List.mem_flatMap]
      refine ⟨x - 48, List.mem_range.mpr (by omega), List.mem_map.mpr ⟨l, ih ?_, ?_⟩⟩
      · unfold isDigs
        rw [Bool.and_eq_true, decide_eq_true_iff]
        exact ⟨by simpa using h1, h2.2⟩
      · rw [show 48 + (x - 48) = x by omega]
theorem num_lt {r c n : Nat} (h : Good r c n) {l : List Nat} (hl : isDigs r c l = true) : num c l < n := by
  suffices z : ∀ l ∈ digLists r c, num c l < n from z l (mem_digLists hl)
  clear hl
  rcases h.cases with ⟨rfl, rfl, rfl⟩ | ⟨rfl, rfl, rfl⟩ | ⟨rfl, rfl, rfl⟩ | ⟨rfl, rfl, rfl⟩ | ⟨rfl, rfl, rfl⟩ <;> decide +kernel
theorem dig_num {r c n : Nat} (h : Good r c n) {l : List Nat} (hl : isDigs r c l = true) : dig r c (num c l) = l := by
  suffices z : ∀ l ∈ digLists r c, dig r c (num c l) = l from z l (mem_digLists hl)
  clear hl
  rcases h.cases with ⟨rfl, rfl, rfl⟩ | ⟨rfl, rfl, rfl⟩ | ⟨rfl, rfl, rfl⟩ | ⟨rfl, rfl, rfl⟩ | ⟨rfl, rfl, rfl⟩ <;> decide +kernel
theorem num_dig {r c n k : Nat} (h : Good r c n) (hk : k < n) : num c (dig r c k) = k := by
  suffices z : ∀ k < n, num c (dig r c k) = k from z k hk
  clear hk
  rcases h.cases with ⟨rfl, rfl, rfl⟩ | ⟨rfl, rfl, rfl⟩ | ⟨rfl, rfl, rfl⟩ | ⟨rfl, rfl, rfl⟩ | ⟨rfl, rfl, rfl⟩ <;> decide +kernel
end Kit

end
section
set_option Elab.async false
set_option maxRecDepth 100000
set_option maxHeartbeats 4000000
namespace Kit
open PySem PySem.Spec PyProof.Rows L2
/-! ### rules whose reading names the written part: it is given -/
section
variable {X : Cx} {e e2 : Expr} {es : List Expr} {ta tb : TE} {t : TA} {f : Str} {pos p apos cpos : Pos} {tg : Expr}
theorem kfld (K : PySem.W.Frag) (he : PE X e ta) (hK : X.K = K := by rfl) (hb : attributeBase e f X.env (eval e X.env) = eval e X.env := by rfl) : PE X (.Attribute e f pos) (tFld K ta f) := hK ▸ pe_fld he hb
theorem kcon (K : PySem.W.Frag) (he : PE X e ta) (hK : X.K = K := by rfl) (hb : attributeBase e f X.env (eval e X.env) = eval e X.env := by rfl) : PE X (.Attribute e f pos) (tCon K ta f) := hK ▸ pe_con he hb
theorem kix_list (K : PySem.W.Frag) (hK : X.K = K := by rfl) : IxR X (rIxL K) := hK ▸ ix_list
theorem kix_tup (K : PySem.W.Frag) (hK : X.K = K := by rfl) : IxR X (rIxT K) := hK ▸ ix_tup
theorem kix_seq (K : PySem.W.Frag) (hK : X.K = K := by rfl) : IxR X (rIx K) := hK ▸ ix_seq
theorem kpi_list (K : PySem.W.Frag) (hl : PE X e ta) (hK : X.K = K := by rfl) : PI X tg e (iList K ta) := hK ▸ pi_list hl
theorem kpi_tup (K : PySem.W.Frag) (hl : PE X e ta) (hK : X.K = K := by rfl) : PI X tg e (iTup K ta) := hK ▸ pi_tup hl
theorem kisi (K : PySem.W.Frag) (hK : X.K = K := by rfl) : CallR X (.builtin "isinstance") (rIsi K) := hK ▸ call_isi
theorem klen_seq (K : PySem.W.Frag) (hK : X.K = K := by rfl) : CallR X (.builtin "len") (fun xs H Q => ∃ p ys, xs = [.ref p] ∧ (SqL K H p ys ∨ SqT K H p ys) ∧ Q (.int ys.length) H) := hK ▸ call_len_seq
theorem klen (K : PySem.W.Frag) (hK : X.K = K := by rfl) : CallR X (.builtin "len") (fun xs H Q => ∃ x n, xs = [x] ∧ LenV K x H n ∧ Q (.int n) H) := hK ▸ call_len
theorem ksum (K : PySem.W.Frag) (hc : X.calm = true) (hK : X.K = K := by rfl) : CallR X (.builtin "sum") (rSum K) := hK ▸ cr_sum hc
theorem kall (K : PySem.W.Frag) (hc : X.calm = true) (hK : X.K = K := by rfl) : CallR X (.builtin "all") (rAll K) := hK ▸ cr_all hc
theorem kin (K : PySem.W.Frag) (hK : X.K = K := by rfl) : OpR X (compareOp .In) (rIn K false) := hK ▸ op_in_seq
theorem knotin (K : PySem.W.Frag) (hK : X.K = K := by rfl) : OpR X (compareOp .NotIn) (rIn K true) := hK ▸ op_notIn_seq
theorem keqD (K : PySem.W.Frag) (hu : X.A.units + 64 < cLine) (hK : X.K = K := by rfl) : OpR X (compareOp .Eq) (rEqD K) := hK ▸ op_eqD hu
theorem kneD (K : PySem.W.Frag) (hu : X.A.units + 64 < cLine) (hK : X.K = K := by rfl) : OpR X (compareOp .NotEq) (rNeD K) := hK ▸ op_neD hu
theorem klist_of (K : PySem.W.Frag) (hK : X.K = K := by rfl) : CallR X (.type "list") (fun xs H Q => ∃ p ys, xs = [.ref p] ∧ (SqL K H p ys ∨ SqT K H p ys) ∧ ∀ l, H l = none → Q (.ref l) (upd H l (.lst ys))) := hK ▸ call_list_of
theorem ksl_list (K : PySem.W.Frag) (hK : X.K = K := by rfl) : SlR X (rSlL K) := hK ▸ sl_list
theorem kjoin (K : PySem.W.Frag) {o : Expr} {to te : TE} (ho : PE X o to) (he : PE X e te) (hK : X.K = K := by rfl) (hs : starEach [e] X.env = [(false, eval e X.env)] := by rfl) (hbase : attributeBase o "join" X.env (eval o X.env) = eval o X.env := by rfl) (hline : (apos.endLine == cpos.line) = true := by rfl) :
    PE X (.Call (.Attribute o "join" apos) [e] [] cpos) (tM1 (fun x xs H Q => ∃ a p, ∃ ys : List Str, x = .str a ∧ xs = [.ref p] ∧ (SqL K H p (ys.map V.str) ∨ SqT K H p (ys.map V.str)) ∧ (ys.map (·.length)).sum + ys.length * a.length ≤ 16777216 ∧ Q (.str (Txt.join a ys)) H) to te) := hK ▸ pe_join ho he hs hbase hline
end
end Kit

end
section
set_option Elab.async false
set_option linter.all false
set_option maxRecDepth 100000
set_option maxHeartbeats 4000000
namespace Kit
open PySem PySem.Spec PyProof.Rows L2
/-! ### an own == : what its def promises, of any other thing whose type does not come first -/
section
variable {X : Cx} {C : Addr} {k j : Nat} {sp : Sp}
/-- what the type of the other thing must be -/
def OtherOk (K : PySem.W.Frag) (C : Addr) (H : Hp) (y : V) : Prop := (∃ i, y = .int i) ∨ (∃ z, y = .str z) ∨ ∃ b dx fs, y = .ref b ∧ H b = some (.ins C dx fs)
def rEqO (K : PySem.W.Frag) (C : Addr) (sp : Sp) : R2 := fun x y H Q => ∃ a dx fs, x = .ref a ∧ H a = some (.ins C dx fs) ∧ OtherOk K C H y ∧ sp [x, y] H (fun v G => ∃ b, v = .bl b ∧ Q (.bl b) G) E0
theorem eqO (K : PySem.W.Frag) (c : CanM X.prog X.w X.K X.mg X.base k C "__eq__" sp) (hr : Room j X.A) (hk : k ≤ j) (hni : PySem.W.notFirst K C (.type "int") = true) (hns : PySem.W.notFirst K C (.type "str") = true) (hK : X.K = K := by rfl) : OpR X (compareOp .Eq) (rEqO K C sp) := by
  subst hK
  obtain ⟨f, fd, ps, F, hc, hm, b⟩ := c.ex
  intro pins s σ H x y v u Q I rx ry hq
  obtain ⟨a, dx, fs, rfl, ha, ho, h⟩ := hq
  cases rx
  show wpAny (model X.prog X.w) X.A (richCompare .Eq (.ref a) u) (EP X pins σ Q) X.xe s
  obtain ⟨mA, J, _⟩ := ins_get I.hok ha
  obtain ⟨od, J, _⟩ := J.look
  obtain ⟨m, hF⟩ := I.fr
  have tb : ∃ tb, PySem.W.Looks (model X.prog X.w) s.heap (typeOf u) tb ∧ PySem.W.notFirst X.K C tb = true := by
    rcases ho with ⟨i, rfl⟩ | ⟨z, rfl⟩ | ⟨b', dy, gs, rfl, hb'⟩
    · obtain ⟨t, rfl⟩ := ry
      exact ⟨.type "int", .now, hni⟩
    · obtain ⟨t, rfl⟩ := ry
      exact ⟨.type "str", .now, hns⟩
    · cases ry
      obtain ⟨mB, J', _⟩ := ins_get I.hok hb'
      obtain ⟨od', J', _⟩ := J'.look
      exact ⟨.ref C, J'.type, by simp [PySem.W.notFirst]⟩
  obtain ⟨tb, htb, hnf⟩ := tb
  refine PySem.W.cmp_K (op := .Eq) (tb := tb) (hr.mono hk).units0 hF I.ok.mod.kin J htb hnf hm.at_ hm.fn ?_
  refine wpAny_mono (run_fn (us := [.ref a, u]) (vs := [.ref a, y]) (dvs := []) (ds := []) F (hr.mono hk) b .nil passL I (.cons rfl (.cons ry .nil)) h) (fun r s' z => ?_) fun _ _ x => x
  obtain ⟨v, H', I', rv, bb, rfl, q⟩ := z
  cases rv
  exact ⟨.bl bb, H', I', rfl, q⟩
/-- len(o) by an own __len__ -/
def rLenO (C : Addr) (sp : Sp) : List V → Hp → VK → Prop := fun xs H Q => ∃ a dx fs, xs = [.ref a] ∧ H a = some (.ins C dx fs) ∧ sp [.ref a] H (fun v G => ∃ n : Int, v = .int n ∧ 0 ≤ n ∧ n < 2 ^ 63 ∧ Q (.int n) G) E0
theorem lenO (c : CanM X.prog X.w X.K X.mg X.base k C "__len__" sp) (hr : Room j X.A) (hk : k + 1 ≤ j) : CallR X (.builtin "len") (rLenO C sp) := by
  obtain ⟨f, fd, ps, F, hc, hm, b⟩ := c.ex
  intro pins s σ H xs us Q I r h
  obtain ⟨a, dx, fs, rfl, ha, h⟩ := h
  rw [Vals.ref1 r]
  obtain ⟨mA, J, _⟩ := ins_get I.hok ha
  obtain ⟨od, J, _⟩ := J.look
  obtain ⟨m, hF⟩ := I.fr
  refine PySem.W.len_K hF I.ok.mod.kin J hm.at_ hm.fn ?_
  have hr1 : Room k X.A.in1 := (hr.mono hk).in1
  have e0 : Env0 X.prog X.w X.K X.mg X.base X.A.in1 X.stack s H := by
    have e := I.env0
    exact ⟨e.frames, e.mod, e.bs, e.bsz, e.funs, e.frf, e.hok, e.bare⟩
  have hl := F.len _ _ _ _ h
  have bb := b s [.ref a] I.kIn (by simpa using hl)
  refine wpAny_call (codeAny_mono (F.run X.A.in1 X.stack s H ⟨[.ref a], []⟩ [.ref a] [.ref a] _ E0 hr1 e0 (by simpa using bb) (.cons rfl .nil) h) ?_)
  intro z s' hq
  cases z with
  | error e =>
    obtain ⟨_, _, _, _, _, _, _, _, _, _, _, _, y⟩ := hq
    exact y.elim
  | ok fl =>
    cases fl with
    | ret w =>
      obtain ⟨v, H', I', rz, n, rfl, h0, h1, q⟩ := I.after hq
      obtain ⟨t, rfl⟩ := rz
      exact ⟨⟨h0, h1⟩, .int n, H', I'.tok _, ⟨_, rfl⟩, q⟩
    | next => exact hq.elim
    | brk => exact hq.elim
    | cont => exact hq.elim
theorem vals_get : ∀ {xs : List V} {us : List Value}, xs.length = us.length → (∀ (i : Nat) x u, xs[i]? = some x → us[i]? = some u → RelV x u) → Vals xs us
  | [], [], _, _ => .nil
  | x :: xs, u :: us, h, f => .cons (f 0 x u rfl rfl) (vals_get (by simpa using h) fun i y v h1 h2 => f (i + 1) y v (by simpa using h1) (by simpa using h2))
/-- list(text) -/
theorem listS (hc : X.calm = true) : CallR X (.type "list") (fun xs H Q => ∃ l : List Nat, xs = [tx l] ∧ l.length ≤ 100000 ∧ ∀ p, H p = none → Q (.ref p) (upd H p (.lst (l.map fun x => tx [x])))) := by
  intro pins s σ H xs us Q I r h
  obtain ⟨l, rfl, hl, q⟩ := h
  cases r with
  | cons rx rr =>
    cases rr
    obtain ⟨t, rfl⟩ := rx
    refine call_list_str (I.ok.hd hc) (S l) t (hn := by show (S l).length ≤ _; rw [S_len]; exact szl hl) ?_
    intro h' tk acc c' hk hS hit
    refine ⟨.ref s.heap.objs.size, _, I.laid (t' := tk) (o := .lst (l.map fun x => tx [x])) hk (Nat.le_refl _) ?_, rfl, q _ (I.hok.fresh (Nat.le_refl _))⟩
    have hn : acc.toList.length = l.length := by
      rw [Array.length_toList, hit.1]
      exact S_len l
    refine ⟨szl (by rw [List.length_map]; exact hl), acc.toList, c', vals_get (by rw [List.length_map, hn]) ?_, hS⟩
    intro i v u hv hu
    obtain ⟨ch, t', h1, rfl⟩ := hit.2 i u (by rw [← Array.getElem?_toList]; exact hu)
    have h1 : l[i]? = some ch := by
      have z : (S l).cps[i]? = l[i]? := List.getElem?_toArray ..
      rw [← z]
      exact h1
    rw [List.getElem?_map, h1] at hv
    cases hv
    exact ⟨t', rfl⟩
end

/-! ### enumerate(xs, start=k) -/
def ItS (a : Addr) (k : Int) : It :=
  ⟨fun i G => ∃ (xs : List V) (x : V), G a = some (.lst xs) ∧ xs[i]? = some x, fun i G v G' => ∃ T x, v = .ref T ∧ G T = none ∧ G' = upd G T (.tup [.int (k + (i : Nat)), x]) ∧ ∀ xs, G a = some (.lst xs) → xs[i]? = some x, fun i G => ∃ xs : List V, G a = some (.lst xs) ∧ xs.length = i⟩
theorem turn_S {P : Program} {w : World} {K : PySem.W.Frag} {elts : List Expr} {kk : Nat} {tpos : Pos} (a e it : Addr) (k : Int) :
    Turn P w K (.Tuple elts kk tpos) (ItS a k) [e, it] e (fun i h => (∃ old, IsEnum h e it (k + ((i : Nat) : Int)) old) ∧ h.IsListIter it a i ∧ e ≠ it) where
  mem := by simp
  obj := by
    rintro i h ⟨⟨old, he⟩, ⟨o, ho, hc, hd⟩, _⟩ b hb
    have z : b = e ∨ b = it := by simpa using hb
    rcases z with rfl | rfl
    · exact ⟨_, he, fun v q => nomatch q⟩
    · exact ⟨o, ho, fun v q => by rw [hd] at q; cases q⟩
  keep := by
    rintro i h h' ⟨⟨old, he⟩, hi, hne⟩ k
    exact ⟨⟨old, k e (by simp) _ he⟩, hi.at fun o q => k it (by simp) o q, hne⟩
  item := by
    intro X hP hw hK hc i pins s σ H E I hf st hg
    subst hP hw hK
    obtain ⟨⟨old, he⟩, hit, hne⟩ := st
    obtain ⟨xs, x, hq, hx⟩ := hg
    obtain ⟨hzz, its, nn, rv, hl0⟩ := (show ObjOk X.prog X.w H s.heap a (.lst xs) from I.hok a _ hq)
    have hL : s.heap.IsList a its.toArray := ⟨_, hl0, rfl, nn, rfl⟩
    obtain ⟨u, hu, ru⟩ := rv.get hx
    have nai : a ≠ it := fun z => by
      have := (hf it (by simp)).1
      rw [← z, hq] at this
      cases this
    have nae : a ≠ e := fun z => by
      have := (hf e (by simp)).1
      rw [← z, hq] at this
      cases this
    have hlen : i < its.toArray.size := by
      have z := (List.getElem?_eq_some_iff.mp hx).1
      have y := rv.length
      rw [List.size_toArray]
      omega
    have le : e < s.heap.objs.size := Heap.lt_size he
    have li : it < s.heap.objs.size := by
      obtain ⟨_, q, _⟩ := hit
      exact Heap.lt_size q
    refine wpAny_pyNext_enum_itemC (Draws.list (A := X.A.in1) (show X.A.in1.handled = none from I.ok.hd hc) it a nai its.toArray) he ⟨hit, hL⟩ hlen hne (by simp [hne, Ne.symm nae]) ?_
    intro u' h' tk hu' ho hit' hT hsz hk
    obtain rfl : u' = u := by
      have z : its[i]? = some u' := by simpa using hu'
      rw [hu] at z
      exact (Option.some.inj z).symm
    refine ⟨_, rfl, wpAny_letOwnedTupleGo_enum (s := { s with heap := h', toks := tk + 1 }) ho ?_⟩
    intro h'' he' sb
    have hT2 : h''.get? s.heap.objs.size = some { cls := .type "tuple", data := .seq #[.int (k + (i : Nat)) tk, u'] } := (sb.2 _ (Nat.ne_of_gt le)).trans hT
    have new : ObjOk X.prog X.w (upd H s.heap.objs.size (.tup [.int (k + (i : Nat)), x])) h'' s.heap.objs.size (.tup [.int (k + (i : Nat)), x]) :=
      ⟨by show 2 ≤ sizeLine; decide, [.int (k + (i : Nat)) tk, u'], .cons ⟨_, rfl⟩ (.cons ru .nil), ⟨_, hT2, rfl, _, rfl⟩⟩
    have J : Inv X pins σ (upd H s.heap.objs.size (.tup [.int (k + (i : Nat)), x])) { s with heap := h'', toks := tk + 1 } :=
      I.turnedNew (ch := [e, it]) (fun b ob hb q => (sb.2 b (fun z => hb (by simp [z]))).trans (hk b ob (fun z => hb (by simp [z])) (fun z => hb (by simp [z])) q)) hf (Nat.le_refl _) new
    refine ⟨.ref s.heap.objs.size, _, J, rfl, ⟨_, x, rfl, I.hok.fresh (Nat.le_refl _), rfl, fun ys hy => by rw [hq] at hy; cases hy; exact hx⟩, ⟨⟨u', ?_⟩, hit'.1.at fun o q => (sb.2 it (Ne.symm hne)).trans q, hne⟩, ?_⟩
    · rw [show k + ((i + 1 : Nat) : Int) = k + (i : Int) + 1 by omega]
      exact he'
    · intro b hb
      have hb' : b < s.heap.objs.size := by
        have z : b = e ∨ b = it := by simpa using hb
        rcases z with rfl | rfl
        · exact le
        · exact li
      rw [upd_ne (Nat.ne_of_lt hb')]
      exact (hf b hb).1
  done := by
    intro X hP hw hK hc i pins s σ H E I hf st hg
    subst hP hw hK
    obtain ⟨⟨old, he⟩, hit, hne⟩ := st
    obtain ⟨xs, hq, hx⟩ := hg
    obtain ⟨hzz, its, nn, rv, hl0⟩ := (show ObjOk X.prog X.w H s.heap a (.lst xs) from I.hok a _ hq)
    have hL : s.heap.IsList a its.toArray := ⟨_, hl0, rfl, nn, rfl⟩
    obtain ⟨f0, f1, f2, f3, f4, f5⟩ := hf it (by simp)
    have hl := rv.length
    have nai : a ≠ it := fun z => by
      rw [← z, hq] at f0
      cases f0
    have nae : a ≠ e := fun z => by
      have := (hf e (by simp)).1
      rw [← z, hq] at this
      cases this
    have hz : its.toArray.size = i := by
      rw [List.size_toArray]
      omega
    subst hz
    exact wpAny_pyNext_enum_endD (Draws.list (A := X.A.in1) (show X.A.in1.handled = none from I.ok.hd hc) it a nai its.toArray) he ⟨hit, hL⟩ fun h' eb => ⟨rfl, I.turned (t' := s.toks) (fun b o hb q => eb b o hb q) f0 f1 f3 f4 f5⟩
  self := by
    rintro A i s Q E ⟨⟨_, he⟩, _⟩ h
    exact wpAny_pyIter_enum he h
theorem walk_S {a : Addr} {k : Int} {xs : List V} : Walk (ItS a k) xs.length (fun G => G a = some (.lst xs)) (YPair (fun i => some (.int (k + (i : Nat)))) (fun i => xs[i]?)) := by
  refine ⟨fun i G hi q => ⟨xs, xs[i], q, List.getElem?_eq_getElem hi⟩, fun G q => ⟨xs, q, rfl⟩, ?_⟩
  rintro i G v G' hi q ⟨T, x, rfl, hT, rfl, hx⟩
  exact ⟨T, _, x, rfl, hT, rfl, rfl, hx xs q⟩
def iEnumS (K : PySem.W.Frag) (t tk : TA) : TI := fun σ H R => t σ H fun vs G => tk σ G fun zs G' => ∃ a xs k, vs = [.ref a] ∧ zs = [.int k] ∧ -(2 ^ 63) ≤ k ∧ k < 2 ^ 63 ∧ G' a = some (.lst xs) ∧ R (ItS a k) G'
theorem kws_type {M : Model} {A : Around} {E : Value → Shared → Prop} {s : Shared} {pos : Pos} {T : String} {args : List (Bool × Sem Value)} {keywords : List (Option Str × Sem Value)} {Q : Value → Shared → Prop}
    (hplain : args.any (·.1) = false) (hkw : keywords.any (·.1.isNone) = false) (h : wpAny M A (evalArgs (.type T) true args keywords) (fun a s₁ => wpAny M A (call (.type T) a.pos a.kw) Q E s₁) E s) : wpAny M A (callWith pos (.type T) [] args keywords) Q E s := by
  unfold callWith
  refine wpAny_bind (wpAny_holding (wpAny_mono h ?_ fun _ _ x => x))
  intro a s₁ h₁
  refine wpAny_bind (wpAny_standAt ?_)
  simp only [hplain, hkw, Bool.or_false]
  refine wpAny_bind (wpAny_pure ?_)
  exact wpAny_bind (wpAny_mono h₁ (fun r s₂ hr => wpAny_bind (wpAny_holding (wpAny_point (wpAny_pure hr)))) fun _ _ x => x)
theorem pi_enumS {X : Cx} {e : Expr} {t tk : TA} {p pos tpos kp : Pos} {elts : List Expr} {kk : Nat} {kv : Expr} (hg : Gl X "enumerate") (hm : X.mg "enumerate" = none) (ha : PA X [e] t) (hk : PK X [⟨some "start", kv, kp⟩] tk)
    (he : backTo pos (starEach [e] X.env) = (false, eval e X.env) :: backTo pos (starEach [] X.env) := by rfl) (hpl : (backTo pos (starEach [e] X.env)).any (·.1) = false := by rfl)
    (hall : (backToKw pos (keywordEach [⟨some "start", kv, kp⟩] X.env)).all (·.1.isSome) = true := by rfl) (hnone : (backToKw pos (keywordEach [⟨some "start", kv, kp⟩] X.env)).any (·.1.isNone) = false := by rfl)
    (hks : (backToKw pos (keywordEach [⟨some "start", kv, kp⟩] X.env)).filterMap (·.1) = [("start" : Str)] := by rfl) :
    PI X (.Tuple elts kk tpos) (.Call (.Name "enumerate" p) [e] [⟨some "start", kv, kp⟩] pos) (iEnumS X.K t tk) := by
  constructor
  intro pins s σ H R I h
  refine wpAny_Call_Name_kw (ld_blt I hg hm boot_enumerate ?_ (by decide) (by decide))
  refine kws_type hpl hnone ?_
  have run := thn (ha.run pos pins s σ H _ I h) fun us s1 (z : AP X pins σ _ us s1) => (show wpAny (model X.prog X.w) X.A (evalAll ((backToKw pos (keywordEach [⟨some "start", kv, kp⟩] X.env)).map (·.2))) (fun ws s2 => wpAny (model X.prog X.w) X.A (call (.type "enumerate") us ([("start" : Str)].zip ws))
      (fun v s1 => wpAny (model X.prog X.w) X.A (pyIter v) (PIE X pins σ (.Tuple elts kk tpos) R) X.xe s1) X.xe s2) X.xe s1 from by
    obtain ⟨vs, G, I1, r1, q1⟩ := z
    refine thn (hk.run pos pins s1 σ G _ I1 q1) ?_
    rintro ws s2 ⟨zs, G', I2, r2, a, xs, k, rfl, rfl, hk0, hk1, hq, q⟩
    cases r1 with
    | cons ra rr =>
      cases rr
      cases ra
      cases r2 with
      | cons rk rr =>
        cases rr
        obtain ⟨tk', rfl⟩ := rk
        obtain ⟨hzz, its, nn, rv, hl0⟩ := (show ObjOk X.prog X.w G' s2.heap a (.lst xs) from I2.hok a _ hq)
        have hL : s2.heap.IsList a its.toArray := ⟨_, hl0, rfl, nn, rfl⟩
        refine enum_begins_start (begins_list a its.toArray) hL hk0 hk1 ?_
        intro h' hen hit hsz hkeep
        refine wpAny_pyIter_enum hen ?_
        have J : Inv X pins σ G' { s2 with heap := h' } := I2.kept (t' := s2.toks) hkeep
        refine ⟨s2.heap.objs.size + 1, [s2.heap.objs.size + 1, s2.heap.objs.size], _, _, G', rfl, J, turn_S a (s2.heap.objs.size + 1) s2.heap.objs.size k, ⟨⟨.none, by simpa using hen⟩, ⟨_, hit, rfl, rfl⟩, Nat.succ_ne_self _⟩, ?_, q⟩
        intro b hb
        have z : b = s2.heap.objs.size + 1 ∨ b = s2.heap.objs.size := by simpa using hb
        have hle : s2.heap.objs.size ≤ b := by
          rcases z with z | z
          · rw [z]
            exact Nat.le_succ _
          · rw [z]
            exact Nat.le_refl _
        exact I2.fpOk hle (I2.hok.fresh hle))
  rw [he] at run ⊢
  refine PyProof.Rows.evalArgs_kwB hall ?_
  rw [hks]
  exact run
end Kit

end
section
set_option Elab.async false
set_option linter.all false
set_option maxRecDepth 100000
set_option maxHeartbeats 4000000
namespace Kit
open PySem PySem.Spec PyProof.Rows L2
/-! ### == and != of data without dicts, any texts -/
section
variable {X : Cx}
def rEqP (K : PySem.W.Frag) : R2 := fun x y H Q => ∃ d e, Dp K H x d ∧ Dp K H y e ∧ d.plain = true ∧ e.plain = true ∧ d.depth ≤ 64 ∧ Q (.bl (PyData.eqv d e)) H
def rNeP (K : PySem.W.Frag) : R2 := fun x y H Q => ∃ d e, Dp K H x d ∧ Dp K H y e ∧ d.plain = true ∧ e.plain = true ∧ d.depth ≤ 64 ∧ Q (.bl (!PyData.eqv d e)) H
theorem keqP (K : PySem.W.Frag) (hu : X.A.units + 64 < cLine) (hK : X.K = K := by rfl) : OpR X (compareOp .Eq) (rEqP K) := by
  subst hK
  intro pins s σ H x y v u Q I rx ry h
  obtain ⟨d, e, hd, he, sd, se, dd, q⟩ := h
  obtain ⟨as, r1⟩ := Dp.reads I d x v hd rx
  obtain ⟨bs, r2⟩ := Dp.reads I e y u he ry
  exact SeqAt.eq_plain r1 r2 sd se (by omega) ⟨.bl _, H, I, rfl, q⟩
theorem kneP (K : PySem.W.Frag) (hu : X.A.units + 64 < cLine) (hK : X.K = K := by rfl) : OpR X (compareOp .NotEq) (rNeP K) := by
  subst hK
  intro pins s σ H x y v u Q I rx ry h
  obtain ⟨d, e, hd, he, sd, se, dd, q⟩ := h
  obtain ⟨as, r1⟩ := Dp.reads I d x v hd rx
  obtain ⟨bs, r2⟩ := Dp.reads I e y u he ry
  exact SeqAt.ne_plain r1 r2 sd se (by omega) ⟨.bl _, H, I, rfl, q⟩
end
/-- lists of texts as such data -/
def pdL (ls : List (List Nat)) : PyData := .list (ls.map fun l => .str (S l))
theorem dpAll_txt {K : PySem.W.Frag} {H : Hp} : ∀ ls : List (List Nat), DpAll K H (ls.map tx) (ls.map fun l => .str (S l))
  | [] => .nil
  | l :: ls => .cons (.str _) (dpAll_txt ls)
theorem dp_txt {K : PySem.W.Frag} {H : Hp} {p : Addr} {ls : List (List Nat)} (h : H p = some (.lst (ls.map tx))) : Dp K H (.ref p) (pdL ls) := .lst (seqL_of h) (dpAll_txt ls)
theorem plainL (ls : List (List Nat)) : (pdL ls).plain = true := by
  unfold pdL PyData.plain
  induction ls with
  | nil => rfl
  | cons l ls ih =>
    rw [List.map_cons]
    unfold PyData.plainAll
    rw [ih]
    rfl
theorem depthAllL (ls : List (List Nat)) : PyData.depthAll (ls.map fun l => .str (S l)) ≤ 1 := by
  induction ls with
  | nil => simp [PyData.depthAll]
  | cons l ls ih =>
    rw [List.map_cons]
    unfold PyData.depthAll
    unfold PyData.depth
    omega
theorem depthL (ls : List (List Nat)) : (pdL ls).depth ≤ 64 := by
  unfold pdL PyData.depth
  have := depthAllL ls
  omega
end Kit

end
section
set_option Elab.async false
set_option linter.all false
set_option maxRecDepth 100000
set_option maxHeartbeats 4000000
namespace Kit
open PySem PySem.Spec PyProof.Rows L2
/-! ### from what the head wrote down to the text's facts -/
section
variable {K : PySem.W.Frag} {h : Heap} {mg : Str → Option Value}
theorem defT_of {x : Str} {st : Stmt} {f : Addr} {od an : Option Addr} {sl : Array (Option Value)} {oc kV dc pm cd ct : Value} (X : K.In h) (G : h.Ns mainGlobals mg) (a1 : PySem.W.nsIn K mainGlobals x = some (some (.ref f)))
    (l1 : K.lookup f = some ⟨oc, od, .func (PySem.W.fnOf x x (defArgs st) (defBody st) (defScope st) .none kV dc pm an cd ct), sl⟩) (c1 : PySem.W.codeIn K cd x = true) (k1 : PySem.W.keepIn K (.ref f) = true) : DefT K mg x st :=
  ⟨f, _, fun_mk (st := st) l1 c1 k1, PySem.W.mg_of X G a1⟩
theorem metT_of {C : Addr} {m q : Str} {st : Stmt} {f : Addr} {od an : Option Addr} {sl : Array (Option Value)} {oc kV dc pm cd ct : Value} (a1 : PySem.W.findIn K (.ref C) m = some (some (.ref f))) (i1 : PySem.W.isFn K (.ref f) = true)
    (l1 : K.lookup f = some ⟨oc, od, .func (PySem.W.fnOf m q (defArgs st) (defBody st) (defScope st) .none kV dc pm an cd ct), sl⟩) (c1 : PySem.W.codeIn K cd q = true) (k1 : PySem.W.keepIn K (.ref f) = true) : MetT K C m q st :=
  ⟨f, _, fun_mk (st := st) l1 c1 k1, ⟨a1, i1, k1⟩⟩
theorem clsT_of {C : Addr} {x : Str} (X : K.In h) (G : h.Ns mainGlobals mg) (aC : PySem.W.nsIn K mainGlobals x = some (some (.ref C))) (pg : PySem.W.plainGet K C Str.empty = true) (hd : PySem.W.hasDictIn K C = true) (po : PySem.W.plainOver K C = true)
    (sa : PySem.W.findIn K (.ref C) "__setattr__" = some (some (.builtin "object.__setattr__"))) (mk : PySem.W.makesIn K C = true) (kc : PySem.W.keepIn K (.ref C) = true) : ClsT K mg C x := ⟨⟨pg, hd, po, sa⟩, PySem.W.mg_of X G aC, mk, kc⟩
theorem errT_of {C : Addr} {x q fld : Str} {st : Stmt} {f : Addr} {od an : Option Addr} {sl : Array (Option Value)} {oc kV dc pm cd ct : Value}
    {nm qn : Str} {N : Addr} {bs bm : List Value} {sn : List Str} {sub : List Value} {ab : Bool} {col : Option Bool} {dd : Option Addr} {m0 m1 m2 m3 m5 : Option Value}
    (X : K.In h) (G : h.Ns mainGlobals mg) (aC : PySem.W.nsIn K mainGlobals x = some (some (.ref C)))
    (xL : K.lookup C = some (excClassObj nm qn C N bs bm true sn sub ab col dd m0 m1 m2 m3 m5 "ValueError.__new__")) (rf : PySem.HandSPX.refsVE bm = true)
    (sa : PySem.W.findIn K (.ref C) "__setattr__" = some (some (.builtin "object.__setattr__"))) (eC : PySem.W.subIn K (.ref C) (.type "BaseException") = some true) (tC : PySem.W.typeIn K (.ref C) = some (.type "type")) (kC : PySem.W.keepIn K (.ref C) = true)
    (nb : PySem.W.findIn K (.ref C) fld = some none)
    (a1 : PySem.W.findIn K (.ref C) "__init__" = some (some (.ref f))) (t1 : PySem.W.typeIn K (.ref f) = some (.type "function"))
    (l1 : K.lookup f = some ⟨oc, od, .func (PySem.W.fnOf "__init__" q (defArgs st) (defBody st) (defScope st) .none kV dc pm an cd ct), sl⟩) (c1 : PySem.W.codeIn K cd q = true) (k1 : PySem.W.keepIn K (.ref f) = true) : ErrT K mg C x q fld st :=
  ⟨PySem.W.mg_of X G aC, ⟨⟨nm, qn, N, bs, bm, sn, sub, ab, col, dd, m0, m1, m2, m3, m5, xL, rf⟩, sa, eC, tC, kC⟩, nb, f, _, fun_mk (st := st) l1 c1 k1, a1, t1⟩
theorem errC_of {C : Addr} (ga : PySem.W.findIn K (.ref C) "__getattribute__" = some (some (.builtin "BaseException.__getattribute__"))) (gg : PySem.W.findIn K (.ref C) "__getattr__" = some none) (eC : PySem.W.subIn K (.ref C) (.type "BaseException") = some true) (hd : PySem.W.hasDictIn K C = true)
    (ha : PySem.W.findIn K (.ref C) "__class__" = some (some (.builtin "object.__class__"))) (hn : PySem.W.specialIn K (.builtin "object.__class__") "__get__" = some (some (.builtin "getset_descriptor.__get__")))
    (ht : PySem.W.takesIn K (.builtin "object.__class__") = some true) (hm : PySem.W.mroIn K C (.type "object") = some true) (hc : PySem.W.isClsIn K C = true) : ErrC K C := ⟨⟨ga, gg, eC, hd⟩, ha, hn, ht, hm, hc⟩
theorem gval_of {x : Str} {v : V} {u : Value} (X : K.In h) (G : h.Ns mainGlobals mg) (a1 : PySem.W.nsIn K mainGlobals x = some (some u)) (r : RelV v u) : ∃ u, mg x = some u ∧ RelV v u := ⟨u, PySem.W.mg_of X G a1, r⟩
theorem kitR_of {t : Value} {C : Addr} {b : Bool} (hc : PySem.W.isClsIn K C = true) (tC : PySem.W.typeIn K (.ref C) = some (.type "type")) (s : PySem.W.subIn K t (.ref C) = some b) (ne : (t == .ref C) = false) : PySem.W.kitOne K t (.ref C) = some b := by
  have hc : (PySem.W.clsIn K C).isSome = true := hc
  show (if (t == .ref C) = true then some true else if ((PySem.W.clsIn K C).isSome && PySem.W.typeIn K (.ref C) == some (.type "type")) = true then PySem.W.subIn K t (.ref C) else none) = some b
  rw [ne, if_neg (by decide), hc, tC, if_pos (by rfl)]
  exact s
theorem kitS_of {C : Addr} : PySem.W.kitOne K (.ref C) (.ref C) = some true := by
  show (if ((Value.ref C) == .ref C) = true then some true else _) = some true
  rw [if_pos (by simp)]
theorem kitT_of {C : Addr} {n : String} {b : Bool} (m : PySem.W.kitMeta n = true) (s : PySem.W.subIn K (.ref C) (.type n) = some b) : PySem.W.kitOne K (.ref C) (.type n) = some b := by
  show (if ((Value.ref C) == .type n) = true then some true else if PySem.W.kitMeta n = true then PySem.W.subIn K (.ref C) (.type n) else none) = some b
  rw [if_neg (fun q => by cases q), if_pos m]
  exact s
theorem exm_of {cls : Value} {S : Addr} {b : Bool} (h1 : PySem.W.subIn K (.ref S) (.type "BaseException") = some true) (h2 : PySem.W.isClsIn K S = true) (h3 : PySem.W.typeIn K (.ref S) = some (.type "type")) (h4 : PySem.W.subIn K cls (.ref S) = some b) : PySem.W.exmOne K cls (.ref S) = some b := by
  have e1 : (PySem.W.subIn K (.ref S) (.type "BaseException") == some true) = true := by rw [h1] <;> rfl
  have e2 : ((PySem.W.clsIn K S).isSome && PySem.W.typeIn K (.ref S) == some (.type "type")) = true := by
    have h2' : (PySem.W.clsIn K S).isSome = true := h2
    rw [h2', h3] <;> rfl
  show (if (PySem.W.subIn K (.ref S) (.type "BaseException") == some true) = true then (if ((PySem.W.clsIn K S).isSome && PySem.W.typeIn K (.ref S) == some (.type "type")) = true then PySem.W.subIn K cls (.ref S) else none) else none) = some b
  rw [if_pos e1, if_pos e2]
  exact h4
end
end Kit

end
section
set_option Elab.async false
set_option linter.all false
set_option maxRecDepth 100000
set_option maxHeartbeats 4000000
namespace Kit
open PySem PySem.Spec PyProof.Rows L2
/-! ### own two-place operators, str(o), o(..), classmethods, a class in a name -/
section
variable {X : Cx} {C : Addr} {k j : Nat} {sp : Sp} {m : Str}
def rOpO (C : Addr) (sp : Sp) : R2 := fun x y H Q => ∃ a dx fs b dy gs, x = .ref a ∧ H a = some (.ins C dx fs) ∧ y = .ref b ∧ H b = some (.ins C dy gs) ∧ sp [x, y] H (fun v G => (∃ p, v = .ref p) ∧ Q v G) E0
theorem opO {op : Operator} (c : CanM X.prog X.w X.K X.mg X.base k C m sp) (hr : Room j X.A) (hk : k ≤ j) (hc : PySem.W.selfFirst X.K C = true) (hd : PySem.dunder op.info.2 = m := by decide +kernel) : OpR X (binaryOp op) (rOpO C sp) := by
  obtain ⟨f, fd, ps, F, hcl, hm, b⟩ := c.ex
  subst hd
  intro pins s σ H x y v u Q I rx ry hq
  obtain ⟨a, dx, fs, b', dy, gs, rfl, ha, rfl, hb, h⟩ := hq
  cases rx
  cases ry
  obtain ⟨mA, J, _⟩ := ins_get I.hok ha
  obtain ⟨od, J, _⟩ := J.look
  obtain ⟨mB, J', _⟩ := ins_get I.hok hb
  obtain ⟨od', J', _⟩ := J'.look
  obtain ⟨mm, hF⟩ := I.fr
  refine PySem.W.binop_K hF I.ok.mod.kin J J'.type hc hm.at_ hm.fn ?_
  refine wpAny_mono (run_fn (us := [.ref a, .ref b']) (vs := [.ref a, .ref b']) (dvs := []) (ds := []) F (hr.mono hk) b .nil passL I (.cons rfl (.cons rfl .nil)) h) (fun r s' z => ?_) fun _ _ x => x
  obtain ⟨v, H', I', rv, ⟨p, rfl⟩, q⟩ := z
  cases rv
  exact ⟨.ref p, H', I', rfl, q⟩
/-- .. that may raise, the wish at the slots -/
def tOpS (C : Addr) (sp : Sp) (W : WX) (ta tb : TE) : TE := fun σ H Q => ta σ H fun x H1 => tb σ H1 fun y H2 => ∃ a dx fs b dy gs, x = .ref a ∧ H2 a = some (.ins C dx fs) ∧ y = .ref b ∧ H2 b = some (.ins C dy gs) ∧ sp [x, y] H2 (fun v G => (∃ p, v = .ref p) ∧ Q v G) (WE W σ)
theorem pe_opS {op : Operator} {W : WX} {a b : Expr} {ta tb : TE} {pos : Pos} (c : CanM X.prog X.w X.K X.mg X.base k C m sp) (tk : Takes X W) (hr : Room j X.A) (hk : k ≤ j) (hc : PySem.W.selfFirst X.K C = true) (ha : PE X a ta) (hb : PE X b tb)
    (hd : PySem.dunder op.info.2 = m := by decide +kernel) : PE X (.BinOp a op b pos) (tOpS C sp W ta tb) := by
  obtain ⟨f, fd, ps, F, hcl, hm, b⟩ := c.ex
  subst hd
  refine ⟨fun pins s σ H Q I h => ?_⟩
  refine wpAny_BinOp (binT ha hb I h fun v u s2 x y H2 I2 rx ry q => ?_)
  obtain ⟨a, dx, fs, b', dy, gs, rfl, ha, rfl, hb, h⟩ := q
  cases rx
  cases ry
  obtain ⟨mA, J, _⟩ := ins_get I2.hok ha
  obtain ⟨od, J, _⟩ := J.look
  obtain ⟨mB, J', _⟩ := ins_get I2.hok hb
  obtain ⟨od', J', _⟩ := J'.look
  obtain ⟨mm, hF⟩ := I2.fr
  refine PySem.W.binop_K hF I2.ok.mod.kin J J'.type hc hm.at_ hm.fn ?_
  refine wpAny_mono (run_fnS (us := [.ref a, .ref b']) (vs := [.ref a, .ref b']) F (hr.mono hk) b (passAt tk σ) I2 (.cons rfl (.cons rfl .nil)) h) (fun r s' z => ?_) fun _ _ x => x
  obtain ⟨v, H', I', rv, ⟨p, rfl⟩, q⟩ := z
  cases rv
  exact ⟨.ref p, H', I', rfl, q⟩
/-- str(o) by an own __str__ -/
def rStrO (C : Addr) (sp : Sp) : List V → Hp → VK → Prop := fun xs H Q => ∃ a dx fs, xs = [.ref a] ∧ H a = some (.ins C dx fs) ∧ sp [.ref a] H (fun v G => ∃ z : Str, v = .str z ∧ Q (.str z) G) E0
theorem strO (c : CanM X.prog X.w X.K X.mg X.base k C "__str__" sp) (hr : Room j X.A) (hk : k + 2 ≤ j) : CallR X (.type "str") (rStrO C sp) := by
  obtain ⟨f, fd, ps, F, hc, hm, b⟩ := c.ex
  intro pins s σ H xs us Q I r h
  obtain ⟨a, dx, fs, rfl, ha, h⟩ := h
  rw [Vals.ref1 r]
  obtain ⟨mA, J, _⟩ := ins_get I.hok ha
  obtain ⟨od, J, _⟩ := J.look
  have hr1 : Room k X.A.in1.in1 := (hr.mono hk).in1.in1
  refine PySem.W.kso_call hr1.units0 I.kIn J hm.at_ hm.fn ?_
  have e0 : Env0 X.prog X.w X.K X.mg X.base X.A.in1.in1 X.stack s H := by
    have e := I.env0
    exact ⟨e.frames, e.mod, e.bs, e.bsz, e.funs, e.frf, e.hok, e.bare⟩
  have hl := F.len _ _ _ _ h
  have bb := b s [.ref a] I.kIn (by simpa using hl)
  refine wpAny_call (codeAny_mono (F.run X.A.in1.in1 X.stack s H ⟨[.ref a], []⟩ [.ref a] [.ref a] _ E0 hr1 e0 (by simpa using bb) (.cons rfl .nil) h) ?_)
  intro z s' hq
  cases z with
  | error e =>
    obtain ⟨_, _, _, _, _, _, _, _, _, _, _, _, y⟩ := hq
    exact y.elim
  | ok fl =>
    cases fl with
    | ret w =>
      obtain ⟨v, H', I', rz, z, rfl, q⟩ := I.after hq
      obtain ⟨t, rfl⟩ := rz
      exact ⟨.str z, H', I', ⟨_, rfl⟩, q⟩
    | next => exact hq.elim
    | brk => exact hq.elim
    | cont => exact hq.elim
end
section
variable (P : Program) (w : World) (K : PySem.W.Frag) (mg : Str → Option Value) (base : Heap)
structure CanF (k : Nat) (C : Addr) (m : Str) (sp : Sp) : Prop where
  ex : ∃ (f : Addr) (fd : FuncData) (ps : List Str), FnOk P w K mg base (L2.CX P w) k f fd ps sp ∧ Cls K C ∧ Meth K C m f ∧ Binds K fd ps [] ∧ PySem.W.fnIn K f = true
structure CanC (k : Nat) (C : Addr) (m : Str) (sp : Sp) : Prop where
  ex : ∃ (mc : Value) (p g : Addr) (fd : FuncData) (ps : List Str), FnOk P w K mg base (L2.CX P w) k g fd ps sp ∧ ClX.CRead K C mc ∧ ClX.CMet K C mc m p g ∧ Binds K fd ps []
end
/-- a classmethod as it stands in the text -/
structure CmT (K : PySem.W.Frag) (C : Addr) (m q : Str) (st : Stmt) : Prop where
  ex : ∃ (mc : Value) (p g : Addr) (fd : FuncData), Fun K m q st g fd ∧ ClX.CRead K C mc ∧ ClX.CMet K C mc m p g
section
variable {P : Program} {w : World} {K : PySem.W.Frag} {mg : Str → Option Value} {base : Heap}
theorem fnIn_of {x q : Str} {st : Stmt} {f : Addr} {fd : FuncData} (F : Fun K x q st f fd) : PySem.W.fnIn K f = true := by
  obtain ⟨oc, od, kV, doc, pm, an, cdv, ct, osl, rfl, lk, hcd⟩ := F.ex
  unfold PySem.W.fnIn
  rw [lk]
theorem canF_of {m q : Str} {C : Addr} {st : Stmt} {N ps : List Str} {k : Nat} {sp : Sp} (c : Cls K C) (D : MetT K C m q st) (S : FnScope N ps (defScope st)) (hb : BindsPlain st m q ps) (len : ∀ vs H Q E, sp vs H Q E → vs.length = ps.length)
    (body : ∀ (f : Addr) (cdv : Value) (A : Around) (outer : List Env) (s : Shared) (H : Hp) (vs : List V) (Q : VK) (E : XK), Room k (A.deeper (envOfC q (defScope st) s.heap.objs.size f cdv)) → sp vs H Q E →
      ∃ t, PSs (cxOf (L2.CX P w) P w K mg base N q (defScope st) f cdv A outer s H E) (defBody st) t ∧ t { nx := fun _ H' => Q .non H', rt := Q } (start N vs) H) : CanF P w K mg base (k + 1) C m sp := by
  obtain ⟨f, fd, F, g⟩ := D.ex
  exact ⟨f, fd, ps, F.okX S len (body f), c, g, F.binds hb, fnIn_of F⟩
theorem canC_of {m q : Str} {C : Addr} {st : Stmt} {N ps : List Str} {k : Nat} {sp : Sp} (D : CmT K C m q st) (S : FnScope N ps (defScope st)) (hb : BindsPlain st m q ps) (len : ∀ vs H Q E, sp vs H Q E → vs.length = ps.length)
    (body : ∀ (f : Addr) (cdv : Value) (A : Around) (outer : List Env) (s : Shared) (H : Hp) (vs : List V) (Q : VK) (E : XK), Room k (A.deeper (envOfC q (defScope st) s.heap.objs.size f cdv)) → sp vs H Q E →
      ∃ t, PSs (cxOf (L2.CX P w) P w K mg base N q (defScope st) f cdv A outer s H E) (defBody st) t ∧ t { nx := fun _ H' => Q .non H', rt := Q } (start N vs) H) : CanC P w K mg base (k + 1) C m sp := by
  obtain ⟨mc, p, g, fd, F, r, c⟩ := D.ex
  exact ⟨mc, p, g, fd, ps, F.okX S len (body g), r, c, F.binds hb⟩
end
section
variable {X : Cx} {k j i : Nat} {C : Addr} {x m : Str} {sp : Sp} {W : WX} {p pos apos : Pos} {e o fe : Expr} {es : List Expr} {ta tf : TE} {t : TA}
theorem codeS {f : Addr} {fd : FuncData} {ps : List Str} {pins : List (Addr × Obj)} {σ : St} {H : Hp} {s : Shared} {Q : VK} {us : List Value} {vs : List V} (F : FnOk X.prog X.w X.K X.mg X.base (L2.CX X.prog X.w) k f fd ps sp) (hr : Room k X.A) (hb : Binds X.K fd ps []) (tk : Takes X W)
    (I : Inv X pins σ H s) (r : Vals vs us) (h : sp vs H Q (WE W σ)) : codeAny (model X.prog X.w) X.A (.call (.ref f) ⟨us, []⟩) (fun r s' => match r with | .ok (.ret v) => EP X pins σ Q v s' | .ok _ => False | .error e => X.xe e s') s := by
  have hl : us.length = ps.length := by rw [← r.length]; exact F.len _ _ _ _ h
  have b := hb s us I.kIn (by rw [List.append_nil]; exact hl)
  rw [List.append_nil] at b
  refine codeAny_mono (F.run X.A X.stack s H ⟨us, []⟩ us vs Q (WE W σ) hr I.env0 b r h) fun r s' hq => ?_
  cases r with
  | error e => exact passAt tk σ pins H s e s' I hq
  | ok fl =>
    cases fl with
    | ret v => exact I.after hq
    | next => exact hq.elim
    | brk => exact hq.elim
    | cont => exact hq.elim
/-- o(e, ..) by an own __call__ -/
def tCallOS (X : Cx) (C : Addr) (sp : Sp) (W : WX) (tf : TE) (t : TA) : TE := fun σ H Q => tf σ H fun y H1 => ∃ a, y = V.ref a ∧ t σ H1 fun vs H2 => (∃ dx fs, H2 a = some (.ins C dx fs)) ∧ sp (V.ref a :: vs) H2 Q (WE W σ)
theorem pc_cS (c : CanF X.prog X.w X.K X.mg X.base k C "__call__" sp) (tk : Takes X W) (hr : Room j X.A) (hk : k ≤ j) (hf : PE X fe tf) (ha : PA X (e :: es) t)
    (ht : eval (.Call fe (e :: es) [] pos) X.env = (do callWith pos (← eval fe X.env) [] (backTo pos (starEach (e :: es) X.env)) (backToKw pos (keywordEach [] X.env))) := by rfl)
    (he : starEach (e :: es) X.env = (false, eval e X.env) :: starEach es X.env := by rfl) (hpl : (backTo pos (starEach es X.env)).any (·.1) = false := by rfl) : PE X (.Call fe (e :: es) [] pos) (tCallOS X C sp W tf t) := by
  obtain ⟨f, fd, ps, F, hcl, hm, b, hfn⟩ := c.ex
  refine ⟨fun pins s σ H Q I h => ?_⟩
  refine Call_ (thn (hf.run pins s σ H _ I h) fun u s1 ⟨y, H1, I1, ry, a, ey, q⟩ => ?_) ht
  subst ey
  obtain rfl : u = Value.ref a := ry
  refine StX.callO_with (thn (ha.run pos pins s1 σ H1 _ I1 q) fun us s2 ⟨vs, H2, I2, r, hi, q2⟩ => ?_) he hpl
  have hi2 : StX.InsC X H2 a C := .inr hi
  obtain ⟨ox, od, J, hd⟩ := StX.insC_at I2 hi2
  exact ⟨⟨C, ox, od, J, hd⟩, wpAny_call (PySem.W.kco_code I2.kIn J hd hm.at_ hm.fn hfn (codeS (us := .ref a :: us) (vs := .ref a :: vs) F (hr.mono hk) b tk I2 (.cons rfl r) q2))⟩
def tCallO0 (X : Cx) (C : Addr) (sp : Sp) (tf : TE) (t : TA) : TE := fun σ H Q => tf σ H fun y H1 => ∃ a, y = V.ref a ∧ t σ H1 fun vs H2 => (∃ dx fs, H2 a = some (.ins C dx fs)) ∧ sp (V.ref a :: vs) H2 Q E0
theorem pc_c (c : CanF X.prog X.w X.K X.mg X.base k C "__call__" sp) (hr : Room j X.A) (hk : k ≤ j) (hf : PE X fe tf) (ha : PA X (e :: es) t)
    (ht : eval (.Call fe (e :: es) [] pos) X.env = (do callWith pos (← eval fe X.env) [] (backTo pos (starEach (e :: es) X.env)) (backToKw pos (keywordEach [] X.env))) := by rfl)
    (he : starEach (e :: es) X.env = (false, eval e X.env) :: starEach es X.env := by rfl) (hpl : (backTo pos (starEach es X.env)).any (·.1) = false := by rfl) : PE X (.Call fe (e :: es) [] pos) (tCallO0 X C sp tf t) := by
  obtain ⟨f, fd, ps, F, hcl, hm, b, hfn⟩ := c.ex
  refine ⟨fun pins s σ H Q I h => ?_⟩
  refine Call_ (thn (hf.run pins s σ H _ I h) fun u s1 ⟨y, H1, I1, ry, a, ey, q⟩ => ?_) ht
  subst ey
  obtain rfl : u = Value.ref a := ry
  refine StX.callO_with (thn (ha.run pos pins s1 σ H1 _ I1 q) fun us s2 ⟨vs, H2, I2, r, hi, q2⟩ => ?_) he hpl
  have hi2 : StX.InsC X H2 a C := .inr hi
  obtain ⟨ox, od, J, hd⟩ := StX.insC_at I2 hi2
  have F' : FnR X.prog X.w X.K X.mg X.base (L2.CX X.prog X.w) k f (fun vs H Q E => sp (vs ++ []) H Q E) := F.raw b .nil
  exact ⟨⟨C, ox, od, J, hd⟩, wpAny_call (PySem.W.kco_code I2.kIn J hd hm.at_ hm.fn hfn (run_fnR (us := .ref a :: us) (vs := .ref a :: vs) F' (hr.mono hk) passL I2 (.cons rfl r) (by rw [List.append_nil]; exact q2)))⟩
/-- C.m(e, ..), m a classmethod -/
def tCmS (C : Addr) (sp : Sp) (W : WX) (ta : TE) (t : TA) : TE := fun σ H Q => ta σ H fun x H1 => x = .ref C ∧ t σ H1 fun vs H2 => sp (.ref C :: vs) H2 Q (WE W σ)
theorem pc_cmS {pl : Sem Bool} (c : CanC X.prog X.w X.K X.mg X.base k C m sp) (tk : Takes X W) (hr : Room j X.A) (hk : k ≤ j) (he : PE X o ta) (ha : PA X (e :: es) t)
    (hst : starEach (e :: es) X.env = (false, eval e X.env) :: starEach es X.env := by rfl) (hpl : (backTo pos (starEach es X.env)).any (·.1) = false := by rfl)
    (ht : eval (.Call (.Attribute o m apos) (e :: es) [] pos) X.env = (do
      let ov ← eval o X.env
      standAt apos.atName
      let (f, first) ← holding [ov] (getMethod ov m pl)
      callWith pos f first (backTo pos (starEach (e :: es) X.env)) (backToKw pos (keywordEach [] X.env))) := by rfl) :
    PE X (.Call (.Attribute o m apos) (e :: es) [] pos) (tCmS C sp W ta t) := by
  obtain ⟨mc, pp, g, fd, ps, F, r, cm, b⟩ := c.ex
  refine ⟨fun pins s σ H Q I h => ?_⟩
  refine PySem.W.methodCall_KW (pl := pl) (thn (he.run pins s σ H _ I h) fun u s1 ⟨x, H1, I1, rx, ex, q⟩ => ?_) ht
  subst ex
  obtain rfl : u = Value.ref C := rx
  refine ClX.getmethcm_ok I1 r cm fun s2 I2 => ?_
  refine ClX.callwith_cm I2 (ClX.base_none I1 (Nat.le_refl _)) cm.fi (thn (ha.run pos _ s2 σ H1 _ I2 q) fun us s3 ⟨vs, H3, I3, r3, q3⟩ => ?_) hst hpl
  refine ⟨⟨ClX.pin_at I3, I3.kIn⟩, ?_⟩
  have z : wpAny (model X.prog X.w) X.A (call (.ref s1.heap.objs.size) us) (EP X ((s1.heap.objs.size, PySem.W.methodObj (.ref g) (.ref C)) :: pins) σ Q) X.xe s3 :=
    wpAny_call (PySem.W.method_call (ClX.pin_at I3) (codeS (us := .ref C :: us) (vs := .ref C :: vs) F (hr.mono hk) b tk I3 (.cons rfl r3) q3))
  exact thn z fun _ _ y => ClX.unpinE y
def tCm0 (C : Addr) (sp : Sp) (ta : TE) (t : TA) : TE := ClX.tCMeth C (fun vs H Q E => sp (vs ++ []) H Q E) E0 ta t
theorem pc_cm {pl : Sem Bool} (c : CanC X.prog X.w X.K X.mg X.base k C m sp) (hr : Room j X.A) (hk : k ≤ j) (he : PE X o ta) (ha : PA X (e :: es) t)
    (hst : starEach (e :: es) X.env = (false, eval e X.env) :: starEach es X.env := by rfl) (hpl : (backTo pos (starEach es X.env)).any (·.1) = false := by rfl)
    (ht : eval (.Call (.Attribute o m apos) (e :: es) [] pos) X.env = (do
      let ov ← eval o X.env
      standAt apos.atName
      let (f, first) ← holding [ov] (getMethod ov m pl)
      callWith pos f first (backTo pos (starEach (e :: es) X.env)) (backToKw pos (keywordEach [] X.env))) := by rfl) :
    PE X (.Call (.Attribute o m apos) (e :: es) [] pos) (tCm0 C sp ta t) := by
  obtain ⟨mc, pp, g, fd, ps, F, r, cm, b⟩ := c.ex
  exact ClX.pe_cmeth (pl := pl) he r cm (F.raw b .nil) (hr.mono hk) passL ha hst hpl ht
/-- cls(e, ..), the class at C in the slot i -/
def tMakeV (i : Nat) (C : Addr) (sp : Sp) (W : WX) (t : TA) : TE := fun σ H Q => σ[i]? = some (some (.ref C)) ∧ tMakeS C sp W t σ H Q
theorem pc_nV {n : Str} (c : CanN X.prog X.w X.K X.mg X.base k C n sp) (tk : Takes X W) (hr : Room j X.A) (hk : k + 1 ≤ j) (hN : X.N[i]? = some x) (hv : Vis X.env.scope x) (ha : PA X (e :: es) t)
    (hdb : (x == ("__debug__" : Str)) = false := by decide) (hcd : (x == ("__classdict__" : Str)) = false := by decide) (he : starEach (e :: es) X.env = (false, eval e X.env) :: starEach es X.env := by rfl) (hpl : (backTo pos (starEach es X.env)).any (·.1) = false := by rfl) :
    PE X (.Call (.Name x p) (e :: es) [] pos) (tMakeV i C sp W t) := by
  obtain ⟨f, fd, ps, F, M, hm, b⟩ := c.ex
  have hr := hr.mono hk
  constructor
  intro pins s σ H Q I h
  obtain ⟨hs, h⟩ := h
  refine wpAny_Call_Name_kw (thn ((pe_var (pos := p) hN hv hdb hcd).run pins s σ H (fun v H1 => v = .ref C ∧ H1 = H) I ⟨.ref C, hs, rfl, rfl⟩) fun u s0 ⟨v, H1, I0, r1, q1⟩ => ?_)
  obtain ⟨rfl, rfl⟩ := q1
  cases r1
  refine PySem.W.callWith_K (h₀ := X.base) I0.ok.mod.kin M.kp (thn (ha.run pos pins s0 σ _ _ I0 h) ?_) he hpl
  rintro us s1 ⟨vs, G, I1, r, q⟩
  refine ⟨I1.kIn, ?_⟩
  have hq := q (s1.heap.objs.size + 1) s1.heap.objs.size (I1.hok.fresh (Nat.le_succ _)) (I1.hok.fresh (Nat.le_refl _)) (Nat.ne_of_lt (Nat.lt_succ_self _))
  have J := Inv.made (C := C) I1
  have r2 : Vals (V.ref (s1.heap.objs.size + 1) :: vs) (Value.ref (s1.heap.objs.size + 1) :: us) := .cons rfl r
  have hl : (Value.ref (s1.heap.objs.size + 1) :: us ++ []).length = ps.length := by
    have z := r2.length
    rw [F.len _ _ _ _ hq] at z
    rw [List.append_nil]
    exact z.symm
  have bb := b _ (Value.ref (s1.heap.objs.size + 1) :: us) J.kIn hl
  rw [List.append_nil] at bb
  refine wpAny_call (make_map (f := f) I1.kIn M.makes M.init (beq_iff_eq.mp M.fn) (codeAny_mono (F.run _ X.stack _ _ ⟨Value.ref (s1.heap.objs.size + 1) :: us, []⟩ (Value.ref (s1.heap.objs.size + 1) :: us) _ _ (WE W σ) (hr.make C us []) (J.env0.make C us []) bb r2 hq) ?_))
  intro r s' z
  cases r with
  | error er => exact passAt tk σ pins _ _ er s' J z
  | ok fl =>
    cases fl with
    | ret u =>
      obtain ⟨v, H', I3, rv, ev, q3⟩ := J.after z
      subst ev
      exact ⟨rv, V.ref (s1.heap.objs.size + 1), H', I3, rfl, q3⟩
    | next => exact z.elim
    | brk => exact z.elim
    | cont => exact z.elim
end
end Kit

end
section
set_option Elab.async false
set_option linter.all false
set_option maxRecDepth 100000
set_option maxHeartbeats 4000000
namespace Kit
open PySem PySem.Spec PyProof.Rows L2
/-! ### sorted(text) -/
section
variable {X : Cx}
theorem sortT (hcalm : X.calm = true) : CallR X (.builtin "sorted") (fun xs H Q => ∃ l : List Nat, xs = [tx l] ∧ l.length < 64 ∧ ∀ (ys : List Str) (p : Addr), ys.Perm (l.map fun x => S [x]) → sortedS ys = true → H p = none → Q (.ref p) (upd H p (.lst (ys.map V.str)))) := by
  intro pins s σ H xs us Q I r q
  obtain ⟨l, rfl, h64, q⟩ := q
  obtain ⟨u, rfl, t, rfl⟩ := vals1 r
  refine Calls.call_function_entry PyProof.Rows.kind_sorted PyProof.Rows.plain_sorted PyProof.Rows.entry_sorted (PyProof.Rows.args_sorted1 _) ?_
  unfold Builtin.«sorted»
  refine wpAny_bind (m := checkCount "sorted" 1 1 _) (wpAny_pure ?_)
  have hsz : (S l).cps.size = l.length := S_len l
  refine wpAny_bind (wpAny_collect_str (A := X.A.in1) (I.ok.hd hcalm) (S l) t (hn := by rw [hsz, sizeLine_eq]; omega) fun s' acc hk hg hdr hos hacc => ?_)
  have hal : acc.toList.length = l.length := by rw [Array.length_toList, hacc.1, hsz]
  have hS : StrsAre acc.toList (l.map fun x => S [x]) := strs_at (by rw [hal, List.length_map]) fun j v e => by
    obtain ⟨c, tk, e1, rfl⟩ := hacc.2 j v (by rw [← Array.getElem?_toList]; exact e)
    refine ⟨S [c], tk, ?_, rfl⟩
    have e1' : l[j]? = some c := by
      rw [← Array.getElem?_toList] at e1
      exact e1
    rw [List.getElem?_map, e1']
    rfl
  obtain ⟨h', g', d', tk', os'⟩ := s'
  have eg : g' = s.gens := hg
  have ed : d' = s.drawn := hdr
  have eo : os' = s.os := hos
  subst eg; subst ed; subst eo
  have I1 : Inv X pins σ H { s with heap := h', toks := tk' } := I.kept hk
  refine wpAny_bind (wpAny_newList ?_ (by rw [hal, sizeLine_eq]; omega))
  have hoL : (h'.push (seqObj "list" acc.toList.toArray 0)).get? h'.objs.size = some (seqObj "list" acc.toList.toArray 0) := Heap.get?_push_size _ rfl
  show wpAny _ _ _ _ _ { s with heap := h'.push (seqObj "list" acc.toList.toArray 0), toks := tk' }
  refine wpAny_bind (wpAny_holding (wpAny_call_entry PyProof.Rows.slot_list_sort ⟨_, hoL, rfl⟩ PyProof.Rows.entry_list_sort
    (list_sort_treeK strKind_oneLt (s := { s with heap := h'.push (seqObj "list" acc.toList.toArray 0), toks := tk' }) hoL hS.keysOf (fun v₁ v₂ rest e => keyKind_strs (by rw [← e]; exact hS)) (by rw [hal]; exact h64) fun st' hp hs => ⟨_, rfl, ?_⟩)
    (PyProof.Rows.args_list_sort _)))
  obtain ⟨ys, g1, g2, g3⟩ := sorted_out_str hS hp hs
  obtain ⟨e', he'⟩ := PyProof.Rows.sortedHeap_at (vs := acc.toList) (out := (arrOf st').map (·.2)) hoL
  have hlen : (ys.map V.str).length ≤ sizeLine := by
    rw [List.length_map, g2.length_eq, List.length_map]
    exact Nat.le_trans (Nat.le_of_lt h64) (by decide)
  refine wpAny_pure ⟨_, rfl, .ref h'.objs.size, upd H h'.objs.size (.lst (ys.map V.str)), I1.laid (t' := tk') (fun b u e => ?_) (Nat.le_refl _)
    (show ObjOk X.prog X.w _ _ _ (.lst (ys.map V.str)) from ⟨hlen, ((arrOf st').map (·.2)).toList, e', vals_of_strs g1, by rw [Array.toArray_toList]; exact he'⟩), rfl, q ys _ g2 g3 (I1.hok.fresh (Nat.le_refl _))⟩
  have hb : b < h'.objs.size := Heap.lt_size e
  rw [PyProof.Rows.sortedHeap_old (Nat.ne_of_lt hb) (by rw [size_push']; exact Nat.lt_succ_of_lt hb)]
  exact Heap.get?_push_of_some _ e
end
/-! ### len(set(text)) -/
section
variable {prog : Program} {w : World} {A : Around} {R : Result → Shared → Prop} {I : Addr} {fp wr : List Addr} {G : Array GenState → Array GenState → Prop} {n : Nat} {x : Str} {St : Nat → Shared → Prop}
def one1 (c : Nat) : Str := ⟨#[c]⟩
theorem one1_inj {c d : Nat} (h : one1 c = one1 d) : c = d := by
  have q : [c] = [d] := congrArg (fun y : Str => y.cps.toList) h
  exact (List.cons.inj q).1
theorem mem_one1 {acc : List Nat} {c : Nat} : decide (one1 c ∈ acc.map one1) = decide (c ∈ acc) := by
  by_cases h : c ∈ acc
  · rw [decide_eq_true h, decide_eq_true (List.mem_map_of_mem h)]
  · rw [decide_eq_false h, decide_eq_false]
    intro q
    obtain ⟨d, hd, e⟩ := List.mem_map.mp q
    exact h (one1_inj e ▸ hd)
theorem loopTx (W : WalksS prog w A.in1 I fp wr G n (SignAt x) St) (P : Addr) (hPf : P ∉ fp) (hsz : x.cps.size = n) (hn1 : n ≤ 1000) :
    ∀ (k i : Nat) (s : Shared) (acc : List Nat), n - i = k → i ≤ n → St i s → acc.Nodup → (∀ c, c ∈ acc ↔ c ∈ x.cps.toList.take i) → acc.length ≤ i →
      s.heap.SetOf (PySem.strKind prog w) P (fun k' => decide (k' ∈ acc.map one1)) acc.length →
      (∀ (s' : Shared) (acc' : List Nat), Moved (P :: wr) G s s' → acc'.Nodup → (∀ c, c ∈ acc' ↔ c ∈ x.cps.toList) → acc'.length ≤ n → s'.heap.SetOf (PySem.strKind prog w) P (fun k' => decide (k' ∈ acc'.map one1)) acc'.length → R (.ok (.ret .none)) s') →
      codeAny (model prog w) A (.builtin "set.update.loop" ⟨[.ref P, .ref I], []⟩) R s := by
  have hPw : P ∉ wr := fun h => hPf (W.sub _ h)
  have hsub : ∀ b ∈ wr, b ∈ P :: wr := fun b hb => List.mem_cons_of_mem _ hb
  intro k
  induction k with
  | zero =>
    intro i s acc hk hi hst hnd hmem hle hS hR
    have hin : i = n := by omega
    subst hin
    refine codeAny_builtin PyProof.Rows.F.entry_set_update_loop ?_
    rw [Around.under_plainId PyProof.Rows.F.plain_set_update_loop _]
    show wpAny _ A.in1 (pyNext (.ref I) >>= _) _ _ s
    refine wpAny_bind (W.done s _ _ hst fun s' hm => ?_)
    show wpAny _ A.in1 (ret Value.none) _ _ s'
    refine wpAny_pure (hR s' acc (hm.mono hsub) hnd (fun c => ?_) hle (by
      obtain ⟨o, es, ep, t, ho, rest⟩ := hS
      exact ⟨o, es, ep, t, hm.heap P _ hPw ho, rest⟩))
    rw [hmem c, List.take_of_length_le (by rw [Array.length_toList]; omega)]
  | succ k ih =>
    intro i s acc hk hi hst hnd hmem hle hS hR
    have hlt : i < n := by omega
    refine codeAny_builtin PyProof.Rows.F.entry_set_update_loop ?_
    rw [Around.under_plainId PyProof.Rows.F.plain_set_update_loop _]
    show wpAny _ A.in1 (pyNext (.ref I) >>= _) _ _ s
    refine wpAny_bind (W.item i s _ _ hlt hst fun v s' hP hst' hm => ?_)
    obtain ⟨c, t, hc, rfl⟩ := hP
    have hS' : s'.heap.SetOf (PySem.strKind prog w) P (fun k' => decide (k' ∈ acc.map one1)) acc.length := by
      obtain ⟨o, es, ep, tb, ho, rest⟩ := hS
      exact ⟨o, es, ep, tb, hm.heap P _ hPw ho, rest⟩
    have htk : x.cps.toList.take (i + 1) = x.cps.toList.take i ++ [c] := by
      rw [List.take_add_one, Array.getElem?_toList, hc]
      rfl
    show wpAny _ A.in1 (holding [Value.str (one1 c) t] (setAdd P (.str (one1 c) t)) >>= _) _ _ s'
    refine wpAny_bind (wpAny_holding ?_)
    unfold setAdd
    refine wpAny_holding ?_
    refine wpAny_bind ((PySem.strKind prog w).pyHash (k := one1 c) (strKind_is _ _ _ _) ?_)
    refine wpAny_setAddHashed_of (knd := PySem.strKind prog w) (s := { s' with toks := s'.toks + 1 }) (strKind_is _ _ _ _) rfl hS' (by unfold scanBound; omega) fun h' hsb hS2 => ?_
    have step : ∃ acc2 : List Nat, acc2.Nodup ∧ (∀ d, d ∈ acc2 ↔ d ∈ x.cps.toList.take (i + 1)) ∧ acc2.length ≤ i + 1 ∧ h'.SetOf (PySem.strKind prog w) P (fun k' => decide (k' ∈ acc2.map one1)) acc2.length := by
      by_cases hin : c ∈ acc
      · refine ⟨acc, hnd, fun d => ?_, by omega, SetOf_congr hS2 (fun k' => ?_) ?_⟩
        · rw [htk, List.mem_append, ← hmem d, List.mem_singleton]
          exact ⟨.inl, fun q => q.elim id fun e => e ▸ hin⟩
        · show (decide (k' ∈ acc.map one1) || decide (k' = one1 c)) = decide (k' ∈ acc.map one1)
          by_cases e : k' = one1 c
          · subst e
            rw [mem_one1, decide_eq_true hin, Bool.true_or]
          · rw [decide_eq_false e, Bool.or_false]
        · rw [mem_one1, if_pos (decide_eq_true hin)]
      · refine ⟨c :: acc, List.nodup_cons.mpr ⟨hin, hnd⟩, fun d => ?_, by simp; omega, SetOf_congr hS2 (fun k' => ?_) ?_⟩
        · rw [htk, List.mem_append, ← hmem d, List.mem_singleton, List.mem_cons]
          exact Or.comm
        · show (decide (k' ∈ acc.map one1) || decide (k' = one1 c)) = decide (k' ∈ (c :: acc).map one1)
          rw [List.map_cons]
          by_cases e : k' = one1 c
          · subst e
            rw [decide_eq_true (List.mem_cons_self ..), decide_eq_true rfl, Bool.or_true]
          · rw [decide_eq_false e, Bool.or_false]
            by_cases q : k' ∈ acc.map one1
            · rw [decide_eq_true q, decide_eq_true (List.mem_cons_of_mem _ q)]
            · rw [decide_eq_false q, decide_eq_false (fun z => (List.mem_cons.mp z).elim e q)]
        · rw [mem_one1, if_neg (by rw [decide_eq_false hin]; exact Bool.false_ne_true)]
          rfl
    obtain ⟨acc2, n2, m2, l2, S2⟩ := step
    refine wpAny_pure ⟨plainId_quiet PyProof.Rows.F.plain_set_update_loop _, ih (i + 1) _ acc2 (by omega) hlt (W.frame _ s' _ _ hst' (Nat.le_succ _) fun b hb o e => ?_) n2 m2 l2 S2 fun s'' acc' hm'' a1 a2 a3 a4 => ?_⟩
    · rw [hsb.2 b (fun h : b = P => hPf (by rw [← h]; exact hb))]; exact e
    · refine hR s'' acc' (Moved.trans W.gtrans ((hm.mono hsub).then_heap (Nat.le_succ _) fun b o hb e => ?_) hm'') a1 a2 a3 a4
      rw [hsb.2 b (fun h : b = P => hb (by rw [h]; exact List.mem_cons_self))]; exact e
end
theorem sub_str_set : isSubtype (.type "str") (.type "set") = pure false := by rw [isSubtype_type]; kernel_rfl
theorem sub_str_frozenset : isSubtype (.type "str") (.type "frozenset") = pure false := by rw [isSubtype_type]; kernel_rfl
section
variable {prog : Program} {w : World} {A : Around} {E : Value → Shared → Prop} {s : Shared}
set_option maxHeartbeats 3200000 in
theorem call_set_tx {x : Str} {u : Tok} {Q : Value → Shared → Prop} (hh : A.handled = none) (hn1 : x.cps.size ≤ 1000)
    (h : ∀ (h' : Heap) (tk : Nat) (acc : List Nat), acc.Nodup → (∀ c, c ∈ acc ↔ c ∈ x.cps.toList) → acc.length ≤ x.cps.size → h'.SetOf (PySem.strKind prog w) s.heap.objs.size (fun k' => decide (k' ∈ acc.map one1)) acc.length →
      (∀ b o, b < s.heap.objs.size → s.heap.get? b = some o → h'.get? b = some o) → Q (.ref s.heap.objs.size) { s with heap := h', toks := tk }) :
    wpAny (model prog w) A (call (.type "set") [.str x u]) Q E s := by
  obtain ⟨c, tl, hmro⟩ := PySem.F.called_set.mro
  have hmade := PySem.F.called_set.made
  have hsub := PySem.F.called_set.sub
  refine wpAny_call (codeAny_of_tree ?_)
  show wpAny _ _ (callAny (.type "set") _) _ _ _
  refine wpAny_pure ⟨Code.quiet_builtin _ (by decide +kernel), codeAny_builtin PySem.F.entry_type_call ?_⟩
  rw [Around.under_plain (weight_type_call_type "set" [.str x u] []) rfl]
  have h1 := PySem.F.called_set.notType
  have h2 := PySem.F.called_set.canCreate
  have hct := PySem.F.typeCall_set_1 (.str x u)
  repeat (any_goals (first | assumption | wp_step))

  refine codeAny_mono (code_set_new_1 (.str x u) (E := E) (Q₁ := fun obj s₁ => ∃ led : Bool, obj = .ref s.heap.objs.size ∧ s₁ = { s with heap := s.heap.push { cls := .type "set", dict := none, data := .set #[] 0 (.fresh 0 0 led) } }) fun led => ⟨led, rfl, rfl⟩) fun r s₁ hr => ?_
  cases r with
  | error e => exact hr
  | ok fl =>
    cases fl with
    | ret obj =>
      obtain ⟨led, rfl, rfl⟩ := hr
      have hS : (s.heap.push { cls := .type "set", dict := none, data := .set #[] 0 (.fresh 0 0 led) }).get? s.heap.objs.size = some { cls := .type "set", dict := none, data := .set #[] 0 (.fresh 0 0 led) } := Heap.get?_push_size _ rfl
      have hT : Shared.TypeIs { s with heap := s.heap.push { cls := .type "set", dict := none, data := .set #[] 0 (.fresh 0 0 led) } } (.ref s.heap.objs.size) "set" := ⟨_, hS, rfl⟩
      have hli := PySem.F.called_set.init.lookup
      have hbi := PySem.F.called_set.init.bind (.ref s.heap.objs.size)
      repeat (any_goals (first | assumption | wp_step))

      refine codeAny_mono (codeAny_call_builtin (R := wants (fun r s₂ => r = .none ∧ ∃ (h' : Heap) (tk : Nat) (acc : List Nat), s₂ = { s with heap := h', toks := tk } ∧ acc.Nodup ∧ (∀ c, c ∈ acc ↔ c ∈ x.cps.toList) ∧ acc.length ≤ x.cps.size ∧
          h'.SetOf (PySem.strKind prog w) s.heap.objs.size (fun k' => decide (k' ∈ acc.map one1)) acc.length ∧
          (∀ b o, b < s.heap.objs.size → s.heap.get? b = some o → h'.get? b = some o)) E) PySem.F.called_set.init.plain PySem.F.entry_set_init (check_set_init_1 hT ?_)) fun r₂ s₂ hr₂ => ?_
      · have hty : typeOf (.str x u) = pure (.type "str") := rfl
        have hsls := sub_str_set
        have hslf := sub_str_frozenset
        have hne : (Value.type "str" == Value.type "dict") = false := by decide
        unfold Builtin.«set.__init__» noKeywords Builtin.Frozenset.updateFrom
        generalize hPI : pyIter = PI
        wp_walk
        subst hPI
        refine wpAny_pyIter_str fun o St W hst => ?_
        refine wpAny_bind (wpAny_runValue ?_)
        have hh3 : A.in1.in1.in1.handled = none := by simp [hh]
        have hSf : s.heap.objs.size ∉ [(s.heap.push { cls := .type "set", dict := none, data := .set #[] 0 (.fresh 0 0 led) }).objs.size] := by
          rw [Heap.size_push]
          intro q
          exact Nat.ne_of_lt (Nat.lt_succ_self _) (List.mem_singleton.mp q)
        refine loopTx ((W _ hh3).toS) s.heap.objs.size hSf rfl hn1 (x.cps.size - 0) 0 _ [] (by omega) (Nat.zero_le _) hst List.nodup_nil (fun c => by simp) (Nat.le_refl _) ?hS0 ?hR
        case hS0 =>
          have hget : ((s.heap.push { cls := .type "set", dict := none, data := .set #[] 0 (.fresh 0 0 led) }).push o).get? s.heap.objs.size
              = some { cls := .type "set", dict := none, data := .set #[] 0 (.fresh 0 0 led) } := Heap.get?_push_of_some _ hS
          exact PyProof.Rows.SetOf_congr ((PyProof.Rows.setObjOf_fresh (knd := PySem.strKind prog w) led).setOf hget (by unfold scanBound; omega)) (fun _ => by simp) rfl
        case hR =>
          intro s' acc' hm a1 a2 a3 hS'
          obtain ⟨h', g', d', tk', os'⟩ := s'
          have eg : g' = s.gens := hm.gens
          have ed : d' = s.drawn := hm.drawn
          have eo : os' = s.os := hm.os
          subst eg; subst ed; subst eo
          show wpAny _ _ _ _ _ _
          refine wpAny_pure ?_
          show wpAny _ _ (ret Value.none) _ _ _
          refine wpAny_pure ⟨rfl, h', tk', acc', rfl, a1, a2, a3, hS', fun b o hb e => ?_⟩
          have hb1 : b ≠ s.heap.objs.size := Nat.ne_of_lt hb
          have hb2 : b ≠ (s.heap.push { cls := .type "set", dict := none, data := .set #[] 0 (.fresh 0 0 led) }).objs.size := by
            rw [Heap.size_push]; exact Nat.ne_of_lt (Nat.lt_succ_of_lt hb)
          exact hm.heap b o (by simp only [List.mem_cons, List.mem_singleton, List.not_mem_nil, or_false, not_or]; exact ⟨hb1, hb2⟩) (Heap.get?_push_of_some _ (Heap.get?_push_of_some _ e))
      · cases r₂ with
        | error e => exact hr₂
        | ok fl₂ =>
          cases fl₂ with
          | ret r =>
            obtain ⟨rfl, h', tk, acc, rfl, a1, a2, a3, hS', hk'⟩ := hr₂
            repeat (any_goals (first | assumption | wp_step))
            exact h _ _ acc a1 a2 a3 hS' hk'
          | _ => exact hr₂.elim
    | _ => exact hr.elim
end
/-- len(set(text)) -/
def tLenSetT (ta : TE) : TE := fun σ H Q => ta σ H fun x H1 => ∃ l : List Nat, x = tx l ∧ l.length ≤ 1000 ∧ ∀ acc : List Nat, acc.Nodup → (∀ c, c ∈ acc ↔ c ∈ l) → Q (.int acc.length) H1
section
variable {X : Cx}
theorem pe_lenSetT {a : Expr} {ta : TE} {p p2 q pos : Pos} (hc : X.calm = true) (hg : Gl X "len") (hm : X.mg "len" = none) (hg2 : Gl X "set") (hm2 : X.mg "set" = none) (ha : PE X a ta)
    (na : starEach [a] X.env = (false, eval a X.env) :: starEach [] X.env := by rfl) : PE X (.Call (.Name "len" p) [.Call (.Name "set" p2) [a] [] q] [] pos) (tLenSetT ta) := by
  refine ⟨fun pins s σ H Q I h => ?_⟩
  refine Call_ (ld_blt I hg hm boot_len ?_)
  refine PyProof.Rows.callWith_builtin1 (PyProof.Rows.args_cons ?_ rfl) rfl rfl
  refine Call_ (ld_blt I hg2 hm2 boot_set ?_)
  refine PyProof.Rows.callWith_type1 (PyProof.Rows.args_cons (thn (ha.run pins s σ H _ I h) fun v s1 ⟨x, H1, I1, r1, q1⟩ => PyProof.Rows.args_nil ?_) na) na rfl
  obtain ⟨l, rfl, hl, q1⟩ := q1
  obtain ⟨t, rfl⟩ := r1
  refine call_set_tx (I1.ok.hd hc) (by show (S l).length ≤ 1000; rw [S_len]; exact hl) fun h' tk acc a1 a2 a3 hS hk => PyProof.Rows.args_nil ?_
  have a3' : acc.length ≤ 1000 := by
    have e : (S l).cps.size = l.length := S_len l
    rw [e] at a3
    omega
  obtain ⟨o, es, ep, t2, ho, hex, hd, _, _, _, hf, hn⟩ := hS
  have I2 : Inv X pins σ H1 { s1 with heap := h', toks := tk } := I1.kept fun b o e => hk b o (Heap.lt_size e) e
  refine call_len_set ho hex hd hf (by rw [hn] <;> omega) ⟨.int acc.length, H1, I2.tok _, ⟨_, by rw [hn]⟩, q1 acc a1 fun c => ?_⟩
  rw [a2 c, S_cps]
end
end Kit

end
section
set_option Elab.async false
set_option linter.all false
set_option maxRecDepth 100000
set_option maxHeartbeats 4000000
namespace Kit
open PySem PySem.Spec PyProof.Rows L2
/-! ### zip over lists and texts -/
inductive Sd where
  | L (a : Addr)
  | T (x : Str)
def signs (x : Str) : List V := x.cps.toList.map fun c => .str ⟨#[c]⟩
def Sd.at (H : Hp) : Sd → List V → Prop
  | .L a, xs => H a = some (.lst xs)
  | .T x, xs => xs = signs x
def Sd.st (h : Heap) (it : Addr) (i : Nat) : Sd → Prop
  | .L a => h.IsListIter it a i
  | .T x => ∃ t, h.IsStrIter it (strIterType x) x t i
theorem Sd.live {h : Heap} {it : Addr} {i : Nat} {sd : Sd} (st : sd.st h it i) : ∃ o, h.get? it = some o ∧ ∀ v, o.data ≠ .cell v := by
  cases sd with
  | L a =>
    obtain ⟨o, ho, hc, hd⟩ := st
    exact ⟨o, ho, fun v q => by rw [hd] at q; cases q⟩
  | T x =>
    obtain ⟨t, o, ho, hc, hd⟩ := st
    exact ⟨o, ho, fun v q => by rw [hd] at q; cases q⟩
theorem Sd.keep {h h' : Heap} {it : Addr} {i : Nat} {sd : Sd} (st : sd.st h it i) (k : ∀ o, h.get? it = some o → h'.get? it = some o) : sd.st h' it i := by
  cases sd with
  | L a =>
    obtain ⟨o, ho, r⟩ := st
    exact ⟨o, k _ ho, r⟩
  | T x =>
    obtain ⟨t, o, ho, r⟩ := st
    exact ⟨t, o, k _ ho, r⟩
structure Dr (X : Cx) (H : Hp) (h : Heap) (sd : Sd) (it : Addr) (i : Nat) (xs : List V) : Prop where
  ex : ∃ (fp : List Addr) (P : Nat → Value → Prop) (St : Nat → Heap → Prop), Draws X.prog X.w X.A.in1 it fp xs.length P St ∧ St i h ∧ it ∈ fp ∧ (∀ c ∈ fp, c = it ∨ H c ≠ none) ∧ (∀ j h', St j h' → sd.st h' it j) ∧ (∀ x u, P i u → xs[i]? = some x → RelV x u)
theorem dr_of {X : Cx} {pins : List (Addr × Obj)} {σ : St} {H : Hp} {s : Shared} {sd : Sd} {it : Addr} {i : Nat} {xs : List V} (hc : X.calm = true) (I : Inv X pins σ H s) (hn : H it = none) (hat : sd.at H xs) (st : sd.st s.heap it i) : Dr X H s.heap sd it i xs := by
  cases sd with
  | L a =>
    have hat : H a = some (.lst xs) := hat
    obtain ⟨hzz, its, nn, rv, hl0⟩ := (show ObjOk X.prog X.w H s.heap a (.lst xs) from I.hok a _ hat)
    have hL : s.heap.IsList a its.toArray := ⟨_, hl0, rfl, nn, rfl⟩
    have hne : a ≠ it := fun q => by rw [q, hn] at hat; cases hat
    have hl : its.toArray.size = xs.length := by rw [List.size_toArray, rv.length]
    refine ⟨[it, a], _, _, hl ▸ Draws.list (A := X.A.in1) (show X.A.in1.handled = none from I.ok.hd hc) it a hne its.toArray, ⟨st, hL⟩, by simp, fun c hcm => ?_, fun j h' q => q.1, fun x u hu hx => ?_⟩
    · have e : c = it ∨ c = a := by simpa using hcm
      rcases e with e | e
      · exact .inl e
      · refine .inr ?_
        rw [e, hat]
        simp
    · obtain ⟨u', hu', ru⟩ := rv.get hx
      have z : its[i]? = some u := by simpa using hu
      rw [hu'] at z
      cases z
      exact ru
  | T x =>
    obtain ⟨t, st⟩ := st
    have hat : xs = signs x := hat
    have hl : x.cps.size = xs.length := by rw [hat, signs, List.length_map, Array.length_toList]
    refine ⟨[it], _, _, hl ▸ Draws.text (A := X.A.in1) (show X.A.in1.handled = none from I.ok.hd hc) it x t, st, by simp, fun c hcm => .inl (by simpa using hcm), fun j h' q => ⟨t, q⟩, fun y u hu hx => ?_⟩
    obtain ⟨c, tk, hc', rfl⟩ := hu
    rw [hat, signs, List.getElem?_map, Array.getElem?_toList, hc'] at hx
    cases hx
    exact ⟨tk, rfl⟩
structure Cells (z TI TO i1 i2 : Addr) : Prop where
  a1 : TI ≠ z
  a2 : TO ≠ z
  a3 : TI ≠ TO
  a4 : TI ≠ i1
  a5 : TI ≠ i2
  a6 : TO ≠ i1
  a7 : TO ≠ i2
  a8 : z ≠ i1
  a9 : z ≠ i2
  a10 : i1 ≠ i2
theorem sep_of {H : Hp} {z TI TO i1 i2 : Addr} {f1 f2 : List Addr} (C : Cells z TI TO i1 i2) (hn : ∀ b ∈ [z, TI, TO, i1, i2], H b = none) (m1 : i1 ∈ f1) (m2 : i2 ∈ f2) (h1 : ∀ c ∈ f1, c = i1 ∨ H c ≠ none) (h2 : ∀ c ∈ f2, c = i2 ∨ H c ≠ none) :
    ZipSep2 z TI TO i1 i2 f1 f2 where
  TIz := C.a1
  TOz := C.a2
  TITO := C.a3
  TIi1 := C.a4
  mem1 := m1
  zf1 := fun q => (h1 _ q).elim C.a8 fun k => k (hn _ (by simp))
  Tf1 := fun q => (h1 _ q).elim C.a6 fun k => k (hn _ (by simp))
  TIi2 := C.a5
  mem2 := m2
  zf2 := fun q => (h2 _ q).elim C.a9 fun k => k (hn _ (by simp))
  Tf2 := fun q => (h2 _ q).elim C.a7 fun k => k (hn _ (by simp))
  sep1_2 := fun q => (h2 _ q).elim C.a10 fun k => k (hn _ (by simp))
  sep2_1 := fun q => (h1 _ q).elim (Ne.symm C.a10) fun k => k (hn _ (by simp))
def ItZ (d1 d2 : Sd) : It :=
  ⟨fun i G => ∃ (xs ys : List V) (x y : V), d1.at G xs ∧ d2.at G ys ∧ xs[i]? = some x ∧ ys[i]? = some y,
    fun i G v G' => ∃ T x y, v = .ref T ∧ G T = none ∧ G' = upd G T (.tup [x, y]) ∧ (∀ xs, d1.at G xs → xs[i]? = some x) ∧ ∀ ys, d2.at G ys → ys[i]? = some y,
    fun i G => ∃ xs ys : List V, d1.at G xs ∧ d2.at G ys ∧ i ≤ xs.length ∧ i ≤ ys.length ∧ (i = xs.length ∨ i = ys.length)⟩
theorem Sd.inj {H : Hp} {sd : Sd} {xs ys : List V} (h1 : sd.at H xs) (h2 : sd.at H ys) : xs = ys := by
  cases sd with
  | L a =>
    have h1 : H a = some (.lst xs) := h1
    have h2 : H a = some (.lst ys) := h2
    rw [h1] at h2
    cases h2
    rfl
  | T x => exact Eq.trans h1 (Eq.symm h2)
theorem turn_Z {P : Program} {w : World} {K : PySem.W.Frag} {elts : List Expr} {kk : Nat} {tpos : Pos} (d1 d2 : Sd) {z TI TO i1 i2 : Addr} (C : Cells z TI TO i1 i2) :
    Turn P w K (.Tuple elts kk tpos) (ItZ d1 d2) [z, TI, TO, i1, i2] z (fun i h => IsZip h z TI TO .none ∧ IsTupOf2 h TI (.ref i1) (.ref i2) ∧ (∃ x y, IsTupOf2 h TO x y) ∧ d1.st h i1 i ∧ d2.st h i2 i) where
  mem := by simp
  obj := fun i h st c hc => by
    obtain ⟨hz, hTI, ⟨x, y, hTO⟩, s1, s2⟩ := st
    have e' : c = z ∨ c = TI ∨ c = TO ∨ c = i1 ∨ c = i2 := by simpa using hc
    rcases e' with q | q | q | q | q
    · rw [q]; exact ⟨_, hz, fun v q => nomatch q⟩
    · rw [q]; exact ⟨_, hTI, fun v q => nomatch q⟩
    · rw [q]; exact ⟨_, hTO, fun v q => nomatch q⟩
    · rw [q]; exact Sd.live s1
    · rw [q]; exact Sd.live s2
  keep := fun i h h' st k => by
    obtain ⟨hz, hTI, ⟨x, y, hTO⟩, s1, s2⟩ := st
    exact ⟨k z (by simp) _ hz, k TI (by simp) _ hTI, ⟨x, y, k TO (by simp) _ hTO⟩, Sd.keep s1 fun o q => k i1 (by simp) o q, Sd.keep s2 fun o q => k i2 (by simp) o q⟩
  item := by
    intro X hP hw hK hc i pins s σ H E I hf st hg
    subst hP hw hK
    obtain ⟨hz, hTI, ⟨x0, y0, hTO⟩, s1, s2⟩ := st
    obtain ⟨xs, ys, x, y, hqx, hqy, hx, hy⟩ := hg
    obtain ⟨f1, P1, St1, D1, t1, m1, u1, b1, r1⟩ := (dr_of hc I (hf i1 (by simp)).1 hqx s1).ex
    obtain ⟨f2, P2, St2, D2, t2, m2, u2, b2, r2⟩ := (dr_of hc I (hf i2 (by simp)).1 hqy s2).ex
    have SS := sep_of C (fun b hb => (hf b hb).1) m1 m2 u1 u2
    have hl1 := (List.getElem?_eq_some_iff.mp hx).1
    have hl2 := (List.getElem?_eq_some_iff.mp hy).1
    have hzl : z < s.heap.objs.size := Heap.lt_size hz
    refine wpAny_pyNext_zipD2_item SS D1 D2 hz hTI hTO t1 t2 hl1 hl2 fun v1 v2 h' tk p1 p2 z' TO' t1' t2' hT hsz hk => ?_
    refine ⟨_, rfl, wpAny_letOwnedTupleGo_zip (s := { s with heap := h', toks := tk }) z' fun h'' z'' sb => ?_⟩
    have ru := r1 x v1 p1 hx
    have ru2 := r2 y v2 p2 hy
    have hT2 : h''.get? s.heap.objs.size = some { cls := .type "tuple", data := .seq #[v1, v2] } := (sb.2 _ (Nat.ne_of_gt hzl)).trans hT
    have new : ObjOk X.prog X.w (upd H s.heap.objs.size (.tup [x, y])) h'' s.heap.objs.size (.tup [x, y]) :=
      ⟨by show 2 ≤ sizeLine; decide, [v1, v2], .cons ru (.cons ru2 .nil), ⟨_, hT2, rfl, _, rfl⟩⟩
    have I1 : Inv X pins σ (upd H s.heap.objs.size (.tup [x, y])) { s with heap := h'', toks := tk } :=
      I.turnedNew (ch := [z, TI, TO, i1, i2]) (fun c o hb q => (sb.2 c (fun q' => hb (by simp [q']))).trans (hk c o (fun q' => hb (by simp [q'])) (fun q' => hb (by simp [q'])) (fun q' => hb (by simp [q'])) (fun q' => hb (by simp [q'])) q)) hf (Nat.le_refl _) new
    refine ⟨.ref s.heap.objs.size, _, I1, rfl, ⟨_, x, y, rfl, I.hok.fresh (Nat.le_refl _), rfl, fun l hl => by rw [Sd.inj hl hqx]; exact hx, fun l hl => by rw [Sd.inj hl hqy]; exact hy⟩, ⟨z'', ?_, ⟨v1, v2, ?_⟩, ?_, ?_⟩, fun c hcm => ?_⟩
    · exact (sb.2 _ C.a1).trans (hk _ _ C.a1 C.a3 C.a4 C.a5 hTI)
    · exact (sb.2 _ C.a2).trans TO'
    · exact Sd.keep (b1 _ _ t1') fun o q => (sb.2 _ (Ne.symm C.a8)).trans q
    · exact Sd.keep (b2 _ _ t2') fun o q => (sb.2 _ (Ne.symm C.a9)).trans q
    · have hlt : c < s.heap.objs.size := by
        have e' : c = z ∨ c = TI ∨ c = TO ∨ c = i1 ∨ c = i2 := by simpa using hcm
        rcases e' with q | q | q | q | q
        · rw [q]; exact hzl
        · rw [q]; exact Heap.lt_size hTI
        · rw [q]; exact Heap.lt_size hTO
        · rw [q]; obtain ⟨_, e1, _⟩ := Sd.live s1; exact Heap.lt_size e1
        · rw [q]; obtain ⟨_, e2, _⟩ := Sd.live s2; exact Heap.lt_size e2
      rw [upd_ne (Nat.ne_of_lt hlt)]
      exact (hf c hcm).1
  done := by
    intro X hP hw hK hc i pins s σ H E I hf st hg
    subst hP hw hK
    obtain ⟨hz, hTI, ⟨x0, y0, hTO⟩, s1, s2⟩ := st
    obtain ⟨xs, ys, hqx, hqy, hi1, hi2, hend⟩ := hg
    obtain ⟨f1, P1, St1, D1, t1, m1, u1, b1, r1⟩ := (dr_of hc I (hf i1 (by simp)).1 hqx s1).ex
    obtain ⟨f2, P2, St2, D2, t2, m2, u2, b2, r2⟩ := (dr_of hc I (hf i2 (by simp)).1 hqy s2).ex
    have SS := sep_of C (fun b hb => (hf b hb).1) m1 m2 u1 u2
    exact wpAny_pyNext_zipD2_end SS D1 D2 hz hTI hTO t1 t2 hi1 hi2 hend fun h' tk hk => ⟨rfl, I.turnedL (t' := tk) (ch := [z, TI, TO, i1, i2]) (fun c o hb q =>
      hk c o (fun q' => hb (by simp [q'])) (fun q' => hb (by simp [q'])) (fun q' => hb (by simp [q'])) (fun q' => hb (by simp [q'])) q) hf⟩
  self := fun A i s Q E st h => wpAny_pyIter_zip st.1 h
theorem walk_Z {d1 d2 : Sd} {xs ys : List V} {n : Nat} (hn : n = min xs.length ys.length) : Walk (ItZ d1 d2) n (fun G => d1.at G xs ∧ d2.at G ys) (YPair (fun i => xs[i]?) (fun i => ys[i]?)) := by
  subst hn
  refine ⟨fun i G hi q => ⟨xs, ys, xs[i], ys[i], q.1, q.2, List.getElem?_eq_getElem (by omega), List.getElem?_eq_getElem (by omega)⟩, fun G q => ⟨xs, ys, q.1, q.2, by omega, by omega, by omega⟩, ?_⟩
  rintro i G v G' hi q ⟨T, x, y, rfl, hT, rfl, hx, hy⟩
  exact ⟨T, x, y, rfl, hT, rfl, hx xs q.1, hy ys q.2⟩
def Sd.v : Sd → V
  | .L a => .ref a
  | .T x => .str x
def iZipZ (ta : TA) : TI := fun σ H R => ta σ H fun vs H1 => ∃ d1 d2 xs ys, vs = [Sd.v d1, Sd.v d2] ∧ d1.at H1 xs ∧ d2.at H1 ys ∧ R (ItZ d1 d2) H1
theorem bg_of {X : Cx} {pins : List (Addr × Obj)} {σ : St} {H : Hp} {s : Shared} {sd : Sd} {u : Value} {xs : List V} (I : Inv X pins σ H s) (r : RelV sd.v u) (hat : sd.at H xs) :
    ∃ (o : Obj) (HH : Heap → Prop), Begins u o HH ∧ HH s.heap ∧ ∀ (h' : Heap) (it : Addr), h'.get? it = some o → sd.st h' it 0 := by
  cases sd with
  | L a =>
    cases r
    obtain ⟨hzz, its, nn, rv, hl0⟩ := (show ObjOk X.prog X.w H s.heap a (.lst xs) from I.hok a _ hat)
    have hL : s.heap.IsList a its.toArray := ⟨_, hl0, rfl, nn, rfl⟩
    exact ⟨_, _, begins_list a its.toArray, hL, fun h' it e => ⟨_, e, rfl, rfl⟩⟩
  | T x =>
    obtain ⟨t, rfl⟩ := r
    exact ⟨_, _, begins_text x t, True.intro, fun h' it e => ⟨t, _, e, rfl, rfl⟩⟩
theorem cells_of (n : Nat) : Cells (n + 4) (n + 2) (n + 3) n (n + 1) where
  a1 := fun e : n + 2 = n + 4 => by omega
  a2 := fun e : n + 3 = n + 4 => by omega
  a3 := fun e : n + 2 = n + 3 => by omega
  a4 := fun e : n + 2 = n => by omega
  a5 := fun e : n + 2 = n + 1 => by omega
  a6 := fun e : n + 3 = n => by omega
  a7 := fun e : n + 3 = n + 1 => by omega
  a8 := fun e : n + 4 = n => by omega
  a9 := fun e : n + 4 = n + 1 => by omega
  a10 := fun e : n = n + 1 => by omega
theorem pi_zipZ {X : Cx} {e e2 : Expr} {ta : TA} {p pos tpos : Pos} {elts : List Expr} {kk : Nat} (hg : Gl X "zip") (hm : X.mg "zip" = none) (ha : PA X [e, e2] ta)
    (hs : starEach [e, e2] X.env = (false, eval e X.env) :: starEach [e2] X.env := by rfl) (hpl : (backTo pos (starEach [e2] X.env)).any (·.1) = false := by rfl) :
    PI X (.Tuple elts kk tpos) (.Call (.Name "zip" p) [e, e2] [] pos) (iZipZ ta) := by
  refine ⟨fun pins s σ H R I h => ?_⟩
  refine Call_ (ld_blt I hg hm PyProof.Rows.boot_zip (PyProof.Rows.callWith_type1 (thn (ha.run pos pins s σ H _ I h) fun us s1 ⟨vs, H1, I1, r1, q1⟩ => ?_) hs hpl))
  obtain ⟨d1, d2, xs, ys, ex, hqx, hqy, q⟩ := q1
  subst ex
  cases r1 with
  | cons r rr =>
    cases rr with
    | cons r' rr =>
      cases rr
      obtain ⟨o1, H1', B1, k1, c1⟩ := bg_of I1 r hqx
      obtain ⟨o2, H2', B2, k2, c2⟩ := bg_of I1 r' hqy
      refine zip_begins2 B1 B2 k1 k2 fun h' hz hTI hTO h1 h2 hsz hk => wpAny_pyIter_zip hz ?_
      have I2 : Inv X pins σ H1 { s1 with heap := h' } := I1.kept (t' := s1.toks) hk
      refine ⟨s1.heap.objs.size + 4, [s1.heap.objs.size + 4, s1.heap.objs.size + 2, s1.heap.objs.size + 3, s1.heap.objs.size, s1.heap.objs.size + 1], _, _, H1, rfl, I2, turn_Z d1 d2 (cells_of _), ⟨hz, hTI, ⟨_, _, hTO⟩, c1 _ _ h1, c2 _ _ h2⟩, fun c hcm => ?_, q⟩
      have e' : c = s1.heap.objs.size + 4 ∨ c = s1.heap.objs.size + 2 ∨ c = s1.heap.objs.size + 3 ∨ c = s1.heap.objs.size ∨ c = s1.heap.objs.size + 1 := by simpa using hcm
      have hle : s1.heap.objs.size ≤ c := by
        rcases e' with z | z | z | z | z
        · rw [z]; exact Nat.le_add_right _ _
        · rw [z]; exact Nat.le_add_right _ _
        · rw [z]; exact Nat.le_add_right _ _
        · rw [z]; exact Nat.le_refl _
        · rw [z]; exact Nat.le_add_right _ _
      exact I1.fpOk hle (I1.hok.fresh hle)
end Kit

end
section
set_option Elab.async false
set_option linter.all false
set_option maxRecDepth 100000
set_option maxHeartbeats 4000000
namespace Kit
open PySem PySem.Spec PyProof.Rows L2
/-! ### raise X(), X an own error without __init__ -/
abbrev veB : List Value := [.type "ValueError", .type "Exception", .type "BaseException", .type "object"]
structure ErrZ (K : PySem.W.Frag) (mg : Str → Option Value) (C : Addr) (x : Str) : Prop where
  gC : mg x = some (.ref C)
  ex : PySem.W.excIn K C veB "ValueError.__new__" = true
  kC : PySem.W.keepIn K (.ref C) = true
  sB : PySem.W.subIn K (.ref C) (.type "BaseException") = some true
  tC : PySem.W.typeIn K (.ref C) = some (.type "type")
section
variable {X : Cx} {C : Addr} {x : Str} {W : WX} {p pos pos2 : Pos}
theorem pr_own0 (c : ErrZ X.K X.mg C x) (tk : Takes X W) (hcalm : X.calm = true) (hg : Gl X x) (hdb : (x == ("__debug__" : Str)) = false := by decide) :
    PS X (.Raise (some (.Call (.Name x p) [] [] pos)) none pos2) (fun _ σ H => W (.ref C) none σ H) := by
  refine L2.ps_raise hcalm tk (t := fun σ H Q => Q (.ref C) none H) ?_
  intro pins s σ H Q I h
  refine wpAny_Call_Name_kw (ld_glob I hg c.gC ?_ hdb)
  refine PySem.W.callWith_K0 I.kIn c.kC ?_
  show wpAny _ _ (call (.ref C) []) _ _ _
  obtain ⟨bm, N, nm, qn, bs, hdct, sn, sub, ab, col, dd, k0, k1, k2, k3, k5, mN, hC, hN, hni, T⟩ := exc_obj I.kIn c.ex
  obtain ⟨hp, g, dr, tk', os⟩ := s
  refine wpAny_call_exc_subT PySem.F.excBase_ValueError T hC hN hni (fun h' e hm => ?_) (by show 0 ≤ sizeLine; exact Nat.zero_le _)
  exact mk_of I hm (raises_own c.sB c.tC) h (I.hok.gone hm.new)
end
/-! ### own == with any thing whose type does not come first -/
section
variable {X : Cx} {C : Addr} {k j : Nat} {sp : Sp}
def OtherOk2 (K : PySem.W.Frag) (C : Addr) (H : Hp) (y : V) : Prop := (∃ i, y = .int i) ∨ (∃ z, y = .str z) ∨ (∃ b dx fs, y = .ref b ∧ H b = some (.ins C dx fs)) ∨ ∃ b xs, y = .ref b ∧ H b = some (.lst xs)
def rEqO2 (K : PySem.W.Frag) (C : Addr) (sp : Sp) : R2 := fun x y H Q => ∃ a dx fs, x = .ref a ∧ H a = some (.ins C dx fs) ∧ OtherOk2 K C H y ∧ sp [x, y] H (fun v G => ∃ b, v = .bl b ∧ Q (.bl b) G) E0
theorem eqO2 (K : PySem.W.Frag) (c : CanM X.prog X.w X.K X.mg X.base k C "__eq__" sp) (hr : Room j X.A) (hk : k ≤ j) (hni : PySem.W.notFirst K C (.type "int") = true) (hns : PySem.W.notFirst K C (.type "str") = true) (hnl : PySem.W.notFirst K C (.type "list") = true) (hK : X.K = K := by rfl) : OpR X (compareOp .Eq) (rEqO2 K C sp) := by
  subst hK
  obtain ⟨f, fd, ps, F, hc, hm, b⟩ := c.ex
  intro pins s σ H x y v u Q I rx ry hq
  obtain ⟨a, dx, fs, rfl, ha, ho, h⟩ := hq
  cases rx
  show wpAny (model X.prog X.w) X.A (richCompare .Eq (.ref a) u) (EP X pins σ Q) X.xe s
  obtain ⟨mA, J, _⟩ := ins_get I.hok ha
  obtain ⟨od, J, _⟩ := J.look
  obtain ⟨m, hF⟩ := I.fr
  have tb : ∃ tb, PySem.W.Looks (model X.prog X.w) s.heap (typeOf u) tb ∧ PySem.W.notFirst X.K C tb = true := by
    rcases ho with ⟨i, rfl⟩ | ⟨z, rfl⟩ | ⟨b', dy, gs, rfl, hb'⟩ | ⟨b', xs, rfl, hb'⟩
    · obtain ⟨t, rfl⟩ := ry
      exact ⟨.type "int", .now, hni⟩
    · obtain ⟨t, rfl⟩ := ry
      exact ⟨.type "str", .now, hns⟩
    · cases ry
      obtain ⟨mB, J', _⟩ := ins_get I.hok hb'
      obtain ⟨od', J', _⟩ := J'.look
      exact ⟨.ref C, J'.type, by simp [PySem.W.notFirst]⟩
    · cases ry
      obtain ⟨hzz, its, nn, rv, hl0⟩ := (show ObjOk X.prog X.w H s.heap b' (.lst xs) from I.hok b' _ hb')
      exact ⟨.type "list", PySem.W.Looks.ld hl0 |>.andThen .now, hnl⟩
  obtain ⟨tb, htb, hnf⟩ := tb
  refine PySem.W.cmp_K (op := .Eq) (tb := tb) (hr.mono hk).units0 hF I.ok.mod.kin J htb hnf hm.at_ hm.fn ?_
  refine wpAny_mono (run_fn (us := [.ref a, u]) (vs := [.ref a, y]) (dvs := []) (ds := []) F (hr.mono hk) b .nil passL I (.cons rfl (.cons ry .nil)) h) (fun r s' z => ?_) fun _ _ x => x
  obtain ⟨v, H', I', rv, bb, rfl, q⟩ := z
  cases rv
  exact ⟨.bl bb, H', I', rfl, q⟩
end
end Kit
namespace Kit
open PySem PySem.Spec PyProof.Rows L2
/-! ### own != by an own == -/
section
variable {M : Model} {A : Around} {E : Value → Shared → Prop} {s : Shared} {K : PySem.W.Frag} {x C : Addr} {ox : Obj} {od : Option Obj} {b : Value}
theorem ifNe {Q : Option Value → Shared → Prop} (X : K.In s.heap) (I : PySem.W.InstAt s.heap x ox C od) (hs : PySem.W.findIn K (.ref C) "__ne__" = some (some (.builtin "object.__ne__")))
    (h : wpAny M A (call (.builtin "object.__ne__") [.ref x, b]) (fun v => Q (some v)) E s) : wpAny M A (callSpecialIfBound? (.ref x) "__ne__" [b]) Q E s := by
  have hb : bindSpecial (.builtin "object.__ne__") (.ref x) = pure (.builtin "object.__ne__", [.ref x]) := PySem.F.slot_object_ne.bind (.ref x)
  simp only [callSpecialIfBound?, bindSpecialIfBound?]
  refine wpAny_holding (wpAny_bind (wpAny_bind (wpAny_bind (I.type.here ((PySem.W.looks_findIn X hs).here ?_)))))
  refine wpAny_bind (wpAny_askSetting (wpAny_ite ?_))
  have fin : wpAny M A (call (.builtin "object.__ne__") ([.ref x] ++ [b]) >>= fun v => pure (some v)) Q E s := wpAny_bind (wpAny_mono h (fun v s' h' => wpAny_pure h') fun _ _ h' => h')
  split
  · rw [hb]
    exact wpAny_bind (wpAny_pure (wpAny_pure fin))
  · rw [hb]
    exact wpAny_tryCatch (wpAny_bind (wpAny_pure (wpAny_pure fin)))
theorem objNe {prog : Program} {w : World} {f : Addr} {Q : Value → Shared → Prop} (hu : A.in1.units < cLine) (X : K.In s.heap) (I : PySem.W.InstAt s.heap x ox C od) (hm : PySem.W.mroIn K C (.type "object") = some true)
    (he : PySem.W.findIn K (.ref C) "__eq__" = some (some (.ref f))) (hf : PySem.W.isFn K (.ref f) = true) (h : wpAny (model prog w) A.in1 (call (.ref f) [.ref x, b]) (fun v s' => ∃ c, v = .bool c ∧ Q (.bool (!c)) s') E s) :
    wpAny (model prog w) A (call (.builtin "object.__ne__") [.ref x, b]) Q E s := by
  refine wpAny_call (codeAny_call_builtin PySem.F.slot_object_ne.plain PySem.F.cmpEntry_ne (PySem.W.check_slot PySem.F.cmpKind_ne PySem.F.cmpSplit_ne (I.type.andThen (PySem.W.looks_mroIn X hm)) (PySem.F.cmpArgs_ne _ _) ?_))
  unfold Builtin.«object.__ne__»
  refine wpAny_bind (wpAny_pure ?_)
  refine wpAny_bind (wpAny_cRoomFor hu ?_)
  refine wpAny_bind (PySem.W.ifBound_K X I he hf (wpAny_mono h (fun v s' hv => ?_) fun _ _ e => e))
  obtain ⟨c, rfl, q⟩ := hv
  refine wpAny_bind (m := truthy (.bool c)) (wpAny_truthy_bool ?_)
  exact wpAny_pure q
end
section
variable {X : Cx} {C : Addr} {k j : Nat} {sp : Sp}
/-- what a class has that takes != from its == -/
structure NeT (K : PySem.W.Frag) (C : Addr) : Prop where
  ne : PySem.W.findIn K (.ref C) "__ne__" = some (some (.builtin "object.__ne__"))
  hm : PySem.W.mroIn K C (.type "object") = some true
def rNeO (C : Addr) (sp : Sp) : R2 := fun x y H Q => ∃ a dx fs b dy gs, x = .ref a ∧ H a = some (.ins C dx fs) ∧ y = .ref b ∧ H b = some (.ins C dy gs) ∧ sp [x, y] H (fun v G => ∃ c, v = .bl c ∧ Q (.bl (!c)) G) E0
theorem neO (K : PySem.W.Frag) (c : CanM X.prog X.w X.K X.mg X.base k C "__eq__" sp) (hr : Room j X.A) (hk : k + 1 ≤ j) (N : NeT K C) (hK : X.K = K := by rfl) : OpR X (compareOp .NotEq) (rNeO C sp) := by
  subst hK
  obtain ⟨f, fd, ps, F, hc, hm, b⟩ := c.ex
  intro pins s σ H x y v u Q I rx ry hq
  obtain ⟨a, dx, fs, b', dy, gs, rfl, ha, rfl, hb', h⟩ := hq
  cases rx
  cases ry
  show wpAny (model X.prog X.w) X.A (richCompare .NotEq (.ref a) (.ref b')) (EP X pins σ Q) X.xe s
  obtain ⟨mA, J, _⟩ := ins_get I.hok ha
  obtain ⟨od, J, _⟩ := J.look
  obtain ⟨mB, J', _⟩ := ins_get I.hok hb'
  obtain ⟨od', J', _⟩ := J'.look
  have hr1 : Room k X.A.in1 := (hr.mono hk).in1
  have e0 : Env0 X.prog X.w X.K X.mg X.base X.A.in1 X.stack s H := by
    have e := I.env0
    exact ⟨e.frames, e.mod, e.bs, e.bsz, e.funs, e.frf, e.hok, e.bare⟩
  have hl := F.len _ _ _ _ h
  have bb := b s [.ref a, .ref b'] I.kIn (by simpa using hl)
  unfold richCompare
  simp only [oneThing_ref]
  refine wpAny_holding (wpAny_bind (wpAny_cRoomFor (hr.mono hk).units0 ?_))
  refine wpAny_bind (J.type.here (wpAny_bind (J'.type.here ?_)))
  rw [show (Value.ref C != Value.ref C) = false from by simp]
  simp only [Bool.false_eq_true, if_false]
  refine wpAny_bind (wpAny_pure ?_)
  simp only [Bool.false_eq_true, if_false]
  have one : wpAny (model X.prog X.w) X.A (tryCompare (.ref a) "__ne__" (.ref b')) (fun r s' => ∃ v, r = some v ∧ EP X pins σ Q v s') X.xe s := by
    unfold tryCompare
    refine wpAny_bind (ifNe I.kIn J N.ne (objNe hr1.units0 I.kIn J N.hm hm.at_ hm.fn (wpAny_call (codeAny_mono (F.run X.A.in1 X.stack s H ⟨[.ref a, .ref b'], []⟩ [.ref a, .ref b'] [.ref a, .ref b'] _ E0 hr1 e0 (by simpa using bb) (.cons rfl (.cons rfl .nil)) h) ?_))))
    intro z s' hq
    cases z with
    | error e =>
      obtain ⟨_, _, _, _, _, _, _, _, _, _, _, _, y⟩ := hq
      exact y.elim
    | ok fl =>
      cases fl with
      | ret w =>
        obtain ⟨v, H', I', rz, c, rfl, q⟩ := I.after hq
        cases rz
        exact ⟨c, rfl, wpAny_pure ⟨_, rfl, .bl (!c), H', I', rfl, q⟩⟩
      | next => exact hq.elim
      | brk => exact hq.elim
      | cont => exact hq.elim
  refine wpAny_bind (wpAny_mono one (fun r s' z => ?_) fun _ _ e => e)
  obtain ⟨v, rfl, hq⟩ := z
  exact wpAny_pure hq
end
end Kit
namespace Kit
open PySem PySem.Spec PyProof.Rows L2
theorem units1 {k : Nat} {A : Around} (r : Room k A) : A.units + 1 < cLine := by
  have := r.un
  omega
end Kit

end
section
set_option Elab.async false
set_option linter.all false
set_option maxRecDepth 100000
set_option maxHeartbeats 4000000
namespace Kit
open PySem PySem.Spec PyProof.Rows L2
/-! ### comprehensions over pairs; dict comprehensions -/
section
variable {J : It} {n : Nat} {G : Hp → Prop} {Y : Nat → Hp → V → Hp → Prop} {te tk tv : TE} {σ : St} {H1 : Hp} {D : Addr} {Qd : Hp → Prop} {K : PySem.W.Frag} {xs ys : Nat → Option V}
theorem lc_two (w : Walk J n G (YPair xs ys)) {i j : Nat} (out : List V) (hn : out.length = n) (hsz : n ≤ 100000) (hD : H1 D = none) (hG : ∀ H, Same H1 H → G H) (hw : ∀ x y, wipe (((wipe σ [i, j]).set i (some x)).set j (some y)) [i, j] = wipe σ [i, j])
    (hs : ∀ k x y H v, k < n → Same H1 H → xs k = some x → ys k = some y → out[k]? = some v → ∀ Q : VK, (∀ M, Same H M → Q v M) → te (((wipe σ [i, j]).set i (some x)).set j (some y)) H Q)
    (hd : ∀ H, Same H1 H → H D = some (.lst out) → Qd H) :
    ∃ W : Nat → Nat → Hp → Prop, (∃ m, W 0 m (upd H1 D (.lst []))) ∧ ∀ k m H, W k m H →
      (J.stop k H ∧ Qd H) ∨ (J.go k H ∧ ∃ Nx : Hp → Prop, (∀ H', Nx H' → ∃ m', m' < m ∧ W (k + 1) m' H') ∧ ∀ x H', J.yld k H x H' → gTup K 2 (gCons (gName i) (gCons (gName j) gNil)) x (wipe σ [i, j]) H' fun σ2 H2 => wipe σ2 [i, j] = wipe σ [i, j] ∧ tYes σ2 H2 fun b H3 =>
        if b = true then te σ2 H3 fun y H4 => ∃ acc, H4 D = some (.lst acc) ∧ acc.length < sizeLine ∧ Nx (upd H4 D (.lst (acc ++ [y]))) else Nx H3) := by
  refine lc_it w (fun i H => Same H1 H ∧ H D = some (.lst (out.take i))) ⟨ex_new hD, upd_same⟩ (fun i H _ h => hG H h.1) ?_ ?_
  · rintro k v H H' hi ⟨s1, hHD⟩ ⟨T, x, y, rfl, hT, rfl, hx, hy⟩
    have hv : out[k]? = some (out[k]'(by omega)) := List.getElem?_eq_getElem _
    have s2 := s1.trans (ex_new (o := .tup [x, y]) hT)
    refine ⟨T, [x, y], rfl, seqT_of upd_same, rfl, x, [y], rfl, y, [], rfl, rfl, hw x y, ?_⟩
    unfold tYes
    dsimp only
    rw [if_pos rfl]
    refine hs k x y _ _ hi s2 hx hy hv _ fun M s3 => ⟨out.take k, s3 _ _ (ex_new hT _ _ hHD), by rw [List.length_take]; exact szlt (by omega), ?_⟩
    refine ⟨ex_mut (s2.trans s3) hD, ?_⟩
    rw [upd_same, List.take_add_one, hv]
    rfl
  · rintro H ⟨s1, hHD⟩
    refine hd H s1 ?_
    rw [hHD, List.take_of_length_le (by omega)]
/-- the dict's reading, as lc_it -/
theorem dc_it (w : Walk J n G Y) {g : TG} {tt : TT} {vs : List Nat} (Pv : Nat → Hp → Prop) (h0 : Pv 0 (upd H1 D (.dK []))) (hG : ∀ i H, i ≤ n → Pv i H → G H)
    (hs : ∀ i x H H', i < n → Pv i H → Y i H x H' → g x (wipe σ vs) H' fun σ2 H2 => wipe σ2 vs = wipe σ vs ∧ tt σ2 H2 fun b H3 =>
      if b = true then tk σ2 H3 fun y H4 => tv σ2 H4 fun z H5 => ∃ kvs k, y = kV k ∧ H5 D = some (.dK kvs) ∧ kvs.length < sizeLine ∧ Pv (i + 1) (upd H5 D (.dK (putK kvs k z))) else Pv (i + 1) H3) (hd : ∀ H, Pv n H → Qd H) :
    ∃ W : Nat → Nat → Hp → Prop, (∃ m, W 0 m (upd H1 D (.dK []))) ∧ ∀ i m H, W i m H →
      (J.stop i H ∧ Qd H) ∨ (J.go i H ∧ ∃ Nx : Hp → Prop, (∀ H', Nx H' → ∃ m', m' < m ∧ W (i + 1) m' H') ∧ ∀ x H', J.yld i H x H' → g x (wipe σ vs) H' fun σ2 H2 => wipe σ2 vs = wipe σ vs ∧ tt σ2 H2 fun b H3 =>
        if b = true then tk σ2 H3 fun y H4 => tv σ2 H4 fun z H5 => ∃ kvs k, y = kV k ∧ H5 D = some (.dK kvs) ∧ kvs.length < sizeLine ∧ Nx (upd H5 D (.dK (putK kvs k z))) else Nx H3) := by
  refine ⟨fun i m H => m = n - i ∧ i ≤ n ∧ Pv i H, ⟨n, by simp, Nat.zero_le _, h0⟩, ?_⟩
  rintro i m H ⟨rfl, hi, p⟩
  have q := hG i H hi p
  by_cases hlt : i < n
  · refine .inr ⟨w.goes i H hlt q, Pv (i + 1), fun H' p' => ⟨n - (i + 1), by omega, rfl, hlt, p'⟩, fun x H' y => hs i x H H' hlt p (w.yields i H x H' hlt q y)⟩
  · have e : i = n := by omega
    subst e
    exact .inl ⟨w.stops H q, hd H p⟩
theorem put_take {ks : List Key} {out : List V} (hle : ks.length ≤ out.length) (hnd : ks.Nodup) {i : Nat} {k : Key} {v : V} (hk : ks[i]? = some k) (hv : out[i]? = some v) : putK ((ks.zip out).take i) k v = (ks.zip out).take (i + 1) := by
  have hz : (ks.zip out)[i]? = some (k, v) := by
    rw [List.getElem?_zip_eq_some]
    exact ⟨hk, hv⟩
  rw [putK_new, List.take_add_one, hz]
  · rfl
  · cases e : valV ((ks.zip out).take i) k with
    | none => rfl
    | some u =>
      exfalso
      have h1 := valV_in e
      rw [List.map_take, List.map_fst_zip hle] at h1
      obtain ⟨j, hj⟩ := List.mem_iff_getElem?.mp h1
      rw [List.getElem?_take] at hj
      split at hj
      · rename_i hlt
        have hlt2 : j < i := by omega
        have hjl := (List.getElem?_eq_some_iff.mp hj).1
        have := (List.getElem?_inj hjl hnd).mp (hj.trans hk.symm)
        omega
      · cases hj
theorem dc_one (w : Walk J n G Y) {j : Nat} (ks : List Key) (out : List V) (hk : ks.length = n) (hn : out.length = n) (hnd : ks.Nodup) (hsz : n ≤ 100000) (hD : H1 D = none) (hG : ∀ H, Same H1 H → G H)
    (hs : ∀ i x H H' k v, i < n → Same H1 H → Y i H x H' → ks[i]? = some k → out[i]? = some v → Same H H' ∧ ∀ Q : V → V → Hp → Prop, (∀ M, Same H' M → Q (kV k) v M) → tk (σ.set j (some x)) H' fun y H4 => tv (σ.set j (some x)) H4 fun z H5 => Q y z H5)
    (hd : ∀ H, Same H1 H → H D = some (.dK (ks.zip out)) → Qd H) :
    ∃ W : Nat → Nat → Hp → Prop, (∃ m, W 0 m (upd H1 D (.dK []))) ∧ ∀ i m H, W i m H →
      (J.stop i H ∧ Qd H) ∨ (J.go i H ∧ ∃ Nx : Hp → Prop, (∀ H', Nx H' → ∃ m', m' < m ∧ W (i + 1) m' H') ∧ ∀ x H', J.yld i H x H' → gName j x (wipe σ [j]) H' fun σ2 H2 => wipe σ2 [j] = wipe σ [j] ∧ tYes σ2 H2 fun b H3 =>
        if b = true then tk σ2 H3 fun y H4 => tv σ2 H4 fun z H5 => ∃ kvs k, y = kV k ∧ H5 D = some (.dK kvs) ∧ kvs.length < sizeLine ∧ Nx (upd H5 D (.dK (putK kvs k z))) else Nx H3) := by
  refine dc_it w (fun i H => Same H1 H ∧ H D = some (.dK ((ks.zip out).take i))) ⟨ex_new hD, upd_same⟩ (fun i H _ h => hG H h.1) ?_ ?_
  · rintro i x H H' hi ⟨s1, hHD⟩ y
    have hv : out[i]? = some (out[i]'(by omega)) := List.getElem?_eq_getElem _
    have hkk : ks[i]? = some (ks[i]'(by omega)) := List.getElem?_eq_getElem _
    obtain ⟨s2, ht⟩ := hs i x H H' _ _ hi s1 y hkk hv
    refine ⟨wipe1 j _, ?_⟩
    unfold tYes
    dsimp only
    rw [if_pos rfl, set1]
    refine ht _ fun M s3 => ⟨(ks.zip out).take i, _, rfl, s3 _ _ (s2 _ _ hHD), by rw [List.length_take]; exact szlt (by omega), ?_⟩
    refine ⟨ex_mut ((s1.trans s2).trans s3) hD, ?_⟩
    rw [upd_same, put_take (by omega) hnd hkk hv]
  · rintro H ⟨s1, hHD⟩
    refine hd H s1 ?_
    rw [hHD, List.take_of_length_le (by rw [List.length_zip]; omega)]
theorem dc_two (w : Walk J n G (YPair xs ys)) {i j : Nat} (ks : List Key) (out : List V) (hk : ks.length = n) (hn : out.length = n) (hnd : ks.Nodup) (hsz : n ≤ 100000) (hD : H1 D = none) (hG : ∀ H, Same H1 H → G H) (hw : ∀ x y, wipe (((wipe σ [i, j]).set i (some x)).set j (some y)) [i, j] = wipe σ [i, j])
    (hs : ∀ l x y H k v, l < n → Same H1 H → xs l = some x → ys l = some y → ks[l]? = some k → out[l]? = some v → ∀ Q : V → V → Hp → Prop, (∀ M, Same H M → Q (kV k) v M) → tk (((wipe σ [i, j]).set i (some x)).set j (some y)) H fun y' H4 => tv (((wipe σ [i, j]).set i (some x)).set j (some y)) H4 fun z H5 => Q y' z H5)
    (hd : ∀ H, Same H1 H → H D = some (.dK (ks.zip out)) → Qd H) :
    ∃ W : Nat → Nat → Hp → Prop, (∃ m, W 0 m (upd H1 D (.dK []))) ∧ ∀ l m H, W l m H →
      (J.stop l H ∧ Qd H) ∨ (J.go l H ∧ ∃ Nx : Hp → Prop, (∀ H', Nx H' → ∃ m', m' < m ∧ W (l + 1) m' H') ∧ ∀ x H', J.yld l H x H' → gTup K 2 (gCons (gName i) (gCons (gName j) gNil)) x (wipe σ [i, j]) H' fun σ2 H2 => wipe σ2 [i, j] = wipe σ [i, j] ∧ tYes σ2 H2 fun b H3 =>
        if b = true then tk σ2 H3 fun y H4 => tv σ2 H4 fun z H5 => ∃ kvs k, y = kV k ∧ H5 D = some (.dK kvs) ∧ kvs.length < sizeLine ∧ Nx (upd H5 D (.dK (putK kvs k z))) else Nx H3) := by
  refine dc_it w (fun i H => Same H1 H ∧ H D = some (.dK ((ks.zip out).take i))) ⟨ex_new hD, upd_same⟩ (fun i H _ h => hG H h.1) ?_ ?_
  · rintro l v H H' hi ⟨s1, hHD⟩ ⟨T, x, y, rfl, hT, rfl, hx, hy⟩
    have hv : out[l]? = some (out[l]'(by omega)) := List.getElem?_eq_getElem _
    have hkk : ks[l]? = some (ks[l]'(by omega)) := List.getElem?_eq_getElem _
    have s2 := s1.trans (ex_new (o := .tup [x, y]) hT)
    refine ⟨T, [x, y], rfl, seqT_of upd_same, rfl, x, [y], rfl, y, [], rfl, rfl, hw x y, ?_⟩
    unfold tYes
    dsimp only
    rw [if_pos rfl]
    refine hs l x y _ _ _ hi s2 hx hy hkk hv _ fun M s3 => ⟨(ks.zip out).take l, _, rfl, s3 _ _ (ex_new hT _ _ hHD), by rw [List.length_take]; exact szlt (by omega), ?_⟩
    refine ⟨ex_mut (s2.trans s3) hD, ?_⟩
    rw [upd_same, put_take (by omega) hnd hkk hv]
  · rintro H ⟨s1, hHD⟩
    refine hd H s1 ?_
    rw [hHD, List.take_of_length_le (by rw [List.length_zip]; omega)]
theorem zip_get {ks : List Key} {out : List V} (hle : ks.length ≤ out.length) (hnd : ks.Nodup) {i : Nat} {k : Key} {v : V} (hk : ks[i]? = some k) (hv : out[i]? = some v) : valV (ks.zip out) k = some v := by
  have hz : (ks.zip out)[i]? = some (k, v) := by
    rw [List.getElem?_zip_eq_some]
    exact ⟨hk, hv⟩
  have hm : (k, v) ∈ ks.zip out := List.mem_of_getElem? hz
  have hn : ((ks.zip out).map (·.1)).Nodup := by
    rw [List.map_fst_zip hle]
    exact hnd
  exact val_nodup hn _ hm
end
/-! ### an error without fields -/
def RaZ (E : XK) (C : Addr) (H : Hp) : Prop := ∀ M, Same H M → E (.ref C) none M
theorem RaZ.mono {E : XK} {C : Addr} {H G : Hp} (h : RaZ E C H) (e : Same H G) : RaZ E C G := fun M s => h M (e.trans s)
end Kit
namespace Kit
open PySem PySem.Spec PyProof.Rows L2
/-! ### the caught error in its own suite -/
section
variable {X : Cx} {a : Addr} {oe : Obj} {pn : List (Addr × Obj)} {cls : Value} {d : Option Addr} {e : Expr} {te : TE} {fld : Str} {pos : Pos}
theorem call_isU (hz : Zc cls d oe) (hf : ∃ z, oe.data = .fields z) : CallR (X.suite a ((a, oe) :: pn)) (.builtin "isinstance") (rIsP X.K a cls d) := call_isP (X := X.suite a ((a, oe) :: pn)) (List.mem_cons_self ..) hz hf
theorem pe_xu (hz : Zc cls d oe) (hf : ∃ z, oe.data = .fields z) (he : PE (X.suite a ((a, oe) :: pn)) e te) (hb : attributeBase e fld (X.suite a ((a, oe) :: pn)).env (eval e (X.suite a ((a, oe) :: pn)).env) = eval e (X.suite a ((a, oe) :: pn)).env := by rfl) : PE (X.suite a ((a, oe) :: pn)) (.Attribute e fld pos) (tXP X.K a cls d fld te) := pe_xp (List.mem_cons_self ..) hz hf he hb
end
end Kit
namespace Kit
open PySem PySem.Spec PyProof.Rows L2
section
variable {X : Cx} {k j : Nat} {C : Addr} {m : Str} {sp : Sp} {pos apos : Pos} {o : Expr} {ta : TE}
theorem pc_m0 {pl : Sem Bool} (c : CanM X.prog X.w X.K X.mg X.base k C m sp) (hr : Room j X.A) (hk : k ≤ j) (he : PE X o ta)
    (ht : eval (.Call (.Attribute o m apos) [] [] pos) X.env = (do
      let v ← eval o X.env
      standAt apos.atName
      let (f, first) ← holding [v] (getMethod v m pl)
      callWith pos f first (backTo pos (starEach [] X.env)) (backToKw pos (keywordEach [] X.env))) := by rfl) :
    PE X (.Call (.Attribute o m apos) [] [] pos) (tMeth C m sp [] E0 ta tNil) := by
  obtain ⟨f, fd, ps, F, hc, hm, b⟩ := c.ex
  exact pe_meth0 (pl := pl) he hc hm F (hr.mono hk) b .nil passL ht
end
end Kit

end
section
set_option Elab.async false
set_option maxRecDepth 100000
set_option maxHeartbeats 4000000
namespace K16
open PySem PySem.Spec PyProof.Rows L2 Kit
def top (i : Nat) : Stmt := PySem.Challenge.pw_galloon_k16_paints.main.body.getD i (.Pass ⟨0, 0, 0, 0⟩)
abbrev s_BadScheme___init__ : Stmt := (inClass (top 4) 0)
abbrev N_BadScheme___init__ : List Str := ["self", "part"]
abbrev P_BadScheme___init__ : List Str := ["self", "part"]
theorem sc_BadScheme___init__ : FnScope N_BadScheme___init__ P_BadScheme___init__ (defScope s_BadScheme___init__) := ⟨rfl, rfl, rfl, by decide +kernel, rfl, by decide +kernel, by decide +kernel⟩
theorem bd_BadScheme___init__ : BindsPlain s_BadScheme___init__ "__init__" "BadScheme.__init__" P_BadScheme___init__ := fun _ _ _ _ _ _ us hl => match us, hl with | [_, _], _ => rfl
abbrev s_BadColumn___init__ : Stmt := (inClass (top 5) 0)
abbrev N_BadColumn___init__ : List Str := ["self", "text"]
abbrev P_BadColumn___init__ : List Str := ["self", "text"]
theorem sc_BadColumn___init__ : FnScope N_BadColumn___init__ P_BadColumn___init__ (defScope s_BadColumn___init__) := ⟨rfl, rfl, rfl, by decide +kernel, rfl, by decide +kernel, by decide +kernel⟩
theorem bd_BadColumn___init__ : BindsPlain s_BadColumn___init__ "__init__" "BadColumn.__init__" P_BadColumn___init__ := fun _ _ _ _ _ _ us hl => match us, hl with | [_, _], _ => rfl
abbrev s_BadSpots___init__ : Stmt := (inClass (top 6) 0)
abbrev N_BadSpots___init__ : List Str := ["self", "text"]
abbrev P_BadSpots___init__ : List Str := ["self", "text"]
theorem sc_BadSpots___init__ : FnScope N_BadSpots___init__ P_BadSpots___init__ (defScope s_BadSpots___init__) := ⟨rfl, rfl, rfl, by decide +kernel, rfl, by decide +kernel, by decide +kernel⟩
theorem bd_BadSpots___init__ : BindsPlain s_BadSpots___init__ "__init__" "BadSpots.__init__" P_BadSpots___init__ := fun _ _ _ _ _ _ us hl => match us, hl with | [_, _], _ => rfl
abbrev s_BadStrip___init__ : Stmt := (inClass (top 7) 0)
abbrev N_BadStrip___init__ : List Str := ["self", "text"]
abbrev P_BadStrip___init__ : List Str := ["self", "text"]
theorem sc_BadStrip___init__ : FnScope N_BadStrip___init__ P_BadStrip___init__ (defScope s_BadStrip___init__) := ⟨rfl, rfl, rfl, by decide +kernel, rfl, by decide +kernel, by decide +kernel⟩
theorem bd_BadStrip___init__ : BindsPlain s_BadStrip___init__ "__init__" "BadStrip.__init__" P_BadStrip___init__ := fun _ _ _ _ _ _ us hl => match us, hl with | [_, _], _ => rfl
abbrev s_BadIndex___init__ : Stmt := (inClass (top 8) 0)
abbrev N_BadIndex___init__ : List Str := ["self", "at"]
abbrev P_BadIndex___init__ : List Str := ["self", "at"]
theorem sc_BadIndex___init__ : FnScope N_BadIndex___init__ P_BadIndex___init__ (defScope s_BadIndex___init__) := ⟨rfl, rfl, rfl, by decide +kernel, rfl, by decide +kernel, by decide +kernel⟩
theorem bd_BadIndex___init__ : BindsPlain s_BadIndex___init__ "__init__" "BadIndex.__init__" P_BadIndex___init__ := fun _ _ _ _ _ _ us hl => match us, hl with | [_, _], _ => rfl
abbrev s_BadPaint___init__ : Stmt := (inClass (top 9) 0)
abbrev N_BadPaint___init__ : List Str := ["self", "row"]
abbrev P_BadPaint___init__ : List Str := ["self", "row"]
theorem sc_BadPaint___init__ : FnScope N_BadPaint___init__ P_BadPaint___init__ (defScope s_BadPaint___init__) := ⟨rfl, rfl, rfl, by decide +kernel, rfl, by decide +kernel, by decide +kernel⟩
theorem bd_BadPaint___init__ : BindsPlain s_BadPaint___init__ "__init__" "BadPaint.__init__" P_BadPaint___init__ := fun _ _ _ _ _ _ us hl => match us, hl with | [_, _], _ => rfl
abbrev s_BadMask___init__ : Stmt := (inClass (top 10) 0)
abbrev N_BadMask___init__ : List Str := ["self", "part"]
abbrev P_BadMask___init__ : List Str := ["self", "part"]
theorem sc_BadMask___init__ : FnScope N_BadMask___init__ P_BadMask___init__ (defScope s_BadMask___init__) := ⟨rfl, rfl, rfl, by decide +kernel, rfl, by decide +kernel, by decide +kernel⟩
theorem bd_BadMask___init__ : BindsPlain s_BadMask___init__ "__init__" "BadMask.__init__" P_BadMask___init__ := fun _ _ _ _ _ _ us hl => match us, hl with | [_, _], _ => rfl
abbrev s_Scheme___init__ : Stmt := (inClass (top 14) 2)
abbrev N_Scheme___init__ : List Str := ["self", "rows", "colours", "many", "_"]
abbrev P_Scheme___init__ : List Str := ["self", "rows", "colours"]
theorem sc_Scheme___init__ : FnScope N_Scheme___init__ P_Scheme___init__ (defScope s_Scheme___init__) := ⟨rfl, rfl, rfl, by decide +kernel, rfl, by decide +kernel, by decide +kernel⟩
theorem bd_Scheme___init__ : BindsPlain s_Scheme___init__ "__init__" "Scheme.__init__" P_Scheme___init__ := fun _ _ _ _ _ _ us hl => match us, hl with | [_, _, _], _ => rfl
abbrev s_Scheme___eq__ : Stmt := (inClass (top 14) 3)
abbrev N_Scheme___eq__ : List Str := ["self", "other"]
abbrev P_Scheme___eq__ : List Str := ["self", "other"]
theorem sc_Scheme___eq__ : FnScope N_Scheme___eq__ P_Scheme___eq__ (defScope s_Scheme___eq__) := ⟨rfl, rfl, rfl, by decide +kernel, rfl, by decide +kernel, by decide +kernel⟩
theorem bd_Scheme___eq__ : BindsPlain s_Scheme___eq__ "__eq__" "Scheme.__eq__" P_Scheme___eq__ := fun _ _ _ _ _ _ us hl => match us, hl with | [_, _], _ => rfl
abbrev s_Scheme___len__ : Stmt := (inClass (top 14) 4)
abbrev N_Scheme___len__ : List Str := ["self"]
abbrev P_Scheme___len__ : List Str := ["self"]
theorem sc_Scheme___len__ : FnScope N_Scheme___len__ P_Scheme___len__ (defScope s_Scheme___len__) := ⟨rfl, rfl, rfl, by decide +kernel, rfl, by decide +kernel, by decide +kernel⟩
theorem bd_Scheme___len__ : BindsPlain s_Scheme___len__ "__len__" "Scheme.__len__" P_Scheme___len__ := fun _ _ _ _ _ _ us hl => match us, hl with | [_], _ => rfl
abbrev s_Scheme_is_column : Stmt := (inClass (top 14) 5)
abbrev N_Scheme_is_column : List Str := ["self", "text"]
abbrev P_Scheme_is_column : List Str := ["self", "text"]
theorem sc_Scheme_is_column : FnScope N_Scheme_is_column P_Scheme_is_column (defScope s_Scheme_is_column) := ⟨rfl, rfl, rfl, by decide +kernel, rfl, by decide +kernel, by decide +kernel⟩
theorem bd_Scheme_is_column : BindsPlain s_Scheme_is_column "is_column" "Scheme.is_column" P_Scheme_is_column := fun _ _ _ _ _ _ us hl => match us, hl with | [_, _], _ => rfl
abbrev s_Scheme_is_colour : Stmt := (inClass (top 14) 6)
abbrev N_Scheme_is_colour : List Str := ["self", "text"]
abbrev P_Scheme_is_colour : List Str := ["self", "text"]
theorem sc_Scheme_is_colour : FnScope N_Scheme_is_colour P_Scheme_is_colour (defScope s_Scheme_is_colour) := ⟨rfl, rfl, rfl, by decide +kernel, rfl, by decide +kernel, by decide +kernel⟩
theorem bd_Scheme_is_colour : BindsPlain s_Scheme_is_colour "is_colour" "Scheme.is_colour" P_Scheme_is_colour := fun _ _ _ _ _ _ us hl => match us, hl with | [_, _], _ => rfl
abbrev s_Scheme_is_strip : Stmt := (inClass (top 14) 7)
abbrev N_Scheme_is_strip : List Str := ["self", "text", "column"]
abbrev P_Scheme_is_strip : List Str := ["self", "text"]
theorem sc_Scheme_is_strip : FnScope N_Scheme_is_strip P_Scheme_is_strip (defScope s_Scheme_is_strip) := ⟨rfl, rfl, rfl, by decide +kernel, rfl, by decide +kernel, by decide +kernel⟩
theorem bd_Scheme_is_strip : BindsPlain s_Scheme_is_strip "is_strip" "Scheme.is_strip" P_Scheme_is_strip := fun _ _ _ _ _ _ us hl => match us, hl with | [_, _], _ => rfl
abbrev s_Scheme_check : Stmt := (inClass (top 14) 8)
abbrev N_Scheme_check : List Str := ["self", "text"]
abbrev P_Scheme_check : List Str := ["self", "text"]
theorem sc_Scheme_check : FnScope N_Scheme_check P_Scheme_check (defScope s_Scheme_check) := ⟨rfl, rfl, rfl, by decide +kernel, rfl, by decide +kernel, by decide +kernel⟩
theorem bd_Scheme_check : BindsPlain s_Scheme_check "check" "Scheme.check" P_Scheme_check := fun _ _ _ _ _ _ us hl => match us, hl with | [_, _], _ => rfl
abbrev s_Scheme_spots : Stmt := (inClass (top 14) 9)
abbrev N_Scheme_spots : List Str := ["self", "column", "number", "spots", "_"]
abbrev P_Scheme_spots : List Str := ["self", "column"]
theorem sc_Scheme_spots : FnScope N_Scheme_spots P_Scheme_spots (defScope s_Scheme_spots) := ⟨rfl, rfl, rfl, by decide +kernel, rfl, by decide +kernel, by decide +kernel⟩
theorem bd_Scheme_spots : BindsPlain s_Scheme_spots "spots" "Scheme.spots" P_Scheme_spots := fun _ _ _ _ _ _ us hl => match us, hl with | [_, _], _ => rfl
abbrev s_Scheme_column : Stmt := (inClass (top 14) 10)
abbrev N_Scheme_column : List Str := ["self", "spots", "spot", "number"]
abbrev P_Scheme_column : List Str := ["self", "spots"]
theorem sc_Scheme_column : FnScope N_Scheme_column P_Scheme_column (defScope s_Scheme_column) := ⟨rfl, rfl, rfl, by decide +kernel, rfl, by decide +kernel, by decide +kernel⟩
theorem bd_Scheme_column : BindsPlain s_Scheme_column "column" "Scheme.column" P_Scheme_column := fun _ _ _ _ _ _ us hl => match us, hl with | [_, _], _ => rfl
abbrev s_check_alike : Stmt := (top 15)
abbrev N_check_alike : List Str := ["one", "other"]
abbrev P_check_alike : List Str := ["one", "other"]
theorem sc_check_alike : FnScope N_check_alike P_check_alike (defScope s_check_alike) := ⟨rfl, rfl, rfl, by decide +kernel, rfl, by decide +kernel, by decide +kernel⟩
theorem bd_check_alike : BindsPlain s_check_alike "check_alike" "check_alike" P_check_alike := fun _ _ _ _ _ _ us hl => match us, hl with | [_, _], _ => rfl
abbrev s_Paint___init__ : Stmt := (inClass (top 17) 0)
abbrev N_Paint___init__ : List Str := ["self", "scheme", "maps", "row", "told", "colour"]
abbrev P_Paint___init__ : List Str := ["self", "scheme", "maps"]
theorem sc_Paint___init__ : FnScope N_Paint___init__ P_Paint___init__ (defScope s_Paint___init__) := ⟨rfl, rfl, rfl, by decide +kernel, rfl, by decide +kernel, by decide +kernel⟩
theorem bd_Paint___init__ : BindsPlain s_Paint___init__ "__init__" "Paint.__init__" P_Paint___init__ := fun _ _ _ _ _ _ us hl => match us, hl with | [_, _, _], _ => rfl
abbrev s_Paint_still : Stmt := (inClass (top 17) 1)
abbrev N_Paint_still : List Str := ["cls", "scheme"]
abbrev P_Paint_still : List Str := ["cls", "scheme"]
theorem sc_Paint_still : FnScope N_Paint_still P_Paint_still (defScope s_Paint_still) := ⟨rfl, rfl, rfl, by decide +kernel, rfl, by decide +kernel, by decide +kernel⟩
theorem bd_Paint_still : BindsPlain s_Paint_still "still" "Paint.still" P_Paint_still := fun _ _ _ _ _ _ us hl => match us, hl with | [_, _], _ => rfl
abbrev s_Paint_read : Stmt := (inClass (top 17) 2)
abbrev N_Paint_read : List Str := ["cls", "scheme", "text"]
abbrev P_Paint_read : List Str := ["cls", "scheme", "text"]
theorem sc_Paint_read : FnScope N_Paint_read P_Paint_read (defScope s_Paint_read) := ⟨rfl, rfl, rfl, by decide +kernel, rfl, by decide +kernel, by decide +kernel⟩
theorem bd_Paint_read : BindsPlain s_Paint_read "read" "Paint.read" P_Paint_read := fun _ _ _ _ _ _ us hl => match us, hl with | [_, _, _], _ => rfl
abbrev s_Paint___call__ : Stmt := (inClass (top 17) 3)
abbrev N_Paint___call__ : List Str := ["self", "strip", "painted", "column"]
abbrev P_Paint___call__ : List Str := ["self", "strip"]
theorem sc_Paint___call__ : FnScope N_Paint___call__ P_Paint___call__ (defScope s_Paint___call__) := ⟨rfl, rfl, rfl, by decide +kernel, rfl, by decide +kernel, by decide +kernel⟩
theorem bd_Paint___call__ : BindsPlain s_Paint___call__ "__call__" "Paint.__call__" P_Paint___call__ := fun _ _ _ _ _ _ us hl => match us, hl with | [_, _], _ => rfl
abbrev s_Paint___eq__ : Stmt := (inClass (top 17) 4)
abbrev N_Paint___eq__ : List Str := ["self", "other"]
abbrev P_Paint___eq__ : List Str := ["self", "other"]
theorem sc_Paint___eq__ : FnScope N_Paint___eq__ P_Paint___eq__ (defScope s_Paint___eq__) := ⟨rfl, rfl, rfl, by decide +kernel, rfl, by decide +kernel, by decide +kernel⟩
theorem bd_Paint___eq__ : BindsPlain s_Paint___eq__ "__eq__" "Paint.__eq__" P_Paint___eq__ := fun _ _ _ _ _ _ us hl => match us, hl with | [_, _], _ => rfl
abbrev s_Paint___mul__ : Stmt := (inClass (top 17) 5)
abbrev N_Paint___mul__ : List Str := ["self", "other", "maps", "colour", "told", "later"]
abbrev P_Paint___mul__ : List Str := ["self", "other"]
theorem sc_Paint___mul__ : FnScope N_Paint___mul__ P_Paint___mul__ (defScope s_Paint___mul__) := ⟨rfl, rfl, rfl, by decide +kernel, rfl, by decide +kernel, by decide +kernel⟩
theorem bd_Paint___mul__ : BindsPlain s_Paint___mul__ "__mul__" "Paint.__mul__" P_Paint___mul__ := fun _ _ _ _ _ _ us hl => match us, hl with | [_, _], _ => rfl
abbrev s_Paint___str__ : Stmt := (inClass (top 17) 6)
abbrev N_Paint___str__ : List Str := ["self"]
abbrev P_Paint___str__ : List Str := ["self"]
theorem sc_Paint___str__ : FnScope N_Paint___str__ P_Paint___str__ (defScope s_Paint___str__) := ⟨rfl, rfl, rfl, by decide +kernel, rfl, by decide +kernel, by decide +kernel⟩
theorem bd_Paint___str__ : BindsPlain s_Paint___str__ "__str__" "Paint.__str__" P_Paint___str__ := fun _ _ _ _ _ _ us hl => match us, hl with | [_], _ => rfl
abbrev s_Paint_undoing : Stmt := (inClass (top 17) 7)
abbrev N_Paint_undoing : List Str := ["self", "told"]
abbrev P_Paint_undoing : List Str := ["self"]
theorem sc_Paint_undoing : FnScope N_Paint_undoing P_Paint_undoing (defScope s_Paint_undoing) := ⟨rfl, rfl, rfl, by decide +kernel, rfl, by decide +kernel, by decide +kernel⟩
theorem bd_Paint_undoing : BindsPlain s_Paint_undoing "undoing" "Paint.undoing" P_Paint_undoing := fun _ _ _ _ _ _ us hl => match us, hl with | [_], _ => rfl
abbrev s_Paint__painted : Stmt := (inClass (top 17) 8)
abbrev N_Paint__painted : List Str := ["self", "column", "spots", "told", "spot"]
abbrev P_Paint__painted : List Str := ["self", "column"]
theorem sc_Paint__painted : FnScope N_Paint__painted P_Paint__painted (defScope s_Paint__painted) := ⟨rfl, rfl, rfl, by decide +kernel, rfl, by decide +kernel, by decide +kernel⟩
theorem bd_Paint__painted : BindsPlain s_Paint__painted "_painted" "Paint._painted" P_Paint__painted := fun _ _ _ _ _ _ us hl => match us, hl with | [_, _], _ => rfl
abbrev s_map_back : Stmt := (top 18)
abbrev N_map_back : List Str := ["told", "sources", "colour", "source"]
abbrev P_map_back : List Str := ["told"]
theorem sc_map_back : FnScope N_map_back P_map_back (defScope s_map_back) := ⟨rfl, rfl, rfl, by decide +kernel, rfl, by decide +kernel, by decide +kernel⟩
theorem bd_map_back : BindsPlain s_map_back "_map_back" "_map_back" P_map_back := fun _ _ _ _ _ _ us hl => match us, hl with | [_], _ => rfl
abbrev s_law_box : Stmt := (top 20)
abbrev N_law_box : List Str := ["script", "k", "cell"]
abbrev P_law_box : List Str := ["script", "k"]
theorem sc_law_box : FnScope N_law_box P_law_box (defScope s_law_box) := ⟨rfl, rfl, rfl, by decide +kernel, rfl, by decide +kernel, by decide +kernel⟩
theorem bd_law_box : BindsPlain s_law_box "_law_box" "_law_box" P_law_box := fun _ _ _ _ _ _ us hl => match us, hl with | [_, _], _ => rfl
abbrev s_law_take : Stmt := (top 21)
abbrev N_law_take : List Str := ["box", "size", "digit", "mixed"]
abbrev P_law_take : List Str := ["box", "size"]
theorem sc_law_take : FnScope N_law_take P_law_take (defScope s_law_take) := ⟨rfl, rfl, rfl, by decide +kernel, rfl, by decide +kernel, by decide +kernel⟩
theorem bd_law_take : BindsPlain s_law_take "_law_take" "_law_take" P_law_take := fun _ _ _ _ _ _ us hl => match us, hl with | [_, _], _ => rfl
abbrev s_law_spots : Stmt := (top 22)
abbrev N_law_spots : List Str := ["rows", "colours", "column", "number", "spots", "row"]
abbrev P_law_spots : List Str := ["rows", "colours", "column"]
theorem sc_law_spots : FnScope N_law_spots P_law_spots (defScope s_law_spots) := ⟨rfl, rfl, rfl, by decide +kernel, rfl, by decide +kernel, by decide +kernel⟩
theorem bd_law_spots : BindsPlain s_law_spots "_law_spots" "_law_spots" P_law_spots := fun _ _ _ _ _ _ us hl => match us, hl with | [_, _, _], _ => rfl
abbrev s_law_painted : Stmt := (top 23)
abbrev N_law_painted : List Str := ["rows", "colours", "maps", "strip", "painted", "column", "spots", "number", "row"]
abbrev P_law_painted : List Str := ["rows", "colours", "maps", "strip"]
theorem sc_law_painted : FnScope N_law_painted P_law_painted (defScope s_law_painted) := ⟨rfl, rfl, rfl, by decide +kernel, rfl, by decide +kernel, by decide +kernel⟩
theorem bd_law_painted : BindsPlain s_law_painted "_law_painted" "_law_painted" P_law_painted := fun _ _ _ _ _ _ us hl => match us, hl with | [_, _, _, _], _ => rfl
abbrev s_law_maps : Stmt := (top 24)
abbrev N_law_maps : List Str := ["box", "rows", "colours", "maps", "row", "mode", "line", "k"]
abbrev P_law_maps : List Str := ["box", "rows", "colours"]
theorem sc_law_maps : FnScope N_law_maps P_law_maps (defScope s_law_maps) := ⟨rfl, rfl, rfl, by decide +kernel, rfl, by decide +kernel, by decide +kernel⟩
theorem bd_law_maps : BindsPlain s_law_maps "_law_maps" "_law_maps" P_law_maps := fun _ _ _ _ _ _ us hl => match us, hl with | [_, _, _], _ => rfl
abbrev s_law_strip : Stmt := (top 25)
abbrev N_law_strip : List Str := ["box", "columns", "size", "k"]
abbrev P_law_strip : List Str := ["box", "columns", "size"]
theorem sc_law_strip : FnScope N_law_strip P_law_strip (defScope s_law_strip) := ⟨rfl, rfl, rfl, by decide +kernel, rfl, by decide +kernel, by decide +kernel⟩
theorem bd_law_strip : BindsPlain s_law_strip "_law_strip" "_law_strip" P_law_strip := fun _ _ _ _ _ _ us hl => match us, hl with | [_, _, _], _ => rfl
abbrev s_law_other_maps : Stmt := (top 26)
abbrev N_law_other_maps : List Str := ["box", "colours", "maps", "row", "at", "sign", "line"]
abbrev P_law_other_maps : List Str := ["box", "colours", "maps"]
theorem sc_law_other_maps : FnScope N_law_other_maps P_law_other_maps (defScope s_law_other_maps) := ⟨rfl, rfl, rfl, by decide +kernel, rfl, by decide +kernel, by decide +kernel⟩
theorem bd_law_other_maps : BindsPlain s_law_other_maps "_law_other_maps" "_law_other_maps" P_law_other_maps := fun _ _ _ _ _ _ us hl => match us, hl with | [_, _, _], _ => rfl
abbrev s_law_product : Stmt := (top 27)
abbrev N_law_product : List Str := ["first", "second", "sign", "row"]
abbrev P_law_product : List Str := ["first", "second"]
theorem sc_law_product : FnScope N_law_product P_law_product (defScope s_law_product) := ⟨rfl, rfl, rfl, by decide +kernel, rfl, by decide +kernel, by decide +kernel⟩
theorem bd_law_product : BindsPlain s_law_product "_law_product" "_law_product" P_law_product := fun _ _ _ _ _ _ us hl => match us, hl with | [_, _], _ => rfl
abbrev s_law_undone : Stmt := (top 28)
abbrev N_law_undone : List Str := ["colours", "maps", "undone", "line", "sign"]
abbrev P_law_undone : List Str := ["colours", "maps"]
theorem sc_law_undone : FnScope N_law_undone P_law_undone (defScope s_law_undone) := ⟨rfl, rfl, rfl, by decide +kernel, rfl, by decide +kernel, by decide +kernel⟩
theorem bd_law_undone : BindsPlain s_law_undone "_law_undone" "_law_undone" P_law_undone := fun _ _ _ _ _ _ us hl => match us, hl with | [_, _], _ => rfl
abbrev s_law_bad_row : Stmt := (top 29)
abbrev N_law_bad_row : List Str := ["rows", "colours", "maps", "row", "sign"]
abbrev P_law_bad_row : List Str := ["rows", "colours", "maps"]
theorem sc_law_bad_row : FnScope N_law_bad_row P_law_bad_row (defScope s_law_bad_row) := ⟨rfl, rfl, rfl, by decide +kernel, rfl, by decide +kernel, by decide +kernel⟩
theorem bd_law_bad_row : BindsPlain s_law_bad_row "_law_bad_row" "_law_bad_row" P_law_bad_row := fun _ _ _ _ _ _ us hl => match us, hl with | [_, _, _], _ => rfl
abbrev s_law_spoilt : Stmt := (top 30)
abbrev N_law_spoilt : List Str := ["box", "colours", "maps", "spoilt", "turn", "row", "way", "at", "sign", "line"]
abbrev P_law_spoilt : List Str := ["box", "colours", "maps"]
theorem sc_law_spoilt : FnScope N_law_spoilt P_law_spoilt (defScope s_law_spoilt) := ⟨rfl, rfl, rfl, by decide +kernel, rfl, by decide +kernel, by decide +kernel⟩
theorem bd_law_spoilt : BindsPlain s_law_spoilt "_law_spoilt" "_law_spoilt" P_law_spoilt := fun _ _ _ _ _ _ us hl => match us, hl with | [_, _, _], _ => rfl
abbrev s_law_refused : Stmt := (top 31)
abbrev N_law_refused : List Str := ["scheme", "maps", "text", "passed", "answer", "e"]
abbrev P_law_refused : List Str := ["scheme", "maps", "text"]
theorem sc_law_refused : FnScope N_law_refused P_law_refused (defScope s_law_refused) := ⟨rfl, rfl, rfl, by decide +kernel, rfl, by decide +kernel, by decide +kernel⟩
theorem bd_law_refused : BindsPlain s_law_refused "_law_refused" "_law_refused" P_law_refused := fun _ _ _ _ _ _ us hl => match us, hl with | [_, _, _], _ => rfl
abbrev s_law_bad_strip : Stmt := (top 32)
abbrev N_law_bad_strip : List Str := ["paint", "text", "e"]
abbrev P_law_bad_strip : List Str := ["paint", "text"]
theorem sc_law_bad_strip : FnScope N_law_bad_strip P_law_bad_strip (defScope s_law_bad_strip) := ⟨rfl, rfl, rfl, by decide +kernel, rfl, by decide +kernel, by decide +kernel⟩
theorem bd_law_bad_strip : BindsPlain s_law_bad_strip "_law_bad_strip" "_law_bad_strip" P_law_bad_strip := fun _ _ _ _ _ _ us hl => match us, hl with | [_, _], _ => rfl
abbrev s_law_unlike : Stmt := (top 33)
abbrev N_law_unlike : List Str := ["first", "second", "joined", "e"]
abbrev P_law_unlike : List Str := ["first", "second"]
theorem sc_law_unlike : FnScope N_law_unlike P_law_unlike (defScope s_law_unlike) := ⟨rfl, rfl, rfl, by decide +kernel, rfl, by decide +kernel, by decide +kernel⟩
theorem bd_law_unlike : BindsPlain s_law_unlike "_law_unlike" "_law_unlike" P_law_unlike := fun _ _ _ _ _ _ us hl => match us, hl with | [_, _], _ => rfl
abbrev s_law_truth : Stmt := (top 34)
abbrev N_law_truth : List Str := ["answer", "due"]
abbrev P_law_truth : List Str := ["answer", "due"]
theorem sc_law_truth : FnScope N_law_truth P_law_truth (defScope s_law_truth) := ⟨rfl, rfl, rfl, by decide +kernel, rfl, by decide +kernel, by decide +kernel⟩
theorem bd_law_truth : BindsPlain s_law_truth "_law_truth" "_law_truth" P_law_truth := fun _ _ _ _ _ _ us hl => match us, hl with | [_, _], _ => rfl
abbrev s_law_is_paint : Stmt := (top 35)
abbrev N_law_is_paint : List Str := ["paint", "scheme", "maps"]
abbrev P_law_is_paint : List Str := ["paint", "scheme", "maps"]
theorem sc_law_is_paint : FnScope N_law_is_paint P_law_is_paint (defScope s_law_is_paint) := ⟨rfl, rfl, rfl, by decide +kernel, rfl, by decide +kernel, by decide +kernel⟩
theorem bd_law_is_paint : BindsPlain s_law_is_paint "_law_is_paint" "_law_is_paint" P_law_is_paint := fun _ _ _ _ _ _ us hl => match us, hl with | [_, _, _], _ => rfl
abbrev s_law_undoing_holds : Stmt := (top 36)
abbrev N_law_undoing_holds : List Str := ["scheme", "paint", "colours", "maps", "strip", "due", "back", "still"]
abbrev P_law_undoing_holds : List Str := ["scheme", "paint", "colours", "maps", "strip"]
theorem sc_law_undoing_holds : FnScope N_law_undoing_holds P_law_undoing_holds (defScope s_law_undoing_holds) := ⟨rfl, rfl, rfl, by decide +kernel, rfl, by decide +kernel, by decide +kernel⟩
theorem bd_law_undoing_holds : BindsPlain s_law_undoing_holds "_law_undoing_holds" "_law_undoing_holds" P_law_undoing_holds := fun _ _ _ _ _ _ us hl => match us, hl with | [_, _, _, _, _], _ => rfl
abbrev s_law_refusals_hold : Stmt := (top 37)
abbrev N_law_refusals_hold : List Str := ["scheme", "rows", "colours", "spoilt", "text"]
abbrev P_law_refusals_hold : List Str := ["scheme", "rows", "colours", "spoilt"]
theorem sc_law_refusals_hold : FnScope N_law_refusals_hold P_law_refusals_hold (defScope s_law_refusals_hold) := ⟨rfl, rfl, rfl, by decide +kernel, rfl, by decide +kernel, by decide +kernel⟩
theorem bd_law_refusals_hold : BindsPlain s_law_refusals_hold "_law_refusals_hold" "_law_refusals_hold" P_law_refusals_hold := fun _ _ _ _ _ _ us hl => match us, hl with | [_, _, _, _], _ => rfl
abbrev s_law_product_holds : Stmt := (top 38)
abbrev N_law_product_holds : List Str := ["scheme", "kind", "paint", "other", "first", "second", "strip", "product", "due", "painted"]
abbrev P_law_product_holds : List Str := ["scheme", "kind", "paint", "other", "first", "second", "strip"]
theorem sc_law_product_holds : FnScope N_law_product_holds P_law_product_holds (defScope s_law_product_holds) := ⟨rfl, rfl, rfl, by decide +kernel, rfl, by decide +kernel, by decide +kernel⟩
theorem bd_law_product_holds : BindsPlain s_law_product_holds "_law_product_holds" "_law_product_holds" P_law_product_holds := fun _ _ _ _ _ _ us hl => match us, hl with | [_, _, _, _, _, _, _], _ => rfl
abbrev s_law_still_holds : Stmt := (top 39)
abbrev N_law_still_holds : List Str := ["scheme", "kind", "paint", "maps", "strip", "still", "row"]
abbrev P_law_still_holds : List Str := ["scheme", "kind", "paint", "maps", "strip"]
theorem sc_law_still_holds : FnScope N_law_still_holds P_law_still_holds (defScope s_law_still_holds) := ⟨rfl, rfl, rfl, by decide +kernel, rfl, by decide +kernel, by decide +kernel⟩
theorem bd_law_still_holds : BindsPlain s_law_still_holds "_law_still_holds" "_law_still_holds" P_law_still_holds := fun _ _ _ _ _ _ us hl => match us, hl with | [_, _, _, _, _], _ => rfl
abbrev s_law_strangers_hold : Stmt := (top 40)
abbrev N_law_strangers_hold : List Str := ["paint", "maps", "foreign", "stranger"]
abbrev P_law_strangers_hold : List Str := ["paint", "maps", "foreign"]
theorem sc_law_strangers_hold : FnScope N_law_strangers_hold P_law_strangers_hold (defScope s_law_strangers_hold) := ⟨rfl, rfl, rfl, by decide +kernel, rfl, by decide +kernel, by decide +kernel⟩
theorem bd_law_strangers_hold : BindsPlain s_law_strangers_hold "_law_strangers_hold" "_law_strangers_hold" P_law_strangers_hold := fun _ _ _ _ _ _ us hl => match us, hl with | [_, _, _], _ => rfl
abbrev s_law : Stmt := (top 41)
abbrev N_law : List Str := ["script", "box", "menu", "place", "rows", "colours", "columns", "scheme", "foreign", "first", "second", "source", "size", "strip", "passed", "paint", "other", "painted", "bad", "at", "sign"]
abbrev P_law : List Str := ["script"]
theorem sc_law : FnScope N_law P_law (defScope s_law) := ⟨rfl, rfl, rfl, by decide +kernel, rfl, by decide +kernel, by decide +kernel⟩
theorem bd_law : BindsPlain s_law "law" "law" P_law := fun _ _ _ _ _ _ us hl => match us, hl with | [_], _ => rfl
structure Ad where
  GalloonError : Addr
  UnlikeSchemes : Addr
  BadScheme : Addr
  BadColumn : Addr
  BadSpots : Addr
  BadStrip : Addr
  BadIndex : Addr
  BadPaint : Addr
  BadMask : Addr
  Scheme : Addr
  Paint : Addr
def eAd (a : Ad) : Nat → Addr
  | 0 => a.BadScheme
  | 1 => a.BadColumn
  | 2 => a.BadSpots
  | 3 => a.BadStrip
  | 4 => a.BadIndex
  | 5 => a.BadPaint
  | 6 => a.BadMask
  | _ => a.UnlikeSchemes
structure Txt (K : PySem.W.Frag) (mg : Str → Option Value) (a : Ad) : Prop where
  b_ValueError : mg "ValueError" = none
  b_abs : mg "abs" = none
  b_all : mg "all" = none
  b_bool : mg "bool" = none
  b_classmethod : mg "classmethod" = none
  b_enumerate : mg "enumerate" = none
  b_int : mg "int" = none
  b_isinstance : mg "isinstance" = none
  b_len : mg "len" = none
  b_list : mg "list" = none
  b_min : mg "min" = none
  b_ord : mg "ord" = none
  b_range : mg "range" = none
  b_set : mg "set" = none
  b_sorted : mg "sorted" = none
  b_str : mg "str" = none
  b_sum : mg "sum" = none
  b_zip : mg "zip" = none
  g_DIGITS : ∃ u, mg "DIGITS" = some u ∧ RelV (.str "012") u
  g_LETTERS : ∃ u, mg "LETTERS" = some u ∧ RelV (.str "abcdefghi") u
  g_GalloonError : mg "GalloonError" = some (.ref a.GalloonError)
  z_UnlikeSchemes : ErrZ K mg a.UnlikeSchemes "UnlikeSchemes"
  x_UnlikeSchemes : ErrC K a.UnlikeSchemes
  e_BadScheme : ErrT K mg a.BadScheme "BadScheme" "BadScheme.__init__" "part" s_BadScheme___init__
  x_BadScheme : ErrC K a.BadScheme
  e_BadColumn : ErrT K mg a.BadColumn "BadColumn" "BadColumn.__init__" "text" s_BadColumn___init__
  x_BadColumn : ErrC K a.BadColumn
  e_BadSpots : ErrT K mg a.BadSpots "BadSpots" "BadSpots.__init__" "text" s_BadSpots___init__
  x_BadSpots : ErrC K a.BadSpots
  e_BadStrip : ErrT K mg a.BadStrip "BadStrip" "BadStrip.__init__" "text" s_BadStrip___init__
  x_BadStrip : ErrC K a.BadStrip
  e_BadIndex : ErrT K mg a.BadIndex "BadIndex" "BadIndex.__init__" "at" s_BadIndex___init__
  x_BadIndex : ErrC K a.BadIndex
  e_BadPaint : ErrT K mg a.BadPaint "BadPaint" "BadPaint.__init__" "row" s_BadPaint___init__
  x_BadPaint : ErrC K a.BadPaint
  e_BadMask : ErrT K mg a.BadMask "BadMask" "BadMask.__init__" "part" s_BadMask___init__
  x_BadMask : ErrC K a.BadMask
  c_Scheme : ClsT K mg a.Scheme "Scheme"
  m_Scheme___init__ : MetT K a.Scheme "__init__" "Scheme.__init__" s_Scheme___init__
  m_Scheme___eq__ : MetT K a.Scheme "__eq__" "Scheme.__eq__" s_Scheme___eq__
  m_Scheme___len__ : MetT K a.Scheme "__len__" "Scheme.__len__" s_Scheme___len__
  m_Scheme_is_column : MetT K a.Scheme "is_column" "Scheme.is_column" s_Scheme_is_column
  m_Scheme_is_colour : MetT K a.Scheme "is_colour" "Scheme.is_colour" s_Scheme_is_colour
  m_Scheme_is_strip : MetT K a.Scheme "is_strip" "Scheme.is_strip" s_Scheme_is_strip
  m_Scheme_check : MetT K a.Scheme "check" "Scheme.check" s_Scheme_check
  m_Scheme_spots : MetT K a.Scheme "spots" "Scheme.spots" s_Scheme_spots
  m_Scheme_column : MetT K a.Scheme "column" "Scheme.column" s_Scheme_column
  c_Paint : ClsT K mg a.Paint "Paint"
  m_Paint___init__ : MetT K a.Paint "__init__" "Paint.__init__" s_Paint___init__
  m_Paint_still : CmT K a.Paint "still" "Paint.still" s_Paint_still
  m_Paint_read : CmT K a.Paint "read" "Paint.read" s_Paint_read
  m_Paint___call__ : MetT K a.Paint "__call__" "Paint.__call__" s_Paint___call__
  m_Paint___eq__ : MetT K a.Paint "__eq__" "Paint.__eq__" s_Paint___eq__
  m_Paint___mul__ : MetT K a.Paint "__mul__" "Paint.__mul__" s_Paint___mul__
  m_Paint___str__ : MetT K a.Paint "__str__" "Paint.__str__" s_Paint___str__
  m_Paint_undoing : MetT K a.Paint "undoing" "Paint.undoing" s_Paint_undoing
  m_Paint__painted : MetT K a.Paint "_painted" "Paint._painted" s_Paint__painted
  d_check_alike : DefT K mg "check_alike" s_check_alike
  d_map_back : DefT K mg "_map_back" s_map_back
  d_law_box : DefT K mg "_law_box" s_law_box
  d_law_take : DefT K mg "_law_take" s_law_take
  d_law_spots : DefT K mg "_law_spots" s_law_spots
  d_law_painted : DefT K mg "_law_painted" s_law_painted
  d_law_maps : DefT K mg "_law_maps" s_law_maps
  d_law_strip : DefT K mg "_law_strip" s_law_strip
  d_law_other_maps : DefT K mg "_law_other_maps" s_law_other_maps
  d_law_product : DefT K mg "_law_product" s_law_product
  d_law_undone : DefT K mg "_law_undone" s_law_undone
  d_law_bad_row : DefT K mg "_law_bad_row" s_law_bad_row
  d_law_spoilt : DefT K mg "_law_spoilt" s_law_spoilt
  d_law_refused : DefT K mg "_law_refused" s_law_refused
  d_law_bad_strip : DefT K mg "_law_bad_strip" s_law_bad_strip
  d_law_unlike : DefT K mg "_law_unlike" s_law_unlike
  d_law_truth : DefT K mg "_law_truth" s_law_truth
  d_law_is_paint : DefT K mg "_law_is_paint" s_law_is_paint
  d_law_undoing_holds : DefT K mg "_law_undoing_holds" s_law_undoing_holds
  d_law_refusals_hold : DefT K mg "_law_refusals_hold" s_law_refusals_hold
  d_law_product_holds : DefT K mg "_law_product_holds" s_law_product_holds
  d_law_still_holds : DefT K mg "_law_still_holds" s_law_still_holds
  d_law_strangers_hold : DefT K mg "_law_strangers_hold" s_law_strangers_hold
  d_law : DefT K mg "law" s_law
  n_rows : NoAttr K a.Scheme "rows"
  n_colours : NoAttr K a.Scheme "colours"
  n_columns : NoAttr K a.Scheme "columns"
  n_scheme : NoAttr K a.Paint "scheme"
  n_maps : NoAttr K a.Paint "maps"
  k_MOST : ∃ u, Con K a.Scheme "MOST" (.int 9) u
  k_BLANK : ∃ u, Con K a.Scheme "BLANK" (.str "a") u
  i_ha : PySem.W.findIn K (.ref a.Scheme) "__class__" = some (some (.builtin "object.__class__"))
  i_hn : PySem.W.specialIn K (.builtin "object.__class__") "__get__" = some (some (.builtin "getset_descriptor.__get__"))
  i_ht : PySem.W.takesIn K (.builtin "object.__class__") = some true
  i_hm : PySem.W.mroIn K a.Scheme (.type "object") = some true
  p_ha : PySem.W.findIn K (.ref a.Paint) "__class__" = some (some (.builtin "object.__class__"))
  p_hm : PySem.W.mroIn K a.Paint (.type "object") = some true
  i_own : PySem.W.kitOne K (.ref a.Scheme) (.ref a.Scheme) = some true
  p_own : PySem.W.kitOne K (.ref a.Paint) (.ref a.Paint) = some true
  p_str : PySem.W.kitOne K (.type "str") (.ref a.Paint) = some false
  p_lst : PySem.W.kitOne K (.type "list") (.ref a.Paint) = some false
  i_int : PySem.W.kitOne K (.type "int") (.ref a.Scheme) = some false
  i_str : PySem.W.kitOne K (.type "str") (.ref a.Scheme) = some false
  i_ni : PySem.W.notFirst K a.Scheme (.type "int") = true
  i_ns : PySem.W.notFirst K a.Scheme (.type "str") = true
  p_ni : PySem.W.notFirst K a.Paint (.type "int") = true
  p_ns : PySem.W.notFirst K a.Paint (.type "str") = true
  p_nl : PySem.W.notFirst K a.Paint (.type "list") = true
  p_sf : PySem.W.selfFirst K a.Paint = true
  n_Scheme : NeT K a.Scheme
  kk_e : ∀ i < 8, ∀ j < 8, PySem.W.kitOne K (.ref (eAd a i)) (.ref (eAd a j)) = some (decide (i = j))
  kg_e : ∀ i < 8, PySem.W.kitOne K (.ref (eAd a i)) (.ref a.GalloonError) = some true
  kv_e : ∀ i < 8, PySem.W.kitOne K (.ref (eAd a i)) (.type "ValueError") = some true
  xm_e : ∀ i < 8, PySem.W.exmOne K (.ref (eAd a i)) (.ref a.GalloonError) = some true
  xo_e : ∀ i < 8, ∀ j < 8, PySem.W.exmOne K (.ref (eAd a i)) (.ref (eAd a j)) = some (decide (i = j))
section
variable {P : Program} {w : World} {K : PySem.W.Frag} {mg : Str → Option Value} {base : Heap} {a : Ad}
theorem c_BadScheme (T : Txt K mg a) : CanE P w K mg base a.BadScheme "BadScheme" "part" := canE_of T.e_BadScheme sc_BadScheme___init__ bd_BadScheme___init__ rfl (fun _ _ _ _ _ _ _ => pss_one (ps_ost (pv 0) (pv 1))) rfl
theorem c_BadColumn (T : Txt K mg a) : CanE P w K mg base a.BadColumn "BadColumn" "text" := canE_of T.e_BadColumn sc_BadColumn___init__ bd_BadColumn___init__ rfl (fun _ _ _ _ _ _ _ => pss_one (ps_ost (pv 0) (pv 1))) rfl
theorem c_BadSpots (T : Txt K mg a) : CanE P w K mg base a.BadSpots "BadSpots" "text" := canE_of T.e_BadSpots sc_BadSpots___init__ bd_BadSpots___init__ rfl (fun _ _ _ _ _ _ _ => pss_one (ps_ost (pv 0) (pv 1))) rfl
theorem c_BadStrip (T : Txt K mg a) : CanE P w K mg base a.BadStrip "BadStrip" "text" := canE_of T.e_BadStrip sc_BadStrip___init__ bd_BadStrip___init__ rfl (fun _ _ _ _ _ _ _ => pss_one (ps_ost (pv 0) (pv 1))) rfl
theorem c_BadIndex (T : Txt K mg a) : CanE P w K mg base a.BadIndex "BadIndex" "at" := canE_of T.e_BadIndex sc_BadIndex___init__ bd_BadIndex___init__ rfl (fun _ _ _ _ _ _ _ => pss_one (ps_ost (pv 0) (pv 1))) rfl
theorem c_BadPaint (T : Txt K mg a) : CanE P w K mg base a.BadPaint "BadPaint" "row" := canE_of T.e_BadPaint sc_BadPaint___init__ bd_BadPaint___init__ rfl (fun _ _ _ _ _ _ _ => pss_one (ps_ost (pv 0) (pv 1))) rfl
theorem c_BadMask (T : Txt K mg a) : CanE P w K mg base a.BadMask "BadMask" "part" := canE_of T.e_BadMask sc_BadMask___init__ bd_BadMask___init__ rfl (fun _ _ _ _ _ _ _ => pss_one (ps_ost (pv 0) (pv 1))) rfl
end
end K16

end
section
set_option Elab.async false
set_option linter.all false
set_option maxRecDepth 100000
set_option maxHeartbeats 4000000
namespace K16
open PySem PySem.Spec PyProof.Rows L2 Kit
section
variable {P : Program} {w : World} {K : PySem.W.Frag} {mg : Str → Option Value} {base : Heap} {a : Ad}
local macro_rules | `(tactic| walk_at "rd") => `(tactic| repeat (first | refine ⟨_, rfl, ?_⟩ | refine ⟨_, _, rfl, rfl, ?_⟩ | refine ⟨rfl, ?_⟩))
/-! ### a scheme -/
def fl (r c n : Nat) : List (Str × V) := [("rows", .int r), ("colours", .int c), ("columns", tx (cols n))]
def SchemeAt (C : Addr) (H : Hp) (p : Addr) (r c n : Nat) : Prop := (∃ dx, H p = some (.ins C dx (fl r c n))) ∧ Good r c n
theorem SchemeAt.mono {C p : Addr} {H G : Hp} {r c n : Nat} (h : SchemeAt C H p r c n) (e : Same H G) : SchemeAt C G p r c n := ⟨let ⟨dx, z⟩ := h.1; ⟨dx, e _ _ z⟩, h.2⟩
theorem fm (x c : Nat) : ((x : Nat) : Int).fmod ((c : Nat) : Int) = ((x % c : Nat) : Int) := by
  rw [Int.fmod_eq_emod_of_nonneg _ (by omega)]
  exact (Int.natCast_emod x c).symm
theorem fd (x c : Nat) : ((x : Nat) : Int).fdiv ((c : Nat) : Int) = ((x / c : Nat) : Int) := by
  rw [Int.fdiv_eq_ediv_of_nonneg _ (by omega)]
  exact (Int.natCast_ediv x c).symm
theorem k1 : (("colours" : Str) == ("rows" : Str)) = false := by decide +kernel
theorem k2 : (("columns" : Str) == ("rows" : Str)) = false := by decide +kernel
theorem k3 : (("columns" : Str) == ("colours" : Str)) = false := by decide +kernel
theorem fl_rows (r c n : Nat) : (fl r c n).lookup ("rows" : Str) = some (.int r) := by
  unfold fl
  rw [List.lookup_cons, beq_self_eq_true]
theorem fl_colours (r c n : Nat) : (fl r c n).lookup ("colours" : Str) = some (.int c) := by
  unfold fl
  rw [List.lookup_cons, k1, List.lookup_cons, beq_self_eq_true]
theorem fl_columns (r c n : Nat) : (fl r c n).lookup ("columns" : Str) = some (tx (cols n)) := by
  unfold fl
  rw [List.lookup_cons, k2, List.lookup_cons, k3, List.lookup_cons, beq_self_eq_true]
theorem fl_no (r c n : Nat) {m : Str} (h1 : (m == ("rows" : Str)) = false) (h2 : (m == ("colours" : Str)) = false) (h3 : (m == ("columns" : Str)) = false) : (fl r c n).lookup m = none := by
  unfold fl
  rw [List.lookup_cons, h1, List.lookup_cons, h2, List.lookup_cons, h3, List.lookup_nil]
theorem lit_dig : (Str.ofString "012") = S [48, 49, 50] := by decide +kernel
theorem lit_let : (Str.ofString "abcdefghi") = S (cols 9) := by decide +kernel
theorem lit_e : (Str.ofString "") = S [] := by decide +kernel
/-- what follows of a field's reading: C, the class's facts, the fields -/
local macro_rules | `(tactic| walk_at "rd") => `(tactic| repeat (first | refine ⟨_, rfl, ?_⟩ | refine ⟨_, _, rfl, rfl, ?_⟩ | refine ⟨rfl, ?_⟩))
def spIsCol (C : Addr) : Sp := fun vs H Q _ => ∃ (p : Addr) (r c n : Nat) (l : List Nat), vs = [.ref p, tx l] ∧ SchemeAt C H p r c n ∧ l.length ≤ 100000 ∧ Q (.bl (isCol n l)) H
theorem one_in {l : List Nat} (h : l.length = 1) : ∃ x, l = [x] := by
  match l, h with
  | [x], _ => exact ⟨x, rfl⟩
theorem c_Scheme_is_column (T : Txt K mg a) : CanM P w K mg base 1 a.Scheme "is_column" (spIsCol a.Scheme) := by
  refine canM_of T.c_Scheme.cl T.m_Scheme_is_column sc_Scheme_is_column bd_Scheme_is_column (fun vs H Q E h => ?_) (fun f cdv A outer s H vs Q E hr h => ?_)
  · obtain ⟨p, r, c, n, l, rfl, _⟩ := h
    rfl
  · obtain ⟨p, r, c, n, l, rfl, ⟨⟨dx, hp⟩, gd⟩, hl, z⟩ := h
    refine ⟨_, (pss_one (ps_ret (pe_and (pe_cmpR op_eq (pe_callB call_len_str (by rfl) T.b_len (by decide +kernel) (pa_cons (pv 1) pa_nil)) pe_int (nomark _)) (pe_one (pe_cmpR op_in_sign (pv 1) (kfld K (pv 0)) (by rfl)))))), ?_⟩
    refine ⟨_, rfl, _, rfl, szl (by rw [S_len]; exact hl), rfl, _, rfl, ?_⟩
    rw [S_len]
    refine ite2 (fun h1 => ?_) (fun h1 => ?_)
    · have h1 : l.length = 1 := by
        have := V.int.inj (of_decide_eq_true h1)
        omega
      obtain ⟨x, rfl⟩ := one_in h1
      refine ⟨_, rfl, _, rfl, p, _, dx, _, _, rfl, hp, T.c_Scheme.cl, T.n_columns, fl_columns r c n, x, _, rfl, rfl, ?_⟩
      have e : isCol n [x] = decide (x ∈ (S (cols n)).cps.toList) := by
        rw [S_cps, isCol, List.all_cons, List.all_nil, Bool.and_true]
        by_cases hx : inCol n x = true
        · rw [hx, decide_eq_true (mem_cols.mpr hx)]
          rfl
        · rw [decide_eq_false (fun q => hx (mem_cols.mp q)), Bool.eq_false_iff.mpr hx]
          rfl
      rw [← e]
      exact z
    · have h1 : ¬ l.length = 1 := fun q => h1 (decide_eq_true (by rw [q]; rfl))
      have e : isCol n l = false := by
        rw [isCol, decide_eq_false h1]
        rfl
      rw [e] at z
      exact z
def spIsColour (C : Addr) : Sp := fun vs H Q _ => ∃ (p : Addr) (r c n : Nat) (l : List Nat), vs = [.ref p, tx l] ∧ SchemeAt C H p r c n ∧ l.length ≤ 100000 ∧ Q (.bl (isColour c l)) H
theorem cut_dig {c : Nat} (h : c = 2 ∨ c = 3) : cutS (Str.ofString "012") none (some (c : Int)) = S ((List.range c).map (48 + ·)) := by
  rcases h with rfl | rfl <;> decide +kernel
theorem mem_digs {c x : Nat} : x ∈ (List.range c).map (48 + ·) ↔ inDig c x = true := by
  unfold inDig
  rw [List.mem_map, decide_eq_true_iff]
  constructor
  · rintro ⟨k, hk, rfl⟩
    have := List.mem_range.mp hk
    omega
  · intro h
    exact ⟨x - 48, List.mem_range.mpr (by omega), by omega⟩
theorem good_c {r c n : Nat} (h : Good r c n) : c = 2 ∨ c = 3 := by
  rcases h.cases with h | h | h | h | h <;> omega
theorem c_Scheme_is_colour (T : Txt K mg a) : CanM P w K mg base 1 a.Scheme "is_colour" (spIsColour a.Scheme) := by
  refine canM_of T.c_Scheme.cl T.m_Scheme_is_colour sc_Scheme_is_colour bd_Scheme_is_colour (fun vs H Q E h => ?_) (fun f cdv A outer s H vs Q E hr h => ?_)
  · obtain ⟨p, r, c, n, l, rfl, _⟩ := h
    rfl
  · obtain ⟨p, r, c, n, l, rfl, ⟨⟨dx, hp⟩, gd⟩, hl, z⟩ := h
    refine ⟨_, (pss_one (ps_ret (pe_and (pe_cmpR op_eq (pe_callB call_len_str (by rfl) T.b_len (by decide +kernel) (pa_cons (pv 1) pa_nil)) pe_int (nomark _)) (pe_one (pe_cmpR op_in_sign (pv 1) (pe_slice sl_str (C8.pe_gc (by rfl) T.g_DIGITS) po_none (po_some (kfld K (pv 0)))) (by rfl)))))), ?_⟩
    refine ⟨_, rfl, _, rfl, szl (by rw [S_len]; exact hl), rfl, _, rfl, ?_⟩
    rw [S_len]
    refine ite2 (fun h1 => ?_) (fun h1 => ?_)
    · have h1 : l.length = 1 := by
        have := V.int.inj (of_decide_eq_true h1)
        omega
      obtain ⟨x, rfl⟩ := one_in h1
      refine ⟨_, rfl, _, rfl, p, _, dx, _, _, rfl, hp, T.c_Scheme.cl, T.n_colours, fl_colours r c n, _, rfl, _, rfl, (by decide +kernel), x, _, rfl, rfl, ?_⟩
      rw [cut_dig (good_c gd)]
      have e : isColour c [x] = decide (x ∈ (S ((List.range c).map (48 + ·))).cps.toList) := by
        rw [S_cps, isColour, List.all_cons, List.all_nil, Bool.and_true]
        by_cases hx : inDig c x = true
        · rw [hx, decide_eq_true (mem_digs.mpr hx)]
          rfl
        · rw [decide_eq_false (fun q => hx (mem_digs.mp q)), Bool.eq_false_iff.mpr hx]
          rfl
      rw [← e]
      exact z
    · have h1 : ¬ l.length = 1 := fun q => h1 (decide_eq_true (by rw [q]; rfl))
      have e : isColour c l = false := by
        rw [isColour, decide_eq_false h1]
        rfl
      rw [e] at z
      exact z
theorem at_S {l : List Nat} {i c : Nat} (h : (S l).cps[i]? = some c) : l[i]? = some c := by
  have z : (S l).cps[i]? = l[i]? := List.getElem?_toArray ..
  rw [← z]
  exact h
theorem beq_col (n x : Nat) : decide (x ∈ (S (cols n)).cps.toList) = inCol n x := by
  rw [S_cps]
  by_cases h : inCol n x = true
  · rw [h, decide_eq_true (mem_cols.mpr h)]
  · rw [decide_eq_false (fun q => h (mem_cols.mp q)), Bool.eq_false_iff.mpr h]
theorem all_map {l : List Nat} {f : Nat → Bool} : (l.map f).all id = l.all f := by
  rw [List.all_map]
  rfl
def spIsStrip (C : Addr) : Sp := fun vs H Q _ => ∃ (p : Addr) (r c n : Nat) (l : List Nat), vs = [.ref p, tx l] ∧ SchemeAt C H p r c n ∧ l.length ≤ 100000 ∧ ∀ G, Same H G → Q (.bl (isStrip n l)) G
theorem c_Scheme_is_strip (T : Txt K mg a) : CanM P w K mg base 1 a.Scheme "is_strip" (spIsStrip a.Scheme) := by
  refine canM_of T.c_Scheme.cl T.m_Scheme_is_strip sc_Scheme_is_strip bd_Scheme_is_strip (fun vs H Q E h => ?_) (fun f cdv A outer s H vs Q E hr h => ?_)
  · obtain ⟨p, r, c, n, l, rfl, _⟩ := h
    rfl
  · obtain ⟨p, r, c, n, l, rfl, sch, hl, z⟩ := h
    refine ⟨_, (pss_one (ps_ret (pe_callB (kall K (by rfl)) (by rfl) T.b_all (by decide +kernel) (pa_cons (pe_lc (own := [("column", 2)]) (g := gName 2) (tt := tYes) (by rfl) sc_Scheme_is_strip.nd (pi_str (pv 1)) (blkOk_by (N := N_Scheme_is_strip) (sc := defScope s_Scheme_is_strip) (by decide +kernel)) (fun _ _ _ _ _ => (pg_name (i := 2) sc_Scheme_is_strip.nd rfl (.inl rfl))) (fun _ _ _ _ _ => pts_nil) (fun _ _ _ _ _ => (pe_cmpR op_in_sign (pv 2) (kfld K (pv 0)) (by rfl)))) pa_nil)))), ?_⟩
    refine ⟨_, rfl, _, rfl, fun D hD => lc_one walk_str (l.map fun x => V.bl (inCol n x)) (by rw [List.length_map]; exact (S_len l).symm) (by show (S l).length ≤ _; rw [S_len]; exact hl) hD (fun _ _ => True.intro) ?_ ?_⟩
    · rintro i x G G' v hi s1 ⟨rfl, c', hc, rfl⟩ hv
      have hc := at_S hc
      rw [List.getElem?_map, hc] at hv
      cases hv
      obtain ⟨⟨dx, hp⟩, _⟩ := sch.mono s1
      refine ⟨.refl _, fun Q' q => ⟨_, rfl, _, rfl, p, _, dx, _, _, rfl, hp, T.c_Scheme.cl, T.n_columns, fl_columns r c n, c', _, rfl, rfl, ?_⟩⟩
      rw [beq_col]
      exact q _ (.refl _)
    · intro G s1 hG
      refine ⟨D, l.map (inCol n), rfl, seqL_of (by rw [List.map_map]; exact hG), ?_⟩
      rw [all_map]
      exact z G s1
def spCheck (a : Ad) : Sp := fun vs H Q E => ∃ (p : Addr) (r c n : Nat) (l : List Nat), vs = [.ref p, tx l] ∧ SchemeAt a.Scheme H p r c n ∧ l.length ≤ 100000 ∧ (isStrip n l = true → ∀ G, Same H G → Q .non G) ∧ (isStrip n l = false → Ra E a.BadStrip "text" (tx l) H)
theorem c_Scheme_check (T : Txt K mg a) : CanM P w K mg base 3 a.Scheme "check" (spCheck a) := by
  refine canM_of T.c_Scheme.cl T.m_Scheme_check sc_Scheme_check bd_Scheme_check (fun vs H Q E h => ?_) (fun f cdv A outer s H vs Q E hr h => ?_)
  · obtain ⟨p, r, c, n, l, rfl, _⟩ := h
    rfl
  · obtain ⟨p, r, c, n, l, rfl, sch, hl, z, y⟩ := h
    refine ⟨_, (pss_one (ps_if (pt_not (pt_val (pc_m (c_Scheme_is_strip T) hr (by decide) (pv 0) (pa_cons (pv 1) pa_nil)))) (pss_one (pr_err (c_BadStrip T) (takes_of rfl rfl rfl rfl) (by rfl) hr (by decide) (by rfl) (pv 1))) pss_nil)), ?_⟩
    obtain ⟨dx, hp⟩ := sch.1
    refine ⟨_, rfl, p, dx, _, rfl, hp, fl_no _ _ _ (by decide +kernel) (by decide +kernel) (by decide +kernel), _, rfl, p, r, c, n, l, rfl, sch, hl, fun G s1 => ⟨_, rfl, ?_⟩⟩
    cases e : isStrip n l with
    | true => exact iteF (z e G s1)
    | false => exact iteT ⟨_, rfl, ((y e).mono s1).now⟩
def col0 (l : List Nat) : Nat := l.headD 0 - 97
theorem idx_col {n x : Nat} (hn : n ≤ 9) (h : inCol n x = true) : Txt.index0 (S (cols n)) (S [x]) = some (x - 97) := by
  unfold inCol at h
  rw [decide_eq_true_iff] at h
  have z : ∀ n ≤ 9, ∀ k < n, Txt.index0 (S (cols n)) (S [97 + k]) = some k := by decide +kernel
  have y := z n hn (x - 97) (by omega)
  rw [show 97 + (x - 97) = x by omega] at y
  exact y
theorem good_n {r c n : Nat} (h : Good r c n) : n ≤ 9 ∧ 0 < r ∧ r ≤ 3 ∧ 0 < n ∧ 2 ≤ n := by
  rcases h.cases with h | h | h | h | h <;> omega
theorem atI_S {l : List Nat} {i x : Nat} (h : l[i]? = some x) : atI (S l).cps.toList ((i : Nat) : Int) = some x := by
  rw [S_cps]
  exact atI_nat h
theorem lit_at {k : Nat} (h : k < 3) : atI (Str.ofString "012").cps.toList ((k : Nat) : Int) = some (48 + k) := by
  rw [lit_dig]
  refine atI_S ?_
  have z : ∀ k < 3, [48, 49, 50][k]? = some (48 + k) := by decide
  exact z k h
def spSpots (a : Ad) : Sp := fun vs H Q E => ∃ (p : Addr) (r c n : Nat) (l : List Nat), vs = [.ref p, tx l] ∧ SchemeAt a.Scheme H p r c n ∧ l.length ≤ 100000 ∧ (isCol n l = true → Q (tx (dig r c (col0 l))) H) ∧ (isCol n l = false → Ra E a.BadColumn "text" (tx l) H)
theorem isCol_one {n : Nat} {l : List Nat} (h : isCol n l = true) : ∃ x, l = [x] ∧ inCol n x = true := by
  unfold isCol at h
  rw [Bool.and_eq_true, decide_eq_true_iff] at h
  obtain ⟨x, rfl⟩ := one_in h.1
  exact ⟨x, rfl, by simpa using h.2⟩
theorem ord_ab {n x : Nat} (h : inCol n x = true) : (((S [x]).cps.getD 0 0 : Nat) : Int) - (((Str.ofString "a").cps.getD 0 0 : Nat) : Int) = ((x - 97 : Nat) : Int) := by
  have e1 : (S [x]).cps.getD 0 0 = x := rfl
  have e2 : (Str.ofString "a").cps.getD 0 0 = 97 := by decide +kernel
  rw [e1, e2]
  unfold inCol at h
  rw [decide_eq_true_iff] at h
  omega
theorem c_Scheme_spots (T : Txt K mg a) : CanM P w K mg base 3 a.Scheme "spots" (spSpots a) := by
  refine canM_of T.c_Scheme.cl T.m_Scheme_spots sc_Scheme_spots bd_Scheme_spots (fun vs H Q E h => ?_) (fun f cdv A outer s H vs Q E hr h => ?_)
  · obtain ⟨p, r, c, n, l, rfl, _⟩ := h
    rfl
  · obtain ⟨p, r, c, n, l, rfl, sch, hl, z, y⟩ := h
    refine ⟨_, (pss_cons (ps_if (pt_not (pt_val (pc_m (c_Scheme_is_column T) hr (by decide) (pv 0) (pa_cons (pv 1) pa_nil)))) (pss_one (pr_err (c_BadColumn T) (takes_of rfl rfl rfl rfl) (by rfl) hr (by decide) (by rfl) (pv 1))) pss_nil)
      (pss_cons (ps_set (i := 2) sc_Scheme_spots.nd rfl (.inl rfl) (pe_op op_sub (pe_callB call_ord (by rfl) T.b_ord (by decide +kernel) (pa_cons (pv 1) pa_nil)) (pe_callB call_ord (by rfl) T.b_ord (by decide +kernel) (pa_cons (kcon K (pv 0)) pa_nil))))
      (pss_cons (ps_set (i := 3) sc_Scheme_spots.nd rfl (.inl rfl) pe_str)
      (pss_cons (ps_for (passes_of rfl) (by rfl) (pi_range1 (by rfl) T.b_range (pa_cons (kfld K (pv 0)) pa_nil)) (pg_name (i := 4) sc_Scheme_spots.nd rfl (.inl rfl)) (pss_cons (ps_set (i := 3) sc_Scheme_spots.nd rfl (.inl rfl) (pe_op op_add_str (pe_ix ix_str (C8.pe_gc (by rfl) T.g_DIGITS) (pe_op op_modN (pv 2) (kfld K (pv 0))) (fun _ _ => rfl)) (pv 3)))
      (pss_one (ps_set (i := 2) sc_Scheme_spots.nd rfl (.inl rfl) (pe_op op_fdivN (pv 2) (kfld K (pv 0)))))))
      (pss_one (ps_ret (pv 3))))))), ?_⟩
    obtain ⟨dx, hp⟩ := sch.1
    have gn := good_n sch.2
    have gc := good_c sch.2
    refine ⟨_, rfl, p, dx, _, rfl, hp, fl_no _ _ _ (by decide +kernel) (by decide +kernel) (by decide +kernel), _, rfl, p, r, c, n, l, rfl, sch, hl, _, rfl, ?_⟩
    cases e : isCol n l with
    | false => exact iteT ⟨_, rfl, (y e).now⟩
    | true =>
      refine iteF ?_
      obtain ⟨x, rfl, hx⟩ := isCol_one e
      obtain ⟨u9, k9⟩ := T.k_BLANK
      refine ⟨_, rfl, S [x], rfl, rfl, _, rfl, p, _, dx, _, _, _, rfl, hp, T.c_Scheme.cl, k9, rfl, Str.ofString "a", rfl, rfl, _, _, rfl, rfl, ?_⟩
      · have e9 := ord_ab hx
        dsimp only
        rw [e9]
        refine ⟨_, rfl, p, _, dx, _, _, rfl, hp, T.c_Scheme.cl, T.n_rows, fl_rows r c n, r, rfl, by omega, by omega, ?_⟩
        refine for_it (walk_range (lo := 0) (n := ((r : Nat) : Int).toNat)) (fun i σ G => G = H ∧ ∃ v : Option V, σ = [some (.ref p), some (tx [x]), some (.int (((x - 97) / c ^ i : Nat) : Int)), some (tx (dig i c (x - 97))), v]) ⟨rfl, none, ?_⟩ (fun _ _ _ _ _ => True.intro) ?_ ?_
        · show [_, _, some (V.int ((x - 97 : Nat) : Int)), some (V.str (Str.ofString "")), none] = [_, _, some (V.int (((x - 97) / c ^ 0 : Nat) : Int)), some (tx []), _]
          rw [Nat.pow_zero, Nat.div_one, lit_e]
        · rintro i u σ G G' hi ⟨rfl, v, rfl⟩ ⟨rfl, rfl⟩
          have g2 := gc
          have hm : (x - 97) / c ^ i % c < 3 := by
            have := Nat.mod_lt ((x - 97) / c ^ i) (show 0 < c by omega)
            omega
          refine ⟨_, rfl, _, rfl, p, _, dx, _, _, rfl, hp, T.c_Scheme.cl, T.n_colours, fl_colours r c n, _, _, rfl, rfl, by show (c : Int) ≠ 0; omega, _, _, 48 + (x - 97) / c ^ i % c, rfl, rfl, by decide +kernel, by rw [fm]; exact lit_at hm, _, rfl, S [48 + (x - 97) / c ^ i % c], _, rfl, rfl, ?_, ?_⟩
          · rw [S_len, S_len, dig_len]
            exact szl (by show 1 + i ≤ 100000; omega)
          · refine ⟨_, rfl, _, rfl, p, _, dx, _, _, rfl, hp, T.c_Scheme.cl, T.n_colours, fl_colours r c n, _, _, rfl, rfl, ⟨by omega, by omega⟩, rfl, some (.int (0 + (i : Nat))), ?_⟩
            show [some (V.ref p), some (tx [x]), some (V.int (Int.fdiv (((x - 97) / c ^ i : Nat) : Int) (c : Int))), some (V.str (S [48 + (x - 97) / c ^ i % c] ++ S (dig i c (x - 97)))), _] = _
            rw [fd, S_app, Nat.div_div_eq_div_mul, ← Nat.pow_succ]
            rfl
        · rintro σ G ⟨rfl, v, rfl⟩
          exact ⟨_, rfl, z e⟩
theorem idx_dig {x : Nat} (h : inDig 3 x = true) : Txt.index0 (Str.ofString "012") (S [x]) = some (x - 48) := by
  unfold inDig at h
  rw [decide_eq_true_iff] at h
  have z : ∀ k < 3, Txt.index0 (Str.ofString "012") (S [48 + k]) = some k := by decide +kernel
  have y := z (x - 48) (by omega)
  rw [show 48 + (x - 48) = x by omega] at y
  exact y
theorem int_dig {x : Nat} (h : inDig 3 x = true) : PySem.intText? (S [x]) = some ((x - 48 : Nat) : Int) := by
  unfold inDig at h
  rw [decide_eq_true_iff] at h
  have z : ∀ k < 3, PySem.intText? (S [48 + k]) = some ((k : Nat) : Int) := by decide +kernel
  have y := z (x - 48) (by omega)
  rw [show 48 + (x - 48) = x by omega] at y
  exact y
theorem inDig3 {c x : Nat} (hc : c ≤ 3) (h : inDig c x = true) : inDig 3 x = true := by
  unfold inDig at h ⊢
  rw [decide_eq_true_iff] at h ⊢
  omega
theorem isColour_one (c x : Nat) : isColour c [x] = inDig c x := by
  rw [isColour, List.all_cons, List.all_nil, Bool.and_true]
  rfl
theorem num_take {c : Nat} {l : List Nat} {i x : Nat} (h : l[i]? = some x) : num c (l.take (i + 1)) = num c (l.take i) * c + (x - 48) := by
  unfold num
  rw [List.take_add_one, h, List.foldl_append]
  rfl
theorem all_at {l : List Nat} {f : Nat → Bool} (h : l.all f = true) {i x : Nat} (hx : l[i]? = some x) : f x = true := List.all_eq_true.mp h x (List.mem_of_getElem? hx)
theorem cols_at {n k : Nat} (h : k < n) : atI (S (cols n)).cps.toList ((k : Nat) : Int) = some (97 + k) := by
  refine atI_S ?_
  unfold cols
  rw [List.getElem?_map, List.getElem?_range h]
  rfl
def spCol (a : Ad) : Sp := fun vs H Q E => ∃ (p : Addr) (r c n : Nat) (l : List Nat), vs = [.ref p, tx l] ∧ SchemeAt a.Scheme H p r c n ∧ l.length ≤ 100000 ∧ (isDigs r c l = true → ∀ G, Same H G → Q (tx [97 + num c l]) G) ∧ (isDigs r c l = false → Ra E a.BadSpots "text" (tx l) H)
theorem c_Scheme_column (T : Txt K mg a) : CanM P w K mg base 3 a.Scheme "column" (spCol a) := by
  refine canM_of T.c_Scheme.cl T.m_Scheme_column sc_Scheme_column bd_Scheme_column (fun vs H Q E h => ?_) (fun f cdv A outer s H vs Q E hr h => ?_)
  · obtain ⟨p, r, c, n, l, rfl, _⟩ := h
    rfl
  · obtain ⟨p, r, c, n, l, rfl, sch, hl, z, y⟩ := h
    refine ⟨_, (pss_cons (ps_if (PW.pt (pw_or (pt_cmpR op_ne (pe_callB call_len_str (by rfl) T.b_len (by decide +kernel) (pa_cons (pv 1) pa_nil)) (kfld K (pv 0)) (nomark _)) (pw_or1 (pt_not (pt_truth (pe_callB (kall K (by rfl)) (by rfl) T.b_all (by decide +kernel) (pa_cons (pe_lc (own := [("spot", 2)]) (g := gName 2) (tt := tYes) (by rfl) sc_Scheme_column.nd (pi_str (pv 1)) (blkOk_by (N := N_Scheme_column) (sc := defScope s_Scheme_column) (by decide +kernel)) (fun _ _ _ _ _ => (pg_name (i := 2) sc_Scheme_column.nd rfl (.inl rfl))) (fun _ _ _ _ _ => pts_nil) (fun _ _ _ _ _ => (pc_m (c_Scheme_is_colour T) hr (by decide) (pv 0) (pa_cons (pv 2) pa_nil)))) pa_nil)) (by intro _; rfl)))))) (pss_one (pr_err (c_BadSpots T) (takes_of rfl rfl rfl rfl) (by rfl) hr (by decide) (by rfl) (pv 1))) pss_nil)
      (pss_cons (ps_set (i := 3) sc_Scheme_column.nd rfl (.inl rfl) pe_int)
      (pss_cons (ps_for (passes_of rfl) (by rfl) (pi_str (pv 1)) (pg_name (i := 2) sc_Scheme_column.nd rfl (.inl rfl)) (pss_one (ps_set (i := 3) sc_Scheme_column.nd rfl (.inl rfl) (pe_op op_add (pe_op op_mul (pv 3) (kfld K (pv 0))) (pe_callTy call_int_str (by rfl) T.b_int (by decide +kernel) (pa_cons (pv 2) pa_nil))))))
      (pss_one (ps_ret (pe_ix ix_str (kfld K (pv 0)) (pv 3) (fun _ _ => rfl))))))), ?_⟩
    obtain ⟨dx, hp⟩ := sch.1
    have gn := good_n sch.2
    have gc := good_c sch.2
    refine ⟨_, rfl, _, rfl, szl (by rw [S_len]; exact hl), _, rfl, p, _, dx, _, _, rfl, hp, T.c_Scheme.cl, T.n_rows, fl_rows r c n, rfl, _, rfl, ?_⟩
    rw [S_len]
    refine ite2 (fun h1 => ?_) (fun h1 => ?_)
    · refine iteT ⟨_, rfl, (y ?_).now⟩
      unfold isDigs
      rw [Bool.and_eq_false_iff]
      refine .inl (decide_eq_false fun q => ?_)
      rw [q] at h1
      exact absurd h1 (by simp)
    · refine ⟨_, rfl, _, rfl, fun D hD => lc_one walk_str (l.map fun x => V.bl (inDig c x)) (by rw [List.length_map]; exact (S_len l).symm) (by show (S l).length ≤ _; rw [S_len]; exact hl) hD (fun _ _ => True.intro) ?_ ?_⟩
      · rintro i x G G' v hi s1 ⟨rfl, c', hc, rfl⟩ hv
        have hc := at_S hc
        rw [List.getElem?_map, hc] at hv
        cases hv
        obtain ⟨dx, hp⟩ := (sch.mono s1).1
        refine ⟨.refl _, fun Q' q => ⟨_, rfl, p, dx, _, rfl, hp, fl_no _ _ _ (by decide +kernel) (by decide +kernel) (by decide +kernel), _, rfl, p, r, c, n, [c'], rfl, sch.mono s1, by show 1 ≤ 100000; decide, ?_⟩⟩
        rw [isColour_one]
        exact q _ (.refl _)
      · intro G s1 hG
        refine ⟨D, l.map (inDig c), rfl, seqL_of (by rw [List.map_map]; exact hG), ?_⟩
        rw [all_map]
        have hlr : l.length = r := by
          by_cases q : (l.length : Int) = (r : Int)
          · omega
          · exact absurd (by simpa using q) h1
        refine ⟨_, rfl, ?_⟩
        cases e : l.all (inDig c) with
        | false =>
          refine iteT ⟨_, rfl, ((y ?_).mono s1).now⟩
          unfold isDigs
          rw [e, Bool.and_false]
        | true =>
          have hd : isDigs r c l = true := by
            unfold isDigs
            rw [e, Bool.and_true, decide_eq_true hlr]
          refine iteF ?_
          refine ⟨_, rfl, _, rfl, for_it walk_str (fun i σ M => M = G ∧ ∃ v : Option V, σ = [some (.ref p), some (tx l), v, some (.int ((num c (l.take i) : Nat) : Int))]) ⟨rfl, none, rfl⟩ (fun _ _ _ _ _ => True.intro) ?_ ?_⟩
          · rintro i u σ M M' hi ⟨rfl, v, rfl⟩ ⟨rfl, x, hx, rfl⟩
            have hx := at_S hx
            have dx3 := inDig3 (by omega) (all_at e hx)
            obtain ⟨dx, hp⟩ := (sch.mono s1).1
            refine ⟨_, rfl, _, rfl, p, _, dx, _, _, rfl, hp, T.c_Scheme.cl, T.n_colours, fl_colours r c n, _, _, rfl, rfl, .inr ⟨by omega, by omega⟩, _, rfl, S [x], ((x - 48 : Nat) : Int), by rw [S_one], int_dig dx3, by show 1 ≤ 640; decide, ?_⟩
            refine ⟨_, _, rfl, rfl, rfl, some (tx [x]), ?_⟩
            rw [num_take hx]
            show [some (V.ref p), some (tx l), _, some (V.int (((num c (l.take i) : Nat) : Int) * (c : Int) + ((x - 48 : Nat) : Int)))] = [some (V.ref p), some (tx l), _, some (V.int ((num c (l.take i) * c + (x - 48) : Nat) : Int))]
            rw [Int.natCast_add, Int.natCast_mul]
            rfl
          · rintro σ M ⟨rfl, v, rfl⟩
            obtain ⟨dx, hp⟩ := (sch.mono s1).1
            rw [show (S l).cps.size = l.length from S_len l, List.take_of_length_le (Nat.le_refl _)]
            refine ⟨_, rfl, p, _, dx, _, _, rfl, hp, T.c_Scheme.cl, T.n_columns, fl_columns r c n, _, rfl, _, _, 97 + num c l, rfl, rfl, ?_, ?_, z hd _ s1⟩
            · rw [S_len, cols_len]
              exact szl (by omega)
            · exact cols_at (num_lt sch.2 hd)

/-! ### Scheme(rows, colours) -/
theorem put_fl (x y : V) (n : Nat) (r c : Nat) : putF "columns" (tx (cols n)) (putF "colours" (.int c) (putF "rows" (.int r) [])) = fl r c n := by
  have e1 : ¬ (("rows" : Str) = "colours") := by decide +kernel
  have e2 : ¬ (("rows" : Str) = "columns") := by decide +kernel
  have e3 : ¬ (("colours" : Str) = "columns") := by decide +kernel
  show putF "columns" _ (if ("rows" : Str) = "colours" then _ else _) = _
  rw [if_neg e1]
  show (if ("rows" : Str) = "columns" then _ else (("rows" : Str), V.int r) :: (if ("colours" : Str) = "columns" then _ else _)) = _
  rw [if_neg e2, if_neg e3]
  rfl
def sizeOf (r c : Int) : Option Nat := if r = 1 ∧ c = 2 then some 2 else if r = 1 ∧ c = 3 then some 3 else if r = 2 ∧ c = 2 then some 4 else if r = 2 ∧ c = 3 then some 9 else if r = 3 ∧ c = 2 then some 8 else none
/-- the first wrong part -/
def badPart (r c : Int) : Option (List Nat) := if ¬ (r = 1 ∨ r = 2 ∨ r = 3) then some [114, 111, 119, 115] else if ¬ (c = 2 ∨ c = 3) then some [99, 111, 108, 111, 117, 114, 115] else if r = 3 ∧ c = 3 then some [115, 105, 122, 101] else none
def spInit (a : Ad) : Sp := fun vs H Q E => ∃ (p dx : Addr) (r c : Int), vs = [.ref p, .int r, .int c] ∧ H p = some (.ins a.Scheme dx []) ∧ (∀ l, badPart r c = some l → Ra E a.BadScheme "part" (tx l) H) ∧
  (badPart r c = none → ∀ G, (∀ b o, H b = some o → b ≠ p → G b = some o) → (∃ r' c' n : Nat, (r' : Int) = r ∧ (c' : Int) = c ∧ SchemeAt a.Scheme G p r' c' n) → Q .non G)
theorem c_Scheme_init (T : Txt K mg a) : CanN P w K mg base 3 a.Scheme "Scheme" (spInit a) := by
  refine canN_of T.c_Scheme T.m_Scheme___init__ sc_Scheme___init__ bd_Scheme___init__ (fun vs H Q E h => ?_) (fun f cdv A outer s H vs Q E hr h => ?_)
  · obtain ⟨p, dx, r, c, rfl, _⟩ := h
    rfl
  · obtain ⟨p, dx, r, c, rfl, hp, y, z⟩ := h
    refine ⟨_, (pss_cons (ps_if (pt_cmpR (knotin K) (pv 1) (pe_tup (pa_cons pe_int (pa_cons pe_int (pa_cons pe_int pa_nil)))) (by rfl)) (pss_one (pr_err (c_BadScheme T) (takes_of rfl rfl rfl rfl) (by rfl) hr (by decide) (by rfl) pe_str)) pss_nil)
      (pss_cons (ps_if (pt_cmpR (knotin K) (pv 2) (pe_tup (pa_cons pe_int (pa_cons pe_int pa_nil))) (by rfl)) (pss_one (pr_err (c_BadScheme T) (takes_of rfl rfl rfl rfl) (by rfl) hr (by decide) (by rfl) pe_str)) pss_nil)
      (pss_cons (ps_set (i := 3) sc_Scheme___init__.nd rfl (.inl rfl) pe_int)
      (pss_cons (ps_for (passes_of rfl) (by rfl) (pi_range1 (by rfl) T.b_range (pa_cons (pv 1) pa_nil)) (pg_name (i := 4) sc_Scheme___init__.nd rfl (.inl rfl)) (pss_one (ps_set (i := 3) sc_Scheme___init__.nd rfl (.inl rfl) (pe_op op_mul (pv 3) (pv 2)))))
      (pss_cons (ps_if (pt_cmpR op_gt (pv 3) (kcon K (pv 0)) (nomark _)) (pss_one (pr_err (c_BadScheme T) (takes_of rfl rfl rfl rfl) (by rfl) hr (by decide) (by rfl) pe_str)) pss_nil)
      (pss_cons (ps_fld (pv 0) (pv 1) rfl)
      (pss_cons (ps_fld (pv 0) (pv 2) rfl)
      (pss_one (ps_fld (pv 0) (pe_slice sl_str (C8.pe_gc (by rfl) T.g_LETTERS) po_none (po_some (pv 3))) rfl))))))))), ?_⟩
    have nlit : ∀ s : String, (V.str (Str.ofString s)) = tx (Str.ofString s).cps.toList := fun s => rfl
    have bad : ∀ (l : List Nat) (G : Hp), Same H G → badPart r c = some l → Ra E a.BadScheme "part" (tx l) G := fun l G s e => (y l e).mono s
    refine ⟨_, rfl, by show 3 ≤ sizeLine; decide, fun t ht => ⟨t, _, rfl, .inr (seqT_of upd_same), rfl, rfl, _, rfl, ?_⟩⟩
    have s1 : Same H (upd H t (.tup [.int 1, .int 2, .int 3])) := ex_new ht
    have inr3 : inV (.int r) [.int 1, .int 2, .int 3] = decide (r = 1 ∨ r = 2 ∨ r = 3) := by
      show ((1 : Int) == r || ((2 : Int) == r || ((3 : Int) == r || false))) = _
      by_cases h1 : r = 1
      · subst h1; rfl
      · by_cases h2 : r = 2
        · subst h2; rfl
        · by_cases h3 : r = 3
          · subst h3; rfl
          · simp [h1, h2, h3, Ne.symm h1, Ne.symm h2, Ne.symm h3]
    have inc2 : inV (.int c) [.int 2, .int 3] = decide (c = 2 ∨ c = 3) := by
      show ((2 : Int) == c || ((3 : Int) == c || false)) = _
      by_cases h2 : c = 2
      · subst h2; rfl
      · by_cases h3 : c = 3
        · subst h3; rfl
        · simp [h2, h3, Ne.symm h2, Ne.symm h3]
    rw [inr3]
    by_cases hr3 : r = 1 ∨ r = 2 ∨ r = 3
    · rw [decide_eq_true hr3]
      refine iteF ⟨_, rfl, by show 2 ≤ sizeLine; decide, fun u hu => ⟨u, _, rfl, .inr (seqT_of upd_same), rfl, rfl, _, rfl, ?_⟩⟩
      have s2 := s1.trans (ex_new (o := .tup [.int 2, .int 3]) hu)
      rw [inc2]
      by_cases hc2 : c = 2 ∨ c = 3
      · rw [decide_eq_true hc2]
        obtain ⟨r', rfl⟩ : ∃ r' : Nat, (r' : Int) = r := ⟨r.toNat, by omega⟩
        obtain ⟨c', rfl⟩ : ∃ c' : Nat, (c' : Int) = c := ⟨c.toNat, by omega⟩
        have hr' : r' = 1 ∨ r' = 2 ∨ r' = 3 := by omega
        have hc' : c' = 2 ∨ c' = 3 := by omega
        have pw : ∀ i ≤ 3, (-(2 ^ 64) : Int) < ((c' ^ i : Nat) : Int) ∧ ((c' ^ i : Nat) : Int) < 2 ^ 64 := by
          rcases hc' with rfl | rfl <;> decide
        refine iteF ⟨_, rfl, r', rfl, by omega, by omega, ?_⟩
        refine for_it (walk_range (lo := 0) (n := ((r' : Nat) : Int).toNat)) (fun i σ M => M = upd (upd H t _) u _ ∧ ∃ v : Option V, σ = [some (.ref p), some (.int r'), some (.int c'), some (.int ((c' ^ i : Nat) : Int)), v]) ⟨rfl, none, rfl⟩ (fun _ _ _ _ _ => True.intro) ?_ ?_
        · rintro i x σ M M' hi ⟨rfl, v, rfl⟩ ⟨rfl, rfl⟩
          refine ⟨_, rfl, _, rfl, _, _, rfl, rfl, .inl (pw i (by omega)), rfl, some (.int (0 + (i : Nat))), ?_⟩
          show [_, _, _, some (V.int (((c' ^ i : Nat) : Int) * (c' : Int))), _] = [_, _, _, some (V.int ((c' ^ (i + 1) : Nat) : Int)), _]
          rw [Nat.pow_succ, Int.natCast_mul]
        · rintro σ M ⟨rfl, v, rfl⟩
          have hpM := s2 _ _ hp
          obtain ⟨u9, k9⟩ := T.k_MOST
          refine ⟨_, rfl, _, rfl, p, _, dx, _, _, _, rfl, hpM, T.c_Scheme.cl, k9, rfl, _, _, rfl, rfl, _, rfl, ?_⟩
          rw [show ((r' : Nat) : Int).toNat = r' from rfl]
          by_cases h33 : r' = 3 ∧ c' = 3
          · obtain ⟨rfl, rfl⟩ := h33
            refine iteT (Ra.now ?_)
            rw [show V.str (Str.ofString "size") = tx [115, 105, 122, 101] from congrArg V.str (by decide +kernel)]
            exact bad _ _ s2 rfl
          · have hn : ¬ ((9 : Int) < ((c' ^ r' : Nat) : Int)) := by
              rcases hr' with rfl | rfl | rfl <;> rcases hc' with rfl | rfl <;> first | decide | exact absurd ⟨rfl, rfl⟩ h33
            rw [decide_eq_false hn]
            refine iteF ?_
            refine ⟨_, rfl, _, rfl, p, _, dx, [], rfl, hpM, T.c_Scheme.cl, T.n_rows, by show 0 < 1000; decide, _, rfl, _, rfl, p, _, dx, _, rfl, upd_same, T.c_Scheme.cl, T.n_colours, by show 1 < 1000; decide, _, rfl, _, rfl, _, rfl, by decide +kernel, _, rfl, p, _, dx, _, rfl, upd_same, T.c_Scheme.cl, T.n_columns, by show 2 < 1000; decide, ?_⟩
            have gd : Kit.Good r' c' (c' ^ r') := by
              rcases hr' with rfl | rfl | rfl <;> rcases hc' with rfl | rfl <;> first | decide | exact absurd ⟨rfl, rfl⟩ h33
            have ecut : cutS (Str.ofString "abcdefghi") none (some ((c' ^ r' : Nat) : Int)) = S (cols (c' ^ r')) := by
              rcases hr' with rfl | rfl | rfl <;> rcases hc' with rfl | rfl <;> first | decide +kernel | exact absurd ⟨rfl, rfl⟩ h33
            rw [ecut]
            refine z ?_ _ (fun b o e hb => ?_) ⟨r', c', c' ^ r', rfl, rfl, ⟨dx, ?_⟩, gd⟩
            · unfold badPart
              rw [if_neg (fun q => q hr3), if_neg (fun q => q hc2), if_neg (by omega)]
            · rw [upd_ne hb, upd_ne hb, upd_ne hb]
              exact s2 _ _ e
            · exact upd_same.trans (congrArg (fun l => some (HO.ins a.Scheme dx l)) (put_fl .non .non _ _ _))
      · rw [decide_eq_false hc2]
        refine iteT (Ra.now ?_)
        rw [show V.str (Str.ofString "colours") = tx [99, 111, 108, 111, 117, 114, 115] from congrArg V.str (by decide +kernel)]
        refine bad _ _ s2 ?_
        unfold badPart
        rw [if_neg (fun q => q hr3), if_pos hc2]
    · rw [decide_eq_false hr3]
      refine iteT (Ra.now ?_)
      rw [show V.str (Str.ofString "rows") = tx [114, 111, 119, 115] from congrArg V.str (by decide +kernel)]
      refine bad _ _ s1 ?_
      unfold badPart
      rw [if_pos hr3]
def rowsOf (r c : Nat) (l : List Nat) : List (List Nat) := (List.range r).map fun j => l.map fun x => (dig r c (x - 97)).getD j 0
theorem rowsOf_len (r c : Nat) (l : List Nat) : (rowsOf r c l).length = r := by simp [rowsOf]
theorem strip_at {n : Nat} {l : List Nat} (h : isStrip n l = true) {i x : Nat} (hx : l[i]? = some x) : inCol n x = true := all_at h hx
theorem isCol_mk {n x : Nat} (h : inCol n x = true) : isCol n [x] = true := by
  rw [isCol, List.all_cons, h]
  rfl
theorem join_eq (s : Str) (l : List Str) : Txt.join s l = Str.join s l := StrLaws.glued_eq_join s l
/-- join of texts of one sign, the empty text between them -/
theorem join_ones : ∀ l : List Nat, Txt.join (S []) (l.map fun x => S [x]) = S l
  | [] => rfl
  | [x] => rfl
  | x :: y :: l => by
    have e := join_ones (y :: l)
    have z : Txt.join (S []) ((x :: y :: l).map fun x => S [x]) = S [x] ++ S [] ++ Txt.join (S []) ((y :: l).map fun x => S [x]) := by
      rw [join_eq, join_eq]
      rfl
    rw [z, e, S_app, S_app]
    rfl
theorem sum_ones (l : List Nat) : ((l.map fun x => S [x]).map (·.length)).sum = l.length := by
  induction l with
  | nil => rfl
  | cons x l ih =>
    rw [List.map_cons, List.map_cons, List.sum_cons, ih, List.length_cons]
    show 1 + l.length = _
    omega
def spPic (a : Ad) : Sp := fun vs H Q E => ∃ (p : Addr) (r c n : Nat) (l : List Nat), vs = [.ref p, tx l] ∧ SchemeAt a.Scheme H p r c n ∧ l.length ≤ 1000 ∧
  (isStrip n l = true → ∀ G q, Same H G → H q = none → G q = some (.lst ((rowsOf r c l).map tx)) → Q (.ref q) G) ∧ (isStrip n l = false → Ra E a.BadStrip "text" (tx l) H)
theorem sIx_some (n d k : Nat) : HT.sIx n d (some (k : Int)) = min k n := by
  show (if (k : Int) < 0 then ((k : Int) + (n : Int)).toNat else min (k : Int).toNat n) = _
  rw [if_neg (by omega)]
  rfl
theorem sIx_none (n d : Nat) : HT.sIx n d none = d := rfl
theorem cut_take (l : List Nat) (k : Nat) : cutS (S l) none (some (k : Int)) = S (l.take k) := by
  rw [cut_S, sIx_some, sIx_none, List.drop_zero, Nat.sub_zero]
  congr 1
  by_cases h : k ≤ l.length
  · rw [Nat.min_eq_left h]
  · rw [Nat.min_eq_right (by omega), List.take_length, List.take_of_length_le (by omega)]
theorem cut_drop (l : List Nat) (k : Nat) : cutS (S l) (some (k : Int)) none = S (l.drop k) := by
  rw [cut_S, sIx_some, sIx_none]
  congr 1
  by_cases h : k ≤ l.length
  · rw [Nat.min_eq_left h, List.take_of_length_le (by simp)]
  · rw [Nat.min_eq_right (by omega), List.drop_length, List.drop_of_length_le (by omega), List.take_nil]
def spotAt (r c : Nat) (l : List Nat) (row at_ : Nat) : Nat := (dig r c (l.getD at_ 0 - 97)).getD row 0
theorem getD_at {l : List Nat} {i : Nat} (h : i < l.length) : l[i]? = some (l.getD i 0) := by
  rw [List.getD_eq_getElem?_getD, List.getElem?_eq_getElem h]
  rfl
def recol (r c : Nat) (l : List Nat) (row at_ : Nat) (col : List Nat) : List Nat :=
  l.take at_ ++ [97 + num c ((dig r c (l.getD at_ 0 - 97)).take row ++ col ++ (dig r c (l.getD at_ 0 - 97)).drop (row + 1))] ++ l.drop (at_ + 1)
theorem digs_put {r c : Nat} {d col : List Nat} {row : Nat} (h : isDigs r c d = true) (hr : row < r) (hc : isColour c col = true) : isDigs r c (d.take row ++ col ++ d.drop (row + 1)) = true := by
  unfold isDigs at h ⊢
  unfold isColour at hc
  rw [Bool.and_eq_true, decide_eq_true_iff] at h hc ⊢
  obtain ⟨h1, h2⟩ := h
  obtain ⟨h3, h4⟩ := hc
  refine ⟨by simp; omega, ?_⟩
  rw [List.all_append, List.all_append, h4, Bool.and_true, Bool.and_eq_true]
  exact ⟨List.all_eq_true.mpr fun x hx => List.all_eq_true.mp h2 x (List.mem_of_mem_take hx), List.all_eq_true.mpr fun x hx => List.all_eq_true.mp h2 x (List.mem_of_mem_drop hx)⟩
def spLenS (C : Addr) : Sp := fun vs H Q _ => ∃ (p : Addr) (r c n : Nat), vs = [.ref p] ∧ SchemeAt C H p r c n ∧ Q (.int n) H
theorem c_Scheme_len (T : Txt K mg a) : CanM P w K mg base 1 a.Scheme "__len__" (spLenS a.Scheme) := by
  refine canM_of T.c_Scheme.cl T.m_Scheme___len__ sc_Scheme___len__ bd_Scheme___len__ (fun vs H Q E h => ?_) (fun f cdv A outer s H vs Q E hr h => ?_)
  · obtain ⟨p, r, c, n, rfl, _⟩ := h
    rfl
  · obtain ⟨p, r, c, n, rfl, ⟨⟨dx, hp⟩, gd⟩, z⟩ := h
    refine ⟨_, (pss_one (ps_ret (pe_callB call_len_str (by rfl) T.b_len (by decide +kernel) (pa_cons (kfld K (pv 0)) pa_nil)))), ?_⟩
    have gn := good_n gd
    refine ⟨_, rfl, p, _, dx, _, _, rfl, hp, T.c_Scheme.cl, T.n_columns, fl_columns r c n, _, rfl, szl (by rw [S_len, cols_len]; omega), ?_⟩
    rw [S_len, cols_len]
    exact z
/-- == with another thing: another scheme, an int, a text -/
def spEqS (C : Addr) : Sp := fun vs H Q _ => ∃ (p : Addr) (r c n : Nat) (y : V), vs = [.ref p, y] ∧ SchemeAt C H p r c n ∧
  ((∃ i, y = .int i ∧ Q (.bl false) H) ∨ (∃ t, y = .str t ∧ Q (.bl false) H) ∨ ∃ q r2 c2 n2, y = .ref q ∧ SchemeAt C H q r2 c2 n2 ∧ Q (.bl (decide (r = r2) && decide (c = c2))) H)
theorem c_Scheme_eq (T : Txt K mg a) : CanM P w K mg base 1 a.Scheme "__eq__" (spEqS a.Scheme) := by
  refine canM_of T.c_Scheme.cl T.m_Scheme___eq__ sc_Scheme___eq__ bd_Scheme___eq__ (fun vs H Q E h => ?_) (fun f cdv A outer s H vs Q E hr h => ?_)
  · obtain ⟨p, r, c, n, y, rfl, _⟩ := h
    rfl
  · obtain ⟨p, r, c, n, y, rfl, ⟨⟨dx, hp⟩, gd⟩, z⟩ := h
    refine ⟨_, (pss_one (ps_ret (pe_and (pe_callB (kisi K) (by rfl) T.b_isinstance (by decide +kernel) (pa_cons (pv 1) (pa_cons (pe_glob (v := .ref a.Scheme) (by rfl) T.c_Scheme.gC rfl) pa_nil))) (pe_and (pe_cmpR op_eq (kfld K (pv 0)) (kfld K (pv 1)) (nomark _)) (pe_one (pe_cmpR op_eq (kfld K (pv 0)) (kfld K (pv 1)) (nomark _))))))), ?_⟩
    rcases z with ⟨i, rfl, z⟩ | ⟨t, rfl, z⟩ | ⟨q, r2, c2, n2, rfl, ⟨⟨dy, hq⟩, gd2⟩, z⟩
    · exact ⟨_, rfl, _, _, _, _, false, rfl, .own _, .base (.int i), T.i_int, _, rfl, iteF z⟩
    · exact ⟨_, rfl, _, _, _, _, false, rfl, .own _, .base (.str t), T.i_str, _, rfl, iteF z⟩
    · refine ⟨_, rfl, _, _, _, _, true, rfl, .own _, .base (.ins hq T.c_Scheme.cl T.i_ha T.i_hn T.i_ht T.i_hm), T.i_own, _, rfl, iteT ?_⟩
      refine ⟨_, rfl, p, _, dx, _, _, rfl, hp, T.c_Scheme.cl, T.n_rows, fl_rows r c n, _, rfl, q, _, dy, _, _, rfl, hq, T.c_Scheme.cl, T.n_rows, fl_rows r2 c2 n2, rfl, _, rfl, ?_⟩
      refine ite2 (fun h1 => ?_) (fun h1 => ?_)
      · have h1 : r = r2 := by
          have := V.int.inj (of_decide_eq_true h1)
          omega
        subst h1
        refine ⟨_, rfl, p, _, dx, _, _, rfl, hp, T.c_Scheme.cl, T.n_colours, fl_colours r c n, _, rfl, q, _, dy, _, _, rfl, hq, T.c_Scheme.cl, T.n_colours, fl_colours r c2 n2, rfl, ?_⟩
        have e : decide ((V.int (c : Int)) = V.int (c2 : Int)) = (decide (r = r) && decide (c = c2)) := by
          rw [decide_eq_true (rfl : r = r), Bool.true_and]
          by_cases h : c = c2
          · subst h
            rw [decide_eq_true rfl, decide_eq_true rfl]
          · rw [decide_eq_false h, decide_eq_false fun q => h (by have := V.int.inj q; omega)]
        rw [e]
        exact z
      · have h1 : ¬ r = r2 := fun q => h1 (decide_eq_true (by rw [q]))
        rw [decide_eq_false h1] at z
        exact z
/-! ### of_picture -/
def badAt (r c : Nat) (ls : List (List Nat)) (k : Nat) : Bool := decide (r ≤ k) || decide ((ls.getD k []).length ≠ (ls.getD 0 []).length) || !(ls.getD k []).all (inDig c)
def firstBad (r c : Nat) (ls : List (List Nat)) : Option Nat := (List.range ls.length).find? (badAt r c ls)
theorem first_some {r c i : Nat} {ls : List (List Nat)} (h : ∀ k < i, badAt r c ls k = false) (hb : badAt r c ls i = true) (hi : i < ls.length) : firstBad r c ls = some i := by
  unfold firstBad
  rw [List.find?_range_eq_some]
  exact ⟨hb, List.mem_range.mpr hi, fun k hk => by rw [h k hk]; rfl⟩
theorem first_none {r c : Nat} {ls : List (List Nat)} (h : ∀ k < ls.length, badAt r c ls k = false) : firstBad r c ls = none := by
  unfold firstBad
  rw [List.find?_eq_none]
  intro k hk
  rw [h k (List.mem_range.mp hk)]
  decide
def ofPic (c : Nat) (ls : List (List Nat)) : List Nat := (List.range (ls.getD 0 []).length).map fun t => 97 + num c (ls.map fun l => l.getD t 0)
theorem getD_lst {ls : List (List Nat)} {i : Nat} {l : List Nat} (h : ls[i]? = some l) : ls.getD i [] = l := by
  rw [List.getD_eq_getElem?_getD, h]
  rfl
theorem good_digs {r c : Nat} {ls : List (List Nat)} (h : ∀ k < ls.length, badAt r c ls k = false) (hr : r ≤ ls.length) {t : Nat} (ht : t < (ls.getD 0 []).length) : isDigs r c (ls.map fun l => l.getD t 0) = true ∧ ls.length = r := by
  have hlen : ls.length = r := by
    by_cases q : r < ls.length
    · have := h r q
      unfold badAt at this
      simp at this
    · omega
  refine ⟨?_, hlen⟩
  unfold isDigs
  rw [List.length_map, decide_eq_true hlen, Bool.true_and, List.all_map, List.all_eq_true]
  intro l hl
  obtain ⟨k, hk, rfl⟩ := List.mem_iff_getElem.mp hl
  have e : ls.getD k [] = ls[k] := getD_lst (List.getElem?_eq_getElem hk)
  have hb := h k hk
  unfold badAt at hb
  rw [e] at hb
  simp only [Bool.or_eq_false_iff, decide_eq_false_iff_not, Bool.not_eq_false'] at hb
  obtain ⟨⟨_, h2⟩, h3⟩ := hb
  have h2 : ls[k].length = (ls.getD 0 []).length := by
    by_cases q : ls[k].length = (ls.getD 0 []).length
    · exact q
    · exact absurd q h2
  exact all_at h3 (getD_at (by omega))
/-- all but the purse as before -/
def Pu (p : Addr) (H G : Hp) : Prop := (∀ b o, H b = some o → b ≠ p → G b = some o) ∧ PurseAt G p
theorem pmono {H G : Hp} {p : Addr} (h : PurseAt H p) (e : Same H G) : PurseAt G p := let ⟨x, y, z, q, r⟩ := h; ⟨x, y, z, e _ _ q, r⟩
theorem Pu.refl {p : Addr} {H : Hp} (h : PurseAt H p) : Pu p H H := ⟨fun _ _ e _ => e, h⟩
theorem Pu.draw {p : Addr} {H : Hp} {o : HO} (h : PurseAt (upd H p o) p) : Pu p H (upd H p o) := ⟨fun b u e hb => by rw [upd_ne hb]; exact e, h⟩
theorem Pu.trans {p : Addr} {H G M : Hp} (h : Pu p H G) (k : Pu p G M) : Pu p H M := ⟨fun b o e hb => k.1 b o (h.1 b o e hb) hb, k.2⟩
theorem Pu.same {p : Addr} {H G M : Hp} (h : Pu p H G) (k : Same G M) : Pu p H M := ⟨fun b o e hb => k b o (h.1 b o e hb), pmono h.2 k⟩
theorem same_pu {p : Addr} {H G M : Hp} (h : Same H G) (k : Pu p G M) : Pu p H M := ⟨fun b o e hb => k.1 b o (h b o e) hb, k.2⟩
def SizeAt (H : Hp) (s : Addr) (r c n : Nat) : Prop := H s = some (.tup [.int r, .int c, .int n]) ∧ Good r c n
theorem SizeAt.mono {H G : Hp} {s : Addr} {r c n : Nat} (h : SizeAt H s r c n) (e : Same H G) : SizeAt G s r c n := ⟨e _ _ h.1, h.2⟩
theorem SizeAt.pu {H G : Hp} {s p : Addr} {r c n : Nat} (h : SizeAt H s r c n) (hp : PurseAt H p) (e : Pu p H G) : SizeAt G s r c n := by
  obtain ⟨x, y, z, q, _⟩ := hp
  exact ⟨e.1 _ _ h.1 (ne_of h.1 q (by intro z; cases z)), h.2⟩
theorem SchemeAt.pu {C : Addr} {H G : Hp} {q p : Addr} {r c n : Nat} (h : SchemeAt C H q r c n) (hp : PurseAt H p) (e : Pu p H G) : SchemeAt C G q r c n := by
  obtain ⟨x, y, z, k, _⟩ := hp
  obtain ⟨⟨dx, h1⟩, h2⟩ := h
  exact ⟨⟨dx, e.1 _ _ h1 (ne_of h1 k (by intro z; cases z))⟩, h2⟩
/-! ### signs, spoilt texts, numbers far off -/
theorem at_of_lt {l : List Nat} {d : Int} (h0 : 0 ≤ d) (h1 : d < l.length) : ∃ x, atI (S l).cps.toList d = some x := by
  have e := atI_S (getD_at (l := l) (i := d.toNat) (by omega))
  rw [show ((d.toNat : Nat) : Int) = d by omega] at e
  exact ⟨_, e⟩
theorem str_at {s : String} {n : Nat} (hs : (Str.ofString s).length = n) {d : Int} (h0 : 0 ≤ d) (h1 : d < n) : ∃ x, atI (Str.ofString s).cps.toList d = some x := by
  obtain ⟨l, hl⟩ := S_of (Str.ofString s)
  rw [hl] at hs ⊢
  rw [S_len] at hs
  exact at_of_lt h0 (by omega)
end
end K16

end
section
set_option Elab.async false
set_option linter.all false
set_option maxRecDepth 100000
set_option maxHeartbeats 4000000
namespace K16
open PySem PySem.Spec PyProof.Rows L2 Kit
section
variable {P : Program} {w : World} {K : PySem.W.Frag} {mg : Str → Option Value} {base : Heap} {a : Ad}
theorem cutV_S (xs : List V) (lo hi : Option Int) : cutV xs lo hi = (xs.drop (HT.sIx xs.length 0 lo)).take (HT.sIx xs.length xs.length hi - HT.sIx xs.length 0 lo) := rfl
theorem cutV_take (xs : List V) {d : Int} (h : 0 ≤ d) : cutV xs none (some d) = xs.take d.toNat := by
  obtain ⟨k, rfl⟩ : ∃ k : Nat, (k : Int) = d := ⟨d.toNat, by omega⟩
  rw [cutV_S, sIx_some, sIx_none, List.drop_zero, Nat.sub_zero]
  show xs.take (min k xs.length) = xs.take k
  by_cases h : k ≤ xs.length
  · rw [Nat.min_eq_left h]
  · rw [Nat.min_eq_right (by omega), List.take_length, List.take_of_length_le (by omega)]
theorem cutV_drop (xs : List V) {d : Int} (h : 0 ≤ d) : cutV xs (some d) none = xs.drop d.toNat := by
  obtain ⟨k, rfl⟩ : ∃ k : Nat, (k : Int) = d := ⟨d.toNat, by omega⟩
  rw [cutV_S, sIx_some, sIx_none]
  show (xs.drop (min k xs.length)).take (xs.length - min k xs.length) = xs.drop k
  by_cases h : k ≤ xs.length
  · rw [Nat.min_eq_left h, List.take_of_length_le (by simp)]
  · rw [Nat.min_eq_right (by omega), List.drop_length, List.drop_of_length_le (by omega), List.take_nil]
theorem cutM_take (ls : List (List Nat)) {d : Int} (h : 0 ≤ d) : cutV (ls.map tx) none (some d) = (ls.take d.toNat).map tx := by
  rw [cutV_take _ h, List.map_take]
theorem cutM_drop (ls : List (List Nat)) {d : Int} (h : 0 ≤ d) : cutV (ls.map tx) (some d) none = (ls.drop d.toNat).map tx := by
  rw [cutV_drop _ h, List.map_drop]
theorem SqLm {K : PySem.W.Frag} {H G : Hp} {q : Addr} {xs : List V} (h : SqL K H q xs) (e : Same H G) : SqL K G q xs := by
  rcases h with h | h
  · rcases h with h | ⟨o, h⟩
    · exact .inl (.inl (e _ _ h))
    · exact .inl (.inr ⟨o, e _ _ h⟩)
  · exact .inr h
theorem free_same {H G : Hp} {q : Addr} (s : Same H G) (h : G q = none) : H q = none := by
  cases e : H q with
  | none => rfl
  | some o =>
    rw [s _ _ e] at h
    cases h
/-! ### the boxes: n more draws -/
def BoxAt (n : Nat) (H : Hp) (p : Addr) : Prop := ∃ x y z : Int, H p = some (.lst [.int x, .int y, .int z]) ∧ 0 ≤ x ∧ 0 ≤ z ∧ z + n ≤ 100000
def Bu (n : Nat) (p : Addr) (H G : Hp) : Prop := (∀ b o, H b = some o → b ≠ p → G b = some o) ∧ BoxAt n G p
theorem BoxAt.mono {n : Nat} {H G : Hp} {p : Addr} (h : BoxAt n H p) (e : Same H G) : BoxAt n G p := let ⟨x, y, z, q, r⟩ := h; ⟨x, y, z, e _ _ q, r⟩
theorem BoxAt.le {n m : Nat} {H : Hp} {p : Addr} (h : BoxAt n H p) (e : m ≤ n) : BoxAt m H p := let ⟨x, y, z, q, r1, r2, r3⟩ := h; ⟨x, y, z, q, r1, r2, by omega⟩
theorem Bu.draw {n : Nat} {p : Addr} {H : Hp} {o : HO} (h : BoxAt n (upd H p o) p) : Bu n p H (upd H p o) := ⟨fun b u e hb => by rw [upd_ne hb]; exact e, h⟩
theorem Bu.trans {n m : Nat} {p : Addr} {H G M : Hp} (h : Bu n p H G) (k : Bu m p G M) : Bu m p H M := ⟨fun b o e hb => k.1 b o (h.1 b o e hb) hb, k.2⟩
theorem Bu.same {n : Nat} {p : Addr} {H G M : Hp} (h : Bu n p H G) (k : Same G M) : Bu n p H M := ⟨fun b o e hb => k b o (h.1 b o e hb), h.2.mono k⟩
theorem same_bu {n : Nat} {p : Addr} {H G M : Hp} (h : Same H G) (k : Bu n p G M) : Bu n p H M := ⟨fun b o e hb => k.1 b o (h b o e) hb, k.2⟩
theorem Bu.refl {n : Nat} {p : Addr} {H : Hp} (h : BoxAt n H p) : Bu n p H H := ⟨fun _ _ e _ => e, h⟩
theorem Bu.le {n m : Nat} {p : Addr} {H G : Hp} (h : Bu n p H G) (e : m ≤ n) : Bu m p H G := ⟨h.1, h.2.le e⟩
def spTake : Sp := fun vs H Q _ => ∃ (p : Addr) (m : Int) (n : Nat), vs = [.ref p, .int m] ∧ BoxAt (n + 1) H p ∧ 0 < m ∧ m < 1000000000 ∧ ∀ (d : Int) (G : Hp), 0 ≤ d → d < m → Bu n p H G → Q (.int d) G
theorem c_law_take (T : Txt K mg a) : Can P w K mg base 1 "_law_take" spTake := by
  refine can_of T.d_law_take sc_law_take bd_law_take (fun vs H Q E h => ?_) (fun f cdv A outer s H vs Q E hr h => ?_)
  · obtain ⟨p, m, n, rfl, _⟩ := h
    rfl
  · obtain ⟨p, m, n, rfl, ⟨x, y, z, hp, hx, hz, hzn⟩, h0, h1, k⟩ := h
    refine ⟨_, (pss_cons (ps_asg (pe_op op_add (pe_ix (kix_list K) (pv 0) pe_int (fun _ _ => rfl)) pe_int) (pg_sub (pv 0) pe_int set_list))
      (pss_cons (ps_if (PW.pt (pw_and (pt_cmpR op_gt (pe_ix (kix_list K) (pv 0) pe_int (fun _ _ => rfl)) pe_int (nomark _)) (pw_and1 (pt_cmpR op_le (pe_ix (kix_list K) (pv 0) pe_int (fun _ _ => rfl)) pe_int (nomark _))))) (pss_cons (ps_set (i := 2) sc_law_take.nd rfl (.inl rfl) (pe_op op_modN (pe_callTy call_int1 (by rfl) T.b_int (by decide +kernel) (pa_cons (pe_ix (kix_list K) (pv 0) pe_int (fun _ _ => rfl)) pa_nil)) (pv 1)))
      (pss_cons (ps_asg (pe_op op_fdivN (pe_callTy call_int1 (by rfl) T.b_int (by decide +kernel) (pa_cons (pe_ix (kix_list K) (pv 0) pe_int (fun _ _ => rfl)) pa_nil)) (pv 1)) (pg_sub (pv 0) pe_int set_list))
      (pss_one (ps_ret (pv 2))))) pss_nil)
      (pss_cons (ps_set (i := 3) sc_law_take.nd rfl (.inl rfl) (pe_op op_modN (pe_callTy call_int1 (by rfl) T.b_int (by decide +kernel) (pa_cons (pe_op op_mul (pe_ix (kix_list K) (pv 0) pe_int (fun _ _ => rfl)) (pe_op op_add (pe_op op_mul (pe_ix (kix_list K) (pv 0) pe_int (fun _ _ => rfl)) pe_int) pe_int)) pa_nil)) pe_int))
      (pss_cons (ps_set (i := 3) sc_law_take.nd rfl (.inl rfl) (pe_op op_modN (pe_callTy call_int1 (by rfl) T.b_int (by decide +kernel) (pa_cons (pe_op op_mul (pv 3) (pe_op op_add (pe_op op_modN (pe_callTy call_int1 (by rfl) T.b_int (by decide +kernel) (pa_cons (pv 3) pa_nil)) pe_int) (pe_op op_mul (pe_ix (kix_list K) (pv 0) pe_int (fun _ _ => rfl)) pe_int))) pa_nil)) pe_int))
      (pss_one (ps_ret (pe_op op_modN (pe_callTy call_int1 (by rfl) T.b_int (by decide +kernel) (pa_cons (pe_op op_fdivN (pv 3) pe_int) pa_nil)) (pv 1)))))))), ?_⟩
    have e0 : ∀ u v t : Int, atI [V.int u, .int v, .int t] 0 = some (.int u) := fun _ _ _ => rfl
    have e1 : ∀ u v t : Int, atI [V.int u, .int v, .int t] 1 = some (.int v) := fun _ _ _ => rfl
    have e2 : ∀ u v t : Int, atI [V.int u, .int v, .int t] 2 = some (.int t) := fun _ _ _ => rfl
    refine ⟨_, rfl, p, _, 2, _, rfl, rfl, seqL_of hp, e2 _ _ _, z, 1, rfl, rfl, _, rfl, p, _, 2, 2, rfl, rfl, hp, rfl, ?_⟩
    have hp2 : upd H p (.lst [.int x, .int y, .int (z + 1)]) p = some (.lst [.int x, .int y, .int (z + 1)]) := upd_same
    have k2 : ∀ (x' : Int) (d : Int), 0 ≤ x' → 0 ≤ d → d < m → Q (.int d) (upd (upd H p (.lst [.int x, .int y, .int (z + 1)])) p (.lst [.int x', .int y, .int (z + 1)])) := fun x' d a1 a2 a3 =>
      k d _ a2 a3 ⟨fun b o e hb => by rw [upd_ne hb, upd_ne hb]; exact e, x', y, z + 1, upd_same, a1, by omega, by omega⟩
    have k1 : ∀ d : Int, 0 ≤ d → d < m → Q (.int d) (upd H p (.lst [.int x, .int y, .int (z + 1)])) := fun d a2 a3 =>
      k d _ a2 a3 ⟨fun b o e hb => by rw [upd_ne hb]; exact e, x, y, z + 1, upd_same, hx, by omega, by omega⟩
    have m1 : ∀ u : Int, -(2 ^ 64) < u.fmod 2147483647 ∧ u.fmod 2147483647 < 2 ^ 64 := fun u => ⟨by have := Int.fmod_nonneg_of_pos u (show (0 : Int) < 2147483647 by decide); omega, by have := Int.fmod_lt_of_pos u (show (0 : Int) < 2147483647 by decide); omega⟩
    refine ⟨_, rfl, p, _, 0, _, rfl, rfl, seqL_of hp2, e0 _ _ _, x, 0, rfl, rfl, _, rfl, ?_⟩
    refine ite2 (fun hx0 => ?_) (fun hx0 => ?_)
    · refine ⟨_, rfl, p, _, 2, _, rfl, rfl, seqL_of hp2, e2 _ _ _, _, _, rfl, rfl, _, rfl, ite2 (fun hz0 => ?_) (fun hz0 => ?_)⟩
      · refine ⟨_, rfl, p, _, 0, _, rfl, rfl, seqL_of hp2, e0 _ _ _, .inl ⟨x, rfl, _, rfl, x, m, rfl, rfl, by omega, ?_⟩⟩
        refine ⟨_, rfl, p, _, 0, _, rfl, rfl, seqL_of hp2, e0 _ _ _, .inl ⟨x, rfl, _, rfl, x, m, rfl, rfl, ⟨by omega, by omega⟩, _, rfl, p, _, 0, 0, rfl, rfl, hp2, rfl, ?_⟩⟩
        exact ⟨_, rfl, k2 _ _ (Int.fdiv_nonneg hx (by omega)) (Int.fmod_nonneg_of_pos _ h0) (Int.fmod_lt_of_pos _ h0)⟩
      · exact ⟨_, rfl, p, _, 1, _, rfl, rfl, seqL_of hp2, e1 _ _ _, _, rfl, p, _, 2, _, rfl, rfl, seqL_of hp2, e2 _ _ _, _, _, rfl, rfl, .inr ⟨by decide, by decide⟩, _, _, rfl, rfl, _, _, rfl, rfl, .inr ⟨by omega, by omega⟩, .inl ⟨_, rfl, _, _, rfl, rfl, (by decide : (2147483647 : Int) ≠ 0), _, rfl, _, rfl, .inl ⟨_, rfl, _, _, rfl, rfl, (by decide : (65537 : Int) ≠ 0), _, rfl, p, _, 2, _, rfl, rfl, seqL_of hp2, e2 _ _ _, _, _, rfl, rfl, .inr ⟨by decide, by decide⟩, _, _, rfl, rfl, _, _, rfl, rfl, .inl (m1 _), .inl ⟨_, rfl, _, _, rfl, rfl, (by decide : (2147483629 : Int) ≠ 0), _, rfl, _, _, rfl, rfl, ⟨by decide, by decide⟩, .inl ⟨_, rfl, _, rfl, _, _, rfl, rfl, by omega, k1 _ (Int.fmod_nonneg_of_pos _ h0) (Int.fmod_lt_of_pos _ h0)⟩⟩⟩⟩⟩
    · exact ⟨_, rfl, p, _, 1, _, rfl, rfl, seqL_of hp2, e1 _ _ _, _, rfl, p, _, 2, _, rfl, rfl, seqL_of hp2, e2 _ _ _, _, _, rfl, rfl, .inr ⟨by decide, by decide⟩, _, _, rfl, rfl, _, _, rfl, rfl, .inr ⟨by omega, by omega⟩, .inl ⟨_, rfl, _, _, rfl, rfl, (by decide : (2147483647 : Int) ≠ 0), _, rfl, _, rfl, .inl ⟨_, rfl, _, _, rfl, rfl, (by decide : (65537 : Int) ≠ 0), _, rfl, p, _, 2, _, rfl, rfl, seqL_of hp2, e2 _ _ _, _, _, rfl, rfl, .inr ⟨by decide, by decide⟩, _, _, rfl, rfl, _, _, rfl, rfl, .inl (m1 _), .inl ⟨_, rfl, _, _, rfl, rfl, (by decide : (2147483629 : Int) ≠ 0), _, rfl, _, _, rfl, rfl, ⟨by decide, by decide⟩, .inl ⟨_, rfl, _, rfl, _, _, rfl, rfl, by omega, k1 _ (Int.fmod_nonneg_of_pos _ h0) (Int.fmod_lt_of_pos _ h0)⟩⟩⟩⟩⟩
def spBox (K : PySem.W.Frag) : Sp := fun vs H Q _ => ∃ (b : Addr) (ns : List Int) (k : Int), vs = [.ref b, .int k] ∧ SqL K H b (ns.map V.int) ∧ ns.length ≤ 63 ∧ 0 ≤ k ∧ k ≤ 63 ∧ ∀ (q : Addr) (G : Hp), Same H G → H q = none → BoxAt 100000 G q → Q (.ref q) G
theorem c_law_box (T : Txt K mg a) : Can P w K mg base 1 "_law_box" (spBox K) := by
  refine can_of T.d_law_box sc_law_box bd_law_box (fun vs H Q E h => ?_) (fun f cdv A outer s H vs Q E hr h => ?_)
  · obtain ⟨b, ns, k, rfl, _⟩ := h
    rfl
  · obtain ⟨b, ns, k, rfl, hs, hl, hk0, hk1, z⟩ := h
    refine ⟨_, (pss_cons (ps_set (i := 2) sc_law_box.nd rfl (.inl rfl) (pe_op op_mul (pe_op op_modN (pe_callTy call_int1 (by rfl) T.b_int (by decide +kernel) (pa_cons (pe_callB (ksum K (by rfl)) (by rfl) T.b_sum (by decide +kernel) (pa_cons (pe_slice (ksl_list K) (pv 0) po_none (po_some pe_int)) pa_nil)) pa_nil)) pe_int) (pe_op op_add (pv 1) pe_int)))
      (C8.pss_cut (ps_if (pt_cmpR op_lt (pv 1) (pe_callB (klen_seq K) (by rfl) T.b_len (by decide +kernel) (pa_cons (pv 0) pa_nil)) (nomark _)) (pss_one (ps_set (i := 2) sc_law_box.nd rfl (.inl rfl) (pe_callB call_abs (by rfl) T.b_abs (by decide +kernel) (pa_cons (pe_ix (kix_list K) (pv 0) (pv 1) (fun _ _ => rfl)) pa_nil)))) pss_nil)
      (pss_cons (ps_if (pt_cmpR op_lt (pv 2) (pe_op op_pow pe_int pe_int) (nomark _)) (pss_one (ps_ret (pe_lst (pa_cons pe_int (pa_cons (pv 2) (pa_cons pe_int pa_nil)))))) pss_nil)
      (pss_one (ps_ret (pe_lst (pa_cons (pv 2) (pa_cons (pv 2) (pa_cons pe_int pa_nil))))))))), ?_⟩
    have c1 : cutV (ns.map V.int) none (some 1) = (ns.take 1).map V.int := by rw [cutV_take _ (by decide), List.map_take]; rfl
    refine ⟨_, rfl, _, rfl, b, _, rfl, hs, fun q hq => ?_⟩
    rw [c1]
    have s1 := ex_new (o := .lst ((ns.take 1).map V.int)) hq
    refine ⟨q, _, rfl, seqL_of upd_same, .inl ⟨_, rfl, _, _, rfl, rfl, (by decide : (1000003 : Int) ≠ 0), _, rfl, _, _, rfl, rfl, _, _, rfl, rfl, .inr ⟨by omega, by omega⟩, ?_⟩⟩
    refine ⟨fun σ G => Same H G ∧ ∃ (c : Int), σ = [some (.ref b), some (.int k), some (.int c)], ?_, ?_⟩
    · refine ⟨_, rfl, _, rfl, b, _, rfl, .inl (SqLm hs s1), _, _, rfl, rfl, _, rfl, ?_⟩
      refine ite2 (fun hk => ?_) (fun hk => ?_)
      · have hlE : (ns.map V.int).length = ns.length := List.length_map ..
        have hk' : k.toNat < ns.length := by
          have := of_decide_eq_true hk
          omega
        have hix : atI (ns.map V.int) k = some (.int ns[k.toNat]) := by
          have e := atI_nat (xs := ns.map V.int) (j := k.toNat) (v := .int ns[k.toNat]) (by rw [List.getElem?_map, List.getElem?_eq_getElem hk']; rfl)
          rwa [show ((k.toNat : Nat) : Int) = k by omega] at e
        exact ⟨_, rfl, _, rfl, b, _, k, _, rfl, rfl, SqLm hs s1, hix, _, rfl, s1, _, rfl⟩
      · exact ⟨s1, _, rfl⟩
    · rintro _ G ⟨s2, c, rfl⟩
      refine ⟨_, rfl, _, _, rfl, rfl, ⟨by decide, by decide, by decide⟩, _, _, rfl, rfl, _, rfl, ?_⟩
      refine ite2 (fun _ => ?_) (fun hc => ?_)
      · exact ⟨_, rfl, (by show 3 ≤ sizeLine; decide), fun q hq => z q _ (s2.trans (ex_new hq)) (free_same s2 hq) ⟨0, _, 0, upd_same, Int.le_refl _, Int.le_refl _, by decide⟩⟩
      · refine ⟨_, rfl, _, rfl, (by show 3 ≤ sizeLine; decide), fun q hq => z q _ (s2.trans (ex_new hq)) (free_same s2 hq) ⟨_, _, 0, upd_same, ?_, Int.le_refl _, by decide⟩⟩
        have hc : ¬ c < 1000000000000000000 := fun q => hc (decide_eq_true q)
        omega
end
end K16

end
section
set_option Elab.async false
set_option linter.all false
set_option maxRecDepth 100000
set_option maxHeartbeats 4000000
namespace K16
open PySem PySem.Spec PyProof.Rows L2 Kit
section
variable {P : Program} {w : World} {K : PySem.W.Frag} {mg : Str → Option Value} {base : Heap} {a : Ad}
/-! ### a paint -/
def pf (s q : Addr) : List (Str × V) := [("scheme", .ref s), ("maps", .ref q)]
theorem pk1 : (("maps" : Str) == ("scheme" : Str)) = false := by decide +kernel
theorem pf_scheme (s q : Addr) : (pf s q).lookup ("scheme" : Str) = some (.ref s) := by
  unfold pf
  rw [List.lookup_cons, beq_self_eq_true]
theorem pf_maps (s q : Addr) : (pf s q).lookup ("maps" : Str) = some (.ref q) := by
  unfold pf
  rw [List.lookup_cons, pk1, List.lookup_cons, beq_self_eq_true]
theorem pf_no (s q : Addr) {m : Str} (h1 : (m == ("scheme" : Str)) = false) (h2 : (m == ("maps" : Str)) = false) : (pf s q).lookup m = none := by
  unfold pf
  rw [List.lookup_cons, h1, List.lookup_cons, h2, List.lookup_nil]
def okM (r c : Nat) (ms : List (List Nat)) : Bool := decide (ms.length = r) && ms.all (isDigs c c)
structure PaintAt (a : Ad) (H : Hp) (p s q : Addr) (r c n : Nat) (ms : List (List Nat)) : Prop where
  ob : ∃ dx, H p = some (.ins a.Paint dx (pf s q))
  sch : SchemeAt a.Scheme H s r c n
  mp : H q = some (.lst (ms.map tx))
  ok : okM r c ms = true
theorem PaintAt.mono {H G : Hp} {p s q : Addr} {r c n : Nat} {ms : List (List Nat)} (h : PaintAt a H p s q r c n ms) (e : Same H G) : PaintAt a G p s q r c n ms := ⟨let ⟨dx, z⟩ := h.ob; ⟨dx, e _ _ z⟩, h.sch.mono e, e _ _ h.mp, h.ok⟩
theorem okM_len {r c : Nat} {ms : List (List Nat)} (h : okM r c ms = true) : ms.length = r := by
  unfold okM at h
  rw [Bool.and_eq_true, decide_eq_true_iff] at h
  exact h.1
theorem okM_at {r c : Nat} {ms : List (List Nat)} (h : okM r c ms = true) {i : Nat} {m : List Nat} (hm : ms[i]? = some m) : isDigs c c m = true := by
  unfold okM at h
  rw [Bool.and_eq_true] at h
  exact List.all_eq_true.mp h.2 m (List.mem_of_getElem? hm)
theorem digs_len {r c : Nat} {l : List Nat} (h : isDigs r c l = true) : l.length = r := by
  unfold isDigs at h
  rw [Bool.and_eq_true, decide_eq_true_iff] at h
  exact h.1
theorem digs_at {r c : Nat} {l : List Nat} (h : isDigs r c l = true) {i x : Nat} (hx : l[i]? = some x) : inDig c x = true := by
  unfold isDigs at h
  rw [Bool.and_eq_true] at h
  exact all_at h.2 hx
def spAlk (a : Ad) : Sp := fun vs H Q E => ∃ (p p2 s q s2 q2 : Addr) (r c n r2 c2 n2 : Nat) (ms ms2 : List (List Nat)), vs = [.ref p, .ref p2] ∧ PaintAt a H p s q r c n ms ∧ PaintAt a H p2 s2 q2 r2 c2 n2 ms2 ∧
  ((r = r2 ∧ c = c2) → Q .non H) ∧ (¬ (r = r2 ∧ c = c2) → RaZ E a.UnlikeSchemes H)
theorem c_check_alike (T : Txt K mg a) : Can P w K mg base 3 "check_alike" (spAlk a) := by
  refine can_of T.d_check_alike sc_check_alike bd_check_alike (fun vs H Q E h => ?_) (fun f cdv A outer s H vs Q E hr h => ?_)
  · obtain ⟨p, p2, s, q, s2, q2, r, c, n, r2, c2, n2, ms, ms2, rfl, _⟩ := h
    rfl
  · obtain ⟨p, p2, s, q, s2, q2, r, c, n, r2, c2, n2, ms, ms2, rfl, h1, h2, z, y⟩ := h
    refine ⟨_, (pss_one (ps_if (pt_cmpR (neO K (c_Scheme_eq T) hr (by decide) T.n_Scheme) (kfld K (pv 0)) (kfld K (pv 1)) (nomark _)) (pss_one (pr_own0 T.z_UnlikeSchemes (takes_of rfl rfl rfl rfl) (by rfl) (by rfl))) pss_nil)), ?_⟩
    obtain ⟨dx, hp⟩ := h1.ob
    obtain ⟨dx2, hp2⟩ := h2.ob
    obtain ⟨sx, hs⟩ := h1.sch.1
    obtain ⟨sx2, hs2⟩ := h2.sch.1
    refine ⟨_, rfl, p, _, dx, _, _, rfl, hp, T.c_Paint.cl, T.n_scheme, pf_scheme s q, _, rfl, p2, _, dx2, _, _, rfl, hp2, T.c_Paint.cl, T.n_scheme, pf_scheme s2 q2,
      s, _, _, s2, _, _, rfl, hs, rfl, hs2, s, r, c, n, _, rfl, h1.sch, .inr (.inr ⟨s2, r2, c2, n2, rfl, h2.sch, _, rfl, ?_⟩)⟩
    refine ⟨_, rfl, ?_⟩
    by_cases e : r = r2 ∧ c = c2
    · rw [decide_eq_true e.1, decide_eq_true e.2]
      exact iteF (z e)
    · have e1 : (decide (r = r2) && decide (c = c2)) = false := by
        rw [Bool.and_eq_false_iff]
        by_cases k : r = r2
        · exact .inr (decide_eq_false fun q => e ⟨k, q⟩)
        · exact .inl (decide_eq_false k)
      rw [e1]
      exact iteT (y e H (.refl _))
theorem SqLp {K : PySem.W.Frag} {H : Hp} {p q : Addr} {o : HO} {xs : List V} (h : SqL K H q xs) (ne : q ≠ p) : SqL K (upd H p o) q xs := by
  rcases h with h | h
  · rcases h with h | ⟨o, h⟩
    · exact .inl (.inl (by rw [upd_ne ne]; exact h))
    · exact .inl (.inr ⟨o, by rw [upd_ne ne]; exact h⟩)
  · exact .inr h
theorem put_pf (s q : Addr) : putF "maps" (.ref q) (putF "scheme" (.ref s) []) = pf s q := by
  have e1 : ¬ (("scheme" : Str) = "maps") := by decide +kernel
  show (if ("scheme" : Str) = "maps" then _ else _) = _
  rw [if_neg e1]
  rfl
/-- the first wrong row -/
def badRow (r c : Nat) (ms : List (List Nat)) : Option Int := if ms.length ≠ r then some (-1) else (ms.findIdx? fun m => !isDigs c c m).map Int.ofNat
theorem find_at {f : List Nat → Bool} {ms : List (List Nat)} {i : Nat} {m : List Nat} (hb : ∀ k < i, ∀ x, ms[k]? = some x → f x = false) (hm : ms[i]? = some m) (hf : f m = true) : ms.findIdx? f = some i := by
  rw [List.findIdx?_eq_some_iff_getElem]
  obtain ⟨hl, e⟩ := List.getElem?_eq_some_iff.mp hm
  refine ⟨hl, by rw [e]; exact hf, fun j hj => ?_⟩
  rw [hb j hj _ (List.getElem?_eq_getElem (by omega))]
  simp
def spPInit (a : Ad) (K : PySem.W.Frag) : Sp := fun vs H Q E => ∃ (p dx s q0 : Addr) (r c n : Nat) (ms : List (List Nat)), vs = [.ref p, .ref s, .ref q0] ∧ H p = some (.ins a.Paint dx []) ∧ SchemeAt a.Scheme H s r c n ∧ SqL K H q0 (ms.map tx) ∧ ms.length ≤ 1000 ∧ (∀ m ∈ ms, m.length ≤ 1000) ∧ s ≠ p ∧ q0 ≠ p ∧
  (∀ i, badRow r c ms = some i → Ra E a.BadPaint "row" (.int i) H) ∧
  (okM r c ms = true → ∀ G q, (∀ b o, H b = some o → b ≠ p → G b = some o) → H q = none → q ≠ p → G q = some (.lst (ms.map tx)) → G p = some (.ins a.Paint dx (pf s q)) → Q .non G)
theorem c_Paint_init (T : Txt K mg a) : CanN P w K mg base 3 a.Paint "Paint" (spPInit a K) := by
  refine canN_of T.c_Paint T.m_Paint___init__ sc_Paint___init__ bd_Paint___init__ (fun vs H Q E h => ?_) (fun f cdv A outer s H vs Q E hr h => ?_)
  · obtain ⟨p, dx, s, q0, r, c, n, ms, rfl, _⟩ := h
    rfl
  · obtain ⟨p, dx, s, q0, r, c, n, ms, rfl, hp, sch, hq, hl, hml, nsp, nqp, y, z⟩ := h
    refine ⟨_, (pss_cons (ps_if (pt_cmpR op_ne (pe_callB (klen_seq K) (by rfl) T.b_len (by decide +kernel) (pa_cons (pv 2) pa_nil)) (kfld K (pv 1)) (nomark _)) (pss_one (pr_err (c_BadPaint T) (takes_of rfl rfl rfl rfl) (by rfl) hr (by decide) (by rfl) (pe_un un_neg pe_int))) pss_nil)
      (pss_cons (ps_for (passes_of rfl) (by rfl) (pi_enum (by rfl) T.b_enumerate (pa_cons (pv 2) pa_nil)) (pg_tup rfl (pgs_cons (pg_name (i := 3) sc_Paint___init__.nd rfl (.inl rfl)) (pgs_cons (pg_name (i := 4) sc_Paint___init__.nd rfl (.inl rfl)) pgs_nil))) (pss_one (ps_if (PW.pt (pw_or (pt_cmpR op_ne (pe_callB call_len_str (by rfl) T.b_len (by decide +kernel) (pa_cons (pv 4) pa_nil)) (kfld K (pv 1)) (nomark _)) (pw_or1 (pt_not (pt_truth (pe_callB (kall K (by rfl)) (by rfl) T.b_all (by decide +kernel) (pa_cons (pe_lc (own := [("colour", 5)]) (g := gName 5) (tt := tYes) (by rfl) sc_Paint___init__.nd (pi_str (pv 4)) (blkOk_by (N := N_Paint___init__) (sc := defScope s_Paint___init__) (by decide +kernel)) (fun _ _ _ _ _ => (pg_name (i := 5) sc_Paint___init__.nd rfl (.inl rfl))) (fun _ _ _ _ _ => pts_nil) (fun _ _ _ _ _ => (pc_m (c_Scheme_is_colour T) hr (by decide) (pv 1) (pa_cons (pv 5) pa_nil)))) pa_nil)) (by intro _; rfl)))))) (pss_one (pr_err (c_BadPaint T) (takes_of rfl rfl rfl rfl) (by rfl) hr (by decide) (by rfl) (pv 3))) pss_nil)))
      (pss_cons (ps_fld (pv 0) (pv 1) rfl)
      (pss_one (ps_fld (pv 0) (pe_callTy (klist_of K) (by rfl) T.b_list (by decide +kernel) (pa_cons (pv 2) pa_nil)) rfl))))), ?_⟩
    have lenM : (ms.map tx).length = ms.length := List.length_map ..
    have gn := good_n sch.2
    have gc := good_c sch.2
    obtain ⟨sx, hs⟩ := sch.1
    refine ⟨_, rfl, q0, _, rfl, .inl hq, _, rfl, s, _, sx, _, _, rfl, hs, T.c_Scheme.cl, T.n_rows, fl_rows r c n, rfl, _, rfl, ?_⟩
    rw [lenM]
    refine ite2 (fun h1 => ?_) (fun h1 => ?_)
    · refine ⟨_, rfl, (y (-1) ?_).now⟩
      unfold badRow
      rw [if_pos]
      intro q
      rw [q] at h1
      exact absurd h1 (by simp)
    · have hlr : ms.length = r := by
        by_cases q : (ms.length : Int) = (r : Int)
        · omega
        · exact absurd (by simpa using q) h1
      have nb : ∀ {i : Nat} {m : List Nat}, (∀ k < i, ∀ x, ms[k]? = some x → isDigs c c x = true) → ms[i]? = some m → isDigs c c m = false → badRow r c ms = some (i : Int) := by
        intro i m hb hm hf
        unfold badRow
        rw [if_neg (fun q => q hlr), find_at (f := fun m => !isDigs c c m) (i := i) (m := m) (fun k hk x hx => by rw [hb k hk x hx]; rfl) hm (by rw [hf]; rfl)]
        rfl
      refine ⟨_, rfl, q0, _, rfl, hq, for_it walk_enum (fun i σ G => Same H G ∧ (∀ k < i, ∀ x, ms[k]? = some x → isDigs c c x = true) ∧ ∃ u v v2 : Option V, σ = [some (.ref p), some (.ref s), some (.ref q0), u, v, v2]) ⟨.refl _, fun k hk => absurd hk (by omega), none, none, none, rfl⟩ (fun i σ G _ h => SqLm hq h.1) ?_ ?_⟩
      · rintro i x σ G G' hi ⟨s1, hgood, u, v, v2, rfl⟩ ⟨t, x0, y0, rfl, hT, rfl, hx0, hy0⟩
        cases hx0
        rw [lenM] at hi
        have hmi := List.getElem?_eq_getElem hi
        have hy0 : y0 = tx ms[i] := by
          have hy1 : (ms.map tx)[i]? = some y0 := hy0
          rw [List.getElem?_map, hmi] at hy1
          exact (Option.some.inj hy1).symm
        subst hy0
        have s2 := s1.trans (ex_new (o := .tup [.int (i : Nat), tx ms[i]]) hT)
        have li : ms[i].length ≤ 1000 := hml _ (List.getElem_mem _)
        have hwrong : isDigs c c ms[i] = false → Ra E a.BadPaint "row" (.int (i : Nat)) (upd G t (.tup [.int (i : Nat), tx ms[i]])) := fun hb => (y _ (nb hgood hmi hb)).mono s2
        have hnext : isDigs c c ms[i] = true → ∀ k < i + 1, ∀ x, ms[k]? = some x → isDigs c c x = true := by
          intro hb k hk x hx
          by_cases e : k = i
          · subst e
            rw [hmi] at hx
            cases hx
            exact hb
          · exact hgood k (by omega) x hx
        refine ⟨t, _, rfl, seqT_of upd_same, rfl, _, _, rfl, _, _, rfl, rfl, ?_⟩
        refine ⟨_, rfl, _, rfl, szl (by rw [S_len]; omega), _, rfl, s, _, sx, _, _, rfl, s2 _ _ hs, T.c_Scheme.cl, T.n_colours, fl_colours r c n, rfl, _, rfl, ?_⟩
        rw [S_len]
        refine ite2 (fun h2 => ?_) (fun h2 => ?_)
        · refine iteT ⟨_, rfl, (hwrong ?_).now⟩
          unfold isDigs
          rw [Bool.and_eq_false_iff]
          refine .inl (decide_eq_false fun q => ?_)
          rw [q] at h2
          exact absurd h2 (by simp)
        · have h2 : ms[i].length = c := by
            by_cases q : (ms[i].length : Int) = (c : Int)
            · omega
            · exact absurd (by simpa using q) h2
          refine ⟨_, rfl, _, rfl, fun D hD => lc_one walk_str (ms[i].map fun x => V.bl (inDig c x)) (by rw [List.length_map]; exact (S_len _).symm) (by show (S _).length ≤ _; rw [S_len]; omega) hD (fun _ _ => True.intro) ?_ ?_⟩
          · rintro j x M M' v hj s3 ⟨rfl, c', hc, rfl⟩ hv
            have hc := at_S hc
            rw [List.getElem?_map, hc] at hv
            cases hv
            obtain ⟨dx', hp'⟩ := (sch.mono (s2.trans s3)).1
            refine ⟨.refl _, fun Q' q => ⟨_, rfl, s, dx', _, rfl, hp', fl_no _ _ _ (by decide +kernel) (by decide +kernel) (by decide +kernel), _, rfl, s, r, c, n, [c'], rfl, sch.mono (s2.trans s3), by show 1 ≤ 100000; decide, ?_⟩⟩
            rw [isColour_one]
            exact q _ (.refl _)
          · intro M s3 hM
            refine ⟨D, ms[i].map (inDig c), rfl, seqL_of (by rw [List.map_map]; exact hM), ?_⟩
            rw [all_map]
            refine ⟨_, rfl, ?_⟩
            have eb : isDigs c c ms[i] = ms[i].all (inDig c) := by
              unfold isDigs
              rw [decide_eq_true h2, Bool.true_and]
            cases e : ms[i].all (inDig c) with
            | false => exact iteT ⟨_, rfl, ((hwrong (eb.trans e)).mono s3).now⟩
            | true => exact iteF ⟨s2.trans s3, hnext (eb.trans e), _, _, _, rfl⟩
      · rintro σ G ⟨s1, hgood, u, v, v2, rfl⟩
        rw [lenM] at hgood
        have ok : okM r c ms = true := by
          unfold okM
          rw [decide_eq_true hlr, Bool.true_and, List.all_eq_true]
          intro m hm
          obtain ⟨i, hi⟩ := List.mem_iff_getElem?.mp hm
          exact hgood i (List.getElem?_eq_some_iff.mp hi).1 m hi
        refine ⟨_, rfl, _, rfl, p, _, dx, [], rfl, s1 _ _ hp, T.c_Paint.cl, T.n_scheme, by show 0 < 1000; decide, ?_⟩
        have hq2 : SqL K (upd G p (.ins a.Paint dx (putF "scheme" (.ref s) []))) q0 (ms.map tx) := SqLp (SqLm hq s1) nqp
        refine ⟨_, rfl, q0, _, rfl, .inl hq2, fun q hq3 => ⟨_, rfl, p, _, dx, _, rfl, ex_new hq3 _ _ upd_same, T.c_Paint.cl, T.n_maps, by show 1 < 1000; decide, ?_⟩⟩
        have nq : q ≠ p := fun e => by rw [e, upd_same] at hq3; cases hq3
        have hGq : G q = none := by rw [upd_ne nq] at hq3; exact hq3
        refine z ok _ q (fun b o e hb => ?_) (free_same s1 hGq) nq ?_ ?_
        · by_cases e2 : b = q
          · rw [e2, free_same s1 hGq] at e
            cases e
          · rw [upd_ne hb, upd_ne e2, upd_ne hb]
            exact s1 _ _ e
        · rw [upd_ne nq, upd_same]
        · exact upd_same.trans (congrArg (fun l => some (HO.ins a.Paint dx l)) (put_pf s q))
end
end K16
end
section
set_option Elab.async false
set_option linter.all false
set_option maxRecDepth 100000
set_option maxHeartbeats 4000000
namespace K16
open PySem PySem.Spec PyProof.Rows L2 Kit
section
variable {P : Program} {w : World} {K : PySem.W.Frag} {mg : Str → Option Value} {base : Heap} {a : Ad}
theorem badRow_none {r c : Nat} {ms : List (List Nat)} (h : okM r c ms = true) : badRow r c ms = none := by
  unfold badRow
  rw [if_neg (fun q => q (okM_len h))]
  unfold okM at h
  rw [Bool.and_eq_true] at h
  have : (ms.findIdx? fun m => !isDigs c c m) = none := by
    rw [List.findIdx?_eq_none_iff]
    intro m hm
    rw [List.all_eq_true.mp h.2 m hm]
    rfl
  rw [this]
  rfl
theorem badRow_some {r c : Nat} {ms : List (List Nat)} (h : okM r c ms = false) : ∃ i, badRow r c ms = some i := by
  unfold badRow
  by_cases e : ms.length = r
  · rw [if_neg (fun q => q e)]
    unfold okM at h
    rw [decide_eq_true e, Bool.true_and] at h
    cases k : ms.findIdx? fun m => !isDigs c c m with
    | some i => exact ⟨_, rfl⟩
    | none =>
      rw [List.findIdx?_eq_none_iff] at k
      rw [List.all_eq_false] at h
      obtain ⟨m, hm, hf⟩ := h
      have := k m hm
      simp at this
      exact absurd this hf
  · rw [if_pos e]
    exact ⟨_, rfl⟩
def digs (c : Nat) : List Nat := (List.range c).map (48 + ·)
theorem digs_ok (c : Nat) : isDigs c c (digs c) = true := by
  unfold isDigs digs
  rw [Bool.and_eq_true, decide_eq_true_iff, List.length_map, List.length_range, List.all_eq_true]
  refine ⟨rfl, fun x hx => ?_⟩
  obtain ⟨k, hk, rfl⟩ := List.mem_map.mp hx
  have := List.mem_range.mp hk
  unfold inDig
  rw [decide_eq_true_iff]
  omega
def idM (r c : Nat) : List (List Nat) := List.replicate r (digs c)
theorem idM_ok (r c : Nat) : okM r c (idM r c) = true := by
  unfold okM idM
  rw [List.length_replicate, decide_eq_true rfl, Bool.true_and, List.all_eq_true]
  intro m hm
  rw [(List.mem_replicate.mp hm).2]
  exact digs_ok c
theorem rep_flat (r : Nat) (x : V) : (List.replicate r [x]).flatten = List.replicate r x := by
  induction r with
  | zero => rfl
  | succ r ih => rw [List.replicate_succ, List.flatten_cons, ih]; rfl
/-- a paint made -/
theorem made {H : Hp} {y dx s : Addr} {r c n : Nat} (hy : H y = none) (hdx : H dx = none) (hne : dx ≠ y) (sch : SchemeAt a.Scheme H s r c n) : SchemeAt a.Scheme (upd (upd H dx (.own y)) y (.ins a.Paint dx [])) s r c n ∧ s ≠ y ∧ Same H (upd (upd H dx (.own y)) y (.ins a.Paint dx [])) := by
  have s1 : Same H (upd (upd H dx (.own y)) y (.ins a.Paint dx [])) := (ex_new hdx).trans (ex_new (by rw [upd_ne (Ne.symm hne)]; exact hy))
  refine ⟨sch.mono s1, ?_, s1⟩
  obtain ⟨sx, hs⟩ := sch.1
  intro e
  rw [e, hy] at hs
  cases hs
theorem sql_ne {K : PySem.W.Frag} {H : Hp} {y dx q : Addr} {xs : List V} {o o2 : HO} (hy : H y = none) (hdx : H dx = none) (hne : dx ≠ y) (h : H q = some (.lst xs)) : SqL K (upd (upd H dx o) y o2) q xs ∧ q ≠ y := by
  have n1 : q ≠ y := fun e => by rw [e, hy] at h; cases h
  have n2 : q ≠ dx := fun e => by rw [e, hdx] at h; cases h
  exact ⟨seqL_of (by rw [upd_ne n1, upd_ne n2]; exact h), n1⟩
/-- what stands behind Paint(..) -/
theorem after {H G : Hp} {y dx s q : Addr} {r c n : Nat} {ms : List (List Nat)} (hy : H y = none) (hdx : H dx = none) (hne : dx ≠ y) (sch : SchemeAt a.Scheme H s r c n) (ok : okM r c ms = true)
    (g1 : ∀ b o, (upd (upd H dx (.own y)) y (.ins a.Paint dx [])) b = some o → b ≠ y → G b = some o) (g2 : (upd (upd H dx (.own y)) y (.ins a.Paint dx [])) q = none) (g3 : q ≠ y) (g4 : G q = some (.lst (ms.map tx))) (g5 : G y = some (.ins a.Paint dx (pf s q))) :
    Same H G ∧ PaintAt a G y s q r c n ms ∧ H q = none := by
  have sm : Same H G := fun b o e => by
    have n1 : b ≠ y := fun z => by rw [z, hy] at e; cases e
    have n2 : b ≠ dx := fun z => by rw [z, hdx] at e; cases e
    exact g1 b o (by rw [upd_ne n1, upd_ne n2]; exact e) n1
  refine ⟨sm, ⟨⟨dx, g5⟩, sch.mono sm, g4, ok⟩, ?_⟩
  rw [upd_ne g3] at g2
  by_cases e : q = dx
  · rw [e, upd_same] at g2
    cases g2
  · rw [upd_ne e] at g2
    exact g2
def spStill (a : Ad) : Sp := fun vs H Q E => ∃ (s : Addr) (r c n : Nat), vs = [.ref a.Paint, .ref s] ∧ SchemeAt a.Scheme H s r c n ∧ ∀ G p q, Same H G → H p = none → H q = none → PaintAt a G p s q r c n (idM r c) → Q (.ref p) G
theorem c_Paint_still (T : Txt K mg a) : CanC P w K mg base 5 a.Paint "still" (spStill a) := by
  refine canC_of T.m_Paint_still sc_Paint_still bd_Paint_still (fun vs H Q E h => ?_) (fun f cdv A outer s H vs Q E hr h => ?_)
  · obtain ⟨s, r, c, n, rfl, _⟩ := h
    rfl
  · obtain ⟨s, r, c, n, rfl, sch, z⟩ := h
    refine ⟨_, (pss_one (ps_ret (pc_nV (i := 0) (c_Paint_init T) (takes_of rfl rfl rfl rfl) hr (by decide) (by rfl) (.inl rfl) (pa_cons (pv 1) (pa_cons (pe_op op_rep (pe_lst (pa_cons (pe_slice sl_str (C8.pe_gc (by rfl) T.g_DIGITS) po_none (po_some (kfld K (pv 1)))) pa_nil)) (kfld K (pv 1))) pa_nil))))), ?_⟩
    have gn := good_n sch.2
    have gc := good_c sch.2
    obtain ⟨sx, hs⟩ := sch.1
    refine ⟨rfl, _, rfl, _, rfl, s, _, sx, _, _, rfl, hs, T.c_Scheme.cl, T.n_colours, fl_colours r c n, _, rfl, _, rfl, by decide +kernel, by show 1 ≤ sizeLine; decide, fun l1 h1 => ?_⟩
    rw [cut_dig gc]
    have s1 := ex_new (o := .lst [V.str (S ((List.range c).map (48 + ·)))]) h1
    refine ⟨_, rfl, s, _, sx, _, _, rfl, s1 _ _ hs, T.c_Scheme.cl, T.n_rows, fl_rows r c n, l1, (r : Int), _, rfl, rfl, upd_same, by omega, by omega, ?_, fun l2 h2 => ?_⟩
    · show 1 * r ≤ sizeLine
      exact szl (by omega)
    rw [show ((r : Nat) : Int).toNat = r from rfl, rep_flat]
    have e1 : List.replicate r (V.str (S ((List.range c).map (48 + ·)))) = (idM r c).map tx := by
      unfold idM
      rw [List.map_replicate]
      rfl
    rw [e1]
    have s2 := s1.trans (ex_new (o := .lst ((idM r c).map tx)) h2)
    intro y dx hy hdx hne
    have hL : H l2 = none := free_same s1 h2
    obtain ⟨sch2, nsy, s3⟩ := made (a := a) hy hdx hne (sch.mono s2)
    obtain ⟨hq2, nqy⟩ := sql_ne (K := K) (o := .own y) (o2 := .ins a.Paint dx []) hy hdx hne upd_same
    refine ⟨y, dx, s, l2, r, c, n, idM r c, rfl, upd_same, sch2, hq2, ?_, ?_, nsy, nqy, fun i hi => ?_, fun ok G q g1 g2 g3 g4 g5 => ⟨rfl, ?_⟩⟩
    · unfold idM
      rw [List.length_replicate]
      omega
    · intro m hm
      unfold idM at hm
      rw [(List.mem_replicate.mp hm).2, digs_len (digs_ok c)]
      omega
    · rw [badRow_none (idM_ok r c)] at hi
      cases hi
    · obtain ⟨sm, pa, fq⟩ := after hy hdx hne (sch.mono s2) ok g1 g2 g3 g4 g5
      exact z G y q (s2.trans sm) (free_same s2 hy) (free_same s2 fq) pa
def spRead (a : Ad) : Sp := fun vs H Q E => ∃ (s : Addr) (r c n : Nat) (l : List Nat) (ms : List (List Nat)), vs = [.ref a.Paint, .ref s, tx l] ∧ SchemeAt a.Scheme H s r c n ∧ l.length ≤ 500 ∧ Txt.split (S l) (Str.ofString "/") = ms.map S ∧
  (∀ i, badRow r c ms = some i → Ra E a.BadPaint "row" (.int i) H) ∧ (okM r c ms = true → ∀ G p q, Same H G → H p = none → H q = none → PaintAt a G p s q r c n ms → Q (.ref p) G)
theorem c_Paint_read (T : Txt K mg a) : CanC P w K mg base 5 a.Paint "read" (spRead a) := by
  refine canC_of T.m_Paint_read sc_Paint_read bd_Paint_read (fun vs H Q E h => ?_) (fun f cdv A outer s H vs Q E hr h => ?_)
  · obtain ⟨s, r, c, n, l, ms, rfl, _⟩ := h
    rfl
  · obtain ⟨s, r, c, n, l, ms, rfl, sch, hl, hms, yy, z⟩ := h
    refine ⟨_, (pss_one (ps_ret (pc_nV (i := 0) (c_Paint_init T) (takes_of rfl rfl rfl rfl) hr (by decide) (by rfl) (.inl rfl) (pa_cons (pv 1) (pa_cons (pe_split (pv 2) pe_str) pa_nil))))), ?_⟩
    have e1 : (Txt.split (S l) (Str.ofString "/")).map V.str = ms.map tx := by
      rw [hms, List.map_map]
      rfl
    refine ⟨rfl, _, rfl, _, rfl, ⟨S l, rfl⟩, S l, Str.ofString "/", rfl, rfl, by decide +kernel, ?_, fun q0 hq0 => ?_⟩
    · rw [S_len, sizeLine_eq]
      omega
    · rw [e1]
      have s2 := ex_new (o := .lst (ms.map tx)) hq0
      intro y dx hy hdx hne
      obtain ⟨sch2, nsy, s3⟩ := made (a := a) hy hdx hne (sch.mono s2)
      obtain ⟨hq2, nqy⟩ := sql_ne (K := K) (o := .own y) (o2 := .ins a.Paint dx []) hy hdx hne upd_same
      have hlen : ms.length ≤ 502 := by
        have := PyProof.Rows.split_le (S l) (Str.ofString "/")
        rw [hms, List.length_map, S_len] at this
        omega
      refine ⟨y, dx, s, q0, r, c, n, ms, rfl, upd_same, sch2, hq2, by omega, fun m hm => ?_, nsy, nqy, fun i hi => (yy i hi).mono (s2.trans s3), fun ok G q g1 g2 g3 g4 g5 => ⟨rfl, ?_⟩⟩
      · have := PyProof.Rows.part_short (x := S l) (y := Str.ofString "/") (a := S m) (by rw [hms]; exact List.mem_map_of_mem hm)
        rw [S_len, S_len] at this
        omega
      · obtain ⟨sm, pa, fq⟩ := after hy hdx hne (sch.mono s2) ok g1 g2 g3 g4 g5
        exact z ok G y q (s2.trans sm) (free_same s2 hy) (free_same s2 fq) pa
end
end K16
end
section
set_option Elab.async false
set_option linter.all false
set_option maxRecDepth 100000
set_option maxHeartbeats 4000000
namespace K16
open PySem PySem.Spec PyProof.Rows L2 Kit
section
variable {P : Program} {w : World} {K : PySem.W.Frag} {mg : Str → Option Value} {base : Heap} {a : Ad}
/-! ### painting: plain facts -/
/-- a row's digit by its map -/
def digBy (m : List Nat) (x : Nat) : Nat := m.getD (x - 48) 0
/-- the digits of a column, painted row by row -/
def paintD (ms : List (List Nat)) (d : List Nat) : List Nat := List.zipWith digBy ms d
/-- a column painted -/
def paintC (r c : Nat) (ms : List (List Nat)) (x : Nat) : Nat := 97 + num c (paintD ms (dig r c (x - 97)))
def paintS (r c : Nat) (ms : List (List Nat)) (l : List Nat) : List Nat := l.map (paintC r c ms)
theorem digBy_ok {c x : Nat} {m : List Nat} (hm : isDigs c c m = true) (hx : inDig c x = true) : m[x - 48]? = some (digBy m x) ∧ inDig c (digBy m x) = true := by
  unfold inDig at hx
  rw [decide_eq_true_iff] at hx
  have hl := digs_len hm
  have e : m[x - 48]? = some m[x - 48] := List.getElem?_eq_getElem (by omega)
  have e2 : digBy m x = m[x - 48] := by
    unfold digBy
    rw [List.getD_eq_getElem?_getD, e]
    rfl
  rw [e2]
  exact ⟨e, digs_at hm e⟩
theorem paintD_ok {r c : Nat} {ms : List (List Nat)} {d : List Nat} (ok : okM r c ms = true) (hd : isDigs r c d = true) : isDigs r c (paintD ms d) = true := by
  unfold isDigs paintD
  rw [List.length_zipWith, okM_len ok, digs_len hd, Nat.min_self, decide_eq_true rfl, Bool.true_and, List.all_eq_true]
  intro x hx
  obtain ⟨i, hi⟩ := List.mem_iff_getElem?.mp hx
  rw [List.getElem?_zipWith] at hi
  cases h1 : ms[i]? with
  | none => rw [h1] at hi; simp at hi
  | some m =>
    cases h2 : d[i]? with
    | none => rw [h1, h2] at hi; simp at hi
    | some y =>
      rw [h1, h2] at hi
      have e : digBy m y = x := by simpa using hi
      rw [← e]
      exact (digBy_ok (okM_at ok h1) (digs_at hd h2)).2
theorem paintC_in {r c n : Nat} {ms : List (List Nat)} (gd : Good r c n) (ok : okM r c ms = true) (x : Nat) : inCol n (paintC r c ms x) = true := by
  have gc := good_c gd
  have h := num_lt gd (paintD_ok ok (dig_digs (r := r) (c := c) (k := x - 97) (by omega)))
  unfold inCol paintC
  rw [decide_eq_true_iff]
  omega
theorem signs_S (l : List Nat) : Kit.signs (S l) = l.map fun x => tx [x] := rfl
def spPainted (a : Ad) : Sp := fun vs H Q E => ∃ (p s q : Addr) (r c n x : Nat) (ms : List (List Nat)), vs = [.ref p, tx [x]] ∧ PaintAt a H p s q r c n ms ∧ inCol n x = true ∧ ∀ G, Same H G → Q (tx [paintC r c ms x]) G
theorem c_Paint__painted (T : Txt K mg a) : CanM P w K mg base 5 a.Paint "_painted" (spPainted a) := by
  refine canM_of T.c_Paint.cl T.m_Paint__painted sc_Paint__painted bd_Paint__painted (fun vs H Q E h => ?_) (fun f cdv A outer s H vs Q E hr h => ?_)
  · obtain ⟨p, s, q, r, c, n, x, ms, rfl, _⟩ := h
    rfl
  · obtain ⟨p, s, q, r, c, n, x, ms, rfl, pa, hx, z⟩ := h
    refine ⟨_, (pss_cons (ps_set (i := 2) sc_Paint__painted.nd rfl (.inl rfl) (pc_m (c_Scheme_spots T) hr (by decide) (kfld K (pv 0)) (pa_cons (pv 1) pa_nil)))
      (pss_one (ps_ret (pc_m (c_Scheme_column T) hr (by decide) (kfld K (pv 0)) (pa_cons (kjoin K pe_str (pe_lc (own := [("told", 3), ("spot", 4)]) (g := (gTup _ 2 (gCons (gName 3) (gCons (gName 4) gNil)))) (tt := tYes) (by rfl) sc_Paint__painted.nd (pi_zipZ (by rfl) T.b_zip (pa_cons (kfld K (pv 0)) (pa_cons (pv 2) pa_nil))) (blkOk_by (N := N_Paint__painted) (sc := defScope s_Paint__painted) (by decide +kernel)) (fun _ _ _ _ _ => (pg_tup rfl (pgs_cons (pg_name (i := 3) sc_Paint__painted.nd rfl (.inl rfl)) (pgs_cons (pg_name (i := 4) sc_Paint__painted.nd rfl (.inl rfl)) pgs_nil)))) (fun _ _ _ _ _ => pts_nil) (fun _ _ _ _ _ => (pe_ix ix_str (pv 3) (pe_callTy call_int_str (by rfl) T.b_int (by decide +kernel) (pa_cons (pv 4) pa_nil)) (fun _ _ => rfl))))) pa_nil))))), ?_⟩
    obtain ⟨dx, hp⟩ := pa.ob
    obtain ⟨sx, hs⟩ := pa.sch.1
    have gn := good_n pa.sch.2
    have gc := good_c pa.sch.2
    have hic := isCol_mk hx
    have hdd : isDigs r c (dig r c (x - 97)) = true := dig_digs (by omega)
    refine ⟨_, rfl, p, _, dx, _, _, rfl, hp, T.c_Paint.cl, T.n_scheme, pf_scheme s q, s, sx, _, rfl, hs, fl_no _ _ _ (by decide +kernel) (by decide +kernel) (by decide +kernel), _, rfl, s, r, c, n, [x], rfl, pa.sch, by show 1 ≤ 100000; decide, fun _ => ?_, fun h => by rw [hic] at h; cases h⟩
    refine ⟨_, rfl, p, _, dx, _, _, rfl, hp, T.c_Paint.cl, T.n_scheme, pf_scheme s q, s, sx, _, rfl, hs, fl_no _ _ _ (by decide +kernel) (by decide +kernel) (by decide +kernel), ?_⟩
    have ldd := digs_len hdd
    have lms := okM_len pa.ok
    have hpd := paintD_ok pa.ok hdd
    refine ⟨⟨_, rfl⟩, _, rfl, p, _, dx, _, _, rfl, hp, T.c_Paint.cl, T.n_maps, pf_maps s q, _, rfl, .L q, .T (S (dig r c (x - 97))), _, _, rfl, pa.mp, rfl, fun D hD => lc_two (walk_Z (n := r) (by rw [signs_S, List.length_map, List.length_map, lms, ldd, Nat.min_self])) ((paintD ms (dig r c (x - 97))).map fun y => tx [y]) (by rw [List.length_map, digs_len hpd]) (by omega) hD (fun M s1 => ⟨s1 _ _ pa.mp, rfl⟩) (fun _ _ => rfl) ?_ ?_⟩
    · intro k u v M o hk s1 hu hv ho Q' q'
      obtain ⟨m, hm⟩ : ∃ m, ms[k]? = some m := ⟨_, List.getElem?_eq_getElem (by omega)⟩
      obtain ⟨y, hy⟩ : ∃ y, (dig r c (x - 97))[k]? = some y := ⟨_, List.getElem?_eq_getElem (by omega)⟩
      rw [List.getElem?_map, hm] at hu
      rw [signs_S, List.getElem?_map, hy] at hv
      have hz : (paintD ms (dig r c (x - 97)))[k]? = some (digBy m y) := by
        unfold paintD
        rw [List.getElem?_zipWith, hm, hy]
      rw [List.getElem?_map, hz] at ho
      cases hu
      cases hv
      cases ho
      have hmo := okM_at pa.ok hm
      have hyi := digs_at hdd hy
      refine ⟨_, rfl, _, rfl, S [y], _, rfl, int_dig (inDig3 (by omega) hyi), by show 1 ≤ 640; decide, _, _, digBy m y, rfl, rfl, ?_, atI_S (digBy_ok hmo hyi).1, q' _ (.refl _)⟩
      rw [S_len, digs_len hmo]
      exact szl (by omega)
    · intro M s1 hM
      refine ⟨_, _, (paintD ms (dig r c (x - 97))).map fun y => S [y], rfl, rfl, .inl (seqL_of (by rw [List.map_map]; exact hM)), ?_, ?_⟩
      · rw [sum_ones, show Str.ofString "" = S [] from lit_e, S_len, digs_len hpd]
        simp
        omega
      · rw [show Str.ofString "" = S [] from lit_e, join_ones]
        refine ⟨s, r, c, n, _, rfl, pa.sch.mono s1, by rw [digs_len hpd]; omega, fun _ G s2 => z G (s1.trans s2), fun h => by rw [hpd] at h; cases h⟩
end
end K16
end
section
set_option Elab.async false
set_option linter.all false
set_option maxRecDepth 100000
set_option maxHeartbeats 4000000
namespace K16
open PySem PySem.Spec PyProof.Rows L2 Kit
section
variable {P : Program} {w : World} {K : PySem.W.Frag} {mg : Str → Option Value} {base : Heap} {a : Ad}
theorem S_inj {l m : List Nat} (h : S l = S m) : l = m := by
  have e := congrArg (fun y : Str => y.cps.toList) h
  exact e
theorem pd_all : ∀ ls ms : List (List Nat), PyData.eqvAll (ls.map fun l => .str (S l)) (ms.map fun l => .str (S l)) = decide (ls = ms)
  | [], [] => rfl
  | [], _ :: _ => rfl
  | _ :: _, [] => rfl
  | l :: ls, m :: ms => by
    rw [List.map_cons, List.map_cons]
    show (PyData.eqv (.str (S l)) (.str (S m)) && PyData.eqvAll _ _) = _
    rw [pd_all ls ms]
    show ((S l == S m) && _) = _
    by_cases h : l = m
    · subst h
      rw [beq_self_eq_true, Bool.true_and]
      by_cases h2 : ls = ms
      · rw [decide_eq_true h2, decide_eq_true (by rw [h2])]
      · rw [decide_eq_false h2, decide_eq_false (by simpa using h2)]
    · have e : (S l == S m) = false := by
        rw [beq_eq_false_iff_ne]
        exact fun q => h (S_inj q)
      rw [e, Bool.false_and, decide_eq_false (fun q => h (List.cons.inj q).1)]
theorem pd_eq (ls ms : List (List Nat)) : PyData.eqv (pdL ls) (pdL ms) = decide (ls = ms) := pd_all ls ms
def spCallP (a : Ad) : Sp := fun vs H Q E => ∃ (p s q : Addr) (r c n : Nat) (l : List Nat) (ms : List (List Nat)), vs = [.ref p, tx l] ∧ PaintAt a H p s q r c n ms ∧ l.length ≤ 1000 ∧
  (isStrip n l = true → ∀ G, Same H G → Q (tx (paintS r c ms l)) G) ∧ (isStrip n l = false → Ra E a.BadStrip "text" (tx l) H)
theorem keys_nd {n : Nat} (h : n ≤ 9) : ((cols n).map fun x => (Sum.inr (S [x]) : Key)).Nodup := by
  have z : ∀ n ≤ 9, ((cols n).map fun x => (Sum.inr (S [x]) : Key)).Nodup := by decide +kernel
  exact z n h
theorem c_Paint___call__ (T : Txt K mg a) : CanF P w K mg base 7 a.Paint "__call__" (spCallP a) := by
  refine canF_of T.c_Paint.cl T.m_Paint___call__ sc_Paint___call__ bd_Paint___call__ (fun vs H Q E h => ?_) (fun f cdv A outer s H vs Q E hr h => ?_)
  · obtain ⟨p, s, q, r, c, n, l, ms, rfl, _⟩ := h
    rfl
  · obtain ⟨p, s, q, r, c, n, l, ms, rfl, pa, hl, z, y⟩ := h
    refine ⟨_, (pss_cons (ps_expr (pc_mS (c_Scheme_check T) (takes_of rfl rfl rfl rfl) hr (by decide) (kfld K (pv 0)) (pa_cons (pv 1) pa_nil)))
      (pss_cons (ps_set (i := 2) sc_Paint___call__.nd rfl (.inr rfl) (pe_dc (own := [("column", 3)]) (g := gName 3) (tt := tYes) (by rfl) sc_Paint___call__.nd (pi_str (kfld K (kfld K (pv 0)))) (blkOk_by (N := N_Paint___call__) (sc := defScope s_Paint___call__) (by decide +kernel)) (fun _ _ _ _ _ => (pg_name (i := 3) sc_Paint___call__.nd rfl (.inl rfl))) (fun _ _ _ _ _ => pts_nil) (fun _ _ _ _ _ => (pv 3)) (fun _ _ _ _ _ => (pc_m (c_Paint__painted T) hr (by decide) (pv 0) (pa_cons (pv 3) pa_nil)))))
      (pss_one (ps_ret (kjoin K pe_str (pe_lc (own := [("column", 3)]) (g := gName 3) (tt := tYes) (by rfl) sc_Paint___call__.nd (pi_str (pv 1)) (blkOk_by (N := N_Paint___call__) (sc := defScope s_Paint___call__) (by decide +kernel)) (fun _ _ _ _ _ => (pg_name (i := 3) sc_Paint___call__.nd rfl (.inl rfl))) (fun _ _ _ _ _ => pts_nil) (fun _ _ _ _ _ => (pe_dget (units1 hr) (pv 2) (pv 3) (fun _ _ => rfl))))))))), ?_⟩
    obtain ⟨dx, hp⟩ := pa.ob
    obtain ⟨sx, hs⟩ := pa.sch.1
    have gn := good_n pa.sch.2
    have clen : (cols n).length = n := cols_len n
    refine ⟨_, rfl, p, _, dx, _, _, rfl, hp, T.c_Paint.cl, T.n_scheme, pf_scheme s q, s, sx, _, rfl, hs, fl_no _ _ _ (by decide +kernel) (by decide +kernel) (by decide +kernel), _, rfl, s, r, c, n, l, rfl, pa.sch, by omega, fun hst G s1 => ?_, fun h => y h⟩
    refine ⟨_, rfl, p, _, dx, _, _, rfl, s1 _ _ hp, T.c_Paint.cl, T.n_scheme, pf_scheme s q, s, _, sx, _, _, rfl, s1 _ _ hs, T.c_Scheme.cl, T.n_columns, fl_columns r c n, _, rfl, fun D hD => dc_one walk_str ((cols n).map fun x => (Sum.inr (S [x]) : Key)) ((cols n).map fun x => tx [paintC r c ms x]) (by rw [List.length_map]; exact (S_len _).symm) (by rw [List.length_map]; exact (S_len _).symm) (keys_nd gn.1) (by show (S _).length ≤ _; rw [S_len, clen]; omega) hD (fun _ _ => True.intro) ?_ ?_⟩
    · rintro i x M M' k v hi s2 ⟨rfl, c', hc, rfl⟩ hk hv
      have hc := at_S hc
      rw [List.getElem?_map, hc] at hk hv
      cases hk
      cases hv
      have hin : inCol n c' = true := mem_cols.mp (List.mem_of_getElem? hc)
      refine ⟨.refl _, fun Q' q' => ⟨_, rfl, _, rfl, p, dx, _, rfl, s2 _ _ (s1 _ _ hp), pf_no _ _ (by decide +kernel) (by decide +kernel), _, rfl, p, s, q, r, c, n, c', ms, rfl, pa.mono (s1.trans s2), hin, fun G2 s3 => q' _ s3⟩⟩
    · intro M s2 hM
      refine ⟨⟨_, rfl⟩, _, rfl, _, rfl, fun D2 hD2 => lc_one walk_str ((paintS r c ms l).map fun x => tx [x]) (by rw [List.length_map, paintS, List.length_map]; exact (S_len l).symm) (by show (S l).length ≤ _; rw [S_len]; omega) hD2 (fun _ _ => True.intro) ?_ ?_⟩
      · rintro i x N N' v hi s3 ⟨rfl, c', hc, rfl⟩ hv
        have hc := at_S hc
        unfold paintS at hv
        rw [List.getElem?_map, List.getElem?_map, hc] at hv
        cases hv
        have hin : inCol n c' = true := strip_at hst hc
        refine ⟨.refl _, fun Q' q' => ⟨_, rfl, _, rfl, D, _, rfl, ?_, q' _ (.refl _)⟩⟩
        have hin2 := hin
        unfold inCol at hin2
        rw [decide_eq_true_iff] at hin2
        have e1 : (cols n)[c' - 97]? = some c' := by
          unfold cols
          rw [List.getElem?_map, List.getElem?_range (by omega)]
          show some (97 + (c' - 97)) = some c'
          rw [show 97 + (c' - 97) = c' by omega]
        have e2 := zip_get (ks := (cols n).map fun x => (Sum.inr (S [x]) : Key)) (out := (cols n).map fun x => tx [paintC r c ms x]) (by rw [List.length_map, List.length_map]; exact Nat.le_refl _) (keys_nd gn.1) (i := c' - 97) (k := Sum.inr (S [c'])) (v := tx [paintC r c ms c']) (by rw [List.getElem?_map, e1]; rfl) (by rw [List.getElem?_map, e1]; rfl)
        rw [← e2]
        exact DGet.k (k := Sum.inr (S [c'])) (s3 _ _ hM)
      · intro N s3 hN
        refine ⟨_, _, (paintS r c ms l).map fun y => S [y], rfl, rfl, .inl (seqL_of (by rw [List.map_map]; exact hN)), ?_, ?_⟩
        · rw [sum_ones, show Str.ofString "" = S [] from lit_e, S_len]
          simp [paintS]
          omega
        · rw [show Str.ofString "" = S [] from lit_e, join_ones]
          exact z hst N ((s1.trans s2).trans s3)
end
end K16
end
section
set_option Elab.async false
set_option linter.all false
set_option maxRecDepth 100000
set_option maxHeartbeats 4000000
namespace K16
open PySem PySem.Spec PyProof.Rows L2 Kit
section
variable {P : Program} {w : World} {K : PySem.W.Frag} {mg : Str → Option Value} {base : Heap} {a : Ad}
/-- == with another thing: a text, a list, another paint -/
def spEqP (a : Ad) : Sp := fun vs H Q _ => ∃ (p s q : Addr) (r c n : Nat) (ms : List (List Nat)) (y : V), vs = [.ref p, y] ∧ PaintAt a H p s q r c n ms ∧
  ((∃ t, y = .str t ∧ Q (.bl false) H) ∨ (∃ b xs, y = .ref b ∧ H b = some (.lst xs) ∧ Q (.bl false) H) ∨ ∃ p2 s2 q2 r2 c2 n2 ms2, y = .ref p2 ∧ PaintAt a H p2 s2 q2 r2 c2 n2 ms2 ∧ Q (.bl (decide (r = r2) && decide (c = c2) && decide (ms = ms2))) H)
theorem c_Paint_eq (T : Txt K mg a) : CanM P w K mg base 3 a.Paint "__eq__" (spEqP a) := by
  refine canM_of T.c_Paint.cl T.m_Paint___eq__ sc_Paint___eq__ bd_Paint___eq__ (fun vs H Q E h => ?_) (fun f cdv A outer s H vs Q E hr h => ?_)
  · obtain ⟨p, s, q, r, c, n, ms, y, rfl, _⟩ := h
    rfl
  · obtain ⟨p, s, q, r, c, n, ms, y, rfl, pa, z⟩ := h
    refine ⟨_, (pss_one (ps_ret (pe_and (pe_callB (kisi K) (by rfl) T.b_isinstance (by decide +kernel) (pa_cons (pv 1) (pa_cons (pe_glob (v := .ref a.Paint) (by rfl) T.c_Paint.gC rfl) pa_nil))) (pe_and (pe_cmpR (eqO K (c_Scheme_eq T) hr (by decide) T.i_ni T.i_ns) (kfld K (pv 0)) (kfld K (pv 1)) (nomark _)) (pe_one (pe_cmpR (keqP K hr.units) (kfld K (pv 0)) (kfld K (pv 1)) (nomark _))))))), ?_⟩
    obtain ⟨dx, hp⟩ := pa.ob
    obtain ⟨sx, hs⟩ := pa.sch.1
    rcases z with ⟨t, rfl, z⟩ | ⟨b, xs, rfl, hb, z⟩ | ⟨p2, s2, q2, r2, c2, n2, ms2, rfl, pb, z⟩
    · exact ⟨_, rfl, _, _, _, _, false, rfl, .own _, .base (.str t), T.p_str, _, rfl, iteF z⟩
    · exact ⟨_, rfl, _, _, _, _, false, rfl, .own _, .base (.lst hb), T.p_lst, _, rfl, iteF z⟩
    · obtain ⟨dy, hp2⟩ := pb.ob
      obtain ⟨sy, hs2⟩ := pb.sch.1
      refine ⟨_, rfl, _, _, _, _, true, rfl, .own _, .base (.ins hp2 T.c_Paint.cl T.p_ha T.i_hn T.i_ht T.p_hm), T.p_own, _, rfl, iteT ?_⟩
      refine ⟨_, rfl, p, _, dx, _, _, rfl, hp, T.c_Paint.cl, T.n_scheme, pf_scheme s q, _, rfl, p2, _, dy, _, _, rfl, hp2, T.c_Paint.cl, T.n_scheme, pf_scheme s2 q2, s, _, _, rfl, hs, .inr (.inr ⟨s2, _, _, rfl, hs2⟩), s, r, c, n, _, rfl, pa.sch, .inr (.inr ⟨s2, r2, c2, n2, rfl, pb.sch, _, rfl, _, rfl, ?_⟩)⟩
      cases e : (decide (r = r2) && decide (c = c2)) with
      | false =>
        rw [e, Bool.false_and] at z
        exact iteF z
      | true =>
        rw [e, Bool.true_and] at z
        refine iteT ⟨_, rfl, p, _, dx, _, _, rfl, hp, T.c_Paint.cl, T.n_maps, pf_maps s q, _, rfl, p2, _, dy, _, _, rfl, hp2, T.c_Paint.cl, T.n_maps, pf_maps s2 q2, pdL ms, pdL ms2, dp_txt pa.mp, dp_txt pb.mp, plainL _, plainL _, depthL _, ?_⟩
        rw [pd_eq]
        exact z
def slash : Str := Str.ofString "/"
theorem sum_le {f : List Nat → Nat} {B : Nat} : ∀ {ms : List (List Nat)}, (∀ m ∈ ms, f m ≤ B) → (ms.map f).sum ≤ ms.length * B
  | [], _ => Nat.zero_le _
  | m :: ms, h => by
    rw [List.map_cons, List.sum_cons, List.length_cons, Nat.succ_mul]
    have h1 := h m (List.mem_cons_self ..)
    have h2 := sum_le (ms := ms) (f := f) (B := B) fun x hx => h x (List.mem_cons_of_mem _ hx)
    omega
theorem join_fits {ms : List (List Nat)} {B : Nat} (hl : ms.length ≤ 1000) (hm : ∀ m ∈ ms, m.length ≤ B) (hB : B ≤ 1000) : ((ms.map S).map (·.length)).sum + (ms.map S).length * (Str.ofString "/").length ≤ 16777216 := by
  have e : (ms.map S).map (·.length) = ms.map List.length := by
    rw [List.map_map]
    exact List.map_congr_left fun l _ => S_len l
  rw [e, List.length_map, show (Str.ofString "/").length = 1 by decide +kernel]
  have := sum_le (f := List.length) hm
  have h2 : ms.length * B ≤ 1000 * 1000 := Nat.mul_le_mul hl hB
  omega
def spStrP (a : Ad) : Sp := fun vs H Q _ => ∃ (p s q : Addr) (r c n : Nat) (ms : List (List Nat)), vs = [.ref p] ∧ PaintAt a H p s q r c n ms ∧ Q (.str (Txt.join (Str.ofString "/") (ms.map S))) H
theorem c_Paint_str (T : Txt K mg a) : CanM P w K mg base 1 a.Paint "__str__" (spStrP a) := by
  refine canM_of T.c_Paint.cl T.m_Paint___str__ sc_Paint___str__ bd_Paint___str__ (fun vs H Q E h => ?_) (fun f cdv A outer s H vs Q E hr h => ?_)
  · obtain ⟨p, s, q, r, c, n, ms, rfl, _⟩ := h
    rfl
  · obtain ⟨p, s, q, r, c, n, ms, rfl, pa, z⟩ := h
    refine ⟨_, (pss_one (ps_ret (kjoin K pe_str (kfld K (pv 0))))), ?_⟩
    obtain ⟨dx, hp⟩ := pa.ob
    have gn := good_n pa.sch.2
    have gc := good_c pa.sch.2
    refine ⟨⟨_, rfl⟩, _, rfl, p, _, dx, _, _, rfl, hp, T.c_Paint.cl, T.n_maps, pf_maps s q, _, _, ms.map S, rfl, rfl, .inl (seqL_of (by rw [List.map_map]; exact pa.mp)), join_fits (B := 3) (by rw [okM_len pa.ok]; omega) (fun m hm => ?_) (by decide), z⟩
    obtain ⟨i, hi⟩ := List.mem_iff_getElem?.mp hm
    rw [digs_len (okM_at pa.ok hi)]
    omega
/-! ### the product -/
def mulM (ms ms2 : List (List Nat)) : List (List Nat) := List.zipWith (fun m l => m.map (digBy l)) ms ms2
theorem mulM_at {ms ms2 : List (List Nat)} {i : Nat} {m l : List Nat} (h : ms[i]? = some m) (h2 : ms2[i]? = some l) : (mulM ms ms2)[i]? = some (m.map (digBy l)) := by
  unfold mulM
  rw [List.getElem?_zipWith, h, h2]
theorem mapD_ok {c : Nat} {m l : List Nat} (hm : isDigs c c m = true) (hl : isDigs c c l = true) : isDigs c c (m.map (digBy l)) = true := by
  unfold isDigs
  rw [List.length_map, digs_len hm, decide_eq_true rfl, Bool.true_and, List.all_eq_true]
  intro x hx
  obtain ⟨y, hy, rfl⟩ := List.mem_map.mp hx
  obtain ⟨i, hi⟩ := List.mem_iff_getElem?.mp hy
  exact (digBy_ok hl (digs_at hm hi)).2
theorem okM_of {r c : Nat} {ms : List (List Nat)} (hl : ms.length = r) (h : ∀ (i : Nat) (m : List Nat), ms[i]? = some m → isDigs c c m = true) : okM r c ms = true := by
  unfold okM
  rw [decide_eq_true hl, Bool.true_and, List.all_eq_true]
  intro m hm
  obtain ⟨i, hi⟩ := List.mem_iff_getElem?.mp hm
  exact h i m hi
theorem mulM_ok {r c : Nat} {ms ms2 : List (List Nat)} (h : okM r c ms = true) (h2 : okM r c ms2 = true) : okM r c (mulM ms ms2) = true := by
  have l1 := okM_len h
  have l2 := okM_len h2
  have ll : (mulM ms ms2).length = r := by
    unfold mulM
    rw [List.length_zipWith, l1, l2, Nat.min_self]
  refine okM_of ll fun i m hm => ?_
  have hi := (List.getElem?_eq_some_iff.mp hm).1
  obtain ⟨x, hx⟩ : ∃ x, ms[i]? = some x := ⟨_, List.getElem?_eq_getElem (by omega)⟩
  obtain ⟨y, hy⟩ : ∃ y, ms2[i]? = some y := ⟨_, List.getElem?_eq_getElem (by omega)⟩
  rw [mulM_at hx hy] at hm
  cases hm
  exact mapD_ok (okM_at h hx) (okM_at h2 hy)
theorem sml {r c n : Nat} {ms : List (List Nat)} (gd : Good r c n) (h : okM r c ms = true) : ms.length ≤ 1000 ∧ ∀ m ∈ ms, m.length ≤ 1000 := by
  have gn := good_n gd
  have gc := good_c gd
  refine ⟨by rw [okM_len h]; omega, fun m hm => ?_⟩
  obtain ⟨i, hi⟩ := List.mem_iff_getElem?.mp hm
  rw [digs_len (okM_at h hi)]
  omega
/-- Paint(scheme, list) of fitting maps, as a reading -/
theorem mkP {H : Hp} {s q0 : Addr} {r c n : Nat} {ms : List (List Nat)} {Q : VK} {E : XK} (sch : SchemeAt a.Scheme H s r c n) (hq : H q0 = some (.lst (ms.map tx))) (ok : okM r c ms = true)
    (z : ∀ G y q, Same H G → H y = none → H q = none → PaintAt a G y s q r c n ms → Q (.ref y) G) :
    ∀ y dx, H y = none → H dx = none → dx ≠ y → spPInit a K (.ref y :: [.ref s, .ref q0]) (upd (upd H dx (.own y)) y (.ins a.Paint dx [])) (fun v H2 => v = .non ∧ Q (.ref y) H2) E := by
  intro y dx hy hdx hne
  obtain ⟨sch2, nsy, s3⟩ := made (a := a) hy hdx hne sch
  obtain ⟨hq2, nqy⟩ := sql_ne (K := K) (o := .own y) (o2 := .ins a.Paint dx []) hy hdx hne hq
  have sm := sml sch.2 ok
  refine ⟨y, dx, s, q0, r, c, n, ms, rfl, upd_same, sch2, hq2, sm.1, sm.2, nsy, nqy, fun i hi => ?_, fun _ G q g1 g2 g3 g4 g5 => ⟨rfl, ?_⟩⟩
  · rw [badRow_none ok] at hi
    cases hi
  · obtain ⟨sm, pa, fq⟩ := after hy hdx hne sch ok g1 g2 g3 g4 g5
    exact z G y q sm hy fq pa
def spMul (a : Ad) : Sp := fun vs H Q E => ∃ (p p2 s q s2 q2 : Addr) (r c n r2 c2 n2 : Nat) (ms ms2 : List (List Nat)), vs = [.ref p, .ref p2] ∧ PaintAt a H p s q r c n ms ∧ PaintAt a H p2 s2 q2 r2 c2 n2 ms2 ∧
  ((r = r2 ∧ c = c2) → ∀ G y q', Same H G → H y = none → H q' = none → PaintAt a G y s q' r c n (mulM ms ms2) → Q (.ref y) G) ∧ (¬ (r = r2 ∧ c = c2) → RaZ E a.UnlikeSchemes H)
theorem c_Paint_mul (T : Txt K mg a) : CanM P w K mg base 5 a.Paint "__mul__" (spMul a) := by
  refine canM_of T.c_Paint.cl T.m_Paint___mul__ sc_Paint___mul__ bd_Paint___mul__ (fun vs H Q E h => ?_) (fun f cdv A outer s H vs Q E hr h => ?_)
  · obtain ⟨p, p2, s, q, s2, q2, r, c, n, r2, c2, n2, ms, ms2, rfl, _⟩ := h
    rfl
  · obtain ⟨p, p2, s, q, s2, q2, r, c, n, r2, c2, n2, ms, ms2, rfl, pa, pb, z, y⟩ := h
    refine ⟨_, (pss_cons (ps_expr (pc_fS (c_check_alike T) (takes_of rfl rfl rfl rfl) hr (by decide) (by rfl) (pa_cons (pv 0) (pa_cons (pv 1) pa_nil))))
      (pss_cons (ps_setLc (i := 2) (own := [("told", 4), ("later", 5)]) (g := (gTup _ 2 (gCons (gName 4) (gCons (gName 5) gNil)))) (tt := tYes) (by rfl) sc_Paint___mul__.nd rfl rfl (sw_true rfl rfl rfl (by decide +kernel)) (pi_zipZ (by rfl) T.b_zip (pa_cons (kfld K (pv 0)) (pa_cons (kfld K (pv 1)) pa_nil))) (blkOk_by (N := N_Paint___mul__) (sc := defScope s_Paint___mul__) (by decide +kernel)) (fun _ _ _ _ _ => (pg_tup rfl (pgs_cons (pg_name (i := 4) sc_Paint___mul__.nd rfl (.inl rfl)) (pgs_cons (pg_name (i := 5) sc_Paint___mul__.nd rfl (.inr rfl)) pgs_nil)))) (fun _ _ _ _ _ => pts_nil) (fun _ _ _ _ _ => (kjoin K pe_str (pe_lc (own := [("colour", 3)]) (g := gName 3) (tt := tYes) (by rfl) sc_Paint___mul__.nd (pi_str (pv 4)) (blkOk_by (N := N_Paint___mul__) (sc := { kind := .function, names := [(".0", .local), ("told", .local), ("later", .cell)], isGenerator := false, isCoroutine := false, more := [] }) (by decide +kernel)) (fun _ _ _ _ _ => (pg_name (i := 3) sc_Paint___mul__.nd rfl (.inl rfl))) (fun _ _ _ _ _ => pts_nil) (fun _ _ _ _ _ => (pe_ix ix_str (pv 5) (pe_callTy call_int_str (by rfl) T.b_int (by decide +kernel) (pa_cons (pv 3) pa_nil)) (fun _ _ => rfl)))))))
      (pss_one (ps_ret (pc_n (c_Paint_init T) hr (by decide) (by rfl) (pa_cons (kfld K (pv 0)) (pa_cons (pv 2) pa_nil))))))), ?_⟩
    obtain ⟨dx, hp⟩ := pa.ob
    obtain ⟨dy, hp2⟩ := pb.ob
    have gn := good_n pa.sch.2
    have gc := good_c pa.sch.2
    refine ⟨_, rfl, _, rfl, p, p2, s, q, s2, q2, r, c, n, r2, c2, n2, ms, ms2, rfl, pa, pb, fun he => ?_, y⟩
    obtain ⟨rfl, rfl⟩ := he
    have z := z ⟨rfl, rfl⟩
    have l1 := okM_len pa.ok
    have l2 := okM_len pb.ok
    have hok := mulM_ok pa.ok pb.ok
    refine ⟨_, rfl, p, _, dx, _, _, rfl, hp, T.c_Paint.cl, T.n_maps, pf_maps s q, _, rfl, p2, _, dy, _, _, rfl, hp2, T.c_Paint.cl, T.n_maps, pf_maps s2 q2, .L q, .L q2, _, _, rfl, pa.mp, pb.mp, fun D hD => lc_two (walk_Z (n := r) (by rw [List.length_map, List.length_map, l1, l2, Nat.min_self])) ((mulM ms ms2).map tx) (by rw [List.length_map, okM_len hok]) (by omega) hD (fun M s1 => ⟨s1 _ _ pa.mp, s1 _ _ pb.mp⟩) (fun _ _ => rfl) ?_ ?_⟩
    · intro k u v M o hk s1 hu hv ho Q' q'
      obtain ⟨m, hm⟩ : ∃ m, ms[k]? = some m := ⟨_, List.getElem?_eq_getElem (by omega)⟩
      obtain ⟨l, hl⟩ : ∃ l, ms2[k]? = some l := ⟨_, List.getElem?_eq_getElem (by omega)⟩
      rw [List.getElem?_map, hm] at hu
      rw [List.getElem?_map, hl] at hv
      rw [List.getElem?_map, mulM_at hm hl] at ho
      cases hu
      cases hv
      cases ho
      have hmo := okM_at pa.ok hm
      have hlo := okM_at pb.ok hl
      have lm := digs_len hmo
      refine ⟨⟨_, rfl⟩, _, rfl, _, rfl, fun D2 hD2 => lc_one walk_str ((m.map (digBy l)).map fun x => tx [x]) (by rw [List.length_map, List.length_map]; exact (S_len m).symm) (by show (S m).length ≤ _; rw [S_len]; omega) hD2 (fun _ _ => True.intro) ?_ ?_⟩
      · rintro i x N N' w' hi s3 ⟨rfl, c', hc, rfl⟩ hw
        have hc := at_S hc
        rw [List.getElem?_map, List.getElem?_map, hc] at hw
        cases hw
        have hci := digs_at hmo hc
        refine ⟨.refl _, fun Q2 q2' => ⟨_, rfl, _, rfl, S [c'], _, rfl, int_dig (inDig3 (by omega) hci), by show 1 ≤ 640; decide, _, _, digBy l c', rfl, rfl, ?_, atI_S (digBy_ok hlo hci).1, q2' _ (.refl _)⟩⟩
        rw [S_len, digs_len hlo]
        exact szl (by omega)
      · intro N s3 hN
        refine ⟨_, _, (m.map (digBy l)).map fun y => S [y], rfl, rfl, .inl (seqL_of (by rw [List.map_map]; exact hN)), ?_, ?_⟩
        · rw [sum_ones, show Str.ofString "" = S [] from lit_e, S_len]
          simp
          omega
        · rw [show Str.ofString "" = S [] from lit_e, join_ones]
          exact q' N s3
    · intro M s1 hM
      have pa' := pa.mono s1
      obtain ⟨dx', hp'⟩ := pa'.ob
      refine ⟨_, rfl, p, _, dx', _, _, rfl, hp', T.c_Paint.cl, T.n_scheme, pf_scheme s q, _, rfl, mkP pa'.sch hM hok fun G y' q' sm hy hq pc => z G y' q' (s1.trans sm) (free_same s1 hy) (free_same s1 hq) pc⟩
end
end K16

end
section
set_option Elab.async false
set_option linter.all false
set_option maxRecDepth 100000
set_option maxHeartbeats 4000000
namespace K16
open PySem PySem.Spec PyProof.Rows L2 Kit
section
variable {P : Program} {w : World} {K : PySem.W.Frag} {mg : Str → Option Value} {base : Heap} {a : Ad}
/-! ### lists without repetition -/
theorem len_sub : ∀ {l m : List Nat}, l.Nodup → (∀ x ∈ l, x ∈ m) → l.length ≤ m.length
  | [], _, _, _ => Nat.zero_le _
  | x :: l, m, nd, h => by
    obtain ⟨h1, h2⟩ := List.nodup_cons.mp nd
    have hx := h x (List.mem_cons_self ..)
    have := len_sub (l := l) (m := m.erase x) h2 fun y hy => by
      have ne : y ≠ x := fun e => h1 (e ▸ hy)
      exact (List.mem_erase_of_ne ne).mpr (h y (List.mem_cons_of_mem _ hy))
    rw [List.length_erase_of_mem hx] at this
    have hp := List.length_pos_of_mem hx
    rw [List.length_cons]
    omega
theorem dup_of : ∀ {m : List Nat}, ¬ m.Nodup → ∃ x, x ∈ m ∧ x ∈ m.erase x
  | [], h => absurd List.nodup_nil h
  | y :: t, h => by
    by_cases hy : y ∈ t
    · exact ⟨y, List.mem_cons_self .., by rw [List.erase_cons_head]; exact hy⟩
    · have ht : ¬ t.Nodup := fun q => h (List.nodup_cons.mpr ⟨hy, q⟩)
      obtain ⟨x, h1, h2⟩ := dup_of ht
      have ne : ¬ (y == x) = true := by
        rw [beq_iff_eq]
        exact fun e => hy (e ▸ h1)
      refine ⟨x, List.mem_cons_of_mem _ h1, ?_⟩
      rw [List.erase_cons_tail ne]
      exact List.mem_cons_of_mem _ h2
theorem len_nd {l m : List Nat} (nd : l.Nodup) (h : ∀ x, x ∈ l ↔ x ∈ m) : decide (V.int (l.length : Int) = V.int (m.length : Int)) = decide m.Nodup := by
  by_cases hm : m.Nodup
  · have h1 := len_sub nd fun x hx => (h x).mp hx
    have h2 := len_sub hm fun x hx => (h x).mpr hx
    have e : l.length = m.length := by omega
    rw [e, decide_eq_true rfl, decide_eq_true hm]
  · obtain ⟨x, h1, h2⟩ := dup_of hm
    have h3 := len_sub (l := l) (m := m.erase x) nd fun y hy => by
      by_cases e : y = x
      · rw [e]
        exact h2
      · exact (List.mem_erase_of_ne e).mpr ((h y).mp hy)
    rw [List.length_erase_of_mem h1] at h3
    have hp := List.length_pos_of_mem h1
    rw [decide_eq_false hm, decide_eq_false]
    intro q
    have := V.int.inj q
    omega
theorem asc_eq : ∀ {l m : List Nat}, l.Pairwise (· < ·) → m.Pairwise (· < ·) → (∀ x, x ∈ l ↔ x ∈ m) → l = m
  | [], [], _, _, _ => rfl
  | [], y :: m, _, _, h => absurd ((h y).mpr (List.mem_cons_self ..)) (by simp)
  | x :: l, [], _, _, h => absurd ((h x).mp (List.mem_cons_self ..)) (by simp)
  | x :: l, y :: m, hl, hm, h => by
    obtain ⟨l1, l2⟩ := List.pairwise_cons.mp hl
    obtain ⟨m1, m2⟩ := List.pairwise_cons.mp hm
    have e : x = y := by
      rcases List.mem_cons.mp ((h x).mp (List.mem_cons_self ..)) with q | q
      · exact q
      · rcases List.mem_cons.mp ((h y).mpr (List.mem_cons_self ..)) with k | k
        · exact k.symm
        · have := m1 x q
          have := l1 y k
          omega
    subst e
    rw [asc_eq l2 m2 fun z => ?_]
    constructor
    · intro hz
      rcases List.mem_cons.mp ((h z).mp (List.mem_cons_of_mem _ hz)) with q | q
      · have := l1 z hz
        omega
      · exact q
    · intro hz
      rcases List.mem_cons.mp ((h z).mpr (List.mem_cons_of_mem _ hz)) with q | q
      · have := m1 z hz
        omega
      · exact q
theorem lt1 (x y : Nat) : ltCps (S [x]).cps.toList (S [y]).cps.toList = decide (x < y) := by
  show (decide (x < y) || (x == y && ltCps [] [])) = _
  rw [show ltCps [] [] = false from rfl, Bool.and_false, Bool.or_false]
theorem rising_pw : ∀ {zs : List Nat} {x : Nat}, risingS (S [x]) (zs.map fun x => S [x]) = true → (x :: zs).Pairwise (· ≤ ·)
  | [], x, _ => List.pairwise_singleton _ _
  | z :: zs, x, h => by
    have h' : (!ltCps (S [z]).cps.toList (S [x]).cps.toList && risingS (S [z]) (zs.map fun x => S [x])) = true := h
    rw [lt1, Bool.and_eq_true] at h'
    have ih := rising_pw h'.2
    have hx : x ≤ z := by
      have := h'.1
      simp at this
      exact this
    obtain ⟨i1, i2⟩ := List.pairwise_cons.mp ih
    refine List.pairwise_cons.mpr ⟨fun y hy => ?_, ih⟩
    rcases List.mem_cons.mp hy with e | e
    · rw [e]
      exact hx
    · have := i1 y e
      omega
theorem sorted_digs {c : Nat} {m : List Nat} {ys : List Str} (hm : isDigs c c m = true) (nd : m.Nodup) (hp : ys.Perm (m.map fun x => S [x])) (hs : sortedS ys = true) : ys = (digs c).map fun x => S [x] := by
  obtain ⟨zs, rfl⟩ : ∃ zs : List Nat, ys = zs.map fun x => S [x] := by
    refine ⟨ys.map fun y => y.cps.toList.headD 0, ?_⟩
    rw [List.map_map]
    refine (List.map_congr_left fun y hy => ?_).trans (List.map_id _) |>.symm
    obtain ⟨x, hx, rfl⟩ := List.mem_map.mp (hp.mem_iff.mp hy)
    rfl
  have inj : ∀ x y : Nat, S [x] = S [y] → x = y := fun x y e => (List.cons.inj (S_inj e)).1
  have mem : ∀ x, x ∈ zs ↔ x ∈ m := fun x => by
    have := hp.mem_iff (a := S [x])
    constructor
    · intro h
      obtain ⟨y, hy, e⟩ := List.mem_map.mp (this.mp (List.mem_map_of_mem h))
      exact inj _ _ e ▸ hy
    · intro h
      obtain ⟨y, hy, e⟩ := List.mem_map.mp (this.mpr (List.mem_map_of_mem h))
      exact inj _ _ e ▸ hy
  have hl : zs.length = m.length := by
    have := hp.length_eq
    rwa [List.length_map, List.length_map] at this
  have ndz : zs.Nodup := by
    by_cases h : zs.Nodup
    · exact h
    · exfalso
      have e := len_nd nd fun x => (mem x).symm
      rw [decide_eq_false h, hl] at e
      rw [decide_eq_true rfl] at e
      cases e
  have pw : zs.Pairwise (· ≤ ·) := by
    cases zs with
    | nil => exact List.Pairwise.nil
    | cons z zs => exact rising_pw hs
  have pw2 : zs.Pairwise (· < ·) := (pw.and ndz).imp fun h => Nat.lt_of_le_of_ne h.1 h.2
  have hd : (digs c).Pairwise (· < ·) := by
    unfold digs
    rw [List.pairwise_map]
    exact List.pairwise_lt_range.imp fun h => by omega
  have ndd : (digs c).Nodup := hd.imp fun h => Nat.ne_of_lt h
  rw [asc_eq pw2 hd fun x => ?_]
  rw [mem x]
  have sub : ∀ x ∈ m, x ∈ digs c := fun x hx => by
    obtain ⟨i, hi⟩ := List.mem_iff_getElem?.mp hx
    have := digs_at hm hi
    unfold inDig at this
    rw [decide_eq_true_iff] at this
    unfold digs
    exact List.mem_map.mpr ⟨x - 48, List.mem_range.mpr (by omega), by omega⟩
  refine ⟨sub x, fun hx => ?_⟩
  by_cases k : x ∈ m
  · exact k
  · exfalso
    have := len_sub (l := x :: m) (m := digs c) (List.nodup_cons.mpr ⟨k, nd⟩) fun y hy => by
      rcases List.mem_cons.mp hy with e | e
      · rw [e]
        exact hx
      · exact sub y e
    have hdl : (digs c).length = c := digs_len (digs_ok c)
    rw [List.length_cons, digs_len hm, hdl] at this
    omega
end
end K16

end
section
set_option Elab.async false
set_option linter.all false
set_option maxRecDepth 100000
set_option maxHeartbeats 4000000
namespace K16
open PySem PySem.Spec PyProof.Rows L2 Kit
section
variable {P : Program} {w : World} {K : PySem.W.Frag} {mg : Str → Option Value} {base : Heap} {a : Ad}
/-! ### the way back -/
def backM (c : Nat) (m : List Nat) : List Nat := (digs c).map fun d => 48 + m.idxOf d
theorem digs_mem {c x : Nat} : x ∈ digs c ↔ inDig c x = true := by
  unfold digs inDig
  rw [decide_eq_true_iff, List.mem_map]
  constructor
  · rintro ⟨k, hk, rfl⟩
    have := List.mem_range.mp hk
    omega
  · intro h
    exact ⟨x - 48, List.mem_range.mpr (by omega), by omega⟩
theorem digs_len' (c : Nat) : (digs c).length = c := digs_len (digs_ok c)
theorem nd_full {c : Nat} {m : List Nat} (hm : isDigs c c m = true) (nd : m.Nodup) {x : Nat} (hx : inDig c x = true) : x ∈ m := by
  by_cases k : x ∈ m
  · exact k
  · exfalso
    have sub : ∀ x ∈ m, x ∈ digs c := fun x hx => by
      obtain ⟨i, hi⟩ := List.mem_iff_getElem?.mp hx
      exact digs_mem.mpr (digs_at hm hi)
    have := len_sub (l := x :: m) (m := digs c) (List.nodup_cons.mpr ⟨k, nd⟩) fun y hy => by
      rcases List.mem_cons.mp hy with e | e
      · rw [e]
        exact digs_mem.mpr hx
      · exact sub y e
    rw [List.length_cons, digs_len hm, digs_len'] at this
    omega
theorem idx_lt {c : Nat} {m : List Nat} (hm : isDigs c c m = true) (nd : m.Nodup) {x : Nat} (hx : inDig c x = true) : m.idxOf x < c ∧ m[m.idxOf x]? = some x := by
  have h := nd_full hm nd hx
  have h1 := List.idxOf_lt_length_of_mem h
  refine ⟨by rw [← digs_len hm]; exact h1, ?_⟩
  rw [List.getElem?_eq_getElem h1, List.getElem_idxOf]
theorem backM_ok {c : Nat} {m : List Nat} (hm : isDigs c c m = true) (nd : m.Nodup) : isDigs c c (backM c m) = true := by
  unfold isDigs backM
  rw [List.length_map, digs_len', decide_eq_true rfl, Bool.true_and, List.all_eq_true]
  intro y hy
  obtain ⟨d, hd, rfl⟩ := List.mem_map.mp hy
  have := (idx_lt hm nd (digs_mem.mp hd)).1
  unfold inDig
  rw [decide_eq_true_iff]
  omega
theorem keysM_nd {m : List Nat} (nd : m.Nodup) : (m.map fun x => (Sum.inr (S [x]) : Key)).Nodup := by
  unfold List.Nodup
  rw [List.pairwise_map]
  exact nd.imp fun h e => h (List.cons.inj (S_inj (Sum.inr.inj e))).1
def spBack (K : PySem.W.Frag) : Sp := fun vs H Q _ => ∃ (c : Nat) (m : List Nat), vs = [tx m] ∧ (c = 2 ∨ c = 3) ∧ isDigs c c m = true ∧ m.Nodup ∧ ∀ G, Same H G → Q (tx (backM c m)) G
theorem c_map_back (T : Txt K mg a) : Can P w K mg base 1 "_map_back" (spBack K) := by
  refine can_of T.d_map_back sc_map_back bd_map_back (fun vs H Q E h => ?_) (fun f cdv A outer s H vs Q E hr h => ?_)
  · obtain ⟨c, m, rfl, _⟩ := h
    rfl
  · obtain ⟨c, m, rfl, hc, hm, nd, z⟩ := h
    refine ⟨_, (pss_cons (ps_set (i := 1) sc_map_back.nd rfl (.inr rfl) (pe_dc (own := [("colour", 2), ("source", 3)]) (g := (gTup _ 2 (gCons (gName 2) (gCons (gName 3) gNil)))) (tt := tYes) (by rfl) sc_map_back.nd (pi_zipZ (by rfl) T.b_zip (pa_cons (pv 0) (pa_cons (C8.pe_gc (by rfl) T.g_DIGITS) pa_nil))) (blkOk_by (N := N_map_back) (sc := defScope s_map_back) (by decide +kernel)) (fun _ _ _ _ _ => (pg_tup rfl (pgs_cons (pg_name (i := 2) sc_map_back.nd rfl (.inl rfl)) (pgs_cons (pg_name (i := 3) sc_map_back.nd rfl (.inl rfl)) pgs_nil)))) (fun _ _ _ _ _ => pts_nil) (fun _ _ _ _ _ => (pv 2)) (fun _ _ _ _ _ => (pv 3))))
      (pss_one (ps_ret (kjoin K pe_str (pe_lc (own := [("colour", 2)]) (g := gName 2) (tt := tYes) (by rfl) sc_map_back.nd (kpi_list K (pe_callB (sortT (by rfl)) (by rfl) T.b_sorted (by decide +kernel) (pa_cons (pv 0) pa_nil))) (blkOk_by (N := N_map_back) (sc := defScope s_map_back) (by decide +kernel)) (fun _ _ _ _ _ => (pg_name (i := 2) sc_map_back.nd rfl (.inl rfl))) (fun _ _ _ _ _ => pts_nil) (fun _ _ _ _ _ => (pe_dget (units1 hr) (pv 1) (pv 2) (fun _ _ => rfl)))))))), ?_⟩
    have lm := digs_len hm
    have lms : (m.map fun x => tx [x]).length = c := by rw [List.length_map, lm]
    have lit : Kit.signs (Str.ofString "012") = [48, 49, 50].map fun x => tx [x] := by
      rw [lit_dig]
      rfl
    refine ⟨_, rfl, .T (S m), .T (Str.ofString "012"), _, _, rfl, rfl, rfl, fun D hD => dc_two (walk_Z (n := c) (by rw [signs_S, lit, lms]; show c = min c 3; omega)) (m.map fun x => (Sum.inr (S [x]) : Key)) ((digs c).map fun x => tx [x]) (by rw [List.length_map, lm]) (by rw [List.length_map, digs_len']) (keysM_nd nd) (by omega) hD (fun M s1 => ⟨rfl, rfl⟩) (fun _ _ => rfl) ?_ ?_⟩
    · intro l u v M k o hl s1 hu hv hk ho Q' q'
      obtain ⟨x, hx⟩ : ∃ x, m[l]? = some x := ⟨_, List.getElem?_eq_getElem (by omega)⟩
      rw [signs_S, List.getElem?_map, hx] at hu
      rw [List.getElem?_map, hx] at hk
      cases hu
      cases hk
      have hd : (digs c)[l]? = some (48 + l) := by
        unfold digs
        rw [List.getElem?_map, List.getElem?_range hl]
        rfl
      have h3 : ([48, 49, 50] : List Nat)[l]? = some (48 + l) := by
        have z3 : ∀ l < 3, ([48, 49, 50] : List Nat)[l]? = some (48 + l) := by decide
        exact z3 l (by omega)
      rw [lit, List.getElem?_map, h3] at hv
      rw [List.getElem?_map, hd] at ho
      cases hv
      cases ho
      exact ⟨_, rfl, _, rfl, q' _ (.refl _)⟩
    · intro M s1 hM
      refine ⟨⟨_, rfl⟩, _, rfl, m, rfl, by omega, fun ys b hperm hsort hb => ?_⟩
      have ey := sorted_digs hm nd hperm hsort
      subst ey
      have s2 := ex_new (o := .lst (((digs c).map fun x => S [x]).map V.str)) hb
      refine ⟨b, rfl, ⟨_, seqL_of upd_same⟩, fun D2 hD2 => lc_one (walk_list (xs := ((digs c).map fun x => S [x]).map V.str)) ((backM c m).map fun x => tx [x]) (by simp [backM]) (by simp [digs_len']; omega) hD2 (fun N s3 => seqL_of (s3 _ _ upd_same)) ?_ ?_⟩
      · rintro i x N N' v hi s3 ⟨rfl, hx⟩ hv
        rw [List.length_map, List.length_map, digs_len'] at hi
        have hd : (digs c)[i]? = some (48 + i) := by
          unfold digs
          rw [List.getElem?_map, List.getElem?_range hi]
          rfl
        rw [List.getElem?_map, List.getElem?_map, hd] at hx
        unfold backM at hv
        rw [List.getElem?_map, List.getElem?_map, hd] at hv
        cases hx
        cases hv
        have hin : inDig c (48 + i) = true := by
          unfold inDig
          rw [decide_eq_true_iff]
          omega
        obtain ⟨j1, j2⟩ := idx_lt hm nd hin
        refine ⟨.refl _, fun Q' q' => ⟨_, rfl, _, rfl, D, _, rfl, ?_, q' _ (.refl _)⟩⟩
        have hd2 : (digs c)[m.idxOf (48 + i)]? = some (48 + m.idxOf (48 + i)) := by
          unfold digs
          rw [List.getElem?_map, List.getElem?_range j1]
          rfl
        have e2 := zip_get (ks := m.map fun x => (Sum.inr (S [x]) : Key)) (out := (digs c).map fun x => tx [x]) (by rw [List.length_map, List.length_map, lm, digs_len']; exact Nat.le_refl _) (keysM_nd nd) (i := m.idxOf (48 + i)) (k := Sum.inr (S [48 + i])) (v := tx [48 + m.idxOf (48 + i)]) (by rw [List.getElem?_map, j2]; rfl) (by rw [List.getElem?_map, hd2]; rfl)
        rw [← e2]
        exact DGet.k (k := Sum.inr (S [48 + i])) (s3 _ _ (s2 _ _ hM))
      · intro N s3 hN
        refine ⟨_, _, (backM c m).map fun y => S [y], rfl, rfl, .inl (seqL_of (by rw [List.map_map]; exact hN)), ?_, ?_⟩
        · rw [sum_ones, show Str.ofString "" = S [] from lit_e, S_len]
          simp [backM, digs_len']
          omega
        · rw [show Str.ofString "" = S [] from lit_e, join_ones]
          exact z N ((s1.trans s2).trans s3)
end
end K16

end
section
set_option Elab.async false
set_option linter.all false
set_option maxRecDepth 100000
set_option maxHeartbeats 4000000
namespace K16
open PySem PySem.Spec PyProof.Rows L2 Kit
section
variable {P : Program} {w : World} {K : PySem.W.Frag} {mg : Str → Option Value} {base : Heap} {a : Ad}
def allNd (ms : List (List Nat)) : Bool := ms.all fun m => decide m.Nodup
theorem backs_ok {r c : Nat} {ms : List (List Nat)} (ok : okM r c ms = true) (h : allNd ms = true) : okM r c (ms.map (backM c)) = true := by
  refine okM_of (by rw [List.length_map, okM_len ok]) fun i m hm => ?_
  rw [List.getElem?_map] at hm
  cases e : ms[i]? with
  | none => rw [e] at hm; cases hm
  | some x =>
    rw [e] at hm
    cases hm
    exact backM_ok (okM_at ok e) (by simpa using List.all_eq_true.mp h x (List.mem_of_getElem? e))
def spUndo (a : Ad) : Sp := fun vs H Q _ => ∃ (p s q : Addr) (r c n : Nat) (ms : List (List Nat)), vs = [.ref p] ∧ PaintAt a H p s q r c n ms ∧ (allNd ms = false → ∀ G, Same H G → Q .non G) ∧
  (allNd ms = true → ∀ G y q', Same H G → H y = none → H q' = none → PaintAt a G y s q' r c n (ms.map (backM c)) → Q (.ref y) G)
theorem c_Paint_undoing (T : Txt K mg a) : CanM P w K mg base 5 a.Paint "undoing" (spUndo a) := by
  refine canM_of T.c_Paint.cl T.m_Paint_undoing sc_Paint_undoing bd_Paint_undoing (fun vs H Q E h => ?_) (fun f cdv A outer s H vs Q E hr h => ?_)
  · obtain ⟨p, s, q, r, c, n, ms, rfl, _⟩ := h
    rfl
  · obtain ⟨p, s, q, r, c, n, ms, rfl, pa, zn, z⟩ := h
    refine ⟨_, (pss_cons (ps_if (pt_not (pt_truth (pe_callB (kall K (by rfl)) (by rfl) T.b_all (by decide +kernel) (pa_cons (pe_lc (own := [("told", 1)]) (g := gName 1) (tt := tYes) (by rfl) sc_Paint_undoing.nd (kpi_list K (kfld K (pv 0))) (blkOk_by (N := N_Paint_undoing) (sc := defScope s_Paint_undoing) (by decide +kernel)) (fun _ _ _ _ _ => (pg_name (i := 1) sc_Paint_undoing.nd rfl (.inl rfl))) (fun _ _ _ _ _ => pts_nil) (fun _ _ _ _ _ => (pe_cmpR op_eq (pe_lenSetT (by rfl) (by rfl) T.b_len (by rfl) T.b_set (pv 1)) (pe_callB call_len_str (by rfl) T.b_len (by decide +kernel) (pa_cons (pv 1) pa_nil)) (nomark _)))) pa_nil)) (by intro _; rfl))) (pss_one (ps_ret pe_non)) pss_nil)
      (pss_one (ps_ret (pc_n (c_Paint_init T) hr (by decide) (by rfl) (pa_cons (kfld K (pv 0)) (pa_cons (pe_lc (own := [("told", 1)]) (g := gName 1) (tt := tYes) (by rfl) sc_Paint_undoing.nd (kpi_list K (kfld K (pv 0))) (blkOk_by (N := N_Paint_undoing) (sc := defScope s_Paint_undoing) (by decide +kernel)) (fun _ _ _ _ _ => (pg_name (i := 1) sc_Paint_undoing.nd rfl (.inl rfl))) (fun _ _ _ _ _ => pts_nil) (fun _ _ _ _ _ => (pc_f (c_map_back T) hr (by decide) (by rfl) (pa_cons (pv 1) pa_nil)))) pa_nil)))))), ?_⟩
    obtain ⟨dx, hp⟩ := pa.ob
    have gn := good_n pa.sch.2
    have gc := good_c pa.sch.2
    have lm := okM_len pa.ok
    have wlk : ∀ (k : Nat) (x : V), (ms.map tx)[k]? = some x → ∃ m, ms[k]? = some m ∧ x = tx m ∧ isDigs c c m = true := fun k x h => by
      rw [List.getElem?_map] at h
      cases e : ms[k]? with
      | none => rw [e] at h; cases h
      | some m =>
        rw [e] at h
        cases h
        exact ⟨m, rfl, rfl, okM_at pa.ok e⟩
    refine ⟨_, rfl, p, _, dx, _, _, rfl, hp, T.c_Paint.cl, T.n_maps, pf_maps s q, q, rfl, ⟨_, seqL_of pa.mp⟩, fun D hD => lc_one (walk_list (xs := ms.map tx)) (ms.map fun m => V.bl (decide m.Nodup)) (by simp) (by rw [List.length_map]; omega) hD (fun M s1 => seqL_of (s1 _ _ pa.mp)) ?_ ?_⟩
    · rintro k x M M' v hk s1 ⟨rfl, hx⟩ hv
      obtain ⟨m, em, rfl, hmo⟩ := wlk k x hx
      rw [List.getElem?_map, em] at hv
      cases hv
      have lmm := digs_len hmo
      refine ⟨.refl _, fun Q' q' => ⟨_, rfl, m, rfl, by omega, fun acc h1 h2 => ⟨_, rfl, _, rfl, szl (by rw [S_len]; omega), ?_⟩⟩⟩
      rw [S_len]
      refine ⟨rfl, ?_⟩
      rw [len_nd h1 h2]
      exact q' _ (.refl _)
    · intro M s1 hM
      refine ⟨D, ms.map fun m => decide m.Nodup, rfl, seqL_of (by rw [List.map_map]; exact hM), ?_⟩
      have e0 : (ms.map fun m => decide m.Nodup).all id = allNd ms := by
        unfold allNd
        rw [List.all_map]
        rfl
      rw [e0]
      refine ⟨_, rfl, ?_⟩
      cases e : allNd ms with
      | false => exact iteT (zn e _ s1)
      | true =>
        have pa1 := pa.mono s1
        obtain ⟨dx1, hp1⟩ := pa1.ob
        refine iteF ⟨_, rfl, p, _, dx1, _, _, rfl, hp1, T.c_Paint.cl, T.n_scheme, pf_scheme s q, _, rfl, p, _, dx1, _, _, rfl, hp1, T.c_Paint.cl, T.n_maps, pf_maps s q, q, rfl, ⟨_, seqL_of pa1.mp⟩, fun D2 hD2 => lc_one (walk_list (xs := ms.map tx)) ((ms.map (backM c)).map tx) (by simp) (by rw [List.length_map]; omega) hD2 (fun N s2 => seqL_of (s2 _ _ pa1.mp)) ?_ ?_⟩
        · rintro k x N N' v hk s2 ⟨rfl, hx⟩ hv
          obtain ⟨m, em, rfl, hmo⟩ := wlk k x hx
          rw [List.getElem?_map, List.getElem?_map, em] at hv
          cases hv
          refine ⟨.refl _, fun Q' q' => ⟨_, rfl, c, m, rfl, gc, hmo, by simpa using List.all_eq_true.mp e m (List.mem_of_getElem? em), fun G s3 => q' G s3⟩⟩
        · intro N s2 hN
          exact mkP (pa1.sch.mono s2) hN (backs_ok pa.ok e) fun G y q' sm hy hq pc => z e G y q' ((s1.trans s2).trans sm) (free_same (s1.trans s2) hy) (free_same (s1.trans s2) hq) pc
end
end K16

end
section
set_option Elab.async false
set_option linter.all false
set_option maxRecDepth 100000
set_option maxHeartbeats 4000000
namespace K16
open PySem PySem.Spec PyProof.Rows L2 Kit
section
variable {P : Program} {w : World} {K : PySem.W.Frag} {mg : Str → Option Value} {base : Heap} {a : Ad}
theorem find_let {n x : Nat} (hn : n ≤ 9) (h : inCol n x = true) : Txt.find (Str.ofString "abcdefghi") (S [x]) = ((x - 97 : Nat) : Int) := by
  unfold inCol at h
  rw [decide_eq_true_iff] at h
  have z : ∀ k < 9, Txt.find (Str.ofString "abcdefghi") (S [97 + k]) = ((k : Nat) : Int) := by decide +kernel
  have y := z (x - 97) (by omega)
  rw [show 97 + (x - 97) = x by omega] at y
  exact y
theorem let_at {k : Nat} (h : k < 9) : atI (Str.ofString "abcdefghi").cps.toList ((k : Nat) : Int) = some (97 + k) := by
  rw [lit_let]
  exact cols_at h
def spLSpots : Sp := fun vs H Q _ => ∃ (r c n x : Nat), vs = [.int r, .int c, tx [x]] ∧ Good r c n ∧ inCol n x = true ∧ Q (tx (dig r c (x - 97))) H
theorem c_law_spots (T : Txt K mg a) : Can P w K mg base 1 "_law_spots" spLSpots := by
  refine can_of T.d_law_spots sc_law_spots bd_law_spots (fun vs H Q E h => ?_) (fun f cdv A outer s H vs Q E hr h => ?_)
  · obtain ⟨r, c, n, x, rfl, _⟩ := h
    rfl
  · obtain ⟨r, c, n, x, rfl, gd, hx, z⟩ := h
    refine ⟨_, (pss_cons (ps_set (i := 3) sc_law_spots.nd rfl (.inl rfl) (pe_m1 PySem.F.slot_str_find PySem.F.type_str_find mt_find pe_str (pv 2)))
      (pss_cons (ps_set (i := 4) sc_law_spots.nd rfl (.inl rfl) pe_str)
      (pss_cons (ps_for (passes_of rfl) (by rfl) (pi_range1 (by rfl) T.b_range (pa_cons (pv 0) pa_nil)) (pg_name (i := 5) sc_law_spots.nd rfl (.inl rfl)) (pss_cons (ps_set (i := 4) sc_law_spots.nd rfl (.inl rfl) (pe_op op_add_str (pe_ix ix_str pe_str (pe_op op_modN (pe_callTy call_int1 (by rfl) T.b_int (by decide +kernel) (pa_cons (pv 3) pa_nil)) (pv 1)) (fun _ _ => rfl)) (pv 4)))
      (pss_one (ps_set (i := 3) sc_law_spots.nd rfl (.inl rfl) (pe_op op_fdivN (pe_callTy call_int1 (by rfl) T.b_int (by decide +kernel) (pa_cons (pv 3) pa_nil)) (pv 1))))))
      (pss_one (ps_ret (pv 4)))))), ?_⟩
    have gn := good_n gd
    have gc := good_c gd
    refine ⟨⟨_, rfl⟩, _, rfl, _, _, rfl, rfl, ?_⟩
    have e9 := find_let gn.1 hx
    dsimp only
    rw [e9]
    refine ⟨_, rfl, r, rfl, by omega, by omega, for_it (walk_range (lo := 0) (n := ((r : Nat) : Int).toNat)) (fun i σ G => G = H ∧ ∃ v : Option V, σ = [some (.int r), some (.int c), some (tx [x]), some (.int (((x - 97) / c ^ i : Nat) : Int)), some (tx (dig i c (x - 97))), v]) ⟨rfl, none, ?_⟩ (fun _ _ _ _ _ => True.intro) ?_ ?_⟩
    · show [_, _, _, some (V.int ((x - 97 : Nat) : Int)), some (V.str (Str.ofString "")), none] = [_, _, _, some (V.int (((x - 97) / c ^ 0 : Nat) : Int)), some (tx []), _]
      rw [Nat.pow_zero, Nat.div_one, lit_e]
    · rintro i u σ G G' hi ⟨rfl, v, rfl⟩ ⟨rfl, rfl⟩
      have hi : i < r := hi
      have hm : (x - 97) / c ^ i % c < 3 := by
        have := Nat.mod_lt ((x - 97) / c ^ i) (show 0 < c by omega)
        omega
      refine ⟨_, rfl, .inl ⟨_, rfl, _, rfl, _, _, rfl, rfl, by omega, _, _, 48 + (x - 97) / c ^ i % c, rfl, rfl, by decide +kernel, by rw [fm]; exact lit_at hm, _, rfl, S [48 + (x - 97) / c ^ i % c], _, rfl, rfl, ?_, ?_⟩⟩
      · rw [S_len, S_len, dig_len]
        exact szl (by show 1 + i ≤ 100000; omega)
      · refine ⟨_, rfl, .inl ⟨_, rfl, _, rfl, _, _, rfl, rfl, ⟨by omega, by omega⟩, rfl, some (.int (0 + (i : Nat))), ?_⟩⟩
        show [some (V.int (r : Int)), some (V.int (c : Int)), some (tx [x]), some (V.int (Int.fdiv (((x - 97) / c ^ i : Nat) : Int) (c : Int))), some (V.str (S [48 + (x - 97) / c ^ i % c] ++ S (dig i c (x - 97)))), _] = _
        rw [fd, S_app, Nat.div_div_eq_div_mul, ← Nat.pow_succ]
        rfl
    · rintro σ G ⟨rfl, v, rfl⟩
      exact ⟨_, rfl, z⟩
end
end K16

end
section
set_option Elab.async false
set_option linter.all false
set_option maxRecDepth 100000
set_option maxHeartbeats 4000000
namespace K16
open PySem PySem.Spec PyProof.Rows L2 Kit
section
variable {P : Program} {w : World} {K : PySem.W.Frag} {mg : Str → Option Value} {base : Heap} {a : Ad}
def spLPaint : Sp := fun vs H Q _ => ∃ (r c n : Nat) (q : Addr) (l : List Nat) (ms : List (List Nat)), vs = [.int r, .int c, .ref q, tx l] ∧ Good r c n ∧ H q = some (.lst (ms.map tx)) ∧ okM r c ms = true ∧ isStrip n l = true ∧ l.length ≤ 1000 ∧ Q (tx (paintS r c ms l)) H
theorem c_law_painted (T : Txt K mg a) : Can P w K mg base 3 "_law_painted" spLPaint := by
  refine can_of T.d_law_painted sc_law_painted bd_law_painted (fun vs H Q E h => ?_) (fun f cdv A outer s H vs Q E hr h => ?_)
  · obtain ⟨r, c, n, q, l, ms, rfl, _⟩ := h
    rfl
  · obtain ⟨r, c, n, q, l, ms, rfl, gd, hq, ok, hst, hl, z⟩ := h
    refine ⟨_, (pss_cons (ps_set (i := 4) sc_law_painted.nd rfl (.inl rfl) pe_str)
      (pss_cons (ps_for (passes_of rfl) (by rfl) (pi_str (pv 3)) (pg_name (i := 5) sc_law_painted.nd rfl (.inl rfl)) (pss_cons (ps_set (i := 6) sc_law_painted.nd rfl (.inl rfl) (pc_f (c_law_spots T) hr (by decide) (by rfl) (pa_cons (pv 0) (pa_cons (pv 1) (pa_cons (pv 5) pa_nil)))))
      (pss_cons (ps_set (i := 7) sc_law_painted.nd rfl (.inl rfl) pe_int)
      (pss_cons (ps_for (passes_of rfl) (by rfl) (pi_range1 (by rfl) T.b_range (pa_cons (pv 0) pa_nil)) (pg_name (i := 8) sc_law_painted.nd rfl (.inl rfl)) (pss_one (ps_set (i := 7) sc_law_painted.nd rfl (.inl rfl) (pe_op op_add (pe_op op_mul (pv 7) (pv 1)) (pe_callTy call_int_str (by rfl) T.b_int (by decide +kernel) (pa_cons (pe_ix ix_str (pe_ix (kix_list K) (pv 2) (pv 8) (fun _ _ => rfl)) (pe_callTy call_int_str (by rfl) T.b_int (by decide +kernel) (pa_cons (pe_ix ix_str (pv 6) (pv 8) (fun _ _ => rfl)) pa_nil)) (fun _ _ => rfl)) pa_nil))))))
      (pss_one (ps_set (i := 4) sc_law_painted.nd rfl (.inl rfl) (pe_op op_add_str (pv 4) (pe_ix ix_str pe_str (pv 7) (fun _ _ => rfl)))))))))
      (pss_one (ps_ret (pv 4))))), ?_⟩
    have gn := good_n gd
    have gc := good_c gd
    have lm := okM_len ok
    refine ⟨_, rfl, _, rfl, for_it walk_str (fun i σ G => G = H ∧ ∃ u v w' x' : Option V, σ = [some (.int r), some (.int c), some (.ref q), some (tx l), some (tx (paintS r c ms (l.take i))), u, v, w', x']) ⟨rfl, none, none, none, none, rfl⟩ (fun _ _ _ _ _ => True.intro) ?_ ?_⟩
    · rintro i u σ G G' hi ⟨rfl, v1, v2, v3, v4, rfl⟩ ⟨rfl, x, hx, rfl⟩
      have hx := at_S hx
      have hin := strip_at hst hx
      have hdd : isDigs r c (dig r c (x - 97)) = true := dig_digs (by omega)
      have ldd := digs_len hdd
      have hpd := paintD_ok ok hdd
      refine ⟨_, rfl, _, rfl, _, rfl, r, c, n, x, rfl, gd, hin, ?_⟩
      refine ⟨_, rfl, r, rfl, by omega, by omega, for_it (walk_range (lo := 0) (n := ((r : Nat) : Int).toNat)) (fun j σ M => M = G' ∧ ∃ v : Option V, σ = [some (.int r), some (.int c), some (.ref q), some (tx l), some (tx (paintS r c ms (l.take i))), some (tx [x]), some (tx (dig r c (x - 97))), some (.int ((num c ((paintD ms (dig r c (x - 97))).take j) : Nat) : Int)), v]) ⟨rfl, _, rfl⟩ (fun _ _ _ _ _ => True.intro) ?_ ?_⟩
      · rintro j u σ M M' hj ⟨rfl, v, rfl⟩ ⟨rfl, rfl⟩
        have hj : j < r := hj
        obtain ⟨m, hm⟩ : ∃ m, ms[j]? = some m := ⟨_, List.getElem?_eq_getElem (by omega)⟩
        obtain ⟨y, hy⟩ : ∃ y, (dig r c (x - 97))[j]? = some y := ⟨_, List.getElem?_eq_getElem (by omega)⟩
        have hmo := okM_at ok hm
        have hyi := digs_at hdd hy
        have hz : (paintD ms (dig r c (x - 97)))[j]? = some (digBy m y) := by
          unfold paintD
          rw [List.getElem?_zipWith, hm, hy]
        obtain ⟨b1, b2⟩ := digBy_ok hmo hyi
        have ej : (0 : Int) + ((j : Nat) : Int) = ((j : Nat) : Int) := by omega
        refine ⟨_, rfl, _, rfl, _, _, rfl, rfl, .inr ⟨by omega, by omega⟩, _, rfl, _, rfl, q, _, j, _, rfl, congrArg V.int ej, seqL_of hq, atI_nat (v := tx m) (by rw [List.getElem?_map, hm]; rfl), _, rfl, _, rfl, _, _, y, rfl, rfl, ?_, ?_, S [y], _, rfl, int_dig (inDig3 (by omega) hyi), by show 1 ≤ 640; decide, _, _, digBy m y, rfl, rfl, ?_, atI_S b1, S [digBy m y], _, rfl, int_dig (inDig3 (by omega) b2), by show 1 ≤ 640; decide, _, _, rfl, rfl, rfl, some (.int (0 + (j : Nat))), ?_⟩
        · rw [S_len, ldd]
          exact szl (by omega)
        · rw [ej]
          exact atI_S hy
        · rw [S_len, digs_len hmo]
          exact szl (by omega)
        · rw [num_take hz]
          show [_, _, _, _, _, _, _, some (V.int (((num c ((paintD ms (dig r c (x - 97))).take j) : Nat) : Int) * (c : Int) + ((digBy m y - 48 : Nat) : Int))), _] = _
          rw [Int.natCast_add, Int.natCast_mul]
      · rintro σ M ⟨rfl, v, rfl⟩
        have e0 : (paintD ms (dig r c (x - 97))).take ((r : Nat) : Int).toNat = paintD ms (dig r c (x - 97)) := List.take_of_length_le (by rw [digs_len hpd]; exact Nat.le_refl _)
        rw [e0]
        have hlt := num_lt gd hpd
        refine ⟨_, rfl, _, rfl, _, _, 97 + num c (paintD ms (dig r c (x - 97))), rfl, rfl, by decide +kernel, let_at (by omega), _, _, rfl, rfl, ?_, rfl, some (tx [x]), some (tx (dig r c (x - 97))), some (.int ((num c (paintD ms (dig r c (x - 97))) : Nat) : Int)), v, ?_⟩
        · rw [S_len, paintS, List.length_map, List.length_take]
          show min i l.length + 1 ≤ sizeLine
          exact szl (by omega)
        · have e1 : paintS r c ms (l.take (i + 1)) = paintS r c ms (l.take i) ++ [97 + num c (paintD ms (dig r c (x - 97)))] := by
            unfold paintS
            rw [List.take_add_one, hx, List.map_append]
            rfl
          rw [e1]
          show [_, _, _, _, some (V.str (S (paintS r c ms (l.take i)) ++ S [97 + num c (paintD ms (dig r c (x - 97)))])), _, _, _, _] = _
          rw [S_app]
    · rintro σ G ⟨rfl, v1, v2, v3, v4, rfl⟩
      rw [show (S l).cps.size = l.length from S_len l, List.take_of_length_le (Nat.le_refl _)]
      exact ⟨_, rfl, z⟩
end
end K16

end
section
set_option Elab.async false
set_option linter.all false
set_option maxRecDepth 100000
set_option maxHeartbeats 4000000
namespace K16
open PySem PySem.Spec PyProof.Rows L2 Kit
section
variable {P : Program} {w : World} {K : PySem.W.Frag} {mg : Str → Option Value} {base : Heap} {a : Ad}
theorem itP {c : Prop} [Decidable c] {A B : Prop} (h : c) (x : A) : if c then A else B := by
  rw [if_pos h]
  exact x
theorem itN {c : Prop} [Decidable c] {A B : Prop} (h : ¬ c) (x : B) : if c then A else B := by
  rw [if_neg h]
  exact x
theorem Bu.put {n : Nat} {p D : Addr} {H G : Hp} {o : HO} (h : Bu n p H G) (hD : H D = none) (ne : D ≠ p) : Bu n p H (upd G D o) := by
  obtain ⟨x, y, z, hp, r⟩ := h.2
  refine ⟨fun b u e hb => ?_, x, y, z, by rw [upd_ne (Ne.symm ne)]; exact hp, r⟩
  have nb : b ≠ D := fun q => by rw [q, hD] at e; cases e
  rw [upd_ne nb]
  exact h.1 b u e hb
theorem box_ne {n : Nat} {p D : Addr} {H : Hp} (h : BoxAt n H p) (hD : H D = none) : D ≠ p := by
  obtain ⟨x, y, z, hp, _⟩ := h
  intro e
  rw [e, hp] at hD
  cases hD
theorem fmod_nat {i : Int} {n : Nat} (hn : 0 < n) : ∃ j : Nat, j < n ∧ i.fmod (n : Int) = (j : Int) := by
  have h0 := Int.fmod_nonneg_of_pos i (show (0 : Int) < n by omega)
  have h1 := Int.fmod_lt_of_pos i (show (0 : Int) < n by omega)
  exact ⟨(i.fmod n).toNat, by omega, by omega⟩
def spLStrip : Sp := fun vs H Q _ => ∃ (p : Addr) (n m k : Nat), vs = [.ref p, .int n, .int m] ∧ BoxAt (k + 40) H p ∧ 2 ≤ n ∧ n ≤ 9 ∧ m ≤ 40 ∧ ∀ G l, Bu k p H G → l.length = m → isStrip n l = true → Q (tx l) G
theorem c_law_strip (T : Txt K mg a) : Can P w K mg base 3 "_law_strip" spLStrip := by
  refine can_of T.d_law_strip sc_law_strip bd_law_strip (fun vs H Q E h => ?_) (fun f cdv A outer s H vs Q E hr h => ?_)
  · obtain ⟨p, n, m, k, rfl, _⟩ := h
    rfl
  · obtain ⟨p, n, m, k, rfl, hb, hn2, hn9, hm, z⟩ := h
    refine ⟨_, (pss_one (ps_ret (kjoin K pe_str (pe_lc (own := [("k", 3)]) (g := gName 3) (tt := tYes) (by rfl) sc_law_strip.nd (pi_range1 (by rfl) T.b_range (pa_cons (pv 2) pa_nil)) (blkOk_by (N := N_law_strip) (sc := defScope s_law_strip) (by decide +kernel)) (fun _ _ _ _ _ => (pg_name (i := 3) sc_law_strip.nd rfl (.inl rfl))) (fun _ _ _ _ _ => pts_nil) (fun _ _ _ _ _ => (pe_ix ix_str pe_str (pe_op op_modN (pe_callTy call_int1 (by rfl) T.b_int (by decide +kernel) (pa_cons (pe_op op_add (pv 3) (pc_f (c_law_take T) hr (by decide) (by rfl) (pa_cons (pv 0) (pa_cons (pv 1) pa_nil)))) pa_nil)) (pv 1)) (fun _ _ => rfl))))))), ?_⟩
    refine ⟨⟨_, rfl⟩, _, rfl, m, rfl, by omega, by omega, fun D hD => ?_⟩
    have nD := box_ne hb hD
    refine lc_it (walk_range (lo := 0) (n := ((m : Nat) : Int).toNat)) (fun i G => ∃ l : List Nat, l.length = i ∧ isStrip n l = true ∧ G D = some (.lst (l.map fun x => tx [x])) ∧ Bu (k + (40 - i)) p H G) ⟨[], rfl, rfl, upd_same, (Bu.refl hb).put hD nD⟩ (fun _ _ _ _ => True.intro) ?_ ?_
    · rintro i x G G' hi ⟨l, hl, hst, hGD, bu⟩ ⟨rfl, rfl⟩
      have hi : i < m := hi
      refine ⟨rfl, ?_⟩
      unfold tYes
      dsimp only
      rw [if_pos rfl]
      refine ⟨_, rfl, _, rfl, _, rfl, p, _, k + (40 - (i + 1)), rfl, bu.2.le (by omega), by omega, by omega, fun d G2 d0 d1 bu2 => ?_⟩
      obtain ⟨j, hj, ej⟩ := fmod_nat (i := 0 + (i : Int) + d) (n := n) (by omega)
      refine ⟨_, _, rfl, rfl, .inl ⟨_, rfl, _, rfl, _, _, rfl, rfl, by omega, _, _, 97 + j, rfl, rfl, by decide +kernel, by rw [ej]; exact let_at (by omega), ?_⟩⟩
      have hGD2 := bu2.1 D _ hGD nD
      refine ⟨_, hGD2, by rw [List.length_map]; exact szlt (by omega), l ++ [97 + j], by rw [List.length_append, hl]; rfl, ?_, ?_, (bu.trans bu2).put hD nD⟩
      · unfold isStrip
        rw [List.all_append]
        show (isStrip n l && ([97 + j].all (inCol n))) = true
        rw [hst, Bool.true_and, List.all_cons, List.all_nil, Bool.and_true]
        unfold inCol
        rw [decide_eq_true_iff]
        omega
      · rw [upd_same, List.map_append]
        rfl
    · rintro G ⟨l, hl, hst, hGD, bu⟩
      have hl : l.length = m := hl
      refine ⟨_, _, l.map fun y => S [y], rfl, rfl, .inl (seqL_of (by rw [List.map_map]; exact hGD)), ?_, ?_⟩
      · rw [sum_ones, show Str.ofString "" = S [] from lit_e, S_len]
        simp
        omega
      · rw [show Str.ofString "" = S [] from lit_e, join_ones]
        exact z G l (bu.le (by omega)) hl hst
theorem lit2 {d : Int} (h0 : 0 ≤ d) (h1 : d < 2) : ∃ m, atI [V.str (Str.ofString "10"), .str (Str.ofString "01")] d = some (tx m) ∧ isDigs 2 2 m = true := by
  rcases (show d = 0 ∨ d = 1 by omega) with rfl | rfl
  · exact ⟨[49, 48], congrArg (fun z => some (V.str z)) (by decide +kernel), by decide⟩
  · exact ⟨[48, 49], congrArg (fun z => some (V.str z)) (by decide +kernel), by decide⟩
theorem lit6 {d : Int} (h0 : 0 ≤ d) (h1 : d < 6) : ∃ m, atI [V.str (Str.ofString "120"), .str (Str.ofString "012"), .str (Str.ofString "021"), .str (Str.ofString "102"), .str (Str.ofString "201"), .str (Str.ofString "210")] d = some (tx m) ∧ isDigs 3 3 m = true := by
  rcases (show d = 0 ∨ d = 1 ∨ d = 2 ∨ d = 3 ∨ d = 4 ∨ d = 5 by omega) with rfl | rfl | rfl | rfl | rfl | rfl
  · exact ⟨[49, 50, 48], congrArg (fun z => some (V.str z)) (by decide +kernel), by decide⟩
  · exact ⟨[48, 49, 50], congrArg (fun z => some (V.str z)) (by decide +kernel), by decide⟩
  · exact ⟨[48, 50, 49], congrArg (fun z => some (V.str z)) (by decide +kernel), by decide⟩
  · exact ⟨[49, 48, 50], congrArg (fun z => some (V.str z)) (by decide +kernel), by decide⟩
  · exact ⟨[50, 48, 49], congrArg (fun z => some (V.str z)) (by decide +kernel), by decide⟩
  · exact ⟨[50, 49, 48], congrArg (fun z => some (V.str z)) (by decide +kernel), by decide⟩
def spLMaps : Sp := fun vs H Q _ => ∃ (p : Addr) (r c n k : Nat), vs = [.ref p, .int r, .int c] ∧ BoxAt (k + 40) H p ∧ Good r c n ∧ ∀ G q ms, Bu k p H G → H q = none → G q = some (.lst (ms.map tx)) → okM r c ms = true → Q (.ref q) G
theorem c_law_maps (T : Txt K mg a) : Can P w K mg base 3 "_law_maps" spLMaps := by
  refine can_of T.d_law_maps sc_law_maps bd_law_maps (fun vs H Q E h => ?_) (fun f cdv A outer s H vs Q E hr h => ?_)
  · obtain ⟨p, r, c, n, k, rfl, _⟩ := h
    rfl
  · obtain ⟨p, r, c, n, k, rfl, hb, gd, z⟩ := h
    refine ⟨_, (pss_cons (ps_set (i := 3) sc_law_maps.nd rfl (.inl rfl) (pe_lst pa_nil))
      (pss_cons (ps_for (passes_of rfl) (by rfl) (pi_range1 (by rfl) T.b_range (pa_cons (pv 1) pa_nil)) (pg_name (i := 4) sc_law_maps.nd rfl (.inl rfl)) (pss_cons (ps_set (i := 5) sc_law_maps.nd rfl (.inl rfl) (pc_f (c_law_take T) hr (by decide) (by rfl) (pa_cons (pv 0) (pa_cons pe_int pa_nil))))
      (C8.pss_cut (ps_if (PW.pt (pw_and (pt_cmpR op_eq (pv 5) pe_int (nomark _)) (pw_and1 (pt_cmpR op_eq (pv 2) pe_int (nomark _))))) (pss_one (ps_set (i := 6) sc_law_maps.nd rfl (.inl rfl) (pe_ix (kix_list K) (pe_lst (pa_cons pe_str (pa_cons pe_str pa_nil))) (pc_f (c_law_take T) hr (by decide) (by rfl) (pa_cons (pv 0) (pa_cons pe_int pa_nil))) (fun _ _ => rfl)))) (pss_one (ps_if (pt_cmpR op_eq (pv 5) pe_int (nomark _)) (pss_one (ps_set (i := 6) sc_law_maps.nd rfl (.inl rfl) (pe_ix (kix_list K) (pe_lst (pa_cons pe_str (pa_cons pe_str (pa_cons pe_str (pa_cons pe_str (pa_cons pe_str (pa_cons pe_str pa_nil))))))) (pc_f (c_law_take T) hr (by decide) (by rfl) (pa_cons (pv 0) (pa_cons pe_int pa_nil))) (fun _ _ => rfl)))) (pss_one (ps_set (i := 6) sc_law_maps.nd rfl (.inl rfl) (kjoin K pe_str (pe_lc (own := [("k", 7)]) (g := gName 7) (tt := tYes) (by rfl) sc_law_maps.nd (pi_range1 (by rfl) T.b_range (pa_cons (pv 2) pa_nil)) (blkOk_by (N := N_law_maps) (sc := defScope s_law_maps) (by decide +kernel)) (fun _ _ _ _ _ => (pg_name (i := 7) sc_law_maps.nd rfl (.inl rfl))) (fun _ _ _ _ _ => pts_nil) (fun _ _ _ _ _ => (pe_ix ix_str pe_str (pe_op op_modN (pe_callTy call_int1 (by rfl) T.b_int (by decide +kernel) (pa_cons (pe_op op_add (pe_op op_add (pv 7) pe_int) (pc_f (c_law_take T) hr (by decide) (by rfl) (pa_cons (pv 0) (pa_cons (pv 2) pa_nil)))) pa_nil)) (pv 2)) (fun _ _ => rfl))))))))))
      (pss_one (ps_expr (pe_bm PySem.F.plainAttrs_list PySem.F.slot_list_append PySem.F.type_list_append mt_append (pv 3) (pa_cons (pv 6) pa_nil)))))))
      (pss_one (ps_ret (pv 3))))), ?_⟩
    have gn := good_n gd
    have gc := good_c gd
    refine ⟨by show 0 ≤ sizeLine; exact Nat.zero_le _, fun q hq => ?_⟩
    have nq := box_ne hb hq
    refine ⟨_, rfl, r, rfl, by omega, by omega, for_it (walk_range (lo := 0) (n := ((r : Nat) : Int).toNat)) (fun i σ G => ∃ (ms : List (List Nat)) (u v w' : Option V), ms.length = i ∧ ms.all (isDigs c c) = true ∧ G q = some (.lst (ms.map tx)) ∧ Bu (k + (40 - 4 * i)) p H G ∧ σ = [some (.ref p), some (.int r), some (.int c), some (.ref q), u, v, w', none]) ⟨[], none, none, none, rfl, rfl, upd_same, (Bu.refl hb).put hq nq, rfl⟩ (fun _ _ _ _ _ => True.intro) ?_ ?_⟩
    · rintro i x σ G G' hi ⟨ms, u, v, w', hl, hall, hGq, bu, rfl⟩ ⟨rfl, rfl⟩
      have hi : i < r := hi
      refine ⟨_, rfl, p, 2, k + (40 - 4 * i - 1), rfl, bu.2.le (by omega), by decide, by decide, fun d G2 d0 d1 b2 => ?_⟩
      have q2 := b2.1 q _ hGq nq
      have bu2 := bu.trans b2
      refine ⟨fun σ G3 => ∃ m, isDigs c c m = true ∧ G3 q = some (.lst (ms.map tx)) ∧ Bu (k + (40 - 4 * (i + 1))) p H G3 ∧ ∃ v' : Option V, σ = [some (.ref p), some (.int r), some (.int c), some (.ref q), some (.int (0 + (i : Nat))), v', some (tx m), none], ?_, ?_⟩
      · have perm : ∀ (t : Addr) (xs : List V) (M : Hp), G2 t = none → Bu (k + (40 - 4 * (i + 1))) p (upd G2 t (.lst xs)) M → M t = some (.lst xs) ∧ M q = some (.lst (ms.map tx)) ∧ Bu (k + (40 - 4 * (i + 1))) p H M := fun t xs M ht b3 => by
          have nt := box_ne bu2.2 ht
          have nqt : q ≠ t := fun e => by rw [← e, q2] at ht; cases ht
          exact ⟨b3.1 t _ upd_same nt, b3.1 q _ (by rw [upd_ne nqt]; exact q2) nq, bu2.trans (same_bu (ex_new ht) b3)⟩
        refine ⟨_, rfl, rfl, _, rfl, ?_⟩
        refine ite2 (fun h1 => ?_) (fun h1 => ?_)
        · refine ⟨_, rfl, rfl, _, rfl, ?_⟩
          refine ite2 (fun h2 => ?_) (fun h2 => ?_)
          · have hc2 : c = 2 := by
              have := V.int.inj (of_decide_eq_true h2)
              omega
            refine ⟨by show 2 ≤ sizeLine; decide, fun t ht => ⟨_, rfl, p, 2, k + (40 - 4 * (i + 1)), rfl, (bu2.2.mono (ex_new ht)).le (by omega), by decide, by decide, fun d2 G3 e0 e1 b3 => ?_⟩⟩
            obtain ⟨m, em, om⟩ := lit2 e0 e1
            obtain ⟨p1, p2, p3⟩ := perm t _ G3 ht b3
            exact ⟨t, _, d2, _, rfl, rfl, seqL_of p1, em, m, by rw [hc2]; exact om, p2, p3, _, rfl⟩
          · have hc3 : c = 3 := by
              rcases gc with e | e
              · exact absurd (decide_eq_true (by rw [e]; rfl)) h2
              · exact e
            refine ⟨_, rfl, rfl, _, rfl, itP h1 ?_⟩
            refine ⟨by show 6 ≤ sizeLine; decide, fun t ht => ⟨_, rfl, p, 6, k + (40 - 4 * (i + 1)), rfl, (bu2.2.mono (ex_new ht)).le (by omega), by decide, by decide, fun d2 G3 e0 e1 b3 => ?_⟩⟩
            obtain ⟨m, em, om⟩ := lit6 e0 e1
            obtain ⟨p1, p2, p3⟩ := perm t _ G3 ht b3
            exact ⟨t, _, d2, _, rfl, rfl, seqL_of p1, em, m, by rw [hc3]; exact om, p2, p3, _, rfl⟩
        · refine ⟨_, rfl, rfl, _, rfl, itN h1 ?_⟩
          refine ⟨⟨_, rfl⟩, _, rfl, c, rfl, by omega, by omega, fun D hD => ?_⟩
          have nD := box_ne bu2.2 hD
          have nDq : q ≠ D := fun e => by rw [← e, q2] at hD; cases hD
          have hDH : H D = none := by
            cases e : H D with
            | none => rfl
            | some o =>
              have := bu2.1 D o e nD
              rw [hD] at this
              cases this
          refine lc_it (walk_range (lo := 0) (n := ((c : Nat) : Int).toNat)) (fun j G => ∃ l : List Nat, l.length = j ∧ l.all (inDig c) = true ∧ G D = some (.lst (l.map fun x => tx [x])) ∧ G q = some (.lst (ms.map tx)) ∧ Bu (k + (40 - 4 * i - 1 - j)) p H G) ⟨[], rfl, rfl, upd_same, by rw [upd_ne nDq]; exact q2, bu2.put hDH nD⟩ (fun _ _ _ _ => True.intro) ?_ ?_
          · rintro j x G4 G5 hj ⟨l, hl2, hst, hGD, hGq4, bu4⟩ ⟨rfl, rfl⟩
            have hj : j < c := hj
            refine ⟨rfl, ?_⟩
            unfold tYes
            dsimp only
            rw [if_pos rfl]
            refine ⟨_, rfl, _, _, rfl, rfl, _, rfl, _, rfl, p, _, k + (40 - 4 * i - 1 - (j + 1)), rfl, bu4.2.le (by omega), by omega, by omega, fun d2 G6 e0 e1 b6 => ?_⟩
            obtain ⟨t, ht, et⟩ := fmod_nat (i := 0 + (j : Int) + 1 + d2) (n := c) (by omega)
            refine ⟨_, _, rfl, rfl, .inl ⟨_, rfl, _, rfl, _, _, rfl, rfl, by omega, _, _, 48 + t, rfl, rfl, by decide +kernel, by rw [et]; exact lit_at (by omega), ?_⟩⟩
            have hGD2 := b6.1 D _ hGD nD
            refine ⟨_, hGD2, by rw [List.length_map]; exact szlt (by omega), l ++ [48 + t], by rw [List.length_append, hl2]; rfl, ?_, ?_, ?_, (bu4.trans b6).put hDH nD⟩
            · rw [List.all_append, hst, Bool.true_and, List.all_cons, List.all_nil, Bool.and_true]
              unfold inDig
              rw [decide_eq_true_iff]
              omega
            · rw [upd_same, List.map_append]
              rfl
            · rw [upd_ne nDq]
              exact b6.1 q _ hGq4 nq
          · rintro G4 ⟨l, hl2, hst, hGD, hGq4, bu4⟩
            have hl2 : l.length = c := hl2
            refine ⟨_, _, l.map fun y => S [y], rfl, rfl, .inl (seqL_of (by rw [List.map_map]; exact hGD)), ?_, ?_⟩
            · rw [sum_ones, show Str.ofString "" = S [] from lit_e, S_len]
              simp
              omega
            · rw [show Str.ofString "" = S [] from lit_e, join_ones]
              have bu5 : Bu (k + (40 - 4 * (i + 1))) p H G4 := bu4.le (by show k + (40 - 4 * (i + 1)) ≤ k + (40 - 4 * i - 1 - c); omega)
              refine ⟨l, ?_, hGq4, bu5, _, rfl⟩
              unfold isDigs
              rw [decide_eq_true hl2, hst]
              rfl
      · rintro σ G3 ⟨m, om, q3, b3, v', rfl⟩
        refine ⟨_, rfl, .inl ⟨rfl, _, seqL_of q3⟩, _, rfl, q, _, _, rfl, rfl, q3, by rw [List.length_map]; exact szlt (by omega), ms ++ [m], some (.int (0 + (i : Nat))), v', some (tx m), by rw [List.length_append, hl]; rfl, ?_, ?_, b3.put hq nq, rfl⟩
        · rw [List.all_append, hall, Bool.true_and, List.all_cons, List.all_nil, Bool.and_true]
          exact om
        · rw [upd_same, List.map_append]
          rfl
    · rintro σ G ⟨ms, u, v, w', hl, hall, hGq, bu, rfl⟩
      have hl : ms.length = r := hl
      refine ⟨_, rfl, z G q ms (bu.le (by omega)) hq hGq ?_⟩
      unfold okM
      rw [decide_eq_true hl, hall]
      rfl
end
end K16
end
section
set_option Elab.async false
set_option linter.all false
set_option maxRecDepth 100000
set_option maxHeartbeats 4000000
namespace K16
open PySem PySem.Spec PyProof.Rows L2 Kit
section
variable {P : Program} {w : World} {K : PySem.W.Frag} {mg : Str → Option Value} {base : Heap} {a : Ad}
theorem Bu.at {n : Nat} {p b : Addr} {H G : Hp} {o : HO} (h : Bu n p H G) (e : H b = some o) (ne : b ≠ p) : G b = some o := h.1 b o e ne
theorem Bu.free {n : Nat} {p b : Addr} {H G : Hp} (h : Bu n p H G) (e : G b = none) : H b = none := by
  cases k : H b with
  | none => rfl
  | some o =>
    by_cases q : b = p
    · obtain ⟨_, _, _, y, _⟩ := h.2
      rw [q, y] at e
      cases e
    · rw [h.1 b o k q] at e
      cases e
def spLOther : Sp := fun vs H Q _ => ∃ (p q : Addr) (r c n k : Nat) (ms : List (List Nat)), vs = [.ref p, .int c, .ref q] ∧ BoxAt (k + 40) H p ∧ Good r c n ∧ q ≠ p ∧ H q = some (.lst (ms.map tx)) ∧ okM r c ms = true ∧
  ∀ G b ms2, Bu k p H G → H b = none → G b = some (.lst (ms2.map tx)) → okM r c ms2 = true → Q (.ref b) G
theorem c_law_other_maps (T : Txt K mg a) : Can P w K mg base 3 "_law_other_maps" spLOther := by
  refine can_of T.d_law_other_maps sc_law_other_maps bd_law_other_maps (fun vs H Q E h => ?_) (fun f cdv A outer s H vs Q E hr h => ?_)
  · obtain ⟨p, q, r, c, n, k, ms, rfl, _⟩ := h
    rfl
  · obtain ⟨p, q, r, c, n, k, ms, rfl, hb, gd, nq, hq, ok, z⟩ := h
    refine ⟨_, (pss_cons (ps_set (i := 3) sc_law_other_maps.nd rfl (.inl rfl) (pc_f (c_law_take T) hr (by decide) (by rfl) (pa_cons (pv 0) (pa_cons (pe_callB (klen_seq K) (by rfl) T.b_len (by decide +kernel) (pa_cons (pv 2) pa_nil)) pa_nil))))
      (pss_cons (ps_set (i := 4) sc_law_other_maps.nd rfl (.inl rfl) (pc_f (c_law_take T) hr (by decide) (by rfl) (pa_cons (pv 0) (pa_cons (pv 1) pa_nil))))
      (pss_cons (ps_set (i := 5) sc_law_other_maps.nd rfl (.inl rfl) (pe_ix ix_str pe_str (pe_op op_modN (pe_callTy call_int1 (by rfl) T.b_int (by decide +kernel) (pa_cons (pe_op op_add (pe_callTy call_int_str (by rfl) T.b_int (by decide +kernel) (pa_cons (pe_ix ix_str (pe_ix (kix_list K) (pv 2) (pv 3) (fun _ _ => rfl)) (pv 4) (fun _ _ => rfl)) pa_nil)) (pc_f (c_law_take T) hr (by decide) (by rfl) (pa_cons (pv 0) (pa_cons pe_int pa_nil)))) pa_nil)) (pv 1)) (fun _ _ => rfl)))
      (pss_cons (ps_set (i := 6) sc_law_other_maps.nd rfl (.inl rfl) (pe_op op_add_str (pe_op op_add_str (pe_slice sl_str (pe_ix (kix_list K) (pv 2) (pv 3) (fun _ _ => rfl)) po_none (po_some (pv 4))) (pv 5)) (pe_slice sl_str (pe_ix (kix_list K) (pv 2) (pv 3) (fun _ _ => rfl)) (po_some (pe_op op_add (pv 4) pe_int)) po_none)))
      (pss_one (ps_ret (pe_op op_cat (pe_op op_cat (pe_slice (ksl_list K) (pv 2) po_none (po_some (pv 3))) (pe_lst (pa_cons (pv 6) pa_nil))) (pe_slice (ksl_list K) (pv 2) (po_some (pe_op op_add (pv 3) pe_int)) po_none)))))))), ?_⟩
    have gn := good_n gd
    have gc := good_c gd
    have lm := okM_len ok
    have lenM : (ms.map tx).length = r := by rw [List.length_map, lm]
    refine ⟨_, rfl, _, rfl, q, _, rfl, .inl (seqL_of hq), p, _, k + 39, rfl, hb, by rw [lenM]; omega, by rw [lenM]; omega, fun d1 G1 a0 a1 b1 => ?_⟩
    rw [lenM] at a1
    obtain ⟨i, rfl⟩ : ∃ i : Nat, (i : Int) = d1 := ⟨d1.toNat, by omega⟩
    have hi : i < r := by omega
    obtain ⟨m, hm⟩ : ∃ m, ms[i]? = some m := ⟨_, List.getElem?_eq_getElem (by omega)⟩
    have hmo := okM_at ok hm
    have lmm := digs_len hmo
    have hmx : atI (ms.map tx) ((i : Nat) : Int) = some (tx m) := atI_nat (by rw [List.getElem?_map, hm]; rfl)
    refine ⟨_, rfl, _, rfl, p, _, k + 38, rfl, b1.2, by omega, by omega, fun d2 G2 a2 a3 b2 => ?_⟩
    obtain ⟨t, rfl⟩ : ∃ t : Nat, (t : Int) = d2 := ⟨d2.toNat, by omega⟩
    have ht : t < c := by omega
    obtain ⟨y, hy⟩ : ∃ y, m[t]? = some y := ⟨_, List.getElem?_eq_getElem (by omega)⟩
    have hyi := digs_at hmo hy
    have bb := b1.trans b2
    have q2 := bb.at hq nq
    refine ⟨_, rfl, _, rfl, q, _, i, _, rfl, rfl, seqL_of q2, hmx, _, rfl, _, _, y, rfl, rfl, by rw [S_len, lmm]; exact szl (by omega), atI_S hy, S [y], _, rfl, int_dig (inDig3 (by omega) hyi), by show 1 ≤ 640; decide, _, rfl, p, _, k + 37, rfl, bb.2, by decide, by decide, fun d3 G3 a4 a5 b3 => ?_⟩
    have bb3 := bb.trans b3
    have q3 := bb3.at hq nq
    obtain ⟨j, hj, ej⟩ := fmod_nat (i := ((y - 48 : Nat) : Int) + d3) (n := c) (by omega)
    refine ⟨_, _, rfl, rfl, .inl ⟨_, rfl, _, rfl, _, _, rfl, rfl, by omega, _, _, 48 + j, rfl, rfl, by decide +kernel, by rw [ej]; exact lit_at (by omega), ?_⟩⟩
    refine ⟨_, rfl, _, rfl, q, _, i, _, rfl, rfl, seqL_of q3, hmx, _, rfl, _, rfl, _, rfl, ?_⟩
    refine ⟨by rw [S_len, lmm]; exact szl (by omega), ?_⟩
    have c1 := cut_take m t
    have c2 := cut_drop m (t + 1)
    rw [c1]
    have lt1 : (m.take t).length = t := by rw [List.length_take]; omega
    refine ⟨_, rfl, S (m.take t), S [48 + j], rfl, rfl, by rw [S_len, S_len, lt1]; exact szl (by show t + 1 ≤ 100000; omega), ?_⟩
    rw [S_app]
    refine ⟨_, rfl, _, rfl, q, _, i, _, rfl, rfl, seqL_of q3, hmx, _, rfl, _, _, rfl, rfl, _, rfl, _, rfl, by rw [S_len, lmm]; exact szl (by omega), ?_⟩
    rw [show ((t : Nat) : Int) + 1 = ((t + 1 : Nat) : Int) by omega, c2]
    refine ⟨_, _, rfl, rfl, by rw [S_len, S_len, List.length_append, lt1, List.length_drop]; exact szl (by show t + 1 + _ ≤ 100000; omega), ?_⟩
    rw [S_app]
    have hline : isDigs c c (m.take t ++ [48 + j] ++ m.drop (t + 1)) = true := by
      unfold isDigs
      have hm2 : m.all (inDig c) = true := by
        unfold isDigs at hmo
        rw [Bool.and_eq_true] at hmo
        exact hmo.2
      have h1 : (m.take t).all (inDig c) = true := List.all_eq_true.mpr fun x hx => List.all_eq_true.mp hm2 x (List.mem_of_mem_take hx)
      have h2 : (m.drop (t + 1)).all (inDig c) = true := List.all_eq_true.mpr fun x hx => List.all_eq_true.mp hm2 x (List.mem_of_mem_drop hx)
      have h3 : inDig c (48 + j) = true := by
        unfold inDig
        rw [decide_eq_true_iff]
        omega
      rw [List.all_append, List.all_append, h1, h2, List.all_cons, List.all_nil, h3, decide_eq_true]
      · rfl
      · rw [List.length_append, List.length_append, lt1, List.length_drop]
        show t + 1 + _ = c
        omega
    refine ⟨_, rfl, _, rfl, _, rfl, q, _, rfl, seqL_of q3, fun x1 h1 => ?_⟩
    have ct := cutM_take ms (d := (i : Int)) (by omega)
    have cd := cutM_drop ms (d := (i : Int) + 1) (by omega)
    rw [ct]
    have s1 := ex_new (o := .lst ((ms.take ((i : Nat) : Int).toNat).map tx)) h1
    refine ⟨_, rfl, by show 1 ≤ sizeLine; decide, fun x2 h2 => ?_⟩
    have s2 := ex_new (o := .lst [tx (m.take t ++ [48 + j] ++ m.drop (t + 1))]) h2
    refine ⟨x1, x2, _, _, rfl, rfl, s2 _ _ upd_same, upd_same, szl (by simp only [List.length_map, List.length_take, List.length_cons, List.length_nil]; omega), fun x3 h3 => ?_⟩
    have s3 := ex_new (o := .lst ((ms.take ((i : Nat) : Int).toNat).map tx ++ [tx (m.take t ++ [48 + j] ++ m.drop (t + 1))])) h3
    refine ⟨_, rfl, _, rfl, _, _, rfl, rfl, _, rfl, q, _, rfl, seqL_of (s3 _ _ (s2 _ _ (s1 _ _ q3))), fun x4 h4 => ?_⟩
    rw [cd]
    have s4 := ex_new (o := .lst ((ms.drop ((i : Int) + 1).toNat).map tx)) h4
    refine ⟨x3, x4, _, _, rfl, rfl, s4 _ _ upd_same, upd_same, szl (by simp only [List.length_append, List.length_map, List.length_take, List.length_drop, List.length_cons, List.length_nil]; omega), fun x5 h5 => ?_⟩
    have s5 := ((s1.trans s2).trans s3).trans s4
    refine z _ x5 (ms.take i ++ [m.take t ++ [48 + j] ++ m.drop (t + 1)] ++ ms.drop (i + 1)) ((bb3.same (s5.trans (ex_new h5))).le (by omega)) (bb3.free (free_same s5 h5)) ?_ ?_
    · rw [upd_same, List.map_append, List.map_append]
      rfl
    · refine okM_of (by rw [List.length_append, List.length_append, List.length_take, List.length_drop]; show min i ms.length + 1 + _ = r; omega) fun u x hx => ?_
      have hmem := List.mem_of_getElem? hx
      rcases List.mem_append.mp hmem with hh | hh
      · rcases List.mem_append.mp hh with hh | hh
        · obtain ⟨v, hv⟩ := List.mem_iff_getElem?.mp (List.mem_of_mem_take hh)
          exact okM_at ok hv
        · rw [List.mem_singleton.mp hh]
          exact hline
      · obtain ⟨v, hv⟩ := List.mem_iff_getElem?.mp (List.mem_of_mem_drop hh)
        exact okM_at ok hv
end
end K16
end
section
set_option Elab.async false
set_option linter.all false
set_option maxRecDepth 100000
set_option maxHeartbeats 4000000
namespace K16
open PySem PySem.Spec PyProof.Rows L2 Kit
section
variable {P : Program} {w : World} {K : PySem.W.Frag} {mg : Str → Option Value} {base : Heap} {a : Ad}
def spLProd : Sp := fun vs H Q _ => ∃ (q q2 : Addr) (r c n : Nat) (ms ms2 : List (List Nat)), vs = [.ref q, .ref q2] ∧ Good r c n ∧ H q = some (.lst (ms.map tx)) ∧ H q2 = some (.lst (ms2.map tx)) ∧ okM r c ms = true ∧ okM r c ms2 = true ∧
  ∀ G b, Same H G → H b = none → G b = some (.lst ((mulM ms ms2).map tx)) → Q (.ref b) G
theorem c_law_product (T : Txt K mg a) : Can P w K mg base 1 "_law_product" spLProd := by
  refine can_of T.d_law_product sc_law_product bd_law_product (fun vs H Q E h => ?_) (fun f cdv A outer s H vs Q E hr h => ?_)
  · obtain ⟨q, q2, r, c, n, ms, ms2, rfl, _⟩ := h
    rfl
  · obtain ⟨q, q2, r, c, n, ms, ms2, rfl, gd, hq, hq2, ok, ok2, z⟩ := h
    refine ⟨_, (pss_one (ps_ret (pe_lc (own := [("row", 3)]) (g := gName 3) (tt := tYes) (by rfl) sc_law_product.nd (pi_range1 (by rfl) T.b_range (pa_cons (pe_callB (klen_seq K) (by rfl) T.b_len (by decide +kernel) (pa_cons (pv 0) pa_nil)) pa_nil)) (blkOk_by (N := N_law_product) (sc := defScope s_law_product) (by decide +kernel)) (fun _ _ _ _ _ => (pg_name (i := 3) sc_law_product.nd rfl (.inr rfl))) (fun _ _ _ _ _ => pts_nil) (fun _ _ _ _ _ => (kjoin K pe_str (pe_lc (own := [("sign", 2)]) (g := gName 2) (tt := tYes) (by rfl) sc_law_product.nd (pi_str (pe_ix (kix_list K) (pv 0) (pv 3) (fun _ _ => rfl))) (blkOk_by (N := N_law_product) (sc := { kind := .function, names := [(".0", .local), ("row", .cell), ("first", .cell), ("second", .cell)], isGenerator := false, isCoroutine := false, more := [] }) (by decide +kernel)) (fun _ _ _ _ _ => (pg_name (i := 2) sc_law_product.nd rfl (.inl rfl))) (fun _ _ _ _ _ => pts_nil) (fun _ _ _ _ _ => (pe_ix ix_str (pe_ix (kix_list K) (pv 1) (pv 3) (fun _ _ => rfl)) (pe_callTy call_int_str (by rfl) T.b_int (by decide +kernel) (pa_cons (pv 2) pa_nil)) (fun _ _ => rfl))))))))), ?_⟩
    have gn := good_n gd
    have gc := good_c gd
    have lm := okM_len ok
    have lm2 := okM_len ok2
    have hok := mulM_ok ok ok2
    refine ⟨_, rfl, q, _, rfl, .inl (seqL_of hq), ms.length, by rw [List.length_map], by omega, by omega, fun D hD => lc_one (walk_range (lo := 0) (n := ((ms.length : Nat) : Int).toNat)) ((mulM ms ms2).map tx) (by rw [List.length_map, okM_len hok, lm]; rfl) (by show ms.length ≤ _; omega) hD (fun _ _ => True.intro) ?_ ?_⟩
    · rintro i x M M' v hi s1 ⟨rfl, rfl⟩ hv
      have hi : i < ms.length := hi
      obtain ⟨m, hm⟩ : ∃ m, ms[i]? = some m := ⟨_, List.getElem?_eq_getElem (by omega)⟩
      obtain ⟨l, hl⟩ : ∃ l, ms2[i]? = some l := ⟨_, List.getElem?_eq_getElem (by omega)⟩
      rw [List.getElem?_map, mulM_at hm hl] at hv
      cases hv
      have hmo := okM_at ok hm
      have hlo := okM_at ok2 hl
      have lmm := digs_len hmo
      have ei : (0 : Int) + ((i : Nat) : Int) = ((i : Nat) : Int) := by omega
      refine ⟨.refl _, fun Q' q' => ⟨⟨_, rfl⟩, _, rfl, _, rfl, q, _, i, tx m, rfl, congrArg V.int ei, seqL_of (s1 _ _ hq), atI_nat (by rw [List.getElem?_map, hm]; rfl), _, rfl, fun D2 hD2 => lc_one walk_str ((m.map (digBy l)).map fun x => tx [x]) (by rw [List.length_map, List.length_map]; exact (S_len m).symm) (by show (S m).length ≤ _; rw [S_len]; omega) hD2 (fun _ _ => True.intro) ?_ ?_⟩⟩
      · rintro j x N N' w' hj s3 ⟨rfl, c', hc, rfl⟩ hw
        have hc := at_S hc
        rw [List.getElem?_map, List.getElem?_map, hc] at hw
        cases hw
        have hci := digs_at hmo hc
        refine ⟨.refl _, fun Q2 q2' => ⟨_, rfl, _, rfl, q2, _, i, tx l, rfl, congrArg V.int ei, seqL_of (s3 _ _ (s1 _ _ hq2)), atI_nat (by rw [List.getElem?_map, hl]; rfl), _, rfl, S [c'], _, rfl, int_dig (inDig3 (by omega) hci), by show 1 ≤ 640; decide, _, _, digBy l c', rfl, rfl, ?_, atI_S (digBy_ok hlo hci).1, q2' _ (.refl _)⟩⟩
        rw [S_len, digs_len hlo]
        exact szl (by omega)
      · intro N s3 hN
        refine ⟨_, _, (m.map (digBy l)).map fun y => S [y], rfl, rfl, .inl (seqL_of (by rw [List.map_map]; exact hN)), ?_, ?_⟩
        · rw [sum_ones, show Str.ofString "" = S [] from lit_e, S_len]
          simp
          omega
        · rw [show Str.ofString "" = S [] from lit_e, join_ones]
          exact q' N s3
    · intro M s1 hM
      exact z M D s1 hD hM
theorem mem_sign (c x : Nat) : decide (x ∈ (S ((List.range c).map (48 + ·))).cps.toList) = inDig c x := by
  rw [S_cps]
  by_cases h : inDig c x = true
  · rw [h, decide_eq_true (mem_digs.mpr h)]
  · rw [decide_eq_false (fun q => h (mem_digs.mp q)), Bool.eq_false_iff.mpr h]
def resV : Option Int → V
  | none => .non
  | some i => .int i
def spLBad (K : PySem.W.Frag) : Sp := fun vs H Q _ => ∃ (q : Addr) (r c : Nat) (ms : List (List Nat)), vs = [.int r, .int c, .ref q] ∧ r ≤ 3 ∧ (c = 2 ∨ c = 3) ∧ SqL K H q (ms.map tx) ∧ (∀ m ∈ ms, m.length ≤ 1000) ∧ Q (resV (badRow r c ms)) H
theorem c_law_bad_row (T : Txt K mg a) : Can P w K mg base 1 "_law_bad_row" (spLBad K) := by
  refine can_of T.d_law_bad_row sc_law_bad_row bd_law_bad_row (fun vs H Q E h => ?_) (fun f cdv A outer s H vs Q E hr h => ?_)
  · obtain ⟨q, r, c, ms, rfl, _⟩ := h
    rfl
  · obtain ⟨q, r, c, ms, rfl, hr3, gc, hq, hml, z⟩ := h
    refine ⟨_, (pss_cons (ps_if (pt_cmpR op_ne (pe_callB (klen_seq K) (by rfl) T.b_len (by decide +kernel) (pa_cons (pv 2) pa_nil)) (pv 0) (nomark _)) (pss_one (ps_ret (pe_un un_neg pe_int))) pss_nil)
      (pss_cons (ps_for (passes_of rfl) (by rfl) (pi_range1 (by rfl) T.b_range (pa_cons (pv 0) pa_nil)) (pg_name (i := 3) sc_law_bad_row.nd rfl (.inl rfl)) (pss_cons (ps_if (pt_cmpR op_ne (pe_callB call_len_str (by rfl) T.b_len (by decide +kernel) (pa_cons (pe_ix (kix_list K) (pv 2) (pv 3) (fun _ _ => rfl)) pa_nil)) (pv 1) (nomark _)) (pss_one (ps_ret (pv 3))) pss_nil)
      (pss_one (ps_for (passes_of rfl) (by rfl) (pi_str (pe_ix (kix_list K) (pv 2) (pv 3) (fun _ _ => rfl))) (pg_name (i := 4) sc_law_bad_row.nd rfl (.inl rfl)) (pss_one (ps_if (pt_cmpR op_notIn_sign (pv 4) (pe_slice sl_str pe_str po_none (po_some (pv 1))) (by rfl)) (pss_one (ps_ret (pv 3))) pss_nil))))))
      (pss_one (ps_ret pe_non)))), ?_⟩
    have lenM : (ms.map tx).length = ms.length := List.length_map ..
    refine ⟨_, rfl, q, _, rfl, .inl hq, _, rfl, rfl, _, rfl, ?_⟩
    rw [lenM]
    refine ite2 (fun h1 => ?_) (fun h1 => ?_)
    · have e : badRow r c ms = some (-1) := by
        unfold badRow
        rw [if_pos]
        intro q
        rw [q] at h1
        exact absurd h1 (by simp)
      rw [e] at z
      exact ⟨_, rfl, z⟩
    · have hlr : ms.length = r := by
        by_cases q : (ms.length : Int) = (r : Int)
        · omega
        · exact absurd (by simpa using q) h1
      have nb : ∀ {i : Nat} {m : List Nat}, (∀ k < i, ∀ x, ms[k]? = some x → isDigs c c x = true) → ms[i]? = some m → isDigs c c m = false → badRow r c ms = some (i : Int) := by
        intro i m hb hm hf
        unfold badRow
        rw [if_neg (fun q => q hlr), find_at (f := fun m => !isDigs c c m) (i := i) (m := m) (fun k hk x hx => by rw [hb k hk x hx]; rfl) hm (by rw [hf]; rfl)]
        rfl
      refine ⟨_, rfl, r, rfl, by omega, by omega, for_it (walk_range (lo := 0) (n := ((r : Nat) : Int).toNat)) (fun i σ G => G = H ∧ (∀ k < i, ∀ x, ms[k]? = some x → isDigs c c x = true) ∧ ∃ u v : Option V, σ = [some (.int r), some (.int c), some (.ref q), u, v]) ⟨rfl, fun k hk => absurd hk (by omega), none, none, rfl⟩ (fun _ _ _ _ _ => True.intro) ?_ ?_⟩
      · rintro i x σ G G' hi ⟨e1, hgood, u, v, rfl⟩ ⟨e2, rfl⟩
        subst e2
        subst e1
        have hi : i < r := hi
        have hmi := List.getElem?_eq_getElem (show i < ms.length by omega)
        have ei : (0 : Int) + ((i : Nat) : Int) = ((i : Nat) : Int) := by omega
        have hix : atI (ms.map tx) ((i : Nat) : Int) = some (tx ms[i]) := atI_nat (by rw [List.getElem?_map, hmi]; rfl)
        have li : ms[i].length ≤ 1000 := hml _ (List.getElem_mem _)
        have hwrong : isDigs c c ms[i] = false → Q (.int (0 + ((i : Nat) : Int))) G' := fun hb => by
          have e := nb hgood hmi hb
          rw [e] at z
          rw [ei]
          exact z
        have hnext : isDigs c c ms[i] = true → ∀ k < i + 1, ∀ x, ms[k]? = some x → isDigs c c x = true := by
          intro hb k hk x hx
          by_cases e : k = i
          · subst e
            rw [hmi] at hx
            cases hx
            exact hb
          · exact hgood k (by omega) x hx
        refine ⟨_, rfl, _, rfl, q, _, i, _, rfl, congrArg V.int ei, hq, hix, _, rfl, szl (by rw [S_len]; omega), _, rfl, rfl, _, rfl, ?_⟩
        rw [S_len]
        refine ite2 (fun h2 => ?_) (fun h2 => ?_)
        · refine ⟨_, rfl, hwrong ?_⟩
          unfold isDigs
          rw [Bool.and_eq_false_iff]
          refine .inl (decide_eq_false fun q => ?_)
          rw [q] at h2
          exact absurd h2 (by simp)
        · have h2 : ms[i].length = c := by
            by_cases q : (ms[i].length : Int) = (c : Int)
            · omega
            · exact absurd (by simpa using q) h2
          refine ⟨_, rfl, _, rfl, q, _, i, _, rfl, congrArg V.int ei, hq, hix, _, rfl, for_it walk_str (fun j σ M => M = G' ∧ (∀ k < j, ∀ x, ms[i][k]? = some x → inDig c x = true) ∧ ∃ v : Option V, σ = [some (.int r), some (.int c), some (.ref q), some (.int (0 + ((i : Nat) : Int))), v]) ⟨rfl, fun k hk => absurd hk (by omega), v, rfl⟩ (fun _ _ _ _ _ => True.intro) ?_ ?_⟩
          · rintro j x σ M M' hj ⟨f1, hg2, v2, rfl⟩ ⟨f2, c', hc, rfl⟩
            subst f2
            subst f1
            have hc := at_S hc
            refine ⟨_, rfl, _, rfl, _, rfl, _, rfl, by decide +kernel, c', _, rfl, rfl, ?_⟩
            rw [cut_dig gc, mem_sign]
            refine ⟨_, rfl, ?_⟩
            cases e : inDig c c' with
            | true =>
              refine iteF ⟨rfl, fun k hk x hx => ?_, some (tx [c']), rfl⟩
              by_cases e3 : k = j
              · subst e3
                rw [hc] at hx
                cases hx
                exact e
              · exact hg2 k (by omega) x hx
            | false =>
              refine iteT ⟨_, rfl, hwrong ?_⟩
              unfold isDigs
              rw [Bool.and_eq_false_iff]
              refine .inr ?_
              rw [List.all_eq_false]
              exact ⟨c', List.mem_of_getElem? hc, by rw [e]; exact Bool.false_ne_true⟩
          · rintro σ M ⟨f1, hg2, v2, rfl⟩
            subst f1
            refine ⟨rfl, hnext ?_, _, v2, rfl⟩
            unfold isDigs
            rw [decide_eq_true h2, Bool.true_and, List.all_eq_true]
            intro x hx
            obtain ⟨k, hk⟩ := List.mem_iff_getElem?.mp hx
            exact hg2 k (by show k < (S ms[i]).cps.size; rw [show (S ms[i]).cps.size = ms[i].length from S_len _]; exact (List.getElem?_eq_some_iff.mp hk).1) x hk
      · rintro σ G ⟨e1, hgood, u, v, rfl⟩
        subst e1
        have e : badRow r c ms = none := badRow_none (okM_of hlr fun i m hm => hgood i (by have := (List.getElem?_eq_some_iff.mp hm).1; show i < ((r : Nat) : Int).toNat; omega) m hm)
        rw [e] at z
        exact z
end
end K16

end
section
set_option Elab.async false
set_option linter.all false
set_option maxRecDepth 100000
set_option maxHeartbeats 4000000
namespace K16
open PySem PySem.Spec PyProof.Rows L2 Kit
section
variable {P : Program} {w : World} {K : PySem.W.Frag} {mg : Str → Option Value} {base : Heap} {a : Ad}
/-! ### the due way back -/
theorem nd_iff {c : Nat} {m : List Nat} (hm : isDigs c c m = true) : (digs c).all (fun d => decide (d ∈ m)) = decide m.Nodup := by
  by_cases h : m.Nodup
  · rw [decide_eq_true h, List.all_eq_true]
    intro d hd
    exact decide_eq_true (nd_full hm h (digs_mem.mp hd))
  · rw [decide_eq_false h, List.all_eq_false]
    obtain ⟨x, h1, h2⟩ := dup_of h
    by_cases k : ∀ d ∈ digs c, d ∈ m
    · exfalso
      have ndd : (digs c).Nodup := by
        unfold digs
        unfold List.Nodup
        rw [List.pairwise_map]
        exact List.pairwise_lt_range.imp fun h e => by omega
      have := len_sub (l := digs c) (m := m.erase x) ndd fun y hy => by
        by_cases e : y = x
        · rw [e]
          exact h2
        · exact (List.mem_erase_of_ne e).mpr (k y hy)
      rw [List.length_erase_of_mem h1, digs_len', digs_len hm] at this
      have hp := List.length_pos_of_mem h1
      rw [digs_len hm] at hp
      omega
    · have ⟨d, hd⟩ := Classical.not_forall.mp k
      have ⟨hd1, hd2⟩ := Classical.not_imp.mp hd
      exact ⟨d, hd1, by rw [decide_eq_false hd2]; exact Bool.false_ne_true⟩
theorem sub48 {c x : Nat} (h : inDig c x = true) : ∃ k, k < c ∧ x = 48 + k := by
  unfold inDig at h
  rw [decide_eq_true_iff] at h
  exact ⟨x - 48, by omega, by omega⟩
set_option synthInstance.maxSize 4000 in
set_option synthInstance.maxHeartbeats 4000000 in
theorem find_dig {c d : Nat} {m : List Nat} (gc : c = 2 ∨ c = 3) (hm : isDigs c c m = true) (hd : inDig c d = true) (h : d ∈ m) : Txt.find (S m) (S [d]) = ((m.idxOf d : Nat) : Int) := by
  have lm := digs_len hm
  obtain ⟨kd, hkd, rfl⟩ := sub48 hd
  rcases gc with rfl | rfl
  · match m, lm with
    | [x, y], _ =>
      obtain ⟨kx, hx, rfl⟩ := sub48 (digs_at hm (i := 0) rfl)
      obtain ⟨ky, hy, rfl⟩ := sub48 (digs_at hm (i := 1) rfl)
      have z : ∀ kx < 2, ∀ ky < 2, ∀ kd < 2, 48 + kd ∈ [48 + kx, 48 + ky] → Txt.find (S [48 + kx, 48 + ky]) (S [48 + kd]) = (([48 + kx, 48 + ky].idxOf (48 + kd) : Nat) : Int) := by decide +kernel
      exact z kx hx ky hy kd hkd h
  · match m, lm with
    | [x, y, u], _ =>
      obtain ⟨kx, hx, rfl⟩ := sub48 (digs_at hm (i := 0) rfl)
      obtain ⟨ky, hy, rfl⟩ := sub48 (digs_at hm (i := 1) rfl)
      obtain ⟨ku, hu, rfl⟩ := sub48 (digs_at hm (i := 2) rfl)
      have z : ∀ kx < 3, ∀ ky < 3, ∀ ku < 3, ∀ kd < 3, 48 + kd ∈ [48 + kx, 48 + ky, 48 + ku] → Txt.find (S [48 + kx, 48 + ky, 48 + ku]) (S [48 + kd]) = (([48 + kx, 48 + ky, 48 + ku].idxOf (48 + kd) : Nat) : Int) := by decide +kernel
      exact z kx hx ky hy ku hu kd hkd h
theorem mem_S (x : Nat) (m : List Nat) : decide (x ∈ (S m).cps.toList) = decide (x ∈ m) := by rw [S_cps]
def spLUndone : Sp := fun vs H Q _ => ∃ (q : Addr) (r c n : Nat) (ms : List (List Nat)), vs = [.int c, .ref q] ∧ Good r c n ∧ H q = some (.lst (ms.map tx)) ∧ okM r c ms = true ∧ (allNd ms = false → ∀ G, Same H G → Q .non G) ∧
  (allNd ms = true → ∀ G b, Same H G → H b = none → G b = some (.lst ((ms.map (backM c)).map tx)) → Q (.ref b) G)
theorem c_law_undone (T : Txt K mg a) : Can P w K mg base 1 "_law_undone" spLUndone := by
  refine can_of T.d_law_undone sc_law_undone bd_law_undone (fun vs H Q E h => ?_) (fun f cdv A outer s H vs Q E hr h => ?_)
  · obtain ⟨q, r, c, n, ms, rfl, _⟩ := h
    rfl
  · obtain ⟨q, r, c, n, ms, rfl, gd, hq, ok, zn, z⟩ := h
    refine ⟨_, (pss_cons (ps_set (i := 2) sc_law_undone.nd rfl (.inl rfl) (pe_lst pa_nil))
      (pss_cons (ps_for (passes_of rfl) (by rfl) (kpi_list K (pv 1)) (pg_name (i := 3) sc_law_undone.nd rfl (.inr rfl)) (pss_cons (ps_for (passes_of rfl) (by rfl) (pi_str (pe_slice sl_str pe_str po_none (po_some (pv 0)))) (pg_name (i := 4) sc_law_undone.nd rfl (.inl rfl)) (pss_one (ps_if (pt_cmpR op_notIn_sign (pv 4) (pv 3) (by rfl)) (pss_one (ps_ret pe_non)) pss_nil)))
      (pss_one (ps_expr (pe_bm PySem.F.plainAttrs_list PySem.F.slot_list_append PySem.F.type_list_append mt_append (pv 2) (pa_cons (kjoin K pe_str (pe_lc (own := [("sign", 4)]) (g := gName 4) (tt := tYes) (by rfl) sc_law_undone.nd (pi_str (pe_slice sl_str pe_str po_none (po_some (pv 0)))) (blkOk_by (N := N_law_undone) (sc := defScope s_law_undone) (by decide +kernel)) (fun _ _ _ _ _ => (pg_name (i := 4) sc_law_undone.nd rfl (.inl rfl))) (fun _ _ _ _ _ => pts_nil) (fun _ _ _ _ _ => (pe_ix ix_str pe_str (pe_m1 PySem.F.slot_str_find PySem.F.type_str_find mt_find (pv 3) (pv 4)) (fun _ _ => rfl))))) pa_nil))))))
      (pss_one (ps_ret (pv 2))))), ?_⟩
    have gn := good_n gd
    have gc := good_c gd
    have lm := okM_len ok
    have lenM : (ms.map tx).length = r := by rw [List.length_map, lm]
    refine ⟨by show 0 ≤ sizeLine; exact Nat.zero_le _, fun b hb => ?_⟩
    refine ⟨_, rfl, q, rfl, ⟨_, seqL_of (ex_new hb _ _ hq)⟩, for_it (walk_list (xs := ms.map tx)) (fun i σ G => allNd (ms.take i) = true ∧ Same H G ∧ G b = some (.lst (((ms.take i).map (backM c)).map tx)) ∧ ∃ u v : Option V, σ = [some (.int c), some (.ref q), some (.ref b), u, v]) ⟨rfl, ex_new hb, upd_same, none, none, rfl⟩ (fun i σ G _ h => seqL_of (h.2.1 _ _ hq)) ?_ ?_⟩
    · rintro i x σ G G' hi ⟨hnd, s1, hGb, u, v, rfl⟩ ⟨e1, hx⟩
      subst e1
      rw [lenM] at hi
      have hmi := List.getElem?_eq_getElem (show i < ms.length by omega)
      rw [List.getElem?_map, hmi] at hx
      cases hx
      have hmo := okM_at ok hmi
      have lmm := digs_len hmo
      refine ⟨_, rfl, _, rfl, _, rfl, by decide +kernel, ?_⟩
      rw [cut_dig gc]
      refine ⟨_, rfl, for_it walk_str (fun j σ M => M = G' ∧ (∀ k < j, ∀ d, (digs c)[k]? = some d → d ∈ ms[i]) ∧ ∃ v : Option V, σ = [some (.int c), some (.ref q), some (.ref b), some (tx ms[i]), v]) ⟨rfl, fun k hk => absurd hk (by omega), v, rfl⟩ (fun _ _ _ _ _ => True.intro) ?_ ?_⟩
      · rintro j x σ M M' hj ⟨f1, hg2, v2, rfl⟩ ⟨f2, d, hd, rfl⟩
        subst f2
        subst f1
        have hd : (digs c)[j]? = some d := at_S hd
        refine ⟨_, rfl, _, rfl, d, _, rfl, rfl, ?_⟩
        rw [mem_S]
        refine ⟨_, rfl, ?_⟩
        by_cases e : d ∈ ms[i]
        · rw [decide_eq_true e]
          refine iteF ⟨rfl, fun k hk y hy => ?_, some (tx [d]), rfl⟩
          by_cases e3 : k = j
          · subst e3
            rw [hd] at hy
            cases hy
            exact e
          · exact hg2 k (by omega) y hy
        · rw [decide_eq_false e]
          refine iteT (zn ?_ _ s1)
          unfold allNd
          rw [List.all_eq_false]
          refine ⟨ms[i], List.getElem_mem _, ?_⟩
          intro q9
          exact e (nd_full hmo (by simpa using q9) (digs_mem.mp (List.mem_of_getElem? hd)))
      · rintro σ M ⟨f1, hg2, v2, rfl⟩
        subst f1
        have ndi : ms[i].Nodup := by
          have e := nd_iff hmo
          have e2 : (digs c).all (fun d => decide (d ∈ ms[i])) = true := by
            rw [List.all_eq_true]
            intro d hd
            obtain ⟨k, hk⟩ := List.mem_iff_getElem?.mp hd
            exact decide_eq_true (hg2 k (by show k < (S ((List.range c).map (48 + ·))).cps.size; rw [show (S ((List.range c).map (48 + ·))).cps.size = (digs c).length from S_len _]; exact (List.getElem?_eq_some_iff.mp hk).1) d hk)
          rw [e2] at e
          exact of_decide_eq_true e.symm
        refine ⟨_, rfl, .inl ⟨rfl, _, seqL_of hGb⟩, ⟨_, rfl⟩, _, rfl, _, rfl, _, rfl, by decide +kernel, ?_⟩
        rw [cut_dig gc]
        refine ⟨_, rfl, fun D hD => ?_⟩
        refine lc_one walk_str ((backM c ms[i]).map fun x => tx [x]) (by rw [List.length_map, backM, List.length_map]; exact (S_len _).symm) (by show (S _).length ≤ _; rw [S_len, List.length_map, List.length_range]; omega) hD (fun _ _ => True.intro) ?_ ?_
        · rintro j x N N' v hj s3 ⟨rfl, d, hd, rfl⟩ hv
          have hd : (digs c)[j]? = some d := at_S hd
          unfold backM at hv
          rw [List.getElem?_map, List.getElem?_map, hd] at hv
          cases hv
          have hdi := digs_mem.mp (List.mem_of_getElem? hd)
          have hmem := nd_full hmo ndi hdi
          have il := (idx_lt hmo ndi hdi).1
          refine ⟨.refl _, fun Q' q' => ⟨_, rfl, ⟨_, rfl⟩, _, rfl, _, _, rfl, rfl, ?_⟩⟩
          dsimp only
          rw [S_one, find_dig gc hmo hdi hmem]
          exact ⟨_, _, 48 + ms[i].idxOf d, rfl, rfl, by decide +kernel, lit_at (by omega), q' _ (.refl _)⟩
        · intro N s3 hN
          have hND := s3 _ _ hGb
          have nb : D ≠ b := fun e => by rw [e, hGb] at hD; cases hD
          refine ⟨_, _, (backM c ms[i]).map fun y => S [y], rfl, rfl, .inl (seqL_of (by rw [List.map_map]; exact hN)), ?_, ?_⟩
          · rw [sum_ones, show Str.ofString "" = S [] from lit_e, S_len]
            simp [backM, digs_len']
            omega
          · rw [show Str.ofString "" = S [] from lit_e, join_ones]
            refine ⟨b, _, _, rfl, rfl, hND, by simp only [List.length_map, List.length_take]; exact szlt (by omega), ?_, ?_, ?_, _, v2, rfl⟩
            · unfold allNd
              rw [List.take_add_one, hmi, List.all_append]
              unfold allNd at hnd
              rw [hnd]
              show (true && ([ms[i]].all _)) = true
              rw [Bool.true_and, List.all_cons, List.all_nil, Bool.and_true]
              exact decide_eq_true ndi
            · intro x o hx
              have nx : x ≠ b := fun e => by rw [e, hb] at hx; cases hx
              rw [upd_ne nx]
              exact s3 _ _ (s1 _ _ hx)
            · rw [upd_same, List.take_add_one, hmi, List.map_append, List.map_append]
              rfl
    · rintro σ G ⟨hnd, s1, hGb, u, v, rfl⟩
      rw [lenM, List.take_of_length_le (by omega)] at hnd hGb
      exact ⟨_, rfl, z hnd G b s1 hb hGb⟩
end
end K16
end
section
set_option Elab.async false
set_option linter.all false
set_option maxRecDepth 100000
set_option maxHeartbeats 4000000
namespace K16
open PySem PySem.Spec PyProof.Rows L2 Kit
section
variable {P : Program} {w : World} {K : PySem.W.Frag} {mg : Str → Option Value} {base : Heap} {a : Ad}
theorem sIx_neg (n d : Nat) : HT.sIx n d (some (-1)) = n - 1 := by
  show (if ((-1 : Int)) < 0 then ((-1 : Int) + (n : Int)).toNat else min (-1 : Int).toNat n) = n - 1
  rw [if_pos (by decide)]
  omega
theorem cutM_last (ls : List (List Nat)) : cutV (ls.map tx) none (some (-1)) = (ls.take (ls.length - 1)).map tx := by
  rw [cutV_S, sIx_neg, sIx_none, List.drop_zero, Nat.sub_zero, List.length_map, List.map_take]
theorem sign9 {d : Int} (h0 : 0 ≤ d) (h1 : d < 9) : ∃ x, atI (Str.ofString "2a+ -/.93").cps.toList d = some x := str_at (n := 9) (by decide +kernel) h0 h1
def spLSpoilt : Sp := fun vs H Q _ => ∃ (p q : Addr) (r c n k : Nat) (ms : List (List Nat)), vs = [.ref p, .int c, .ref q] ∧ BoxAt (k + 40) H p ∧ Good r c n ∧ q ≠ p ∧ H q = some (.lst (ms.map tx)) ∧ okM r c ms = true ∧
  ∀ (G : Hp) (b : Addr) (ls : List (List Nat)), Bu k p H G → H b = none → G b = some (.lst (ls.map tx)) → ls.length ≤ 4 → (∀ l ∈ ls, l.length ≤ 20) → Q (.ref b) G
theorem c_law_spoilt (T : Txt K mg a) : Can P w K mg base 3 "_law_spoilt" spLSpoilt := by
  refine can_of T.d_law_spoilt sc_law_spoilt bd_law_spoilt (fun vs H Q E h => ?_) (fun f cdv A outer s H vs Q E hr h => ?_)
  · obtain ⟨p, q, r, c, n, k, ms, rfl, _⟩ := h
    rfl
  · obtain ⟨p, q, r, c, n, k, ms, rfl, hb, gd, nq, hq, ok, z⟩ := h
    refine ⟨_, (pss_cons (ps_set (i := 3) sc_law_spoilt.nd rfl (.inl rfl) (pe_callTy (klist_of K) (by rfl) T.b_list (by decide +kernel) (pa_cons (pv 2) pa_nil)))
      (pss_cons (ps_for (passes_of rfl) (by rfl) (pi_range1 (by rfl) T.b_range (pa_cons (pe_op op_add pe_int (pc_f (c_law_take T) hr (by decide) (by rfl) (pa_cons (pv 0) (pa_cons pe_int pa_nil)))) pa_nil)) (pg_name (i := 4) sc_law_spoilt.nd rfl (.inl rfl)) (pss_cons (ps_set (i := 5) sc_law_spoilt.nd rfl (.inl rfl) (pc_f (c_law_take T) hr (by decide) (by rfl) (pa_cons (pv 0) (pa_cons (pe_callB (klen_seq K) (by rfl) T.b_len (by decide +kernel) (pa_cons (pv 2) pa_nil)) pa_nil))))
      (pss_cons (ps_set (i := 6) sc_law_spoilt.nd rfl (.inl rfl) (pc_f (c_law_take T) hr (by decide) (by rfl) (pa_cons (pv 0) (pa_cons pe_int pa_nil))))
      (pss_cons (ps_set (i := 7) sc_law_spoilt.nd rfl (.inl rfl) (pc_f (c_law_take T) hr (by decide) (by rfl) (pa_cons (pv 0) (pa_cons (pe_op op_add (pv 1) pe_int) pa_nil))))
      (pss_cons (ps_set (i := 8) sc_law_spoilt.nd rfl (.inl rfl) (pe_ix ix_str pe_str (pc_f (c_law_take T) hr (by decide) (by rfl) (pa_cons (pv 0) (pa_cons pe_int pa_nil))) (fun _ _ => rfl)))
      (pss_cons (ps_set (i := 9) sc_law_spoilt.nd rfl (.inl rfl) (pe_ix (kix_list K) (pv 3) (pv 5) (fun _ _ => rfl)))
      (pss_one (ps_if (pt_cmpR op_eq (pv 6) pe_int (nomark _)) (pss_one (ps_asg (pe_op op_add_str (pe_op op_add_str (pe_slice sl_str (pv 9) po_none (po_some (pv 7))) (pv 8)) (pe_slice sl_str (pv 9) (po_some (pe_op op_add (pv 7) pe_int)) po_none)) (pg_sub (pv 3) (pv 5) set_list))) (pss_one (ps_if (pt_cmpR op_eq (pv 6) pe_int (nomark _)) (pss_one (ps_asg (pe_op op_add_str (pe_op op_add_str (pe_slice sl_str (pv 9) po_none (po_some (pv 7))) pe_str) (pe_slice sl_str (pv 9) (po_some (pv 7)) po_none)) (pg_sub (pv 3) (pv 5) set_list))) (pss_one (ps_if (pt_cmpR op_eq (pv 6) pe_int (nomark _)) (pss_one (ps_asg (pe_op op_add_str (pe_slice sl_str (pv 9) po_none (po_some (pv 7))) (pe_slice sl_str (pv 9) (po_some (pe_op op_add (pv 7) pe_int)) po_none)) (pg_sub (pv 3) (pv 5) set_list))) (pss_one (ps_if (pt_cmpR op_eq (pv 6) pe_int (nomark _)) (pss_one (ps_asg pe_str (pg_sub (pv 3) (pv 5) set_list))) pss_nil))))))))))))))
      (pss_cons (ps_set (i := 6) sc_law_spoilt.nd rfl (.inl rfl) (pc_f (c_law_take T) hr (by decide) (by rfl) (pa_cons (pv 0) (pa_cons pe_int pa_nil))))
      (pss_cons (ps_if (pt_cmpR op_eq (pv 6) pe_int (nomark _)) (pss_one (ps_ret (pe_op op_cat (pv 3) (pe_lst (pa_cons pe_str pa_nil))))) pss_nil)
      (pss_cons (ps_if (pt_cmpR op_eq (pv 6) pe_int (nomark _)) (pss_one (ps_ret (pe_op op_cat (pv 3) (pe_lst (pa_cons (pe_ix (kix_list K) (pv 2) pe_int (fun _ _ => rfl)) pa_nil))))) pss_nil)
      (pss_cons (ps_if (pt_cmpR op_eq (pv 6) pe_int (nomark _)) (pss_one (ps_ret (pe_slice (ksl_list K) (pv 3) po_none (po_some (pe_un un_neg pe_int))))) pss_nil)
      (pss_one (ps_ret (pv 3))))))))), ?_⟩
    have gn := good_n gd
    have gc := good_c gd
    have lm := okM_len ok
    have hml : ∀ l ∈ ms, l.length ≤ 10 := fun l hl => by
      obtain ⟨i, hi⟩ := List.mem_iff_getElem?.mp hl
      rw [digs_len (okM_at ok hi)]
      omega
    refine ⟨_, rfl, q, _, rfl, .inl (seqL_of hq), fun b hbn => ?_⟩
    have nb := box_ne hb hbn
    have nqb : q ≠ b := fun e => by rw [e, hbn] at hq; cases hq
    have s0 := ex_new (o := .lst (ms.map tx)) hbn
    refine ⟨_, rfl, p, 2, k + 39, rfl, hb.mono s0, by decide, by decide, fun d G1 d0 d1 b1 => ?_⟩
    refine ⟨_, _, rfl, rfl, (1 + d).toNat, congrArg (fun z => [V.int z]) (show 1 + d = (((1 + d).toNat : Nat) : Int) by omega), by omega, by omega, ?_⟩
    have B1 : Bu (k + 39) p H G1 := same_bu s0 b1
    have lensLt : (1 + d).toNat ≤ 2 := by omega
    refine for_it (walk_range (lo := 0) (n := (((1 + d).toNat : Nat) : Int).toNat)) (fun i σ G => ∃ (ls : List (List Nat)) (u1 u2 u3 u4 u5 u6 : Option V), ls.length = r ∧ (∀ l ∈ ls, l.length ≤ 10 + i) ∧ G b = some (.lst (ls.map tx)) ∧ Bu (k + (39 - 4 * i)) p H G ∧ σ = [some (.ref p), some (.int c), some (.ref q), some (.ref b), u1, u2, u3, u4, u5, u6]) ⟨ms, none, none, none, none, none, none, lm, hml, b1.at upd_same nb, B1, rfl⟩ (fun _ _ _ _ _ => True.intro) ?_ ?_
    · rintro i x σ G G' hi ⟨ls, u1, u2, u3, u4, u5, u6, hl, hll, hGb, bu, rfl⟩ ⟨e1, rfl⟩
      subst e1
      have hi2 : i < (1 + d).toNat := hi
      have lenM : (ms.map tx).length = r := by rw [List.length_map, lm]
      refine ⟨_, rfl, _, rfl, q, _, rfl, .inl (seqL_of (bu.at hq nq)), p, _, k + (39 - 4 * i - 1), rfl, bu.2.le (by omega), by rw [lenM]; omega, by rw [lenM]; omega, fun d2 G2 a0 a1 b2 => ?_⟩
      rw [lenM] at a1
      refine ⟨_, rfl, p, 5, k + (39 - 4 * i - 2), rfl, b2.2.le (by omega), by decide, by decide, fun d3 G3 a2 a3 b3 => ?_⟩
      refine ⟨_, rfl, _, rfl, _, _, rfl, rfl, p, _, k + (39 - 4 * i - 3), rfl, b3.2.le (by omega), by omega, by omega, fun d4 G4 a4 a5 b4 => ?_⟩
      refine ⟨_, rfl, p, 9, k + (39 - 4 * (i + 1)), rfl, b4.2.le (by omega), by decide, by decide, fun d5 G5 a6 a7 b5 => ?_⟩
      obtain ⟨sg, hsg⟩ := sign9 a6 a7
      have B5 : Bu (k + (39 - 4 * (i + 1))) p H G5 := ((((bu.trans b2).trans b3).trans b4).trans b5)
      have g5 : G5 b = some (.lst (ls.map tx)) := b5.at (b4.at (b3.at (b2.at hGb nb) nb) nb) nb
      obtain ⟨j, rfl⟩ : ∃ j : Nat, (j : Int) = d2 := ⟨d2.toNat, by omega⟩
      have hj : j < ls.length := by omega
      have hlj := List.getElem?_eq_getElem hj
      have ll : ls[j].length ≤ 10 + i := hll _ (List.getElem_mem _)
      obtain ⟨t, rfl⟩ : ∃ t : Nat, (t : Int) = d4 := ⟨d4.toNat, by omega⟩
      refine ⟨_, _, sg, rfl, rfl, by decide +kernel, hsg, ?_⟩
      refine ⟨_, rfl, _, rfl, b, _, j, tx ls[j], rfl, rfl, seqL_of g5, atI_nat (by rw [List.getElem?_map, hlj]; rfl), ?_⟩
      have c1 := cut_take ls[j] t
      have c2 := cut_drop ls[j] (t + 1)
      have c3 := cut_drop ls[j] t
      have ixj : ixN (ls.map tx).length ((j : Nat) : Int) = some j := by
        unfold ixN
        rw [List.length_map, if_pos (by omega), if_pos (by omega)]
        rfl
      have fin : ∀ (l' : List Nat), l'.length ≤ 11 + i → ∃ (ls2 : List (List Nat)), ls2.length = r ∧ (∀ l ∈ ls2, l.length ≤ 10 + (i + 1)) ∧ upd G5 b (.lst ((ls.map tx).set j (tx l'))) b = some (.lst (ls2.map tx)) ∧ Bu (k + (39 - 4 * (i + 1))) p H (upd G5 b (.lst ((ls.map tx).set j (tx l')))) := fun l' hl' => by
        refine ⟨ls.set j l', by rw [List.length_set, hl], fun l hl2 => ?_, by rw [upd_same, List.map_set], B5.put hbn nb⟩
        rcases List.mem_or_eq_of_mem_set hl2 with h | h
        · have := hll l h
          omega
        · rw [h]
          omega
      have stay : ∃ (ls2 : List (List Nat)), ls2.length = r ∧ (∀ l ∈ ls2, l.length ≤ 10 + (i + 1)) ∧ G5 b = some (.lst (ls2.map tx)) ∧ Bu (k + (39 - 4 * (i + 1))) p H G5 := ⟨ls, hl, fun l h => by have := hll l h; omega, g5, B5⟩
      have l1 : (ls[j].take t).length ≤ 10 + i := by rw [List.length_take]; omega
      have l2 : ∀ t, (ls[j].drop t).length ≤ ls[j].length := fun t => by rw [List.length_drop]; omega
      have l3 : (ls[j].take t).length + (ls[j].drop (t + 1)).length ≤ ls[j].length := by rw [List.length_take, List.length_drop]; omega
      have l4 : (ls[j].take t).length + (ls[j].drop t).length ≤ ls[j].length := by rw [List.length_take, List.length_drop]; omega
      have sz : (S ls[j]).length ≤ sizeLine := by rw [S_len]; exact szl (by omega)
      have ct1 : ((t : Nat) : Int) + 1 = ((t + 1 : Nat) : Int) := by omega
      refine ⟨_, rfl, rfl, _, rfl, ite2 (fun w0 => ?_) (fun w0 => ?_)⟩
      · refine ⟨_, rfl, _, rfl, _, rfl, _, rfl, sz, ?_⟩
        rw [c1]
        refine ⟨_, rfl, S (ls[j].take t), S [sg], rfl, rfl, by rw [S_len, S_len]; exact szl (by show _ + 1 ≤ 100000; omega), ?_⟩
        rw [S_app]
        refine ⟨_, rfl, _, rfl, _, _, rfl, rfl, _, rfl, _, rfl, sz, ?_⟩
        rw [ct1, c2]
        refine ⟨_, _, rfl, rfl, by rw [S_len, S_len, List.length_append]; exact szl (by show _ + 1 + _ ≤ 100000; omega), ?_⟩
        rw [S_app]
        obtain ⟨ls2, e1, e2, e3, e4⟩ := fin (ls[j].take t ++ [sg] ++ ls[j].drop (t + 1)) (by rw [List.length_append, List.length_append]; show _ + 1 + _ ≤ _; omega)
        exact ⟨_, rfl, _, rfl, b, _, j, j, rfl, rfl, g5, ixj, ls2, _, _, _, _, _, _, e1, e2, e3, e4, rfl⟩
      · refine ⟨_, rfl, rfl, _, rfl, ite2 (fun w1 => ?_) (fun w1 => ?_)⟩
        · refine ⟨_, rfl, _, rfl, _, rfl, _, rfl, sz, ?_⟩
          rw [c1]
          refine ⟨S (ls[j].take t), S [48], rfl, congrArg V.str (by decide +kernel), by rw [S_len, S_len]; exact szl (by show _ + 1 ≤ 100000; omega), ?_⟩
          rw [S_app]
          refine ⟨_, rfl, _, rfl, _, rfl, _, rfl, sz, ?_⟩
          rw [c3]
          refine ⟨_, _, rfl, rfl, by rw [S_len, S_len, List.length_append]; exact szl (by show _ + 1 + _ ≤ 100000; omega), ?_⟩
          rw [S_app]
          obtain ⟨ls2, e1, e2, e3, e4⟩ := fin (ls[j].take t ++ [48] ++ ls[j].drop t) (by rw [List.length_append, List.length_append]; show _ + 1 + _ ≤ _; omega)
          exact ⟨_, rfl, _, rfl, b, _, j, j, rfl, rfl, g5, ixj, ls2, _, _, _, _, _, _, e1, e2, e3, e4, rfl⟩
        · refine ⟨_, rfl, rfl, _, rfl, ite2 (fun w2 => ?_) (fun w2 => ?_)⟩
          · refine ⟨_, rfl, _, rfl, _, rfl, _, rfl, sz, ?_⟩
            rw [c1]
            refine ⟨_, rfl, _, rfl, _, _, rfl, rfl, _, rfl, _, rfl, sz, ?_⟩
            rw [ct1, c2]
            refine ⟨_, _, rfl, rfl, by rw [S_len, S_len]; exact szl (by omega), ?_⟩
            rw [S_app]
            obtain ⟨ls2, e1, e2, e3, e4⟩ := fin (ls[j].take t ++ ls[j].drop (t + 1)) (by rw [List.length_append]; omega)
            exact ⟨_, rfl, _, rfl, b, _, j, j, rfl, rfl, g5, ixj, ls2, _, _, _, _, _, _, e1, e2, e3, e4, rfl⟩
          · refine ⟨_, rfl, rfl, _, rfl, ite2 (fun w3 => ?_) (fun w3 => ?_)⟩
            · obtain ⟨ls2, e1, e2, e3, e4⟩ := fin [] (Nat.zero_le _)
              rw [show V.str (Str.ofString "") = tx [] from congrArg V.str lit_e]
              exact ⟨_, rfl, _, rfl, b, _, j, j, rfl, rfl, g5, ixj, ls2, _, _, _, _, _, _, e1, e2, e3, e4, rfl⟩
            · obtain ⟨ls2, e1, e2, e3, e4⟩ := stay
              exact ⟨ls2, _, _, _, _, _, _, e1, e2, e3, e4, rfl⟩
    · rintro σ G ⟨ls, u1, u2, u3, u4, u5, u6, hl, hll, hGb, bu, rfl⟩
      have hll : ∀ l ∈ ls, l.length ≤ 12 := fun l h => by
        have := hll l h
        have e : (((1 + d).toNat : Nat) : Int).toNat = (1 + d).toNat := rfl
        omega
      have hcount : (((1 + d).toNat : Nat) : Int).toNat ≤ 2 := lensLt
      refine ⟨_, rfl, p, 6, k + 20, rfl, bu.2.le (by omega), by decide, by decide, fun d9 G9 a0 a1 b9 => ?_⟩
      have B9 : Bu (k + 20) p H G9 := bu.trans b9
      have g9 : G9 b = some (.lst (ls.map tx)) := b9.at hGb nb
      have q9 : G9 q = some (.lst (ms.map tx)) := B9.at hq nq
      have lens : (ls.map tx).length = r := by rw [List.length_map, hl]
      have done : ∀ (M : Hp) (x : Addr) (l2 : List (List Nat)), Same G9 M → M x = none → l2.length ≤ 4 → (∀ l ∈ l2, l.length ≤ 20) → Q (.ref x) (upd M x (.lst (l2.map tx))) := fun M x l2 sm hx h1 h2 =>
        z _ x l2 ((B9.same (sm.trans (ex_new hx))).le (by omega)) (B9.free (free_same sm hx)) upd_same h1 h2
      refine ⟨_, rfl, rfl, _, rfl, ite2 (fun w0 => ?_) (fun w0 => ?_)⟩
      · refine ⟨_, rfl, by show 1 ≤ sizeLine; decide, fun x1 h1 => ⟨b, x1, _, _, rfl, rfl, ex_new h1 _ _ g9, upd_same, szl (by rw [lens]; show r + 1 ≤ 100000; omega), fun x2 h2 => ?_⟩⟩
        have e : ls.map tx ++ [V.str (Str.ofString "")] = (ls ++ [[]]).map tx := by
          rw [List.map_append, show V.str (Str.ofString "") = tx [] from congrArg V.str lit_e]
          rfl
        rw [e]
        exact done _ x2 _ (ex_new h1) h2 (by rw [List.length_append, hl]; show r + 1 ≤ 4; omega) fun l hm => by
          rcases List.mem_append.mp hm with h | h
          · have := hll l h
            omega
          · rw [List.mem_singleton.mp h]
            exact Nat.zero_le _
      · refine ⟨_, rfl, rfl, _, rfl, ite2 (fun w1 => ?_) (fun w1 => ?_)⟩
        · obtain ⟨m0, hm0⟩ : ∃ m0, ms[0]? = some m0 := ⟨_, List.getElem?_eq_getElem (by omega)⟩
          refine ⟨_, rfl, _, rfl, q, _, 0, tx m0, rfl, rfl, seqL_of q9, atI_nat (j := 0) (by rw [List.getElem?_map, hm0]; rfl), by show 1 ≤ sizeLine; decide, fun x1 h1 => ⟨b, x1, _, _, rfl, rfl, ex_new h1 _ _ g9, upd_same, szl (by rw [lens]; show r + 1 ≤ 100000; omega), fun x2 h2 => ?_⟩⟩
          have e : ls.map tx ++ [tx m0] = (ls ++ [m0]).map tx := by
            rw [List.map_append]
            rfl
          rw [e]
          exact done _ x2 _ (ex_new h1) h2 (by rw [List.length_append, hl]; show r + 1 ≤ 4; omega) fun l hm => by
            rcases List.mem_append.mp hm with h | h
            · have := hll l h
              omega
            · rw [List.mem_singleton.mp h]
              have := hml m0 (List.mem_of_getElem? hm0)
              omega
        · refine ⟨_, rfl, rfl, _, rfl, ite2 (fun w2 => ?_) (fun w2 => ?_)⟩
          · refine ⟨_, rfl, _, rfl, _, rfl, b, _, rfl, seqL_of g9, fun x1 h1 => ?_⟩
            rw [cutM_last]
            exact done _ x1 _ (.refl _) h1 (by rw [List.length_take]; omega) fun l hm => by
              have := hll l (List.mem_of_mem_take hm)
              omega
          · exact ⟨_, rfl, z G9 b ls (B9.le (by omega)) hbn g9 (by omega) fun l h => by have := hll l h; omega⟩
end
end K16
end
section
set_option Elab.async false
set_option linter.all false
set_option maxRecDepth 100000
set_option maxHeartbeats 4000000
namespace K16
open PySem PySem.Spec PyProof.Rows L2 Kit
section
variable {P : Program} {w : World} {K : PySem.W.Frag} {mg : Str → Option Value} {base : Heap} {a : Ad}
def spTruth : Sp := fun vs H Q _ => ∃ x y : Bool, vs = [.bl x, .bl y] ∧ Q (.bl (x == y)) H
theorem c_law_truth (T : Txt K mg a) : Can P w K mg base 1 "_law_truth" spTruth := by
  refine can_of T.d_law_truth sc_law_truth bd_law_truth (fun vs H Q E h => ?_) (fun f cdv A outer s H vs Q E hr h => ?_)
  · obtain ⟨x, y, rfl, _⟩ := h
    rfl
  · obtain ⟨x, y, rfl, z⟩ := h
    refine ⟨_, (pss_one (ps_ret (pe_and (pe_callB (kisi K) (by rfl) T.b_isinstance (by decide +kernel) (pa_cons (pv 0) (pa_cons (pe_bltn (v := .ty "bool") (by rfl) T.b_bool (by decide +kernel) rfl) pa_nil))) (pe_one (pe_cmpR op_eq (pv 0) (pv 1) (nomark _)))))), ?_⟩
    refine ⟨_, rfl, _, _, _, _, true, rfl, .ty _, .base (.bl x), rfl, _, rfl, iteT ⟨_, rfl, _, rfl, rfl, ?_⟩⟩
    have e : decide (V.bl x = V.bl y) = (x == y) := by cases x <;> cases y <;> rfl
    rw [e]
    exact z
theorem xdok {d : Addr} {M : Hp} {fs : List (Str × V)} (h : M d = some (.xd fs)) : XdOk (some d) M := fun dd e => by
  cases e
  exact ⟨fs, h⟩
theorem xdno {M : Hp} : XdOk none M := fun dd e => nomatch e
def spBadS (a : Ad) : Sp := fun vs H Q _ => ∃ (p s q : Addr) (r c n : Nat) (l : List Nat) (ms : List (List Nat)), vs = [.ref p, tx l] ∧ PaintAt a H p s q r c n ms ∧ l.length ≤ 1000 ∧ isStrip n l = false ∧ ∀ G, Same H G → Q (.bl true) G
theorem c_law_bad_strip (T : Txt K mg a) : Can P w K mg base 9 "_law_bad_strip" (spBadS a) := by
  refine can_of T.d_law_bad_strip sc_law_bad_strip bd_law_bad_strip (fun vs H Q E h => ?_) (fun f cdv A outer s H vs Q E hr h => ?_)
  · obtain ⟨p, s, q, r, c, n, l, ms, rfl, _⟩ := h
    rfl
  · obtain ⟨p, s, q, r, c, n, l, ms, rfl, pa, hl, hst, z⟩ := h
    refine ⟨_, (pss_cons (ps_try_as (i := 2) (tb := _) rfl rfl sc_law_bad_strip.nd rfl rfl ⟨rfl, by decide, .inl T.e_BadStrip.gC⟩ takes0 (fun W pn xe tk po => (pss_one (ps_expr (pc_cS (c_Paint___call__ T) tk hr (by decide) (pv 0) (pa_cons (pv 1) pa_nil))))) (fun ae oe cls d pn hz hf => (pss_one (ps_ret (pe_and (pe_callB (call_isU hz hf) (by rfl) T.b_isinstance (by decide +kernel) (pa_cons (pv 2) (pa_cons (pe_glob (v := .ref a.GalloonError) (by rfl) T.g_GalloonError rfl) pa_nil))) (pe_and (pe_callB (call_isU hz hf) (by rfl) T.b_isinstance (by decide +kernel) (pa_cons (pv 2) (pa_cons (pe_bltn (v := .ty "ValueError") (by rfl) T.b_ValueError (by decide +kernel) rfl) pa_nil))) (pe_one (pe_cmpR op_eq (pe_xu hz hf (pv 2)) (pv 1) (nomark _)))))))))
      (pss_one (ps_ret pe_bl))), ?_⟩
    obtain ⟨dx, hp⟩ := pa.ob
    refine ⟨_, rfl, p, rfl, _, rfl, ⟨dx, _, hp⟩, p, s, q, r, c, n, l, ms, rfl, pa, hl, fun e => (by rw [hst] at e; cases e), fun _ d M s1 hd => ⟨true, T.xo_e 3 (by decide) 3 (by decide), fun _ x hx => ?_, nofun⟩⟩
    refine ⟨_, rfl, a.BadStrip, _, _, true, rfl, T.x_BadStrip, xdok hd, rfl, fun u h => h, T.kg_e 3 (by decide), _, rfl, iteT ⟨_, rfl, a.BadStrip, _, _, true, rfl, T.x_BadStrip, xdok hd, rfl, ?_, T.kv_e 3 (by decide), _, rfl, iteT ?_⟩⟩
    · exact fun u h => h
    · refine ⟨_, rfl, a.BadStrip, d, _, tx l, rfl, rfl, T.x_BadStrip.xf, T.e_BadStrip.noF, rfl, hd, by rw [List.lookup_cons, beq_self_eq_true], _, rfl, rfl, ?_⟩
      rw [decide_eq_true rfl]
      exact z M s1
def spUnl (a : Ad) : Sp := fun vs H Q _ => ∃ (p p2 s q s2 q2 : Addr) (r c n r2 c2 n2 : Nat) (ms ms2 : List (List Nat)), vs = [.ref p, .ref p2] ∧ PaintAt a H p s q r c n ms ∧ PaintAt a H p2 s2 q2 r2 c2 n2 ms2 ∧ ¬ (r = r2 ∧ c = c2) ∧ ∀ G, Same H G → Q (.bl true) G
theorem c_law_unlike (T : Txt K mg a) : Can P w K mg base 7 "_law_unlike" (spUnl a) := by
  refine can_of T.d_law_unlike sc_law_unlike bd_law_unlike (fun vs H Q E h => ?_) (fun f cdv A outer s H vs Q E hr h => ?_)
  · obtain ⟨p, p2, s, q, s2, q2, r, c, n, r2, c2, n2, ms, ms2, rfl, _⟩ := h
    rfl
  · obtain ⟨p, p2, s, q, s2, q2, r, c, n, r2, c2, n2, ms, ms2, rfl, pa, pb, hne, z⟩ := h
    refine ⟨_, (pss_cons (ps_try_as (i := 3) (tb := _) rfl rfl sc_law_unlike.nd rfl rfl ⟨rfl, by decide, .inl T.z_UnlikeSchemes.gC⟩ takes0 (fun W pn xe tk po => (pss_one (ps_set (i := 2) sc_law_unlike.nd rfl (.inl rfl) (pe_opS (c_Paint_mul T) tk hr (by decide) T.p_sf (pv 0) (pv 1))))) (fun ae oe cls d pn hz hf => (pss_one (ps_ret (pe_and (pe_callB (call_isU hz hf) (by rfl) T.b_isinstance (by decide +kernel) (pa_cons (pv 3) (pa_cons (pe_glob (v := .ref a.GalloonError) (by rfl) T.g_GalloonError rfl) pa_nil))) (pe_one (pe_callB (call_isU hz hf) (by rfl) T.b_isinstance (by decide +kernel) (pa_cons (pv 3) (pa_cons (pe_bltn (v := .ty "ValueError") (by rfl) T.b_ValueError (by decide +kernel) rfl) pa_nil)))))))))
      (pss_one (ps_ret pe_bl))), ?_⟩
    obtain ⟨dx, hp⟩ := pa.ob
    obtain ⟨dy, hp2⟩ := pb.ob
    refine ⟨_, rfl, _, rfl, p, dx, _, p2, dy, _, rfl, hp, rfl, hp2, p, p2, s, q, s2, q2, r, c, n, r2, c2, n2, ms, ms2, rfl, pa, pb, fun e => absurd e hne, fun _ M s1 => ⟨true, T.xo_e 7 (by decide) 7 (by decide), fun _ x hx => ?_, nofun⟩⟩
    refine ⟨_, rfl, a.UnlikeSchemes, _, _, true, rfl, T.x_UnlikeSchemes, xdno, rfl, fun u h => h, T.kg_e 7 (by decide), _, rfl, iteT ⟨_, rfl, a.UnlikeSchemes, _, _, true, rfl, T.x_UnlikeSchemes, xdno, rfl, fun u h => h, T.kv_e 7 (by decide), z M s1⟩⟩
end
end K16

end
section
set_option Elab.async false
set_option linter.all false
set_option maxRecDepth 100000
set_option maxHeartbeats 4000000
namespace K16
open PySem PySem.Spec PyProof.Rows L2 Kit
section
variable {P : Program} {w : World} {K : PySem.W.Frag} {mg : Str → Option Value} {base : Heap} {a : Ad}
def spRefu (a : Ad) (K : PySem.W.Frag) : Sp := fun vs H Q _ => ∃ (s q : Addr) (r c n : Nat) (ms ls : List (List Nat)) (y : V), vs = [.ref s, .ref q, y] ∧ SchemeAt a.Scheme H s r c n ∧ SqL K H q (ms.map tx) ∧ ms.length ≤ 500 ∧ (∀ m ∈ ms, m.length ≤ 1000) ∧
  ((y = .non ∧ ls = ms) ∨ ∃ l, y = tx l ∧ l.length ≤ 500 ∧ Txt.split (S l) (Str.ofString "/") = ls.map S) ∧ ∀ G, Same H G → Q (resV (badRow r c ls)) G
theorem c_law_refused (T : Txt K mg a) : Can P w K mg base 7 "_law_refused" (spRefu a K) := by
  refine can_of T.d_law_refused sc_law_refused bd_law_refused (fun vs H Q E h => ?_) (fun f cdv A outer s H vs Q E hr h => ?_)
  · obtain ⟨s, q, r, c, n, ms, ls, y, rfl, _⟩ := h
    rfl
  · obtain ⟨s, q, r, c, n, ms, ls, y, rfl, sch, hq, hl, hml, hy, z⟩ := h
    refine ⟨_, (pss_cons (ps_set (i := 3) sc_law_refused.nd rfl (.inl rfl) (pe_callTy (klist_of K) (by rfl) T.b_list (by decide +kernel) (pa_cons (pv 1) pa_nil)))
      (pss_cons (ps_set (i := 4) sc_law_refused.nd rfl (.inl rfl) pe_non)
      (C8.pss_cut (ps_try_as (i := 5) (tb := _) rfl rfl sc_law_refused.nd rfl rfl ⟨rfl, by decide, .inl T.g_GalloonError⟩ takes0 (fun W pn xe tk po => (pss_one (ps_if (pt_cmpR op_isN (pv 2) pe_non (nomark _)) (pss_one (ps_expr (pc_nS (c_Paint_init T) tk hr (by decide) (by rfl) (pa_cons (pv 0) (pa_cons (pv 3) pa_nil))))) (pss_one (ps_expr (pc_cmS (c_Paint_read T) tk hr (by decide) (pe_glob (v := .ref a.Paint) (by rfl) T.c_Paint.gC rfl) (pa_cons (pv 0) (pa_cons (pv 2) pa_nil)))))))) (fun ae oe cls d pn hz hf => (pss_cons (ps_set (i := 4) sc_law_refused.nd rfl (.inl rfl) pe_str)
      (pss_cons (ps_if (PW.pt (pw_and (pt_val (pe_callB (call_isU hz hf) (by rfl) T.b_isinstance (by decide +kernel) (pa_cons (pv 5) (pa_cons (pe_glob (v := .ref a.BadPaint) (by rfl) T.e_BadPaint.gC rfl) pa_nil)))) (pw_and (pt_val (pe_callB (call_isU hz hf) (by rfl) T.b_isinstance (by decide +kernel) (pa_cons (pv 5) (pa_cons (pe_bltn (v := .ty "ValueError") (by rfl) T.b_ValueError (by decide +kernel) rfl) pa_nil)))) (pw_and1 (pt_val (pe_callB (kisi K) (by rfl) T.b_isinstance (by decide +kernel) (pa_cons (pe_xu hz hf (pv 5)) (pa_cons (pe_bltn (v := .ty "int") (by rfl) T.b_int (by decide +kernel) rfl) pa_nil)))))))) (pss_one (ps_set (i := 4) sc_law_refused.nd rfl (.inl rfl) (pe_xu hz hf (pv 5)))) pss_nil)
      (pss_one (ps_if (PW.pt (pw_or (pt_val (pe_callB (call_isU hz hf) (by rfl) T.b_isinstance (by decide +kernel) (pa_cons (pv 5) (pa_cons (pe_glob (v := .ref a.BadMask) (by rfl) T.e_BadMask.gC rfl) pa_nil)))) (pw_or (pt_val (pe_callB (call_isU hz hf) (by rfl) T.b_isinstance (by decide +kernel) (pa_cons (pv 5) (pa_cons (pe_glob (v := .ref a.BadIndex) (by rfl) T.e_BadIndex.gC rfl) pa_nil)))) (pw_or (pt_val (pe_callB (call_isU hz hf) (by rfl) T.b_isinstance (by decide +kernel) (pa_cons (pv 5) (pa_cons (pe_glob (v := .ref a.BadScheme) (by rfl) T.e_BadScheme.gC rfl) pa_nil)))) (pw_or1 (pt_val (pe_callB (kisi K) (by rfl) T.b_isinstance (by decide +kernel) (pa_cons (pv 4) (pa_cons (pe_bltn (v := .ty "bool") (by rfl) T.b_bool (by decide +kernel) rfl) pa_nil))))))))) (pss_one (ps_set (i := 4) sc_law_refused.nd rfl (.inl rfl) pe_str)) pss_nil))))))
      (pss_cons (ps_if (pt_cmpR (kneP K hr.units) (pv 3) (pe_callTy (klist_of K) (by rfl) T.b_list (by decide +kernel) (pa_cons (pv 1) pa_nil)) (nomark _)) (pss_one (ps_ret pe_str)) pss_nil)
      (pss_one (ps_ret (pv 4))))))), ?_⟩
    refine ⟨_, rfl, q, _, rfl, .inl hq, fun b hb => ?_⟩
    have s0 := ex_new (o := .lst (ms.map tx)) hb
    have lens : (ms.map tx).length ≤ sizeLine := by rw [List.length_map]; exact szl (by omega)
    refine ⟨fun σ G => Same (upd H b (.lst (ms.map tx))) G ∧ σ = [some (.ref s), some (.ref q), some y, some (.ref b), some (resV (badRow r c ls)), none], ?_, ?_⟩
    · rcases hy with ⟨rfl, rfl⟩ | ⟨l, rfl, hll, hsp⟩
      · refine ⟨_, rfl, rfl, _, rfl, iteT ⟨_, rfl, _, rfl, fun y dx hy hdx hne => ?_⟩⟩
        obtain ⟨sch2, nsy, s3⟩ := made (a := a) hy hdx hne (sch.mono s0)
        obtain ⟨hq2, nqy⟩ := sql_ne (K := K) (o := .own y) (o2 := .ins a.Paint dx []) hy hdx hne (upd_same (H := H))
        refine ⟨y, dx, s, b, r, c, n, ls, rfl, upd_same, sch2, hq2, by omega, hml, nsy, nqy, fun i hi d M s4 hd => ⟨true, T.xm_e 5 (by decide), fun _ x hx => ?_, nofun⟩, fun ok G q2 g1 g2 g3 g4 g5 => ⟨rfl, ?_⟩⟩
        · have lk : ([(("row" : Str), V.int i)]).lookup ("row" : Str) = some (V.int i) := by rw [List.lookup_cons, beq_self_eq_true]
          refine ⟨_, rfl, a.BadPaint, _, _, true, rfl, T.x_BadPaint, xdok hd, rfl, fun u h => h, T.kk_e 5 (by decide) 5 (by decide), _, rfl, iteT ⟨_, rfl, a.BadPaint, _, _, true, rfl, T.x_BadPaint, xdok hd, rfl, fun u h => h, T.kv_e 5 (by decide), _, rfl, iteT ⟨_, rfl, a.BadPaint, d, _, V.int i, rfl, rfl, T.x_BadPaint.xf, T.e_BadPaint.noF, rfl, hd, lk, _, _, _, _, true, rfl, .ty _, .base (.int i), rfl, _, rfl, iteT ⟨_, rfl, a.BadPaint, d, _, V.int i, rfl, rfl, T.x_BadPaint.xf, T.e_BadPaint.noF, rfl, hd, lk, ?_⟩⟩⟩⟩
          refine ⟨_, rfl, a.BadPaint, _, _, false, rfl, T.x_BadPaint, xdok hd, rfl, fun u h => h, T.kk_e 5 (by decide) 6 (by decide), _, rfl, iteF ⟨_, rfl, a.BadPaint, _, _, false, rfl, T.x_BadPaint, xdok hd, rfl, fun u h => h, T.kk_e 5 (by decide) 4 (by decide), _, rfl, iteF ⟨_, rfl, a.BadPaint, _, _, false, rfl, T.x_BadPaint, xdok hd, rfl, fun u h => h, T.kk_e 5 (by decide) 0 (by decide), _, rfl, iteF ⟨_, rfl, _, _, _, _, false, rfl, .ty _, .base (.int i), rfl, _, rfl, iteF ?_⟩⟩⟩⟩
          rw [hi]
          exact ⟨s3.trans s4, rfl⟩
        · obtain ⟨sm, pa, fq⟩ := after hy hdx hne (sch.mono s0) ok g1 g2 g3 g4 g5
          rw [badRow_none ok]
          exact ⟨sm, rfl⟩
      · refine ⟨_, rfl, rfl, _, rfl, iteF ⟨rfl, _, rfl, _, rfl, s, r, c, n, l, ls, rfl, sch.mono s0, hll, hsp, fun i hi d M s4 hd => ⟨true, T.xm_e 5 (by decide), fun _ x hx => ?_, nofun⟩, fun ok G p' q' sm hp' hq' pa => ?_⟩⟩
        · have s3 := Same.refl (upd H b (.lst (ms.map tx)))
          have lk : ([(("row" : Str), V.int i)]).lookup ("row" : Str) = some (V.int i) := by rw [List.lookup_cons, beq_self_eq_true]
          refine ⟨_, rfl, a.BadPaint, _, _, true, rfl, T.x_BadPaint, xdok hd, rfl, fun u h => h, T.kk_e 5 (by decide) 5 (by decide), _, rfl, iteT ⟨_, rfl, a.BadPaint, _, _, true, rfl, T.x_BadPaint, xdok hd, rfl, fun u h => h, T.kv_e 5 (by decide), _, rfl, iteT ⟨_, rfl, a.BadPaint, d, _, V.int i, rfl, rfl, T.x_BadPaint.xf, T.e_BadPaint.noF, rfl, hd, lk, _, _, _, _, true, rfl, .ty _, .base (.int i), rfl, _, rfl, iteT ⟨_, rfl, a.BadPaint, d, _, V.int i, rfl, rfl, T.x_BadPaint.xf, T.e_BadPaint.noF, rfl, hd, lk, ?_⟩⟩⟩⟩
          refine ⟨_, rfl, a.BadPaint, _, _, false, rfl, T.x_BadPaint, xdok hd, rfl, fun u h => h, T.kk_e 5 (by decide) 6 (by decide), _, rfl, iteF ⟨_, rfl, a.BadPaint, _, _, false, rfl, T.x_BadPaint, xdok hd, rfl, fun u h => h, T.kk_e 5 (by decide) 4 (by decide), _, rfl, iteF ⟨_, rfl, a.BadPaint, _, _, false, rfl, T.x_BadPaint, xdok hd, rfl, fun u h => h, T.kk_e 5 (by decide) 0 (by decide), _, rfl, iteF ⟨_, rfl, _, _, _, _, false, rfl, .ty _, .base (.int i), rfl, _, rfl, iteF ?_⟩⟩⟩⟩
          rw [hi]
          exact ⟨s3.trans s4, rfl⟩
        · rw [badRow_none ok]
          exact ⟨sm, rfl⟩
    · rintro σ G ⟨sm, rfl⟩
      have hbG := sm _ _ upd_same
      refine ⟨_, rfl, _, rfl, q, _, rfl, .inl (SqLm hq (s0.trans sm)), fun b2 hb2 => ⟨pdL ms, pdL ms, dp_txt (ex_new hb2 _ _ hbG), dp_txt upd_same, plainL ms, plainL ms, depthL ms, _, rfl, itN (by rw [SeqAt.eqv_refl_plain _ (plainL ms)]; decide) ⟨_, rfl, z _ ((s0.trans sm).trans (ex_new hb2))⟩⟩⟩
end
end K16

end
section
set_option Elab.async false
set_option linter.all false
set_option maxRecDepth 100000
set_option maxHeartbeats 4000000
namespace K16
open PySem PySem.Spec PyProof.Rows L2 Kit
section
variable {P : Program} {w : World} {K : PySem.W.Frag} {mg : Str → Option Value} {base : Heap} {a : Ad}
/-! ### products of paints: plain facts -/
theorem digBy_map {c x : Nat} {m l : List Nat} (hm : isDigs c c m = true) (hx : inDig c x = true) : digBy (m.map (digBy l)) x = digBy l (digBy m x) := by
  obtain ⟨h1, _⟩ := digBy_ok hm hx
  have e : digBy (m.map (digBy l)) x = ((m.map (digBy l))[x - 48]?).getD 0 := by
    unfold digBy
    rw [List.getD_eq_getElem?_getD]
  rw [e, List.getElem?_map, h1]
  rfl
theorem paintD_mul {r c : Nat} {ms ms2 : List (List Nat)} {d : List Nat} (ok : okM r c ms = true) (ok2 : okM r c ms2 = true) (hd : isDigs r c d = true) : paintD (mulM ms ms2) d = paintD ms2 (paintD ms d) := by
  have l1 := okM_len ok
  have l2 := okM_len ok2
  have l3 := digs_len hd
  refine List.ext_getElem? fun i => ?_
  unfold paintD
  by_cases hi : i < r
  · obtain ⟨m, hm⟩ : ∃ m, ms[i]? = some m := ⟨_, List.getElem?_eq_getElem (by omega)⟩
    obtain ⟨l, hl⟩ : ∃ l, ms2[i]? = some l := ⟨_, List.getElem?_eq_getElem (by omega)⟩
    obtain ⟨x, hx⟩ : ∃ x, d[i]? = some x := ⟨_, List.getElem?_eq_getElem (by omega)⟩
    rw [List.getElem?_zipWith, mulM_at hm hl, hx, List.getElem?_zipWith, hl, List.getElem?_zipWith, hm, hx]
    show some (digBy (m.map (digBy l)) x) = some (digBy l (digBy m x))
    rw [digBy_map (okM_at ok hm) (digs_at hd hx)]
  · rw [List.getElem?_eq_none (by rw [List.length_zipWith]; omega), List.getElem?_eq_none (by rw [List.length_zipWith, List.length_zipWith]; omega)]
theorem paint_strip {r c n : Nat} {ms : List (List Nat)} (gd : Good r c n) (ok : okM r c ms = true) (l : List Nat) : isStrip n (paintS r c ms l) = true := by
  unfold isStrip paintS
  rw [List.all_map, List.all_eq_true]
  intro x hx
  exact paintC_in gd ok x
theorem paint_mul {r c n : Nat} {ms ms2 : List (List Nat)} {l : List Nat} (gd : Good r c n) (ok : okM r c ms = true) (ok2 : okM r c ms2 = true) : paintS r c (mulM ms ms2) l = paintS r c ms2 (paintS r c ms l) := by
  have gc := good_c gd
  unfold paintS
  rw [List.map_map]
  refine List.map_congr_left fun x _ => ?_
  show paintC r c (mulM ms ms2) x = paintC r c ms2 (paintC r c ms x)
  have hd : isDigs r c (dig r c (x - 97)) = true := dig_digs (by omega)
  unfold paintC
  rw [show 97 + num c (paintD ms (dig r c (x - 97))) - 97 = num c (paintD ms (dig r c (x - 97))) by omega, dig_num gd (paintD_ok ok hd), paintD_mul ok ok2 hd]
theorem digBy_id {c x : Nat} (hx : inDig c x = true) : digBy (digs c) x = x := by
  unfold inDig at hx
  rw [decide_eq_true_iff] at hx
  unfold digBy digs
  rw [List.getD_eq_getElem?_getD, List.getElem?_map, List.getElem?_range (by omega)]
  show 48 + (x - 48) = x
  omega
theorem idM_at {r c i : Nat} (h : i < r) : (idM r c)[i]? = some (digs c) := by
  unfold idM
  rw [List.getElem?_replicate, if_pos h]
theorem paintD_id {r c : Nat} {d : List Nat} (hd : isDigs r c d = true) : paintD (idM r c) d = d := by
  have l3 := digs_len hd
  have l1 := okM_len (idM_ok r c)
  refine List.ext_getElem? fun i => ?_
  unfold paintD
  by_cases hi : i < r
  · obtain ⟨x, hx⟩ : ∃ x, d[i]? = some x := ⟨_, List.getElem?_eq_getElem (by omega)⟩
    rw [List.getElem?_zipWith, idM_at hi, hx]
    show some (digBy (digs c) x) = some x
    rw [digBy_id (digs_at hd hx)]
  · rw [List.getElem?_eq_none (by rw [List.length_zipWith]; omega), List.getElem?_eq_none (by omega)]
theorem paint_id {r c n : Nat} {l : List Nat} (gd : Good r c n) (hl : isStrip n l = true) : paintS r c (idM r c) l = l := by
  have gc := good_c gd
  unfold paintS
  refine (List.map_congr_left fun x hx => ?_).trans (List.map_id _)
  obtain ⟨i, hi⟩ := List.mem_iff_getElem?.mp hx
  have hin := strip_at hl hi
  unfold inCol at hin
  rw [decide_eq_true_iff] at hin
  show paintC r c (idM r c) x = x
  unfold paintC
  rw [paintD_id (dig_digs (by omega)), num_dig gd (by omega)]
  omega
theorem digBy_back {c x : Nat} {m : List Nat} (hm : isDigs c c m = true) (nd : m.Nodup) (hx : inDig c x = true) : digBy (backM c m) (digBy m x) = x ∧ digBy m (digBy (backM c m) x) = x := by
  have bk : ∀ y, inDig c y = true → digBy (backM c m) y = 48 + m.idxOf y := fun y hy => by
    have h0 := hy
    unfold inDig at h0
    rw [decide_eq_true_iff] at h0
    unfold digBy backM digs
    rw [List.getD_eq_getElem?_getD, List.getElem?_map, List.getElem?_map, List.getElem?_range (by omega)]
    show 48 + m.idxOf (48 + (y - 48)) = _
    rw [show 48 + (y - 48) = y by omega]
  obtain ⟨h1, h2⟩ := digBy_ok hm hx
  have h0 := hx
  unfold inDig at h0
  rw [decide_eq_true_iff] at h0
  constructor
  · rw [bk _ h2]
    obtain ⟨i1, i2⟩ := idx_lt hm nd h2
    have hl := digs_len hm
    have := (List.getElem?_inj (by omega) nd).mp (i2.trans h1.symm)
    omega
  · rw [bk _ hx]
    obtain ⟨i1, i2⟩ := idx_lt hm nd hx
    unfold digBy
    rw [List.getD_eq_getElem?_getD, show 48 + m.idxOf x - 48 = m.idxOf x by omega, i2]
    rfl
theorem map_back_id {c : Nat} {m : List Nat} (hm : isDigs c c m = true) (nd : m.Nodup) : m.map (digBy (backM c m)) = digs c ∧ (backM c m).map (digBy m) = digs c := by
  have hl := digs_len hm
  have hb := backM_ok hm nd
  have hbl := digs_len hb
  have at_ : ∀ (l k : List Nat), isDigs c c l = true → (∀ x, inDig c x = true → digBy k (digBy l x) = x) → l.map (digBy k) = digs c := fun l k h f => by
    refine List.ext_getElem? fun i => ?_
    have ll := digs_len h
    by_cases hi : i < c
    · have hin : inDig c (48 + i) = true := by
        unfold inDig
        rw [decide_eq_true_iff]
        omega
      have h1 := (digBy_ok h hin).1
      rw [show 48 + i - 48 = i by omega] at h1
      rw [List.getElem?_map, h1]
      show some (digBy k (digBy l (48 + i))) = _
      rw [f _ hin]
      unfold digs
      rw [List.getElem?_map, List.getElem?_range hi]
      rfl
    · rw [List.getElem?_eq_none (by rw [List.length_map]; omega), List.getElem?_eq_none (by rw [digs_len']; omega)]
  exact ⟨at_ m (backM c m) hm fun x hx => (digBy_back hm nd hx).1, at_ (backM c m) m hb fun x hx => (digBy_back hm nd hx).2⟩
theorem mul_back {r c : Nat} {ms : List (List Nat)} (ok : okM r c ms = true) (h : allNd ms = true) : mulM ms (ms.map (backM c)) = idM r c ∧ mulM (ms.map (backM c)) ms = idM r c := by
  have lm := okM_len ok
  have key : ∀ (xs ys : List (List Nat)), xs.length = r → ys.length = r → (∀ (i : Nat) (m l : List Nat), xs[i]? = some m → ys[i]? = some l → m.map (digBy l) = digs c) → mulM xs ys = idM r c := fun xs ys h1 h2 f => by
    refine List.ext_getElem? fun i => ?_
    by_cases hi : i < r
    · obtain ⟨m, hm⟩ : ∃ m, xs[i]? = some m := ⟨_, List.getElem?_eq_getElem (by omega)⟩
      obtain ⟨l, hl⟩ : ∃ l, ys[i]? = some l := ⟨_, List.getElem?_eq_getElem (by omega)⟩
      rw [mulM_at hm hl, f i m l hm hl, idM_at hi]
    · rw [List.getElem?_eq_none (by unfold mulM; rw [List.length_zipWith]; omega), List.getElem?_eq_none (by rw [okM_len (idM_ok r c)]; omega)]
  have nd : ∀ {i : Nat} {m : List Nat}, ms[i]? = some m → m.Nodup := fun hm => by simpa using List.all_eq_true.mp h _ (List.mem_of_getElem? hm)
  refine ⟨key _ _ lm (by rw [List.length_map, lm]) fun i m l hm hl => ?_, key _ _ (by rw [List.length_map, lm]) lm fun i m l hm hl => ?_⟩
  · rw [List.getElem?_map, hm] at hl
    cases hl
    exact (map_back_id (okM_at ok hm) (nd hm)).1
  · rw [List.getElem?_map, hl] at hm
    cases hm
    exact (map_back_id (okM_at ok hl) (nd hl)).2
theorem undo_paint {r c n : Nat} {ms : List (List Nat)} {l : List Nat} (gd : Good r c n) (ok : okM r c ms = true) (h : allNd ms = true) (hl : isStrip n l = true) : paintS r c (ms.map (backM c)) (paintS r c ms l) = l ∧ paintS r c ms (paintS r c (ms.map (backM c)) l) = l := by
  have ob := backs_ok ok h
  obtain ⟨e1, e2⟩ := mul_back ok h
  rw [← paint_mul gd ok ob, e1, ← paint_mul gd ob ok, e2, paint_id gd hl]
  exact ⟨rfl, rfl⟩
end
end K16

end
section
set_option Elab.async false
set_option linter.all false
set_option maxRecDepth 100000
set_option maxHeartbeats 4000000
namespace K16
open PySem PySem.Spec PyProof.Rows L2 Kit
section
variable {P : Program} {w : World} {K : PySem.W.Frag} {mg : Str → Option Value} {base : Heap} {a : Ad}
def spIsP (a : Ad) : Sp := fun vs H Q _ => ∃ (p s q s0 q0 : Addr) (r c n n0 : Nat) (ms : List (List Nat)), vs = [.ref p, .ref s0, .ref q0] ∧ PaintAt a H p s q r c n ms ∧ SchemeAt a.Scheme H s0 r c n0 ∧ H q0 = some (.lst (ms.map tx)) ∧ Q (.bl true) H
theorem c_law_is_paint (T : Txt K mg a) : Can P w K mg base 5 "_law_is_paint" (spIsP a) := by
  refine can_of T.d_law_is_paint sc_law_is_paint bd_law_is_paint (fun vs H Q E h => ?_) (fun f cdv A outer s H vs Q E hr h => ?_)
  · obtain ⟨p, s, q, s0, q0, r, c, n, n0, ms, rfl, _⟩ := h
    rfl
  · obtain ⟨p, s, q, s0, q0, r, c, n, n0, ms, rfl, pa, sc0, hq0, z⟩ := h
    refine ⟨_, (pss_cons (ps_if (PW.pt (pw_or (pt_not (pt_val (pe_callB (kisi K) (by rfl) T.b_isinstance (by decide +kernel) (pa_cons (pv 0) (pa_cons (pe_glob (v := .ref a.Paint) (by rfl) T.c_Paint.gC rfl) pa_nil))))) (pw_or1 (pt_not (pt_val (pc_f (c_law_truth T) hr (by decide) (by rfl) (pa_cons (pe_cmpR (eqO K (c_Scheme_eq T) hr (by decide) T.i_ni T.i_ns) (kfld K (pv 0)) (pv 1) (nomark _)) (pa_cons pe_bl pa_nil)))))))) (pss_one (ps_ret pe_bl)) pss_nil)
      (pss_cons (ps_if (PW.pt (pw_or (pt_not (pt_val (pe_callB (kisi K) (by rfl) T.b_isinstance (by decide +kernel) (pa_cons (kfld K (pv 0)) (pa_cons (pe_bltn (v := .ty "list") (by rfl) T.b_list (by decide +kernel) rfl) pa_nil))))) (pw_or1 (pt_cmpR (kneP K hr.units) (kfld K (pv 0)) (pv 2) (nomark _))))) (pss_one (ps_ret pe_bl)) pss_nil)
      (pss_one (ps_ret (pe_and (pe_callB (kisi K) (by rfl) T.b_isinstance (by decide +kernel) (pa_cons (pe_callTy (strO (c_Paint_str T) hr (by decide)) (by rfl) T.b_str (by decide +kernel) (pa_cons (pv 0) pa_nil)) (pa_cons (pe_bltn (v := .ty "str") (by rfl) T.b_str (by decide +kernel) rfl) pa_nil))) (pe_one (pe_cmpR op_eq (pe_callTy (strO (c_Paint_str T) hr (by decide)) (by rfl) T.b_str (by decide +kernel) (pa_cons (pv 0) pa_nil)) (kjoin K pe_str (pv 2)) (nomark _)))))))), ?_⟩
    obtain ⟨dx, hp⟩ := pa.ob
    obtain ⟨sx, hs⟩ := pa.sch.1
    obtain ⟨sy, hs0⟩ := sc0.1
    have gn := good_n pa.sch.2
    have gc := good_c pa.sch.2
    have fits : ((ms.map S).map (·.length)).sum + (ms.map S).length * (Str.ofString "/").length ≤ 16777216 := join_fits (B := 3) (by rw [okM_len pa.ok]; omega) (fun m hm => by
      obtain ⟨i, hi⟩ := List.mem_iff_getElem?.mp hm
      rw [digs_len (okM_at pa.ok hi)]
      omega) (by decide)
    have e1 : (decide (r = r) && decide (c = c)) = true := by rw [decide_eq_true rfl, decide_eq_true rfl]; rfl
    refine ⟨_, rfl, _, _, _, _, true, rfl, .own _, .base (.ins hp T.c_Paint.cl T.p_ha T.i_hn T.i_ht T.p_hm), T.p_own, _, rfl, iteF ?_⟩
    refine ⟨_, rfl, p, _, dx, _, _, rfl, hp, T.c_Paint.cl, T.n_scheme, pf_scheme s q, _, rfl, s, _, _, rfl, hs, .inr (.inr ⟨s0, _, _, rfl, hs0⟩), s, r, c, n, _, rfl, pa.sch, .inr (.inr ⟨s0, r, c, n0, rfl, sc0, _, rfl, _, _, rfl, _, rfl, ?_⟩)⟩
    rw [e1]
    refine iteF ?_
    refine ⟨_, rfl, p, _, dx, _, _, rfl, hp, T.c_Paint.cl, T.n_maps, pf_maps s q, _, _, _, _, true, rfl, .ty _, .base (.lst pa.mp), rfl, _, rfl, iteF ?_⟩
    refine ⟨_, rfl, p, _, dx, _, _, rfl, hp, T.c_Paint.cl, T.n_maps, pf_maps s q, _, rfl, pdL ms, pdL ms, dp_txt pa.mp, dp_txt hq0, plainL ms, plainL ms, depthL ms, _, rfl, itN (by rw [SeqAt.eqv_refl_plain _ (plainL ms)]; decide) ?_⟩
    refine ⟨_, rfl, p, dx, _, rfl, hp, p, s, q, r, c, n, ms, rfl, pa, _, rfl, _, _, _, _, true, rfl, .ty _, .base (.str _), rfl, _, rfl, iteT ?_⟩
    refine ⟨_, rfl, p, dx, _, rfl, hp, p, s, q, r, c, n, ms, rfl, pa, _, rfl, ⟨_, rfl⟩, _, rfl, _, _, ms.map S, rfl, rfl, .inl (seqL_of (by rw [List.map_map]; exact hq0)), fits, rfl, ?_⟩
    rw [decide_eq_true rfl]
    exact z
end
end K16

end
section
set_option Elab.async false
set_option linter.all false
set_option maxRecDepth 100000
set_option maxHeartbeats 4000000
namespace K16
open PySem PySem.Spec PyProof.Rows L2 Kit
section
variable {P : Program} {w : World} {K : PySem.W.Frag} {mg : Str → Option Value} {base : Heap} {a : Ad}
theorem neT {x : V} {A B : Prop} (h : B) : if (!decide (x = x)) = true then A else B := itN (by rw [decide_eq_true rfl]; decide) h
theorem all3 {r c : Nat} {ms : List (List Nat)} : (decide (r = r) && decide (c = c) && decide (ms = ms)) = true := by rw [decide_eq_true rfl, decide_eq_true rfl, decide_eq_true rfl]; rfl
def spUH (a : Ad) : Sp := fun vs H Q _ => ∃ (s0 p s q q0 : Addr) (r c n : Nat) (l : List Nat) (ms : List (List Nat)), vs = [.ref s0, .ref p, .int c, .ref q0, tx l] ∧ PaintAt a H p s q r c n ms ∧ SchemeAt a.Scheme H s0 r c n ∧ H q0 = some (.lst (ms.map tx)) ∧ isStrip n l = true ∧ l.length ≤ 100 ∧ ∀ G, Same H G → Q (.bl true) G
theorem c_law_undoing_holds (T : Txt K mg a) : Can P w K mg base 9 "_law_undoing_holds" (spUH a) := by
  refine can_of T.d_law_undoing_holds sc_law_undoing_holds bd_law_undoing_holds (fun vs H Q E h => ?_) (fun f cdv A outer s H vs Q E hr h => ?_)
  · obtain ⟨s0, p, s, q, q0, r, c, n, l, ms, rfl, _⟩ := h
    rfl
  · obtain ⟨s0, p, s, q, q0, r, c, n, l, ms, rfl, pa, sc0, hq0, hst, hl, z⟩ := h
    refine ⟨_, (pss_cons (ps_set (i := 5) sc_law_undoing_holds.nd rfl (.inl rfl) (pc_f (c_law_undone T) hr (by decide) (by rfl) (pa_cons (pv 2) (pa_cons (pv 3) pa_nil))))
      (pss_cons (ps_set (i := 6) sc_law_undoing_holds.nd rfl (.inl rfl) (pc_m0 (c_Paint_undoing T) hr (by decide) (pv 1)))
      (pss_cons (ps_if (pt_cmpR op_isN (pv 5) pe_non (nomark _)) (pss_one (ps_ret (pe_cmpR op_isN (pv 6) pe_non (nomark _)))) pss_nil)
      (pss_cons (ps_if (PW.pt (pw_or (pt_cmpR op_isN (pv 6) pe_non (nomark _)) (pw_or1 (pt_not (pt_val (pc_f (c_law_is_paint T) hr (by decide) (by rfl) (pa_cons (pv 6) (pa_cons (pv 0) (pa_cons (pv 5) pa_nil))))))))) (pss_one (ps_ret pe_bl)) pss_nil)
      (pss_cons (ps_if (PW.pt (pw_or (pt_cmpR op_ne (pc_c (c_Paint___call__ T) hr (by decide) (pv 6) (pa_cons (pc_c (c_Paint___call__ T) hr (by decide) (pv 1) (pa_cons (pv 4) pa_nil)) pa_nil)) (pv 4) (nomark _)) (pw_or1 (pt_cmpR op_ne (pc_c (c_Paint___call__ T) hr (by decide) (pv 1) (pa_cons (pc_c (c_Paint___call__ T) hr (by decide) (pv 6) (pa_cons (pv 4) pa_nil)) pa_nil)) (pv 4) (nomark _))))) (pss_one (ps_ret pe_bl)) pss_nil)
      (pss_cons (ps_set (i := 7) sc_law_undoing_holds.nd rfl (.inl rfl) (pc_cm (c_Paint_still T) hr (by decide) (pe_glob (v := .ref a.Paint) (by rfl) T.c_Paint.gC rfl) (pa_cons (pv 0) pa_nil)))
      (pss_one (ps_ret (pe_and (pc_f (c_law_truth T) hr (by decide) (by rfl) (pa_cons (pe_cmpR (eqO2 K (c_Paint_eq T) hr (by decide) T.p_ni T.p_ns T.p_nl) (pe_op (opO (c_Paint_mul T) hr (by decide) T.p_sf) (pv 1) (pv 6)) (pv 7) (nomark _)) (pa_cons pe_bl pa_nil))) (pe_one (pc_f (c_law_truth T) hr (by decide) (by rfl) (pa_cons (pe_cmpR (eqO2 K (c_Paint_eq T) hr (by decide) T.p_ni T.p_ns T.p_nl) (pe_op (opO (c_Paint_mul T) hr (by decide) T.p_sf) (pv 6) (pv 1)) (pv 7) (nomark _)) (pa_cons pe_bl pa_nil))))))))))))), ?_⟩
    obtain ⟨dx, hp⟩ := pa.ob
    have gd := pa.sch.2
    refine ⟨_, rfl, _, rfl, q0, r, c, n, ms, rfl, gd, hq0, pa.ok, fun hnd G s1 => ?_, fun hnd G b s1 hb hGb => ?_⟩
    · refine ⟨_, rfl, p, dx, _, rfl, s1 _ _ hp, pf_no _ _ (by decide +kernel) (by decide +kernel), p, s, q, r, c, n, ms, rfl, pa.mono s1, fun _ G2 s2 => ?_, fun h => (by rw [hnd] at h; cases h)⟩
      exact ⟨_, rfl, rfl, _, rfl, iteT ⟨_, rfl, rfl, z _ (s1.trans s2)⟩⟩
    · refine ⟨_, rfl, p, dx, _, rfl, s1 _ _ hp, pf_no _ _ (by decide +kernel) (by decide +kernel), p, s, q, r, c, n, ms, rfl, pa.mono s1, fun h => (by rw [hnd] at h; cases h), fun _ G2 y q' s2 hy hq' pb => ?_⟩
      have s12 := s1.trans s2
      have pa2 := pa.mono s12
      have hp2 := s12 _ _ hp
      obtain ⟨dy, hyo⟩ := pb.ob
      refine ⟨_, rfl, rfl, _, rfl, iteF ⟨_, rfl, rfl, _, rfl, iteF ⟨_, rfl, _, rfl, _, rfl, y, s, q', s0, b, r, c, n, n, ms.map (backM c), rfl, pb, sc0.mono s12, s2 _ _ hGb, _, rfl, iteF ?_⟩⟩⟩
      obtain ⟨u1, u2⟩ := undo_paint gd pa.ok hnd hst
      have pl : ∀ m, (paintS r c m l).length ≤ 1000 := fun m => by rw [paintS, List.length_map]; omega
      refine ⟨_, rfl, y, rfl, _, rfl, p, rfl, _, rfl, ⟨dx, _, hp2⟩, p, s, q, r, c, n, l, ms, rfl, pa2, by omega, fun _ G3 s3 => ?_, fun h => (by rw [hst] at h; cases h)⟩
      refine ⟨⟨dy, _, s3 _ _ hyo⟩, y, s, q', r, c, n, _, _, rfl, pb.mono s3, pl _, fun _ G4 s4 => ?_, fun h => (by rw [paint_strip gd pa.ok] at h; cases h)⟩
      rw [u1]
      refine ⟨_, rfl, rfl, _, rfl, neT ?_⟩
      have s34 := s3.trans s4
      refine ⟨_, rfl, p, rfl, _, rfl, y, rfl, _, rfl, ⟨dy, _, s34 _ _ hyo⟩, y, s, q', r, c, n, l, _, rfl, pb.mono s34, by omega, fun _ G5 s5 => ?_, fun h => (by rw [hst] at h; cases h)⟩
      have s345 := s34.trans s5
      refine ⟨⟨dx, _, s345 _ _ hp2⟩, p, s, q, r, c, n, _, ms, rfl, pa2.mono s345, pl _, fun _ G6 s6 => ?_, fun h => (by rw [paint_strip gd pb.ok] at h; cases h)⟩
      rw [u2]
      refine ⟨_, rfl, rfl, _, rfl, neT ?_⟩
      have s26 := s345.trans s6
      refine ⟨rfl, _, rfl, s0, r, c, n, rfl, sc0.mono (s12.trans s26), fun G7 p3 q3 s7 hp3 hq3 pc => ?_⟩
      have s27 := s26.trans s7
      obtain ⟨m1, m2⟩ := mul_back pa.ok hnd
      refine ⟨_, rfl, _, rfl, p, dx, _, y, dy, _, rfl, s27 _ _ hp2, rfl, s27 _ _ hyo, p, y, s, q, s, q', r, c, n, r, c, n, ms, _, rfl, pa2.mono s27, pb.mono s27, fun _ G8 p4 q4 s8 hp4 hq4 pd => ⟨⟨p4, rfl⟩, ?_⟩, fun h => absurd ⟨rfl, rfl⟩ h⟩
      rw [m1] at pd
      obtain ⟨d4, hd4⟩ := pd.ob
      have pc8 := pc.mono s8
      obtain ⟨d3, hd3⟩ := pc8.ob
      refine ⟨_, rfl, p4, d4, _, rfl, hd4, .inr (.inr (.inl ⟨p3, d3, _, rfl, hd3⟩)), p4, s, q4, r, c, n, idM r c, .ref p3, rfl, pd, .inr (.inr ⟨p3, s0, q3, r, c, n, idM r c, rfl, pc8, _, rfl, _, _, rfl, _, rfl, ?_⟩)⟩
      rw [all3]
      refine iteT ?_
      have s28 := s27.trans s8
      refine ⟨_, rfl, _, rfl, y, dy, _, p, dx, _, rfl, s28 _ _ hyo, rfl, s28 _ _ hp2, y, p, s, q', s, q, r, c, n, r, c, n, _, ms, rfl, pb.mono s28, pa2.mono s28, fun _ G9 p5 q5 s9 hp5 hq5 pe => ⟨⟨p5, rfl⟩, ?_⟩, fun h => absurd ⟨rfl, rfl⟩ h⟩
      rw [m2] at pe
      obtain ⟨d5, hd5⟩ := pe.ob
      have pc9 := pc8.mono s9
      obtain ⟨d6, hd6⟩ := pc9.ob
      refine ⟨_, rfl, p5, d5, _, rfl, hd5, .inr (.inr (.inl ⟨p3, d6, _, rfl, hd6⟩)), p5, s, q5, r, c, n, idM r c, .ref p3, rfl, pe, .inr (.inr ⟨p3, s0, q3, r, c, n, idM r c, rfl, pc9, _, rfl, _, _, rfl, ?_⟩)⟩
      rw [all3]
      exact z _ ((s12.trans s28).trans s9)
end
end K16

end
section
set_option Elab.async false
set_option linter.all false
set_option maxRecDepth 100000
set_option maxHeartbeats 4000000
namespace K16
open PySem PySem.Spec PyProof.Rows L2 Kit
section
variable {P : Program} {w : World} {K : PySem.W.Frag} {mg : Str → Option Value} {base : Heap} {a : Ad}
theorem app_len (x y : Str) : (x ++ y).length = x.length + y.length := by
  show (x.cps ++ y.cps).size = _
  rw [Array.size_append]
  rfl
theorem join_le (y : Str) : ∀ ts : List Str, (Txt.join y ts).length ≤ (ts.map (·.length)).sum + ts.length * y.length
  | [] => Nat.zero_le _
  | [p] => by
    have e : Txt.join y [p] = p := by rw [join_eq]; rfl
    rw [e]
    simp
  | p :: q :: r => by
    have e : Txt.join y (p :: q :: r) = p ++ y ++ Txt.join y (q :: r) := by
      rw [join_eq, join_eq]
      rfl
    have ih := join_le y (q :: r)
    rw [e, app_len, app_len, List.map_cons, List.sum_cons, List.length_cons, Nat.succ_mul]
    omega
def pdR : Option Int → PyData
  | none => .none
  | some i => .int i
theorem dp_res {H : Hp} (x : Option Int) : Dp K H (resV x) (pdR x) := by
  cases x with
  | none => exact .non
  | some i => exact .int i
theorem pl_res (x : Option Int) : (pdR x).plain = true ∧ (pdR x).depth ≤ 64 := by
  cases x with
  | none => exact ⟨rfl, by decide⟩
  | some i => exact ⟨rfl, by show 0 ≤ 64; decide⟩
def spRH (a : Ad) : Sp := fun vs H Q _ => ∃ (s q : Addr) (r c n : Nat) (ls : List (List Nat)), vs = [.ref s, .int r, .int c, .ref q] ∧ SchemeAt a.Scheme H s r c n ∧ H q = some (.lst (ls.map tx)) ∧ ls.length ≤ 4 ∧ (∀ l ∈ ls, l.length ≤ 20) ∧ ∀ G, Same H G → Q (.bl true) G
theorem c_law_refusals_hold (T : Txt K mg a) : Can P w K mg base 8 "_law_refusals_hold" (spRH a) := by
  refine can_of T.d_law_refusals_hold sc_law_refusals_hold bd_law_refusals_hold (fun vs H Q E h => ?_) (fun f cdv A outer s H vs Q E hr h => ?_)
  · obtain ⟨s, q, r, c, n, ls, rfl, _⟩ := h
    rfl
  · obtain ⟨s, q, r, c, n, ls, rfl, sch, hq, hl, hll, z⟩ := h
    refine ⟨_, (pss_cons (ps_if (pt_cmpR (kneP K hr.units) (pc_f (c_law_refused T) hr (by decide) (by rfl) (pa_cons (pv 0) (pa_cons (pv 3) (pa_cons pe_non pa_nil)))) (pc_f (c_law_bad_row T) hr (by decide) (by rfl) (pa_cons (pv 1) (pa_cons (pv 2) (pa_cons (pv 3) pa_nil)))) (nomark _)) (pss_one (ps_ret pe_bl)) pss_nil)
      (pss_cons (ps_set (i := 4) sc_law_refusals_hold.nd rfl (.inl rfl) (kjoin K pe_str (pv 3)))
      (pss_one (ps_ret (pe_cmpR (keqP K hr.units) (pc_f (c_law_refused T) hr (by decide) (by rfl) (pa_cons (pv 0) (pa_cons (pv 3) (pa_cons (pv 4) pa_nil)))) (pc_f (c_law_bad_row T) hr (by decide) (by rfl) (pa_cons (pv 1) (pa_cons (pv 2) (pa_cons (pe_split (pv 4) pe_str) pa_nil)))) (nomark _)))))), ?_⟩
    have gn := good_n sch.2
    have gc := good_c sch.2
    have hl1 : ∀ m ∈ ls, m.length ≤ 1000 := fun m hm => by have := hll m hm; omega
    have fits : ((ls.map S).map (·.length)).sum + (ls.map S).length * (Str.ofString "/").length ≤ 16777216 := join_fits (B := 20) (by omega) hll (by decide)
    refine ⟨_, rfl, _, rfl, s, q, r, c, n, ls, ls, .non, rfl, sch, seqL_of hq, by omega, hl1, .inl ⟨rfl, rfl⟩, fun G1 s1 => ?_⟩
    have q1 := s1 _ _ hq
    refine ⟨_, rfl, _, rfl, _, rfl, q, r, c, ls, rfl, by omega, gc, seqL_of q1, hl1, pdR (badRow r c ls), pdR (badRow r c ls), dp_res _, dp_res _, (pl_res _).1, (pl_res _).1, (pl_res _).2, _, rfl, itN (by rw [SeqAt.eqv_refl_plain _ (pl_res _).1]; decide) ?_⟩
    obtain ⟨t, ht⟩ : ∃ t : List Nat, Txt.join (Str.ofString "/") (ls.map S) = S t := ⟨(Txt.join (Str.ofString "/") (ls.map S)).cps.toList, rfl⟩
    have htl : t.length ≤ 84 := by
      have h1 := join_le (Str.ofString "/") (ls.map S)
      rw [ht, S_len] at h1
      have e : (ls.map S).map (·.length) = ls.map List.length := by
        rw [List.map_map]
        exact List.map_congr_left fun l _ => S_len l
      rw [e, List.length_map, show (Str.ofString "/").length = 1 by decide +kernel] at h1
      have h2 := sum_le (f := List.length) hll
      omega
    refine ⟨⟨_, rfl⟩, _, rfl, _, _, ls.map S, rfl, rfl, .inl (seqL_of (by rw [List.map_map]; exact q1)), fits, ?_⟩
    rw [ht]
    obtain ⟨ls2, hls2⟩ : ∃ ls2 : List (List Nat), Txt.split (S t) (Str.ofString "/") = ls2.map S := ⟨(Txt.split (S t) (Str.ofString "/")).map fun x => x.cps.toList, by rw [List.map_map]; exact (List.map_id _).symm⟩
    have e2 : (Txt.split (S t) (Str.ofString "/")).map V.str = ls2.map tx := by
      rw [hls2, List.map_map]
      rfl
    have h3 : ∀ m ∈ ls2, m.length ≤ 1000 := fun m hm => by
      have := PyProof.Rows.part_short (x := S t) (y := Str.ofString "/") (a := S m) (by rw [hls2]; exact List.mem_map_of_mem hm)
      rw [S_len, S_len] at this
      omega
    refine ⟨_, rfl, _, rfl, _, rfl, s, q, r, c, n, ls, ls2, tx t, rfl, sch.mono s1, seqL_of q1, by omega, hl1, .inr ⟨t, rfl, by omega, hls2⟩, fun G2 s2 => ?_⟩
    refine ⟨_, rfl, _, rfl, _, rfl, ⟨S t, rfl⟩, S t, Str.ofString "/", rfl, rfl, by decide +kernel, by rw [S_len, sizeLine_eq]; omega, fun b hb => ?_⟩
    rw [e2]
    refine ⟨b, r, c, ls2, rfl, by omega, gc, seqL_of upd_same, h3, pdR (badRow r c ls2), pdR (badRow r c ls2), dp_res _, dp_res _, (pl_res _).1, (pl_res _).1, (pl_res _).2, ?_⟩
    rw [SeqAt.eqv_refl_plain _ (pl_res _).1]
    exact z _ ((s1.trans s2).trans (ex_new hb))
end
end K16

end
section
set_option Elab.async false
set_option linter.all false
set_option maxRecDepth 100000
set_option maxHeartbeats 4000000
namespace K16
open PySem PySem.Spec PyProof.Rows L2 Kit
section
variable {P : Program} {w : World} {K : PySem.W.Frag} {mg : Str → Option Value} {base : Heap} {a : Ad}
def spPH (a : Ad) : Sp := fun vs H Q _ => ∃ (s0 t p p2 s q s2 q2 f1 f2 : Addr) (r c n : Nat) (l : List Nat) (ms ms2 : List (List Nat)), vs = [.ref s0, .ref t, .ref p, .ref p2, .ref f1, .ref f2, tx l] ∧ H t = some (.tup [.int r, .int c]) ∧ PaintAt a H p s q r c n ms ∧ PaintAt a H p2 s2 q2 r c n ms2 ∧ SchemeAt a.Scheme H s0 r c n ∧
  H f1 = some (.lst (ms.map tx)) ∧ H f2 = some (.lst (ms2.map tx)) ∧ isStrip n l = true ∧ l.length ≤ 100 ∧ ∀ G, Same H G → Q (.bl true) G
theorem mkR {H : Hp} {s q0 : Addr} {r c n : Nat} {ms : List (List Nat)} {R : Addr → Hp → Prop} {E : XK} (sch : SchemeAt a.Scheme H s r c n) (hq : H q0 = some (.lst (ms.map tx))) (ok : okM r c ms = true)
    (z : ∀ G y q, Same H G → H y = none → H q = none → PaintAt a G y s q r c n ms → R y G) :
    ∀ y dx, H y = none → H dx = none → dx ≠ y → spPInit a K (.ref y :: [.ref s, .ref q0]) (upd (upd H dx (.own y)) y (.ins a.Paint dx [])) (fun v H2 => v = .non ∧ R y H2) E := by
  intro y dx hy hdx hne
  obtain ⟨sch2, nsy, s3⟩ := made (a := a) hy hdx hne sch
  obtain ⟨hq2, nqy⟩ := sql_ne (K := K) (o := .own y) (o2 := .ins a.Paint dx []) hy hdx hne hq
  have sm := sml sch.2 ok
  refine ⟨y, dx, s, q0, r, c, n, ms, rfl, upd_same, sch2, hq2, sm.1, sm.2, nsy, nqy, fun i hi => ?_, fun _ G q g1 g2 g3 g4 g5 => ⟨rfl, ?_⟩⟩
  · rw [badRow_none ok] at hi
    cases hi
  · obtain ⟨sm, pa, fq⟩ := after hy hdx hne sch ok g1 g2 g3 g4 g5
    exact z G y q sm hy fq pa
theorem eq_ms {r c : Nat} {ms ms2 : List (List Nat)} : ((decide (r = r) && decide (c = c) && decide (ms = ms2)) == decide (ms = ms2)) = true := by
  rw [decide_eq_true (rfl : r = r), decide_eq_true (rfl : c = c), Bool.true_and, Bool.true_and, beq_self_eq_true]
theorem pair_ix {H : Hp} {t : Addr} {r c : Nat} (h : H t = some (.tup [.int r, .int c])) : SqT K H t [.int r, .int c] := seqT_of h
theorem c_law_product_holds (T : Txt K mg a) : Can P w K mg base 11 "_law_product_holds" (spPH a) := by
  refine can_of T.d_law_product_holds sc_law_product_holds bd_law_product_holds (fun vs H Q E h => ?_) (fun f cdv A outer s H vs Q E hr h => ?_)
  · obtain ⟨s0, t, p, p2, s, q, s2, q2, f1, f2, r, c, n, l, ms, ms2, rfl, _⟩ := h
    rfl
  · obtain ⟨s0, t, p, p2, s, q, s2, q2, f1, f2, r, c, n, l, ms, ms2, rfl, ht, pa, pb, sc0, hf1, hf2, hst, hl, z⟩ := h
    refine ⟨_, (pss_cons (ps_set (i := 7) sc_law_product_holds.nd rfl (.inl rfl) (pe_op (opO (c_Paint_mul T) hr (by decide) T.p_sf) (pv 2) (pv 3)))
      (pss_cons (ps_set (i := 8) sc_law_product_holds.nd rfl (.inl rfl) (pc_f (c_law_product T) hr (by decide) (by rfl) (pa_cons (pv 4) (pa_cons (pv 5) pa_nil))))
      (pss_cons (ps_set (i := 9) sc_law_product_holds.nd rfl (.inl rfl) (pc_f (c_law_painted T) hr (by decide) (by rfl) (pa_cons (pe_ix (kix_tup K) (pv 1) pe_int (fun _ _ => rfl)) (pa_cons (pe_ix (kix_tup K) (pv 1) pe_int (fun _ _ => rfl)) (pa_cons (pv 4) (pa_cons (pv 6) pa_nil))))))
      (pss_cons (ps_if (pt_not (pt_val (pc_f (c_law_is_paint T) hr (by decide) (by rfl) (pa_cons (pv 7) (pa_cons (pv 0) (pa_cons (pv 8) pa_nil)))))) (pss_one (ps_ret pe_bl)) pss_nil)
      (pss_cons (ps_if (PW.pt (pw_or (pt_cmpR op_ne (pc_c (c_Paint___call__ T) hr (by decide) (pv 7) (pa_cons (pv 6) pa_nil)) (pc_f (c_law_painted T) hr (by decide) (by rfl) (pa_cons (pe_ix (kix_tup K) (pv 1) pe_int (fun _ _ => rfl)) (pa_cons (pe_ix (kix_tup K) (pv 1) pe_int (fun _ _ => rfl)) (pa_cons (pv 5) (pa_cons (pv 9) pa_nil))))) (nomark _)) (pw_or1 (pt_cmpR op_ne (pc_c (c_Paint___call__ T) hr (by decide) (pv 3) (pa_cons (pv 9) pa_nil)) (pc_c (c_Paint___call__ T) hr (by decide) (pv 7) (pa_cons (pv 6) pa_nil)) (nomark _))))) (pss_one (ps_ret pe_bl)) pss_nil)
      (pss_cons (ps_if (PW.pt (pw_or (pt_not (pt_val (pc_f (c_law_truth T) hr (by decide) (by rfl) (pa_cons (pe_cmpR (eqO2 K (c_Paint_eq T) hr (by decide) T.p_ni T.p_ns T.p_nl) (pv 2) (pv 3) (nomark _)) (pa_cons (pe_cmpR (keqP K hr.units) (pv 4) (pv 5) (nomark _)) pa_nil))))) (pw_or1 (pt_not (pt_val (pc_f (c_law_truth T) hr (by decide) (by rfl) (pa_cons (pe_cmpR (eqO2 K (c_Paint_eq T) hr (by decide) T.p_ni T.p_ns T.p_nl) (pv 2) (pc_n (c_Paint_init T) hr (by decide) (by rfl) (pa_cons (pv 0) (pa_cons (pe_callTy (klist_of K) (by rfl) T.b_list (by decide +kernel) (pa_cons (pv 4) pa_nil)) pa_nil))) (nomark _)) (pa_cons pe_bl pa_nil)))))))) (pss_one (ps_ret pe_bl)) pss_nil)
      (pss_cons (ps_if (pt_not (pt_val (pc_f (c_law_undoing_holds T) hr (by decide) (by rfl) (pa_cons (pv 0) (pa_cons (pv 2) (pa_cons (pe_ix (kix_tup K) (pv 1) pe_int (fun _ _ => rfl)) (pa_cons (pv 4) (pa_cons (pv 6) pa_nil)))))))) (pss_one (ps_ret pe_bl)) pss_nil)
      (pss_one (ps_ret (pc_f (c_law_undoing_holds T) hr (by decide) (by rfl) (pa_cons (pv 0) (pa_cons (pv 7) (pa_cons (pe_ix (kix_tup K) (pv 1) pe_int (fun _ _ => rfl)) (pa_cons (pv 8) (pa_cons (pv 6) pa_nil))))))))))))))), ?_⟩
    obtain ⟨dx, hp⟩ := pa.ob
    obtain ⟨dy, hp2⟩ := pb.ob
    have gd := pa.sch.2
    have mok := mulM_ok pa.ok pb.ok
    refine ⟨_, rfl, _, rfl, p, dx, _, p2, dy, _, rfl, hp, rfl, hp2, p, p2, s, q, s2, q2, r, c, n, r, c, n, ms, ms2, rfl, pa, pb, fun _ G1 p3 q3 s1 hp3 hq3 pc => ⟨⟨p3, rfl⟩, ?_⟩, fun h => absurd ⟨rfl, rfl⟩ h⟩
    refine ⟨_, rfl, _, rfl, f1, f2, r, c, n, ms, ms2, rfl, gd, s1 _ _ hf1, s1 _ _ hf2, pa.ok, pb.ok, fun G2 b s2' hb hGb => ?_⟩
    have s12 := s1.trans s2'
    refine ⟨_, rfl, t, _, 0, _, rfl, rfl, pair_ix (s12 _ _ ht), rfl, _, rfl, t, _, 1, _, rfl, rfl, pair_ix (s12 _ _ ht), rfl, _, rfl, _, rfl, r, c, n, f1, l, ms, rfl, gd, s12 _ _ hf1, pa.ok, hst, by omega, ?_⟩
    refine ⟨_, rfl, _, rfl, _, rfl, p3, s, q3, s0, b, r, c, n, n, mulM ms ms2, rfl, pc.mono s2', sc0.mono s12, hGb, _, rfl, iteF ?_⟩
    have pc2 := pc.mono s2'
    obtain ⟨d3, hp3'⟩ := pc2.ob
    have pl : ∀ m, (paintS r c m l).length ≤ 1000 := fun m => by rw [paintS, List.length_map]; omega
    have ix0 : ∀ {G : Hp}, Same H G → SqT K G t [.int r, .int c] := fun sm => pair_ix (sm _ _ ht)
    refine ⟨_, rfl, p3, rfl, _, rfl, ⟨d3, _, hp3'⟩, p3, s, q3, r, c, n, l, _, rfl, pc2, by omega, fun _ G3 s3 => ?_, fun h => (by rw [hst] at h; cases h)⟩
    rw [paint_mul gd pa.ok pb.ok]
    have s13 := s12.trans s3
    refine ⟨_, rfl, t, _, 0, _, rfl, rfl, ix0 s13, rfl, _, rfl, t, _, 1, _, rfl, rfl, ix0 s13, rfl, _, rfl, _, rfl, r, c, n, f2, _, ms2, rfl, gd, s13 _ _ hf2, pb.ok, paint_strip gd pa.ok l, pl _, rfl, _, rfl, neT ?_⟩
    refine ⟨_, rfl, p2, rfl, _, rfl, ⟨dy, _, s13 _ _ hp2⟩, p2, s2, q2, r, c, n, _, ms2, rfl, pb.mono s13, pl _, fun _ G4 s4 => ?_, fun h => (by rw [paint_strip gd pa.ok] at h; cases h)⟩
    have s14 := s13.trans s4
    have pc4 := pc2.mono (s3.trans s4)
    obtain ⟨d4, hp4⟩ := pc4.ob
    refine ⟨_, rfl, p3, rfl, _, rfl, ⟨d4, _, hp4⟩, p3, s, q3, r, c, n, l, _, rfl, pc4, by omega, fun _ G5 s5 => ?_, fun h => (by rw [hst] at h; cases h)⟩
    rw [paint_mul gd pa.ok pb.ok]
    have s15 := s14.trans s5
    have pa5 := pa.mono s15
    have pb5 := pb.mono s15
    obtain ⟨da, ha5⟩ := pa5.ob
    obtain ⟨db, hb5⟩ := pb5.ob
    refine ⟨rfl, _, rfl, neT ?_⟩
    refine ⟨_, rfl, _, rfl, p, da, _, rfl, ha5, .inr (.inr (.inl ⟨p2, db, _, rfl, hb5⟩)), p, s, q, r, c, n, ms, .ref p2, rfl, pa5, .inr (.inr ⟨p2, s2, q2, r, c, n, ms2, rfl, pb5, _, rfl, _, rfl, _, rfl, pdL ms, pdL ms2, dp_txt (s15 _ _ hf1), dp_txt (s15 _ _ hf2), plainL _, plainL _, depthL _, _, _, rfl, _, rfl, ?_⟩)⟩
    rw [pd_eq, eq_ms]
    refine iteF ?_
    refine ⟨_, rfl, _, rfl, _, rfl, f1, _, rfl, .inl (seqL_of (s15 _ _ hf1)), fun b6 h6 => ?_⟩
    have s6 := ex_new (o := .lst (ms.map tx)) h6
    refine mkR (K := K) (sc0.mono (s15.trans s6)) upd_same pa.ok fun G7 y q7 s7 hy hq7 pd => ?_
    have s57 := s6.trans s7
    have pa7 := pa5.mono s57
    obtain ⟨da7, ha7⟩ := pa7.ob
    obtain ⟨dd7, hd7⟩ := pd.ob
    refine ⟨p, da7, _, rfl, ha7, .inr (.inr (.inl ⟨y, dd7, _, rfl, hd7⟩)), p, s, q, r, c, n, ms, .ref y, rfl, pa7, .inr (.inr ⟨y, s0, q7, r, c, n, ms, rfl, pd, _, rfl, _, _, rfl, _, rfl, ?_⟩)⟩
    rw [all3]
    refine iteF ?_
    have s17 := s15.trans s57
    refine ⟨_, rfl, _, rfl, _, rfl, t, _, 1, _, rfl, rfl, ix0 s17, rfl, _, rfl, _, rfl, s0, p, s, q, f1, r, c, n, l, ms, rfl, pa7, sc0.mono s17, s17 _ _ hf1, hst, hl, fun G8 s8 => ?_⟩
    have s18 := s17.trans s8
    have s28 := ((s3.trans s4).trans s5).trans (s57.trans s8)
    refine ⟨_, rfl, iteF ?_⟩
    exact ⟨_, rfl, _, rfl, _, rfl, t, _, 1, _, rfl, rfl, ix0 s18, rfl, _, rfl, _, rfl, s0, p3, s, q3, b, r, c, n, l, _, rfl, pc2.mono s28, sc0.mono s18, s28 _ _ hGb, hst, hl, fun G9 s9 => z _ (s18.trans s9)⟩
end
end K16

end
section
set_option Elab.async false
set_option linter.all false
set_option maxRecDepth 100000
set_option maxHeartbeats 4000000
namespace K16
open PySem PySem.Spec PyProof.Rows L2 Kit
section
variable {P : Program} {w : World} {K : PySem.W.Frag} {mg : Str → Option Value} {base : Heap} {a : Ad}
theorem map_id_d {c : Nat} {m : List Nat} (hm : isDigs c c m = true) : m.map (digBy (digs c)) = m ∧ (digs c).map (digBy m) = m := by
  have hl := digs_len hm
  constructor
  · refine (List.map_congr_left fun x hx => ?_).trans (List.map_id _)
    obtain ⟨i, hi⟩ := List.mem_iff_getElem?.mp hx
    exact digBy_id (digs_at hm hi)
  · refine List.ext_getElem? fun i => ?_
    by_cases hi : i < c
    · have hin : inDig c (48 + i) = true := by
        unfold inDig
        rw [decide_eq_true_iff]
        omega
      have h1 := (digBy_ok hm hin).1
      rw [show 48 + i - 48 = i by omega] at h1
      have hd : (digs c)[i]? = some (48 + i) := by
        unfold digs
        rw [List.getElem?_map, List.getElem?_range hi]
        rfl
      rw [List.getElem?_map, hd, h1]
      rfl
    · rw [List.getElem?_eq_none (by rw [List.length_map, digs_len']; omega), List.getElem?_eq_none (by omega)]
theorem mul_id {r c : Nat} {ms : List (List Nat)} (ok : okM r c ms = true) : mulM (idM r c) ms = ms ∧ mulM ms (idM r c) = ms := by
  have lm := okM_len ok
  have li := okM_len (idM_ok r c)
  constructor
  · refine List.ext_getElem? fun i => ?_
    by_cases hi : i < r
    · obtain ⟨m, hm⟩ : ∃ m, ms[i]? = some m := ⟨_, List.getElem?_eq_getElem (by omega)⟩
      rw [mulM_at (idM_at hi) hm, hm, (map_id_d (okM_at ok hm)).2]
    · rw [List.getElem?_eq_none (by unfold mulM; rw [List.length_zipWith]; omega), List.getElem?_eq_none (by omega)]
  · refine List.ext_getElem? fun i => ?_
    by_cases hi : i < r
    · obtain ⟨m, hm⟩ : ∃ m, ms[i]? = some m := ⟨_, List.getElem?_eq_getElem (by omega)⟩
      rw [mulM_at hm (idM_at hi), hm, (map_id_d (okM_at ok hm)).1]
    · rw [List.getElem?_eq_none (by unfold mulM; rw [List.length_zipWith]; omega), List.getElem?_eq_none (by omega)]
def spSH (a : Ad) : Sp := fun vs H Q _ => ∃ (s0 t p s q f1 : Addr) (r c n : Nat) (l : List Nat) (ms : List (List Nat)), vs = [.ref s0, .ref t, .ref p, .ref f1, tx l] ∧ H t = some (.tup [.int r, .int c]) ∧ PaintAt a H p s q r c n ms ∧ SchemeAt a.Scheme H s0 r c n ∧
  H f1 = some (.lst (ms.map tx)) ∧ isStrip n l = true ∧ l.length ≤ 100 ∧ ∀ G, Same H G → Q (.bl true) G
theorem c_law_still_holds (T : Txt K mg a) : Can P w K mg base 9 "_law_still_holds" (spSH a) := by
  refine can_of T.d_law_still_holds sc_law_still_holds bd_law_still_holds (fun vs H Q E h => ?_) (fun f cdv A outer s H vs Q E hr h => ?_)
  · obtain ⟨s0, t, p, s, q, f1, r, c, n, l, ms, rfl, _⟩ := h
    rfl
  · obtain ⟨s0, t, p, s, q, f1, r, c, n, l, ms, rfl, ht, pa, sc0, hf1, hst, hl, z⟩ := h
    refine ⟨_, (pss_cons (ps_set (i := 5) sc_law_still_holds.nd rfl (.inl rfl) (pc_cm (c_Paint_still T) hr (by decide) (pe_glob (v := .ref a.Paint) (by rfl) T.c_Paint.gC rfl) (pa_cons (pv 0) pa_nil)))
      (pss_cons (ps_if (PW.pt (pw_or (pt_not (pt_val (pc_f (c_law_is_paint T) hr (by decide) (by rfl) (pa_cons (pv 5) (pa_cons (pv 0) (pa_cons (pe_lc (own := [("row", 6)]) (g := gName 6) (tt := tYes) (by rfl) sc_law_still_holds.nd (pi_range1 (by rfl) T.b_range (pa_cons (pe_ix (kix_tup K) (pv 1) pe_int (fun _ _ => rfl)) pa_nil)) (blkOk_by (N := N_law_still_holds) (sc := defScope s_law_still_holds) (by decide +kernel)) (fun _ _ _ _ _ => (pg_name (i := 6) sc_law_still_holds.nd rfl (.inl rfl))) (fun _ _ _ _ _ => pts_nil) (fun _ _ _ _ _ => (pe_slice sl_str pe_str po_none (po_some (pe_ix (kix_tup K) (pv 1) pe_int (fun _ _ => rfl)))))) pa_nil)))))) (pw_or1 (pt_cmpR op_ne (pc_c (c_Paint___call__ T) hr (by decide) (pv 5) (pa_cons (pv 4) pa_nil)) (pv 4) (nomark _))))) (pss_one (ps_ret pe_bl)) pss_nil)
      (pss_cons (ps_if (pt_not (pt_val (pc_f (c_law_truth T) hr (by decide) (by rfl) (pa_cons (pe_cmpR (eqO2 K (c_Paint_eq T) hr (by decide) T.p_ni T.p_ns T.p_nl) (pv 2) (pv 5) (nomark _)) (pa_cons (pe_cmpR (keqP K hr.units) (pv 3) (pe_lc (own := [("row", 6)]) (g := gName 6) (tt := tYes) (by rfl) sc_law_still_holds.nd (pi_range1 (by rfl) T.b_range (pa_cons (pe_ix (kix_tup K) (pv 1) pe_int (fun _ _ => rfl)) pa_nil)) (blkOk_by (N := N_law_still_holds) (sc := defScope s_law_still_holds) (by decide +kernel)) (fun _ _ _ _ _ => (pg_name (i := 6) sc_law_still_holds.nd rfl (.inl rfl))) (fun _ _ _ _ _ => pts_nil) (fun _ _ _ _ _ => (pe_slice sl_str pe_str po_none (po_some (pe_ix (kix_tup K) (pv 1) pe_int (fun _ _ => rfl)))))) (nomark _)) pa_nil))))) (pss_one (ps_ret pe_bl)) pss_nil)
      (pss_one (ps_ret (pe_and (pc_f (c_law_truth T) hr (by decide) (by rfl) (pa_cons (pe_cmpR (eqO2 K (c_Paint_eq T) hr (by decide) T.p_ni T.p_ns T.p_nl) (pe_op (opO (c_Paint_mul T) hr (by decide) T.p_sf) (pv 5) (pv 2)) (pv 2) (nomark _)) (pa_cons pe_bl pa_nil))) (pe_one (pc_f (c_law_truth T) hr (by decide) (by rfl) (pa_cons (pe_cmpR (eqO2 K (c_Paint_eq T) hr (by decide) T.p_ni T.p_ns T.p_nl) (pe_op (opO (c_Paint_mul T) hr (by decide) T.p_sf) (pv 2) (pv 5)) (pv 2) (nomark _)) (pa_cons pe_bl pa_nil)))))))))), ?_⟩
    have gd := pa.sch.2
    have gn := good_n gd
    have gc := good_c gd
    have ix0 : ∀ {G : Hp}, Same H G → SqT K G t [.int r, .int c] := fun sm => pair_ix (sm _ _ ht)
    have lid : ((idM r c).map tx).length = r := by rw [List.length_map, okM_len (idM_ok r c)]
    refine ⟨rfl, _, rfl, s0, r, c, n, rfl, sc0, fun G1 p1 q1 s1 hp1 hq1 pb => ?_⟩
    refine ⟨_, rfl, _, rfl, _, rfl, t, _, 0, _, rfl, rfl, ix0 s1, rfl, r, rfl, by omega, by omega, fun D hD => lc_one (walk_range (lo := 0) (n := ((r : Nat) : Int).toNat)) ((idM r c).map tx) lid (by show r ≤ _; omega) hD (fun _ _ => True.intro) ?_ ?_⟩
    · rintro i x M M' v hi s2 ⟨rfl, rfl⟩ hv
      have hi : i < r := hi
      rw [List.getElem?_map, idM_at hi] at hv
      cases hv
      refine ⟨.refl _, fun Q' q' => ⟨_, rfl, t, _, 1, _, rfl, rfl, ix0 (s1.trans s2), rfl, _, rfl, _, rfl, by decide +kernel, ?_⟩⟩
      rw [cut_dig gc]
      exact q' _ (.refl _)
    · intro M s2 hM
      have s12 := s1.trans s2
      have pb2 := pb.mono s2
      obtain ⟨d1, hp1'⟩ := pb2.ob
      refine ⟨p1, s0, q1, s0, D, r, c, n, n, idM r c, rfl, pb2, sc0.mono s12, hM, _, rfl, iteF ?_⟩
      refine ⟨_, rfl, p1, rfl, _, rfl, ⟨d1, _, hp1'⟩, p1, s0, q1, r, c, n, l, _, rfl, pb2, by omega, fun _ G3 s3 => ?_, fun h => (by rw [hst] at h; cases h)⟩
      rw [paint_id gd hst]
      refine ⟨_, rfl, rfl, _, rfl, neT ?_⟩
      have s13 := s12.trans s3
      have pa3 := pa.mono s13
      have pb3 := pb2.mono s3
      obtain ⟨da, ha⟩ := pa3.ob
      obtain ⟨db, hb⟩ := pb3.ob
      refine ⟨_, rfl, _, rfl, p, da, _, rfl, ha, .inr (.inr (.inl ⟨p1, db, _, rfl, hb⟩)), p, s, q, r, c, n, ms, .ref p1, rfl, pa3, .inr (.inr ⟨p1, s0, q1, r, c, n, idM r c, rfl, pb3, _, rfl, ?_⟩)⟩
      refine ⟨_, rfl, _, rfl, t, _, 0, _, rfl, rfl, ix0 s13, rfl, r, rfl, by omega, by omega, fun D2 hD2 => lc_one (walk_range (lo := 0) (n := ((r : Nat) : Int).toNat)) ((idM r c).map tx) lid (by show r ≤ _; omega) hD2 (fun _ _ => True.intro) ?_ ?_⟩
      · rintro i x N N' v hi s4 ⟨rfl, rfl⟩ hv
        have hi : i < r := hi
        rw [List.getElem?_map, idM_at hi] at hv
        cases hv
        refine ⟨.refl _, fun Q' q' => ⟨_, rfl, t, _, 1, _, rfl, rfl, ix0 (s13.trans s4), rfl, _, rfl, _, rfl, by decide +kernel, ?_⟩⟩
        rw [cut_dig gc]
        exact q' _ (.refl _)
      · intro N s4 hN
        have s14 := s13.trans s4
        refine ⟨pdL ms, pdL (idM r c), dp_txt (s14 _ _ hf1), dp_txt hN, plainL _, plainL _, depthL _, _, _, rfl, _, rfl, ?_⟩
        rw [pd_eq, eq_ms]
        refine iteF ?_
        have pa4 := pa.mono s14
        have pb4 := pb3.mono s4
        obtain ⟨da4, ha4⟩ := pa4.ob
        obtain ⟨db4, hb4⟩ := pb4.ob
        refine ⟨_, rfl, _, rfl, p1, db4, _, p, da4, _, rfl, hb4, rfl, ha4, p1, p, s0, q1, s, q, r, c, n, r, c, n, _, ms, rfl, pb4, pa4, fun _ G5 p5 q5 s5 hp5 hq5 pc => ⟨⟨p5, rfl⟩, ?_⟩, fun h => absurd ⟨rfl, rfl⟩ h⟩
        rw [(mul_id pa.ok).1] at pc
        obtain ⟨dc, hc⟩ := pc.ob
        have pa5 := pa4.mono s5
        have pb5 := pb4.mono s5
        obtain ⟨da5, ha5⟩ := pa5.ob
        obtain ⟨db5, hb5⟩ := pb5.ob
        refine ⟨_, rfl, p5, dc, _, rfl, hc, .inr (.inr (.inl ⟨p, da5, _, rfl, ha5⟩)), p5, s0, q5, r, c, n, ms, .ref p, rfl, pc, .inr (.inr ⟨p, s, q, r, c, n, ms, rfl, pa5, _, rfl, _, _, rfl, _, rfl, ?_⟩)⟩
        rw [all3]
        refine iteT ?_
        refine ⟨_, rfl, _, rfl, p, da5, _, p1, db5, _, rfl, ha5, rfl, hb5, p, p1, s, q, s0, q1, r, c, n, r, c, n, ms, _, rfl, pa5, pb5, fun _ G6 p6 q6 s6 hp6 hq6 pe => ⟨⟨p6, rfl⟩, ?_⟩, fun h => absurd ⟨rfl, rfl⟩ h⟩
        rw [(mul_id pa.ok).2] at pe
        obtain ⟨de, he⟩ := pe.ob
        have pa6 := pa5.mono s6
        obtain ⟨da6, ha6⟩ := pa6.ob
        refine ⟨_, rfl, p6, de, _, rfl, he, .inr (.inr (.inl ⟨p, da6, _, rfl, ha6⟩)), p6, s, q6, r, c, n, ms, .ref p, rfl, pe, .inr (.inr ⟨p, s, q, r, c, n, ms, rfl, pa6, _, rfl, _, _, rfl, ?_⟩)⟩
        rw [all3]
        exact z _ ((s14.trans s5).trans s6)
def spST (a : Ad) : Sp := fun vs H Q _ => ∃ (p s q f1 s2 : Addr) (r c n r2 c2 n2 : Nat) (ms : List (List Nat)), vs = [.ref p, .ref f1, .ref s2] ∧ PaintAt a H p s q r c n ms ∧ SchemeAt a.Scheme H s2 r2 c2 n2 ∧ ¬ (r = r2 ∧ c = c2) ∧ (∃ xs, H f1 = some (.lst xs)) ∧ ∀ G, Same H G → Q (.bl true) G
theorem c_law_strangers_hold (T : Txt K mg a) : Can P w K mg base 9 "_law_strangers_hold" (spST a) := by
  refine can_of T.d_law_strangers_hold sc_law_strangers_hold bd_law_strangers_hold (fun vs H Q E h => ?_) (fun f cdv A outer s H vs Q E hr h => ?_)
  · obtain ⟨p, s, q, f1, s2, r, c, n, r2, c2, n2, ms, rfl, _⟩ := h
    rfl
  · obtain ⟨p, s, q, f1, s2, r, c, n, r2, c2, n2, ms, rfl, pa, sc2, hne, ⟨xs, hf1⟩, z⟩ := h
    refine ⟨_, (pss_cons (ps_set (i := 3) sc_law_strangers_hold.nd rfl (.inl rfl) (pc_cm (c_Paint_still T) hr (by decide) (pe_glob (v := .ref a.Paint) (by rfl) T.c_Paint.gC rfl) (pa_cons (pv 2) pa_nil)))
      (pss_cons (ps_if (PW.pt (pw_or (pt_not (pt_val (pc_f (c_law_unlike T) hr (by decide) (by rfl) (pa_cons (pv 0) (pa_cons (pv 3) pa_nil))))) (pw_or1 (pt_not (pt_val (pc_f (c_law_unlike T) hr (by decide) (by rfl) (pa_cons (pv 3) (pa_cons (pv 0) pa_nil)))))))) (pss_one (ps_ret pe_bl)) pss_nil)
      (pss_cons (ps_if (PW.pt (pw_or (pt_not (pt_val (pc_f (c_law_truth T) hr (by decide) (by rfl) (pa_cons (pe_cmpR (eqO2 K (c_Paint_eq T) hr (by decide) T.p_ni T.p_ns T.p_nl) (pv 0) (pv 3) (nomark _)) (pa_cons pe_bl pa_nil))))) (pw_or1 (pt_not (pt_val (pc_f (c_law_truth T) hr (by decide) (by rfl) (pa_cons (pe_cmpR (eqO2 K (c_Paint_eq T) hr (by decide) T.p_ni T.p_ns T.p_nl) (pv 0) (pe_callTy (strO (c_Paint_str T) hr (by decide)) (by rfl) T.b_str (by decide +kernel) (pa_cons (pv 0) pa_nil)) (nomark _)) (pa_cons pe_bl pa_nil)))))))) (pss_one (ps_ret pe_bl)) pss_nil)
      (pss_one (ps_ret (pc_f (c_law_truth T) hr (by decide) (by rfl) (pa_cons (pe_cmpR (eqO2 K (c_Paint_eq T) hr (by decide) T.p_ni T.p_ns T.p_nl) (pv 0) (pv 1) (nomark _)) (pa_cons pe_bl pa_nil)))))))), ?_⟩
    have e2 : (decide (r = r2) && decide (c = c2)) = false := by
      rw [Bool.and_eq_false_iff]
      by_cases k : r = r2
      · exact .inr (decide_eq_false fun q => hne ⟨k, q⟩)
      · exact .inl (decide_eq_false k)
    refine ⟨rfl, _, rfl, s2, r2, c2, n2, rfl, sc2, fun G1 p1 q1 s1 hp1 hq1 pb => ?_⟩
    have pa1 := pa.mono s1
    refine ⟨_, rfl, _, rfl, p, p1, s, q, s2, q1, r, c, n, r2, c2, n2, ms, _, rfl, pa1, pb, hne, fun G2 t2 => ⟨_, rfl, iteF ?_⟩⟩
    refine ⟨_, rfl, _, rfl, p1, p, s2, q1, s, q, r2, c2, n2, r, c, n, _, ms, rfl, pb.mono t2, pa1.mono t2, fun e => hne ⟨e.1.symm, e.2.symm⟩, fun G3 t3 => ⟨_, rfl, iteF ?_⟩⟩
    have s3 := t2.trans t3
    have pa3 := pa1.mono s3
    have pb3 := pb.mono s3
    obtain ⟨da, ha⟩ := pa3.ob
    obtain ⟨db, hb⟩ := pb3.ob
    refine ⟨_, rfl, _, rfl, p, da, _, rfl, ha, .inr (.inr (.inl ⟨p1, db, _, rfl, hb⟩)), p, s, q, r, c, n, ms, .ref p1, rfl, pa3, .inr (.inr ⟨p1, s2, q1, r2, c2, n2, _, rfl, pb3, _, rfl, _, _, rfl, _, rfl, ?_⟩)⟩
    rw [e2, Bool.false_and]
    refine iteF ?_
    refine ⟨_, rfl, _, rfl, p, da, _, rfl, ha, p, s, q, r, c, n, ms, rfl, pa3, _, rfl, p, da, _, rfl, ha, .inr (.inl ⟨_, rfl⟩), p, s, q, r, c, n, ms, _, rfl, pa3, .inl ⟨_, rfl, _, rfl, _, _, rfl, _, rfl, iteF ?_⟩⟩
    have hfG := s3 _ _ (s1 _ _ hf1)
    exact ⟨_, rfl, _, rfl, p, da, _, rfl, ha, .inr (.inr (.inr ⟨f1, _, rfl, hfG⟩)), p, s, q, r, c, n, ms, _, rfl, pa3, .inr (.inl ⟨f1, _, rfl, hfG, _, rfl, _, _, rfl, z _ (s1.trans s3)⟩)⟩
end
end K16

end
section
set_option Elab.async false
set_option linter.all false
set_option maxRecDepth 100000
set_option maxHeartbeats 4000000
namespace K16
open PySem PySem.Spec PyProof.Rows L2 Kit
section
variable {P : Program} {w : World} {K : PySem.W.Frag} {mg : Str → Option Value} {base : Heap} {a : Ad}
def menuL : List (Nat × Nat × Nat) := [(2, 2, 4), (1, 2, 2), (1, 3, 3), (3, 2, 8), (2, 3, 9)]
theorem menu_at {d : Int} (h0 : 0 ≤ d) (h1 : d < 5) : ∃ (i j r c n r2 c2 n2 : Nat), d = (i : Int) ∧ i < 5 ∧ (d + 1).fmod 5 = (j : Int) ∧ j < 5 ∧ menuL[i]? = some (r, c, n) ∧ menuL[j]? = some (r2, c2, n2) ∧ Good r c n ∧ Good r2 c2 n2 ∧ ¬ (r = r2 ∧ c = c2) := by
  rcases (show d = 0 ∨ d = 1 ∨ d = 2 ∨ d = 3 ∨ d = 4 by omega) with rfl | rfl | rfl | rfl | rfl
  · exact ⟨0, 1, 2, 2, 4, 1, 2, 2, rfl, by decide, by decide, by decide, rfl, rfl, by decide, by decide, by decide⟩
  · exact ⟨1, 2, 1, 2, 2, 1, 3, 3, rfl, by decide, by decide, by decide, rfl, rfl, by decide, by decide, by decide⟩
  · exact ⟨2, 3, 1, 3, 3, 3, 2, 8, rfl, by decide, by decide, by decide, rfl, rfl, by decide, by decide, by decide⟩
  · exact ⟨3, 4, 3, 2, 8, 2, 3, 9, rfl, by decide, by decide, by decide, rfl, rfl, by decide, by decide, by decide⟩
  · exact ⟨4, 0, 2, 3, 9, 2, 2, 4, rfl, by decide, by decide, by decide, rfl, rfl, by decide, by decide, by decide⟩
def MenuAt (H : Hp) (m : Addr) : Prop := ∃ ts : List Addr, H m = some (.lst (ts.map .ref)) ∧ ts.length = 5 ∧ ∀ (i : Nat) (t : Addr) (r c n : Nat), ts[i]? = some t → menuL[i]? = some (r, c, n) → H t = some (.tup [.int r, .int c, .int n])
theorem MenuAt.mono {H G : Hp} {m : Addr} (h : MenuAt H m) (e : Same H G) : MenuAt G m := let ⟨ts, h1, h2, h3⟩ := h; ⟨ts, e _ _ h1, h2, fun i t r c n a b => e _ _ (h3 i t r c n a b)⟩
theorem MenuAt.bu {n k : Nat} {p m : Addr} {H G : Hp} (h : MenuAt H m) (hb : BoxAt k H p) (e : Bu n p H G) : MenuAt G m := by
  obtain ⟨ts, h1, h2, h3⟩ := h
  obtain ⟨x, y, z, hp, _⟩ := hb
  refine ⟨ts, e.at h1 ?_, h2, fun i t r c n a b => e.at (h3 i t r c n a b) ?_⟩
  · intro q
    rw [q, hp] at h1
    match ts, h2 with
    | t :: r, _ =>
      rw [List.map_cons] at h1
      cases h1
  · intro q
    have := h3 i t r c n a b
    rw [q, hp] at this
    cases this
theorem MenuAt.get {H : Hp} {m : Addr} {i r c n : Nat} (h : MenuAt H m) (hi : i < 5) (hm : menuL[i]? = some (r, c, n)) : ∃ (xs : List V) (t : Addr), H m = some (.lst xs) ∧ atI xs ((i : Nat) : Int) = some (.ref t) ∧ H t = some (.tup [.int r, .int c, .int n]) := by
  obtain ⟨ts, h1, h2, h3⟩ := h
  have e := List.getElem?_eq_getElem (show i < ts.length by omega)
  exact ⟨_, ts[i], h1, atI_nat (by rw [List.getElem?_map, e]; rfl), h3 i _ r c n e hm⟩
theorem SchemeAt.bu {C p s : Addr} {H G : Hp} {r c n k m : Nat} (h : SchemeAt C H s r c n) (hb : BoxAt k H p) (e : Bu m p H G) : SchemeAt C G s r c n := by
  obtain ⟨⟨dx, hs⟩, gd⟩ := h
  obtain ⟨x, y, z, hp, _⟩ := hb
  refine ⟨⟨dx, e.at hs ?_⟩, gd⟩
  intro q
  rw [q, hp] at hs
  cases hs
theorem same_of_bu {n : Nat} {p : Addr} {H M G : Hp} (h0 : H p = none) (s : Same H M) (h : Bu n p M G) : Same H G := fun b o e => h.1 b o (s b o e) (ne_of_none e h0)
theorem good_sizeOf {r c n : Nat} (h : Good r c n) : sizeOf r c = some n ∧ badPart r c = none := by
  rcases h.cases with ⟨rfl, rfl, rfl⟩ | ⟨rfl, rfl, rfl⟩ | ⟨rfl, rfl, rfl⟩ | ⟨rfl, rfl, rfl⟩ | ⟨rfl, rfl, rfl⟩ <;> exact ⟨by decide, by decide⟩
theorem init_good {a : Ad} {H : Hp} {y dx : Addr} {r c n : Nat} {Q : Hp → Prop} (g : Good r c n) (hy : H y = none) (hdx : H dx = none) (ne : dx ≠ y) (k : ∀ G, Same H G → SchemeAt a.Scheme G y r c n → Q G) :
    spInit a (.ref y :: ([.int (r : Int), .int (c : Int)] ++ [])) (upd (upd H dx (.own y)) y (.ins a.Scheme dx [])) (fun v G => v = .non ∧ Q G) E0 := by
  refine ⟨y, dx, r, c, rfl, upd_same, fun l e => ?_, fun _ G hG hs => ⟨rfl, ?_⟩⟩
  · rw [(good_sizeOf g).2] at e
    cases e
  · obtain ⟨r', c', n', e1, e2, sch⟩ := hs
    obtain rfl : r' = r := by omega
    obtain rfl : c' = c := by omega
    have e3 := (good_sizeOf sch.2).1
    rw [(good_sizeOf g).1] at e3
    cases e3
    exact k G (fun b o hb => hG b o (((ex_new hdx).trans (ex_new (by rw [upd_ne (Ne.symm ne)]; exact hy))) b o hb) (ne_of_none hb hy)) sch
theorem size_at {d : Int} (h0 : 0 ≤ d) (h1 : d < 10) : ∃ z : Nat, z ≤ 40 ∧ atI [V.int 3, .int 0, .int 1, .int 2, .int 4, .int 5, .int 6, .int 8, .int 12, .int 40] d = some (.int (z : Int)) := by
  rcases (show d = 0 ∨ d = 1 ∨ d = 2 ∨ d = 3 ∨ d = 4 ∨ d = 5 ∨ d = 6 ∨ d = 7 ∨ d = 8 ∨ d = 9 by omega) with rfl | rfl | rfl | rfl | rfl | rfl | rfl | rfl | rfl | rfl
  · exact ⟨3, by decide, rfl⟩
  · exact ⟨0, by decide, rfl⟩
  · exact ⟨1, by decide, rfl⟩
  · exact ⟨2, by decide, rfl⟩
  · exact ⟨4, by decide, rfl⟩
  · exact ⟨5, by decide, rfl⟩
  · exact ⟨6, by decide, rfl⟩
  · exact ⟨8, by decide, rfl⟩
  · exact ⟨12, by decide, rfl⟩
  · exact ⟨40, by decide, rfl⟩
theorem no47 {r c n : Nat} {ms : List (List Nat)} (gd : Good r c n) (ok : okM r c ms = true) : ∀ m ∈ ms, 47 ∉ m := fun m hm h => by
  obtain ⟨i, hi⟩ := List.mem_iff_getElem?.mp hm
  obtain ⟨k, hk⟩ := List.mem_iff_getElem?.mp h
  have := digs_at (okM_at ok hi) hk
  unfold inDig at this
  rw [decide_eq_true_iff] at this
  omega
/-- the written form: it fits, and it is read back -/
theorem written {r c n : Nat} {ms : List (List Nat)} (gd : Good r c n) (ok : okM r c ms = true) : ((ms.map S).map (·.length)).sum + (ms.map S).length * (Str.ofString "/").length ≤ 16777216 ∧
    ∃ t : List Nat, Txt.join (Str.ofString "/") (ms.map S) = S t ∧ t.length ≤ 500 ∧ Txt.split (S t) (Str.ofString "/") = ms.map S := by
  have gn := good_n gd
  have gc := good_c gd
  have lm := okM_len ok
  have ml : ∀ m ∈ ms, m.length ≤ 3 := fun m hm => by
    obtain ⟨i, hi⟩ := List.mem_iff_getElem?.mp hm
    rw [digs_len (okM_at ok hi)]
    omega
  refine ⟨join_fits (B := 3) (by omega) ml (by decide), (Txt.join (Str.ofString "/") (ms.map S)).cps.toList, rfl, ?_, ?_⟩
  · have h1 := join_le (Str.ofString "/") (ms.map S)
    have e : (ms.map S).map (·.length) = ms.map List.length := by
      rw [List.map_map]
      exact List.map_congr_left fun l _ => S_len l
    rw [e, List.length_map, show (Str.ofString "/").length = 1 by decide +kernel] at h1
    have h2 := sum_le (f := List.length) ml
    have h3 : (Txt.join (Str.ofString "/") (ms.map S)).cps.toList.length = (Txt.join (Str.ofString "/") (ms.map S)).length := Array.length_toList ..
    rw [h3]
    omega
  · refine TL.split_join (y := Str.ofString "/") (s := 47) (S := []) (by decide +kernel) (by decide +kernel) (fun e => ?_) fun p hp => ?_
    · have := congrArg List.length e
      rw [List.length_map, lm] at this
      have : r = 0 := this
      omega
    · obtain ⟨m, hm, rfl⟩ := List.mem_map.mp hp
      exact no47 gd ok m hm
theorem ten_at {r c n : Nat} (gd : Good r c n) : (Str.ofString "abcdefghij").length ≤ sizeLine ∧ atI (Str.ofString "abcdefghij").cps.toList ((n : Nat) : Int) = some (97 + n) := by
  refine ⟨by decide +kernel, ?_⟩
  rcases gd.cases with ⟨rfl, rfl, rfl⟩ | ⟨rfl, rfl, rfl⟩ | ⟨rfl, rfl, rfl⟩ | ⟨rfl, rfl, rfl⟩ | ⟨rfl, rfl, rfl⟩ <;> decide +kernel
theorem sign_at {r c n : Nat} {d : Int} (gd : Good r c n) (h0 : 0 ≤ d) (h1 : d < 6) : ∃ x : Nat, atI [tx [97 + n], V.str (Str.ofString "j"), V.str (Str.ofString "A"), V.str (Str.ofString "0"), V.str (Str.ofString " "), V.str (Str.ofString "-")] d = some (tx [x]) ∧ inCol n x = false := by
  have gn := good_n gd
  have no : ∀ x : Nat, (x < 97 ∨ 97 + n ≤ x) → inCol n x = false := fun x h => by
    unfold inCol
    rw [decide_eq_false_iff_not]
    omega
  rcases (show d = 0 ∨ d = 1 ∨ d = 2 ∨ d = 3 ∨ d = 4 ∨ d = 5 by omega) with rfl | rfl | rfl | rfl | rfl | rfl
  · exact ⟨97 + n, rfl, no _ (by omega)⟩
  · exact ⟨106, congrArg (fun z => some (V.str z)) (by decide +kernel), no _ (by omega)⟩
  · exact ⟨65, congrArg (fun z => some (V.str z)) (by decide +kernel), no _ (by omega)⟩
  · exact ⟨48, congrArg (fun z => some (V.str z)) (by decide +kernel), no _ (by omega)⟩
  · exact ⟨32, congrArg (fun z => some (V.str z)) (by decide +kernel), no _ (by omega)⟩
  · exact ⟨45, congrArg (fun z => some (V.str z)) (by decide +kernel), no _ (by omega)⟩
def spLaw (K : PySem.W.Frag) : Sp := fun vs H Q _ => ∃ (q : Addr) (ns : List Int), vs = [.ref q] ∧ SqL K H q (ns.map V.int) ∧ ns.length ≤ 63 ∧ ∀ G, Q (.bl true) G
theorem ok_law (T : Txt K mg a) {f : Addr} {fd : FuncData} (F : Fun K "law" "law" s_law f fd) : FnOk P w K mg base (L2.CX P w) 13 f fd P_law (spLaw K) := by
  refine F.okX sc_law (fun vs H Q E h => ?_) (fun cdv A outer s H vs Q E hr h => ?_)
  · obtain ⟨q, ns, rfl, _⟩ := h
    rfl
  · obtain ⟨q, ns, rfl, hs, hl, z⟩ := h
    refine ⟨_, (pss_cons (ps_set (i := 1) sc_law.nd rfl (.inl rfl) (pc_f (c_law_box T) hr (by decide) (by rfl) (pa_cons (pv 0) (pa_cons pe_int pa_nil))))
      (pss_cons (ps_set (i := 2) sc_law.nd rfl (.inl rfl) (pe_lst (pa_cons (pe_tup (pa_cons pe_int (pa_cons pe_int (pa_cons pe_int pa_nil)))) (pa_cons (pe_tup (pa_cons pe_int (pa_cons pe_int (pa_cons pe_int pa_nil)))) (pa_cons (pe_tup (pa_cons pe_int (pa_cons pe_int (pa_cons pe_int pa_nil)))) (pa_cons (pe_tup (pa_cons pe_int (pa_cons pe_int (pa_cons pe_int pa_nil)))) (pa_cons (pe_tup (pa_cons pe_int (pa_cons pe_int (pa_cons pe_int pa_nil)))) pa_nil)))))))
      (pss_cons (ps_set (i := 3) sc_law.nd rfl (.inl rfl) (pc_f (c_law_take T) hr (by decide) (by rfl) (pa_cons (pv 1) (pa_cons pe_int pa_nil))))
      (pss_cons (ps_set (i := 4) sc_law.nd rfl (.inl rfl) (pe_ix (kix_tup K) (pe_ix (kix_list K) (pv 2) (pv 3) (fun _ _ => rfl)) pe_int (fun _ _ => rfl)))
      (pss_cons (ps_set (i := 5) sc_law.nd rfl (.inl rfl) (pe_ix (kix_tup K) (pe_ix (kix_list K) (pv 2) (pv 3) (fun _ _ => rfl)) pe_int (fun _ _ => rfl)))
      (pss_cons (ps_set (i := 6) sc_law.nd rfl (.inl rfl) (pe_ix (kix_tup K) (pe_ix (kix_list K) (pv 2) (pv 3) (fun _ _ => rfl)) pe_int (fun _ _ => rfl)))
      (pss_cons (ps_set (i := 7) sc_law.nd rfl (.inl rfl) (pc_n (c_Scheme_init T) hr (by decide) (by rfl) (pa_cons (pv 4) (pa_cons (pv 5) pa_nil))))
      (pss_cons (ps_set (i := 8) sc_law.nd rfl (.inl rfl) (pc_n (c_Scheme_init T) hr (by decide) (by rfl) (pa_cons (pe_ix (kix_tup K) (pe_ix (kix_list K) (pv 2) (pe_op op_modN (pe_callTy call_int1 (by rfl) T.b_int (by decide +kernel) (pa_cons (pe_op op_add (pv 3) pe_int) pa_nil)) pe_int) (fun _ _ => rfl)) pe_int (fun _ _ => rfl)) (pa_cons (pe_ix (kix_tup K) (pe_ix (kix_list K) (pv 2) (pe_op op_modN (pe_callTy call_int1 (by rfl) T.b_int (by decide +kernel) (pa_cons (pe_op op_add (pv 3) pe_int) pa_nil)) pe_int) (fun _ _ => rfl)) pe_int (fun _ _ => rfl)) pa_nil))))
      (pss_cons (ps_set (i := 9) sc_law.nd rfl (.inl rfl) (pc_f (c_law_maps T) hr (by decide) (by rfl) (pa_cons (pv 1) (pa_cons (pv 4) (pa_cons (pv 5) pa_nil)))))
      (C8.pss_cut (ps_if (pt_cmpR op_eq (pc_f (c_law_take T) hr (by decide) (by rfl) (pa_cons (pv 1) (pa_cons pe_int pa_nil))) pe_int (nomark _)) (pss_one (ps_set (i := 10) sc_law.nd rfl (.inl rfl) (pc_f (c_law_maps T) hr (by decide) (by rfl) (pa_cons (pc_f (c_law_box T) hr (by decide) (by rfl) (pa_cons (pv 0) (pa_cons pe_int pa_nil))) (pa_cons (pv 4) (pa_cons (pv 5) pa_nil)))))) (pss_one (ps_set (i := 10) sc_law.nd rfl (.inl rfl) (pc_f (c_law_other_maps T) hr (by decide) (by rfl) (pa_cons (pc_f (c_law_box T) hr (by decide) (by rfl) (pa_cons (pv 0) (pa_cons pe_int pa_nil))) (pa_cons (pv 5) (pa_cons (pv 9) pa_nil)))))))
      (pss_cons (ps_set (i := 11) sc_law.nd rfl (.inl rfl) (pc_f (c_law_box T) hr (by decide) (by rfl) (pa_cons (pv 0) (pa_cons pe_int pa_nil))))
      (pss_cons (ps_set (i := 12) sc_law.nd rfl (.inl rfl) (pe_ix (kix_list K) (pe_lst (pa_cons pe_int (pa_cons pe_int (pa_cons pe_int (pa_cons pe_int (pa_cons pe_int (pa_cons pe_int (pa_cons pe_int (pa_cons pe_int (pa_cons pe_int (pa_cons pe_int pa_nil))))))))))) (pc_f (c_law_take T) hr (by decide) (by rfl) (pa_cons (pv 11) (pa_cons pe_int pa_nil))) (fun _ _ => rfl)))
      (pss_cons (ps_set (i := 13) sc_law.nd rfl (.inl rfl) (pc_f (c_law_strip T) hr (by decide) (by rfl) (pa_cons (pv 11) (pa_cons (pv 6) (pa_cons (pv 12) pa_nil)))))
      (pss_cons (ps_set (i := 14) sc_law.nd rfl (.inl rfl) (pe_callTy (klist_of K) (by rfl) T.b_list (by decide +kernel) (pa_cons (pv 9) pa_nil)))
      (pss_cons (ps_set (i := 15) sc_law.nd rfl (.inl rfl) (pc_n (c_Paint_init T) hr (by decide) (by rfl) (pa_cons (pv 7) (pa_cons (pv 14) pa_nil))))
      (pss_cons (ps_if (pt_cmpR (kneP K hr.units) (pv 14) (pv 9) (nomark _)) (pss_one (ps_ret pe_bl)) pss_nil)
      (pss_cons (ps_asg pe_str (pg_sub (pv 14) pe_int set_list))
      (pss_cons (ps_set (i := 16) sc_law.nd rfl (.inl rfl) (pc_n (c_Paint_init T) hr (by decide) (by rfl) (pa_cons (pv 7) (pa_cons (pe_callTy (klist_of K) (by rfl) T.b_list (by decide +kernel) (pa_cons (pv 10) pa_nil)) pa_nil))))
      (pss_cons (ps_set (i := 17) sc_law.nd rfl (.inl rfl) (pc_f (c_law_painted T) hr (by decide) (by rfl) (pa_cons (pv 4) (pa_cons (pv 5) (pa_cons (pv 9) (pa_cons (pv 13) pa_nil))))))
      (pss_cons (ps_if (PW.pt (pw_or (pt_not (pt_val (pc_f (c_law_is_paint T) hr (by decide) (by rfl) (pa_cons (pv 15) (pa_cons (pv 7) (pa_cons (pv 9) pa_nil)))))) (pw_or (pt_cmpR op_ne (pc_c (c_Paint___call__ T) hr (by decide) (pv 15) (pa_cons (pv 13) pa_nil)) (pv 17) (nomark _)) (pw_or1 (pt_not (pt_val (pe_callB (kisi K) (by rfl) T.b_isinstance (by decide +kernel) (pa_cons (pc_c (c_Paint___call__ T) hr (by decide) (pv 15) (pa_cons (pv 13) pa_nil)) (pa_cons (pe_bltn (v := .ty "str") (by rfl) T.b_str (by decide +kernel) rfl) pa_nil))))))))) (pss_one (ps_ret pe_bl)) pss_nil)
      (pss_cons (ps_if (pt_not (pt_val (pc_f (c_law_product_holds T) hr (by decide) (by rfl) (pa_cons (pv 7) (pa_cons (pe_tup (pa_cons (pv 4) (pa_cons (pv 5) pa_nil))) (pa_cons (pv 15) (pa_cons (pv 16) (pa_cons (pv 9) (pa_cons (pv 10) (pa_cons (pv 13) pa_nil)))))))))) (pss_one (ps_ret pe_bl)) pss_nil)
      (pss_cons (ps_if (pt_not (pt_val (pc_f (c_law_still_holds T) hr (by decide) (by rfl) (pa_cons (pv 7) (pa_cons (pe_tup (pa_cons (pv 4) (pa_cons (pv 5) pa_nil))) (pa_cons (pv 15) (pa_cons (pv 9) (pa_cons (pv 13) pa_nil)))))))) (pss_one (ps_ret pe_bl)) pss_nil)
      (pss_cons (ps_if (pt_not (pt_val (pc_f (c_law_is_paint T) hr (by decide) (by rfl) (pa_cons (pc_cm (c_Paint_read T) hr (by decide) (pe_glob (v := .ref a.Paint) (by rfl) T.c_Paint.gC rfl) (pa_cons (pv 7) (pa_cons (kjoin K pe_str (pv 9)) pa_nil))) (pa_cons (pv 7) (pa_cons (pv 9) pa_nil)))))) (pss_one (ps_ret pe_bl)) pss_nil)
      (pss_cons (ps_if (pt_not (pt_val (pc_f (c_law_truth T) hr (by decide) (by rfl) (pa_cons (pe_cmpR (eqO2 K (c_Paint_eq T) hr (by decide) T.p_ni T.p_ns T.p_nl) (pc_cm (c_Paint_read T) hr (by decide) (pe_glob (v := .ref a.Paint) (by rfl) T.c_Paint.gC rfl) (pa_cons (pv 7) (pa_cons (pe_callTy (strO (c_Paint_str T) hr (by decide)) (by rfl) T.b_str (by decide +kernel) (pa_cons (pv 16) pa_nil)) pa_nil))) (pv 16) (nomark _)) (pa_cons pe_bl pa_nil))))) (pss_one (ps_ret pe_bl)) pss_nil)
      (pss_cons (ps_set (i := 18) sc_law.nd rfl (.inl rfl) (pc_f (c_law_box T) hr (by decide) (by rfl) (pa_cons (pv 0) (pa_cons pe_int pa_nil))))
      (pss_cons (ps_if (pt_not (pt_val (pc_f (c_law_refusals_hold T) hr (by decide) (by rfl) (pa_cons (pv 7) (pa_cons (pv 4) (pa_cons (pv 5) (pa_cons (pc_f (c_law_spoilt T) hr (by decide) (by rfl) (pa_cons (pv 18) (pa_cons (pv 5) (pa_cons (pv 9) pa_nil)))) pa_nil))))))) (pss_one (ps_ret pe_bl)) pss_nil)
      (pss_cons (ps_if (pt_not (pt_val (pc_f (c_law_refusals_hold T) hr (by decide) (by rfl) (pa_cons (pv 7) (pa_cons (pv 4) (pa_cons (pv 5) (pa_cons (pc_f (c_law_spoilt T) hr (by decide) (by rfl) (pa_cons (pv 18) (pa_cons (pv 5) (pa_cons (pv 10) pa_nil)))) pa_nil))))))) (pss_one (ps_ret pe_bl)) pss_nil)
      (pss_cons (ps_set (i := 19) sc_law.nd rfl (.inl rfl) (pc_f (c_law_take T) hr (by decide) (by rfl) (pa_cons (pv 18) (pa_cons (pe_op op_add (pe_callB (call_min2 (by rfl)) (by rfl) T.b_min (by decide +kernel) (pa_cons pe_int (pa_cons (pe_callB call_len_str (by rfl) T.b_len (by decide +kernel) (pa_cons (pv 13) pa_nil)) pa_nil))) pe_int) pa_nil))))
      (pss_cons (ps_set (i := 20) sc_law.nd rfl (.inl rfl) (pe_ix (kix_list K) (pe_lst (pa_cons (pe_ix ix_str pe_str (pv 6) (fun _ _ => rfl)) (pa_cons pe_str (pa_cons pe_str (pa_cons pe_str (pa_cons pe_str (pa_cons pe_str pa_nil))))))) (pc_f (c_law_take T) hr (by decide) (by rfl) (pa_cons (pv 18) (pa_cons pe_int pa_nil))) (fun _ _ => rfl)))
      (pss_cons (ps_if (pt_not (pt_val (pc_f (c_law_bad_strip T) hr (by decide) (by rfl) (pa_cons (pv 15) (pa_cons (pe_op op_add_str (pe_op op_add_str (pe_slice sl_str (pv 13) po_none (po_some (pv 19))) (pv 20)) (pe_slice sl_str (pv 13) (po_some (pv 19)) (po_some pe_int))) pa_nil))))) (pss_one (ps_ret pe_bl)) pss_nil)
      (pss_cons (ps_if (pt_not (pt_val (pc_f (c_law_strangers_hold T) hr (by decide) (by rfl) (pa_cons (pv 15) (pa_cons (pv 9) (pa_cons (pv 8) pa_nil)))))) (pss_one (ps_ret pe_bl)) pss_nil)
      (pss_one (ps_ret (pe_and (pc_f (c_law_is_paint T) hr (by decide) (by rfl) (pa_cons (pv 15) (pa_cons (pv 7) (pa_cons (pv 9) pa_nil)))) (pe_and (pc_f (c_law_is_paint T) hr (by decide) (by rfl) (pa_cons (pv 16) (pa_cons (pv 7) (pa_cons (pv 10) pa_nil)))) (pe_one (pe_cmpR op_eq (pc_c (c_Paint___call__ T) hr (by decide) (pv 15) (pa_cons (pv 13) pa_nil)) (pv 17) (nomark _)))))))))))))))))))))))))))))))))))))), ?_⟩
    refine ⟨_, rfl, q, ns, 0, rfl, hs, hl, by decide, by decide, fun bx G0 s0 hbx bA => ?_⟩
    -- the menu
    refine ⟨by show 3 ≤ sizeLine; decide, fun t0 h0 => ⟨by show 3 ≤ sizeLine; decide, fun t1 h1 => ⟨by show 3 ≤ sizeLine; decide, fun t2 h2 => ⟨by show 3 ≤ sizeLine; decide, fun t3 h3 => ⟨by show 3 ≤ sizeLine; decide, fun t4 h4 => ⟨by show 5 ≤ sizeLine; decide, fun m hm => ?_⟩⟩⟩⟩⟩⟩
    have u0 := ex_new (o := .tup [.int 2, .int 2, .int 4]) h0
    have u1 := ex_new (o := .tup [.int 1, .int 2, .int 2]) h1
    have u2 := ex_new (o := .tup [.int 1, .int 3, .int 3]) h2
    have u3 := ex_new (o := .tup [.int 3, .int 2, .int 8]) h3
    have u4 := ex_new (o := .tup [.int 2, .int 3, .int 9]) h4
    have u5 := ex_new (o := .lst [.ref t0, .ref t1, .ref t2, .ref t3, .ref t4]) hm
    generalize hG1 : upd _ m (HO.lst [.ref t0, .ref t1, .ref t2, .ref t3, .ref t4]) = G1 at u5 ⊢
    have me : MenuAt G1 m := by
      refine ⟨[t0, t1, t2, t3, t4], by rw [← hG1]; exact upd_same, rfl, fun i t r c n ht hmn => ?_⟩
      match i, ht with
      | 0, ht => cases ht; cases hmn; exact u5 _ _ (u4 _ _ (u3 _ _ (u2 _ _ (u1 _ _ upd_same))))
      | 1, ht => cases ht; cases hmn; exact u5 _ _ (u4 _ _ (u3 _ _ (u2 _ _ upd_same)))
      | 2, ht => cases ht; cases hmn; exact u5 _ _ (u4 _ _ (u3 _ _ upd_same))
      | 3, ht => cases ht; cases hmn; exact u5 _ _ (u4 _ _ upd_same)
      | 4, ht => cases ht; cases hmn; exact u5 _ _ upd_same
    have s1 : Same G0 G1 := ((((u0.trans u1).trans u2).trans u3).trans u4).trans u5
    refine ⟨_, rfl, bx, 5, 99999, rfl, (bA.mono s1), by decide, by decide, fun d G2 d0 d1 b2 => ?_⟩
    have me2 := me.bu (bA.mono s1) b2
    obtain ⟨i, j, r, c, n, r2, c2, n2, rfl, hi, ej, hj, em, em2, gd, gd2, hne⟩ := menu_at d0 d1
    obtain ⟨xs, t, hmx, hix, htx⟩ := me2.get hi em
    refine ⟨_, rfl, _, rfl, m, _, i, _, rfl, rfl, seqL_of hmx, hix, t, _, 0, _, rfl, rfl, seqT_of htx, rfl, ?_⟩
    refine ⟨_, rfl, _, rfl, m, _, i, _, rfl, rfl, seqL_of hmx, hix, t, _, 1, _, rfl, rfl, seqT_of htx, rfl, ?_⟩
    refine ⟨_, rfl, _, rfl, m, _, i, _, rfl, rfl, seqL_of hmx, hix, t, _, 2, _, rfl, rfl, seqT_of htx, rfl, ?_⟩
    refine ⟨_, rfl, _, rfl, fun y dx hy hdx ne => init_good gd hy hdx ne fun G3 s3 sch => ?_⟩
    have me3 := me2.mono s3
    obtain ⟨xs2, t2', hmx2, hix2, htx2⟩ := me3.get hj em2
    rw [← ej] at hix2
    have five : (5 : Int) ≠ 0 := by decide
    refine ⟨_, rfl, _, rfl, _, _, rfl, rfl, .inl ⟨_, rfl, _, _, rfl, rfl, five, m, _, _, _, rfl, rfl, seqL_of hmx2, hix2, t2', _, 0, _, rfl, rfl, seqT_of htx2, rfl,
      _, rfl, _, rfl, _, _, rfl, rfl, .inl ⟨_, rfl, _, _, rfl, rfl, five, m, _, _, _, rfl, rfl, seqL_of hmx2, hix2, t2', _, 1, _, rfl, rfl, seqT_of htx2, rfl, fun y2 dx2 hy2 hdx2 ne2 => init_good gd2 hy2 hdx2 ne2 fun G4 s4 fo => ?_⟩⟩⟩
    have sch4 := sch.mono s4
    have b4 : BoxAt 99999 G4 bx := b2.2.mono (s3.trans s4)
    refine ⟨_, rfl, _, rfl, _, rfl, bx, r, c, n, 99900, rfl, b4.le (by decide), gd, fun G5 f1 ms b5 hf1 hG5 ok => ?_⟩
    have sch5 := sch4.bu b4 b5
    have fo5 := fo.bu b4 b5
    have nf1 := box_ne b4 hf1
    have S5 : Same H G5 := same_of_bu hbx (same_of_bu hbx (s0.trans s1) b2 |>.trans s3 |>.trans s4) b5
    have gn := good_n gd
    have gc := good_c gd
    -- the second maps
    refine ⟨fun σ M => ∃ (f2 : Addr) (ms2 : List (List Nat)), Same H M ∧ SchemeAt a.Scheme M y r c n ∧ SchemeAt a.Scheme M y2 r2 c2 n2 ∧ M f1 = some (.lst (ms.map tx)) ∧ M f2 = some (.lst (ms2.map tx)) ∧ okM r c ms2 = true ∧
      σ = [some (.ref q), some (.ref bx), some (.ref m), some (.int i), some (.int r), some (.int c), some (.int n), some (.ref y), some (.ref y2), some (.ref f1), some (.ref f2), none, none, none, none, none, none, none, none, none, none], ?_, ?_⟩
    · refine ⟨_, rfl, bx, 2, 99000, rfl, b5.2.le (by decide), by decide, by decide, fun d6 G6 e0 e1 b6 => ?_⟩
      have sch6 := sch5.bu b5.2 b6
      have fo6 := fo5.bu b5.2 b6
      have hf6 := b6.at hG5 nf1
      have S6 : Same H G6 := same_of_bu hbx S5 b6
      refine ⟨rfl, _, rfl, ite2 (fun _ => ?_) (fun _ => ?_)⟩
      · refine ⟨_, rfl, q, ns, 1, rfl, SqLm hs S6, hl, by decide, by decide, fun b7 G7 s7 hb7 bA7 => ?_⟩
        refine ⟨_, rfl, _, rfl, b7, r, c, n, 90000, rfl, bA7.le (by decide), gd, fun G8 f2 ms2 b8 hf2 hG8 ok2 => ?_⟩
        have S68 : Same G6 G8 := same_of_bu hb7 s7 b8
        exact ⟨f2, ms2, S6.trans S68, sch6.mono S68, fo6.mono S68, S68 _ _ hf6, hG8, ok2, rfl⟩
      · refine ⟨_, rfl, q, ns, 1, rfl, SqLm hs S6, hl, by decide, by decide, fun b7 G7 s7 hb7 bA7 => ?_⟩
        have nf7 : f1 ≠ b7 := fun e => by rw [← e, hf6] at hb7; cases hb7
        refine ⟨_, rfl, _, rfl, b7, f1, r, c, n, 90000, ms, rfl, bA7.le (by decide), gd, nf7, s7 _ _ hf6, ok, fun G8 f2 ms2 b8 hf2 hG8 ok2 => ?_⟩
        have S68 : Same G6 G8 := same_of_bu hb7 s7 b8
        exact ⟨f2, ms2, S6.trans S68, sch6.mono S68, fo6.mono S68, S68 _ _ hf6, hG8, ok2, rfl⟩
    · rintro _ M ⟨f2, ms2, SM, scM, foM, hm1, hm2, ok2, rfl⟩
      refine ⟨_, rfl, q, ns, 2, rfl, SqLm hs SM, hl, by decide, by decide, fun b9 G9 s9 hb9 bA9 => ?_⟩
      refine ⟨by show 10 ≤ sizeLine; decide, fun l0 hl0 => ?_⟩
      have s10 := ex_new (o := .lst [.int 3, .int 0, .int 1, .int 2, .int 4, .int 5, .int 6, .int 8, .int 12, .int 40]) hl0
      have nl0 := box_ne bA9 hl0
      refine ⟨_, rfl, b9, 10, 99999, rfl, bA9.mono s10, by decide, by decide, fun d11 G11 x0 x1 b11 => ?_⟩
      obtain ⟨zz, hzz, hzi⟩ := size_at x0 x1
      refine ⟨l0, _, d11, _, rfl, rfl, seqL_of (b11.at upd_same nl0), hzi, ?_⟩
      refine ⟨_, rfl, _, rfl, _, rfl, b9, n, zz, 90000, rfl, b11.2.le (by decide), by omega, by omega, hzz, fun G12 l b12 hll hst => ?_⟩
      have MS : Same M G12 := same_of_bu hb9 (same_of_bu hb9 (s9.trans s10) b11) b12
      have hl100 : l.length ≤ 100 := by omega
      -- the paint
      refine ⟨_, rfl, f1, _, rfl, .inl (seqL_of (MS _ _ hm1)), fun f3 hf3 => ?_⟩
      have s13 := ex_new (o := .lst (ms.map tx)) hf3
      have S13 := MS.trans s13
      refine ⟨_, rfl, _, rfl, ?_⟩
      refine mkR (K := K) (scM.mono S13) upd_same ok fun G14 p1 q1 s14 hp1 hq1 pa => ?_
      have S14 := S13.trans s14
      have h3 : G14 f3 = some (.lst (ms.map tx)) := s14 _ _ upd_same
      refine ⟨_, rfl, _, rfl, pdL ms, pdL ms, dp_txt h3, dp_txt (S14 _ _ hm1), plainL _, plainL _, depthL _, _, rfl, itN (by rw [SeqAt.eqv_refl_plain _ (plainL ms)]; decide) ?_⟩
      have lms := okM_len ok
      have hr0 : 0 < r := gn.2.1
      have ix3 : ixN (ms.map tx).length 0 = some 0 := by
        unfold ixN
        rw [List.length_map, lms, if_pos (by decide), if_pos (by omega)]
        rfl
      refine ⟨_, rfl, f3, _, 0, 0, rfl, rfl, h3, ix3, ?_⟩
      have f3M : M f3 = none := free_same MS hf3
      have np1 : p1 ≠ f3 := fun e => by rw [e, upd_same] at hp1; cases hp1
      have nq1 : q1 ≠ f3 := fun e => by rw [e, upd_same] at hq1; cases hq1
      generalize hN : upd G14 f3 (HO.lst ((ms.map tx).set 0 (V.str (Str.ofString "9")))) = N
      have SN : Same M N := by rw [← hN]; exact ex_mut S14 f3M
      have paN : PaintAt a N p1 y q1 r c n ms := ⟨let ⟨dx, h⟩ := pa.ob; ⟨dx, by rw [← hN, upd_ne np1]; exact h⟩, scM.mono SN, by rw [← hN, upd_ne nq1]; exact pa.mp, ok⟩
      clear hN
      -- the other paint
      refine ⟨_, rfl, _, rfl, f2, _, rfl, .inl (seqL_of (SN _ _ hm2)), fun f4 hf4 => ?_⟩
      have s15 := ex_new (o := .lst (ms2.map tx)) hf4
      refine mkR (K := K) (scM.mono (SN.trans s15)) upd_same ok2 fun B p2 q2 s16 hp2 hq2 pb => ?_
      have SB : Same M B := (SN.trans s15).trans s16
      have paB := paN.mono (s15.trans s16)
      have scB := scM.mono SB
      have foB := foM.mono SB
      have b1 := SB _ _ hm1
      have bb2 := SB _ _ hm2
      have scr := SqLm hs (SM.trans SB)
      obtain ⟨da, ha⟩ := paB.ob
      refine ⟨_, rfl, _, rfl, _, rfl, _, rfl, r, c, n, f1, l, ms, rfl, gd, b1, ok, hst, by omega, ?_⟩
      have nost : ∀ {X : Prop}, isStrip n l = false → X := fun h => (by rw [hst] at h; cases h)
      refine ⟨_, rfl, _, rfl, _, rfl, p1, y, q1, y, f1, r, c, n, n, ms, rfl, paB, scB, b1, _, rfl, iteF ?_⟩
      refine ⟨_, rfl, p1, rfl, _, rfl, ⟨da, _, ha⟩, p1, y, q1, r, c, n, l, ms, rfl, paB, by omega, fun _ C1 k1 => ?_, nost⟩
      refine ⟨_, rfl, rfl, _, rfl, neT ?_⟩
      refine ⟨_, rfl, p1, rfl, _, rfl, ⟨da, _, k1 _ _ ha⟩, p1, y, q1, r, c, n, l, ms, rfl, paB.mono k1, by omega, fun _ C2 k2 => ?_, nost⟩
      refine ⟨_, _, _, _, true, rfl, .ty _, .base (.str _), rfl, _, rfl, iteF ?_⟩
      have K2 : Same B C2 := k1.trans k2
      -- the products
      refine ⟨_, rfl, _, rfl, _, rfl, by show 2 ≤ sizeLine; decide, fun t1 ht1 => ?_⟩
      have K3 := K2.trans (ex_new (o := .tup [.int r, .int c]) ht1)
      refine ⟨_, rfl, _, rfl, _, rfl, _, rfl, _, rfl, y, t1, p1, p2, y, q1, y, q2, f1, f2, r, c, n, l, ms, ms2, rfl, upd_same, paB.mono K3, pb.mono K3, scB.mono K3, K3 _ _ b1, K3 _ _ bb2, hst, hl100, fun C4 k4 => ⟨_, rfl, iteF ?_⟩⟩
      have K4 := K3.trans k4
      refine ⟨_, rfl, _, rfl, _, rfl, by show 2 ≤ sizeLine; decide, fun t2 ht2 => ?_⟩
      have K5 := K4.trans (ex_new (o := .tup [.int r, .int c]) ht2)
      refine ⟨_, rfl, _, rfl, _, rfl, y, t2, p1, y, q1, f1, r, c, n, l, ms, rfl, upd_same, paB.mono K5, scB.mono K5, K5 _ _ b1, hst, hl100, fun C6 k6 => ⟨_, rfl, iteF ?_⟩⟩
      have K6 := K5.trans k6
      -- written and read
      obtain ⟨e1, w1⟩ := written gd ok
      obtain ⟨e2, w2⟩ := written gd ok2
      obtain ⟨v1, hv1, hw1⟩ := w1
      obtain ⟨v2, hv2, hw2⟩ := w2
      refine ⟨rfl, _, rfl, ⟨_, rfl⟩, _, rfl, _, _, ms.map S, rfl, rfl, .inl (seqL_of (by rw [List.map_map]; exact K6 _ _ b1)), e1, ?_⟩
      rw [hv1]
      refine ⟨y, r, c, n, v1, ms, rfl, scB.mono K6, hw1.1, hw1.2, fun i9 h9 => (by rw [badRow_none ok] at h9; cases h9), fun _ C7 p7 q7 k7 hp7 hq7 pc => ?_⟩
      have K7 := K6.trans k7
      refine ⟨_, rfl, _, rfl, p7, y, q7, y, f1, r, c, n, n, ms, rfl, pc, scB.mono K7, K7 _ _ b1, _, rfl, iteF ?_⟩
      have pb7 := pb.mono K7
      obtain ⟨db, hb⟩ := pb7.ob
      refine ⟨rfl, _, rfl, _, rfl, p2, db, _, rfl, hb, p2, y, q2, r, c, n, ms2, rfl, pb7, _, rfl, ?_⟩
      rw [hv2]
      refine ⟨y, r, c, n, v2, ms2, rfl, scB.mono K7, hw2.1, hw2.2, fun i9 h9 => (by rw [badRow_none ok2] at h9; cases h9), fun _ C8 p8 q8 k8 hp8 hq8 pd => ?_⟩
      have K8 := K7.trans k8
      obtain ⟨dd, hd⟩ := pd.ob
      obtain ⟨db8, hb8⟩ := (pb.mono K8).ob
      refine ⟨_, rfl, p8, dd, _, rfl, hd, .inr (.inr (.inl ⟨p2, db8, _, rfl, hb8⟩)), p8, y, q8, r, c, n, ms2, .ref p2, rfl, pd, .inr (.inr ⟨p2, y, q2, r, c, n, ms2, rfl, pb.mono K8, _, rfl, _, _, rfl, _, rfl, ?_⟩)⟩
      rw [all3]
      refine iteF ?_
      -- the spoilt maps
      have SC : Same H C8 := SM.trans (SB.trans K8)
      refine ⟨_, rfl, q, ns, 3, rfl, SqLm hs SC, hl, by decide, by decide, fun bd G17 s17 hbd bA17 => ?_⟩
      have K17 : Same B G17 := K8.trans s17
      have b17 := K17 _ _ b1
      have nf17 : f1 ≠ bd := fun e => by rw [← e, SB.trans K8 _ _ hm1] at hbd; cases hbd
      refine ⟨_, rfl, _, rfl, _, rfl, _, rfl, _, rfl, _, rfl, bd, f1, r, c, n, 90000, ms, rfl, bA17.le (by decide), gd, nf17, b17, ok, fun G18 g1 ls1 b18 hg1 hG18 hl18 hll18 => ?_⟩
      have nB := free_same K8 hbd
      have K18 : Same B G18 := same_of_bu nB K17 b18
      refine ⟨y, g1, r, c, n, ls1, rfl, scB.mono K18, hG18, hl18, hll18, fun G19 k19 => ⟨_, rfl, iteF ?_⟩⟩
      have K19 := K18.trans k19
      have bA19 := b18.2.mono k19
      have nf19 : f2 ≠ bd := fun e => by rw [← e, SB.trans K8 _ _ hm2] at hbd; cases hbd
      refine ⟨_, rfl, _, rfl, _, rfl, _, rfl, _, rfl, _, rfl, bd, f2, r, c, n, 80000, ms2, rfl, bA19.le (by decide), gd, nf19, K19 _ _ bb2, ok2, fun G20 g2 ls2 b20 hg2 hG20 hl20 hll20 => ?_⟩
      have K20 : Same B G20 := same_of_bu nB K19 b20
      refine ⟨y, g2, r, c, n, ls2, rfl, scB.mono K20, hG20, hl20, hll20, fun G21 k21 => ⟨_, rfl, iteF ?_⟩⟩
      have K21 := K20.trans k21
      have bA21 := b20.2.mono k21
      refine ⟨_, rfl, _, rfl, _, rfl, by rw [S_len]; exact szl (by omega), _, _, rfl, _, _, rfl, rfl, bd, _, 79000, rfl, bA21.le (by decide), by rw [S_len]; split <;> omega, by rw [S_len]; split <;> omega, fun d22 G22 t0 t1 b22 => ?_⟩
      have K22 : Same B G22 := same_of_bu nB K21 b22
      obtain ⟨hc10, c10⟩ := ten_at gd
      refine ⟨_, rfl, _, _, 97 + n, rfl, rfl, hc10, c10, by show 6 ≤ sizeLine; decide, fun l3 hl3 => ?_⟩
      have s23 := ex_new (o := .lst [tx [97 + n], .str (Str.ofString "j"), .str (Str.ofString "A"), .str (Str.ofString "0"), .str (Str.ofString " "), .str (Str.ofString "-")]) hl3
      have nl3 := box_ne b22.2 hl3
      refine ⟨_, rfl, bd, 6, 78000, rfl, (b22.2.mono s23).le (by decide), by decide, by decide, fun d24 G24 w0 w1 b24 => ?_⟩
      have K24 : Same B G24 := same_of_bu nB (K22.trans s23) b24
      obtain ⟨sg, hsg, hin⟩ := sign_at gd w0 w1
      refine ⟨l3, _, d24, _, rfl, rfl, seqL_of (b24.at upd_same nl3), hsg, ?_⟩
      obtain ⟨tt, rfl⟩ : ∃ t : Nat, (t : Int) = d22 := ⟨d22.toNat, by omega⟩
      have szs : (S l).length ≤ sizeLine := by rw [S_len]; exact szl (by omega)
      have c1 := cut_take l tt
      obtain ⟨l5, hc2, n5⟩ : ∃ l5, cutS (S l) (some ((tt : Nat) : Int)) (some 20) = S l5 ∧ l5.length ≤ 100 := ⟨_, cut_S l _ _, by rw [List.length_take, List.length_drop]; omega⟩
      refine ⟨_, rfl, _, rfl, _, rfl, _, rfl, _, rfl, szs, ?_⟩
      rw [c1]
      refine ⟨_, rfl, S (l.take tt), S [sg], rfl, rfl, by rw [S_len, S_len, List.length_take]; exact szl (by show _ + 1 ≤ 100000; omega), ?_⟩
      rw [S_app]
      refine ⟨_, rfl, _, rfl, _, rfl, _, rfl, _, rfl, szs, ?_⟩
      rw [hc2]
      have n6 : (l.take tt).length ≤ 100 := by rw [List.length_take]; omega
      refine ⟨_, _, rfl, rfl, by rw [S_len, S_len, List.length_append]; exact szl (by show _ + 1 + _ ≤ 100000; omega), ?_⟩
      rw [S_app]
      have no : isStrip n (l.take tt ++ [sg] ++ l5) = false := by
        unfold isStrip
        rw [List.all_append, List.all_append, List.all_cons, hin, Bool.false_and, Bool.and_false, Bool.false_and]
      refine ⟨p1, y, q1, r, c, n, _, ms, rfl, paB.mono K24, by rw [List.length_append, List.length_append]; show _ + 1 + _ ≤ 1000; omega, no, fun G25 k25 => ⟨_, rfl, iteF ?_⟩⟩
      have K25 := K24.trans k25
      refine ⟨_, rfl, _, rfl, _, rfl, p1, y, q1, f1, y2, r, c, n, r2, c2, n2, ms, rfl, paB.mono K25, foB.mono K25, hne, ⟨_, K25 _ _ b1⟩, fun G26 k26 => ⟨_, rfl, iteF ?_⟩⟩
      have K26 := K25.trans k26
      refine ⟨_, rfl, _, rfl, _, rfl, p1, y, q1, y, f1, r, c, n, n, ms, rfl, paB.mono K26, scB.mono K26, K26 _ _ b1, _, rfl, iteT ?_⟩
      refine ⟨_, rfl, _, rfl, _, rfl, p2, y, q2, y, f2, r, c, n, n, ms2, rfl, pb.mono K26, scB.mono K26, K26 _ _ bb2, _, rfl, iteT ?_⟩
      refine ⟨_, rfl, p1, rfl, _, rfl, ⟨da, _, K26 _ _ ha⟩, p1, y, q1, r, c, n, l, ms, rfl, paB.mono K26, by omega, fun _ C27 k27 => ?_, nost⟩
      refine ⟨_, rfl, rfl, ?_⟩
      have e : decide (tx (paintS r c ms l) = tx (paintS r c ms l)) = true := decide_eq_true rfl
      rw [e]
      exact z _
end
theorem law_F {l : PySem.W.OpenLaw} {w : World} {K : PySem.W.Frag} {mg : Str → Option Value} {fa : Addr} {a : Ad} (T : Txt K mg a) (hfa : mg "law" = some (.ref fa)) :
    ∃ fd : FuncData, (∀ (s : Shared) (v : Value), BindsTo s fd ⟨[v], []⟩ [("script", v)]) ∧ ∀ base : Heap, K.In base → base.Ns mainGlobals mg → FnOk l.prog w K mg base (L2.CX l.prog w) 13 fa fd ["script"] (spLaw K) := by
  obtain ⟨f, fd, F, g⟩ := T.d_law.ex
  have e := hfa.symm.trans g
  cases e
  refine ⟨fd, fun s v => ?_, fun base _ _ => ok_law T F⟩
  obtain ⟨oc, od, kV, doc, pm, an, cdv, ct, osl, rfl, lk, hcd⟩ := F.ex
  exact .of_eq rfl
theorem walk {l : PySem.W.OpenLaw} {q : Program} {loose : List Str} {XP : (Str → Option Value) → Heap → Prop} {YP : World → Heap → Prop} {d : DefRec} {K : Params → PySem.W.Frag} (hn : l.most = some 63) (hdf : d.params.defaults = [])
    (hY : ∀ (w : World) (h : Heap), YP w h → (K w.params).In h) (hd : d.name = "law")
    (F : ∀ (w : World) (mg : Str → Option Value) (h : Heap), (K w.params).In h → h.Ns mainGlobals mg → ∃ a, Txt (K w.params) mg a) :
    PySem.W.WalkO q loose XP YP l.row.toRowW d [] (fun f vs => PySem.call f vs) :=
  L2.walk_of (n := 63) (k := 13) (x := "script") (CX := fun w => L2.CX l.prog w) (sp := fun w => spLaw (K w.params)) hn (by decide) hdf ⟨rfl, by decide, by decide⟩ hY
    (fun w mg fa h KX G hmg => let ⟨a, T⟩ := F w mg h KX G; law_F T (hd ▸ hmg))
    (fun _ _ a ns hl _ hS => ⟨a, ns, rfl, hS, hl, fun _ => rfl⟩) fun _ _ _ _ _ z => by
      obtain ⟨_, _, _, _, _, _, _, _, _, _, _, _, x⟩ := z
      exact x
end K16

end
section
set_option Elab.async false
set_option linter.all false
set_option maxRecDepth 100000
set_option maxHeartbeats 4000000
namespace K16
open PySem PySem.Spec PyProof.Rows L2 Kit
theorem kk_of {K : PySem.W.Frag} {CGalloonError CUnlikeSchemes CBadScheme CBadColumn CBadSpots CBadStrip CBadIndex CBadPaint CBadMask CScheme CPaint : Addr}
    (ic_UnlikeSchemes : PySem.W.isClsIn K CUnlikeSchemes = true)
    (tc_UnlikeSchemes : PySem.W.typeIn K (.ref CUnlikeSchemes) = some (.type "type"))
    (ic_BadScheme : PySem.W.isClsIn K CBadScheme = true)
    (tc_BadScheme : PySem.W.typeIn K (.ref CBadScheme) = some (.type "type"))
    (ic_BadColumn : PySem.W.isClsIn K CBadColumn = true)
    (tc_BadColumn : PySem.W.typeIn K (.ref CBadColumn) = some (.type "type"))
    (ic_BadSpots : PySem.W.isClsIn K CBadSpots = true)
    (tc_BadSpots : PySem.W.typeIn K (.ref CBadSpots) = some (.type "type"))
    (ic_BadStrip : PySem.W.isClsIn K CBadStrip = true)
    (tc_BadStrip : PySem.W.typeIn K (.ref CBadStrip) = some (.type "type"))
    (ic_BadIndex : PySem.W.isClsIn K CBadIndex = true)
    (tc_BadIndex : PySem.W.typeIn K (.ref CBadIndex) = some (.type "type"))
    (ic_BadPaint : PySem.W.isClsIn K CBadPaint = true)
    (tc_BadPaint : PySem.W.typeIn K (.ref CBadPaint) = some (.type "type"))
    (ic_BadMask : PySem.W.isClsIn K CBadMask = true)
    (tc_BadMask : PySem.W.typeIn K (.ref CBadMask) = some (.type "type"))
    (s_0_1 : PySem.W.subIn K (.ref CBadScheme) (.ref CBadColumn) = some false)
    (ne_0_1 : ((Value.ref CBadScheme) == Value.ref CBadColumn) = false)
    (s_0_2 : PySem.W.subIn K (.ref CBadScheme) (.ref CBadSpots) = some false)
    (ne_0_2 : ((Value.ref CBadScheme) == Value.ref CBadSpots) = false)
    (s_0_3 : PySem.W.subIn K (.ref CBadScheme) (.ref CBadStrip) = some false)
    (ne_0_3 : ((Value.ref CBadScheme) == Value.ref CBadStrip) = false)
    (s_0_4 : PySem.W.subIn K (.ref CBadScheme) (.ref CBadIndex) = some false)
    (ne_0_4 : ((Value.ref CBadScheme) == Value.ref CBadIndex) = false)
    (s_0_5 : PySem.W.subIn K (.ref CBadScheme) (.ref CBadPaint) = some false)
    (ne_0_5 : ((Value.ref CBadScheme) == Value.ref CBadPaint) = false)
    (s_0_6 : PySem.W.subIn K (.ref CBadScheme) (.ref CBadMask) = some false)
    (ne_0_6 : ((Value.ref CBadScheme) == Value.ref CBadMask) = false)
    (s_0_7 : PySem.W.subIn K (.ref CBadScheme) (.ref CUnlikeSchemes) = some false)
    (ne_0_7 : ((Value.ref CBadScheme) == Value.ref CUnlikeSchemes) = false)
    (s_1_0 : PySem.W.subIn K (.ref CBadColumn) (.ref CBadScheme) = some false)
    (ne_1_0 : ((Value.ref CBadColumn) == Value.ref CBadScheme) = false)
    (s_1_2 : PySem.W.subIn K (.ref CBadColumn) (.ref CBadSpots) = some false)
    (ne_1_2 : ((Value.ref CBadColumn) == Value.ref CBadSpots) = false)
    (s_1_3 : PySem.W.subIn K (.ref CBadColumn) (.ref CBadStrip) = some false)
    (ne_1_3 : ((Value.ref CBadColumn) == Value.ref CBadStrip) = false)
    (s_1_4 : PySem.W.subIn K (.ref CBadColumn) (.ref CBadIndex) = some false)
    (ne_1_4 : ((Value.ref CBadColumn) == Value.ref CBadIndex) = false)
    (s_1_5 : PySem.W.subIn K (.ref CBadColumn) (.ref CBadPaint) = some false)
    (ne_1_5 : ((Value.ref CBadColumn) == Value.ref CBadPaint) = false)
    (s_1_6 : PySem.W.subIn K (.ref CBadColumn) (.ref CBadMask) = some false)
    (ne_1_6 : ((Value.ref CBadColumn) == Value.ref CBadMask) = false)
    (s_1_7 : PySem.W.subIn K (.ref CBadColumn) (.ref CUnlikeSchemes) = some false)
    (ne_1_7 : ((Value.ref CBadColumn) == Value.ref CUnlikeSchemes) = false)
    (s_2_0 : PySem.W.subIn K (.ref CBadSpots) (.ref CBadScheme) = some false)
    (ne_2_0 : ((Value.ref CBadSpots) == Value.ref CBadScheme) = false)
    (s_2_1 : PySem.W.subIn K (.ref CBadSpots) (.ref CBadColumn) = some false)
    (ne_2_1 : ((Value.ref CBadSpots) == Value.ref CBadColumn) = false)
    (s_2_3 : PySem.W.subIn K (.ref CBadSpots) (.ref CBadStrip) = some false)
    (ne_2_3 : ((Value.ref CBadSpots) == Value.ref CBadStrip) = false)
    (s_2_4 : PySem.W.subIn K (.ref CBadSpots) (.ref CBadIndex) = some false)
    (ne_2_4 : ((Value.ref CBadSpots) == Value.ref CBadIndex) = false)
    (s_2_5 : PySem.W.subIn K (.ref CBadSpots) (.ref CBadPaint) = some false)
    (ne_2_5 : ((Value.ref CBadSpots) == Value.ref CBadPaint) = false)
    (s_2_6 : PySem.W.subIn K (.ref CBadSpots) (.ref CBadMask) = some false)
    (ne_2_6 : ((Value.ref CBadSpots) == Value.ref CBadMask) = false)
    (s_2_7 : PySem.W.subIn K (.ref CBadSpots) (.ref CUnlikeSchemes) = some false)
    (ne_2_7 : ((Value.ref CBadSpots) == Value.ref CUnlikeSchemes) = false)
    (s_3_0 : PySem.W.subIn K (.ref CBadStrip) (.ref CBadScheme) = some false)
    (ne_3_0 : ((Value.ref CBadStrip) == Value.ref CBadScheme) = false)
    (s_3_1 : PySem.W.subIn K (.ref CBadStrip) (.ref CBadColumn) = some false)
    (ne_3_1 : ((Value.ref CBadStrip) == Value.ref CBadColumn) = false)
    (s_3_2 : PySem.W.subIn K (.ref CBadStrip) (.ref CBadSpots) = some false)
    (ne_3_2 : ((Value.ref CBadStrip) == Value.ref CBadSpots) = false)
    (s_3_4 : PySem.W.subIn K (.ref CBadStrip) (.ref CBadIndex) = some false)
    (ne_3_4 : ((Value.ref CBadStrip) == Value.ref CBadIndex) = false)
    (s_3_5 : PySem.W.subIn K (.ref CBadStrip) (.ref CBadPaint) = some false)
    (ne_3_5 : ((Value.ref CBadStrip) == Value.ref CBadPaint) = false)
    (s_3_6 : PySem.W.subIn K (.ref CBadStrip) (.ref CBadMask) = some false)
    (ne_3_6 : ((Value.ref CBadStrip) == Value.ref CBadMask) = false)
    (s_3_7 : PySem.W.subIn K (.ref CBadStrip) (.ref CUnlikeSchemes) = some false)
    (ne_3_7 : ((Value.ref CBadStrip) == Value.ref CUnlikeSchemes) = false)
    (s_4_0 : PySem.W.subIn K (.ref CBadIndex) (.ref CBadScheme) = some false)
    (ne_4_0 : ((Value.ref CBadIndex) == Value.ref CBadScheme) = false)
    (s_4_1 : PySem.W.subIn K (.ref CBadIndex) (.ref CBadColumn) = some false)
    (ne_4_1 : ((Value.ref CBadIndex) == Value.ref CBadColumn) = false)
    (s_4_2 : PySem.W.subIn K (.ref CBadIndex) (.ref CBadSpots) = some false)
    (ne_4_2 : ((Value.ref CBadIndex) == Value.ref CBadSpots) = false)
    (s_4_3 : PySem.W.subIn K (.ref CBadIndex) (.ref CBadStrip) = some false)
    (ne_4_3 : ((Value.ref CBadIndex) == Value.ref CBadStrip) = false)
    (s_4_5 : PySem.W.subIn K (.ref CBadIndex) (.ref CBadPaint) = some false)
    (ne_4_5 : ((Value.ref CBadIndex) == Value.ref CBadPaint) = false)
    (s_4_6 : PySem.W.subIn K (.ref CBadIndex) (.ref CBadMask) = some false)
    (ne_4_6 : ((Value.ref CBadIndex) == Value.ref CBadMask) = false)
    (s_4_7 : PySem.W.subIn K (.ref CBadIndex) (.ref CUnlikeSchemes) = some false)
    (ne_4_7 : ((Value.ref CBadIndex) == Value.ref CUnlikeSchemes) = false)
    (s_5_0 : PySem.W.subIn K (.ref CBadPaint) (.ref CBadScheme) = some false)
    (ne_5_0 : ((Value.ref CBadPaint) == Value.ref CBadScheme) = false)
    (s_5_1 : PySem.W.subIn K (.ref CBadPaint) (.ref CBadColumn) = some false)
    (ne_5_1 : ((Value.ref CBadPaint) == Value.ref CBadColumn) = false)
    (s_5_2 : PySem.W.subIn K (.ref CBadPaint) (.ref CBadSpots) = some false)
    (ne_5_2 : ((Value.ref CBadPaint) == Value.ref CBadSpots) = false)
    (s_5_3 : PySem.W.subIn K (.ref CBadPaint) (.ref CBadStrip) = some false)
    (ne_5_3 : ((Value.ref CBadPaint) == Value.ref CBadStrip) = false)
    (s_5_4 : PySem.W.subIn K (.ref CBadPaint) (.ref CBadIndex) = some false)
    (ne_5_4 : ((Value.ref CBadPaint) == Value.ref CBadIndex) = false)
    (s_5_6 : PySem.W.subIn K (.ref CBadPaint) (.ref CBadMask) = some false)
    (ne_5_6 : ((Value.ref CBadPaint) == Value.ref CBadMask) = false)
    (s_5_7 : PySem.W.subIn K (.ref CBadPaint) (.ref CUnlikeSchemes) = some false)
    (ne_5_7 : ((Value.ref CBadPaint) == Value.ref CUnlikeSchemes) = false)
    (s_6_0 : PySem.W.subIn K (.ref CBadMask) (.ref CBadScheme) = some false)
    (ne_6_0 : ((Value.ref CBadMask) == Value.ref CBadScheme) = false)
    (s_6_1 : PySem.W.subIn K (.ref CBadMask) (.ref CBadColumn) = some false)
    (ne_6_1 : ((Value.ref CBadMask) == Value.ref CBadColumn) = false)
    (s_6_2 : PySem.W.subIn K (.ref CBadMask) (.ref CBadSpots) = some false)
    (ne_6_2 : ((Value.ref CBadMask) == Value.ref CBadSpots) = false)
    (s_6_3 : PySem.W.subIn K (.ref CBadMask) (.ref CBadStrip) = some false)
    (ne_6_3 : ((Value.ref CBadMask) == Value.ref CBadStrip) = false)
    (s_6_4 : PySem.W.subIn K (.ref CBadMask) (.ref CBadIndex) = some false)
    (ne_6_4 : ((Value.ref CBadMask) == Value.ref CBadIndex) = false)
    (s_6_5 : PySem.W.subIn K (.ref CBadMask) (.ref CBadPaint) = some false)
    (ne_6_5 : ((Value.ref CBadMask) == Value.ref CBadPaint) = false)
    (s_6_7 : PySem.W.subIn K (.ref CBadMask) (.ref CUnlikeSchemes) = some false)
    (ne_6_7 : ((Value.ref CBadMask) == Value.ref CUnlikeSchemes) = false)
    (s_7_0 : PySem.W.subIn K (.ref CUnlikeSchemes) (.ref CBadScheme) = some false)
    (ne_7_0 : ((Value.ref CUnlikeSchemes) == Value.ref CBadScheme) = false)
    (s_7_1 : PySem.W.subIn K (.ref CUnlikeSchemes) (.ref CBadColumn) = some false)
    (ne_7_1 : ((Value.ref CUnlikeSchemes) == Value.ref CBadColumn) = false)
    (s_7_2 : PySem.W.subIn K (.ref CUnlikeSchemes) (.ref CBadSpots) = some false)
    (ne_7_2 : ((Value.ref CUnlikeSchemes) == Value.ref CBadSpots) = false)
    (s_7_3 : PySem.W.subIn K (.ref CUnlikeSchemes) (.ref CBadStrip) = some false)
    (ne_7_3 : ((Value.ref CUnlikeSchemes) == Value.ref CBadStrip) = false)
    (s_7_4 : PySem.W.subIn K (.ref CUnlikeSchemes) (.ref CBadIndex) = some false)
    (ne_7_4 : ((Value.ref CUnlikeSchemes) == Value.ref CBadIndex) = false)
    (s_7_5 : PySem.W.subIn K (.ref CUnlikeSchemes) (.ref CBadPaint) = some false)
    (ne_7_5 : ((Value.ref CUnlikeSchemes) == Value.ref CBadPaint) = false)
    (s_7_6 : PySem.W.subIn K (.ref CUnlikeSchemes) (.ref CBadMask) = some false)
    (ne_7_6 : ((Value.ref CUnlikeSchemes) == Value.ref CBadMask) = false) : ∀ i < 8, ∀ j < 8, PySem.W.kitOne K (.ref (eAd ⟨CGalloonError, CUnlikeSchemes, CBadScheme, CBadColumn, CBadSpots, CBadStrip, CBadIndex, CBadPaint, CBadMask, CScheme, CPaint⟩ i)) (.ref (eAd ⟨CGalloonError, CUnlikeSchemes, CBadScheme, CBadColumn, CBadSpots, CBadStrip, CBadIndex, CBadPaint, CBadMask, CScheme, CPaint⟩ j)) = some (decide (i = j)) := by
  intro i hi j hj
  match i, hi, j, hj with
  | 0, _, 0, _ => exact kitS_of
  | 0, _, 1, _ => exact kitR_of ic_BadColumn tc_BadColumn s_0_1 ne_0_1
  | 0, _, 2, _ => exact kitR_of ic_BadSpots tc_BadSpots s_0_2 ne_0_2
  | 0, _, 3, _ => exact kitR_of ic_BadStrip tc_BadStrip s_0_3 ne_0_3
  | 0, _, 4, _ => exact kitR_of ic_BadIndex tc_BadIndex s_0_4 ne_0_4
  | 0, _, 5, _ => exact kitR_of ic_BadPaint tc_BadPaint s_0_5 ne_0_5
  | 0, _, 6, _ => exact kitR_of ic_BadMask tc_BadMask s_0_6 ne_0_6
  | 0, _, 7, _ => exact kitR_of ic_UnlikeSchemes tc_UnlikeSchemes s_0_7 ne_0_7
  | 1, _, 0, _ => exact kitR_of ic_BadScheme tc_BadScheme s_1_0 ne_1_0
  | 1, _, 1, _ => exact kitS_of
  | 1, _, 2, _ => exact kitR_of ic_BadSpots tc_BadSpots s_1_2 ne_1_2
  | 1, _, 3, _ => exact kitR_of ic_BadStrip tc_BadStrip s_1_3 ne_1_3
  | 1, _, 4, _ => exact kitR_of ic_BadIndex tc_BadIndex s_1_4 ne_1_4
  | 1, _, 5, _ => exact kitR_of ic_BadPaint tc_BadPaint s_1_5 ne_1_5
  | 1, _, 6, _ => exact kitR_of ic_BadMask tc_BadMask s_1_6 ne_1_6
  | 1, _, 7, _ => exact kitR_of ic_UnlikeSchemes tc_UnlikeSchemes s_1_7 ne_1_7
  | 2, _, 0, _ => exact kitR_of ic_BadScheme tc_BadScheme s_2_0 ne_2_0
  | 2, _, 1, _ => exact kitR_of ic_BadColumn tc_BadColumn s_2_1 ne_2_1
  | 2, _, 2, _ => exact kitS_of
  | 2, _, 3, _ => exact kitR_of ic_BadStrip tc_BadStrip s_2_3 ne_2_3
  | 2, _, 4, _ => exact kitR_of ic_BadIndex tc_BadIndex s_2_4 ne_2_4
  | 2, _, 5, _ => exact kitR_of ic_BadPaint tc_BadPaint s_2_5 ne_2_5
  | 2, _, 6, _ => exact kitR_of ic_BadMask tc_BadMask s_2_6 ne_2_6
  | 2, _, 7, _ => exact kitR_of ic_UnlikeSchemes tc_UnlikeSchemes s_2_7 ne_2_7
  | 3, _, 0, _ => exact kitR_of ic_BadScheme tc_BadScheme s_3_0 ne_3_0
  | 3, _, 1, _ => exact kitR_of ic_BadColumn tc_BadColumn s_3_1 ne_3_1
  | 3, _, 2, _ => exact kitR_of ic_BadSpots tc_BadSpots s_3_2 ne_3_2
  | 3, _, 3, _ => exact kitS_of
  | 3, _, 4, _ => exact kitR_of ic_BadIndex tc_BadIndex s_3_4 ne_3_4
  | 3, _, 5, _ => exact kitR_of ic_BadPaint tc_BadPaint s_3_5 ne_3_5
  | 3, _, 6, _ => exact kitR_of ic_BadMask tc_BadMask s_3_6 ne_3_6
  | 3, _, 7, _ => exact kitR_of ic_UnlikeSchemes tc_UnlikeSchemes s_3_7 ne_3_7
  | 4, _, 0, _ => exact kitR_of ic_BadScheme tc_BadScheme s_4_0 ne_4_0
  | 4, _, 1, _ => exact kitR_of ic_BadColumn tc_BadColumn s_4_1 ne_4_1
  | 4, _, 2, _ => exact kitR_of ic_BadSpots tc_BadSpots s_4_2 ne_4_2
  | 4, _, 3, _ => exact kitR_of ic_BadStrip tc_BadStrip s_4_3 ne_4_3
  | 4, _, 4, _ => exact kitS_of
  | 4, _, 5, _ => exact kitR_of ic_BadPaint tc_BadPaint s_4_5 ne_4_5
  | 4, _, 6, _ => exact kitR_of ic_BadMask tc_BadMask s_4_6 ne_4_6
  | 4, _, 7, _ => exact kitR_of ic_UnlikeSchemes tc_UnlikeSchemes s_4_7 ne_4_7
  | 5, _, 0, _ => exact kitR_of ic_BadScheme tc_BadScheme s_5_0 ne_5_0
  | 5, _, 1, _ => exact kitR_of ic_BadColumn tc_BadColumn s_5_1 ne_5_1
  | 5, _, 2, _ => exact kitR_of ic_BadSpots tc_BadSpots s_5_2 ne_5_2
  | 5, _, 3, _ => exact kitR_of ic_BadStrip tc_BadStrip s_5_3 ne_5_3
  | 5, _, 4, _ => exact kitR_of ic_BadIndex tc_BadIndex s_5_4 ne_5_4
  | 5, _, 5, _ => exact kitS_of
  | 5, _, 6, _ => exact kitR_of ic_BadMask tc_BadMask s_5_6 ne_5_6
  | 5, _, 7, _ => exact kitR_of ic_UnlikeSchemes tc_UnlikeSchemes s_5_7 ne_5_7
  | 6, _, 0, _ => exact kitR_of ic_BadScheme tc_BadScheme s_6_0 ne_6_0
  | 6, _, 1, _ => exact kitR_of ic_BadColumn tc_BadColumn s_6_1 ne_6_1
  | 6, _, 2, _ => exact kitR_of ic_BadSpots tc_BadSpots s_6_2 ne_6_2
  | 6, _, 3, _ => exact kitR_of ic_BadStrip tc_BadStrip s_6_3 ne_6_3
  | 6, _, 4, _ => exact kitR_of ic_BadIndex tc_BadIndex s_6_4 ne_6_4
  | 6, _, 5, _ => exact kitR_of ic_BadPaint tc_BadPaint s_6_5 ne_6_5
  | 6, _, 6, _ => exact kitS_of
  | 6, _, 7, _ => exact kitR_of ic_UnlikeSchemes tc_UnlikeSchemes s_6_7 ne_6_7
  | 7, _, 0, _ => exact kitR_of ic_BadScheme tc_BadScheme s_7_0 ne_7_0
  | 7, _, 1, _ => exact kitR_of ic_BadColumn tc_BadColumn s_7_1 ne_7_1
  | 7, _, 2, _ => exact kitR_of ic_BadSpots tc_BadSpots s_7_2 ne_7_2
  | 7, _, 3, _ => exact kitR_of ic_BadStrip tc_BadStrip s_7_3 ne_7_3
  | 7, _, 4, _ => exact kitR_of ic_BadIndex tc_BadIndex s_7_4 ne_7_4
  | 7, _, 5, _ => exact kitR_of ic_BadPaint tc_BadPaint s_7_5 ne_7_5
  | 7, _, 6, _ => exact kitR_of ic_BadMask tc_BadMask s_7_6 ne_7_6
  | 7, _, 7, _ => exact kitS_of
theorem kv_of {K : PySem.W.Frag} {CGalloonError CUnlikeSchemes CBadScheme CBadColumn CBadSpots CBadStrip CBadIndex CBadPaint CBadMask CScheme CPaint : Addr}
    (sv_0 : PySem.W.subIn K (.ref CBadScheme) (.type "ValueError") = some true)
    (sv_1 : PySem.W.subIn K (.ref CBadColumn) (.type "ValueError") = some true)
    (sv_2 : PySem.W.subIn K (.ref CBadSpots) (.type "ValueError") = some true)
    (sv_3 : PySem.W.subIn K (.ref CBadStrip) (.type "ValueError") = some true)
    (sv_4 : PySem.W.subIn K (.ref CBadIndex) (.type "ValueError") = some true)
    (sv_5 : PySem.W.subIn K (.ref CBadPaint) (.type "ValueError") = some true)
    (sv_6 : PySem.W.subIn K (.ref CBadMask) (.type "ValueError") = some true)
    (sv_7 : PySem.W.subIn K (.ref CUnlikeSchemes) (.type "ValueError") = some true) : ∀ i < 8, PySem.W.kitOne K (.ref (eAd ⟨CGalloonError, CUnlikeSchemes, CBadScheme, CBadColumn, CBadSpots, CBadStrip, CBadIndex, CBadPaint, CBadMask, CScheme, CPaint⟩ i)) (.type "ValueError") = some true := by
  intro i hi
  match i, hi with
  | 0, _ => exact kitT_of (by decide +kernel) sv_0
  | 1, _ => exact kitT_of (by decide +kernel) sv_1
  | 2, _ => exact kitT_of (by decide +kernel) sv_2
  | 3, _ => exact kitT_of (by decide +kernel) sv_3
  | 4, _ => exact kitT_of (by decide +kernel) sv_4
  | 5, _ => exact kitT_of (by decide +kernel) sv_5
  | 6, _ => exact kitT_of (by decide +kernel) sv_6
  | 7, _ => exact kitT_of (by decide +kernel) sv_7
theorem xm_of {K : PySem.W.Frag} {CGalloonError CUnlikeSchemes CBadScheme CBadColumn CBadSpots CBadStrip CBadIndex CBadPaint CBadMask CScheme CPaint : Addr}
    (sB_GalloonError : PySem.W.subIn K (.ref CGalloonError) (.type "BaseException") = some true)
    (ic_GalloonError : PySem.W.isClsIn K CGalloonError = true)
    (tc_GalloonError : PySem.W.typeIn K (.ref CGalloonError) = some (.type "type"))
    (sg_0 : PySem.W.subIn K (.ref CBadScheme) (.ref CGalloonError) = some true)
    (sg_1 : PySem.W.subIn K (.ref CBadColumn) (.ref CGalloonError) = some true)
    (sg_2 : PySem.W.subIn K (.ref CBadSpots) (.ref CGalloonError) = some true)
    (sg_3 : PySem.W.subIn K (.ref CBadStrip) (.ref CGalloonError) = some true)
    (sg_4 : PySem.W.subIn K (.ref CBadIndex) (.ref CGalloonError) = some true)
    (sg_5 : PySem.W.subIn K (.ref CBadPaint) (.ref CGalloonError) = some true)
    (sg_6 : PySem.W.subIn K (.ref CBadMask) (.ref CGalloonError) = some true)
    (sg_7 : PySem.W.subIn K (.ref CUnlikeSchemes) (.ref CGalloonError) = some true) : ∀ i < 8, PySem.W.exmOne K (.ref (eAd ⟨CGalloonError, CUnlikeSchemes, CBadScheme, CBadColumn, CBadSpots, CBadStrip, CBadIndex, CBadPaint, CBadMask, CScheme, CPaint⟩ i)) (.ref CGalloonError) = some true := by
  intro i hi
  match i, hi with
  | 0, _ => exact exm_of sB_GalloonError ic_GalloonError tc_GalloonError sg_0
  | 1, _ => exact exm_of sB_GalloonError ic_GalloonError tc_GalloonError sg_1
  | 2, _ => exact exm_of sB_GalloonError ic_GalloonError tc_GalloonError sg_2
  | 3, _ => exact exm_of sB_GalloonError ic_GalloonError tc_GalloonError sg_3
  | 4, _ => exact exm_of sB_GalloonError ic_GalloonError tc_GalloonError sg_4
  | 5, _ => exact exm_of sB_GalloonError ic_GalloonError tc_GalloonError sg_5
  | 6, _ => exact exm_of sB_GalloonError ic_GalloonError tc_GalloonError sg_6
  | 7, _ => exact exm_of sB_GalloonError ic_GalloonError tc_GalloonError sg_7
theorem kg_of {K : PySem.W.Frag} {CGalloonError CUnlikeSchemes CBadScheme CBadColumn CBadSpots CBadStrip CBadIndex CBadPaint CBadMask CScheme CPaint : Addr}
    (ic_GalloonError : PySem.W.isClsIn K CGalloonError = true)
    (tc_GalloonError : PySem.W.typeIn K (.ref CGalloonError) = some (.type "type"))
    (sg_0 : PySem.W.subIn K (.ref CBadScheme) (.ref CGalloonError) = some true)
    (sg_1 : PySem.W.subIn K (.ref CBadColumn) (.ref CGalloonError) = some true)
    (sg_2 : PySem.W.subIn K (.ref CBadSpots) (.ref CGalloonError) = some true)
    (sg_3 : PySem.W.subIn K (.ref CBadStrip) (.ref CGalloonError) = some true)
    (sg_4 : PySem.W.subIn K (.ref CBadIndex) (.ref CGalloonError) = some true)
    (sg_5 : PySem.W.subIn K (.ref CBadPaint) (.ref CGalloonError) = some true)
    (sg_6 : PySem.W.subIn K (.ref CBadMask) (.ref CGalloonError) = some true)
    (sg_7 : PySem.W.subIn K (.ref CUnlikeSchemes) (.ref CGalloonError) = some true)
    (ne_g_0 : ((Value.ref CBadScheme) == Value.ref CGalloonError) = false)
    (ne_g_1 : ((Value.ref CBadColumn) == Value.ref CGalloonError) = false)
    (ne_g_2 : ((Value.ref CBadSpots) == Value.ref CGalloonError) = false)
    (ne_g_3 : ((Value.ref CBadStrip) == Value.ref CGalloonError) = false)
    (ne_g_4 : ((Value.ref CBadIndex) == Value.ref CGalloonError) = false)
    (ne_g_5 : ((Value.ref CBadPaint) == Value.ref CGalloonError) = false)
    (ne_g_6 : ((Value.ref CBadMask) == Value.ref CGalloonError) = false)
    (ne_g_7 : ((Value.ref CUnlikeSchemes) == Value.ref CGalloonError) = false) : ∀ i < 8, PySem.W.kitOne K (.ref (eAd ⟨CGalloonError, CUnlikeSchemes, CBadScheme, CBadColumn, CBadSpots, CBadStrip, CBadIndex, CBadPaint, CBadMask, CScheme, CPaint⟩ i)) (.ref CGalloonError) = some true := by
  intro i hi
  match i, hi with
  | 0, _ => exact kitR_of ic_GalloonError tc_GalloonError sg_0 ne_g_0
  | 1, _ => exact kitR_of ic_GalloonError tc_GalloonError sg_1 ne_g_1
  | 2, _ => exact kitR_of ic_GalloonError tc_GalloonError sg_2 ne_g_2
  | 3, _ => exact kitR_of ic_GalloonError tc_GalloonError sg_3 ne_g_3
  | 4, _ => exact kitR_of ic_GalloonError tc_GalloonError sg_4 ne_g_4
  | 5, _ => exact kitR_of ic_GalloonError tc_GalloonError sg_5 ne_g_5
  | 6, _ => exact kitR_of ic_GalloonError tc_GalloonError sg_6 ne_g_6
  | 7, _ => exact kitR_of ic_GalloonError tc_GalloonError sg_7 ne_g_7
theorem xo_of {K : PySem.W.Frag} {CGalloonError CUnlikeSchemes CBadScheme CBadColumn CBadSpots CBadStrip CBadIndex CBadPaint CBadMask CScheme CPaint : Addr}
    (sB_UnlikeSchemes : PySem.W.subIn K (.ref CUnlikeSchemes) (.type "BaseException") = some true)
    (ic_UnlikeSchemes : PySem.W.isClsIn K CUnlikeSchemes = true)
    (tc_UnlikeSchemes : PySem.W.typeIn K (.ref CUnlikeSchemes) = some (.type "type"))
    (sB_BadScheme : PySem.W.subIn K (.ref CBadScheme) (.type "BaseException") = some true)
    (ic_BadScheme : PySem.W.isClsIn K CBadScheme = true)
    (tc_BadScheme : PySem.W.typeIn K (.ref CBadScheme) = some (.type "type"))
    (sB_BadColumn : PySem.W.subIn K (.ref CBadColumn) (.type "BaseException") = some true)
    (ic_BadColumn : PySem.W.isClsIn K CBadColumn = true)
    (tc_BadColumn : PySem.W.typeIn K (.ref CBadColumn) = some (.type "type"))
    (sB_BadSpots : PySem.W.subIn K (.ref CBadSpots) (.type "BaseException") = some true)
    (ic_BadSpots : PySem.W.isClsIn K CBadSpots = true)
    (tc_BadSpots : PySem.W.typeIn K (.ref CBadSpots) = some (.type "type"))
    (sB_BadStrip : PySem.W.subIn K (.ref CBadStrip) (.type "BaseException") = some true)
    (ic_BadStrip : PySem.W.isClsIn K CBadStrip = true)
    (tc_BadStrip : PySem.W.typeIn K (.ref CBadStrip) = some (.type "type"))
    (sB_BadIndex : PySem.W.subIn K (.ref CBadIndex) (.type "BaseException") = some true)
    (ic_BadIndex : PySem.W.isClsIn K CBadIndex = true)
    (tc_BadIndex : PySem.W.typeIn K (.ref CBadIndex) = some (.type "type"))
    (sB_BadPaint : PySem.W.subIn K (.ref CBadPaint) (.type "BaseException") = some true)
    (ic_BadPaint : PySem.W.isClsIn K CBadPaint = true)
    (tc_BadPaint : PySem.W.typeIn K (.ref CBadPaint) = some (.type "type"))
    (sB_BadMask : PySem.W.subIn K (.ref CBadMask) (.type "BaseException") = some true)
    (ic_BadMask : PySem.W.isClsIn K CBadMask = true)
    (tc_BadMask : PySem.W.typeIn K (.ref CBadMask) = some (.type "type"))
    (ss_0 : PySem.W.subIn K (.ref CBadScheme) (.ref CBadScheme) = some true)
    (s_0_1 : PySem.W.subIn K (.ref CBadScheme) (.ref CBadColumn) = some false)
    (s_0_2 : PySem.W.subIn K (.ref CBadScheme) (.ref CBadSpots) = some false)
    (s_0_3 : PySem.W.subIn K (.ref CBadScheme) (.ref CBadStrip) = some false)
    (s_0_4 : PySem.W.subIn K (.ref CBadScheme) (.ref CBadIndex) = some false)
    (s_0_5 : PySem.W.subIn K (.ref CBadScheme) (.ref CBadPaint) = some false)
    (s_0_6 : PySem.W.subIn K (.ref CBadScheme) (.ref CBadMask) = some false)
    (s_0_7 : PySem.W.subIn K (.ref CBadScheme) (.ref CUnlikeSchemes) = some false)
    (s_1_0 : PySem.W.subIn K (.ref CBadColumn) (.ref CBadScheme) = some false)
    (ss_1 : PySem.W.subIn K (.ref CBadColumn) (.ref CBadColumn) = some true)
    (s_1_2 : PySem.W.subIn K (.ref CBadColumn) (.ref CBadSpots) = some false)
    (s_1_3 : PySem.W.subIn K (.ref CBadColumn) (.ref CBadStrip) = some false)
    (s_1_4 : PySem.W.subIn K (.ref CBadColumn) (.ref CBadIndex) = some false)
    (s_1_5 : PySem.W.subIn K (.ref CBadColumn) (.ref CBadPaint) = some false)
    (s_1_6 : PySem.W.subIn K (.ref CBadColumn) (.ref CBadMask) = some false)
    (s_1_7 : PySem.W.subIn K (.ref CBadColumn) (.ref CUnlikeSchemes) = some false)
    (s_2_0 : PySem.W.subIn K (.ref CBadSpots) (.ref CBadScheme) = some false)
    (s_2_1 : PySem.W.subIn K (.ref CBadSpots) (.ref CBadColumn) = some false)
    (ss_2 : PySem.W.subIn K (.ref CBadSpots) (.ref CBadSpots) = some true)
    (s_2_3 : PySem.W.subIn K (.ref CBadSpots) (.ref CBadStrip) = some false)
    (s_2_4 : PySem.W.subIn K (.ref CBadSpots) (.ref CBadIndex) = some false)
    (s_2_5 : PySem.W.subIn K (.ref CBadSpots) (.ref CBadPaint) = some false)
    (s_2_6 : PySem.W.subIn K (.ref CBadSpots) (.ref CBadMask) = some false)
    (s_2_7 : PySem.W.subIn K (.ref CBadSpots) (.ref CUnlikeSchemes) = some false)
    (s_3_0 : PySem.W.subIn K (.ref CBadStrip) (.ref CBadScheme) = some false)
    (s_3_1 : PySem.W.subIn K (.ref CBadStrip) (.ref CBadColumn) = some false)
    (s_3_2 : PySem.W.subIn K (.ref CBadStrip) (.ref CBadSpots) = some false)
    (ss_3 : PySem.W.subIn K (.ref CBadStrip) (.ref CBadStrip) = some true)
    (s_3_4 : PySem.W.subIn K (.ref CBadStrip) (.ref CBadIndex) = some false)
    (s_3_5 : PySem.W.subIn K (.ref CBadStrip) (.ref CBadPaint) = some false)
    (s_3_6 : PySem.W.subIn K (.ref CBadStrip) (.ref CBadMask) = some false)
    (s_3_7 : PySem.W.subIn K (.ref CBadStrip) (.ref CUnlikeSchemes) = some false)
    (s_4_0 : PySem.W.subIn K (.ref CBadIndex) (.ref CBadScheme) = some false)
    (s_4_1 : PySem.W.subIn K (.ref CBadIndex) (.ref CBadColumn) = some false)
    (s_4_2 : PySem.W.subIn K (.ref CBadIndex) (.ref CBadSpots) = some false)
    (s_4_3 : PySem.W.subIn K (.ref CBadIndex) (.ref CBadStrip) = some false)
    (ss_4 : PySem.W.subIn K (.ref CBadIndex) (.ref CBadIndex) = some true)
    (s_4_5 : PySem.W.subIn K (.ref CBadIndex) (.ref CBadPaint) = some false)
    (s_4_6 : PySem.W.subIn K (.ref CBadIndex) (.ref CBadMask) = some false)
    (s_4_7 : PySem.W.subIn K (.ref CBadIndex) (.ref CUnlikeSchemes) = some false)
    (s_5_0 : PySem.W.subIn K (.ref CBadPaint) (.ref CBadScheme) = some false)
    (s_5_1 : PySem.W.subIn K (.ref CBadPaint) (.ref CBadColumn) = some false)
    (s_5_2 : PySem.W.subIn K (.ref CBadPaint) (.ref CBadSpots) = some false)
    (s_5_3 : PySem.W.subIn K (.ref CBadPaint) (.ref CBadStrip) = some false)
    (s_5_4 : PySem.W.subIn K (.ref CBadPaint) (.ref CBadIndex) = some false)
    (ss_5 : PySem.W.subIn K (.ref CBadPaint) (.ref CBadPaint) = some true)
    (s_5_6 : PySem.W.subIn K (.ref CBadPaint) (.ref CBadMask) = some false)
    (s_5_7 : PySem.W.subIn K (.ref CBadPaint) (.ref CUnlikeSchemes) = some false)
    (s_6_0 : PySem.W.subIn K (.ref CBadMask) (.ref CBadScheme) = some false)
    (s_6_1 : PySem.W.subIn K (.ref CBadMask) (.ref CBadColumn) = some false)
    (s_6_2 : PySem.W.subIn K (.ref CBadMask) (.ref CBadSpots) = some false)
    (s_6_3 : PySem.W.subIn K (.ref CBadMask) (.ref CBadStrip) = some false)
    (s_6_4 : PySem.W.subIn K (.ref CBadMask) (.ref CBadIndex) = some false)
    (s_6_5 : PySem.W.subIn K (.ref CBadMask) (.ref CBadPaint) = some false)
    (ss_6 : PySem.W.subIn K (.ref CBadMask) (.ref CBadMask) = some true)
    (s_6_7 : PySem.W.subIn K (.ref CBadMask) (.ref CUnlikeSchemes) = some false)
    (s_7_0 : PySem.W.subIn K (.ref CUnlikeSchemes) (.ref CBadScheme) = some false)
    (s_7_1 : PySem.W.subIn K (.ref CUnlikeSchemes) (.ref CBadColumn) = some false)
    (s_7_2 : PySem.W.subIn K (.ref CUnlikeSchemes) (.ref CBadSpots) = some false)
    (s_7_3 : PySem.W.subIn K (.ref CUnlikeSchemes) (.ref CBadStrip) = some false)
    (s_7_4 : PySem.W.subIn K (.ref CUnlikeSchemes) (.ref CBadIndex) = some false)
    (s_7_5 : PySem.W.subIn K (.ref CUnlikeSchemes) (.ref CBadPaint) = some false)
    (s_7_6 : PySem.W.subIn K (.ref CUnlikeSchemes) (.ref CBadMask) = some false)
    (ss_7 : PySem.W.subIn K (.ref CUnlikeSchemes) (.ref CUnlikeSchemes) = some true) : ∀ i < 8, ∀ j < 8, PySem.W.exmOne K (.ref (eAd ⟨CGalloonError, CUnlikeSchemes, CBadScheme, CBadColumn, CBadSpots, CBadStrip, CBadIndex, CBadPaint, CBadMask, CScheme, CPaint⟩ i)) (.ref (eAd ⟨CGalloonError, CUnlikeSchemes, CBadScheme, CBadColumn, CBadSpots, CBadStrip, CBadIndex, CBadPaint, CBadMask, CScheme, CPaint⟩ j)) = some (decide (i = j)) := by
  intro i hi j hj
  match i, hi, j, hj with
  | 0, _, 0, _ => exact exm_of sB_BadScheme ic_BadScheme tc_BadScheme ss_0
  | 0, _, 1, _ => exact exm_of sB_BadColumn ic_BadColumn tc_BadColumn s_0_1
  | 0, _, 2, _ => exact exm_of sB_BadSpots ic_BadSpots tc_BadSpots s_0_2
  | 0, _, 3, _ => exact exm_of sB_BadStrip ic_BadStrip tc_BadStrip s_0_3
  | 0, _, 4, _ => exact exm_of sB_BadIndex ic_BadIndex tc_BadIndex s_0_4
  | 0, _, 5, _ => exact exm_of sB_BadPaint ic_BadPaint tc_BadPaint s_0_5
  | 0, _, 6, _ => exact exm_of sB_BadMask ic_BadMask tc_BadMask s_0_6
  | 0, _, 7, _ => exact exm_of sB_UnlikeSchemes ic_UnlikeSchemes tc_UnlikeSchemes s_0_7
  | 1, _, 0, _ => exact exm_of sB_BadScheme ic_BadScheme tc_BadScheme s_1_0
  | 1, _, 1, _ => exact exm_of sB_BadColumn ic_BadColumn tc_BadColumn ss_1
  | 1, _, 2, _ => exact exm_of sB_BadSpots ic_BadSpots tc_BadSpots s_1_2
  | 1, _, 3, _ => exact exm_of sB_BadStrip ic_BadStrip tc_BadStrip s_1_3
  | 1, _, 4, _ => exact exm_of sB_BadIndex ic_BadIndex tc_BadIndex s_1_4
  | 1, _, 5, _ => exact exm_of sB_BadPaint ic_BadPaint tc_BadPaint s_1_5
  | 1, _, 6, _ => exact exm_of sB_BadMask ic_BadMask tc_BadMask s_1_6
  | 1, _, 7, _ => exact exm_of sB_UnlikeSchemes ic_UnlikeSchemes tc_UnlikeSchemes s_1_7
  | 2, _, 0, _ => exact exm_of sB_BadScheme ic_BadScheme tc_BadScheme s_2_0
  | 2, _, 1, _ => exact exm_of sB_BadColumn ic_BadColumn tc_BadColumn s_2_1
  | 2, _, 2, _ => exact exm_of sB_BadSpots ic_BadSpots tc_BadSpots ss_2
  | 2, _, 3, _ => exact exm_of sB_BadStrip ic_BadStrip tc_BadStrip s_2_3
  | 2, _, 4, _ => exact exm_of sB_BadIndex ic_BadIndex tc_BadIndex s_2_4
  | 2, _, 5, _ => exact exm_of sB_BadPaint ic_BadPaint tc_BadPaint s_2_5
  | 2, _, 6, _ => exact exm_of sB_BadMask ic_BadMask tc_BadMask s_2_6
  | 2, _, 7, _ => exact exm_of sB_UnlikeSchemes ic_UnlikeSchemes tc_UnlikeSchemes s_2_7
  | 3, _, 0, _ => exact exm_of sB_BadScheme ic_BadScheme tc_BadScheme s_3_0
  | 3, _, 1, _ => exact exm_of sB_BadColumn ic_BadColumn tc_BadColumn s_3_1
  | 3, _, 2, _ => exact exm_of sB_BadSpots ic_BadSpots tc_BadSpots s_3_2
  | 3, _, 3, _ => exact exm_of sB_BadStrip ic_BadStrip tc_BadStrip ss_3
  | 3, _, 4, _ => exact exm_of sB_BadIndex ic_BadIndex tc_BadIndex s_3_4
  | 3, _, 5, _ => exact exm_of sB_BadPaint ic_BadPaint tc_BadPaint s_3_5
  | 3, _, 6, _ => exact exm_of sB_BadMask ic_BadMask tc_BadMask s_3_6
  | 3, _, 7, _ => exact exm_of sB_UnlikeSchemes ic_UnlikeSchemes tc_UnlikeSchemes s_3_7
  | 4, _, 0, _ => exact exm_of sB_BadScheme ic_BadScheme tc_BadScheme s_4_0
  | 4, _, 1, _ => exact exm_of sB_BadColumn ic_BadColumn tc_BadColumn s_4_1
  | 4, _, 2, _ => exact exm_of sB_BadSpots ic_BadSpots tc_BadSpots s_4_2
  | 4, _, 3, _ => exact exm_of sB_BadStrip ic_BadStrip tc_BadStrip s_4_3
  | 4, _, 4, _ => exact exm_of sB_BadIndex ic_BadIndex tc_BadIndex ss_4
  | 4, _, 5, _ => exact exm_of sB_BadPaint ic_BadPaint tc_BadPaint s_4_5
  | 4, _, 6, _ => exact exm_of sB_BadMask ic_BadMask tc_BadMask s_4_6
  | 4, _, 7, _ => exact exm_of sB_UnlikeSchemes ic_UnlikeSchemes tc_UnlikeSchemes s_4_7
  | 5, _, 0, _ => exact exm_of sB_BadScheme ic_BadScheme tc_BadScheme s_5_0
  | 5, _, 1, _ => exact exm_of sB_BadColumn ic_BadColumn tc_BadColumn s_5_1
  | 5, _, 2, _ => exact exm_of sB_BadSpots ic_BadSpots tc_BadSpots s_5_2
  | 5, _, 3, _ => exact exm_of sB_BadStrip ic_BadStrip tc_BadStrip s_5_3
  | 5, _, 4, _ => exact exm_of sB_BadIndex ic_BadIndex tc_BadIndex s_5_4
  | 5, _, 5, _ => exact exm_of sB_BadPaint ic_BadPaint tc_BadPaint ss_5
  | 5, _, 6, _ => exact exm_of sB_BadMask ic_BadMask tc_BadMask s_5_6
  | 5, _, 7, _ => exact exm_of sB_UnlikeSchemes ic_UnlikeSchemes tc_UnlikeSchemes s_5_7
  | 6, _, 0, _ => exact exm_of sB_BadScheme ic_BadScheme tc_BadScheme s_6_0
  | 6, _, 1, _ => exact exm_of sB_BadColumn ic_BadColumn tc_BadColumn s_6_1
  | 6, _, 2, _ => exact exm_of sB_BadSpots ic_BadSpots tc_BadSpots s_6_2
  | 6, _, 3, _ => exact exm_of sB_BadStrip ic_BadStrip tc_BadStrip s_6_3
  | 6, _, 4, _ => exact exm_of sB_BadIndex ic_BadIndex tc_BadIndex s_6_4
  | 6, _, 5, _ => exact exm_of sB_BadPaint ic_BadPaint tc_BadPaint s_6_5
  | 6, _, 6, _ => exact exm_of sB_BadMask ic_BadMask tc_BadMask ss_6
  | 6, _, 7, _ => exact exm_of sB_UnlikeSchemes ic_UnlikeSchemes tc_UnlikeSchemes s_6_7
  | 7, _, 0, _ => exact exm_of sB_BadScheme ic_BadScheme tc_BadScheme s_7_0
  | 7, _, 1, _ => exact exm_of sB_BadColumn ic_BadColumn tc_BadColumn s_7_1
  | 7, _, 2, _ => exact exm_of sB_BadSpots ic_BadSpots tc_BadSpots s_7_2
  | 7, _, 3, _ => exact exm_of sB_BadStrip ic_BadStrip tc_BadStrip s_7_3
  | 7, _, 4, _ => exact exm_of sB_BadIndex ic_BadIndex tc_BadIndex s_7_4
  | 7, _, 5, _ => exact exm_of sB_BadPaint ic_BadPaint tc_BadPaint s_7_5
  | 7, _, 6, _ => exact exm_of sB_BadMask ic_BadMask tc_BadMask s_7_6
  | 7, _, 7, _ => exact exm_of sB_UnlikeSchemes ic_UnlikeSchemes tc_UnlikeSchemes ss_7
theorem mkTxt {K : PySem.W.Frag} {h : Heap} {mg : Str → Option Value} (X : K.In h) (G : h.Ns mainGlobals mg)
    {CGalloonError CUnlikeSchemes CBadScheme CBadColumn CBadSpots CBadStrip CBadIndex CBadPaint CBadMask CScheme CPaint : Addr}
    {tk_DIGITS : Nat}
    {tk_LETTERS : Nat}
    {f1 : Addr} {od1 an1 : Option Addr} {sl1 : Array (Option Value)} {oc1 kV1 dc1 pm1 cd1 ct1 : Value}
    {nm1 qn1 : Str} {N1 : Addr} {bs1 bm1 : List Value} {sn1 : List Str} {sub1 : List Value} {ab1 : Bool} {col1 : Option Bool} {dd1 : Option Addr} {m01 m11 m21 m31 m51 : Option Value}
    {f2 : Addr} {od2 an2 : Option Addr} {sl2 : Array (Option Value)} {oc2 kV2 dc2 pm2 cd2 ct2 : Value}
    {nm2 qn2 : Str} {N2 : Addr} {bs2 bm2 : List Value} {sn2 : List Str} {sub2 : List Value} {ab2 : Bool} {col2 : Option Bool} {dd2 : Option Addr} {m02 m12 m22 m32 m52 : Option Value}
    {f3 : Addr} {od3 an3 : Option Addr} {sl3 : Array (Option Value)} {oc3 kV3 dc3 pm3 cd3 ct3 : Value}
    {nm3 qn3 : Str} {N3 : Addr} {bs3 bm3 : List Value} {sn3 : List Str} {sub3 : List Value} {ab3 : Bool} {col3 : Option Bool} {dd3 : Option Addr} {m03 m13 m23 m33 m53 : Option Value}
    {f4 : Addr} {od4 an4 : Option Addr} {sl4 : Array (Option Value)} {oc4 kV4 dc4 pm4 cd4 ct4 : Value}
    {nm4 qn4 : Str} {N4 : Addr} {bs4 bm4 : List Value} {sn4 : List Str} {sub4 : List Value} {ab4 : Bool} {col4 : Option Bool} {dd4 : Option Addr} {m04 m14 m24 m34 m54 : Option Value}
    {f5 : Addr} {od5 an5 : Option Addr} {sl5 : Array (Option Value)} {oc5 kV5 dc5 pm5 cd5 ct5 : Value}
    {nm5 qn5 : Str} {N5 : Addr} {bs5 bm5 : List Value} {sn5 : List Str} {sub5 : List Value} {ab5 : Bool} {col5 : Option Bool} {dd5 : Option Addr} {m05 m15 m25 m35 m55 : Option Value}
    {f6 : Addr} {od6 an6 : Option Addr} {sl6 : Array (Option Value)} {oc6 kV6 dc6 pm6 cd6 ct6 : Value}
    {nm6 qn6 : Str} {N6 : Addr} {bs6 bm6 : List Value} {sn6 : List Str} {sub6 : List Value} {ab6 : Bool} {col6 : Option Bool} {dd6 : Option Addr} {m06 m16 m26 m36 m56 : Option Value}
    {f7 : Addr} {od7 an7 : Option Addr} {sl7 : Array (Option Value)} {oc7 kV7 dc7 pm7 cd7 ct7 : Value}
    {nm7 qn7 : Str} {N7 : Addr} {bs7 bm7 : List Value} {sn7 : List Str} {sub7 : List Value} {ab7 : Bool} {col7 : Option Bool} {dd7 : Option Addr} {m07 m17 m27 m37 m57 : Option Value}
    {f8 : Addr} {od8 an8 : Option Addr} {sl8 : Array (Option Value)} {oc8 kV8 dc8 pm8 cd8 ct8 : Value}
    {f9 : Addr} {od9 an9 : Option Addr} {sl9 : Array (Option Value)} {oc9 kV9 dc9 pm9 cd9 ct9 : Value}
    {f10 : Addr} {od10 an10 : Option Addr} {sl10 : Array (Option Value)} {oc10 kV10 dc10 pm10 cd10 ct10 : Value}
    {f11 : Addr} {od11 an11 : Option Addr} {sl11 : Array (Option Value)} {oc11 kV11 dc11 pm11 cd11 ct11 : Value}
    {f12 : Addr} {od12 an12 : Option Addr} {sl12 : Array (Option Value)} {oc12 kV12 dc12 pm12 cd12 ct12 : Value}
    {f13 : Addr} {od13 an13 : Option Addr} {sl13 : Array (Option Value)} {oc13 kV13 dc13 pm13 cd13 ct13 : Value}
    {f14 : Addr} {od14 an14 : Option Addr} {sl14 : Array (Option Value)} {oc14 kV14 dc14 pm14 cd14 ct14 : Value}
    {f15 : Addr} {od15 an15 : Option Addr} {sl15 : Array (Option Value)} {oc15 kV15 dc15 pm15 cd15 ct15 : Value}
    {f16 : Addr} {od16 an16 : Option Addr} {sl16 : Array (Option Value)} {oc16 kV16 dc16 pm16 cd16 ct16 : Value}
    {f17 : Addr} {od17 an17 : Option Addr} {sl17 : Array (Option Value)} {oc17 kV17 dc17 pm17 cd17 ct17 : Value}
    {f18 : Addr} {od18 an18 : Option Addr} {sl18 : Array (Option Value)} {oc18 kV18 dc18 pm18 cd18 ct18 : Value}
    {p18 : Addr} {rs18 : List Value}
    {f19 : Addr} {od19 an19 : Option Addr} {sl19 : Array (Option Value)} {oc19 kV19 dc19 pm19 cd19 ct19 : Value}
    {p19 : Addr} {rs19 : List Value}
    {f20 : Addr} {od20 an20 : Option Addr} {sl20 : Array (Option Value)} {oc20 kV20 dc20 pm20 cd20 ct20 : Value}
    {f21 : Addr} {od21 an21 : Option Addr} {sl21 : Array (Option Value)} {oc21 kV21 dc21 pm21 cd21 ct21 : Value}
    {f22 : Addr} {od22 an22 : Option Addr} {sl22 : Array (Option Value)} {oc22 kV22 dc22 pm22 cd22 ct22 : Value}
    {f23 : Addr} {od23 an23 : Option Addr} {sl23 : Array (Option Value)} {oc23 kV23 dc23 pm23 cd23 ct23 : Value}
    {f24 : Addr} {od24 an24 : Option Addr} {sl24 : Array (Option Value)} {oc24 kV24 dc24 pm24 cd24 ct24 : Value}
    {f25 : Addr} {od25 an25 : Option Addr} {sl25 : Array (Option Value)} {oc25 kV25 dc25 pm25 cd25 ct25 : Value}
    {f26 : Addr} {od26 an26 : Option Addr} {sl26 : Array (Option Value)} {oc26 kV26 dc26 pm26 cd26 ct26 : Value}
    {f27 : Addr} {od27 an27 : Option Addr} {sl27 : Array (Option Value)} {oc27 kV27 dc27 pm27 cd27 ct27 : Value}
    {f28 : Addr} {od28 an28 : Option Addr} {sl28 : Array (Option Value)} {oc28 kV28 dc28 pm28 cd28 ct28 : Value}
    {f29 : Addr} {od29 an29 : Option Addr} {sl29 : Array (Option Value)} {oc29 kV29 dc29 pm29 cd29 ct29 : Value}
    {f30 : Addr} {od30 an30 : Option Addr} {sl30 : Array (Option Value)} {oc30 kV30 dc30 pm30 cd30 ct30 : Value}
    {f31 : Addr} {od31 an31 : Option Addr} {sl31 : Array (Option Value)} {oc31 kV31 dc31 pm31 cd31 ct31 : Value}
    {f32 : Addr} {od32 an32 : Option Addr} {sl32 : Array (Option Value)} {oc32 kV32 dc32 pm32 cd32 ct32 : Value}
    {f33 : Addr} {od33 an33 : Option Addr} {sl33 : Array (Option Value)} {oc33 kV33 dc33 pm33 cd33 ct33 : Value}
    {f34 : Addr} {od34 an34 : Option Addr} {sl34 : Array (Option Value)} {oc34 kV34 dc34 pm34 cd34 ct34 : Value}
    {f35 : Addr} {od35 an35 : Option Addr} {sl35 : Array (Option Value)} {oc35 kV35 dc35 pm35 cd35 ct35 : Value}
    {f36 : Addr} {od36 an36 : Option Addr} {sl36 : Array (Option Value)} {oc36 kV36 dc36 pm36 cd36 ct36 : Value}
    {f37 : Addr} {od37 an37 : Option Addr} {sl37 : Array (Option Value)} {oc37 kV37 dc37 pm37 cd37 ct37 : Value}
    {f38 : Addr} {od38 an38 : Option Addr} {sl38 : Array (Option Value)} {oc38 kV38 dc38 pm38 cd38 ct38 : Value}
    {f39 : Addr} {od39 an39 : Option Addr} {sl39 : Array (Option Value)} {oc39 kV39 dc39 pm39 cd39 ct39 : Value}
    {f40 : Addr} {od40 an40 : Option Addr} {sl40 : Array (Option Value)} {oc40 kV40 dc40 pm40 cd40 ct40 : Value}
    {f41 : Addr} {od41 an41 : Option Addr} {sl41 : Array (Option Value)} {oc41 kV41 dc41 pm41 cd41 ct41 : Value}
    {f42 : Addr} {od42 an42 : Option Addr} {sl42 : Array (Option Value)} {oc42 kV42 dc42 pm42 cd42 ct42 : Value}
    {f43 : Addr} {od43 an43 : Option Addr} {sl43 : Array (Option Value)} {oc43 kV43 dc43 pm43 cd43 ct43 : Value}
    {f44 : Addr} {od44 an44 : Option Addr} {sl44 : Array (Option Value)} {oc44 kV44 dc44 pm44 cd44 ct44 : Value}
    {f45 : Addr} {od45 an45 : Option Addr} {sl45 : Array (Option Value)} {oc45 kV45 dc45 pm45 cd45 ct45 : Value}
    {f46 : Addr} {od46 an46 : Option Addr} {sl46 : Array (Option Value)} {oc46 kV46 dc46 pm46 cd46 ct46 : Value}
    {f47 : Addr} {od47 an47 : Option Addr} {sl47 : Array (Option Value)} {oc47 kV47 dc47 pm47 cd47 ct47 : Value}
    {f48 : Addr} {od48 an48 : Option Addr} {sl48 : Array (Option Value)} {oc48 kV48 dc48 pm48 cd48 ct48 : Value}
    {f49 : Addr} {od49 an49 : Option Addr} {sl49 : Array (Option Value)} {oc49 kV49 dc49 pm49 cd49 ct49 : Value}
    {tM tB : Nat}
    (a_GalloonError : PySem.W.nsIn K mainGlobals "GalloonError" = some (some (.ref CGalloonError)))
    (a_UnlikeSchemes : PySem.W.nsIn K mainGlobals "UnlikeSchemes" = some (some (.ref CUnlikeSchemes)))
    (a_BadScheme : PySem.W.nsIn K mainGlobals "BadScheme" = some (some (.ref CBadScheme)))
    (a_BadColumn : PySem.W.nsIn K mainGlobals "BadColumn" = some (some (.ref CBadColumn)))
    (a_BadSpots : PySem.W.nsIn K mainGlobals "BadSpots" = some (some (.ref CBadSpots)))
    (a_BadStrip : PySem.W.nsIn K mainGlobals "BadStrip" = some (some (.ref CBadStrip)))
    (a_BadIndex : PySem.W.nsIn K mainGlobals "BadIndex" = some (some (.ref CBadIndex)))
    (a_BadPaint : PySem.W.nsIn K mainGlobals "BadPaint" = some (some (.ref CBadPaint)))
    (a_BadMask : PySem.W.nsIn K mainGlobals "BadMask" = some (some (.ref CBadMask)))
    (a_Scheme : PySem.W.nsIn K mainGlobals "Scheme" = some (some (.ref CScheme)))
    (a_Paint : PySem.W.nsIn K mainGlobals "Paint" = some (some (.ref CPaint)))
    (z_ValueError : PySem.W.nsIn K mainGlobals "ValueError" = some none)
    (z_abs : PySem.W.nsIn K mainGlobals "abs" = some none)
    (z_all : PySem.W.nsIn K mainGlobals "all" = some none)
    (z_bool : PySem.W.nsIn K mainGlobals "bool" = some none)
    (z_classmethod : PySem.W.nsIn K mainGlobals "classmethod" = some none)
    (z_enumerate : PySem.W.nsIn K mainGlobals "enumerate" = some none)
    (z_int : PySem.W.nsIn K mainGlobals "int" = some none)
    (z_isinstance : PySem.W.nsIn K mainGlobals "isinstance" = some none)
    (z_len : PySem.W.nsIn K mainGlobals "len" = some none)
    (z_list : PySem.W.nsIn K mainGlobals "list" = some none)
    (z_min : PySem.W.nsIn K mainGlobals "min" = some none)
    (z_ord : PySem.W.nsIn K mainGlobals "ord" = some none)
    (z_range : PySem.W.nsIn K mainGlobals "range" = some none)
    (z_set : PySem.W.nsIn K mainGlobals "set" = some none)
    (z_sorted : PySem.W.nsIn K mainGlobals "sorted" = some none)
    (z_str : PySem.W.nsIn K mainGlobals "str" = some none)
    (z_sum : PySem.W.nsIn K mainGlobals "sum" = some none)
    (z_zip : PySem.W.nsIn K mainGlobals "zip" = some none)
    (v_DIGITS : PySem.W.nsIn K mainGlobals "DIGITS" = some (some (.str "012" tk_DIGITS)))
    (v_LETTERS : PySem.W.nsIn K mainGlobals "LETTERS" = some (some (.str "abcdefghi" tk_LETTERS)))
    (sB_GalloonError : PySem.W.subIn K (.ref CGalloonError) (.type "BaseException") = some true)
    (ic_GalloonError : PySem.W.isClsIn K CGalloonError = true)
    (tc_GalloonError : PySem.W.typeIn K (.ref CGalloonError) = some (.type "type"))
    (sB_UnlikeSchemes : PySem.W.subIn K (.ref CUnlikeSchemes) (.type "BaseException") = some true)
    (ic_UnlikeSchemes : PySem.W.isClsIn K CUnlikeSchemes = true)
    (tc_UnlikeSchemes : PySem.W.typeIn K (.ref CUnlikeSchemes) = some (.type "type"))
    (sB_BadScheme : PySem.W.subIn K (.ref CBadScheme) (.type "BaseException") = some true)
    (ic_BadScheme : PySem.W.isClsIn K CBadScheme = true)
    (tc_BadScheme : PySem.W.typeIn K (.ref CBadScheme) = some (.type "type"))
    (sB_BadColumn : PySem.W.subIn K (.ref CBadColumn) (.type "BaseException") = some true)
    (ic_BadColumn : PySem.W.isClsIn K CBadColumn = true)
    (tc_BadColumn : PySem.W.typeIn K (.ref CBadColumn) = some (.type "type"))
    (sB_BadSpots : PySem.W.subIn K (.ref CBadSpots) (.type "BaseException") = some true)
    (ic_BadSpots : PySem.W.isClsIn K CBadSpots = true)
    (tc_BadSpots : PySem.W.typeIn K (.ref CBadSpots) = some (.type "type"))
    (sB_BadStrip : PySem.W.subIn K (.ref CBadStrip) (.type "BaseException") = some true)
    (ic_BadStrip : PySem.W.isClsIn K CBadStrip = true)
    (tc_BadStrip : PySem.W.typeIn K (.ref CBadStrip) = some (.type "type"))
    (sB_BadIndex : PySem.W.subIn K (.ref CBadIndex) (.type "BaseException") = some true)
    (ic_BadIndex : PySem.W.isClsIn K CBadIndex = true)
    (tc_BadIndex : PySem.W.typeIn K (.ref CBadIndex) = some (.type "type"))
    (sB_BadPaint : PySem.W.subIn K (.ref CBadPaint) (.type "BaseException") = some true)
    (ic_BadPaint : PySem.W.isClsIn K CBadPaint = true)
    (tc_BadPaint : PySem.W.typeIn K (.ref CBadPaint) = some (.type "type"))
    (sB_BadMask : PySem.W.subIn K (.ref CBadMask) (.type "BaseException") = some true)
    (ic_BadMask : PySem.W.isClsIn K CBadMask = true)
    (tc_BadMask : PySem.W.typeIn K (.ref CBadMask) = some (.type "type"))
    (ic_Scheme : PySem.W.isClsIn K CScheme = true)
    (tc_Scheme : PySem.W.typeIn K (.ref CScheme) = some (.type "type"))
    (ic_Paint : PySem.W.isClsIn K CPaint = true)
    (tc_Paint : PySem.W.typeIn K (.ref CPaint) = some (.type "type"))
    (xz_UnlikeSchemes : PySem.W.excIn K CUnlikeSchemes veB "ValueError.__new__" = true)
    (kc_UnlikeSchemes : PySem.W.keepIn K (.ref CUnlikeSchemes) = true)
    (ga_UnlikeSchemes : PySem.W.findIn K (.ref CUnlikeSchemes) "__getattribute__" = some (some (.builtin "BaseException.__getattribute__")))
    (gg_UnlikeSchemes : PySem.W.findIn K (.ref CUnlikeSchemes) "__getattr__" = some none)
    (hd_UnlikeSchemes : PySem.W.hasDictIn K CUnlikeSchemes = true)
    (ha_UnlikeSchemes : PySem.W.findIn K (.ref CUnlikeSchemes) "__class__" = some (some (.builtin "object.__class__")))
    (hm_UnlikeSchemes : PySem.W.mroIn K CUnlikeSchemes (.type "object") = some true)
    (x_BadScheme : K.lookup CBadScheme = some (excClassObj nm1 qn1 CBadScheme N1 bs1 bm1 true sn1 sub1 ab1 col1 dd1 m01 m11 m21 m31 m51 "ValueError.__new__"))
    (rf_BadScheme : PySem.HandSPX.refsVE bm1 = true)
    (sa_BadScheme : PySem.W.findIn K (.ref CBadScheme) "__setattr__" = some (some (.builtin "object.__setattr__")))
    (kc_BadScheme : PySem.W.keepIn K (.ref CBadScheme) = true)
    (nb_BadScheme : PySem.W.findIn K (.ref CBadScheme) "part" = some none)
    (ai_BadScheme : PySem.W.findIn K (.ref CBadScheme) "__init__" = some (some (.ref f1)))
    (ti_BadScheme : PySem.W.typeIn K (.ref f1) = some (.type "function"))
    (li_BadScheme : K.lookup f1 = some ⟨oc1, od1, .func (PySem.W.fnOf "__init__" "BadScheme.__init__" (defArgs s_BadScheme___init__) (defBody s_BadScheme___init__) (defScope s_BadScheme___init__) .none kV1 dc1 pm1 an1 cd1 ct1), sl1⟩)
    (ci_BadScheme : PySem.W.codeIn K cd1 "BadScheme.__init__" = true)
    (ki_BadScheme : PySem.W.keepIn K (.ref f1) = true)
    (ga_BadScheme : PySem.W.findIn K (.ref CBadScheme) "__getattribute__" = some (some (.builtin "BaseException.__getattribute__")))
    (gg_BadScheme : PySem.W.findIn K (.ref CBadScheme) "__getattr__" = some none)
    (hd_BadScheme : PySem.W.hasDictIn K CBadScheme = true)
    (ha_BadScheme : PySem.W.findIn K (.ref CBadScheme) "__class__" = some (some (.builtin "object.__class__")))
    (hm_BadScheme : PySem.W.mroIn K CBadScheme (.type "object") = some true)
    (x_BadColumn : K.lookup CBadColumn = some (excClassObj nm2 qn2 CBadColumn N2 bs2 bm2 true sn2 sub2 ab2 col2 dd2 m02 m12 m22 m32 m52 "ValueError.__new__"))
    (rf_BadColumn : PySem.HandSPX.refsVE bm2 = true)
    (sa_BadColumn : PySem.W.findIn K (.ref CBadColumn) "__setattr__" = some (some (.builtin "object.__setattr__")))
    (kc_BadColumn : PySem.W.keepIn K (.ref CBadColumn) = true)
    (nb_BadColumn : PySem.W.findIn K (.ref CBadColumn) "text" = some none)
    (ai_BadColumn : PySem.W.findIn K (.ref CBadColumn) "__init__" = some (some (.ref f2)))
    (ti_BadColumn : PySem.W.typeIn K (.ref f2) = some (.type "function"))
    (li_BadColumn : K.lookup f2 = some ⟨oc2, od2, .func (PySem.W.fnOf "__init__" "BadColumn.__init__" (defArgs s_BadColumn___init__) (defBody s_BadColumn___init__) (defScope s_BadColumn___init__) .none kV2 dc2 pm2 an2 cd2 ct2), sl2⟩)
    (ci_BadColumn : PySem.W.codeIn K cd2 "BadColumn.__init__" = true)
    (ki_BadColumn : PySem.W.keepIn K (.ref f2) = true)
    (ga_BadColumn : PySem.W.findIn K (.ref CBadColumn) "__getattribute__" = some (some (.builtin "BaseException.__getattribute__")))
    (gg_BadColumn : PySem.W.findIn K (.ref CBadColumn) "__getattr__" = some none)
    (hd_BadColumn : PySem.W.hasDictIn K CBadColumn = true)
    (ha_BadColumn : PySem.W.findIn K (.ref CBadColumn) "__class__" = some (some (.builtin "object.__class__")))
    (hm_BadColumn : PySem.W.mroIn K CBadColumn (.type "object") = some true)
    (x_BadSpots : K.lookup CBadSpots = some (excClassObj nm3 qn3 CBadSpots N3 bs3 bm3 true sn3 sub3 ab3 col3 dd3 m03 m13 m23 m33 m53 "ValueError.__new__"))
    (rf_BadSpots : PySem.HandSPX.refsVE bm3 = true)
    (sa_BadSpots : PySem.W.findIn K (.ref CBadSpots) "__setattr__" = some (some (.builtin "object.__setattr__")))
    (kc_BadSpots : PySem.W.keepIn K (.ref CBadSpots) = true)
    (nb_BadSpots : PySem.W.findIn K (.ref CBadSpots) "text" = some none)
    (ai_BadSpots : PySem.W.findIn K (.ref CBadSpots) "__init__" = some (some (.ref f3)))
    (ti_BadSpots : PySem.W.typeIn K (.ref f3) = some (.type "function"))
    (li_BadSpots : K.lookup f3 = some ⟨oc3, od3, .func (PySem.W.fnOf "__init__" "BadSpots.__init__" (defArgs s_BadSpots___init__) (defBody s_BadSpots___init__) (defScope s_BadSpots___init__) .none kV3 dc3 pm3 an3 cd3 ct3), sl3⟩)
    (ci_BadSpots : PySem.W.codeIn K cd3 "BadSpots.__init__" = true)
    (ki_BadSpots : PySem.W.keepIn K (.ref f3) = true)
    (ga_BadSpots : PySem.W.findIn K (.ref CBadSpots) "__getattribute__" = some (some (.builtin "BaseException.__getattribute__")))
    (gg_BadSpots : PySem.W.findIn K (.ref CBadSpots) "__getattr__" = some none)
    (hd_BadSpots : PySem.W.hasDictIn K CBadSpots = true)
    (ha_BadSpots : PySem.W.findIn K (.ref CBadSpots) "__class__" = some (some (.builtin "object.__class__")))
    (hm_BadSpots : PySem.W.mroIn K CBadSpots (.type "object") = some true)
    (x_BadStrip : K.lookup CBadStrip = some (excClassObj nm4 qn4 CBadStrip N4 bs4 bm4 true sn4 sub4 ab4 col4 dd4 m04 m14 m24 m34 m54 "ValueError.__new__"))
    (rf_BadStrip : PySem.HandSPX.refsVE bm4 = true)
    (sa_BadStrip : PySem.W.findIn K (.ref CBadStrip) "__setattr__" = some (some (.builtin "object.__setattr__")))
    (kc_BadStrip : PySem.W.keepIn K (.ref CBadStrip) = true)
    (nb_BadStrip : PySem.W.findIn K (.ref CBadStrip) "text" = some none)
    (ai_BadStrip : PySem.W.findIn K (.ref CBadStrip) "__init__" = some (some (.ref f4)))
    (ti_BadStrip : PySem.W.typeIn K (.ref f4) = some (.type "function"))
    (li_BadStrip : K.lookup f4 = some ⟨oc4, od4, .func (PySem.W.fnOf "__init__" "BadStrip.__init__" (defArgs s_BadStrip___init__) (defBody s_BadStrip___init__) (defScope s_BadStrip___init__) .none kV4 dc4 pm4 an4 cd4 ct4), sl4⟩)
    (ci_BadStrip : PySem.W.codeIn K cd4 "BadStrip.__init__" = true)
    (ki_BadStrip : PySem.W.keepIn K (.ref f4) = true)
    (ga_BadStrip : PySem.W.findIn K (.ref CBadStrip) "__getattribute__" = some (some (.builtin "BaseException.__getattribute__")))
    (gg_BadStrip : PySem.W.findIn K (.ref CBadStrip) "__getattr__" = some none)
    (hd_BadStrip : PySem.W.hasDictIn K CBadStrip = true)
    (ha_BadStrip : PySem.W.findIn K (.ref CBadStrip) "__class__" = some (some (.builtin "object.__class__")))
    (hm_BadStrip : PySem.W.mroIn K CBadStrip (.type "object") = some true)
    (x_BadIndex : K.lookup CBadIndex = some (excClassObj nm5 qn5 CBadIndex N5 bs5 bm5 true sn5 sub5 ab5 col5 dd5 m05 m15 m25 m35 m55 "ValueError.__new__"))
    (rf_BadIndex : PySem.HandSPX.refsVE bm5 = true)
    (sa_BadIndex : PySem.W.findIn K (.ref CBadIndex) "__setattr__" = some (some (.builtin "object.__setattr__")))
    (kc_BadIndex : PySem.W.keepIn K (.ref CBadIndex) = true)
    (nb_BadIndex : PySem.W.findIn K (.ref CBadIndex) "at" = some none)
    (ai_BadIndex : PySem.W.findIn K (.ref CBadIndex) "__init__" = some (some (.ref f5)))
    (ti_BadIndex : PySem.W.typeIn K (.ref f5) = some (.type "function"))
    (li_BadIndex : K.lookup f5 = some ⟨oc5, od5, .func (PySem.W.fnOf "__init__" "BadIndex.__init__" (defArgs s_BadIndex___init__) (defBody s_BadIndex___init__) (defScope s_BadIndex___init__) .none kV5 dc5 pm5 an5 cd5 ct5), sl5⟩)
    (ci_BadIndex : PySem.W.codeIn K cd5 "BadIndex.__init__" = true)
    (ki_BadIndex : PySem.W.keepIn K (.ref f5) = true)
    (ga_BadIndex : PySem.W.findIn K (.ref CBadIndex) "__getattribute__" = some (some (.builtin "BaseException.__getattribute__")))
    (gg_BadIndex : PySem.W.findIn K (.ref CBadIndex) "__getattr__" = some none)
    (hd_BadIndex : PySem.W.hasDictIn K CBadIndex = true)
    (ha_BadIndex : PySem.W.findIn K (.ref CBadIndex) "__class__" = some (some (.builtin "object.__class__")))
    (hm_BadIndex : PySem.W.mroIn K CBadIndex (.type "object") = some true)
    (x_BadPaint : K.lookup CBadPaint = some (excClassObj nm6 qn6 CBadPaint N6 bs6 bm6 true sn6 sub6 ab6 col6 dd6 m06 m16 m26 m36 m56 "ValueError.__new__"))
    (rf_BadPaint : PySem.HandSPX.refsVE bm6 = true)
    (sa_BadPaint : PySem.W.findIn K (.ref CBadPaint) "__setattr__" = some (some (.builtin "object.__setattr__")))
    (kc_BadPaint : PySem.W.keepIn K (.ref CBadPaint) = true)
    (nb_BadPaint : PySem.W.findIn K (.ref CBadPaint) "row" = some none)
    (ai_BadPaint : PySem.W.findIn K (.ref CBadPaint) "__init__" = some (some (.ref f6)))
    (ti_BadPaint : PySem.W.typeIn K (.ref f6) = some (.type "function"))
    (li_BadPaint : K.lookup f6 = some ⟨oc6, od6, .func (PySem.W.fnOf "__init__" "BadPaint.__init__" (defArgs s_BadPaint___init__) (defBody s_BadPaint___init__) (defScope s_BadPaint___init__) .none kV6 dc6 pm6 an6 cd6 ct6), sl6⟩)
    (ci_BadPaint : PySem.W.codeIn K cd6 "BadPaint.__init__" = true)
    (ki_BadPaint : PySem.W.keepIn K (.ref f6) = true)
    (ga_BadPaint : PySem.W.findIn K (.ref CBadPaint) "__getattribute__" = some (some (.builtin "BaseException.__getattribute__")))
    (gg_BadPaint : PySem.W.findIn K (.ref CBadPaint) "__getattr__" = some none)
    (hd_BadPaint : PySem.W.hasDictIn K CBadPaint = true)
    (ha_BadPaint : PySem.W.findIn K (.ref CBadPaint) "__class__" = some (some (.builtin "object.__class__")))
    (hm_BadPaint : PySem.W.mroIn K CBadPaint (.type "object") = some true)
    (x_BadMask : K.lookup CBadMask = some (excClassObj nm7 qn7 CBadMask N7 bs7 bm7 true sn7 sub7 ab7 col7 dd7 m07 m17 m27 m37 m57 "ValueError.__new__"))
    (rf_BadMask : PySem.HandSPX.refsVE bm7 = true)
    (sa_BadMask : PySem.W.findIn K (.ref CBadMask) "__setattr__" = some (some (.builtin "object.__setattr__")))
    (kc_BadMask : PySem.W.keepIn K (.ref CBadMask) = true)
    (nb_BadMask : PySem.W.findIn K (.ref CBadMask) "part" = some none)
    (ai_BadMask : PySem.W.findIn K (.ref CBadMask) "__init__" = some (some (.ref f7)))
    (ti_BadMask : PySem.W.typeIn K (.ref f7) = some (.type "function"))
    (li_BadMask : K.lookup f7 = some ⟨oc7, od7, .func (PySem.W.fnOf "__init__" "BadMask.__init__" (defArgs s_BadMask___init__) (defBody s_BadMask___init__) (defScope s_BadMask___init__) .none kV7 dc7 pm7 an7 cd7 ct7), sl7⟩)
    (ci_BadMask : PySem.W.codeIn K cd7 "BadMask.__init__" = true)
    (ki_BadMask : PySem.W.keepIn K (.ref f7) = true)
    (ga_BadMask : PySem.W.findIn K (.ref CBadMask) "__getattribute__" = some (some (.builtin "BaseException.__getattribute__")))
    (gg_BadMask : PySem.W.findIn K (.ref CBadMask) "__getattr__" = some none)
    (hd_BadMask : PySem.W.hasDictIn K CBadMask = true)
    (ha_BadMask : PySem.W.findIn K (.ref CBadMask) "__class__" = some (some (.builtin "object.__class__")))
    (hm_BadMask : PySem.W.mroIn K CBadMask (.type "object") = some true)
    (pg_Scheme : PySem.W.plainGet K CScheme Str.empty = true)
    (hd_Scheme : PySem.W.hasDictIn K CScheme = true)
    (po_Scheme : PySem.W.plainOver K CScheme = true)
    (sa_Scheme : PySem.W.findIn K (.ref CScheme) "__setattr__" = some (some (.builtin "object.__setattr__")))
    (mk_Scheme : PySem.W.makesIn K CScheme = true)
    (kc_Scheme : PySem.W.keepIn K (.ref CScheme) = true)
    (am_Scheme___init__ : PySem.W.findIn K (.ref CScheme) "__init__" = some (some (.ref f8)))
    (im_Scheme___init__ : PySem.W.isFn K (.ref f8) = true)
    (lm_Scheme___init__ : K.lookup f8 = some ⟨oc8, od8, .func (PySem.W.fnOf "__init__" "Scheme.__init__" (defArgs s_Scheme___init__) (defBody s_Scheme___init__) (defScope s_Scheme___init__) .none kV8 dc8 pm8 an8 cd8 ct8), sl8⟩)
    (cm_Scheme___init__ : PySem.W.codeIn K cd8 "Scheme.__init__" = true)
    (km_Scheme___init__ : PySem.W.keepIn K (.ref f8) = true)
    (am_Scheme___eq__ : PySem.W.findIn K (.ref CScheme) "__eq__" = some (some (.ref f9)))
    (im_Scheme___eq__ : PySem.W.isFn K (.ref f9) = true)
    (lm_Scheme___eq__ : K.lookup f9 = some ⟨oc9, od9, .func (PySem.W.fnOf "__eq__" "Scheme.__eq__" (defArgs s_Scheme___eq__) (defBody s_Scheme___eq__) (defScope s_Scheme___eq__) .none kV9 dc9 pm9 an9 cd9 ct9), sl9⟩)
    (cm_Scheme___eq__ : PySem.W.codeIn K cd9 "Scheme.__eq__" = true)
    (km_Scheme___eq__ : PySem.W.keepIn K (.ref f9) = true)
    (am_Scheme___len__ : PySem.W.findIn K (.ref CScheme) "__len__" = some (some (.ref f10)))
    (im_Scheme___len__ : PySem.W.isFn K (.ref f10) = true)
    (lm_Scheme___len__ : K.lookup f10 = some ⟨oc10, od10, .func (PySem.W.fnOf "__len__" "Scheme.__len__" (defArgs s_Scheme___len__) (defBody s_Scheme___len__) (defScope s_Scheme___len__) .none kV10 dc10 pm10 an10 cd10 ct10), sl10⟩)
    (cm_Scheme___len__ : PySem.W.codeIn K cd10 "Scheme.__len__" = true)
    (km_Scheme___len__ : PySem.W.keepIn K (.ref f10) = true)
    (am_Scheme_is_column : PySem.W.findIn K (.ref CScheme) "is_column" = some (some (.ref f11)))
    (im_Scheme_is_column : PySem.W.isFn K (.ref f11) = true)
    (lm_Scheme_is_column : K.lookup f11 = some ⟨oc11, od11, .func (PySem.W.fnOf "is_column" "Scheme.is_column" (defArgs s_Scheme_is_column) (defBody s_Scheme_is_column) (defScope s_Scheme_is_column) .none kV11 dc11 pm11 an11 cd11 ct11), sl11⟩)
    (cm_Scheme_is_column : PySem.W.codeIn K cd11 "Scheme.is_column" = true)
    (km_Scheme_is_column : PySem.W.keepIn K (.ref f11) = true)
    (am_Scheme_is_colour : PySem.W.findIn K (.ref CScheme) "is_colour" = some (some (.ref f12)))
    (im_Scheme_is_colour : PySem.W.isFn K (.ref f12) = true)
    (lm_Scheme_is_colour : K.lookup f12 = some ⟨oc12, od12, .func (PySem.W.fnOf "is_colour" "Scheme.is_colour" (defArgs s_Scheme_is_colour) (defBody s_Scheme_is_colour) (defScope s_Scheme_is_colour) .none kV12 dc12 pm12 an12 cd12 ct12), sl12⟩)
    (cm_Scheme_is_colour : PySem.W.codeIn K cd12 "Scheme.is_colour" = true)
    (km_Scheme_is_colour : PySem.W.keepIn K (.ref f12) = true)
    (am_Scheme_is_strip : PySem.W.findIn K (.ref CScheme) "is_strip" = some (some (.ref f13)))
    (im_Scheme_is_strip : PySem.W.isFn K (.ref f13) = true)
    (lm_Scheme_is_strip : K.lookup f13 = some ⟨oc13, od13, .func (PySem.W.fnOf "is_strip" "Scheme.is_strip" (defArgs s_Scheme_is_strip) (defBody s_Scheme_is_strip) (defScope s_Scheme_is_strip) .none kV13 dc13 pm13 an13 cd13 ct13), sl13⟩)
    (cm_Scheme_is_strip : PySem.W.codeIn K cd13 "Scheme.is_strip" = true)
    (km_Scheme_is_strip : PySem.W.keepIn K (.ref f13) = true)
    (am_Scheme_check : PySem.W.findIn K (.ref CScheme) "check" = some (some (.ref f14)))
    (im_Scheme_check : PySem.W.isFn K (.ref f14) = true)
    (lm_Scheme_check : K.lookup f14 = some ⟨oc14, od14, .func (PySem.W.fnOf "check" "Scheme.check" (defArgs s_Scheme_check) (defBody s_Scheme_check) (defScope s_Scheme_check) .none kV14 dc14 pm14 an14 cd14 ct14), sl14⟩)
    (cm_Scheme_check : PySem.W.codeIn K cd14 "Scheme.check" = true)
    (km_Scheme_check : PySem.W.keepIn K (.ref f14) = true)
    (am_Scheme_spots : PySem.W.findIn K (.ref CScheme) "spots" = some (some (.ref f15)))
    (im_Scheme_spots : PySem.W.isFn K (.ref f15) = true)
    (lm_Scheme_spots : K.lookup f15 = some ⟨oc15, od15, .func (PySem.W.fnOf "spots" "Scheme.spots" (defArgs s_Scheme_spots) (defBody s_Scheme_spots) (defScope s_Scheme_spots) .none kV15 dc15 pm15 an15 cd15 ct15), sl15⟩)
    (cm_Scheme_spots : PySem.W.codeIn K cd15 "Scheme.spots" = true)
    (km_Scheme_spots : PySem.W.keepIn K (.ref f15) = true)
    (am_Scheme_column : PySem.W.findIn K (.ref CScheme) "column" = some (some (.ref f16)))
    (im_Scheme_column : PySem.W.isFn K (.ref f16) = true)
    (lm_Scheme_column : K.lookup f16 = some ⟨oc16, od16, .func (PySem.W.fnOf "column" "Scheme.column" (defArgs s_Scheme_column) (defBody s_Scheme_column) (defScope s_Scheme_column) .none kV16 dc16 pm16 an16 cd16 ct16), sl16⟩)
    (cm_Scheme_column : PySem.W.codeIn K cd16 "Scheme.column" = true)
    (km_Scheme_column : PySem.W.keepIn K (.ref f16) = true)
    (pg_Paint : PySem.W.plainGet K CPaint Str.empty = true)
    (hd_Paint : PySem.W.hasDictIn K CPaint = true)
    (po_Paint : PySem.W.plainOver K CPaint = true)
    (sa_Paint : PySem.W.findIn K (.ref CPaint) "__setattr__" = some (some (.builtin "object.__setattr__")))
    (mk_Paint : PySem.W.makesIn K CPaint = true)
    (kc_Paint : PySem.W.keepIn K (.ref CPaint) = true)
    (am_Paint___init__ : PySem.W.findIn K (.ref CPaint) "__init__" = some (some (.ref f17)))
    (im_Paint___init__ : PySem.W.isFn K (.ref f17) = true)
    (lm_Paint___init__ : K.lookup f17 = some ⟨oc17, od17, .func (PySem.W.fnOf "__init__" "Paint.__init__" (defArgs s_Paint___init__) (defBody s_Paint___init__) (defScope s_Paint___init__) .none kV17 dc17 pm17 an17 cd17 ct17), sl17⟩)
    (cm_Paint___init__ : PySem.W.codeIn K cd17 "Paint.__init__" = true)
    (km_Paint___init__ : PySem.W.keepIn K (.ref f17) = true)
    (cg_Paint_still : PySem.W.findCls K (.ref CPaint) (.type "type") "still" = some (.get (.builtin "classmethod.__get__") (.ref p18) .none (.ref CPaint)))
    (cr_Paint_still : PySem.W.recIn K p18 "classmethod" = some (.ref f18 :: rs18))
    (cf_Paint_still : PySem.W.fnIn K f18 = true)
    (lm_Paint_still : K.lookup f18 = some ⟨oc18, od18, .func (PySem.W.fnOf "still" "Paint.still" (defArgs s_Paint_still) (defBody s_Paint_still) (defScope s_Paint_still) .none kV18 dc18 pm18 an18 cd18 ct18), sl18⟩)
    (cm_Paint_still : PySem.W.codeIn K cd18 "Paint.still" = true)
    (km_Paint_still : PySem.W.keepIn K (.ref f18) = true)
    (cg_Paint_read : PySem.W.findCls K (.ref CPaint) (.type "type") "read" = some (.get (.builtin "classmethod.__get__") (.ref p19) .none (.ref CPaint)))
    (cr_Paint_read : PySem.W.recIn K p19 "classmethod" = some (.ref f19 :: rs19))
    (cf_Paint_read : PySem.W.fnIn K f19 = true)
    (lm_Paint_read : K.lookup f19 = some ⟨oc19, od19, .func (PySem.W.fnOf "read" "Paint.read" (defArgs s_Paint_read) (defBody s_Paint_read) (defScope s_Paint_read) .none kV19 dc19 pm19 an19 cd19 ct19), sl19⟩)
    (cm_Paint_read : PySem.W.codeIn K cd19 "Paint.read" = true)
    (km_Paint_read : PySem.W.keepIn K (.ref f19) = true)
    (am_Paint___call__ : PySem.W.findIn K (.ref CPaint) "__call__" = some (some (.ref f20)))
    (im_Paint___call__ : PySem.W.isFn K (.ref f20) = true)
    (lm_Paint___call__ : K.lookup f20 = some ⟨oc20, od20, .func (PySem.W.fnOf "__call__" "Paint.__call__" (defArgs s_Paint___call__) (defBody s_Paint___call__) (defScope s_Paint___call__) .none kV20 dc20 pm20 an20 cd20 ct20), sl20⟩)
    (cm_Paint___call__ : PySem.W.codeIn K cd20 "Paint.__call__" = true)
    (km_Paint___call__ : PySem.W.keepIn K (.ref f20) = true)
    (am_Paint___eq__ : PySem.W.findIn K (.ref CPaint) "__eq__" = some (some (.ref f21)))
    (im_Paint___eq__ : PySem.W.isFn K (.ref f21) = true)
    (lm_Paint___eq__ : K.lookup f21 = some ⟨oc21, od21, .func (PySem.W.fnOf "__eq__" "Paint.__eq__" (defArgs s_Paint___eq__) (defBody s_Paint___eq__) (defScope s_Paint___eq__) .none kV21 dc21 pm21 an21 cd21 ct21), sl21⟩)
    (cm_Paint___eq__ : PySem.W.codeIn K cd21 "Paint.__eq__" = true)
    (km_Paint___eq__ : PySem.W.keepIn K (.ref f21) = true)
    (am_Paint___mul__ : PySem.W.findIn K (.ref CPaint) "__mul__" = some (some (.ref f22)))
    (im_Paint___mul__ : PySem.W.isFn K (.ref f22) = true)
    (lm_Paint___mul__ : K.lookup f22 = some ⟨oc22, od22, .func (PySem.W.fnOf "__mul__" "Paint.__mul__" (defArgs s_Paint___mul__) (defBody s_Paint___mul__) (defScope s_Paint___mul__) .none kV22 dc22 pm22 an22 cd22 ct22), sl22⟩)
    (cm_Paint___mul__ : PySem.W.codeIn K cd22 "Paint.__mul__" = true)
    (km_Paint___mul__ : PySem.W.keepIn K (.ref f22) = true)
    (am_Paint___str__ : PySem.W.findIn K (.ref CPaint) "__str__" = some (some (.ref f23)))
    (im_Paint___str__ : PySem.W.isFn K (.ref f23) = true)
    (lm_Paint___str__ : K.lookup f23 = some ⟨oc23, od23, .func (PySem.W.fnOf "__str__" "Paint.__str__" (defArgs s_Paint___str__) (defBody s_Paint___str__) (defScope s_Paint___str__) .none kV23 dc23 pm23 an23 cd23 ct23), sl23⟩)
    (cm_Paint___str__ : PySem.W.codeIn K cd23 "Paint.__str__" = true)
    (km_Paint___str__ : PySem.W.keepIn K (.ref f23) = true)
    (am_Paint_undoing : PySem.W.findIn K (.ref CPaint) "undoing" = some (some (.ref f24)))
    (im_Paint_undoing : PySem.W.isFn K (.ref f24) = true)
    (lm_Paint_undoing : K.lookup f24 = some ⟨oc24, od24, .func (PySem.W.fnOf "undoing" "Paint.undoing" (defArgs s_Paint_undoing) (defBody s_Paint_undoing) (defScope s_Paint_undoing) .none kV24 dc24 pm24 an24 cd24 ct24), sl24⟩)
    (cm_Paint_undoing : PySem.W.codeIn K cd24 "Paint.undoing" = true)
    (km_Paint_undoing : PySem.W.keepIn K (.ref f24) = true)
    (am_Paint__painted : PySem.W.findIn K (.ref CPaint) "_painted" = some (some (.ref f25)))
    (im_Paint__painted : PySem.W.isFn K (.ref f25) = true)
    (lm_Paint__painted : K.lookup f25 = some ⟨oc25, od25, .func (PySem.W.fnOf "_painted" "Paint._painted" (defArgs s_Paint__painted) (defBody s_Paint__painted) (defScope s_Paint__painted) .none kV25 dc25 pm25 an25 cd25 ct25), sl25⟩)
    (cm_Paint__painted : PySem.W.codeIn K cd25 "Paint._painted" = true)
    (km_Paint__painted : PySem.W.keepIn K (.ref f25) = true)
    (ad_check_alike : PySem.W.nsIn K mainGlobals "check_alike" = some (some (.ref f26)))
    (ld_check_alike : K.lookup f26 = some ⟨oc26, od26, .func (PySem.W.fnOf "check_alike" "check_alike" (defArgs s_check_alike) (defBody s_check_alike) (defScope s_check_alike) .none kV26 dc26 pm26 an26 cd26 ct26), sl26⟩)
    (cd_check_alike : PySem.W.codeIn K cd26 "check_alike" = true)
    (kd_check_alike : PySem.W.keepIn K (.ref f26) = true)
    (ad_map_back : PySem.W.nsIn K mainGlobals "_map_back" = some (some (.ref f27)))
    (ld_map_back : K.lookup f27 = some ⟨oc27, od27, .func (PySem.W.fnOf "_map_back" "_map_back" (defArgs s_map_back) (defBody s_map_back) (defScope s_map_back) .none kV27 dc27 pm27 an27 cd27 ct27), sl27⟩)
    (cd_map_back : PySem.W.codeIn K cd27 "_map_back" = true)
    (kd_map_back : PySem.W.keepIn K (.ref f27) = true)
    (ad_law_box : PySem.W.nsIn K mainGlobals "_law_box" = some (some (.ref f28)))
    (ld_law_box : K.lookup f28 = some ⟨oc28, od28, .func (PySem.W.fnOf "_law_box" "_law_box" (defArgs s_law_box) (defBody s_law_box) (defScope s_law_box) .none kV28 dc28 pm28 an28 cd28 ct28), sl28⟩)
    (cd_law_box : PySem.W.codeIn K cd28 "_law_box" = true)
    (kd_law_box : PySem.W.keepIn K (.ref f28) = true)
    (ad_law_take : PySem.W.nsIn K mainGlobals "_law_take" = some (some (.ref f29)))
    (ld_law_take : K.lookup f29 = some ⟨oc29, od29, .func (PySem.W.fnOf "_law_take" "_law_take" (defArgs s_law_take) (defBody s_law_take) (defScope s_law_take) .none kV29 dc29 pm29 an29 cd29 ct29), sl29⟩)
    (cd_law_take : PySem.W.codeIn K cd29 "_law_take" = true)
    (kd_law_take : PySem.W.keepIn K (.ref f29) = true)
    (ad_law_spots : PySem.W.nsIn K mainGlobals "_law_spots" = some (some (.ref f30)))
    (ld_law_spots : K.lookup f30 = some ⟨oc30, od30, .func (PySem.W.fnOf "_law_spots" "_law_spots" (defArgs s_law_spots) (defBody s_law_spots) (defScope s_law_spots) .none kV30 dc30 pm30 an30 cd30 ct30), sl30⟩)
    (cd_law_spots : PySem.W.codeIn K cd30 "_law_spots" = true)
    (kd_law_spots : PySem.W.keepIn K (.ref f30) = true)
    (ad_law_painted : PySem.W.nsIn K mainGlobals "_law_painted" = some (some (.ref f31)))
    (ld_law_painted : K.lookup f31 = some ⟨oc31, od31, .func (PySem.W.fnOf "_law_painted" "_law_painted" (defArgs s_law_painted) (defBody s_law_painted) (defScope s_law_painted) .none kV31 dc31 pm31 an31 cd31 ct31), sl31⟩)
    (cd_law_painted : PySem.W.codeIn K cd31 "_law_painted" = true)
    (kd_law_painted : PySem.W.keepIn K (.ref f31) = true)
    (ad_law_maps : PySem.W.nsIn K mainGlobals "_law_maps" = some (some (.ref f32)))
    (ld_law_maps : K.lookup f32 = some ⟨oc32, od32, .func (PySem.W.fnOf "_law_maps" "_law_maps" (defArgs s_law_maps) (defBody s_law_maps) (defScope s_law_maps) .none kV32 dc32 pm32 an32 cd32 ct32), sl32⟩)
    (cd_law_maps : PySem.W.codeIn K cd32 "_law_maps" = true)
    (kd_law_maps : PySem.W.keepIn K (.ref f32) = true)
    (ad_law_strip : PySem.W.nsIn K mainGlobals "_law_strip" = some (some (.ref f33)))
    (ld_law_strip : K.lookup f33 = some ⟨oc33, od33, .func (PySem.W.fnOf "_law_strip" "_law_strip" (defArgs s_law_strip) (defBody s_law_strip) (defScope s_law_strip) .none kV33 dc33 pm33 an33 cd33 ct33), sl33⟩)
    (cd_law_strip : PySem.W.codeIn K cd33 "_law_strip" = true)
    (kd_law_strip : PySem.W.keepIn K (.ref f33) = true)
    (ad_law_other_maps : PySem.W.nsIn K mainGlobals "_law_other_maps" = some (some (.ref f34)))
    (ld_law_other_maps : K.lookup f34 = some ⟨oc34, od34, .func (PySem.W.fnOf "_law_other_maps" "_law_other_maps" (defArgs s_law_other_maps) (defBody s_law_other_maps) (defScope s_law_other_maps) .none kV34 dc34 pm34 an34 cd34 ct34), sl34⟩)
    (cd_law_other_maps : PySem.W.codeIn K cd34 "_law_other_maps" = true)
    (kd_law_other_maps : PySem.W.keepIn K (.ref f34) = true)
    (ad_law_product : PySem.W.nsIn K mainGlobals "_law_product" = some (some (.ref f35)))
    (ld_law_product : K.lookup f35 = some ⟨oc35, od35, .func (PySem.W.fnOf "_law_product" "_law_product" (defArgs s_law_product) (defBody s_law_product) (defScope s_law_product) .none kV35 dc35 pm35 an35 cd35 ct35), sl35⟩)
    (cd_law_product : PySem.W.codeIn K cd35 "_law_product" = true)
    (kd_law_product : PySem.W.keepIn K (.ref f35) = true)
    (ad_law_undone : PySem.W.nsIn K mainGlobals "_law_undone" = some (some (.ref f36)))
    (ld_law_undone : K.lookup f36 = some ⟨oc36, od36, .func (PySem.W.fnOf "_law_undone" "_law_undone" (defArgs s_law_undone) (defBody s_law_undone) (defScope s_law_undone) .none kV36 dc36 pm36 an36 cd36 ct36), sl36⟩)
    (cd_law_undone : PySem.W.codeIn K cd36 "_law_undone" = true)
    (kd_law_undone : PySem.W.keepIn K (.ref f36) = true)
    (ad_law_bad_row : PySem.W.nsIn K mainGlobals "_law_bad_row" = some (some (.ref f37)))
    (ld_law_bad_row : K.lookup f37 = some ⟨oc37, od37, .func (PySem.W.fnOf "_law_bad_row" "_law_bad_row" (defArgs s_law_bad_row) (defBody s_law_bad_row) (defScope s_law_bad_row) .none kV37 dc37 pm37 an37 cd37 ct37), sl37⟩)
    (cd_law_bad_row : PySem.W.codeIn K cd37 "_law_bad_row" = true)
    (kd_law_bad_row : PySem.W.keepIn K (.ref f37) = true)
    (ad_law_spoilt : PySem.W.nsIn K mainGlobals "_law_spoilt" = some (some (.ref f38)))
    (ld_law_spoilt : K.lookup f38 = some ⟨oc38, od38, .func (PySem.W.fnOf "_law_spoilt" "_law_spoilt" (defArgs s_law_spoilt) (defBody s_law_spoilt) (defScope s_law_spoilt) .none kV38 dc38 pm38 an38 cd38 ct38), sl38⟩)
    (cd_law_spoilt : PySem.W.codeIn K cd38 "_law_spoilt" = true)
    (kd_law_spoilt : PySem.W.keepIn K (.ref f38) = true)
    (ad_law_refused : PySem.W.nsIn K mainGlobals "_law_refused" = some (some (.ref f39)))
    (ld_law_refused : K.lookup f39 = some ⟨oc39, od39, .func (PySem.W.fnOf "_law_refused" "_law_refused" (defArgs s_law_refused) (defBody s_law_refused) (defScope s_law_refused) .none kV39 dc39 pm39 an39 cd39 ct39), sl39⟩)
    (cd_law_refused : PySem.W.codeIn K cd39 "_law_refused" = true)
    (kd_law_refused : PySem.W.keepIn K (.ref f39) = true)
    (ad_law_bad_strip : PySem.W.nsIn K mainGlobals "_law_bad_strip" = some (some (.ref f40)))
    (ld_law_bad_strip : K.lookup f40 = some ⟨oc40, od40, .func (PySem.W.fnOf "_law_bad_strip" "_law_bad_strip" (defArgs s_law_bad_strip) (defBody s_law_bad_strip) (defScope s_law_bad_strip) .none kV40 dc40 pm40 an40 cd40 ct40), sl40⟩)
    (cd_law_bad_strip : PySem.W.codeIn K cd40 "_law_bad_strip" = true)
    (kd_law_bad_strip : PySem.W.keepIn K (.ref f40) = true)
    (ad_law_unlike : PySem.W.nsIn K mainGlobals "_law_unlike" = some (some (.ref f41)))
    (ld_law_unlike : K.lookup f41 = some ⟨oc41, od41, .func (PySem.W.fnOf "_law_unlike" "_law_unlike" (defArgs s_law_unlike) (defBody s_law_unlike) (defScope s_law_unlike) .none kV41 dc41 pm41 an41 cd41 ct41), sl41⟩)
    (cd_law_unlike : PySem.W.codeIn K cd41 "_law_unlike" = true)
    (kd_law_unlike : PySem.W.keepIn K (.ref f41) = true)
    (ad_law_truth : PySem.W.nsIn K mainGlobals "_law_truth" = some (some (.ref f42)))
    (ld_law_truth : K.lookup f42 = some ⟨oc42, od42, .func (PySem.W.fnOf "_law_truth" "_law_truth" (defArgs s_law_truth) (defBody s_law_truth) (defScope s_law_truth) .none kV42 dc42 pm42 an42 cd42 ct42), sl42⟩)
    (cd_law_truth : PySem.W.codeIn K cd42 "_law_truth" = true)
    (kd_law_truth : PySem.W.keepIn K (.ref f42) = true)
    (ad_law_is_paint : PySem.W.nsIn K mainGlobals "_law_is_paint" = some (some (.ref f43)))
    (ld_law_is_paint : K.lookup f43 = some ⟨oc43, od43, .func (PySem.W.fnOf "_law_is_paint" "_law_is_paint" (defArgs s_law_is_paint) (defBody s_law_is_paint) (defScope s_law_is_paint) .none kV43 dc43 pm43 an43 cd43 ct43), sl43⟩)
    (cd_law_is_paint : PySem.W.codeIn K cd43 "_law_is_paint" = true)
    (kd_law_is_paint : PySem.W.keepIn K (.ref f43) = true)
    (ad_law_undoing_holds : PySem.W.nsIn K mainGlobals "_law_undoing_holds" = some (some (.ref f44)))
    (ld_law_undoing_holds : K.lookup f44 = some ⟨oc44, od44, .func (PySem.W.fnOf "_law_undoing_holds" "_law_undoing_holds" (defArgs s_law_undoing_holds) (defBody s_law_undoing_holds) (defScope s_law_undoing_holds) .none kV44 dc44 pm44 an44 cd44 ct44), sl44⟩)
    (cd_law_undoing_holds : PySem.W.codeIn K cd44 "_law_undoing_holds" = true)
    (kd_law_undoing_holds : PySem.W.keepIn K (.ref f44) = true)
    (ad_law_refusals_hold : PySem.W.nsIn K mainGlobals "_law_refusals_hold" = some (some (.ref f45)))
    (ld_law_refusals_hold : K.lookup f45 = some ⟨oc45, od45, .func (PySem.W.fnOf "_law_refusals_hold" "_law_refusals_hold" (defArgs s_law_refusals_hold) (defBody s_law_refusals_hold) (defScope s_law_refusals_hold) .none kV45 dc45 pm45 an45 cd45 ct45), sl45⟩)
    (cd_law_refusals_hold : PySem.W.codeIn K cd45 "_law_refusals_hold" = true)
    (kd_law_refusals_hold : PySem.W.keepIn K (.ref f45) = true)
    (ad_law_product_holds : PySem.W.nsIn K mainGlobals "_law_product_holds" = some (some (.ref f46)))
    (ld_law_product_holds : K.lookup f46 = some ⟨oc46, od46, .func (PySem.W.fnOf "_law_product_holds" "_law_product_holds" (defArgs s_law_product_holds) (defBody s_law_product_holds) (defScope s_law_product_holds) .none kV46 dc46 pm46 an46 cd46 ct46), sl46⟩)
    (cd_law_product_holds : PySem.W.codeIn K cd46 "_law_product_holds" = true)
    (kd_law_product_holds : PySem.W.keepIn K (.ref f46) = true)
    (ad_law_still_holds : PySem.W.nsIn K mainGlobals "_law_still_holds" = some (some (.ref f47)))
    (ld_law_still_holds : K.lookup f47 = some ⟨oc47, od47, .func (PySem.W.fnOf "_law_still_holds" "_law_still_holds" (defArgs s_law_still_holds) (defBody s_law_still_holds) (defScope s_law_still_holds) .none kV47 dc47 pm47 an47 cd47 ct47), sl47⟩)
    (cd_law_still_holds : PySem.W.codeIn K cd47 "_law_still_holds" = true)
    (kd_law_still_holds : PySem.W.keepIn K (.ref f47) = true)
    (ad_law_strangers_hold : PySem.W.nsIn K mainGlobals "_law_strangers_hold" = some (some (.ref f48)))
    (ld_law_strangers_hold : K.lookup f48 = some ⟨oc48, od48, .func (PySem.W.fnOf "_law_strangers_hold" "_law_strangers_hold" (defArgs s_law_strangers_hold) (defBody s_law_strangers_hold) (defScope s_law_strangers_hold) .none kV48 dc48 pm48 an48 cd48 ct48), sl48⟩)
    (cd_law_strangers_hold : PySem.W.codeIn K cd48 "_law_strangers_hold" = true)
    (kd_law_strangers_hold : PySem.W.keepIn K (.ref f48) = true)
    (ad_law : PySem.W.nsIn K mainGlobals "law" = some (some (.ref f49)))
    (ld_law : K.lookup f49 = some ⟨oc49, od49, .func (PySem.W.fnOf "law" "law" (defArgs s_law) (defBody s_law) (defScope s_law) .none kV49 dc49 pm49 an49 cd49 ct49), sl49⟩)
    (cd_law : PySem.W.codeIn K cd49 "law" = true)
    (kd_law : PySem.W.keepIn K (.ref f49) = true)
    (nn_rows : PySem.W.findIn K (.ref CScheme) "rows" = some none)
    (nn_colours : PySem.W.findIn K (.ref CScheme) "colours" = some none)
    (nn_columns : PySem.W.findIn K (.ref CScheme) "columns" = some none)
    (nn_scheme : PySem.W.findIn K (.ref CPaint) "scheme" = some none)
    (nn_maps : PySem.W.findIn K (.ref CPaint) "maps" = some none)
    (fM : PySem.W.findIn K (.ref CScheme) "MOST" = some (some (.int 9 tM)))
    (sM : PySem.W.specialIn K (.int 9 tM) "__get__" = some none)
    (fB : PySem.W.findIn K (.ref CScheme) "BLANK" = some (some (.str "a" tB)))
    (sBl : PySem.W.specialIn K (.str "a" tB) "__get__" = some none)
    (rS_Paint : PySem.W.readsIn K CPaint (.type "type") = true)
    (gS_Paint : PySem.W.specialIn K (.ref CPaint) "__getattribute__" = some (some (.builtin "type.__getattribute__")))
    (i_hn : PySem.W.specialIn K (.builtin "object.__class__") "__get__" = some (some (.builtin "getset_descriptor.__get__")))
    (i_ht : PySem.W.takesIn K (.builtin "object.__class__") = some true)
    (i_ha : PySem.W.findIn K (.ref CScheme) "__class__" = some (some (.builtin "object.__class__")))
    (i_hm : PySem.W.mroIn K CScheme (.type "object") = some true)
    (nf_Scheme_int : PySem.W.notFirst K CScheme (.type "int") = true)
    (s_int_Scheme : PySem.W.subIn K (.type "int") (.ref CScheme) = some false)
    (nf_Scheme_str : PySem.W.notFirst K CScheme (.type "str") = true)
    (s_str_Scheme : PySem.W.subIn K (.type "str") (.ref CScheme) = some false)
    (p_ha : PySem.W.findIn K (.ref CPaint) "__class__" = some (some (.builtin "object.__class__")))
    (p_hm : PySem.W.mroIn K CPaint (.type "object") = some true)
    (nf_Paint_int : PySem.W.notFirst K CPaint (.type "int") = true)
    (nf_Paint_str : PySem.W.notFirst K CPaint (.type "str") = true)
    (s_str_Paint : PySem.W.subIn K (.type "str") (.ref CPaint) = some false)
    (nf_Paint_list : PySem.W.notFirst K CPaint (.type "list") = true)
    (s_list_Paint : PySem.W.subIn K (.type "list") (.ref CPaint) = some false)
    (sf_Paint : PySem.W.selfFirst K CPaint = true)
    (ne_Scheme : PySem.W.findIn K (.ref CScheme) "__ne__" = some (some (.builtin "object.__ne__")))
    (ss_0 : PySem.W.subIn K (.ref CBadScheme) (.ref CBadScheme) = some true)
    (s_0_1 : PySem.W.subIn K (.ref CBadScheme) (.ref CBadColumn) = some false)
    (ne_0_1 : ((Value.ref CBadScheme) == Value.ref CBadColumn) = false)
    (s_0_2 : PySem.W.subIn K (.ref CBadScheme) (.ref CBadSpots) = some false)
    (ne_0_2 : ((Value.ref CBadScheme) == Value.ref CBadSpots) = false)
    (s_0_3 : PySem.W.subIn K (.ref CBadScheme) (.ref CBadStrip) = some false)
    (ne_0_3 : ((Value.ref CBadScheme) == Value.ref CBadStrip) = false)
    (s_0_4 : PySem.W.subIn K (.ref CBadScheme) (.ref CBadIndex) = some false)
    (ne_0_4 : ((Value.ref CBadScheme) == Value.ref CBadIndex) = false)
    (s_0_5 : PySem.W.subIn K (.ref CBadScheme) (.ref CBadPaint) = some false)
    (ne_0_5 : ((Value.ref CBadScheme) == Value.ref CBadPaint) = false)
    (s_0_6 : PySem.W.subIn K (.ref CBadScheme) (.ref CBadMask) = some false)
    (ne_0_6 : ((Value.ref CBadScheme) == Value.ref CBadMask) = false)
    (s_0_7 : PySem.W.subIn K (.ref CBadScheme) (.ref CUnlikeSchemes) = some false)
    (ne_0_7 : ((Value.ref CBadScheme) == Value.ref CUnlikeSchemes) = false)
    (s_1_0 : PySem.W.subIn K (.ref CBadColumn) (.ref CBadScheme) = some false)
    (ne_1_0 : ((Value.ref CBadColumn) == Value.ref CBadScheme) = false)
    (ss_1 : PySem.W.subIn K (.ref CBadColumn) (.ref CBadColumn) = some true)
    (s_1_2 : PySem.W.subIn K (.ref CBadColumn) (.ref CBadSpots) = some false)
    (ne_1_2 : ((Value.ref CBadColumn) == Value.ref CBadSpots) = false)
    (s_1_3 : PySem.W.subIn K (.ref CBadColumn) (.ref CBadStrip) = some false)
    (ne_1_3 : ((Value.ref CBadColumn) == Value.ref CBadStrip) = false)
    (s_1_4 : PySem.W.subIn K (.ref CBadColumn) (.ref CBadIndex) = some false)
    (ne_1_4 : ((Value.ref CBadColumn) == Value.ref CBadIndex) = false)
    (s_1_5 : PySem.W.subIn K (.ref CBadColumn) (.ref CBadPaint) = some false)
    (ne_1_5 : ((Value.ref CBadColumn) == Value.ref CBadPaint) = false)
    (s_1_6 : PySem.W.subIn K (.ref CBadColumn) (.ref CBadMask) = some false)
    (ne_1_6 : ((Value.ref CBadColumn) == Value.ref CBadMask) = false)
    (s_1_7 : PySem.W.subIn K (.ref CBadColumn) (.ref CUnlikeSchemes) = some false)
    (ne_1_7 : ((Value.ref CBadColumn) == Value.ref CUnlikeSchemes) = false)
    (s_2_0 : PySem.W.subIn K (.ref CBadSpots) (.ref CBadScheme) = some false)
    (ne_2_0 : ((Value.ref CBadSpots) == Value.ref CBadScheme) = false)
    (s_2_1 : PySem.W.subIn K (.ref CBadSpots) (.ref CBadColumn) = some false)
    (ne_2_1 : ((Value.ref CBadSpots) == Value.ref CBadColumn) = false)
    (ss_2 : PySem.W.subIn K (.ref CBadSpots) (.ref CBadSpots) = some true)
    (s_2_3 : PySem.W.subIn K (.ref CBadSpots) (.ref CBadStrip) = some false)
    (ne_2_3 : ((Value.ref CBadSpots) == Value.ref CBadStrip) = false)
    (s_2_4 : PySem.W.subIn K (.ref CBadSpots) (.ref CBadIndex) = some false)
    (ne_2_4 : ((Value.ref CBadSpots) == Value.ref CBadIndex) = false)
    (s_2_5 : PySem.W.subIn K (.ref CBadSpots) (.ref CBadPaint) = some false)
    (ne_2_5 : ((Value.ref CBadSpots) == Value.ref CBadPaint) = false)
    (s_2_6 : PySem.W.subIn K (.ref CBadSpots) (.ref CBadMask) = some false)
    (ne_2_6 : ((Value.ref CBadSpots) == Value.ref CBadMask) = false)
    (s_2_7 : PySem.W.subIn K (.ref CBadSpots) (.ref CUnlikeSchemes) = some false)
    (ne_2_7 : ((Value.ref CBadSpots) == Value.ref CUnlikeSchemes) = false)
    (s_3_0 : PySem.W.subIn K (.ref CBadStrip) (.ref CBadScheme) = some false)
    (ne_3_0 : ((Value.ref CBadStrip) == Value.ref CBadScheme) = false)
    (s_3_1 : PySem.W.subIn K (.ref CBadStrip) (.ref CBadColumn) = some false)
    (ne_3_1 : ((Value.ref CBadStrip) == Value.ref CBadColumn) = false)
    (s_3_2 : PySem.W.subIn K (.ref CBadStrip) (.ref CBadSpots) = some false)
    (ne_3_2 : ((Value.ref CBadStrip) == Value.ref CBadSpots) = false)
    (ss_3 : PySem.W.subIn K (.ref CBadStrip) (.ref CBadStrip) = some true)
    (s_3_4 : PySem.W.subIn K (.ref CBadStrip) (.ref CBadIndex) = some false)
    (ne_3_4 : ((Value.ref CBadStrip) == Value.ref CBadIndex) = false)
    (s_3_5 : PySem.W.subIn K (.ref CBadStrip) (.ref CBadPaint) = some false)
    (ne_3_5 : ((Value.ref CBadStrip) == Value.ref CBadPaint) = false)
    (s_3_6 : PySem.W.subIn K (.ref CBadStrip) (.ref CBadMask) = some false)
    (ne_3_6 : ((Value.ref CBadStrip) == Value.ref CBadMask) = false)
    (s_3_7 : PySem.W.subIn K (.ref CBadStrip) (.ref CUnlikeSchemes) = some false)
    (ne_3_7 : ((Value.ref CBadStrip) == Value.ref CUnlikeSchemes) = false)
    (s_4_0 : PySem.W.subIn K (.ref CBadIndex) (.ref CBadScheme) = some false)
    (ne_4_0 : ((Value.ref CBadIndex) == Value.ref CBadScheme) = false)
    (s_4_1 : PySem.W.subIn K (.ref CBadIndex) (.ref CBadColumn) = some false)
    (ne_4_1 : ((Value.ref CBadIndex) == Value.ref CBadColumn) = false)
    (s_4_2 : PySem.W.subIn K (.ref CBadIndex) (.ref CBadSpots) = some false)
    (ne_4_2 : ((Value.ref CBadIndex) == Value.ref CBadSpots) = false)
    (s_4_3 : PySem.W.subIn K (.ref CBadIndex) (.ref CBadStrip) = some false)
    (ne_4_3 : ((Value.ref CBadIndex) == Value.ref CBadStrip) = false)
    (ss_4 : PySem.W.subIn K (.ref CBadIndex) (.ref CBadIndex) = some true)
    (s_4_5 : PySem.W.subIn K (.ref CBadIndex) (.ref CBadPaint) = some false)
    (ne_4_5 : ((Value.ref CBadIndex) == Value.ref CBadPaint) = false)
    (s_4_6 : PySem.W.subIn K (.ref CBadIndex) (.ref CBadMask) = some false)
    (ne_4_6 : ((Value.ref CBadIndex) == Value.ref CBadMask) = false)
    (s_4_7 : PySem.W.subIn K (.ref CBadIndex) (.ref CUnlikeSchemes) = some false)
    (ne_4_7 : ((Value.ref CBadIndex) == Value.ref CUnlikeSchemes) = false)
    (s_5_0 : PySem.W.subIn K (.ref CBadPaint) (.ref CBadScheme) = some false)
    (ne_5_0 : ((Value.ref CBadPaint) == Value.ref CBadScheme) = false)
    (s_5_1 : PySem.W.subIn K (.ref CBadPaint) (.ref CBadColumn) = some false)
    (ne_5_1 : ((Value.ref CBadPaint) == Value.ref CBadColumn) = false)
    (s_5_2 : PySem.W.subIn K (.ref CBadPaint) (.ref CBadSpots) = some false)
    (ne_5_2 : ((Value.ref CBadPaint) == Value.ref CBadSpots) = false)
    (s_5_3 : PySem.W.subIn K (.ref CBadPaint) (.ref CBadStrip) = some false)
    (ne_5_3 : ((Value.ref CBadPaint) == Value.ref CBadStrip) = false)
    (s_5_4 : PySem.W.subIn K (.ref CBadPaint) (.ref CBadIndex) = some false)
    (ne_5_4 : ((Value.ref CBadPaint) == Value.ref CBadIndex) = false)
    (ss_5 : PySem.W.subIn K (.ref CBadPaint) (.ref CBadPaint) = some true)
    (s_5_6 : PySem.W.subIn K (.ref CBadPaint) (.ref CBadMask) = some false)
    (ne_5_6 : ((Value.ref CBadPaint) == Value.ref CBadMask) = false)
    (s_5_7 : PySem.W.subIn K (.ref CBadPaint) (.ref CUnlikeSchemes) = some false)
    (ne_5_7 : ((Value.ref CBadPaint) == Value.ref CUnlikeSchemes) = false)
    (s_6_0 : PySem.W.subIn K (.ref CBadMask) (.ref CBadScheme) = some false)
    (ne_6_0 : ((Value.ref CBadMask) == Value.ref CBadScheme) = false)
    (s_6_1 : PySem.W.subIn K (.ref CBadMask) (.ref CBadColumn) = some false)
    (ne_6_1 : ((Value.ref CBadMask) == Value.ref CBadColumn) = false)
    (s_6_2 : PySem.W.subIn K (.ref CBadMask) (.ref CBadSpots) = some false)
    (ne_6_2 : ((Value.ref CBadMask) == Value.ref CBadSpots) = false)
    (s_6_3 : PySem.W.subIn K (.ref CBadMask) (.ref CBadStrip) = some false)
    (ne_6_3 : ((Value.ref CBadMask) == Value.ref CBadStrip) = false)
    (s_6_4 : PySem.W.subIn K (.ref CBadMask) (.ref CBadIndex) = some false)
    (ne_6_4 : ((Value.ref CBadMask) == Value.ref CBadIndex) = false)
    (s_6_5 : PySem.W.subIn K (.ref CBadMask) (.ref CBadPaint) = some false)
    (ne_6_5 : ((Value.ref CBadMask) == Value.ref CBadPaint) = false)
    (ss_6 : PySem.W.subIn K (.ref CBadMask) (.ref CBadMask) = some true)
    (s_6_7 : PySem.W.subIn K (.ref CBadMask) (.ref CUnlikeSchemes) = some false)
    (ne_6_7 : ((Value.ref CBadMask) == Value.ref CUnlikeSchemes) = false)
    (s_7_0 : PySem.W.subIn K (.ref CUnlikeSchemes) (.ref CBadScheme) = some false)
    (ne_7_0 : ((Value.ref CUnlikeSchemes) == Value.ref CBadScheme) = false)
    (s_7_1 : PySem.W.subIn K (.ref CUnlikeSchemes) (.ref CBadColumn) = some false)
    (ne_7_1 : ((Value.ref CUnlikeSchemes) == Value.ref CBadColumn) = false)
    (s_7_2 : PySem.W.subIn K (.ref CUnlikeSchemes) (.ref CBadSpots) = some false)
    (ne_7_2 : ((Value.ref CUnlikeSchemes) == Value.ref CBadSpots) = false)
    (s_7_3 : PySem.W.subIn K (.ref CUnlikeSchemes) (.ref CBadStrip) = some false)
    (ne_7_3 : ((Value.ref CUnlikeSchemes) == Value.ref CBadStrip) = false)
    (s_7_4 : PySem.W.subIn K (.ref CUnlikeSchemes) (.ref CBadIndex) = some false)
    (ne_7_4 : ((Value.ref CUnlikeSchemes) == Value.ref CBadIndex) = false)
    (s_7_5 : PySem.W.subIn K (.ref CUnlikeSchemes) (.ref CBadPaint) = some false)
    (ne_7_5 : ((Value.ref CUnlikeSchemes) == Value.ref CBadPaint) = false)
    (s_7_6 : PySem.W.subIn K (.ref CUnlikeSchemes) (.ref CBadMask) = some false)
    (ne_7_6 : ((Value.ref CUnlikeSchemes) == Value.ref CBadMask) = false)
    (ss_7 : PySem.W.subIn K (.ref CUnlikeSchemes) (.ref CUnlikeSchemes) = some true)
    (sv_0 : PySem.W.subIn K (.ref CBadScheme) (.type "ValueError") = some true)
    (sv_1 : PySem.W.subIn K (.ref CBadColumn) (.type "ValueError") = some true)
    (sv_2 : PySem.W.subIn K (.ref CBadSpots) (.type "ValueError") = some true)
    (sv_3 : PySem.W.subIn K (.ref CBadStrip) (.type "ValueError") = some true)
    (sv_4 : PySem.W.subIn K (.ref CBadIndex) (.type "ValueError") = some true)
    (sv_5 : PySem.W.subIn K (.ref CBadPaint) (.type "ValueError") = some true)
    (sv_6 : PySem.W.subIn K (.ref CBadMask) (.type "ValueError") = some true)
    (sv_7 : PySem.W.subIn K (.ref CUnlikeSchemes) (.type "ValueError") = some true)
    (sg_0 : PySem.W.subIn K (.ref CBadScheme) (.ref CGalloonError) = some true)
    (sg_1 : PySem.W.subIn K (.ref CBadColumn) (.ref CGalloonError) = some true)
    (sg_2 : PySem.W.subIn K (.ref CBadSpots) (.ref CGalloonError) = some true)
    (sg_3 : PySem.W.subIn K (.ref CBadStrip) (.ref CGalloonError) = some true)
    (sg_4 : PySem.W.subIn K (.ref CBadIndex) (.ref CGalloonError) = some true)
    (sg_5 : PySem.W.subIn K (.ref CBadPaint) (.ref CGalloonError) = some true)
    (sg_6 : PySem.W.subIn K (.ref CBadMask) (.ref CGalloonError) = some true)
    (sg_7 : PySem.W.subIn K (.ref CUnlikeSchemes) (.ref CGalloonError) = some true)
    (ne_g_0 : ((Value.ref CBadScheme) == Value.ref CGalloonError) = false)
    (ne_g_1 : ((Value.ref CBadColumn) == Value.ref CGalloonError) = false)
    (ne_g_2 : ((Value.ref CBadSpots) == Value.ref CGalloonError) = false)
    (ne_g_3 : ((Value.ref CBadStrip) == Value.ref CGalloonError) = false)
    (ne_g_4 : ((Value.ref CBadIndex) == Value.ref CGalloonError) = false)
    (ne_g_5 : ((Value.ref CBadPaint) == Value.ref CGalloonError) = false)
    (ne_g_6 : ((Value.ref CBadMask) == Value.ref CGalloonError) = false)
    (ne_g_7 : ((Value.ref CUnlikeSchemes) == Value.ref CGalloonError) = false) :
    Txt K mg ⟨CGalloonError, CUnlikeSchemes, CBadScheme, CBadColumn, CBadSpots, CBadStrip, CBadIndex, CBadPaint, CBadMask, CScheme, CPaint⟩ :=
  { b_ValueError := PySem.W.mg_none_of X G z_ValueError
    b_abs := PySem.W.mg_none_of X G z_abs
    b_all := PySem.W.mg_none_of X G z_all
    b_bool := PySem.W.mg_none_of X G z_bool
    b_classmethod := PySem.W.mg_none_of X G z_classmethod
    b_enumerate := PySem.W.mg_none_of X G z_enumerate
    b_int := PySem.W.mg_none_of X G z_int
    b_isinstance := PySem.W.mg_none_of X G z_isinstance
    b_len := PySem.W.mg_none_of X G z_len
    b_list := PySem.W.mg_none_of X G z_list
    b_min := PySem.W.mg_none_of X G z_min
    b_ord := PySem.W.mg_none_of X G z_ord
    b_range := PySem.W.mg_none_of X G z_range
    b_set := PySem.W.mg_none_of X G z_set
    b_sorted := PySem.W.mg_none_of X G z_sorted
    b_str := PySem.W.mg_none_of X G z_str
    b_sum := PySem.W.mg_none_of X G z_sum
    b_zip := PySem.W.mg_none_of X G z_zip
    g_DIGITS := gval_of X G v_DIGITS ⟨_, rfl⟩
    g_LETTERS := gval_of X G v_LETTERS ⟨_, rfl⟩
    g_GalloonError := PySem.W.mg_of X G a_GalloonError
    z_UnlikeSchemes := ⟨PySem.W.mg_of X G a_UnlikeSchemes, xz_UnlikeSchemes, kc_UnlikeSchemes, sB_UnlikeSchemes, tc_UnlikeSchemes⟩
    x_UnlikeSchemes := errC_of ga_UnlikeSchemes gg_UnlikeSchemes sB_UnlikeSchemes hd_UnlikeSchemes ha_UnlikeSchemes i_hn i_ht hm_UnlikeSchemes ic_UnlikeSchemes
    e_BadScheme := errT_of X G a_BadScheme x_BadScheme rf_BadScheme sa_BadScheme sB_BadScheme tc_BadScheme kc_BadScheme nb_BadScheme ai_BadScheme ti_BadScheme li_BadScheme ci_BadScheme ki_BadScheme
    x_BadScheme := errC_of ga_BadScheme gg_BadScheme sB_BadScheme hd_BadScheme ha_BadScheme i_hn i_ht hm_BadScheme ic_BadScheme
    e_BadColumn := errT_of X G a_BadColumn x_BadColumn rf_BadColumn sa_BadColumn sB_BadColumn tc_BadColumn kc_BadColumn nb_BadColumn ai_BadColumn ti_BadColumn li_BadColumn ci_BadColumn ki_BadColumn
    x_BadColumn := errC_of ga_BadColumn gg_BadColumn sB_BadColumn hd_BadColumn ha_BadColumn i_hn i_ht hm_BadColumn ic_BadColumn
    e_BadSpots := errT_of X G a_BadSpots x_BadSpots rf_BadSpots sa_BadSpots sB_BadSpots tc_BadSpots kc_BadSpots nb_BadSpots ai_BadSpots ti_BadSpots li_BadSpots ci_BadSpots ki_BadSpots
    x_BadSpots := errC_of ga_BadSpots gg_BadSpots sB_BadSpots hd_BadSpots ha_BadSpots i_hn i_ht hm_BadSpots ic_BadSpots
    e_BadStrip := errT_of X G a_BadStrip x_BadStrip rf_BadStrip sa_BadStrip sB_BadStrip tc_BadStrip kc_BadStrip nb_BadStrip ai_BadStrip ti_BadStrip li_BadStrip ci_BadStrip ki_BadStrip
    x_BadStrip := errC_of ga_BadStrip gg_BadStrip sB_BadStrip hd_BadStrip ha_BadStrip i_hn i_ht hm_BadStrip ic_BadStrip
    e_BadIndex := errT_of X G a_BadIndex x_BadIndex rf_BadIndex sa_BadIndex sB_BadIndex tc_BadIndex kc_BadIndex nb_BadIndex ai_BadIndex ti_BadIndex li_BadIndex ci_BadIndex ki_BadIndex
    x_BadIndex := errC_of ga_BadIndex gg_BadIndex sB_BadIndex hd_BadIndex ha_BadIndex i_hn i_ht hm_BadIndex ic_BadIndex
    e_BadPaint := errT_of X G a_BadPaint x_BadPaint rf_BadPaint sa_BadPaint sB_BadPaint tc_BadPaint kc_BadPaint nb_BadPaint ai_BadPaint ti_BadPaint li_BadPaint ci_BadPaint ki_BadPaint
    x_BadPaint := errC_of ga_BadPaint gg_BadPaint sB_BadPaint hd_BadPaint ha_BadPaint i_hn i_ht hm_BadPaint ic_BadPaint
    e_BadMask := errT_of X G a_BadMask x_BadMask rf_BadMask sa_BadMask sB_BadMask tc_BadMask kc_BadMask nb_BadMask ai_BadMask ti_BadMask li_BadMask ci_BadMask ki_BadMask
    x_BadMask := errC_of ga_BadMask gg_BadMask sB_BadMask hd_BadMask ha_BadMask i_hn i_ht hm_BadMask ic_BadMask
    c_Scheme := clsT_of X G a_Scheme pg_Scheme hd_Scheme po_Scheme sa_Scheme mk_Scheme kc_Scheme
    m_Scheme___init__ := metT_of am_Scheme___init__ im_Scheme___init__ lm_Scheme___init__ cm_Scheme___init__ km_Scheme___init__
    m_Scheme___eq__ := metT_of am_Scheme___eq__ im_Scheme___eq__ lm_Scheme___eq__ cm_Scheme___eq__ km_Scheme___eq__
    m_Scheme___len__ := metT_of am_Scheme___len__ im_Scheme___len__ lm_Scheme___len__ cm_Scheme___len__ km_Scheme___len__
    m_Scheme_is_column := metT_of am_Scheme_is_column im_Scheme_is_column lm_Scheme_is_column cm_Scheme_is_column km_Scheme_is_column
    m_Scheme_is_colour := metT_of am_Scheme_is_colour im_Scheme_is_colour lm_Scheme_is_colour cm_Scheme_is_colour km_Scheme_is_colour
    m_Scheme_is_strip := metT_of am_Scheme_is_strip im_Scheme_is_strip lm_Scheme_is_strip cm_Scheme_is_strip km_Scheme_is_strip
    m_Scheme_check := metT_of am_Scheme_check im_Scheme_check lm_Scheme_check cm_Scheme_check km_Scheme_check
    m_Scheme_spots := metT_of am_Scheme_spots im_Scheme_spots lm_Scheme_spots cm_Scheme_spots km_Scheme_spots
    m_Scheme_column := metT_of am_Scheme_column im_Scheme_column lm_Scheme_column cm_Scheme_column km_Scheme_column
    c_Paint := clsT_of X G a_Paint pg_Paint hd_Paint po_Paint sa_Paint mk_Paint kc_Paint
    m_Paint___init__ := metT_of am_Paint___init__ im_Paint___init__ lm_Paint___init__ cm_Paint___init__ km_Paint___init__
    m_Paint_still := ⟨_, _, _, _, fun_mk (st := s_Paint_still) lm_Paint_still cm_Paint_still km_Paint_still, ⟨rS_Paint, gS_Paint⟩, ⟨cg_Paint_still, ⟨_, cr_Paint_still⟩, cf_Paint_still⟩⟩
    m_Paint_read := ⟨_, _, _, _, fun_mk (st := s_Paint_read) lm_Paint_read cm_Paint_read km_Paint_read, ⟨rS_Paint, gS_Paint⟩, ⟨cg_Paint_read, ⟨_, cr_Paint_read⟩, cf_Paint_read⟩⟩
    m_Paint___call__ := metT_of am_Paint___call__ im_Paint___call__ lm_Paint___call__ cm_Paint___call__ km_Paint___call__
    m_Paint___eq__ := metT_of am_Paint___eq__ im_Paint___eq__ lm_Paint___eq__ cm_Paint___eq__ km_Paint___eq__
    m_Paint___mul__ := metT_of am_Paint___mul__ im_Paint___mul__ lm_Paint___mul__ cm_Paint___mul__ km_Paint___mul__
    m_Paint___str__ := metT_of am_Paint___str__ im_Paint___str__ lm_Paint___str__ cm_Paint___str__ km_Paint___str__
    m_Paint_undoing := metT_of am_Paint_undoing im_Paint_undoing lm_Paint_undoing cm_Paint_undoing km_Paint_undoing
    m_Paint__painted := metT_of am_Paint__painted im_Paint__painted lm_Paint__painted cm_Paint__painted km_Paint__painted
    d_check_alike := defT_of X G ad_check_alike ld_check_alike cd_check_alike kd_check_alike
    d_map_back := defT_of X G ad_map_back ld_map_back cd_map_back kd_map_back
    d_law_box := defT_of X G ad_law_box ld_law_box cd_law_box kd_law_box
    d_law_take := defT_of X G ad_law_take ld_law_take cd_law_take kd_law_take
    d_law_spots := defT_of X G ad_law_spots ld_law_spots cd_law_spots kd_law_spots
    d_law_painted := defT_of X G ad_law_painted ld_law_painted cd_law_painted kd_law_painted
    d_law_maps := defT_of X G ad_law_maps ld_law_maps cd_law_maps kd_law_maps
    d_law_strip := defT_of X G ad_law_strip ld_law_strip cd_law_strip kd_law_strip
    d_law_other_maps := defT_of X G ad_law_other_maps ld_law_other_maps cd_law_other_maps kd_law_other_maps
    d_law_product := defT_of X G ad_law_product ld_law_product cd_law_product kd_law_product
    d_law_undone := defT_of X G ad_law_undone ld_law_undone cd_law_undone kd_law_undone
    d_law_bad_row := defT_of X G ad_law_bad_row ld_law_bad_row cd_law_bad_row kd_law_bad_row
    d_law_spoilt := defT_of X G ad_law_spoilt ld_law_spoilt cd_law_spoilt kd_law_spoilt
    d_law_refused := defT_of X G ad_law_refused ld_law_refused cd_law_refused kd_law_refused
    d_law_bad_strip := defT_of X G ad_law_bad_strip ld_law_bad_strip cd_law_bad_strip kd_law_bad_strip
    d_law_unlike := defT_of X G ad_law_unlike ld_law_unlike cd_law_unlike kd_law_unlike
    d_law_truth := defT_of X G ad_law_truth ld_law_truth cd_law_truth kd_law_truth
    d_law_is_paint := defT_of X G ad_law_is_paint ld_law_is_paint cd_law_is_paint kd_law_is_paint
    d_law_undoing_holds := defT_of X G ad_law_undoing_holds ld_law_undoing_holds cd_law_undoing_holds kd_law_undoing_holds
    d_law_refusals_hold := defT_of X G ad_law_refusals_hold ld_law_refusals_hold cd_law_refusals_hold kd_law_refusals_hold
    d_law_product_holds := defT_of X G ad_law_product_holds ld_law_product_holds cd_law_product_holds kd_law_product_holds
    d_law_still_holds := defT_of X G ad_law_still_holds ld_law_still_holds cd_law_still_holds kd_law_still_holds
    d_law_strangers_hold := defT_of X G ad_law_strangers_hold ld_law_strangers_hold cd_law_strangers_hold kd_law_strangers_hold
    d_law := defT_of X G ad_law ld_law cd_law kd_law
    n_rows := nn_rows
    n_colours := nn_colours
    n_columns := nn_columns
    n_scheme := nn_scheme
    n_maps := nn_maps
    k_MOST := ⟨_, fM, ⟨_, rfl⟩, sM, by decide +kernel⟩
    k_BLANK := ⟨_, fB, ⟨_, rfl⟩, sBl, by decide +kernel⟩
    i_hn := i_hn
    i_ht := i_ht
    i_ha := i_ha
    i_hm := i_hm
    i_own := kitS_of
    i_ni := nf_Scheme_int
    i_int := kitR_of ic_Scheme tc_Scheme s_int_Scheme rfl
    i_ns := nf_Scheme_str
    i_str := kitR_of ic_Scheme tc_Scheme s_str_Scheme rfl
    p_ha := p_ha
    p_hm := p_hm
    p_own := kitS_of
    p_ni := nf_Paint_int
    p_ns := nf_Paint_str
    p_str := kitR_of ic_Paint tc_Paint s_str_Paint rfl
    p_nl := nf_Paint_list
    p_lst := kitR_of ic_Paint tc_Paint s_list_Paint rfl
    p_sf := sf_Paint
    n_Scheme := ⟨ne_Scheme, i_hm⟩
    kk_e := kk_of ic_UnlikeSchemes tc_UnlikeSchemes ic_BadScheme tc_BadScheme ic_BadColumn tc_BadColumn ic_BadSpots tc_BadSpots ic_BadStrip tc_BadStrip ic_BadIndex tc_BadIndex ic_BadPaint tc_BadPaint ic_BadMask tc_BadMask s_0_1 ne_0_1 s_0_2 ne_0_2 s_0_3 ne_0_3 s_0_4 ne_0_4 s_0_5 ne_0_5 s_0_6 ne_0_6 s_0_7 ne_0_7 s_1_0 ne_1_0 s_1_2 ne_1_2 s_1_3 ne_1_3 s_1_4 ne_1_4 s_1_5 ne_1_5 s_1_6 ne_1_6 s_1_7 ne_1_7 s_2_0 ne_2_0 s_2_1 ne_2_1 s_2_3 ne_2_3 s_2_4 ne_2_4 s_2_5 ne_2_5 s_2_6 ne_2_6 s_2_7 ne_2_7 s_3_0 ne_3_0 s_3_1 ne_3_1 s_3_2 ne_3_2 s_3_4 ne_3_4 s_3_5 ne_3_5 s_3_6 ne_3_6 s_3_7 ne_3_7 s_4_0 ne_4_0 s_4_1 ne_4_1 s_4_2 ne_4_2 s_4_3 ne_4_3 s_4_5 ne_4_5 s_4_6 ne_4_6 s_4_7 ne_4_7 s_5_0 ne_5_0 s_5_1 ne_5_1 s_5_2 ne_5_2 s_5_3 ne_5_3 s_5_4 ne_5_4 s_5_6 ne_5_6 s_5_7 ne_5_7 s_6_0 ne_6_0 s_6_1 ne_6_1 s_6_2 ne_6_2 s_6_3 ne_6_3 s_6_4 ne_6_4 s_6_5 ne_6_5 s_6_7 ne_6_7 s_7_0 ne_7_0 s_7_1 ne_7_1 s_7_2 ne_7_2 s_7_3 ne_7_3 s_7_4 ne_7_4 s_7_5 ne_7_5 s_7_6 ne_7_6
    kv_e := kv_of sv_0 sv_1 sv_2 sv_3 sv_4 sv_5 sv_6 sv_7
    xm_e := xm_of sB_GalloonError ic_GalloonError tc_GalloonError sg_0 sg_1 sg_2 sg_3 sg_4 sg_5 sg_6 sg_7
    kg_e := kg_of ic_GalloonError tc_GalloonError sg_0 sg_1 sg_2 sg_3 sg_4 sg_5 sg_6 sg_7 ne_g_0 ne_g_1 ne_g_2 ne_g_3 ne_g_4 ne_g_5 ne_g_6 ne_g_7
    xo_e := xo_of sB_UnlikeSchemes ic_UnlikeSchemes tc_UnlikeSchemes sB_BadScheme ic_BadScheme tc_BadScheme sB_BadColumn ic_BadColumn tc_BadColumn sB_BadSpots ic_BadSpots tc_BadSpots sB_BadStrip ic_BadStrip tc_BadStrip sB_BadIndex ic_BadIndex tc_BadIndex sB_BadPaint ic_BadPaint tc_BadPaint sB_BadMask ic_BadMask tc_BadMask ss_0 s_0_1 s_0_2 s_0_3 s_0_4 s_0_5 s_0_6 s_0_7 s_1_0 ss_1 s_1_2 s_1_3 s_1_4 s_1_5 s_1_6 s_1_7 s_2_0 s_2_1 ss_2 s_2_3 s_2_4 s_2_5 s_2_6 s_2_7 s_3_0 s_3_1 s_3_2 ss_3 s_3_4 s_3_5 s_3_6 s_3_7 s_4_0 s_4_1 s_4_2 s_4_3 ss_4 s_4_5 s_4_6 s_4_7 s_5_0 s_5_1 s_5_2 s_5_3 s_5_4 ss_5 s_5_6 s_5_7 s_6_0 s_6_1 s_6_2 s_6_3 s_6_4 s_6_5 ss_6 s_6_7 s_7_0 s_7_1 s_7_2 s_7_3 s_7_4 s_7_5 s_7_6 ss_7 }
end K16

end
set_option Elab.async false
set_option maxRecDepth 100000
open PySem PySem.W PyProof.Rows
set_option maxRecDepth 100000 in
set_option maxHeartbeats 0 in
theorem PySem.Challenge.cw_galloon_k16_paints_holds : PySem.Challenge.rw_galloon_k16_paints.Holds := by
  w_on; o_law; k_head; (case hw => w_witness2)
  k_fill
  refine K16.walk (l := PySem.Challenge.rw_galloon_k16_paints) rfl rfl (fun w h Y => PySem.W.kIn_of Y) rfl ?F
  case F =>
    intro w mg h KX G
    refine' ⟨_, K16.mkTxt KX G ?a_GalloonError ?a_UnlikeSchemes ?a_BadScheme ?a_BadColumn ?a_BadSpots ?a_BadStrip ?a_BadIndex ?a_BadPaint ?a_BadMask ?a_Scheme ?a_Paint ?z_ValueError ?z_abs ?z_all ?z_bool ?z_classmethod ?z_enumerate ?z_int ?z_isinstance ?z_len ?z_list ?z_min ?z_ord ?z_range ?z_set ?z_sorted ?z_str ?z_sum ?z_zip ?v_DIGITS ?v_LETTERS ?sB_GalloonError ?ic_GalloonError ?tc_GalloonError ?sB_UnlikeSchemes ?ic_UnlikeSchemes ?tc_UnlikeSchemes ?sB_BadScheme ?ic_BadScheme ?tc_BadScheme ?sB_BadColumn ?ic_BadColumn ?tc_BadColumn ?sB_BadSpots ?ic_BadSpots ?tc_BadSpots ?sB_BadStrip ?ic_BadStrip ?tc_BadStrip ?sB_BadIndex ?ic_BadIndex ?tc_BadIndex ?sB_BadPaint ?ic_BadPaint ?tc_BadPaint ?sB_BadMask ?ic_BadMask ?tc_BadMask ?ic_Scheme ?tc_Scheme ?ic_Paint ?tc_Paint ?xz_UnlikeSchemes ?kc_UnlikeSchemes ?ga_UnlikeSchemes ?gg_UnlikeSchemes ?hd_UnlikeSchemes ?ha_UnlikeSchemes ?hm_UnlikeSchemes ?x_BadScheme ?rf_BadScheme ?sa_BadScheme ?kc_BadScheme ?nb_BadScheme ?ai_BadScheme ?ti_BadScheme ?li_BadScheme ?ci_BadScheme ?ki_BadScheme ?ga_BadScheme ?gg_BadScheme ?hd_BadScheme ?ha_BadScheme ?hm_BadScheme ?x_BadColumn ?rf_BadColumn ?sa_BadColumn ?kc_BadColumn ?nb_BadColumn ?ai_BadColumn ?ti_BadColumn ?li_BadColumn ?ci_BadColumn ?ki_BadColumn ?ga_BadColumn ?gg_BadColumn ?hd_BadColumn ?ha_BadColumn ?hm_BadColumn ?x_BadSpots ?rf_BadSpots ?sa_BadSpots ?kc_BadSpots ?nb_BadSpots ?ai_BadSpots ?ti_BadSpots ?li_BadSpots ?ci_BadSpots ?ki_BadSpots ?ga_BadSpots ?gg_BadSpots ?hd_BadSpots ?ha_BadSpots ?hm_BadSpots ?x_BadStrip ?rf_BadStrip ?sa_BadStrip ?kc_BadStrip ?nb_BadStrip ?ai_BadStrip ?ti_BadStrip ?li_BadStrip ?ci_BadStrip ?ki_BadStrip ?ga_BadStrip ?gg_BadStrip ?hd_BadStrip ?ha_BadStrip ?hm_BadStrip ?x_BadIndex ?rf_BadIndex ?sa_BadIndex ?kc_BadIndex ?nb_BadIndex ?ai_BadIndex ?ti_BadIndex ?li_BadIndex ?ci_BadIndex ?ki_BadIndex ?ga_BadIndex ?gg_BadIndex ?hd_BadIndex ?ha_BadIndex ?hm_BadIndex ?x_BadPaint ?rf_BadPaint ?sa_BadPaint ?kc_BadPaint ?nb_BadPaint ?ai_BadPaint ?ti_BadPaint ?li_BadPaint ?ci_BadPaint ?ki_BadPaint ?ga_BadPaint ?gg_BadPaint ?hd_BadPaint ?ha_BadPaint ?hm_BadPaint ?x_BadMask ?rf_BadMask ?sa_BadMask ?kc_BadMask ?nb_BadMask ?ai_BadMask ?ti_BadMask ?li_BadMask ?ci_BadMask ?ki_BadMask ?ga_BadMask ?gg_BadMask ?hd_BadMask ?ha_BadMask ?hm_BadMask ?pg_Scheme ?hd_Scheme ?po_Scheme ?sa_Scheme ?mk_Scheme ?kc_Scheme ?am_Scheme___init__ ?im_Scheme___init__ ?lm_Scheme___init__ ?cm_Scheme___init__ ?km_Scheme___init__ ?am_Scheme___eq__ ?im_Scheme___eq__ ?lm_Scheme___eq__ ?cm_Scheme___eq__ ?km_Scheme___eq__ ?am_Scheme___len__ ?im_Scheme___len__ ?lm_Scheme___len__ ?cm_Scheme___len__ ?km_Scheme___len__ ?am_Scheme_is_column ?im_Scheme_is_column ?lm_Scheme_is_column ?cm_Scheme_is_column ?km_Scheme_is_column ?am_Scheme_is_colour ?im_Scheme_is_colour ?lm_Scheme_is_colour ?cm_Scheme_is_colour ?km_Scheme_is_colour ?am_Scheme_is_strip ?im_Scheme_is_strip ?lm_Scheme_is_strip ?cm_Scheme_is_strip ?km_Scheme_is_strip ?am_Scheme_check ?im_Scheme_check ?lm_Scheme_check ?cm_Scheme_check ?km_Scheme_check ?am_Scheme_spots ?im_Scheme_spots ?lm_Scheme_spots ?cm_Scheme_spots ?km_Scheme_spots ?am_Scheme_column ?im_Scheme_column ?lm_Scheme_column ?cm_Scheme_column ?km_Scheme_column ?pg_Paint ?hd_Paint ?po_Paint ?sa_Paint ?mk_Paint ?kc_Paint ?am_Paint___init__ ?im_Paint___init__ ?lm_Paint___init__ ?cm_Paint___init__ ?km_Paint___init__ ?cg_Paint_still ?cr_Paint_still ?cf_Paint_still ?lm_Paint_still ?cm_Paint_still ?km_Paint_still ?cg_Paint_read ?cr_Paint_read ?cf_Paint_read ?lm_Paint_read ?cm_Paint_read ?km_Paint_read ?am_Paint___call__ ?im_Paint___call__ ?lm_Paint___call__ ?cm_Paint___call__ ?km_Paint___call__ ?am_Paint___eq__ ?im_Paint___eq__ ?lm_Paint___eq__ ?cm_Paint___eq__ ?km_Paint___eq__ ?am_Paint___mul__ ?im_Paint___mul__ ?lm_Paint___mul__ ?cm_Paint___mul__ ?km_Paint___mul__ ?am_Paint___str__ ?im_Paint___str__ ?lm_Paint___str__ ?cm_Paint___str__ ?km_Paint___str__ ?am_Paint_undoing ?im_Paint_undoing ?lm_Paint_undoing ?cm_Paint_undoing ?km_Paint_undoing ?am_Paint__painted ?im_Paint__painted ?lm_Paint__painted ?cm_Paint__painted ?km_Paint__painted ?ad_check_alike ?ld_check_alike ?cd_check_alike ?kd_check_alike ?ad_map_back ?ld_map_back ?cd_map_back ?kd_map_back ?ad_law_box ?ld_law_box ?cd_law_box ?kd_law_box ?ad_law_take ?ld_law_take ?cd_law_take ?kd_law_take ?ad_law_spots ?ld_law_spots ?cd_law_spots ?kd_law_spots ?ad_law_painted ?ld_law_painted ?cd_law_painted ?kd_law_painted ?ad_law_maps ?ld_law_maps ?cd_law_maps ?kd_law_maps ?ad_law_strip ?ld_law_strip ?cd_law_strip ?kd_law_strip ?ad_law_other_maps ?ld_law_other_maps ?cd_law_other_maps ?kd_law_other_maps ?ad_law_product ?ld_law_product ?cd_law_product ?kd_law_product ?ad_law_undone ?ld_law_undone ?cd_law_undone ?kd_law_undone ?ad_law_bad_row ?ld_law_bad_row ?cd_law_bad_row ?kd_law_bad_row ?ad_law_spoilt ?ld_law_spoilt ?cd_law_spoilt ?kd_law_spoilt ?ad_law_refused ?ld_law_refused ?cd_law_refused ?kd_law_refused ?ad_law_bad_strip ?ld_law_bad_strip ?cd_law_bad_strip ?kd_law_bad_strip ?ad_law_unlike ?ld_law_unlike ?cd_law_unlike ?kd_law_unlike ?ad_law_truth ?ld_law_truth ?cd_law_truth ?kd_law_truth ?ad_law_is_paint ?ld_law_is_paint ?cd_law_is_paint ?kd_law_is_paint ?ad_law_undoing_holds ?ld_law_undoing_holds ?cd_law_undoing_holds ?kd_law_undoing_holds ?ad_law_refusals_hold ?ld_law_refusals_hold ?cd_law_refusals_hold ?kd_law_refusals_hold ?ad_law_product_holds ?ld_law_product_holds ?cd_law_product_holds ?kd_law_product_holds ?ad_law_still_holds ?ld_law_still_holds ?cd_law_still_holds ?kd_law_still_holds ?ad_law_strangers_hold ?ld_law_strangers_hold ?cd_law_strangers_hold ?kd_law_strangers_hold ?ad_law ?ld_law ?cd_law ?kd_law ?nn_rows ?nn_colours ?nn_columns ?nn_scheme ?nn_maps ?fM ?sM ?fB ?sBl ?rS_Paint ?gS_Paint ?i_hn ?i_ht ?i_ha ?i_hm ?nf_Scheme_int ?s_int_Scheme ?nf_Scheme_str ?s_str_Scheme ?p_ha ?p_hm ?nf_Paint_int ?nf_Paint_str ?s_str_Paint ?nf_Paint_list ?s_list_Paint ?sf_Paint ?ne_Scheme ?ss_0 ?s_0_1 ?ne_0_1 ?s_0_2 ?ne_0_2 ?s_0_3 ?ne_0_3 ?s_0_4 ?ne_0_4 ?s_0_5 ?ne_0_5 ?s_0_6 ?ne_0_6 ?s_0_7 ?ne_0_7 ?s_1_0 ?ne_1_0 ?ss_1 ?s_1_2 ?ne_1_2 ?s_1_3 ?ne_1_3 ?s_1_4 ?ne_1_4 ?s_1_5 ?ne_1_5 ?s_1_6 ?ne_1_6 ?s_1_7 ?ne_1_7 ?s_2_0 ?ne_2_0 ?s_2_1 ?ne_2_1 ?ss_2 ?s_2_3 ?ne_2_3 ?s_2_4 ?ne_2_4 ?s_2_5 ?ne_2_5 ?s_2_6 ?ne_2_6 ?s_2_7 ?ne_2_7 ?s_3_0 ?ne_3_0 ?s_3_1 ?ne_3_1 ?s_3_2 ?ne_3_2 ?ss_3 ?s_3_4 ?ne_3_4 ?s_3_5 ?ne_3_5 ?s_3_6 ?ne_3_6 ?s_3_7 ?ne_3_7 ?s_4_0 ?ne_4_0 ?s_4_1 ?ne_4_1 ?s_4_2 ?ne_4_2 ?s_4_3 ?ne_4_3 ?ss_4 ?s_4_5 ?ne_4_5 ?s_4_6 ?ne_4_6 ?s_4_7 ?ne_4_7 ?s_5_0 ?ne_5_0 ?s_5_1 ?ne_5_1 ?s_5_2 ?ne_5_2 ?s_5_3 ?ne_5_3 ?s_5_4 ?ne_5_4 ?ss_5 ?s_5_6 ?ne_5_6 ?s_5_7 ?ne_5_7 ?s_6_0 ?ne_6_0 ?s_6_1 ?ne_6_1 ?s_6_2 ?ne_6_2 ?s_6_3 ?ne_6_3 ?s_6_4 ?ne_6_4 ?s_6_5 ?ne_6_5 ?ss_6 ?s_6_7 ?ne_6_7 ?s_7_0 ?ne_7_0 ?s_7_1 ?ne_7_1 ?s_7_2 ?ne_7_2 ?s_7_3 ?ne_7_3 ?s_7_4 ?ne_7_4 ?s_7_5 ?ne_7_5 ?s_7_6 ?ne_7_6 ?ss_7 ?sv_0 ?sv_1 ?sv_2 ?sv_3 ?sv_4 ?sv_5 ?sv_6 ?sv_7 ?sg_0 ?sg_1 ?sg_2 ?sg_3 ?sg_4 ?sg_5 ?sg_6 ?sg_7 ?ne_g_0 ?ne_g_1 ?ne_g_2 ?ne_g_3 ?ne_g_4 ?ne_g_5 ?ne_g_6 ?ne_g_7⟩
    (case a_GalloonError => k_is)
    (case a_UnlikeSchemes => k_is)
    (case a_BadScheme => k_is)
    (case a_BadColumn => k_is)
    (case a_BadSpots => k_is)
    (case a_BadStrip => k_is)
    (case a_BadIndex => k_is)
    (case a_BadPaint => k_is)
    (case a_BadMask => k_is)
    (case a_Scheme => k_is)
    (case a_Paint => k_is)
    (case z_ValueError => k_is)
    (case z_abs => k_is)
    (case z_all => k_is)
    (case z_bool => k_is)
    (case z_classmethod => k_is)
    (case z_enumerate => k_is)
    (case z_int => k_is)
    (case z_isinstance => k_is)
    (case z_len => k_is)
    (case z_list => k_is)
    (case z_min => k_is)
    (case z_ord => k_is)
    (case z_range => k_is)
    (case z_set => k_is)
    (case z_sorted => k_is)
    (case z_str => k_is)
    (case z_sum => k_is)
    (case z_zip => k_is)
    (case v_DIGITS => k_is)
    (case v_LETTERS => k_is)
    (case sB_GalloonError => k_is)
    (case ic_GalloonError => k_is)
    (case tc_GalloonError => k_is)
    (case sB_UnlikeSchemes => k_is)
    (case ic_UnlikeSchemes => k_is)
    (case tc_UnlikeSchemes => k_is)
    (case sB_BadScheme => k_is)
    (case ic_BadScheme => k_is)
    (case tc_BadScheme => k_is)
    (case sB_BadColumn => k_is)
    (case ic_BadColumn => k_is)
    (case tc_BadColumn => k_is)
    (case sB_BadSpots => k_is)
    (case ic_BadSpots => k_is)
    (case tc_BadSpots => k_is)
    (case sB_BadStrip => k_is)
    (case ic_BadStrip => k_is)
    (case tc_BadStrip => k_is)
    (case sB_BadIndex => k_is)
    (case ic_BadIndex => k_is)
    (case tc_BadIndex => k_is)
    (case sB_BadPaint => k_is)
    (case ic_BadPaint => k_is)
    (case tc_BadPaint => k_is)
    (case sB_BadMask => k_is)
    (case ic_BadMask => k_is)
    (case tc_BadMask => k_is)
    (case ic_Scheme => k_is)
    (case tc_Scheme => k_is)
    (case ic_Paint => k_is)
    (case tc_Paint => k_is)
    (case xz_UnlikeSchemes => k_exc)
    (case kc_UnlikeSchemes => k_is)
    (case ga_UnlikeSchemes => k_is)
    (case gg_UnlikeSchemes => k_is)
    (case hd_UnlikeSchemes => k_is)
    (case ha_UnlikeSchemes => k_is)
    (case hm_UnlikeSchemes => k_is)
    (case x_BadScheme => k_is)
    (case rf_BadScheme => decide +kernel)
    (case sa_BadScheme => k_is)
    (case kc_BadScheme => k_is)
    (case nb_BadScheme => k_is)
    (case ai_BadScheme => k_is)
    (case ti_BadScheme => k_is)
    (case li_BadScheme => k_is)
    (case ci_BadScheme => k_is)
    (case ki_BadScheme => k_is)
    (case ga_BadScheme => k_is)
    (case gg_BadScheme => k_is)
    (case hd_BadScheme => k_is)
    (case ha_BadScheme => k_is)
    (case hm_BadScheme => k_is)
    (case x_BadColumn => k_is)
    (case rf_BadColumn => decide +kernel)
    (case sa_BadColumn => k_is)
    (case kc_BadColumn => k_is)
    (case nb_BadColumn => k_is)
    (case ai_BadColumn => k_is)
    (case ti_BadColumn => k_is)
    (case li_BadColumn => k_is)
    (case ci_BadColumn => k_is)
    (case ki_BadColumn => k_is)
    (case ga_BadColumn => k_is)
    (case gg_BadColumn => k_is)
    (case hd_BadColumn => k_is)
    (case ha_BadColumn => k_is)
    (case hm_BadColumn => k_is)
    (case x_BadSpots => k_is)
    (case rf_BadSpots => decide +kernel)
    (case sa_BadSpots => k_is)
    (case kc_BadSpots => k_is)
    (case nb_BadSpots => k_is)
    (case ai_BadSpots => k_is)
    (case ti_BadSpots => k_is)
    (case li_BadSpots => k_is)
    (case ci_BadSpots => k_is)
    (case ki_BadSpots => k_is)
    (case ga_BadSpots => k_is)
    (case gg_BadSpots => k_is)
    (case hd_BadSpots => k_is)
    (case ha_BadSpots => k_is)
    (case hm_BadSpots => k_is)
    (case x_BadStrip => k_is)
    (case rf_BadStrip => decide +kernel)
    (case sa_BadStrip => k_is)
    (case kc_BadStrip => k_is)
    (case nb_BadStrip => k_is)
    (case ai_BadStrip => k_is)
    (case ti_BadStrip => k_is)
    (case li_BadStrip => k_is)
    (case ci_BadStrip => k_is)
    (case ki_BadStrip => k_is)
    (case ga_BadStrip => k_is)
    (case gg_BadStrip => k_is)
    (case hd_BadStrip => k_is)
    (case ha_BadStrip => k_is)
    (case hm_BadStrip => k_is)
    (case x_BadIndex => k_is)
    (case rf_BadIndex => decide +kernel)
    (case sa_BadIndex => k_is)
    (case kc_BadIndex => k_is)
    (case nb_BadIndex => k_is)
    (case ai_BadIndex => k_is)
    (case ti_BadIndex => k_is)
    (case li_BadIndex => k_is)
    (case ci_BadIndex => k_is)
    (case ki_BadIndex => k_is)
    (case ga_BadIndex => k_is)
    (case gg_BadIndex => k_is)
    (case hd_BadIndex => k_is)
    (case ha_BadIndex => k_is)
    (case hm_BadIndex => k_is)
    (case x_BadPaint => k_is)
    (case rf_BadPaint => decide +kernel)
    (case sa_BadPaint => k_is)
    (case kc_BadPaint => k_is)
    (case nb_BadPaint => k_is)
    (case ai_BadPaint => k_is)
    (case ti_BadPaint => k_is)
    (case li_BadPaint => k_is)
    (case ci_BadPaint => k_is)
    (case ki_BadPaint => k_is)
    (case ga_BadPaint => k_is)
    (case gg_BadPaint => k_is)
    (case hd_BadPaint => k_is)
    (case ha_BadPaint => k_is)
    (case hm_BadPaint => k_is)
    (case x_BadMask => k_is)
    (case rf_BadMask => decide +kernel)
    (case sa_BadMask => k_is)
    (case kc_BadMask => k_is)
    (case nb_BadMask => k_is)
    (case ai_BadMask => k_is)
    (case ti_BadMask => k_is)
    (case li_BadMask => k_is)
    (case ci_BadMask => k_is)
    (case ki_BadMask => k_is)
    (case ga_BadMask => k_is)
    (case gg_BadMask => k_is)
    (case hd_BadMask => k_is)
    (case ha_BadMask => k_is)
    (case hm_BadMask => k_is)
    (case pg_Scheme => k_is)
    (case hd_Scheme => k_is)
    (case po_Scheme => k_is)
    (case sa_Scheme => k_is)
    (case mk_Scheme => k_is)
    (case kc_Scheme => k_is)
    (case am_Scheme___init__ => k_is)
    (case im_Scheme___init__ => k_is)
    (case lm_Scheme___init__ => k_is)
    (case cm_Scheme___init__ => k_is)
    (case km_Scheme___init__ => k_is)
    (case am_Scheme___eq__ => k_is)
    (case im_Scheme___eq__ => k_is)
    (case lm_Scheme___eq__ => k_is)
    (case cm_Scheme___eq__ => k_is)
    (case km_Scheme___eq__ => k_is)
    (case am_Scheme___len__ => k_is)
    (case im_Scheme___len__ => k_is)
    (case lm_Scheme___len__ => k_is)
    (case cm_Scheme___len__ => k_is)
    (case km_Scheme___len__ => k_is)
    (case am_Scheme_is_column => k_is)
    (case im_Scheme_is_column => k_is)
    (case lm_Scheme_is_column => k_is)
    (case cm_Scheme_is_column => k_is)
    (case km_Scheme_is_column => k_is)
    (case am_Scheme_is_colour => k_is)
    (case im_Scheme_is_colour => k_is)
    (case lm_Scheme_is_colour => k_is)
    (case cm_Scheme_is_colour => k_is)
    (case km_Scheme_is_colour => k_is)
    (case am_Scheme_is_strip => k_is)
    (case im_Scheme_is_strip => k_is)
    (case lm_Scheme_is_strip => k_is)
    (case cm_Scheme_is_strip => k_is)
    (case km_Scheme_is_strip => k_is)
    (case am_Scheme_check => k_is)
    (case im_Scheme_check => k_is)
    (case lm_Scheme_check => k_is)
    (case cm_Scheme_check => k_is)
    (case km_Scheme_check => k_is)
    (case am_Scheme_spots => k_is)
    (case im_Scheme_spots => k_is)
    (case lm_Scheme_spots => k_is)
    (case cm_Scheme_spots => k_is)
    (case km_Scheme_spots => k_is)
    (case am_Scheme_column => k_is)
    (case im_Scheme_column => k_is)
    (case lm_Scheme_column => k_is)
    (case cm_Scheme_column => k_is)
    (case km_Scheme_column => k_is)
    (case pg_Paint => k_is)
    (case hd_Paint => k_is)
    (case po_Paint => k_is)
    (case sa_Paint => k_is)
    (case mk_Paint => k_is)
    (case kc_Paint => k_is)
    (case am_Paint___init__ => k_is)
    (case im_Paint___init__ => k_is)
    (case lm_Paint___init__ => k_is)
    (case cm_Paint___init__ => k_is)
    (case km_Paint___init__ => k_is)
    (case cg_Paint_still => k_is)
    (case cr_Paint_still => k_is)
    (case cf_Paint_still => k_is)
    (case lm_Paint_still => k_is)
    (case cm_Paint_still => k_is)
    (case km_Paint_still => k_is)
    (case cg_Paint_read => k_is)
    (case cr_Paint_read => k_is)
    (case cf_Paint_read => k_is)
    (case lm_Paint_read => k_is)
    (case cm_Paint_read => k_is)
    (case km_Paint_read => k_is)
    (case am_Paint___call__ => k_is)
    (case im_Paint___call__ => k_is)
    (case lm_Paint___call__ => k_is)
    (case cm_Paint___call__ => k_is)
    (case km_Paint___call__ => k_is)
    (case am_Paint___eq__ => k_is)
    (case im_Paint___eq__ => k_is)
    (case lm_Paint___eq__ => k_is)
    (case cm_Paint___eq__ => k_is)
    (case km_Paint___eq__ => k_is)
    (case am_Paint___mul__ => k_is)
    (case im_Paint___mul__ => k_is)
    (case lm_Paint___mul__ => k_is)
    (case cm_Paint___mul__ => k_is)
    (case km_Paint___mul__ => k_is)
    (case am_Paint___str__ => k_is)
    (case im_Paint___str__ => k_is)
    (case lm_Paint___str__ => k_is)
    (case cm_Paint___str__ => k_is)
    (case km_Paint___str__ => k_is)
    (case am_Paint_undoing => k_is)
    (case im_Paint_undoing => k_is)
    (case lm_Paint_undoing => k_is)
    (case cm_Paint_undoing => k_is)
    (case km_Paint_undoing => k_is)
    (case am_Paint__painted => k_is)
    (case im_Paint__painted => k_is)
    (case lm_Paint__painted => k_is)
    (case cm_Paint__painted => k_is)
    (case km_Paint__painted => k_is)
    (case ad_check_alike => k_is)
    (case ld_check_alike => k_is)
    (case cd_check_alike => k_is)
    (case kd_check_alike => k_is)
    (case ad_map_back => k_is)
    (case ld_map_back => k_is)
    (case cd_map_back => k_is)
    (case kd_map_back => k_is)
    (case ad_law_box => k_is)
    (case ld_law_box => k_is)
    (case cd_law_box => k_is)
    (case kd_law_box => k_is)
    (case ad_law_take => k_is)
    (case ld_law_take => k_is)
    (case cd_law_take => k_is)
    (case kd_law_take => k_is)
    (case ad_law_spots => k_is)
    (case ld_law_spots => k_is)
    (case cd_law_spots => k_is)
    (case kd_law_spots => k_is)
    (case ad_law_painted => k_is)
    (case ld_law_painted => k_is)
    (case cd_law_painted => k_is)
    (case kd_law_painted => k_is)
    (case ad_law_maps => k_is)
    (case ld_law_maps => k_is)
    (case cd_law_maps => k_is)
    (case kd_law_maps => k_is)
    (case ad_law_strip => k_is)
    (case ld_law_strip => k_is)
    (case cd_law_strip => k_is)
    (case kd_law_strip => k_is)
    (case ad_law_other_maps => k_is)
    (case ld_law_other_maps => k_is)
    (case cd_law_other_maps => k_is)
    (case kd_law_other_maps => k_is)
    (case ad_law_product => k_is)
    (case ld_law_product => k_is)
    (case cd_law_product => k_is)
    (case kd_law_product => k_is)
    (case ad_law_undone => k_is)
    (case ld_law_undone => k_is)
    (case cd_law_undone => k_is)
    (case kd_law_undone => k_is)
    (case ad_law_bad_row => k_is)
    (case ld_law_bad_row => k_is)
    (case cd_law_bad_row => k_is)
    (case kd_law_bad_row => k_is)
    (case ad_law_spoilt => k_is)
    (case ld_law_spoilt => k_is)
    (case cd_law_spoilt => k_is)
    (case kd_law_spoilt => k_is)
    (case ad_law_refused => k_is)
    (case ld_law_refused => k_is)
    (case cd_law_refused => k_is)
    (case kd_law_refused => k_is)
    (case ad_law_bad_strip => k_is)
    (case ld_law_bad_strip => k_is)
    (case cd_law_bad_strip => k_is)
    (case kd_law_bad_strip => k_is)
    (case ad_law_unlike => k_is)
    (case ld_law_unlike => k_is)
    (case cd_law_unlike => k_is)
    (case kd_law_unlike => k_is)
    (case ad_law_truth => k_is)
    (case ld_law_truth => k_is)
    (case cd_law_truth => k_is)
    (case kd_law_truth => k_is)
    (case ad_law_is_paint => k_is)
    (case ld_law_is_paint => k_is)
    (case cd_law_is_paint => k_is)
    (case kd_law_is_paint => k_is)
    (case ad_law_undoing_holds => k_is)
    (case ld_law_undoing_holds => k_is)
    (case cd_law_undoing_holds => k_is)
    (case kd_law_undoing_holds => k_is)
    (case ad_law_refusals_hold => k_is)
    (case ld_law_refusals_hold => k_is)
    (case cd_law_refusals_hold => k_is)
    (case kd_law_refusals_hold => k_is)
    (case ad_law_product_holds => k_is)
    (case ld_law_product_holds => k_is)
    (case cd_law_product_holds => k_is)
    (case kd_law_product_holds => k_is)
    (case ad_law_still_holds => k_is)
    (case ld_law_still_holds => k_is)
    (case cd_law_still_holds => k_is)
    (case kd_law_still_holds => k_is)
    (case ad_law_strangers_hold => k_is)
    (case ld_law_strangers_hold => k_is)
    (case cd_law_strangers_hold => k_is)
    (case kd_law_strangers_hold => k_is)
    (case ad_law => k_is)
    (case ld_law => k_is)
    (case cd_law => k_is)
    (case kd_law => k_is)
    (case nn_rows => k_is)
    (case nn_colours => k_is)
    (case nn_columns => k_is)
    (case nn_scheme => k_is)
    (case nn_maps => k_is)
    (case fM => k_is)
    (case sM => k_is)
    (case fB => k_is)
    (case sBl => k_is)
    (case rS_Paint => k_is)
    (case gS_Paint => k_is)
    (case i_hn => k_is)
    (case i_ht => k_is)
    (case i_ha => k_is)
    (case i_hm => k_is)
    (case nf_Scheme_int => k_is)
    (case s_int_Scheme => k_is)
    (case nf_Scheme_str => k_is)
    (case s_str_Scheme => k_is)
    (case p_ha => k_is)
    (case p_hm => k_is)
    (case nf_Paint_int => k_is)
    (case nf_Paint_str => k_is)
    (case s_str_Paint => k_is)
    (case nf_Paint_list => k_is)
    (case s_list_Paint => k_is)
    (case sf_Paint => k_is)
    (case ne_Scheme => k_is)
    (case ss_0 => k_is)
    (case s_0_1 => k_is)
    (case ne_0_1 => first | rfl | decide)
    (case s_0_2 => k_is)
    (case ne_0_2 => first | rfl | decide)
    (case s_0_3 => k_is)
    (case ne_0_3 => first | rfl | decide)
    (case s_0_4 => k_is)
    (case ne_0_4 => first | rfl | decide)
    (case s_0_5 => k_is)
    (case ne_0_5 => first | rfl | decide)
    (case s_0_6 => k_is)
    (case ne_0_6 => first | rfl | decide)
    (case s_0_7 => k_is)
    (case ne_0_7 => first | rfl | decide)
    (case s_1_0 => k_is)
    (case ne_1_0 => first | rfl | decide)
    (case ss_1 => k_is)
    (case s_1_2 => k_is)
    (case ne_1_2 => first | rfl | decide)
    (case s_1_3 => k_is)
    (case ne_1_3 => first | rfl | decide)
    (case s_1_4 => k_is)
    (case ne_1_4 => first | rfl | decide)
    (case s_1_5 => k_is)
    (case ne_1_5 => first | rfl | decide)
    (case s_1_6 => k_is)
    (case ne_1_6 => first | rfl | decide)
    (case s_1_7 => k_is)
    (case ne_1_7 => first | rfl | decide)
    (case s_2_0 => k_is)
    (case ne_2_0 => first | rfl | decide)
    (case s_2_1 => k_is)
    (case ne_2_1 => first | rfl | decide)
    (case ss_2 => k_is)
    (case s_2_3 => k_is)
    (case ne_2_3 => first | rfl | decide)
    (case s_2_4 => k_is)
    (case ne_2_4 => first | rfl | decide)
    (case s_2_5 => k_is)
    (case ne_2_5 => first | rfl | decide)
    (case s_2_6 => k_is)
    (case ne_2_6 => first | rfl | decide)
    (case s_2_7 => k_is)
    (case ne_2_7 => first | rfl | decide)
    (case s_3_0 => k_is)
    (case ne_3_0 => first | rfl | decide)
    (case s_3_1 => k_is)
    (case ne_3_1 => first | rfl | decide)
    (case s_3_2 => k_is)
    (case ne_3_2 => first | rfl | decide)
    (case ss_3 => k_is)
    (case s_3_4 => k_is)
    (case ne_3_4 => first | rfl | decide)
    (case s_3_5 => k_is)
    (case ne_3_5 => first | rfl | decide)
    (case s_3_6 => k_is)
    (case ne_3_6 => first | rfl | decide)
    (case s_3_7 => k_is)
    (case ne_3_7 => first | rfl | decide)
    (case s_4_0 => k_is)
    (case ne_4_0 => first | rfl | decide)
    (case s_4_1 => k_is)
    (case ne_4_1 => first | rfl | decide)
    (case s_4_2 => k_is)
    (case ne_4_2 => first | rfl | decide)
    (case s_4_3 => k_is)
    (case ne_4_3 => first | rfl | decide)
    (case ss_4 => k_is)
    (case s_4_5 => k_is)
    (case ne_4_5 => first | rfl | decide)
    (case s_4_6 => k_is)
    (case ne_4_6 => first | rfl | decide)
    (case s_4_7 => k_is)
    (case ne_4_7 => first | rfl | decide)
    (case s_5_0 => k_is)
    (case ne_5_0 => first | rfl | decide)
    (case s_5_1 => k_is)
    (case ne_5_1 => first | rfl | decide)
    (case s_5_2 => k_is)
    (case ne_5_2 => first | rfl | decide)
    (case s_5_3 => k_is)
    (case ne_5_3 => first | rfl | decide)
    (case s_5_4 => k_is)
    (case ne_5_4 => first | rfl | decide)
    (case ss_5 => k_is)
    (case s_5_6 => k_is)
    (case ne_5_6 => first | rfl | decide)
    (case s_5_7 => k_is)
    (case ne_5_7 => first | rfl | decide)
    (case s_6_0 => k_is)
    (case ne_6_0 => first | rfl | decide)
    (case s_6_1 => k_is)
    (case ne_6_1 => first | rfl | decide)
    (case s_6_2 => k_is)
    (case ne_6_2 => first | rfl | decide)
    (case s_6_3 => k_is)
    (case ne_6_3 => first | rfl | decide)
    (case s_6_4 => k_is)
    (case ne_6_4 => first | rfl | decide)
    (case s_6_5 => k_is)
    (case ne_6_5 => first | rfl | decide)
    (case ss_6 => k_is)
    (case s_6_7 => k_is)
    (case ne_6_7 => first | rfl | decide)
    (case s_7_0 => k_is)
    (case ne_7_0 => first | rfl | decide)
    (case s_7_1 => k_is)
    (case ne_7_1 => first | rfl | decide)
    (case s_7_2 => k_is)
    (case ne_7_2 => first | rfl | decide)
    (case s_7_3 => k_is)
    (case ne_7_3 => first | rfl | decide)
    (case s_7_4 => k_is)
    (case ne_7_4 => first | rfl | decide)
    (case s_7_5 => k_is)
    (case ne_7_5 => first | rfl | decide)
    (case s_7_6 => k_is)
    (case ne_7_6 => first | rfl | decide)
    (case ss_7 => k_is)
    (case sv_0 => k_is)
    (case sv_1 => k_is)
    (case sv_2 => k_is)
    (case sv_3 => k_is)
    (case sv_4 => k_is)
    (case sv_5 => k_is)
    (case sv_6 => k_is)
    (case sv_7 => k_is)
    (case sg_0 => k_is)
    (case sg_1 => k_is)
    (case sg_2 => k_is)
    (case sg_3 => k_is)
    (case sg_4 => k_is)
    (case sg_5 => k_is)
    (case sg_6 => k_is)
    (case sg_7 => k_is)
    (case ne_g_0 => first | rfl | decide)
    (case ne_g_1 => first | rfl | decide)
    (case ne_g_2 => first | rfl | decide)
    (case ne_g_3 => first | rfl | decide)
    (case ne_g_4 => first | rfl | decide)
    (case ne_g_5 => first | rfl | decide)
    (case ne_g_6 => first | rfl | decide)
    (case ne_g_7 => first | rfl | decide)

