import PyProof.Rows.All
import Wide.All
import OpenK.AllK
import Wide.FinOn
import HandS.ForMost
import HandS.Exc
import HandS.TryOnly
import HandS.ExcOwn
import HandS.WordsExc
import HandS.ExcInit
import HandS.ExcField
import HandS.ExcIs
import HandS.HotCalls
import HandS.IsInst
import HandS.ClsMeth
import HandS.More
import KE.KExcIs
import HandS.StrMore
import HandS.Walk
import HandS.Codes
import KE.GoesEnumKw
import KE.GoesMore
import PyProof.ListStr
import KE.DataEq
import PySem.Challenge.RW_galloon_k00_columns_and_pictures
set_option Elab.async false
set_option linter.all false
set_option maxRecDepth 100000
section
set_option Elab.async false
set_option maxRecDepth 100000
set_option maxHeartbeats 4000000
namespace Kit
open PySem PySem.Spec PyProof.Rows L2
abbrev St := L2.St

/-! ### defs as they stand in the text, and what they promise -/
structure DefT (K : PySem.W.Frag) (mg : Str → Option Value) (x : Str) (st : Stmt) : Prop where
  ex : ∃ (f : Addr) (fd : FuncData), Fun K x x st f fd ∧ mg x = some (.ref f)
structure MetT (K : PySem.W.Frag) (C : Addr) (m q : Str) (st : Stmt) : Prop where
  ex : ∃ (f : Addr) (fd : FuncData), Fun K m q st f fd ∧ Meth K C m f
structure ClsT (K : PySem.W.Frag) (mg : Str → Option Value) (C : Addr) (x : Str) : Prop where
  cl : Cls K C
  gC : mg x = some (.ref C)
  mak : PySem.W.makesIn K C = true
  kp : PySem.W.keepIn K (.ref C) = true
section
variable (P : Program) (w : World) (K : PySem.W.Frag) (mg : Str → Option Value) (base : Heap)
structure Can (k : Nat) (x : Str) (sp : Sp) : Prop where
  ex : ∃ (f : Addr) (fd : FuncData) (ps : List Str), FnOk P w K mg base (L2.CX P w) k f fd ps sp ∧ mg x = some (.ref f) ∧ PySem.W.keepIn K (.ref f) = true ∧ Binds K fd ps []
structure CanM (k : Nat) (C : Addr) (m : Str) (sp : Sp) : Prop where
  ex : ∃ (f : Addr) (fd : FuncData) (ps : List Str), FnOk P w K mg base (L2.CX P w) k f fd ps sp ∧ Cls K C ∧ Meth K C m f ∧ Binds K fd ps []
structure CanN (k : Nat) (C : Addr) (x : Str) (sp : Sp) : Prop where
  ex : ∃ (f : Addr) (fd : FuncData) (ps : List Str), FnOk P w K mg base (L2.CX P w) k f fd ps sp ∧ Mk K C f ∧ mg x = some (.ref C) ∧ Binds K fd ps []
end
/-- how n plain parameters bind -/
def BindsPlain (st : Stmt) (x q : Str) (ps : List Str) : Prop := ∀ (kV doc pm : Value) (an : Option Addr) (cdv ct : Value) (us : List Value), us.length = ps.length →
  bindArgs (PySem.W.fnOf x q (defArgs st) (defBody st) (defScope st) .none kV doc pm an cdv ct) ⟨us, []⟩ = pure (ps.zip us)
section
variable {P : Program} {w : World} {K : PySem.W.Frag} {mg : Str → Option Value} {base : Heap}
theorem can_of {x : Str} {st : Stmt} {N ps : List Str} {k : Nat} {sp : Sp} (D : DefT K mg x st) (S : FnScope N ps (defScope st)) (hb : BindsPlain st x x ps) (len : ∀ vs H Q E, sp vs H Q E → vs.length = ps.length)
    (body : ∀ (f : Addr) (cdv : Value) (A : Around) (outer : List Env) (s : Shared) (H : Hp) (vs : List V) (Q : VK) (E : XK), Room k (A.deeper (envOfC x (defScope st) s.heap.objs.size f cdv)) → sp vs H Q E →
      ∃ t, PSs (cxOf (L2.CX P w) P w K mg base N x (defScope st) f cdv A outer s H E) (defBody st) t ∧ t { nx := fun _ H' => Q .non H', rt := Q } (start N vs) H) : Can P w K mg base (k + 1) x sp := by
  obtain ⟨f, fd, F, g⟩ := D.ex
  exact ⟨f, fd, ps, F.okX S len (body f), g, F.kp, F.binds hb⟩
theorem canM_of {m q : Str} {C : Addr} {st : Stmt} {N ps : List Str} {k : Nat} {sp : Sp} (c : Cls K C) (D : MetT K C m q st) (S : FnScope N ps (defScope st)) (hb : BindsPlain st m q ps) (len : ∀ vs H Q E, sp vs H Q E → vs.length = ps.length)
    (body : ∀ (f : Addr) (cdv : Value) (A : Around) (outer : List Env) (s : Shared) (H : Hp) (vs : List V) (Q : VK) (E : XK), Room k (A.deeper (envOfC q (defScope st) s.heap.objs.size f cdv)) → sp vs H Q E →
      ∃ t, PSs (cxOf (L2.CX P w) P w K mg base N q (defScope st) f cdv A outer s H E) (defBody st) t ∧ t { nx := fun _ H' => Q .non H', rt := Q } (start N vs) H) : CanM P w K mg base (k + 1) C m sp := by
  obtain ⟨f, fd, F, g⟩ := D.ex
  exact ⟨f, fd, ps, F.okX S len (body f), c, g, F.binds hb⟩
theorem canN_of {x q : Str} {C : Addr} {st : Stmt} {N ps : List Str} {k : Nat} {sp : Sp} (c : ClsT K mg C x) (D : MetT K C "__init__" q st) (S : FnScope N ps (defScope st)) (hb : BindsPlain st "__init__" q ps) (len : ∀ vs H Q E, sp vs H Q E → vs.length = ps.length)
    (body : ∀ (f : Addr) (cdv : Value) (A : Around) (outer : List Env) (s : Shared) (H : Hp) (vs : List V) (Q : VK) (E : XK), Room k (A.deeper (envOfC q (defScope st) s.heap.objs.size f cdv)) → sp vs H Q E →
      ∃ t, PSs (cxOf (L2.CX P w) P w K mg base N q (defScope st) f cdv A outer s H E) (defBody st) t ∧ t { nx := fun _ H' => Q .non H', rt := Q } (start N vs) H) : CanN P w K mg base (k + 1) C x sp := by
  obtain ⟨f, fd, F, g⟩ := D.ex
  exact ⟨f, fd, ps, F.okX S len (body f), ⟨c.mak, g.at_, g.fn, c.kp⟩, c.gC, F.binds hb⟩
end

/-! ### calls: E0 where nothing is raised; a wish at the slots where something may be -/
section
variable {X : Cx} {k j : Nat} {C : Addr} {x m : Str} {sp : Sp} {W : WX} {p pos apos : Pos} {e o : Expr} {es : List Expr} {ta : TE} {t : TA}
theorem pc_f (c : Can X.prog X.w X.K X.mg X.base k x sp) (hr : Room j X.A) (hk : k ≤ j) (hg : Gl X x) (ha : PA X (e :: es) t)
    (hdb : (x == ("__debug__" : Str)) = false := by decide) (he : starEach (e :: es) X.env = (false, eval e X.env) :: starEach es X.env := by rfl) (hpl : (backTo pos (starEach es X.env)).any (·.1) = false := by rfl) :
    PE X (.Call (.Name x p) (e :: es) [] pos) (tCall sp [] E0 t) := by
  obtain ⟨f, fd, ps, F, hm, kp, b⟩ := c.ex
  exact pe_call F (hr.mono hk) hg hm kp b .nil passL ha hdb he hpl
theorem pc_f0 (c : Can X.prog X.w X.K X.mg X.base k x sp) (hr : Room j X.A) (hk : k ≤ j) (hg : Gl X x)
    (hdb : (x == ("__debug__" : Str)) = false := by decide) : PE X (.Call (.Name x p) [] [] pos) (tCall sp [] E0 tNil) := by
  obtain ⟨f, fd, ps, F, hm, kp, b⟩ := c.ex
  exact pe_call0 F (hr.mono hk) hg hm kp b .nil passL hdb
theorem pc_fS (c : Can X.prog X.w X.K X.mg X.base k x sp) (tk : Takes X W) (hr : Room j X.A) (hk : k ≤ j) (hg : Gl X x) (ha : PA X (e :: es) t)
    (hdb : (x == ("__debug__" : Str)) = false := by decide) (he : starEach (e :: es) X.env = (false, eval e X.env) :: starEach es X.env := by rfl) (hpl : (backTo pos (starEach es X.env)).any (·.1) = false := by rfl) :
    PE X (.Call (.Name x p) (e :: es) [] pos) (tCallS sp (WE W) t) := by
  obtain ⟨f, fd, ps, F, hm, kp, b⟩ := c.ex
  exact pe_callS F (hr.mono hk) hg hm kp b (passAt tk) ha hdb he hpl
theorem pc_m {pl : Sem Bool} (c : CanM X.prog X.w X.K X.mg X.base k C m sp) (hr : Room j X.A) (hk : k ≤ j) (he : PE X o ta) (ha : PA X (e :: es) t)
    (hst : starEach (e :: es) X.env = (false, eval e X.env) :: starEach es X.env := by rfl) (hpl : (backTo pos (starEach es X.env)).any (·.1) = false := by rfl)
    (ht : eval (.Call (.Attribute o m apos) (e :: es) [] pos) X.env = (do
      let v ← eval o X.env
      standAt apos.atName
      let (f, first) ← holding [v] (getMethod v m pl)
      callWith pos f first (backTo pos (starEach (e :: es) X.env)) (backToKw pos (keywordEach [] X.env))) := by rfl) :
    PE X (.Call (.Attribute o m apos) (e :: es) [] pos) (tMeth C m sp [] E0 ta t) := by
  obtain ⟨f, fd, ps, F, hc, hm, b⟩ := c.ex
  exact pe_meth (pl := pl) he hc hm F (hr.mono hk) b .nil passL ha hst hpl ht
/-- o.m(e, ..) that may raise, the wish at the slots -/
def tMethS (C : Addr) (m : Str) (sp : Sp) (W : WX) (ta : TE) (t : TA) : TE := fun σ H Q => ta σ H fun y G => ∃ a dx fs, y = .ref a ∧ G a = some (.ins C dx fs) ∧ fs.lookup m = none ∧ t σ G fun vs G' => sp (y :: vs) G' Q (WE W σ)
theorem pc_mS {pl : Sem Bool} (c : CanM X.prog X.w X.K X.mg X.base k C m sp) (tk : Takes X W) (hr : Room j X.A) (hk : k ≤ j) (he : PE X o ta) (ha : PA X (e :: es) t)
    (hst : starEach (e :: es) X.env = (false, eval e X.env) :: starEach es X.env := by rfl) (hpl : (backTo pos (starEach es X.env)).any (·.1) = false := by rfl)
    (ht : eval (.Call (.Attribute o m apos) (e :: es) [] pos) X.env = (do
      let v ← eval o X.env
      standAt apos.atName
      let (f, first) ← holding [v] (getMethod v m pl)
      callWith pos f first (backTo pos (starEach (e :: es) X.env)) (backToKw pos (keywordEach [] X.env))) := by rfl) :
    PE X (.Call (.Attribute o m apos) (e :: es) [] pos) (tMethS C m sp W ta t) := by
  obtain ⟨f, fd, ps, F, hc, hm, b⟩ := c.ex
  constructor
  intro pins s σ H Q I h
  refine PySem.W.methodCall_KW (pl := pl) (thn (he.run pins s σ H _ I h) ?_) ht
  rintro u s1 ⟨y, G, I1, ry, a, dx, fs, rfl, ga, l, q⟩
  cases ry
  refine getmeth_ok I1 ga hc hm l ?_
  refine PySem.W.callWith_K (first := [.ref a]) (h₀ := X.base) I.ok.mod.kin hm.kp (thn (ha.run pos pins s1 σ G _ I1 q) ?_) hst hpl
  rintro us s2 ⟨vs, G', I2, r, q2⟩
  exact ⟨I2.kIn, run_fnS (us := .ref a :: us) (vs := .ref a :: vs) F (hr.mono hk) b (passAt tk σ) I2 (.cons rfl r) q2⟩
theorem pc_n (c : CanN X.prog X.w X.K X.mg X.base k C x sp) (hr : Room j X.A) (hk : k + 1 ≤ j) (hg : Gl X x) (ha : PA X (e :: es) t)
    (hdb : (x == ("__debug__" : Str)) = false := by decide) (he : starEach (e :: es) X.env = (false, eval e X.env) :: starEach es X.env := by rfl) (hpl : (backTo pos (starEach es X.env)).any (·.1) = false := by rfl) :
    PE X (.Call (.Name x p) (e :: es) [] pos) (tMake C sp [] E0 t) := by
  obtain ⟨f, fd, ps, F, M, hm, b⟩ := c.ex
  exact pe_make M F (hr.mono hk) hg hm b .nil passL ha hdb he hpl
def tMakeS (C : Addr) (sp : Sp) (W : WX) (t : TA) : TE := fun σ H Q => t σ H fun vs G => ∀ y dx, G y = none → G dx = none → dx ≠ y →
  sp (.ref y :: vs) (upd (upd G dx (.own y)) y (.ins C dx [])) (fun v G' => v = .non ∧ Q (.ref y) G') (WE W σ)
end
end Kit

end
section
set_option Elab.async false
set_option maxRecDepth 100000
set_option maxHeartbeats 4000000
namespace Kit
open PySem PySem.Spec PyProof.Rows L2

/-! ### a class made, whose __init__ may raise -/
section
variable {X : Cx} {k j : Nat} {C : Addr} {x : Str} {sp : Sp} {W : WX} {p pos : Pos} {e : Expr} {es : List Expr} {t : TA}
theorem pc_nS (c : CanN X.prog X.w X.K X.mg X.base k C x sp) (tk : Takes X W) (hr : Room j X.A) (hk : k + 1 ≤ j) (hg : Gl X x) (ha : PA X (e :: es) t)
    (hdb : (x == ("__debug__" : Str)) = false := by decide) (he : starEach (e :: es) X.env = (false, eval e X.env) :: starEach es X.env := by rfl) (hpl : (backTo pos (starEach es X.env)).any (·.1) = false := by rfl) :
    PE X (.Call (.Name x p) (e :: es) [] pos) (tMakeS C sp W t) := by
  obtain ⟨f, fd, ps, F, M, hm, b⟩ := c.ex
  have hr := hr.mono hk
  constructor
  intro pins s σ H Q I h
  refine wpAny_Call_Name_kw (ld_glob I hg hm ?_ hdb)
  refine PySem.W.callWith_K (h₀ := X.base) I.ok.mod.kin M.kp (thn (ha.run pos pins s σ H _ I h) ?_) he hpl
  rintro us s1 ⟨vs, G, I1, r, q⟩
  refine ⟨I1.kIn, ?_⟩
  have hq := q (s1.heap.objs.size + 1) s1.heap.objs.size (I1.hok.fresh (Nat.le_succ _)) (I1.hok.fresh (Nat.le_refl _)) (Nat.ne_of_lt (Nat.lt_succ_self _))
  have J := Inv.made (C := C) I1
  have r2 : Vals (V.ref (s1.heap.objs.size + 1) :: vs) (Value.ref (s1.heap.objs.size + 1) :: us) := .cons rfl r
  have hl : (Value.ref (s1.heap.objs.size + 1) :: us ++ []).length = ps.length := by
    have z := r2.length
    rw [F.len _ _ _ _ hq] at z
    rw [List.append_nil]
    exact z.symm
  have bb := b _ (Value.ref (s1.heap.objs.size + 1) :: us) J.kIn hl
  rw [List.append_nil] at bb
  refine wpAny_call (make_map (f := f) I1.kIn M.makes M.init (beq_iff_eq.mp M.fn) (codeAny_mono (F.run _ X.stack _ _ ⟨Value.ref (s1.heap.objs.size + 1) :: us, []⟩ (Value.ref (s1.heap.objs.size + 1) :: us) _ _ (WE W σ) (hr.make C us []) (J.env0.make C us []) bb r2 hq) ?_))
  intro r s' z
  cases r with
  | error er => exact passAt tk σ pins _ _ er s' J z
  | ok fl =>
    cases fl with
    | ret u =>
      obtain ⟨v, H', I3, rv, ev, q3⟩ := J.after z
      subst ev
      exact ⟨rv, V.ref (s1.heap.objs.size + 1), H', I3, rfl, q3⟩
    | next => exact z.elim
    | brk => exact z.elim
    | cont => exact z.elim
end

/-! ### own errors with one field -/
structure ErrT (K : PySem.W.Frag) (mg : Str → Option Value) (C : Addr) (x q fld : Str) (st : Stmt) : Prop where
  gC : mg x = some (.ref C)
  oex : OexC K C
  noF : PySem.W.findIn K (.ref C) fld = some none
  ini : ∃ (f : Addr) (fd : FuncData), Fun K "__init__" q st f fd ∧ PySem.W.findIn K (.ref C) "__init__" = some (some (.ref f)) ∧ PySem.W.typeIn K (.ref f) = some (.type "function")
/-- what isinstance and the reading of a field ask of an error's class -/
structure ErrC (K : PySem.W.Frag) (C : Addr) : Prop where
  xf : XfC K C
  ha : PySem.W.findIn K (.ref C) "__class__" = some (some (.builtin "object.__class__"))
  hn : PySem.W.specialIn K (.builtin "object.__class__") "__get__" = some (some (.builtin "getset_descriptor.__get__"))
  ht : PySem.W.takesIn K (.builtin "object.__class__") = some true
  hm : PySem.W.mroIn K C (.type "object") = some true
  hc : (PySem.W.clsIn K C).isSome = true
def spErr (C : Addr) (fld : Str) : Sp := fun vs H Q _ => ∃ (a : Addr) (y : V), vs = [.ref a, y] ∧ H a = some (exo a C none) ∧ ∀ dx, H dx = none → dx ≠ a → Q .non (upd (upd H dx (exd dx [(fld, y)])) a (exo a C (some dx)))
section
variable (P : Program) (w : World) (K : PySem.W.Frag) (mg : Str → Option Value) (base : Heap)
structure CanE (C : Addr) (x fld : Str) : Prop where
  gC : mg x = some (.ref C)
  oex : OexC K C
  ex : ∃ (f : Addr) (fd : FuncData) (ps : List Str), FnOk P w K mg base (L2.CX P w) 1 f fd ps (spErr C fld) ∧ PySem.W.findIn K (.ref C) "__init__" = some (some (.ref f)) ∧ PySem.W.typeIn K (.ref f) = some (.type "function") ∧ Binds K fd ps []
end
section
variable {P : Program} {w : World} {K : PySem.W.Frag} {mg : Str → Option Value} {base : Heap}
theorem canE_of {C : Addr} {x q fld : Str} {st : Stmt} {N ps : List Str} (D : ErrT K mg C x q fld st) (S : FnScope N ps (defScope st)) (hb : BindsPlain st "__init__" q ps) (hl : ps.length = 2)
    (body : ∀ (f : Addr) (cdv : Value) (A : Around) (outer : List Env) (s : Shared) (H : Hp) (E : XK),
      PSs (cxOf (L2.CX P w) P w K mg base N q (defScope st) f cdv A outer s H E) (defBody st) (tOst K fld (tVar 0) (tVar 1))) (hN : N.length = 2) : CanE P w K mg base C x fld := by
  obtain ⟨f, fd, F, g, ty⟩ := D.ini
  refine ⟨D.gC, D.oex, f, fd, ps, F.okX S (fun vs H Q E h => ?_) (fun cdv A outer s H vs Q E _ h => ?_), g, ty, F.binds hb⟩
  · obtain ⟨a, y, rfl, _⟩ := h
    rw [hl]
    rfl
  · obtain ⟨a, y, rfl, ha, z⟩ := h
    refine ⟨_, body f cdv A outer s H E, ?_⟩
    match N, hN with
    | [n0, n1], _ => exact ⟨y, rfl, .ref a, rfl, a, C, rfl, D.oex, D.noF, .inl ⟨ha, fun dx n ne => z dx n ne⟩⟩
end
section
variable {X : Cx} {C : Addr} {x fld : Str} {W : WX} {p pos pos2 : Pos} {e : Expr} {te : TE} {j : Nat}
/-- raise X(e) -/
theorem pr_err (c : CanE X.prog X.w X.K X.mg X.base C x fld) (tk : Takes X W) (hcalm : X.calm = true) (hr : Room j X.A) (hk : 2 ≤ j) (hg : Gl X x) (ha : PE X e te)
    (he : starEach [e] X.env = (false, eval e X.env) :: starEach [] X.env := by rfl) (hpl : (backTo pos (starEach [] X.env)).any (·.1) = false := by rfl) (hdb : (x == ("__debug__" : Str)) = false := by decide) :
    PS X (.Raise (some (.Call (.Name x p) [e] [] pos)) none pos2) (fun _ σ H => tMkO C (spErr C fld) [] (tCons te tNil) σ H fun cls d H' => W cls d σ H') := by
  obtain ⟨f, fd, ps, F, g, ty, b⟩ := c.ex
  exact L2.ps_raise hcalm tk (pmk_oex c.oex g ty F (hr.mono hk) b .nil passL hg c.gC (pa_cons ha pa_nil (hs := he)) hdb he hpl)
/-- the reading behind the value of e -/
theorem mkE {H : Hp} {y : V} {Q : XK} (h : ∀ d, H d = none → Q (.ref C) (some d) (upd H d (.xd [(fld, y)]))) : [y].length ≤ 1000 ∧ ∀ a, H a = none → spErr C fld (.ref a :: ([y] ++ [])) (upd H a (exo a C none))
    (fun v G => v = .non ∧ ∃ (d : Addr) (fs : List (Str × V)), G a = some (exo a C (some d)) ∧ G d = some (exd d fs) ∧ H d = none ∧ Q (.ref C) (some d) (upd (L2.del G a) d (.xd fs))) (fun _ _ _ => False) := by
  refine ⟨by show 1 ≤ 1000; decide, fun a na => ⟨a, y, rfl, upd_same, fun dx n ne => ⟨rfl, dx, [(fld, y)], upd_same, ?_, ?_, ?_⟩⟩⟩
  · rw [upd_ne ne, upd_same]
  · rw [upd_ne ne] at n
    exact n
  · rw [upd_ne ne] at n
    have z : upd (L2.del (upd (upd (upd H a (exo a C none)) dx (exd dx [(fld, y)])) a (exo a C (some dx))) a) dx (.xd [(fld, y)]) = upd H dx (.xd [(fld, y)]) := by
      funext b
      by_cases hb : b = dx
      · rw [hb, upd_same, upd_same]
      · rw [upd_ne hb, upd_ne hb]
        by_cases hc : b = a
        · rw [hc, L2.del_same, na]
        · rw [L2.del_ne hc, upd_ne hc, upd_ne hb, upd_ne hc]
    rw [z]
    exact h dx n
end

/-! ### a def called in an except suite, the caught error handed to it -/
abbrev SpE := Addr → Value → Option Addr → Sp
structure FnE (P : Program) (w : World) (K : PySem.W.Frag) (mg : Str → Option Value) (base : Heap) (k : Nat) (f : Addr) (fd : FuncData) (ps : List Str) (sp : SpE) : Prop where
  len : ∀ a cls d vs H Q E, sp a cls d vs H Q E → vs.length = ps.length
  run : ∀ (A : Around) (outer : List Env) (s : Shared) (H : Hp) (args : Args) (us : List Value) (vs : List V) (Q : VK) (E : XK) (p : Addr × Obj) (cls : Value) (d : Option Addr), L2H.RoomH k A → L2H.PinOk outer H s p → Zc cls d p.2 → (∃ z, p.2.data = .fields z) →
    Env0 P w K mg base A outer s H → BindsTo s fd args (ps.zip us) → Vals vs us → sp p.1 cls d vs H Q E → codeAny (model P w) A (.call (.ref f) args) (CR (L2.CX P w) outer P w H s Q E) s
abbrev cxE (P : Program) (w : World) (K : PySem.W.Frag) (mg : Str → Option Value) (base : Heap) (N : List Str) (x : Str) (st : Stmt) (f : Addr) (cdv : Value) (A : Around) (outer : List Env) (s : Shared) (H : Hp) (E : XK) (p : Addr × Obj) : Cx :=
  L2H.cxH (L2.CX P w) P w K mg base N x (defScope st) f cdv A outer s H E p
structure CanS (P : Program) (w : World) (K : PySem.W.Frag) (mg : Str → Option Value) (base : Heap) (k : Nat) (x : Str) (sp : SpE) : Prop where
  ex : ∃ (f : Addr) (fd : FuncData) (ps : List Str), FnE P w K mg base k f fd ps sp ∧ mg x = some (.ref f) ∧ PySem.W.keepIn K (.ref f) = true ∧ Binds K fd ps []
section
variable {P : Program} {w : World} {K : PySem.W.Frag} {mg : Str → Option Value} {base : Heap}
theorem canS_of {x : Str} {st : Stmt} {N ps : List Str} {k : Nat} {sp : SpE} (D : DefT K mg x st) (S : FnScope N ps (defScope st)) (hb : BindsPlain st x x ps) (len : ∀ a cls d vs H Q E, sp a cls d vs H Q E → vs.length = ps.length)
    (body : ∀ (f : Addr) (cdv : Value) (A : Around) (outer : List Env) (s : Shared) (H : Hp) (vs : List V) (Q : VK) (E : XK) (p : Addr × Obj) (cls : Value) (d : Option Addr), L2H.RoomH k (A.deeper (envOfC x (defScope st) s.heap.objs.size f cdv)) → Zc cls d p.2 → (∃ z, p.2.data = .fields z) → sp p.1 cls d vs H Q E →
      ∃ t, PSs (cxE P w K mg base N x st f cdv A outer s H E p) (defBody st) t ∧ t { nx := fun _ H' => Q .non H', rt := Q } (start N vs) H) : CanS P w K mg base (k + 1) x sp := by
  obtain ⟨f, fd, F, g⟩ := D.ex
  refine ⟨f, fd, ps, ⟨len, ?_⟩, g, F.kp, F.binds hb⟩
  obtain ⟨oc, od, kV, doc, pm, an, cdv, ct, osl, rfl, lk, hcd⟩ := F.ex
  intro A outer s H args us vs Q E p cls d hr hpin hz hf e0 hbt r hsp
  have hl := len _ _ _ _ _ _ _ hsp
  have KX : K.In s.heap := e0.mod.kin.keeps fun b o e => (e0.bs b o e).1
  have lim : s.heap.NoLimit := e0.mod.nolimit.keeps fun b o e => (e0.bs b o e).1
  have hkind : ∀ y ∈ ps.zip us, (defScope st).names.lookup y.1 = some .local ∨ ((defScope st).names.lookup y.1 = some .cell ∧ ((cellsFrom (s.heap.objs.size + 1) (defScope st).names []).lookup y.1).isSome = true) := by
    rintro ⟨n, v⟩ hy
    rcases S.par n (List.of_mem_zip hy).1 with q | q
    · exact .inl q
    · exact .inr ⟨q, PySem.W.cellsFrom_some _ _ _ (.inl q)⟩
  refine codeAny_call_function hr.depth (KX _ _ lk) rfl S.co S.gen rfl (PySem.W.codeRec_of KX hcd) (hbt _ _ _ _ ?_)
  refine wpAny_newFunctionEnv_cells S.kind hkind ?_
  intro env he s1 y
  subst he
  refine ⟨lim.keeps y.toInCall.keep, codeAny_func ?_⟩
  obtain ⟨t, ht, hq⟩ := body f cdv A outer s H vs Q E p cls d (hr.deeper _) hz hf hsp
  have I : Inv (cxE P w K mg base N x st f cdv A outer s H E p) [] (start N vs) H s1 := L2H.inv_startH S hpin e0 hl r y
  refine wpAny_mono (ht.run [] s1 (start N vs) H _ I hq) ?_ fun e s' hs => hs
  intro fl s' hs
  cases fl with
  | ret u =>
    obtain ⟨v, σ', H', J, rv, q⟩ := hs
    exact ⟨v, H', J.os, J.bare, J.base, J.hok, rv, q⟩
  | next =>
    obtain ⟨σ', H', J, q⟩ := hs
    exact ⟨V.non, H', J.os, J.bare, J.base, J.hok, rfl, q⟩
  | brk =>
    obtain ⟨_, _, _, q⟩ := hs
    exact q.elim
  | cont =>
    obtain ⟨_, _, _, q⟩ := hs
    exact q.elim
end
/-- f(e, ..) in a suite that holds the error at a -/
def tCallE (sp : SpE) (a : Addr) (cls : Value) (d : Option Addr) (t : TA) : TE := fun σ H Q => t σ H fun vs G => sp a cls d vs G Q E0
section
variable {X : Cx} {k j : Nat} {x : Str} {sp : SpE} {a : Addr} {oe : Obj} {pn : List (Addr × Obj)} {cls : Value} {d : Option Addr} {p pos : Pos} {e : Expr} {es : List Expr} {t : TA}
theorem pc_E (c : CanS X.prog X.w X.K X.mg X.base k x sp) (hz : Zc cls d oe) (hf : ∃ z, oe.data = .fields z) (hr : Room j X.A) (hk : k ≤ j) (hg : Gl X x) (ha : PA (X.suite a ((a, oe) :: pn)) (e :: es) t)
    (hdb : (x == ("__debug__" : Str)) = false := by decide) (he : starEach (e :: es) X.env = (false, eval e X.env) :: starEach es X.env := by rfl) (hpl : (backTo pos (starEach es X.env)).any (·.1) = false := by rfl) :
    PE (X.suite a ((a, oe) :: pn)) (.Call (.Name x p) (e :: es) [] pos) (tCallE sp a cls d t) := by
  obtain ⟨f, fd, ps, F, hm, kp, hb⟩ := c.ex
  constructor
  intro pins s σ H Q I h
  refine wpAny_Call_Name_kw (ld_glob I hg hm ?_ hdb)
  refine PySem.W.callWith_K (h₀ := X.base) I.ok.mod.kin kp (thn (ha.run pos pins s σ H _ I h) ?_) he hpl
  rintro us s1 ⟨vs, G, I1, r, q⟩
  refine ⟨I1.kIn, ?_⟩
  have hl : us.length = ps.length := by
    rw [← r.length]
    exact F.len _ _ _ _ _ _ _ q
  have b := hb s1 us I1.kIn (by rw [List.append_nil]; exact hl)
  rw [List.append_nil] at b
  have P1 := I1.pin (a, oe) (List.mem_append_left _ List.mem_cons_self)
  have hpin : L2H.PinOk (X.suite a ((a, oe) :: pn)).stack G s1 (a, oe) := ⟨P1.1, P1.2.1, fun hm => (List.mem_cons.mp (I1.stkSub a hm)).elim P1.2.2.1 P1.2.2.2.1, P1.2.2.2.2⟩
  refine wpAny_call (codeAny_mono (F.run _ _ s1 G ⟨us, []⟩ us vs Q E0 (a, oe) cls d ?_ hpin hz hf I1.env0 b r q) ?_)
  · exact ⟨(hr.mono hk).dp, (hr.mono hk).un⟩
  · intro z s' hq
    cases z with
    | error er =>
      obtain ⟨_, _, _, _, _, _, _, _, _, _, _, _, y⟩ := hq
      exact y.elim
    | ok fl =>
      cases fl with
      | ret u => exact I1.after hq
      | next => exact hq.elim
      | brk => exact hq.elim
      | cont => exact hq.elim
end
/-! ### what such a def asks of the error: isinstance, a field -/
/-- the error's own dict, where it has one, is tracked -/
def XdOk (d : Option Addr) (H : Hp) : Prop := ∀ dd, d = some dd → ∃ fs, H dd = some (.xd fs)
section
variable {X : Cx} {a : Addr} {oe : Obj} {cls : Value} {d : Option Addr} {e : Expr} {te : TE} {fld : Str} {pos : Pos}
theorem pin_at (hp : (a, oe) ∈ X.pn) (hz : Zc cls d oe) (hf : ∃ z, oe.data = .fields z) {pins : List (Addr × Obj)} {σ : St} {H : Hp} {s : Shared} (I : Inv X pins σ H s) (hd : XdOk d H) {D : Addr} (hD : cls = .ref D) : ∃ od, PySem.W.InstAt s.heap a oe D od := by
  obtain ⟨hget, _⟩ := I.pin (a, oe) (List.mem_append_left _ hp)
  obtain ⟨vs, hv⟩ := hf
  subst hD
  cases hd0 : d with
  | none => exact ⟨none, hget, hz.1, by unfold PySem.W.notCls; rw [hv] <;> rfl, by rw [hz.2, hd0] <;> trivial⟩
  | some dd =>
    obtain ⟨fs, hfs⟩ := hd dd hd0
    have z : ObjOk X.prog X.w H s.heap dd (.xd fs) := I.hok dd _ hfs
    obtain ⟨mA, ⟨od, es, ep, ho, _⟩, _⟩ := z
    exact ⟨some od, hget, hz.1, by unfold PySem.W.notCls; rw [hv] <;> rfl, by rw [hz.2, hd0]; exact ho⟩
/-- isinstance(e, c), e the pinned error at a -/
def rIsP (K : PySem.W.Frag) (a : Addr) (cls : Value) (d : Option Addr) : List V → Hp → VK → Prop := fun xs H Q => ∃ (D : Addr) (c : V) (cv : Value) (b : Bool), cls = .ref D ∧ ErrC K D ∧ XdOk d H ∧ xs = [.ref a, c] ∧ (∀ u, RelV c u → u = cv) ∧ PySem.W.kitOne K (.ref D) cv = some b ∧ Q (.bl b) H
theorem call_isP (hp : (a, oe) ∈ X.pn) (hz : Zc cls d oe) (hf : ∃ z, oe.data = .fields z) : CallR X (.builtin "isinstance") (rIsP X.K a cls d) := by
  intro pins s σ H xs us Q I r h
  obtain ⟨D, c, cv, b, hD, C, hdd, rfl, hcv, e, q⟩ := h
  cases r with
  | cons rx rr =>
    cases rr with
    | cons rt rr =>
      cases rr
      cases rx
      have ec := hcv _ rt
      subst ec
      obtain ⟨od, J⟩ := pin_at hp hz hf I hdd hD
      exact PySem.W.kia_one (PySem.W.kitx_exc C.hc C.xf.ga C.xf.gg C.xf.exC C.ha C.hn C.ht C.hm) I.kIn J e (fun z => nomatch z) fun tk => ⟨.bl b, H, I.kept (t' := tk) fun _ _ z => z, rfl, q⟩
/-- e.fld, e the pinned error at a -/
def tXP (K : PySem.W.Frag) (a : Addr) (cls : Value) (d : Option Addr) (fld : Str) (te : TE) : TE := fun σ H Q => te σ H fun x G => ∃ (D dd : Addr) (fs : List (Str × V)) (v : V), x = .ref a ∧ cls = .ref D ∧ XfC K D ∧ PySem.W.findIn K (.ref D) fld = some none ∧ d = some dd ∧ G dd = some (.xd fs) ∧ fs.lookup fld = some v ∧ Q v G
theorem pe_xp (hp : (a, oe) ∈ X.pn) (hz : Zc cls d oe) (hf : ∃ z, oe.data = .fields z) (he : PE X e te) (hb : attributeBase e fld X.env (eval e X.env) = eval e X.env := by rfl) : PE X (.Attribute e fld pos) (tXP X.K a cls d fld te) := by
  constructor
  intro pins s σ H Q I h
  refine attr_of hb (thn (he.run pins s σ H _ I h) ?_)
  rintro u s1 ⟨x, G, I1, rx, D, dd, fs, v, rfl, hD, T, hno, ed, ea, l, q⟩
  cases rx
  subst ed
  obtain ⟨hget, _⟩ := I1.pin (a, oe) (List.mem_append_left _ hp)
  obtain ⟨vs, hv⟩ := hf
  have hx : ObjOk X.prog X.w G s1.heap dd (.xd fs) := I1.hok dd _ ea
  obtain ⟨mA, hns, hrel⟩ := hx
  obtain ⟨od, ho, hl⟩ := lookIn_ns hns
  obtain ⟨u, hu, ru⟩ := RelO.some_of (v := v) (o := mA fld) (by rw [← l]; exact hrel fld)
  have J : PySem.W.InstAt s1.heap a oe D (some od) := ⟨hget, hz.1.trans hD, by unfold PySem.W.notCls; rw [hv] <;> rfl, by rw [hz.2]; exact ho⟩
  exact HandSPX.exc_get I1.kIn J T.ga T.gg T.exC (PySem.W.findObj_own T.hdC hno rfl (by rw [hl, hu])) (handed_of ru) ⟨v, G, I1.tok _, ru, q⟩
/-- list.count of flat items -/
def rCntF (K : PySem.W.Frag) : V → List V → Hp → VK → Prop := fun x xs H Q => ∃ (p : Addr) (ys : List V) (y : V), x = .ref p ∧ xs = [y] ∧ SqL K H p ys ∧ flatV y = true ∧ ys.all flatV = true ∧ Q (.int (ys.countP fun z => eqV z y : Nat)) H
theorem countU {y : V} : ∀ {ys : List V} {us : List Value}, Vals ys us → ys.all flatV = true → us.countP (eqU y) = ys.countP fun z => eqV z y
  | _, _, .nil, _ => rfl
  | z :: zs, u :: us, .cons r t, f => by
    rw [List.all_cons, Bool.and_eq_true] at f
    rw [List.countP_cons, List.countP_cons, countU t f.2, eqU_of r f.1]
theorem mt_countF : MtR X "list.count" (rCntF X.K) := by
  intro pins s σ H x xs v us Q I rx rxs h
  obtain ⟨p, ys, y, rfl, rfl, hs, fy, fys, q⟩ := h
  cases rx
  cases rxs with
  | cons ry rt =>
    rename_i uy ut
    cases rt
    obtain ⟨its, rv, ⟨⟨cls, dd, data, sl⟩, n, ho, hc, hdn, hd⟩, hlen⟩ := I.list hs
    simp only at hc hd
    subst hc hd
    refine call_meets PySem.F.slot_list_count ⟨_, ho, rfl⟩ PySem.F.entry_list_count (PySem.F.args_list_count_2 _ _)
      (SeqAt.list_countAt p its.toArray n dd sl uy (eqU y)) ⟨ho, fun u hu => mem_eqAt ry fy rv fys u (by simpa using hu), ?_⟩
    have ec : its.toArray.toList.countP (eqU y) = ys.countP fun z => eqV z y := countU rv fys
    refine ⟨.int (ys.countP fun z => eqV z y : Nat), H, I.tok _, ⟨s.toks, ?_⟩, q⟩
    show Value.int ((its.toArray.toList.countP (eqU y) : Nat) : Int) s.toks = _
    rw [ec]
end
end Kit

end
section
set_option Elab.async false
set_option maxRecDepth 100000
set_option maxHeartbeats 4000000
namespace Kit
open PySem PySem.Spec PyProof.Rows L2

/-! ### texts as lists of codes -/
def S (l : List Nat) : Str := ⟨l.toArray⟩
abbrev tx (l : List Nat) : V := .str (S l)
theorem S_len (l : List Nat) : (S l).length = l.length := by
  show l.toArray.size = l.length
  exact List.size_toArray
theorem S_cps (l : List Nat) : (S l).cps.toList = l := rfl
theorem S_app (l m : List Nat) : S l ++ S m = S (l ++ m) := by
  show (⟨l.toArray ++ m.toArray⟩ : Str) = ⟨(l ++ m).toArray⟩
  rw [List.append_toArray]
theorem S_inj {l m : List Nat} (h : S l = S m) : l = m := by
  have z := congrArg (fun s => s.cps.toList) h
  exact z
theorem S_eq {l m : List Nat} : S l = S m ↔ l = m := ⟨S_inj, fun h => by rw [h]⟩
theorem S_of (s : Str) : ∃ l, s = S l := ⟨s.cps.toList, by cases s; rfl⟩
theorem S_one (c : Nat) : (⟨#[c]⟩ : Str) = S [c] := rfl
theorem cut_S (l : List Nat) (lo hi : Option Int) : cutS (S l) lo hi = S ((l.drop (HT.sIx l.length 0 lo)).take (HT.sIx l.length l.length hi - HT.sIx l.length 0 lo)) := by
  unfold cutS
  rw [S_len]
  rfl
/-- what was tracked stays -/
abbrev Ex := @Same
theorem ex_new {H : Hp} {p : Addr} {o : HO} (h : H p = none) : Same H (upd H p o) := fun b u e => by
  rw [upd_ne (ne_of_none e h)]
  exact e
/-- an object that H does not know may change -/
theorem ex_mut {H G : Hp} {p : Addr} {o : HO} (e : Same H G) (h : H p = none) : Same H (upd G p o) := fun b u hb => by
  rw [upd_ne (ne_of_none hb h)]
  exact e b u hb
theorem szl {n : Nat} (h : n ≤ 100000) : n ≤ sizeLine := Nat.le_trans h (by decide)
theorem szlt {n : Nat} (h : n < 100000) : n < sizeLine := Nat.lt_of_lt_of_le h (by decide)
theorem seqL_of {K : PySem.W.Frag} {H : Hp} {a : Addr} {xs : List V} (h : H a = some (.lst xs)) : SqL K H a xs := .inl (.inl h)
theorem seqT_of {K : PySem.W.Frag} {H : Hp} {a : Addr} {xs : List V} (h : H a = some (.tup xs)) : SqT K H a xs := .inl (.inl h)

/-! ### data: what laws compare -/
inductive D where
  | non | bl (b : Bool) | int (i : Int) | txt (l : List Nat) | lst (xs : List D) | tup (xs : List D)
mutual
def Rp (H : Hp) : D → V → Prop
  | .non, v => v = .non
  | .bl b, v => v = .bl b
  | .int i, v => v = .int i
  | .txt l, v => v = tx l
  | .lst ds, v => ∃ p vs, v = .ref p ∧ H p = some (.lst vs) ∧ Rps H ds vs
  | .tup ds, v => ∃ p vs, v = .ref p ∧ H p = some (.tup vs) ∧ Rps H ds vs
def Rps (H : Hp) : List D → List V → Prop
  | [], vs => vs = []
  | d :: ds, vs => ∃ v r, vs = v :: r ∧ Rp H d v ∧ Rps H ds r
end
mutual
theorem Rp.mono {H G : Hp} (e : Same H G) : ∀ (d : D) (v : V), Rp H d v → Rp G d v
  | .non, _, h => h
  | .bl _, _, h => h
  | .int _, _, h => h
  | .txt _, _, h => h
  | .lst ds, _, ⟨p, vs, hv, hp, r⟩ => ⟨p, vs, hv, e _ _ hp, Rps.mono e ds vs r⟩
  | .tup ds, _, ⟨p, vs, hv, hp, r⟩ => ⟨p, vs, hv, e _ _ hp, Rps.mono e ds vs r⟩
theorem Rps.mono {H G : Hp} (e : Same H G) : ∀ (ds : List D) (vs : List V), Rps H ds vs → Rps G ds vs
  | [], _, h => h
  | d :: ds, _, ⟨v, r, hv, h1, h2⟩ => ⟨v, r, hv, Rp.mono e d v h1, Rps.mono e ds r h2⟩
end
theorem Rps.len {H : Hp} : ∀ {ds : List D} {vs : List V}, Rps H ds vs → vs.length = ds.length
  | [], _, h => by
    cases h
    rfl
  | d :: ds, _, ⟨v, r, hv, _, h2⟩ => by
    rw [hv, List.length_cons, List.length_cons, Rps.len h2]
theorem Rps.at {H : Hp} : ∀ {ds : List D} {vs : List V} (i : Nat) (d : D), Rps H ds vs → ds[i]? = some d → ∃ v, vs[i]? = some v ∧ Rp H d v
  | [], _, _, _, _, e => by simp at e
  | d :: ds, _, 0, d', ⟨v, r, hv, h1, _⟩, e => by
    rw [hv]
    simp at e
    subst e
    exact ⟨v, rfl, h1⟩
  | d :: ds, _, i + 1, d', ⟨v, r, hv, _, h2⟩, e => by
    rw [hv]
    exact Rps.at i d' h2 (by simpa using e)
theorem Rps.txts {H : Hp} : ∀ (ls : List (List Nat)), Rps H (ls.map .txt) (ls.map tx)
  | [] => rfl
  | l :: ls => ⟨tx l, ls.map tx, rfl, rfl, Rps.txts ls⟩
theorem Rps.txts_eq {H : Hp} : ∀ {ls : List (List Nat)} {vs : List V}, Rps H (ls.map .txt) vs → vs = ls.map tx
  | [], _, h => h
  | l :: ls, _, ⟨v, r, hv, h1, h2⟩ => by
    rw [hv, Rps.txts_eq h2, show v = tx l from h1]
    rfl

/-! ### purses -/
def PurseAt (H : Hp) (p : Addr) : Prop := ∃ x y z : Int, H p = some (.lst [.int x, .int y, .int z]) ∧ 0 ≤ x
def spDraw : Sp := fun vs H Q _ => ∃ (p : Addr) (n : Int), vs = [.ref p, .int n] ∧ PurseAt H p ∧ 0 < n ∧ n < 1000000000 ∧ ∀ (d : Int) (o : HO), 0 ≤ d → d < n → PurseAt (upd H p o) p → Q (.int d) (upd H p o)
def spPurse (K : PySem.W.Frag) : Sp := fun vs H Q _ => ∃ (a : Addr) (ns : List Int) (k s : Int), vs = [.ref a, .int k, .int s] ∧ SqL K H a (ns.map V.int) ∧ ns.length ≤ 63 ∧ 0 ≤ k ∧ k ≤ 63 ∧ ∀ (q : Addr) (o : HO), H q = none → PurseAt (upd H q o) q → Q (.ref q) (upd H q o)
end Kit

end
section
set_option Elab.async false
set_option maxRecDepth 100000
set_option maxHeartbeats 4000000
namespace Kit
open PySem PySem.Spec PyProof.Rows L2

/-! ### comprehensions without a test, one name -/
section
variable {J : It} {n : Nat} {G : Hp → Prop} {Y : Nat → Hp → V → Hp → Prop} {te : TE} {σ : St} {H1 : Hp} {D : Addr} {Qd : Hp → Prop}
theorem wipe1 (j : Nat) (x : Option V) : wipe ((wipe σ [j]).set j x) [j] = wipe σ [j] := by
  show ((wipe σ [j]).set j x).set j none = σ.set j none
  rw [List.set_set]
  show (σ.set j none).set j none = σ.set j none
  rw [List.set_set]
theorem set1 (j : Nat) (x : Option V) : (wipe σ [j]).set j x = σ.set j x := by
  show (σ.set j none).set j x = _
  rw [List.set_set]
theorem lc_one (w : Walk J n G Y) {j : Nat} (out : List V) (hn : out.length = n) (hsz : n ≤ 100000) (hD : H1 D = none) (hG : ∀ H, Same H1 H → G H)
    (hs : ∀ i x H H' v, i < n → Same H1 H → Y i H x H' → out[i]? = some v → Same H H' ∧ ∀ Q : VK, (∀ M, Same H' M → Q v M) → te (σ.set j (some x)) H' Q)
    (hd : ∀ H, Same H1 H → H D = some (.lst out) → Qd H) :
    ∃ W : Nat → Nat → Hp → Prop, (∃ m, W 0 m (upd H1 D (.lst []))) ∧ ∀ i m H, W i m H →
      (J.stop i H ∧ Qd H) ∨ (J.go i H ∧ ∃ Nx : Hp → Prop, (∀ H', Nx H' → ∃ m', m' < m ∧ W (i + 1) m' H') ∧ ∀ x H', J.yld i H x H' → gName j x (wipe σ [j]) H' fun σ2 H2 => wipe σ2 [j] = wipe σ [j] ∧ tYes σ2 H2 fun b H3 =>
        if b = true then te σ2 H3 fun y H4 => ∃ acc, H4 D = some (.lst acc) ∧ acc.length < sizeLine ∧ Nx (upd H4 D (.lst (acc ++ [y]))) else Nx H3) := by
  refine lc_it w (fun i H => Same H1 H ∧ H D = some (.lst (out.take i))) ⟨ex_new hD, upd_same⟩ (fun i H _ h => hG H h.1) ?_ ?_
  · rintro i x H H' hi ⟨s1, hHD⟩ y
    have hv : out[i]? = some (out[i]'(by omega)) := List.getElem?_eq_getElem _
    obtain ⟨s2, ht⟩ := hs i x H H' _ hi s1 y hv
    show wipe ((wipe σ [j]).set j (some x)) [j] = _ ∧ _
    refine ⟨wipe1 j _, ?_⟩
    unfold tYes
    dsimp only
    rw [if_pos rfl]
    rw [set1]
    refine ht _ fun M s3 => ⟨out.take i, s3 _ _ (s2 _ _ hHD), by rw [List.length_take]; exact szlt (by omega), ?_⟩
    refine ⟨ex_mut ((s1.trans s2).trans s3) hD, ?_⟩
    rw [upd_same, List.take_add_one, hv]
    rfl
  · rintro H ⟨s1, hHD⟩
    refine hd H s1 ?_
    rw [hHD, List.take_of_length_le (by omega)]
end

/-! ### what a def may let out -/
def Ra (E : XK) (C : Addr) (fld : Str) (y : V) (H : Hp) : Prop := ∀ d M, Same H M → M d = some (.xd [(fld, y)]) → E (.ref C) (some d) M
theorem Ra.mono {E : XK} {C : Addr} {fld : Str} {y : V} {H G : Hp} (h : Ra E C fld y H) (e : Same H G) : Ra E C fld y G := fun d M s => h d M (e.trans s)
theorem Ra.now {E : XK} {C : Addr} {fld : Str} {y : V} {H : Hp} (h : Ra E C fld y H) : [y].length ≤ 1000 ∧ ∀ a, H a = none → spErr C fld (.ref a :: ([y] ++ [])) (upd H a (exo a C none))
    (fun v G => v = .non ∧ ∃ (d : Addr) (fs : List (Str × V)), G a = some (exo a C (some d)) ∧ G d = some (exd d fs) ∧ H d = none ∧ E (.ref C) (some d) (upd (L2.del G a) d (.xd fs))) (fun _ _ _ => False) :=
  mkE fun d hd => h d _ (ex_new hd) upd_same

/-! ### columns of a scheme: plain facts -/
def cols (n : Nat) : List Nat := (List.range n).map (97 + ·)
def inCol (n x : Nat) : Bool := decide (97 ≤ x ∧ x < 97 + n)
def inDig (c x : Nat) : Bool := decide (48 ≤ x ∧ x < 48 + c)
def isCol (n : Nat) (l : List Nat) : Bool := decide (l.length = 1) && l.all (inCol n)
def isStrip (n : Nat) (l : List Nat) : Bool := l.all (inCol n)
def isColour (c : Nat) (l : List Nat) : Bool := decide (l.length = 1) && l.all (inDig c)
def isDigs (r c : Nat) (l : List Nat) : Bool := decide (l.length = r) && l.all (inDig c)
def dig : Nat → Nat → Nat → List Nat
  | 0, _, _ => []
  | r + 1, c, k => (48 + (k / c ^ r) % c) :: dig r c k
def num (c : Nat) (l : List Nat) : Nat := l.foldl (fun acc d => acc * c + (d - 48)) 0
def Good (r c n : Nat) : Prop := (r, c, n) ∈ [(1, 2, 2), (1, 3, 3), (2, 2, 4), (2, 3, 9), (3, 2, 8)]
instance : Decidable (Good r c n) := by unfold Good; infer_instance
theorem mem_cols {n x : Nat} : x ∈ cols n ↔ inCol n x = true := by
  unfold cols inCol
  rw [List.mem_map, decide_eq_true_iff]
  constructor
  · rintro ⟨k, hk, rfl⟩
    have := List.mem_range.mp hk
    omega
  · intro h
    exact ⟨x - 97, List.mem_range.mpr (by omega), by omega⟩
theorem Good.cases {r c n : Nat} (h : Good r c n) : (r = 1 ∧ c = 2 ∧ n = 2) ∨ (r = 1 ∧ c = 3 ∧ n = 3) ∨ (r = 2 ∧ c = 2 ∧ n = 4) ∨ (r = 2 ∧ c = 3 ∧ n = 9) ∨ (r = 3 ∧ c = 2 ∧ n = 8) := by
  simpa [Good] using h
theorem cols_len (n : Nat) : (cols n).length = n := by simp [cols]
theorem dig_len (r c k : Nat) : (dig r c k).length = r := by
  induction r with
  | zero => rfl
  | succ r ih => rw [dig, List.length_cons, ih]
theorem dig_in {r c k : Nat} (hc : 0 < c) : (dig r c k).all (inDig c) = true := by
  induction r with
  | zero => rfl
  | succ r ih =>
    rw [dig, List.all_cons, ih, Bool.and_true]
    unfold inDig
    have := Nat.mod_lt (k / c ^ r) hc
    rw [decide_eq_true_iff]
    omega
theorem dig_digs {r c k : Nat} (hc : 0 < c) : isDigs r c (dig r c k) = true := by
  unfold isDigs
  rw [dig_len, dig_in hc]
  simp
/-- a list of digits is one of finitely many -/
def digLists : Nat → Nat → List (List Nat)
  | 0, _ => [[]]
  | r + 1, c => (List.range c).flatMap fun d => (digLists r c).map ((48 + d) :: ·)
theorem mem_digLists {r c : Nat} : ∀ {l : List Nat}, isDigs r c l = true → l ∈ digLists r c := by
  induction r with
  | zero =>
    intro l h
    unfold isDigs at h
    rw [Bool.and_eq_true, decide_eq_true_iff] at h
    rw [List.length_eq_zero_iff.mp h.1]
    exact List.mem_singleton.mpr rfl
  | succ r ih =>
    intro l h
    unfold isDigs at h
    rw [Bool.and_eq_true, decide_eq_true_iff] at h
    match l, h with
    | x :: l, ⟨h1, h2⟩ =>
      rw [List.all_cons, Bool.and_eq_true] at h2
      have hx := h2.1
      unfold inDig at hx
      rw [decide_eq_true_iff] at hx
      rw [digLists, List.mem_flatMap]
      refine ⟨x - 48, List.mem_range.mpr (by omega), List.mem_map.mpr ⟨l, ih ?_, ?_⟩⟩
      · unfold isDigs
        rw [Bool.and_eq_true, decide_eq_true_iff]
        exact ⟨by simpa using h1, h2.2⟩
      · rw [show 48 + (x - 48) = x by omega]
theorem num_lt {r c n : Nat} (h : Good r c n) {l : List Nat} (hl : isDigs r c l = true) : num c l < n := by
  suffices z : ∀ l ∈ digLists r c, num c l < n from z l (mem_digLists hl)
  clear hl
  rcases h.cases with ⟨rfl, rfl, rfl⟩ | ⟨rfl, rfl, rfl⟩ | ⟨rfl, rfl, rfl⟩ | ⟨rfl, rfl, rfl⟩ | ⟨rfl, rfl, rfl⟩ <;> decide +kernel
theorem dig_num {r c n : Nat} (h : Good r c n) {l : List Nat} (hl : isDigs r c l = true) : dig r c (num c l) = l := by
  suffices z : ∀ l ∈ digLists r c, dig r c (num c l) = l from z l (mem_digLists hl)
  clear hl
  rcases h.cases with ⟨rfl, rfl, rfl⟩ | ⟨rfl, rfl, rfl⟩ | ⟨rfl, rfl, rfl⟩ | ⟨rfl, rfl, rfl⟩ | ⟨rfl, rfl, rfl⟩ <;> decide +kernel
theorem num_dig {r c n k : Nat} (h : Good r c n) (hk : k < n) : num c (dig r c k) = k := by
  suffices z : ∀ k < n, num c (dig r c k) = k from z k hk
  clear hk
  rcases h.cases with ⟨rfl, rfl, rfl⟩ | ⟨rfl, rfl, rfl⟩ | ⟨rfl, rfl, rfl⟩ | ⟨rfl, rfl, rfl⟩ | ⟨rfl, rfl, rfl⟩ <;> decide +kernel
end Kit

end
section
set_option Elab.async false
set_option maxRecDepth 100000
set_option maxHeartbeats 4000000
namespace Kit
open PySem PySem.Spec PyProof.Rows L2
/-! ### rules whose reading names the written part: it is given -/
section
variable {X : Cx} {e e2 : Expr} {es : List Expr} {ta tb : TE} {t : TA} {f : Str} {pos p apos cpos : Pos} {tg : Expr}
theorem kfld (K : PySem.W.Frag) (he : PE X e ta) (hK : X.K = K := by rfl) (hb : attributeBase e f X.env (eval e X.env) = eval e X.env := by rfl) : PE X (.Attribute e f pos) (tFld K ta f) := hK ▸ pe_fld he hb
theorem kcon (K : PySem.W.Frag) (he : PE X e ta) (hK : X.K = K := by rfl) (hb : attributeBase e f X.env (eval e X.env) = eval e X.env := by rfl) : PE X (.Attribute e f pos) (tCon K ta f) := hK ▸ pe_con he hb
theorem kix_list (K : PySem.W.Frag) (hK : X.K = K := by rfl) : IxR X (rIxL K) := hK ▸ ix_list
theorem kix_tup (K : PySem.W.Frag) (hK : X.K = K := by rfl) : IxR X (rIxT K) := hK ▸ ix_tup
theorem kix_seq (K : PySem.W.Frag) (hK : X.K = K := by rfl) : IxR X (rIx K) := hK ▸ ix_seq
theorem kpi_list (K : PySem.W.Frag) (hl : PE X e ta) (hK : X.K = K := by rfl) : PI X tg e (iList K ta) := hK ▸ pi_list hl
theorem kpi_tup (K : PySem.W.Frag) (hl : PE X e ta) (hK : X.K = K := by rfl) : PI X tg e (iTup K ta) := hK ▸ pi_tup hl
theorem kisi (K : PySem.W.Frag) (hK : X.K = K := by rfl) : CallR X (.builtin "isinstance") (rIsi K) := hK ▸ call_isi
theorem klen_seq (K : PySem.W.Frag) (hK : X.K = K := by rfl) : CallR X (.builtin "len") (fun xs H Q => ∃ p ys, xs = [.ref p] ∧ (SqL K H p ys ∨ SqT K H p ys) ∧ Q (.int ys.length) H) := hK ▸ call_len_seq
theorem klen (K : PySem.W.Frag) (hK : X.K = K := by rfl) : CallR X (.builtin "len") (fun xs H Q => ∃ x n, xs = [x] ∧ LenV K x H n ∧ Q (.int n) H) := hK ▸ call_len
theorem ksum (K : PySem.W.Frag) (hc : X.calm = true) (hK : X.K = K := by rfl) : CallR X (.builtin "sum") (rSum K) := hK ▸ cr_sum hc
theorem kall (K : PySem.W.Frag) (hc : X.calm = true) (hK : X.K = K := by rfl) : CallR X (.builtin "all") (rAll K) := hK ▸ cr_all hc
theorem kin (K : PySem.W.Frag) (hK : X.K = K := by rfl) : OpR X (compareOp .In) (rIn K false) := hK ▸ op_in_seq
theorem knotin (K : PySem.W.Frag) (hK : X.K = K := by rfl) : OpR X (compareOp .NotIn) (rIn K true) := hK ▸ op_notIn_seq
theorem keqD (K : PySem.W.Frag) (hu : X.A.units + 64 < cLine) (hK : X.K = K := by rfl) : OpR X (compareOp .Eq) (rEqD K) := hK ▸ op_eqD hu
theorem kneD (K : PySem.W.Frag) (hu : X.A.units + 64 < cLine) (hK : X.K = K := by rfl) : OpR X (compareOp .NotEq) (rNeD K) := hK ▸ op_neD hu
theorem klist_of (K : PySem.W.Frag) (hK : X.K = K := by rfl) : CallR X (.type "list") (fun xs H Q => ∃ p ys, xs = [.ref p] ∧ (SqL K H p ys ∨ SqT K H p ys) ∧ ∀ l, H l = none → Q (.ref l) (upd H l (.lst ys))) := hK ▸ call_list_of
theorem ksl_list (K : PySem.W.Frag) (hK : X.K = K := by rfl) : SlR X (rSlL K) := hK ▸ sl_list
theorem kjoin (K : PySem.W.Frag) {o : Expr} {to te : TE} (ho : PE X o to) (he : PE X e te) (hK : X.K = K := by rfl) (hs : starEach [e] X.env = [(false, eval e X.env)] := by rfl) (hbase : attributeBase o "join" X.env (eval o X.env) = eval o X.env := by rfl) (hline : (apos.endLine == cpos.line) = true := by rfl) :
    PE X (.Call (.Attribute o "join" apos) [e] [] cpos) (tM1 (fun x xs H Q => ∃ a p, ∃ ys : List Str, x = .str a ∧ xs = [.ref p] ∧ (SqL K H p (ys.map V.str) ∨ SqT K H p (ys.map V.str)) ∧ (ys.map (·.length)).sum + ys.length * a.length ≤ 16777216 ∧ Q (.str (Txt.join a ys)) H) to te) := hK ▸ pe_join ho he hs hbase hline
end
end Kit

end
section
set_option Elab.async false
set_option linter.all false
set_option maxRecDepth 100000
set_option maxHeartbeats 4000000
namespace Kit
open PySem PySem.Spec PyProof.Rows L2
/-! ### an own == : what its def promises, of any other thing whose type does not come first -/
section
variable {X : Cx} {C : Addr} {k j : Nat} {sp : Sp}
/-- what the type of the other thing must be -/
def OtherOk (K : PySem.W.Frag) (C : Addr) (H : Hp) (y : V) : Prop := (∃ i, y = .int i) ∨ (∃ z, y = .str z) ∨ ∃ b dx fs, y = .ref b ∧ H b = some (.ins C dx fs)
def rEqO (K : PySem.W.Frag) (C : Addr) (sp : Sp) : R2 := fun x y H Q => ∃ a dx fs, x = .ref a ∧ H a = some (.ins C dx fs) ∧ OtherOk K C H y ∧ sp [x, y] H (fun v G => ∃ b, v = .bl b ∧ Q (.bl b) G) E0
theorem eqO (K : PySem.W.Frag) (c : CanM X.prog X.w X.K X.mg X.base k C "__eq__" sp) (hr : Room j X.A) (hk : k ≤ j) (hni : PySem.W.notFirst K C (.type "int") = true) (hns : PySem.W.notFirst K C (.type "str") = true) (hK : X.K = K := by rfl) : OpR X (compareOp .Eq) (rEqO K C sp) := by
  subst hK
  obtain ⟨f, fd, ps, F, hc, hm, b⟩ := c.ex
  intro pins s σ H x y v u Q I rx ry hq
  obtain ⟨a, dx, fs, rfl, ha, ho, h⟩ := hq
  cases rx
  show wpAny (model X.prog X.w) X.A (richCompare .Eq (.ref a) u) (EP X pins σ Q) X.xe s
  obtain ⟨mA, J, _⟩ := ins_get I.hok ha
  obtain ⟨od, J, _⟩ := J.look
  obtain ⟨m, hF⟩ := I.fr
  have tb : ∃ tb, PySem.W.Looks (model X.prog X.w) s.heap (typeOf u) tb ∧ PySem.W.notFirst X.K C tb = true := by
    rcases ho with ⟨i, rfl⟩ | ⟨z, rfl⟩ | ⟨b', dy, gs, rfl, hb'⟩
    · obtain ⟨t, rfl⟩ := ry
      exact ⟨.type "int", .now, hni⟩
    · obtain ⟨t, rfl⟩ := ry
      exact ⟨.type "str", .now, hns⟩
    · cases ry
      obtain ⟨mB, J', _⟩ := ins_get I.hok hb'
      obtain ⟨od', J', _⟩ := J'.look
      exact ⟨.ref C, J'.type, by simp [PySem.W.notFirst]⟩
  obtain ⟨tb, htb, hnf⟩ := tb
  refine PySem.W.cmp_K (op := .Eq) (tb := tb) (hr.mono hk).units0 hF I.ok.mod.kin J htb hnf hm.at_ hm.fn ?_
  refine wpAny_mono (run_fn (us := [.ref a, u]) (vs := [.ref a, y]) (dvs := []) (ds := []) F (hr.mono hk) b .nil passL I (.cons rfl (.cons ry .nil)) h) (fun r s' z => ?_) fun _ _ x => x
  obtain ⟨v, H', I', rv, bb, rfl, q⟩ := z
  cases rv
  exact ⟨.bl bb, H', I', rfl, q⟩
/-- len(o) by an own __len__ -/
def rLenO (C : Addr) (sp : Sp) : List V → Hp → VK → Prop := fun xs H Q => ∃ a dx fs, xs = [.ref a] ∧ H a = some (.ins C dx fs) ∧ sp [.ref a] H (fun v G => ∃ n : Int, v = .int n ∧ 0 ≤ n ∧ n < 2 ^ 63 ∧ Q (.int n) G) E0
theorem lenO (c : CanM X.prog X.w X.K X.mg X.base k C "__len__" sp) (hr : Room j X.A) (hk : k + 1 ≤ j) : CallR X (.builtin "len") (rLenO C sp) := by
  obtain ⟨f, fd, ps, F, hc, hm, b⟩ := c.ex
  intro pins s σ H xs us Q I r h
  obtain ⟨a, dx, fs, rfl, ha, h⟩ := h
  rw [Vals.ref1 r]
  obtain ⟨mA, J, _⟩ := ins_get I.hok ha
  obtain ⟨od, J, _⟩ := J.look
  obtain ⟨m, hF⟩ := I.fr
  refine PySem.W.len_K hF I.ok.mod.kin J hm.at_ hm.fn ?_
  have hr1 : Room k X.A.in1 := (hr.mono hk).in1
  have e0 : Env0 X.prog X.w X.K X.mg X.base X.A.in1 X.stack s H := by
    have e := I.env0
    exact ⟨e.frames, e.mod, e.bs, e.bsz, e.funs, e.frf, e.hok, e.bare⟩
  have hl := F.len _ _ _ _ h
  have bb := b s [.ref a] I.kIn (by simpa using hl)
  refine wpAny_call (codeAny_mono (F.run X.A.in1 X.stack s H ⟨[.ref a], []⟩ [.ref a] [.ref a] _ E0 hr1 e0 (by simpa using bb) (.cons rfl .nil) h) ?_)
  intro z s' hq
  cases z with
  | error e =>
    obtain ⟨_, _, _, _, _, _, _, _, _, _, _, _, y⟩ := hq
    exact y.elim
  | ok fl =>
    cases fl with
    | ret w =>
      obtain ⟨v, H', I', rz, n, rfl, h0, h1, q⟩ := I.after hq
      obtain ⟨t, rfl⟩ := rz
      exact ⟨⟨h0, h1⟩, .int n, H', I'.tok _, ⟨_, rfl⟩, q⟩
    | next => exact hq.elim
    | brk => exact hq.elim
    | cont => exact hq.elim
theorem vals_get : ∀ {xs : List V} {us : List Value}, xs.length = us.length → (∀ (i : Nat) x u, xs[i]? = some x → us[i]? = some u → RelV x u) → Vals xs us
  | [], [], _, _ => .nil
  | x :: xs, u :: us, h, f => .cons (f 0 x u rfl rfl) (vals_get (by simpa using h) fun i y v h1 h2 => f (i + 1) y v (by simpa using h1) (by simpa using h2))
/-- list(text) -/
theorem listS (hc : X.calm = true) : CallR X (.type "list") (fun xs H Q => ∃ l : List Nat, xs = [tx l] ∧ l.length ≤ 100000 ∧ ∀ p, H p = none → Q (.ref p) (upd H p (.lst (l.map fun x => tx [x])))) := by
  intro pins s σ H xs us Q I r h
  obtain ⟨l, rfl, hl, q⟩ := h
  cases r with
  | cons rx rr =>
    cases rr
    obtain ⟨t, rfl⟩ := rx
    refine call_list_str (I.ok.hd hc) (S l) t (hn := by show (S l).length ≤ _; rw [S_len]; exact szl hl) ?_
    intro h' tk acc c' hk hS hit
    refine ⟨.ref s.heap.objs.size, _, I.laid (t' := tk) (o := .lst (l.map fun x => tx [x])) hk (Nat.le_refl _) ?_, rfl, q _ (I.hok.fresh (Nat.le_refl _))⟩
    have hn : acc.toList.length = l.length := by
      rw [Array.length_toList, hit.1]
      exact S_len l
    refine ⟨szl (by rw [List.length_map]; exact hl), acc.toList, c', vals_get (by rw [List.length_map, hn]) ?_, hS⟩
    intro i v u hv hu
    obtain ⟨ch, t', h1, rfl⟩ := hit.2 i u (by rw [← Array.getElem?_toList]; exact hu)
    have h1 : l[i]? = some ch := by
      have z : (S l).cps[i]? = l[i]? := List.getElem?_toArray ..
      rw [← z]
      exact h1
    rw [List.getElem?_map, h1] at hv
    cases hv
    exact ⟨t', rfl⟩
end

/-! ### enumerate(xs, start=k) -/
def ItS (a : Addr) (k : Int) : It :=
  ⟨fun i G => ∃ (xs : List V) (x : V), G a = some (.lst xs) ∧ xs[i]? = some x, fun i G v G' => ∃ T x, v = .ref T ∧ G T = none ∧ G' = upd G T (.tup [.int (k + (i : Nat)), x]) ∧ ∀ xs, G a = some (.lst xs) → xs[i]? = some x, fun i G => ∃ xs : List V, G a = some (.lst xs) ∧ xs.length = i⟩
theorem turn_S {P : Program} {w : World} {K : PySem.W.Frag} {elts : List Expr} {kk : Nat} {tpos : Pos} (a e it : Addr) (k : Int) :
    Turn P w K (.Tuple elts kk tpos) (ItS a k) [e, it] e (fun i h => (∃ old, IsEnum h e it (k + ((i : Nat) : Int)) old) ∧ h.IsListIter it a i ∧ e ≠ it) where
  mem := by simp
  obj := by
    rintro i h ⟨⟨old, he⟩, ⟨o, ho, hc, hd⟩, _⟩ b hb
    have z : b = e ∨ b = it := by simpa using hb
    rcases z with rfl | rfl
    · exact ⟨_, he, fun v q => nomatch q⟩
    · exact ⟨o, ho, fun v q => by rw [hd] at q; cases q⟩
  keep := by
    rintro i h h' ⟨⟨old, he⟩, hi, hne⟩ k
    exact ⟨⟨old, k e (by simp) _ he⟩, hi.at fun o q => k it (by simp) o q, hne⟩
  item := by
    intro X hP hw hK hc i pins s σ H E I hf st hg
    subst hP hw hK
    obtain ⟨⟨old, he⟩, hit, hne⟩ := st
    obtain ⟨xs, x, hq, hx⟩ := hg
    obtain ⟨hzz, its, nn, rv, hl0⟩ := (show ObjOk X.prog X.w H s.heap a (.lst xs) from I.hok a _ hq)
    have hL : s.heap.IsList a its.toArray := ⟨_, hl0, rfl, nn, rfl⟩
    obtain ⟨u, hu, ru⟩ := rv.get hx
    have nai : a ≠ it := fun z => by
      have := (hf it (by simp)).1
      rw [← z, hq] at this
      cases this
    have nae : a ≠ e := fun z => by
      have := (hf e (by simp)).1
      rw [← z, hq] at this
      cases this
    have hlen : i < its.toArray.size := by
      have z := (List.getElem?_eq_some_iff.mp hx).1
      have y := rv.length
      rw [List.size_toArray]
      omega
    have le : e < s.heap.objs.size := Heap.lt_size he
    have li : it < s.heap.objs.size := by
      obtain ⟨_, q, _⟩ := hit
      exact Heap.lt_size q
    refine wpAny_pyNext_enum_itemC (Draws.list (A := X.A.in1) (show X.A.in1.handled = none from I.ok.hd hc) it a nai its.toArray) he ⟨hit, hL⟩ hlen hne (by simp [hne, Ne.symm nae]) ?_
    intro u' h' tk hu' ho hit' hT hsz hk
    obtain rfl : u' = u := by
      have z : its[i]? = some u' := by simpa using hu'
      rw [hu] at z
      exact (Option.some.inj z).symm
    refine ⟨_, rfl, wpAny_letOwnedTupleGo_enum (s := { s with heap := h', toks := tk + 1 }) ho ?_⟩
    intro h'' he' sb
    have hT2 : h''.get? s.heap.objs.size = some { cls := .type "tuple", data := .seq #[.int (k + (i : Nat)) tk, u'] } := (sb.2 _ (Nat.ne_of_gt le)).trans hT
    have new : ObjOk X.prog X.w (upd H s.heap.objs.size (.tup [.int (k + (i : Nat)), x])) h'' s.heap.objs.size (.tup [.int (k + (i : Nat)), x]) :=
      ⟨by show 2 ≤ sizeLine; decide, [.int (k + (i : Nat)) tk, u'], .cons ⟨_, rfl⟩ (.cons ru .nil), ⟨_, hT2, rfl, _, rfl⟩⟩
    have J : Inv X pins σ (upd H s.heap.objs.size (.tup [.int (k + (i : Nat)), x])) { s with heap := h'', toks := tk + 1 } :=
      I.turnedNew (ch := [e, it]) (fun b ob hb q => (sb.2 b (fun z => hb (by simp [z]))).trans (hk b ob (fun z => hb (by simp [z])) (fun z => hb (by simp [z])) q)) hf (Nat.le_refl _) new
    refine ⟨.ref s.heap.objs.size, _, J, rfl, ⟨_, x, rfl, I.hok.fresh (Nat.le_refl _), rfl, fun ys hy => by rw [hq] at hy; cases hy; exact hx⟩, ⟨⟨u', ?_⟩, hit'.1.at fun o q => (sb.2 it (Ne.symm hne)).trans q, hne⟩, ?_⟩
    · rw [show k + ((i + 1 : Nat) : Int) = k + (i : Int) + 1 by omega]
      exact he'
    · intro b hb
      have hb' : b < s.heap.objs.size := by
        have z : b = e ∨ b = it := by simpa using hb
        rcases z with rfl | rfl
        · exact le
        · exact li
      rw [upd_ne (Nat.ne_of_lt hb')]
      exact (hf b hb).1
  done := by
    intro X hP hw hK hc i pins s σ H E I hf st hg
    subst hP hw hK
    obtain ⟨⟨old, he⟩, hit, hne⟩ := st
    obtain ⟨xs, hq, hx⟩ := hg
    obtain ⟨hzz, its, nn, rv, hl0⟩ := (show ObjOk X.prog X.w H s.heap a (.lst xs) from I.hok a _ hq)
    have hL : s.heap.IsList a its.toArray := ⟨_, hl0, rfl, nn, rfl⟩
    obtain ⟨f0, f1, f2, f3, f4, f5⟩ := hf it (by simp)
    have hl := rv.length
    have nai : a ≠ it := fun z => by
      rw [← z, hq] at f0
      cases f0
    have nae : a ≠ e := fun z => by
      have := (hf e (by simp)).1
      rw [← z, hq] at this
      cases this
    have hz : its.toArray.size = i := by
      rw [List.size_toArray]
      omega
    subst hz
    exact wpAny_pyNext_enum_endD (Draws.list (A := X.A.in1) (show X.A.in1.handled = none from I.ok.hd hc) it a nai its.toArray) he ⟨hit, hL⟩ fun h' eb => ⟨rfl, I.turned (t' := s.toks) (fun b o hb q => eb b o hb q) f0 f1 f3 f4 f5⟩
  self := by
    rintro A i s Q E ⟨⟨_, he⟩, _⟩ h
    exact wpAny_pyIter_enum he h
theorem walk_S {a : Addr} {k : Int} {xs : List V} : Walk (ItS a k) xs.length (fun G => G a = some (.lst xs)) (YPair (fun i => some (.int (k + (i : Nat)))) (fun i => xs[i]?)) := by
  refine ⟨fun i G hi q => ⟨xs, xs[i], q, List.getElem?_eq_getElem hi⟩, fun G q => ⟨xs, q, rfl⟩, ?_⟩
  rintro i G v G' hi q ⟨T, x, rfl, hT, rfl, hx⟩
  exact ⟨T, _, x, rfl, hT, rfl, rfl, hx xs q⟩
def iEnumS (K : PySem.W.Frag) (t tk : TA) : TI := fun σ H R => t σ H fun vs G => tk σ G fun zs G' => ∃ a xs k, vs = [.ref a] ∧ zs = [.int k] ∧ -(2 ^ 63) ≤ k ∧ k < 2 ^ 63 ∧ G' a = some (.lst xs) ∧ R (ItS a k) G'
theorem kws_type {M : Model} {A : Around} {E : Value → Shared → Prop} {s : Shared} {pos : Pos} {T : String} {args : List (Bool × Sem Value)} {keywords : List (Option Str × Sem Value)} {Q : Value → Shared → Prop}
    (hplain : args.any (·.1) = false) (hkw : keywords.any (·.1.isNone) = false) (h : wpAny M A (evalArgs (.type T) true args keywords) (fun a s₁ => wpAny M A (call (.type T) a.pos a.kw) Q E s₁) E s) : wpAny M A (callWith pos (.type T) [] args keywords) Q E s := by
  unfold callWith
  refine wpAny_bind (wpAny_holding (wpAny_mono h ?_ fun _ _ x => x))
  intro a s₁ h₁
  refine wpAny_bind (wpAny_standAt ?_)
  simp only [hplain, hkw, Bool.or_false]
  refine wpAny_bind (wpAny_pure ?_)
  exact wpAny_bind (wpAny_mono h₁ (fun r s₂ hr => wpAny_bind (wpAny_holding (wpAny_point (wpAny_pure hr)))) fun _ _ x => x)
theorem pi_enumS {X : Cx} {e : Expr} {t tk : TA} {p pos tpos kp : Pos} {elts : List Expr} {kk : Nat} {kv : Expr} (hg : Gl X "enumerate") (hm : X.mg "enumerate" = none) (ha : PA X [e] t) (hk : PK X [⟨some "start", kv, kp⟩] tk)
    (he : backTo pos (starEach [e] X.env) = (false, eval e X.env) :: backTo pos (starEach [] X.env) := by rfl) (hpl : (backTo pos (starEach [e] X.env)).any (·.1) = false := by rfl)
    (hall : (backToKw pos (keywordEach [⟨some "start", kv, kp⟩] X.env)).all (·.1.isSome) = true := by rfl) (hnone : (backToKw pos (keywordEach [⟨some "start", kv, kp⟩] X.env)).any (·.1.isNone) = false := by rfl)
    (hks : (backToKw pos (keywordEach [⟨some "start", kv, kp⟩] X.env)).filterMap (·.1) = [("start" : Str)] := by rfl) :
    PI X (.Tuple elts kk tpos) (.Call (.Name "enumerate" p) [e] [⟨some "start", kv, kp⟩] pos) (iEnumS X.K t tk) := by
  constructor
  intro pins s σ H R I h
  refine wpAny_Call_Name_kw (ld_blt I hg hm boot_enumerate ?_ (by decide) (by decide))
  refine kws_type hpl hnone ?_
  have run := thn (ha.run pos pins s σ H _ I h) fun us s1 (z : AP X pins σ _ us s1) => (show wpAny (model X.prog X.w) X.A (evalAll ((backToKw pos (keywordEach [⟨some "start", kv, kp⟩] X.env)).map (·.2))) (fun ws s2 => wpAny (model X.prog X.w) X.A (call (.type "enumerate") us ([("start" : Str)].zip ws))
      (fun v s1 => wpAny (model X.prog X.w) X.A (pyIter v) (PIE X pins σ (.Tuple elts kk tpos) R) X.xe s1) X.xe s2) X.xe s1 from by
    obtain ⟨vs, G, I1, r1, q1⟩ := z
    refine thn (hk.run pos pins s1 σ G _ I1 q1) ?_
    rintro ws s2 ⟨zs, G', I2, r2, a, xs, k, rfl, rfl, hk0, hk1, hq, q⟩
    cases r1 with
    | cons ra rr =>
      cases rr
      cases ra
      cases r2 with
      | cons rk rr =>
        cases rr
        obtain ⟨tk', rfl⟩ := rk
        obtain ⟨hzz, its, nn, rv, hl0⟩ := (show ObjOk X.prog X.w G' s2.heap a (.lst xs) from I2.hok a _ hq)
        have hL : s2.heap.IsList a its.toArray := ⟨_, hl0, rfl, nn, rfl⟩
        refine enum_begins_start (begins_list a its.toArray) hL hk0 hk1 ?_
        intro h' hen hit hsz hkeep
        refine wpAny_pyIter_enum hen ?_
        have J : Inv X pins σ G' { s2 with heap := h' } := I2.kept (t' := s2.toks) hkeep
        refine ⟨s2.heap.objs.size + 1, [s2.heap.objs.size + 1, s2.heap.objs.size], _, _, G', rfl, J, turn_S a (s2.heap.objs.size + 1) s2.heap.objs.size k, ⟨⟨.none, by simpa using hen⟩, ⟨_, hit, rfl, rfl⟩, Nat.succ_ne_self _⟩, ?_, q⟩
        intro b hb
        have z : b = s2.heap.objs.size + 1 ∨ b = s2.heap.objs.size := by simpa using hb
        have hle : s2.heap.objs.size ≤ b := by
          rcases z with z | z
          · rw [z]
            exact Nat.le_succ _
          · rw [z]
            exact Nat.le_refl _
        exact I2.fpOk hle (I2.hok.fresh hle))
  rw [he] at run ⊢
  refine PyProof.Rows.evalArgs_kwB hall ?_
  rw [hks]
  exact run
end Kit

end
section
set_option Elab.async false
set_option linter.all false
set_option maxRecDepth 100000
set_option maxHeartbeats 4000000
namespace Kit
open PySem PySem.Spec PyProof.Rows L2
/-! ### == and != of data without dicts, any texts -/
section
variable {X : Cx}
def rEqP (K : PySem.W.Frag) : R2 := fun x y H Q => ∃ d e, Dp K H x d ∧ Dp K H y e ∧ d.plain = true ∧ e.plain = true ∧ d.depth ≤ 64 ∧ Q (.bl (PyData.eqv d e)) H
def rNeP (K : PySem.W.Frag) : R2 := fun x y H Q => ∃ d e, Dp K H x d ∧ Dp K H y e ∧ d.plain = true ∧ e.plain = true ∧ d.depth ≤ 64 ∧ Q (.bl (!PyData.eqv d e)) H
theorem keqP (K : PySem.W.Frag) (hu : X.A.units + 64 < cLine) (hK : X.K = K := by rfl) : OpR X (compareOp .Eq) (rEqP K) := by
  subst hK
  intro pins s σ H x y v u Q I rx ry h
  obtain ⟨d, e, hd, he, sd, se, dd, q⟩ := h
  obtain ⟨as, r1⟩ := Dp.reads I d x v hd rx
  obtain ⟨bs, r2⟩ := Dp.reads I e y u he ry
  exact SeqAt.eq_plain r1 r2 sd se (by omega) ⟨.bl _, H, I, rfl, q⟩
theorem kneP (K : PySem.W.Frag) (hu : X.A.units + 64 < cLine) (hK : X.K = K := by rfl) : OpR X (compareOp .NotEq) (rNeP K) := by
  subst hK
  intro pins s σ H x y v u Q I rx ry h
  obtain ⟨d, e, hd, he, sd, se, dd, q⟩ := h
  obtain ⟨as, r1⟩ := Dp.reads I d x v hd rx
  obtain ⟨bs, r2⟩ := Dp.reads I e y u he ry
  exact SeqAt.ne_plain r1 r2 sd se (by omega) ⟨.bl _, H, I, rfl, q⟩
end
/-- lists of texts as such data -/
def pdL (ls : List (List Nat)) : PyData := .list (ls.map fun l => .str (S l))
theorem dpAll_txt {K : PySem.W.Frag} {H : Hp} : ∀ ls : List (List Nat), DpAll K H (ls.map tx) (ls.map fun l => .str (S l))
  | [] => .nil
  | l :: ls => .cons (.str _) (dpAll_txt ls)
theorem dp_txt {K : PySem.W.Frag} {H : Hp} {p : Addr} {ls : List (List Nat)} (h : H p = some (.lst (ls.map tx))) : Dp K H (.ref p) (pdL ls) := .lst (seqL_of h) (dpAll_txt ls)
theorem plainL (ls : List (List Nat)) : (pdL ls).plain = true := by
  unfold pdL PyData.plain
  induction ls with
  | nil => rfl
  | cons l ls ih =>
    rw [List.map_cons]
    unfold PyData.plainAll
    rw [ih]
    rfl
theorem depthAllL (ls : List (List Nat)) : PyData.depthAll (ls.map fun l => .str (S l)) ≤ 1 := by
  induction ls with
  | nil => simp [PyData.depthAll]
  | cons l ls ih =>
    rw [List.map_cons]
    unfold PyData.depthAll
    unfold PyData.depth
    omega
theorem depthL (ls : List (List Nat)) : (pdL ls).depth ≤ 64 := by
  unfold pdL PyData.depth
  have := depthAllL ls
  omega
end Kit

end
section
set_option Elab.async false
set_option linter.all false
set_option maxRecDepth 100000
set_option maxHeartbeats 4000000
namespace Kit
open PySem PySem.Spec PyProof.Rows L2
/-! ### from what the head wrote down to the text's facts -/
section
variable {K : PySem.W.Frag} {h : Heap} {mg : Str → Option Value}
theorem defT_of {x : Str} {st : Stmt} {f : Addr} {od an : Option Addr} {sl : Array (Option Value)} {oc kV dc pm cd ct : Value} (X : K.In h) (G : h.Ns mainGlobals mg) (a1 : PySem.W.nsIn K mainGlobals x = some (some (.ref f)))
    (l1 : K.lookup f = some ⟨oc, od, .func (PySem.W.fnOf x x (defArgs st) (defBody st) (defScope st) .none kV dc pm an cd ct), sl⟩) (c1 : PySem.W.codeIn K cd x = true) (k1 : PySem.W.keepIn K (.ref f) = true) : DefT K mg x st :=
  ⟨f, _, fun_mk (st := st) l1 c1 k1, PySem.W.mg_of X G a1⟩
theorem metT_of {C : Addr} {m q : Str} {st : Stmt} {f : Addr} {od an : Option Addr} {sl : Array (Option Value)} {oc kV dc pm cd ct : Value} (a1 : PySem.W.findIn K (.ref C) m = some (some (.ref f))) (i1 : PySem.W.isFn K (.ref f) = true)
    (l1 : K.lookup f = some ⟨oc, od, .func (PySem.W.fnOf m q (defArgs st) (defBody st) (defScope st) .none kV dc pm an cd ct), sl⟩) (c1 : PySem.W.codeIn K cd q = true) (k1 : PySem.W.keepIn K (.ref f) = true) : MetT K C m q st :=
  ⟨f, _, fun_mk (st := st) l1 c1 k1, ⟨a1, i1, k1⟩⟩
theorem clsT_of {C : Addr} {x : Str} (X : K.In h) (G : h.Ns mainGlobals mg) (aC : PySem.W.nsIn K mainGlobals x = some (some (.ref C))) (pg : PySem.W.plainGet K C Str.empty = true) (hd : PySem.W.hasDictIn K C = true) (po : PySem.W.plainOver K C = true)
    (sa : PySem.W.findIn K (.ref C) "__setattr__" = some (some (.builtin "object.__setattr__"))) (mk : PySem.W.makesIn K C = true) (kc : PySem.W.keepIn K (.ref C) = true) : ClsT K mg C x := ⟨⟨pg, hd, po, sa⟩, PySem.W.mg_of X G aC, mk, kc⟩
theorem errT_of {C : Addr} {x q fld : Str} {st : Stmt} {f : Addr} {od an : Option Addr} {sl : Array (Option Value)} {oc kV dc pm cd ct : Value}
    {nm qn : Str} {N : Addr} {bs bm : List Value} {sn : List Str} {sub : List Value} {ab : Bool} {col : Option Bool} {dd : Option Addr} {m0 m1 m2 m3 m5 : Option Value}
    (X : K.In h) (G : h.Ns mainGlobals mg) (aC : PySem.W.nsIn K mainGlobals x = some (some (.ref C)))
    (xL : K.lookup C = some (excClassObj nm qn C N bs bm true sn sub ab col dd m0 m1 m2 m3 m5 "ValueError.__new__")) (rf : PySem.HandSPX.refsVE bm = true)
    (sa : PySem.W.findIn K (.ref C) "__setattr__" = some (some (.builtin "object.__setattr__"))) (eC : PySem.W.subIn K (.ref C) (.type "BaseException") = some true) (tC : PySem.W.typeIn K (.ref C) = some (.type "type")) (kC : PySem.W.keepIn K (.ref C) = true)
    (nb : PySem.W.findIn K (.ref C) fld = some none)
    (a1 : PySem.W.findIn K (.ref C) "__init__" = some (some (.ref f))) (t1 : PySem.W.typeIn K (.ref f) = some (.type "function"))
    (l1 : K.lookup f = some ⟨oc, od, .func (PySem.W.fnOf "__init__" q (defArgs st) (defBody st) (defScope st) .none kV dc pm an cd ct), sl⟩) (c1 : PySem.W.codeIn K cd q = true) (k1 : PySem.W.keepIn K (.ref f) = true) : ErrT K mg C x q fld st :=
  ⟨PySem.W.mg_of X G aC, ⟨⟨nm, qn, N, bs, bm, sn, sub, ab, col, dd, m0, m1, m2, m3, m5, xL, rf⟩, sa, eC, tC, kC⟩, nb, f, _, fun_mk (st := st) l1 c1 k1, a1, t1⟩
theorem errC_of {C : Addr} (ga : PySem.W.findIn K (.ref C) "__getattribute__" = some (some (.builtin "BaseException.__getattribute__"))) (gg : PySem.W.findIn K (.ref C) "__getattr__" = some none) (eC : PySem.W.subIn K (.ref C) (.type "BaseException") = some true) (hd : PySem.W.hasDictIn K C = true)
    (ha : PySem.W.findIn K (.ref C) "__class__" = some (some (.builtin "object.__class__"))) (hn : PySem.W.specialIn K (.builtin "object.__class__") "__get__" = some (some (.builtin "getset_descriptor.__get__")))
    (ht : PySem.W.takesIn K (.builtin "object.__class__") = some true) (hm : PySem.W.mroIn K C (.type "object") = some true) (hc : PySem.W.isClsIn K C = true) : ErrC K C := ⟨⟨ga, gg, eC, hd⟩, ha, hn, ht, hm, hc⟩
theorem gval_of {x : Str} {v : V} {u : Value} (X : K.In h) (G : h.Ns mainGlobals mg) (a1 : PySem.W.nsIn K mainGlobals x = some (some u)) (r : RelV v u) : ∃ u, mg x = some u ∧ RelV v u := ⟨u, PySem.W.mg_of X G a1, r⟩
theorem kitR_of {t : Value} {C : Addr} {b : Bool} (hc : PySem.W.isClsIn K C = true) (tC : PySem.W.typeIn K (.ref C) = some (.type "type")) (s : PySem.W.subIn K t (.ref C) = some b) (ne : (t == .ref C) = false) : PySem.W.kitOne K t (.ref C) = some b := by
  have hc : (PySem.W.clsIn K C).isSome = true := hc
  show (if (t == .ref C) = true then some true else if ((PySem.W.clsIn K C).isSome && PySem.W.typeIn K (.ref C) == some (.type "type")) = true then PySem.W.subIn K t (.ref C) else none) = some b
  rw [ne, if_neg (by decide), hc, tC, if_pos (by rfl)]
  exact s
theorem kitS_of {C : Addr} : PySem.W.kitOne K (.ref C) (.ref C) = some true := by
  show (if ((Value.ref C) == .ref C) = true then some true else _) = some true
  rw [if_pos (by simp)]
theorem kitT_of {C : Addr} {n : String} {b : Bool} (m : PySem.W.kitMeta n = true) (s : PySem.W.subIn K (.ref C) (.type n) = some b) : PySem.W.kitOne K (.ref C) (.type n) = some b := by
  show (if ((Value.ref C) == .type n) = true then some true else if PySem.W.kitMeta n = true then PySem.W.subIn K (.ref C) (.type n) else none) = some b
  rw [if_neg (fun q => by cases q), if_pos m]
  exact s
theorem exm_of {cls : Value} {S : Addr} {b : Bool} (h1 : PySem.W.subIn K (.ref S) (.type "BaseException") = some true) (h2 : PySem.W.isClsIn K S = true) (h3 : PySem.W.typeIn K (.ref S) = some (.type "type")) (h4 : PySem.W.subIn K cls (.ref S) = some b) : PySem.W.exmOne K cls (.ref S) = some b := by
  have e1 : (PySem.W.subIn K (.ref S) (.type "BaseException") == some true) = true := by rw [h1] <;> rfl
  have e2 : ((PySem.W.clsIn K S).isSome && PySem.W.typeIn K (.ref S) == some (.type "type")) = true := by
    have h2' : (PySem.W.clsIn K S).isSome = true := h2
    rw [h2', h3] <;> rfl
  show (if (PySem.W.subIn K (.ref S) (.type "BaseException") == some true) = true then (if ((PySem.W.clsIn K S).isSome && PySem.W.typeIn K (.ref S) == some (.type "type")) = true then PySem.W.subIn K cls (.ref S) else none) else none) = some b
  rw [if_pos e1, if_pos e2]
  exact h4
end
end Kit

end
section
set_option Elab.async false
set_option maxRecDepth 100000
set_option maxHeartbeats 4000000
namespace K00
open PySem PySem.Spec PyProof.Rows L2 Kit
def top (i : Nat) : Stmt := PySem.Challenge.pw_galloon_k00_columns_and_pictures.main.body.getD i (.Pass ⟨0, 0, 0, 0⟩)
abbrev s_BadScheme___init__ : Stmt := (inClass (top 2) 0)
abbrev N_BadScheme___init__ : List Str := ["self", "part"]
abbrev P_BadScheme___init__ : List Str := ["self", "part"]
theorem sc_BadScheme___init__ : FnScope N_BadScheme___init__ P_BadScheme___init__ (defScope s_BadScheme___init__) := ⟨rfl, rfl, rfl, by decide +kernel, rfl, by decide +kernel, by decide +kernel⟩
theorem bd_BadScheme___init__ : BindsPlain s_BadScheme___init__ "__init__" "BadScheme.__init__" P_BadScheme___init__ := fun _ _ _ _ _ _ us hl => match us, hl with | [_, _], _ => rfl
abbrev s_BadColumn___init__ : Stmt := (inClass (top 3) 0)
abbrev N_BadColumn___init__ : List Str := ["self", "text"]
abbrev P_BadColumn___init__ : List Str := ["self", "text"]
theorem sc_BadColumn___init__ : FnScope N_BadColumn___init__ P_BadColumn___init__ (defScope s_BadColumn___init__) := ⟨rfl, rfl, rfl, by decide +kernel, rfl, by decide +kernel, by decide +kernel⟩
theorem bd_BadColumn___init__ : BindsPlain s_BadColumn___init__ "__init__" "BadColumn.__init__" P_BadColumn___init__ := fun _ _ _ _ _ _ us hl => match us, hl with | [_, _], _ => rfl
abbrev s_BadSpots___init__ : Stmt := (inClass (top 4) 0)
abbrev N_BadSpots___init__ : List Str := ["self", "text"]
abbrev P_BadSpots___init__ : List Str := ["self", "text"]
theorem sc_BadSpots___init__ : FnScope N_BadSpots___init__ P_BadSpots___init__ (defScope s_BadSpots___init__) := ⟨rfl, rfl, rfl, by decide +kernel, rfl, by decide +kernel, by decide +kernel⟩
theorem bd_BadSpots___init__ : BindsPlain s_BadSpots___init__ "__init__" "BadSpots.__init__" P_BadSpots___init__ := fun _ _ _ _ _ _ us hl => match us, hl with | [_, _], _ => rfl
abbrev s_BadStrip___init__ : Stmt := (inClass (top 5) 0)
abbrev N_BadStrip___init__ : List Str := ["self", "text"]
abbrev P_BadStrip___init__ : List Str := ["self", "text"]
theorem sc_BadStrip___init__ : FnScope N_BadStrip___init__ P_BadStrip___init__ (defScope s_BadStrip___init__) := ⟨rfl, rfl, rfl, by decide +kernel, rfl, by decide +kernel, by decide +kernel⟩
theorem bd_BadStrip___init__ : BindsPlain s_BadStrip___init__ "__init__" "BadStrip.__init__" P_BadStrip___init__ := fun _ _ _ _ _ _ us hl => match us, hl with | [_, _], _ => rfl
abbrev s_BadPicture___init__ : Stmt := (inClass (top 6) 0)
abbrev N_BadPicture___init__ : List Str := ["self", "line"]
abbrev P_BadPicture___init__ : List Str := ["self", "line"]
theorem sc_BadPicture___init__ : FnScope N_BadPicture___init__ P_BadPicture___init__ (defScope s_BadPicture___init__) := ⟨rfl, rfl, rfl, by decide +kernel, rfl, by decide +kernel, by decide +kernel⟩
theorem bd_BadPicture___init__ : BindsPlain s_BadPicture___init__ "__init__" "BadPicture.__init__" P_BadPicture___init__ := fun _ _ _ _ _ _ us hl => match us, hl with | [_, _], _ => rfl
abbrev s_BadRow___init__ : Stmt := (inClass (top 7) 0)
abbrev N_BadRow___init__ : List Str := ["self", "row"]
abbrev P_BadRow___init__ : List Str := ["self", "row"]
theorem sc_BadRow___init__ : FnScope N_BadRow___init__ P_BadRow___init__ (defScope s_BadRow___init__) := ⟨rfl, rfl, rfl, by decide +kernel, rfl, by decide +kernel, by decide +kernel⟩
theorem bd_BadRow___init__ : BindsPlain s_BadRow___init__ "__init__" "BadRow.__init__" P_BadRow___init__ := fun _ _ _ _ _ _ us hl => match us, hl with | [_, _], _ => rfl
abbrev s_BadIndex___init__ : Stmt := (inClass (top 8) 0)
abbrev N_BadIndex___init__ : List Str := ["self", "at"]
abbrev P_BadIndex___init__ : List Str := ["self", "at"]
theorem sc_BadIndex___init__ : FnScope N_BadIndex___init__ P_BadIndex___init__ (defScope s_BadIndex___init__) := ⟨rfl, rfl, rfl, by decide +kernel, rfl, by decide +kernel, by decide +kernel⟩
theorem bd_BadIndex___init__ : BindsPlain s_BadIndex___init__ "__init__" "BadIndex.__init__" P_BadIndex___init__ := fun _ _ _ _ _ _ us hl => match us, hl with | [_, _], _ => rfl
abbrev s_BadColour___init__ : Stmt := (inClass (top 9) 0)
abbrev N_BadColour___init__ : List Str := ["self", "colour"]
abbrev P_BadColour___init__ : List Str := ["self", "colour"]
theorem sc_BadColour___init__ : FnScope N_BadColour___init__ P_BadColour___init__ (defScope s_BadColour___init__) := ⟨rfl, rfl, rfl, by decide +kernel, rfl, by decide +kernel, by decide +kernel⟩
theorem bd_BadColour___init__ : BindsPlain s_BadColour___init__ "__init__" "BadColour.__init__" P_BadColour___init__ := fun _ _ _ _ _ _ us hl => match us, hl with | [_, _], _ => rfl
abbrev s_Scheme___init__ : Stmt := (inClass (top 13) 2)
abbrev N_Scheme___init__ : List Str := ["self", "rows", "colours", "many", "_"]
abbrev P_Scheme___init__ : List Str := ["self", "rows", "colours"]
theorem sc_Scheme___init__ : FnScope N_Scheme___init__ P_Scheme___init__ (defScope s_Scheme___init__) := ⟨rfl, rfl, rfl, by decide +kernel, rfl, by decide +kernel, by decide +kernel⟩
theorem bd_Scheme___init__ : BindsPlain s_Scheme___init__ "__init__" "Scheme.__init__" P_Scheme___init__ := fun _ _ _ _ _ _ us hl => match us, hl with | [_, _, _], _ => rfl
abbrev s_Scheme___eq__ : Stmt := (inClass (top 13) 3)
abbrev N_Scheme___eq__ : List Str := ["self", "other"]
abbrev P_Scheme___eq__ : List Str := ["self", "other"]
theorem sc_Scheme___eq__ : FnScope N_Scheme___eq__ P_Scheme___eq__ (defScope s_Scheme___eq__) := ⟨rfl, rfl, rfl, by decide +kernel, rfl, by decide +kernel, by decide +kernel⟩
theorem bd_Scheme___eq__ : BindsPlain s_Scheme___eq__ "__eq__" "Scheme.__eq__" P_Scheme___eq__ := fun _ _ _ _ _ _ us hl => match us, hl with | [_, _], _ => rfl
abbrev s_Scheme___len__ : Stmt := (inClass (top 13) 4)
abbrev N_Scheme___len__ : List Str := ["self"]
abbrev P_Scheme___len__ : List Str := ["self"]
theorem sc_Scheme___len__ : FnScope N_Scheme___len__ P_Scheme___len__ (defScope s_Scheme___len__) := ⟨rfl, rfl, rfl, by decide +kernel, rfl, by decide +kernel, by decide +kernel⟩
theorem bd_Scheme___len__ : BindsPlain s_Scheme___len__ "__len__" "Scheme.__len__" P_Scheme___len__ := fun _ _ _ _ _ _ us hl => match us, hl with | [_], _ => rfl
abbrev s_Scheme_is_column : Stmt := (inClass (top 13) 5)
abbrev N_Scheme_is_column : List Str := ["self", "text"]
abbrev P_Scheme_is_column : List Str := ["self", "text"]
theorem sc_Scheme_is_column : FnScope N_Scheme_is_column P_Scheme_is_column (defScope s_Scheme_is_column) := ⟨rfl, rfl, rfl, by decide +kernel, rfl, by decide +kernel, by decide +kernel⟩
theorem bd_Scheme_is_column : BindsPlain s_Scheme_is_column "is_column" "Scheme.is_column" P_Scheme_is_column := fun _ _ _ _ _ _ us hl => match us, hl with | [_, _], _ => rfl
abbrev s_Scheme_is_colour : Stmt := (inClass (top 13) 6)
abbrev N_Scheme_is_colour : List Str := ["self", "text"]
abbrev P_Scheme_is_colour : List Str := ["self", "text"]
theorem sc_Scheme_is_colour : FnScope N_Scheme_is_colour P_Scheme_is_colour (defScope s_Scheme_is_colour) := ⟨rfl, rfl, rfl, by decide +kernel, rfl, by decide +kernel, by decide +kernel⟩
theorem bd_Scheme_is_colour : BindsPlain s_Scheme_is_colour "is_colour" "Scheme.is_colour" P_Scheme_is_colour := fun _ _ _ _ _ _ us hl => match us, hl with | [_, _], _ => rfl
abbrev s_Scheme_is_strip : Stmt := (inClass (top 13) 7)
abbrev N_Scheme_is_strip : List Str := ["self", "text", "column"]
abbrev P_Scheme_is_strip : List Str := ["self", "text"]
theorem sc_Scheme_is_strip : FnScope N_Scheme_is_strip P_Scheme_is_strip (defScope s_Scheme_is_strip) := ⟨rfl, rfl, rfl, by decide +kernel, rfl, by decide +kernel, by decide +kernel⟩
theorem bd_Scheme_is_strip : BindsPlain s_Scheme_is_strip "is_strip" "Scheme.is_strip" P_Scheme_is_strip := fun _ _ _ _ _ _ us hl => match us, hl with | [_, _], _ => rfl
abbrev s_Scheme_check : Stmt := (inClass (top 13) 8)
abbrev N_Scheme_check : List Str := ["self", "text"]
abbrev P_Scheme_check : List Str := ["self", "text"]
theorem sc_Scheme_check : FnScope N_Scheme_check P_Scheme_check (defScope s_Scheme_check) := ⟨rfl, rfl, rfl, by decide +kernel, rfl, by decide +kernel, by decide +kernel⟩
theorem bd_Scheme_check : BindsPlain s_Scheme_check "check" "Scheme.check" P_Scheme_check := fun _ _ _ _ _ _ us hl => match us, hl with | [_, _], _ => rfl
abbrev s_Scheme_spots : Stmt := (inClass (top 13) 9)
abbrev N_Scheme_spots : List Str := ["self", "column", "number", "spots", "_"]
abbrev P_Scheme_spots : List Str := ["self", "column"]
theorem sc_Scheme_spots : FnScope N_Scheme_spots P_Scheme_spots (defScope s_Scheme_spots) := ⟨rfl, rfl, rfl, by decide +kernel, rfl, by decide +kernel, by decide +kernel⟩
theorem bd_Scheme_spots : BindsPlain s_Scheme_spots "spots" "Scheme.spots" P_Scheme_spots := fun _ _ _ _ _ _ us hl => match us, hl with | [_, _], _ => rfl
abbrev s_Scheme_column : Stmt := (inClass (top 13) 10)
abbrev N_Scheme_column : List Str := ["self", "spots", "spot", "number"]
abbrev P_Scheme_column : List Str := ["self", "spots"]
theorem sc_Scheme_column : FnScope N_Scheme_column P_Scheme_column (defScope s_Scheme_column) := ⟨rfl, rfl, rfl, by decide +kernel, rfl, by decide +kernel, by decide +kernel⟩
theorem bd_Scheme_column : BindsPlain s_Scheme_column "column" "Scheme.column" P_Scheme_column := fun _ _ _ _ _ _ us hl => match us, hl with | [_, _], _ => rfl
abbrev s_Scheme_picture : Stmt := (inClass (top 13) 11)
abbrev N_Scheme_picture : List Str := ["self", "strip", "drawn", "column", "spots", "row"]
abbrev P_Scheme_picture : List Str := ["self", "strip"]
theorem sc_Scheme_picture : FnScope N_Scheme_picture P_Scheme_picture (defScope s_Scheme_picture) := ⟨rfl, rfl, rfl, by decide +kernel, rfl, by decide +kernel, by decide +kernel⟩
theorem bd_Scheme_picture : BindsPlain s_Scheme_picture "picture" "Scheme.picture" P_Scheme_picture := fun _ _ _ _ _ _ us hl => match us, hl with | [_, _], _ => rfl
abbrev s_Scheme_of_picture : Stmt := (inClass (top 13) 12)
abbrev N_Scheme_of_picture : List Str := ["self", "lines", "number", "line", "spot", "upright", "row", "at", "spots"]
abbrev P_Scheme_of_picture : List Str := ["self", "lines"]
theorem sc_Scheme_of_picture : FnScope N_Scheme_of_picture P_Scheme_of_picture (defScope s_Scheme_of_picture) := ⟨rfl, rfl, rfl, by decide +kernel, rfl, by decide +kernel, by decide +kernel⟩
theorem bd_Scheme_of_picture : BindsPlain s_Scheme_of_picture "of_picture" "Scheme.of_picture" P_Scheme_of_picture := fun _ _ _ _ _ _ us hl => match us, hl with | [_, _], _ => rfl
abbrev s_Scheme_colour_at : Stmt := (inClass (top 13) 13)
abbrev N_Scheme_colour_at : List Str := ["self", "strip", "row", "at"]
abbrev P_Scheme_colour_at : List Str := ["self", "strip", "row", "at"]
theorem sc_Scheme_colour_at : FnScope N_Scheme_colour_at P_Scheme_colour_at (defScope s_Scheme_colour_at) := ⟨rfl, rfl, rfl, by decide +kernel, rfl, by decide +kernel, by decide +kernel⟩
theorem bd_Scheme_colour_at : BindsPlain s_Scheme_colour_at "colour_at" "Scheme.colour_at" P_Scheme_colour_at := fun _ _ _ _ _ _ us hl => match us, hl with | [_, _, _, _], _ => rfl
abbrev s_Scheme_recoloured : Stmt := (inClass (top 13) 14)
abbrev N_Scheme_recoloured : List Str := ["self", "strip", "row", "at", "colour", "spots", "column"]
abbrev P_Scheme_recoloured : List Str := ["self", "strip", "row", "at", "colour"]
theorem sc_Scheme_recoloured : FnScope N_Scheme_recoloured P_Scheme_recoloured (defScope s_Scheme_recoloured) := ⟨rfl, rfl, rfl, by decide +kernel, rfl, by decide +kernel, by decide +kernel⟩
theorem bd_Scheme_recoloured : BindsPlain s_Scheme_recoloured "recoloured" "Scheme.recoloured" P_Scheme_recoloured := fun _ _ _ _ _ _ us hl => match us, hl with | [_, _, _, _, _], _ => rfl
abbrev s_law_purse : Stmt := (top 15)
abbrev N_law_purse : List Str := ["script", "k", "spare", "cell", "seed"]
abbrev P_law_purse : List Str := ["script", "k", "spare"]
theorem sc_law_purse : FnScope N_law_purse P_law_purse (defScope s_law_purse) := ⟨rfl, rfl, rfl, by decide +kernel, rfl, by decide +kernel, by decide +kernel⟩
theorem bd_law_purse : BindsPlain s_law_purse "_law_purse" "_law_purse" P_law_purse := fun _ _ _ _ _ _ us hl => match us, hl with | [_, _, _], _ => rfl
abbrev s_law_draw : Stmt := (top 16)
abbrev N_law_draw : List Str := ["purse", "size", "drawn", "mixed"]
abbrev P_law_draw : List Str := ["purse", "size"]
theorem sc_law_draw : FnScope N_law_draw P_law_draw (defScope s_law_draw) := ⟨rfl, rfl, rfl, by decide +kernel, rfl, by decide +kernel, by decide +kernel⟩
theorem bd_law_draw : BindsPlain s_law_draw "_law_draw" "_law_draw" P_law_draw := fun _ _ _ _ _ _ us hl => match us, hl with | [_, _], _ => rfl
abbrev s_law_alike : Stmt := (top 17)
abbrev N_law_alike : List Str := ["told", "due", "k"]
abbrev P_law_alike : List Str := ["told", "due"]
theorem sc_law_alike : FnScope N_law_alike P_law_alike (defScope s_law_alike) := ⟨rfl, rfl, rfl, by decide +kernel, rfl, by decide +kernel, by decide +kernel⟩
theorem bd_law_alike : BindsPlain s_law_alike "_law_alike" "_law_alike" P_law_alike := fun _ _ _ _ _ _ us hl => match us, hl with | [_, _], _ => rfl
abbrev s_law_sizes : Stmt := (top 18)
abbrev N_law_sizes : List Str := []
abbrev P_law_sizes : List Str := []
theorem sc_law_sizes : FnScope N_law_sizes P_law_sizes (defScope s_law_sizes) := ⟨rfl, rfl, rfl, by decide +kernel, rfl, by decide +kernel, by decide +kernel⟩
theorem bd_law_sizes : BindsPlain s_law_sizes "_law_sizes" "_law_sizes" P_law_sizes := fun _ _ _ _ _ _ us hl => match us, hl with | [], _ => rfl
abbrev s_law_sign : Stmt := (top 19)
abbrev N_law_sign : List Str := ["purse", "near", "signs"]
abbrev P_law_sign : List Str := ["purse"]
theorem sc_law_sign : FnScope N_law_sign P_law_sign (defScope s_law_sign) := ⟨rfl, rfl, rfl, by decide +kernel, rfl, by decide +kernel, by decide +kernel⟩
theorem bd_law_sign : BindsPlain s_law_sign "_law_sign" "_law_sign" P_law_sign := fun _ _ _ _ _ _ us hl => match us, hl with | [_], _ => rfl
abbrev s_law_spoilt : Stmt := (top 20)
abbrev N_law_spoilt : List Str := ["purse", "text", "way", "place"]
abbrev P_law_spoilt : List Str := ["purse", "text"]
theorem sc_law_spoilt : FnScope N_law_spoilt P_law_spoilt (defScope s_law_spoilt) := ⟨rfl, rfl, rfl, by decide +kernel, rfl, by decide +kernel, by decide +kernel⟩
theorem bd_law_spoilt : BindsPlain s_law_spoilt "_law_spoilt" "_law_spoilt" P_law_spoilt := fun _ _ _ _ _ _ us hl => match us, hl with | [_, _], _ => rfl
abbrev s_law_far : Stmt := (top 21)
abbrev N_law_far : List Str := ["purse"]
abbrev P_law_far : List Str := ["purse"]
theorem sc_law_far : FnScope N_law_far P_law_far (defScope s_law_far) := ⟨rfl, rfl, rfl, by decide +kernel, rfl, by decide +kernel, by decide +kernel⟩
theorem bd_law_far : BindsPlain s_law_far "_law_far" "_law_far" P_law_far := fun _ _ _ _ _ _ us hl => match us, hl with | [_], _ => rfl
abbrev s_law_refusal : Stmt := (top 22)
abbrev N_law_refusal : List Str := ["e", "marks", "place"]
abbrev P_law_refusal : List Str := ["e"]
theorem sc_law_refusal : FnScope N_law_refusal P_law_refusal (defScope s_law_refusal) := ⟨rfl, rfl, rfl, by decide +kernel, rfl, by decide +kernel, by decide +kernel⟩
theorem bd_law_refusal : BindsPlain s_law_refusal "_law_refusal" "_law_refusal" P_law_refusal := fun _ _ _ _ _ _ us hl => match us, hl with | [_], _ => rfl
abbrev s_law_made : Stmt := (top 23)
abbrev N_law_made : List Str := ["rows", "colours", "scheme", "e"]
abbrev P_law_made : List Str := ["rows", "colours"]
theorem sc_law_made : FnScope N_law_made P_law_made (defScope s_law_made) := ⟨rfl, rfl, rfl, by decide +kernel, rfl, by decide +kernel, by decide +kernel⟩
theorem bd_law_made : BindsPlain s_law_made "_law_made" "_law_made" P_law_made := fun _ _ _ _ _ _ us hl => match us, hl with | [_, _], _ => rfl
abbrev s_law_made_due : Stmt := (top 24)
abbrev N_law_made_due : List Str := ["rows", "colours", "size"]
abbrev P_law_made_due : List Str := ["rows", "colours"]
theorem sc_law_made_due : FnScope N_law_made_due P_law_made_due (defScope s_law_made_due) := ⟨rfl, rfl, rfl, by decide +kernel, rfl, by decide +kernel, by decide +kernel⟩
theorem bd_law_made_due : BindsPlain s_law_made_due "_law_made_due" "_law_made_due" P_law_made_due := fun _ _ _ _ _ _ us hl => match us, hl with | [_, _], _ => rfl
abbrev s_law_answer : Stmt := (top 25)
abbrev N_law_answer : List Str := ["scheme", "way", "text", "row", "at", "colour", "e"]
abbrev P_law_answer : List Str := ["scheme", "way", "text", "row", "at", "colour"]
theorem sc_law_answer : FnScope N_law_answer P_law_answer (defScope s_law_answer) := ⟨rfl, rfl, rfl, by decide +kernel, rfl, by decide +kernel, by decide +kernel⟩
theorem bd_law_answer : BindsPlain s_law_answer "_law_answer" "_law_answer" P_law_answer := fun _ _ _ _ _ _ us hl => match us, hl with | [_, _, _, _, _, _], _ => rfl
abbrev s_law_seen : Stmt := (top 26)
abbrev N_law_seen : List Str := ["scheme", "lines", "e"]
abbrev P_law_seen : List Str := ["scheme", "lines"]
theorem sc_law_seen : FnScope N_law_seen P_law_seen (defScope s_law_seen) := ⟨rfl, rfl, rfl, by decide +kernel, rfl, by decide +kernel, by decide +kernel⟩
theorem bd_law_seen : BindsPlain s_law_seen "_law_seen" "_law_seen" P_law_seen := fun _ _ _ _ _ _ us hl => match us, hl with | [_, _], _ => rfl
abbrev s_law_digits : Stmt := (top 27)
abbrev N_law_digits : List Str := ["size", "number", "text", "k"]
abbrev P_law_digits : List Str := ["size", "number"]
theorem sc_law_digits : FnScope N_law_digits P_law_digits (defScope s_law_digits) := ⟨rfl, rfl, rfl, by decide +kernel, rfl, by decide +kernel, by decide +kernel⟩
theorem bd_law_digits : BindsPlain s_law_digits "_law_digits" "_law_digits" P_law_digits := fun _ _ _ _ _ _ us hl => match us, hl with | [_, _], _ => rfl
abbrev s_law_letter : Stmt := (top 28)
abbrev N_law_letter : List Str := ["size", "digits", "number", "sign"]
abbrev P_law_letter : List Str := ["size", "digits"]
theorem sc_law_letter : FnScope N_law_letter P_law_letter (defScope s_law_letter) := ⟨rfl, rfl, rfl, by decide +kernel, rfl, by decide +kernel, by decide +kernel⟩
theorem bd_law_letter : BindsPlain s_law_letter "_law_letter" "_law_letter" P_law_letter := fun _ _ _ _ _ _ us hl => match us, hl with | [_, _], _ => rfl
abbrev s_law_only : Stmt := (top 29)
abbrev N_law_only : List Str := ["text", "signs", "sign"]
abbrev P_law_only : List Str := ["text", "signs"]
theorem sc_law_only : FnScope N_law_only P_law_only (defScope s_law_only) := ⟨rfl, rfl, rfl, by decide +kernel, rfl, by decide +kernel, by decide +kernel⟩
theorem bd_law_only : BindsPlain s_law_only "_law_only" "_law_only" P_law_only := fun _ _ _ _ _ _ us hl => match us, hl with | [_, _], _ => rfl
abbrev s_law_is_strip : Stmt := (top 30)
abbrev N_law_is_strip : List Str := ["size", "text"]
abbrev P_law_is_strip : List Str := ["size", "text"]
theorem sc_law_is_strip : FnScope N_law_is_strip P_law_is_strip (defScope s_law_is_strip) := ⟨rfl, rfl, rfl, by decide +kernel, rfl, by decide +kernel, by decide +kernel⟩
theorem bd_law_is_strip : BindsPlain s_law_is_strip "_law_is_strip" "_law_is_strip" P_law_is_strip := fun _ _ _ _ _ _ us hl => match us, hl with | [_, _], _ => rfl
abbrev s_law_colours : Stmt := (top 31)
abbrev N_law_colours : List Str := ["size"]
abbrev P_law_colours : List Str := ["size"]
theorem sc_law_colours : FnScope N_law_colours P_law_colours (defScope s_law_colours) := ⟨rfl, rfl, rfl, by decide +kernel, rfl, by decide +kernel, by decide +kernel⟩
theorem bd_law_colours : BindsPlain s_law_colours "_law_colours" "_law_colours" P_law_colours := fun _ _ _ _ _ _ us hl => match us, hl with | [_], _ => rfl
abbrev s_law_lines : Stmt := (top 32)
abbrev N_law_lines : List Str := ["size", "strip", "lines", "row", "line", "sign"]
abbrev P_law_lines : List Str := ["size", "strip"]
theorem sc_law_lines : FnScope N_law_lines P_law_lines (defScope s_law_lines) := ⟨rfl, rfl, rfl, by decide +kernel, rfl, by decide +kernel, by decide +kernel⟩
theorem bd_law_lines : BindsPlain s_law_lines "_law_lines" "_law_lines" P_law_lines := fun _ _ _ _ _ _ us hl => match us, hl with | [_, _], _ => rfl
abbrev s_law_seen_due : Stmt := (top 33)
abbrev N_law_seen_due : List Str := ["size", "lines", "k", "strip", "at", "line"]
abbrev P_law_seen_due : List Str := ["size", "lines"]
theorem sc_law_seen_due : FnScope N_law_seen_due P_law_seen_due (defScope s_law_seen_due) := ⟨rfl, rfl, rfl, by decide +kernel, rfl, by decide +kernel, by decide +kernel⟩
theorem bd_law_seen_due : BindsPlain s_law_seen_due "_law_seen_due" "_law_seen_due" P_law_seen_due := fun _ _ _ _ _ _ us hl => match us, hl with | [_, _], _ => rfl
abbrev s_law_spot_due : Stmt := (top 34)
abbrev N_law_spot_due : List Str := ["size", "strip", "row", "at", "colour", "painted", "digits"]
abbrev P_law_spot_due : List Str := ["size", "strip", "row", "at", "colour", "painted"]
theorem sc_law_spot_due : FnScope N_law_spot_due P_law_spot_due (defScope s_law_spot_due) := ⟨rfl, rfl, rfl, by decide +kernel, rfl, by decide +kernel, by decide +kernel⟩
theorem bd_law_spot_due : BindsPlain s_law_spot_due "_law_spot_due" "_law_spot_due" P_law_spot_due := fun _ _ _ _ _ _ us hl => match us, hl with | [_, _, _, _, _, _], _ => rfl
abbrev s_law_fields : Stmt := (top 35)
abbrev N_law_fields : List Str := ["scheme", "size", "other", "purse", "rows", "colours", "twin", "told"]
abbrev P_law_fields : List Str := ["scheme", "size", "other", "purse"]
theorem sc_law_fields : FnScope N_law_fields P_law_fields (defScope s_law_fields) := ⟨rfl, rfl, rfl, by decide +kernel, rfl, by decide +kernel, by decide +kernel⟩
theorem bd_law_fields : BindsPlain s_law_fields "_law_fields" "_law_fields" P_law_fields := fun _ _ _ _ _ _ us hl => match us, hl with | [_, _, _, _], _ => rfl
abbrev s_law_columns : Stmt := (top 36)
abbrev N_law_columns : List Str := ["scheme", "size", "purse", "k", "told", "letter", "text", "due", "digits"]
abbrev P_law_columns : List Str := ["scheme", "size", "purse"]
theorem sc_law_columns : FnScope N_law_columns P_law_columns (defScope s_law_columns) := ⟨rfl, rfl, rfl, by decide +kernel, rfl, by decide +kernel, by decide +kernel⟩
theorem bd_law_columns : BindsPlain s_law_columns "_law_columns" "_law_columns" P_law_columns := fun _ _ _ _ _ _ us hl => match us, hl with | [_, _, _], _ => rfl
abbrev s_law_bent : Stmt := (top 37)
abbrev N_law_bent : List Str := ["purse", "lines", "way", "place"]
abbrev P_law_bent : List Str := ["purse", "lines"]
theorem sc_law_bent : FnScope N_law_bent P_law_bent (defScope s_law_bent) := ⟨rfl, rfl, rfl, by decide +kernel, rfl, by decide +kernel, by decide +kernel⟩
theorem bd_law_bent : BindsPlain s_law_bent "_law_bent" "_law_bent" P_law_bent := fun _ _ _ _ _ _ us hl => match us, hl with | [_, _], _ => rfl
abbrev s_law_pictures : Stmt := (top 38)
abbrev N_law_pictures : List Str := ["scheme", "size", "strip", "purse", "lines", "told", "bent", "k", "passed"]
abbrev P_law_pictures : List Str := ["scheme", "size", "strip", "purse"]
theorem sc_law_pictures : FnScope N_law_pictures P_law_pictures (defScope s_law_pictures) := ⟨rfl, rfl, rfl, by decide +kernel, rfl, by decide +kernel, by decide +kernel⟩
theorem bd_law_pictures : BindsPlain s_law_pictures "_law_pictures" "_law_pictures" P_law_pictures := fun _ _ _ _ _ _ us hl => match us, hl with | [_, _, _, _], _ => rfl
abbrev s_law_spots : Stmt := (top 39)
abbrev N_law_spots : List Str := ["scheme", "size", "strip", "purse", "k", "text", "row", "at", "colour", "due"]
abbrev P_law_spots : List Str := ["scheme", "size", "strip", "purse"]
theorem sc_law_spots : FnScope N_law_spots P_law_spots (defScope s_law_spots) := ⟨rfl, rfl, rfl, by decide +kernel, rfl, by decide +kernel, by decide +kernel⟩
theorem bd_law_spots : BindsPlain s_law_spots "_law_spots" "_law_spots" P_law_spots := fun _ _ _ _ _ _ us hl => match us, hl with | [_, _, _, _], _ => rfl
abbrev s_law_strips : Stmt := (top 40)
abbrev N_law_strips : List Str := ["scheme", "size", "strip", "purse", "text", "good", "due"]
abbrev P_law_strips : List Str := ["scheme", "size", "strip", "purse"]
theorem sc_law_strips : FnScope N_law_strips P_law_strips (defScope s_law_strips) := ⟨rfl, rfl, rfl, by decide +kernel, rfl, by decide +kernel, by decide +kernel⟩
theorem bd_law_strips : BindsPlain s_law_strips "_law_strips" "_law_strips" P_law_strips := fun _ _ _ _ _ _ us hl => match us, hl with | [_, _, _, _], _ => rfl
abbrev s_law : Stmt := (top 41)
abbrev N_law : List Str := ["script", "purse", "size", "second", "one", "many", "strip", "k", "scheme", "other"]
abbrev P_law : List Str := ["script"]
theorem sc_law : FnScope N_law P_law (defScope s_law) := ⟨rfl, rfl, rfl, by decide +kernel, rfl, by decide +kernel, by decide +kernel⟩
theorem bd_law : BindsPlain s_law "law" "law" P_law := fun _ _ _ _ _ _ us hl => match us, hl with | [_], _ => rfl
structure Ad where
  GalloonError : Addr
  BadScheme : Addr
  BadColumn : Addr
  BadSpots : Addr
  BadStrip : Addr
  BadPicture : Addr
  BadRow : Addr
  BadIndex : Addr
  BadColour : Addr
  Scheme : Addr
def eAd (a : Ad) : Nat → Addr
  | 0 => a.BadScheme
  | 1 => a.BadColumn
  | 2 => a.BadSpots
  | 3 => a.BadStrip
  | 4 => a.BadPicture
  | 5 => a.BadRow
  | 6 => a.BadIndex
  | _ => a.BadColour
structure Txt (K : PySem.W.Frag) (mg : Str → Option Value) (a : Ad) : Prop where
  b_ValueError : mg "ValueError" = none
  b_abs : mg "abs" = none
  b_all : mg "all" = none
  b_bool : mg "bool" = none
  b_enumerate : mg "enumerate" = none
  b_int : mg "int" = none
  b_isinstance : mg "isinstance" = none
  b_len : mg "len" = none
  b_list : mg "list" = none
  b_ord : mg "ord" = none
  b_range : mg "range" = none
  b_str : mg "str" = none
  b_sum : mg "sum" = none
  b_tuple : mg "tuple" = none
  g_DIGITS : ∃ u, mg "DIGITS" = some u ∧ RelV (.str "012") u
  g_LETTERS : ∃ u, mg "LETTERS" = some u ∧ RelV (.str "abcdefghi") u
  g_GalloonError : mg "GalloonError" = some (.ref a.GalloonError)
  e_BadScheme : ErrT K mg a.BadScheme "BadScheme" "BadScheme.__init__" "part" s_BadScheme___init__
  x_BadScheme : ErrC K a.BadScheme
  e_BadColumn : ErrT K mg a.BadColumn "BadColumn" "BadColumn.__init__" "text" s_BadColumn___init__
  x_BadColumn : ErrC K a.BadColumn
  e_BadSpots : ErrT K mg a.BadSpots "BadSpots" "BadSpots.__init__" "text" s_BadSpots___init__
  x_BadSpots : ErrC K a.BadSpots
  e_BadStrip : ErrT K mg a.BadStrip "BadStrip" "BadStrip.__init__" "text" s_BadStrip___init__
  x_BadStrip : ErrC K a.BadStrip
  e_BadPicture : ErrT K mg a.BadPicture "BadPicture" "BadPicture.__init__" "line" s_BadPicture___init__
  x_BadPicture : ErrC K a.BadPicture
  e_BadRow : ErrT K mg a.BadRow "BadRow" "BadRow.__init__" "row" s_BadRow___init__
  x_BadRow : ErrC K a.BadRow
  e_BadIndex : ErrT K mg a.BadIndex "BadIndex" "BadIndex.__init__" "at" s_BadIndex___init__
  x_BadIndex : ErrC K a.BadIndex
  e_BadColour : ErrT K mg a.BadColour "BadColour" "BadColour.__init__" "colour" s_BadColour___init__
  x_BadColour : ErrC K a.BadColour
  c_Scheme : ClsT K mg a.Scheme "Scheme"
  m_Scheme___init__ : MetT K a.Scheme "__init__" "Scheme.__init__" s_Scheme___init__
  m_Scheme___eq__ : MetT K a.Scheme "__eq__" "Scheme.__eq__" s_Scheme___eq__
  m_Scheme___len__ : MetT K a.Scheme "__len__" "Scheme.__len__" s_Scheme___len__
  m_Scheme_is_column : MetT K a.Scheme "is_column" "Scheme.is_column" s_Scheme_is_column
  m_Scheme_is_colour : MetT K a.Scheme "is_colour" "Scheme.is_colour" s_Scheme_is_colour
  m_Scheme_is_strip : MetT K a.Scheme "is_strip" "Scheme.is_strip" s_Scheme_is_strip
  m_Scheme_check : MetT K a.Scheme "check" "Scheme.check" s_Scheme_check
  m_Scheme_spots : MetT K a.Scheme "spots" "Scheme.spots" s_Scheme_spots
  m_Scheme_column : MetT K a.Scheme "column" "Scheme.column" s_Scheme_column
  m_Scheme_picture : MetT K a.Scheme "picture" "Scheme.picture" s_Scheme_picture
  m_Scheme_of_picture : MetT K a.Scheme "of_picture" "Scheme.of_picture" s_Scheme_of_picture
  m_Scheme_colour_at : MetT K a.Scheme "colour_at" "Scheme.colour_at" s_Scheme_colour_at
  m_Scheme_recoloured : MetT K a.Scheme "recoloured" "Scheme.recoloured" s_Scheme_recoloured
  d_law_purse : DefT K mg "_law_purse" s_law_purse
  d_law_draw : DefT K mg "_law_draw" s_law_draw
  d_law_alike : DefT K mg "_law_alike" s_law_alike
  d_law_sizes : DefT K mg "_law_sizes" s_law_sizes
  d_law_sign : DefT K mg "_law_sign" s_law_sign
  d_law_spoilt : DefT K mg "_law_spoilt" s_law_spoilt
  d_law_far : DefT K mg "_law_far" s_law_far
  d_law_refusal : DefT K mg "_law_refusal" s_law_refusal
  d_law_made : DefT K mg "_law_made" s_law_made
  d_law_made_due : DefT K mg "_law_made_due" s_law_made_due
  d_law_answer : DefT K mg "_law_answer" s_law_answer
  d_law_seen : DefT K mg "_law_seen" s_law_seen
  d_law_digits : DefT K mg "_law_digits" s_law_digits
  d_law_letter : DefT K mg "_law_letter" s_law_letter
  d_law_only : DefT K mg "_law_only" s_law_only
  d_law_is_strip : DefT K mg "_law_is_strip" s_law_is_strip
  d_law_colours : DefT K mg "_law_colours" s_law_colours
  d_law_lines : DefT K mg "_law_lines" s_law_lines
  d_law_seen_due : DefT K mg "_law_seen_due" s_law_seen_due
  d_law_spot_due : DefT K mg "_law_spot_due" s_law_spot_due
  d_law_fields : DefT K mg "_law_fields" s_law_fields
  d_law_columns : DefT K mg "_law_columns" s_law_columns
  d_law_bent : DefT K mg "_law_bent" s_law_bent
  d_law_pictures : DefT K mg "_law_pictures" s_law_pictures
  d_law_spots : DefT K mg "_law_spots" s_law_spots
  d_law_strips : DefT K mg "_law_strips" s_law_strips
  d_law : DefT K mg "law" s_law
  n_rows : NoAttr K a.Scheme "rows"
  n_colours : NoAttr K a.Scheme "colours"
  n_columns : NoAttr K a.Scheme "columns"
  k_MOST : ∃ u, Con K a.Scheme "MOST" (.int 9) u
  k_BLANK : ∃ u, Con K a.Scheme "BLANK" (.str "a") u
  r_Scheme : ∃ mc, ClX.CRead K a.Scheme mc ∧ (∃ u, ClX.CVal K a.Scheme mc "MOST" (.int 9) u) ∧ ∃ u, ClX.CVal K a.Scheme mc "BLANK" (.str "a") u
  i_ha : PySem.W.findIn K (.ref a.Scheme) "__class__" = some (some (.builtin "object.__class__"))
  i_hn : PySem.W.specialIn K (.builtin "object.__class__") "__get__" = some (some (.builtin "getset_descriptor.__get__"))
  i_ht : PySem.W.takesIn K (.builtin "object.__class__") = some true
  i_hm : PySem.W.mroIn K a.Scheme (.type "object") = some true
  i_own : PySem.W.kitOne K (.ref a.Scheme) (.ref a.Scheme) = some true
  i_int : PySem.W.kitOne K (.type "int") (.ref a.Scheme) = some false
  i_str : PySem.W.kitOne K (.type "str") (.ref a.Scheme) = some false
  i_ni : PySem.W.notFirst K a.Scheme (.type "int") = true
  i_ns : PySem.W.notFirst K a.Scheme (.type "str") = true
  kk_e : ∀ i < 8, ∀ j < 8, PySem.W.kitOne K (.ref (eAd a i)) (.ref (eAd a j)) = some (decide (i = j))
  kv_e : ∀ i < 8, PySem.W.kitOne K (.ref (eAd a i)) (.type "ValueError") = some true
  xm_e : ∀ i < 8, PySem.W.exmOne K (.ref (eAd a i)) (.ref a.GalloonError) = some true
section
variable {P : Program} {w : World} {K : PySem.W.Frag} {mg : Str → Option Value} {base : Heap} {a : Ad}
theorem c_BadScheme (T : Txt K mg a) : CanE P w K mg base a.BadScheme "BadScheme" "part" := canE_of T.e_BadScheme sc_BadScheme___init__ bd_BadScheme___init__ rfl (fun _ _ _ _ _ _ _ => pss_one (ps_ost (pv 0) (pv 1))) rfl
theorem c_BadColumn (T : Txt K mg a) : CanE P w K mg base a.BadColumn "BadColumn" "text" := canE_of T.e_BadColumn sc_BadColumn___init__ bd_BadColumn___init__ rfl (fun _ _ _ _ _ _ _ => pss_one (ps_ost (pv 0) (pv 1))) rfl
theorem c_BadSpots (T : Txt K mg a) : CanE P w K mg base a.BadSpots "BadSpots" "text" := canE_of T.e_BadSpots sc_BadSpots___init__ bd_BadSpots___init__ rfl (fun _ _ _ _ _ _ _ => pss_one (ps_ost (pv 0) (pv 1))) rfl
theorem c_BadStrip (T : Txt K mg a) : CanE P w K mg base a.BadStrip "BadStrip" "text" := canE_of T.e_BadStrip sc_BadStrip___init__ bd_BadStrip___init__ rfl (fun _ _ _ _ _ _ _ => pss_one (ps_ost (pv 0) (pv 1))) rfl
theorem c_BadPicture (T : Txt K mg a) : CanE P w K mg base a.BadPicture "BadPicture" "line" := canE_of T.e_BadPicture sc_BadPicture___init__ bd_BadPicture___init__ rfl (fun _ _ _ _ _ _ _ => pss_one (ps_ost (pv 0) (pv 1))) rfl
theorem c_BadRow (T : Txt K mg a) : CanE P w K mg base a.BadRow "BadRow" "row" := canE_of T.e_BadRow sc_BadRow___init__ bd_BadRow___init__ rfl (fun _ _ _ _ _ _ _ => pss_one (ps_ost (pv 0) (pv 1))) rfl
theorem c_BadIndex (T : Txt K mg a) : CanE P w K mg base a.BadIndex "BadIndex" "at" := canE_of T.e_BadIndex sc_BadIndex___init__ bd_BadIndex___init__ rfl (fun _ _ _ _ _ _ _ => pss_one (ps_ost (pv 0) (pv 1))) rfl
theorem c_BadColour (T : Txt K mg a) : CanE P w K mg base a.BadColour "BadColour" "colour" := canE_of T.e_BadColour sc_BadColour___init__ bd_BadColour___init__ rfl (fun _ _ _ _ _ _ _ => pss_one (ps_ost (pv 0) (pv 1))) rfl
end
end K00

end
section
set_option Elab.async false
set_option maxRecDepth 100000
set_option maxHeartbeats 4000000
namespace K00
open PySem PySem.Spec PyProof.Rows L2 Kit
local macro_rules | `(tactic| walk_at "rd") => `(tactic| repeat (first | refine ⟨_, rfl, ?_⟩ | refine ⟨_, _, rfl, rfl, ?_⟩ | refine ⟨rfl, ?_⟩))
section
variable {P : Program} {w : World} {K : PySem.W.Frag} {mg : Str → Option Value} {base : Heap} {a : Ad}
theorem c_law_draw (T : Txt K mg a) : Can P w K mg base 1 "_law_draw" spDraw := by
  refine can_of T.d_law_draw sc_law_draw bd_law_draw (fun vs H Q E h => ?_) (fun f cdv A outer s H vs Q E hr h => ?_)
  · obtain ⟨p, n, rfl, _⟩ := h
    rfl
  · obtain ⟨p, n, rfl, ⟨x, y, z, hp, hx⟩, h0, h1, k⟩ := h
    refine ⟨_, (pss_cons (ps_if (pt_cmpR op_gt (pe_ix (kix_list K) (pv 0) pe_int (fun _ _ => rfl)) pe_int (nomark _)) (pss_cons (ps_set (i := 2) sc_law_draw.nd rfl (.inl rfl) (pe_op op_modN (pe_callTy call_int1 (by rfl) T.b_int (by decide +kernel) (pa_cons (pe_ix (kix_list K) (pv 0) pe_int (fun _ _ => rfl)) pa_nil)) (pv 1)))
      (pss_cons (ps_asg (pe_op op_fdivN (pe_ix (kix_list K) (pv 0) pe_int (fun _ _ => rfl)) (pv 1)) (pg_sub (pv 0) pe_int set_list))
      (pss_one (ps_ret (pv 2))))) pss_nil)
      (pss_cons (ps_asg (pe_op op_add (pe_ix (kix_list K) (pv 0) pe_int (fun _ _ => rfl)) pe_int) (pg_sub (pv 0) pe_int set_list))
      (pss_cons (ps_set (i := 3) sc_law_draw.nd rfl (.inl rfl) (pe_op op_modN (pe_callTy call_int1 (by rfl) T.b_int (by decide +kernel) (pa_cons (pe_op op_add (pe_ix (kix_list K) (pv 0) pe_int (fun _ _ => rfl)) (pe_op op_mul (pe_ix (kix_list K) (pv 0) pe_int (fun _ _ => rfl)) pe_int)) pa_nil)) pe_int))
      (pss_cons (ps_set (i := 3) sc_law_draw.nd rfl (.inl rfl) (pe_op op_modN (pe_callTy call_int1 (by rfl) T.b_int (by decide +kernel) (pa_cons (pe_op op_add (pe_op op_add (pe_op op_mul (pv 3) (pv 3)) (pe_op op_mul pe_int (pv 3))) (pe_ix (kix_list K) (pv 0) pe_int (fun _ _ => rfl))) pa_nil)) pe_int))
      (pss_cons (ps_set (i := 3) sc_law_draw.nd rfl (.inl rfl) (pe_op op_modN (pe_callTy call_int1 (by rfl) T.b_int (by decide +kernel) (pa_cons (pe_op op_add (pe_op op_add (pe_op op_mul (pv 3) (pv 3)) (pe_op op_mul pe_int (pv 3))) (pe_ix (kix_list K) (pv 0) pe_int (fun _ _ => rfl))) pa_nil)) pe_int))
      (pss_one (ps_ret (pe_op op_modN (pe_callTy call_int1 (by rfl) T.b_int (by decide +kernel) (pa_cons (pe_op op_fdivN (pv 3) pe_int) pa_nil)) (pv 1))))))))), ?_⟩
    have i0 : atI [V.int x, .int y, .int z] 0 = some (.int x) := rfl
    have i1 : atI [V.int x, .int y, .int z] 1 = some (.int y) := rfl
    have i2 : atI [V.int x, .int y, .int z] 2 = some (.int z) := rfl
    refine ⟨_, rfl, p, _, 0, _, rfl, rfl, seqL_of hp, i0, x, 0, rfl, rfl, _, rfl, ?_⟩
    refine ite2 (fun hx0 => ?_) (fun hx0 => ?_)
    · refine ⟨_, rfl, p, _, 0, _, rfl, rfl, seqL_of hp, i0, .inl ⟨x, rfl, _, rfl, x, n, rfl, rfl, by omega, ?_⟩⟩
      refine ⟨_, rfl, p, _, 0, _, rfl, rfl, seqL_of hp, i0, _, rfl, x, n, rfl, rfl, ⟨by omega, by omega⟩, _, rfl, p, _, 0, 0, rfl, rfl, hp, rfl, ?_⟩
      refine ⟨_, rfl, k _ _ (Int.fmod_nonneg_of_pos _ h0) (Int.fmod_lt_of_pos _ h0) ⟨x.fdiv n, y, z, upd_same, Int.fdiv_nonneg hx (by omega)⟩⟩
    · have e2 : ∀ u v t : Int, atI [V.int u, .int v, .int t] 2 = some (.int t) := fun _ _ _ => rfl
      have e1 : ∀ u v t : Int, atI [V.int u, .int v, .int t] 1 = some (.int v) := fun _ _ _ => rfl
      refine ⟨_, rfl, p, _, 2, _, rfl, rfl, seqL_of hp, i2, z, 1, rfl, rfl, _, rfl, p, _, 2, 2, rfl, rfl, hp, rfl, ?_⟩
      have hp2 : upd H p (.lst [.int x, .int y, .int (z + 1)]) p = some (.lst [.int x, .int y, .int (z + 1)]) := upd_same
      refine ⟨_, rfl, p, _, 1, _, rfl, rfl, seqL_of hp2, e1 _ _ _, _, rfl, p, _, 2, _, rfl, rfl, seqL_of hp2, e2 _ _ _, _, _, rfl, rfl, .inr (by decide), _, _, rfl, rfl, .inl ⟨_, rfl, _, _, rfl, rfl, (by decide : (2147483647 : Int) ≠ 0), ?_⟩⟩
      have m1 : ∀ u : Int, -(2 ^ 64) < u.fmod 2147483647 ∧ u.fmod 2147483647 < 2 ^ 64 := fun u => ⟨by have := Int.fmod_nonneg_of_pos u (show (0 : Int) < 2147483647 by decide); omega, by have := Int.fmod_lt_of_pos u (show (0 : Int) < 2147483647 by decide); omega⟩
      have m2 : ∀ u : Int, -(2 ^ 64) < u.fmod 2147483629 ∧ u.fmod 2147483629 < 2 ^ 64 := fun u => ⟨by have := Int.fmod_nonneg_of_pos u (show (0 : Int) < 2147483629 by decide); omega, by have := Int.fmod_lt_of_pos u (show (0 : Int) < 2147483629 by decide); omega⟩
      refine ⟨_, rfl, _, rfl, _, _, rfl, rfl, .inl (m1 _), _, rfl, _, _, rfl, rfl, .inl ⟨by decide, by decide⟩, _, _, rfl, rfl, _, rfl, p, _, 2, _, rfl, rfl, seqL_of hp2, e2 _ _ _, _, _, rfl, rfl, .inl ⟨_, rfl, _, _, rfl, rfl, (by decide : (2147483629 : Int) ≠ 0), ?_⟩⟩
      refine ⟨_, rfl, _, rfl, _, _, rfl, rfl, .inl (m2 _), _, rfl, _, _, rfl, rfl, .inl ⟨by decide, by decide⟩, _, _, rfl, rfl, _, rfl, p, _, 1, _, rfl, rfl, seqL_of hp2, e1 _ _ _, _, _, rfl, rfl, .inl ⟨_, rfl, _, _, rfl, rfl, (by decide : (2147483587 : Int) ≠ 0), ?_⟩⟩
      exact ⟨_, rfl, _, _, rfl, rfl, ⟨by decide, by decide⟩, .inl ⟨_, rfl, _, rfl, _, _, rfl, rfl, by omega, k _ _ (Int.fmod_nonneg_of_pos _ h0) (Int.fmod_lt_of_pos _ h0) ⟨x, y, z + 1, upd_same, hx⟩⟩⟩
theorem c_law_purse (T : Txt K mg a) : Can P w K mg base 1 "_law_purse" (spPurse K) := by
  refine can_of T.d_law_purse sc_law_purse bd_law_purse (fun vs H Q E h => ?_) (fun f cdv A outer s H vs Q E hr h => ?_)
  · obtain ⟨p, ns, k, s, rfl, _⟩ := h
    rfl
  · obtain ⟨b, ns, k, sp, rfl, hs, hl, hk0, hk1, z⟩ := h
    refine ⟨_, (pss_cons (ps_set (i := 3) sc_law_purse.nd rfl (.inl rfl) (pv 2))
      (C8.pss_cut (ps_if (pt_cmpR op_lt (pv 1) (pe_callB (klen_seq K) (by rfl) T.b_len (by decide +kernel) (pa_cons (pv 0) pa_nil)) (nomark _)) (pss_one (ps_set (i := 3) sc_law_purse.nd rfl (.inl rfl) (pe_callTy call_int1 (by rfl) T.b_int (by decide +kernel) (pa_cons (pe_ix (kix_list K) (pv 0) (pv 1) (fun _ _ => rfl)) pa_nil)))) (pss_one (ps_if (pt_cmpR op_gt (pe_callB (klen_seq K) (by rfl) T.b_len (by decide +kernel) (pa_cons (pv 0) pa_nil)) pe_int (nomark _)) (pss_one (ps_set (i := 3) sc_law_purse.nd rfl (.inl rfl) (pe_op op_modN (pe_callTy call_int1 (by rfl) T.b_int (by decide +kernel) (pa_cons (pe_op op_add (pe_op op_mul (pe_callB (ksum K (by rfl)) (by rfl) T.b_sum (by decide +kernel) (pa_cons (pv 0) pa_nil)) pe_int) (pe_op op_mul (pv 1) pe_int)) pa_nil)) pe_int))) pss_nil)))
      (pss_cons (ps_set (i := 4) sc_law_purse.nd rfl (.inl rfl) (pe_op op_modN (pe_callTy call_int1 (by rfl) T.b_int (by decide +kernel) (pa_cons (pe_op op_add (pe_op op_add (pe_op op_mul (pv 3) pe_int) (pe_op op_mul (pv 1) pe_int)) pe_int) pa_nil)) pe_int))
      (pss_cons (ps_if (pt_cmpR op_lt (pe_callB call_abs (by rfl) T.b_abs (by decide +kernel) (pa_cons (pv 3) pa_nil)) (pe_op op_pow pe_int pe_int) (nomark _)) (pss_one (ps_ret (pe_lst (pa_cons pe_int (pa_cons (pv 4) (pa_cons pe_int pa_nil)))))) pss_nil)
      (pss_one (ps_ret (pe_lst (pa_cons (pe_callB call_abs (by rfl) T.b_abs (by decide +kernel) (pa_cons (pv 3) pa_nil)) (pa_cons (pv 4) (pa_cons pe_int pa_nil)))))))))), ?_⟩
    refine ⟨_, rfl, ?_⟩
    have hlE : (ns.map V.int).length = ns.length := List.length_map ..
    refine ⟨fun σ G => G = H ∧ ∃ (c : Int) (v : Option V), σ = [some (.ref b), some (.int k), some (.int sp), some (.int c), v], ?_, ?_⟩
    · refine ⟨_, rfl, _, rfl, b, _, rfl, .inl hs, _, _, rfl, rfl, _, rfl, ?_⟩
      refine ite2 (fun hk => ?_) (fun hk => ?_)
      · have hk' : k.toNat < ns.length := by
          have := of_decide_eq_true hk
          omega
        have hix : atI (ns.map V.int) k = some (.int ns[k.toNat]) := by
          have e := atI_nat (xs := ns.map V.int) (j := k.toNat) (v := .int ns[k.toNat]) (by rw [List.getElem?_map, List.getElem?_eq_getElem hk']; rfl)
          rwa [show ((k.toNat : Nat) : Int) = k by omega] at e
        exact ⟨_, rfl, _, rfl, b, _, k, _, rfl, rfl, hs, hix, .inl ⟨_, rfl, rfl, _, _, rfl⟩⟩
      · refine ⟨_, rfl, b, _, rfl, .inl hs, ?_⟩
        walk_at "rd"
        refine ite2 (fun _ => ?_) (fun _ => ?_)
        · refine ⟨_, rfl, b, ns, rfl, hs, ?_⟩
          refine ⟨_, _, rfl, rfl, .inr (by decide), _, rfl, _, _, rfl, rfl, .inr (by decide), _, _, rfl, rfl, .inl ⟨_, rfl, _, _, rfl, rfl, (by decide : (2147483647 : Int) ≠ 0), rfl, _, _, rfl⟩⟩
        · exact ⟨rfl, _, _, rfl⟩
    · rintro _ _ ⟨rfl, c, v, rfl⟩
      refine ⟨_, rfl, _, _, rfl, rfl, .inr (by decide), _, rfl, _, _, rfl, rfl, .inr (by decide), _, _, rfl, rfl, _, _, rfl, rfl, .inl ⟨_, rfl, _, _, rfl, rfl, (by decide : (2147483647 : Int) ≠ 0), ?_⟩⟩
      refine ⟨_, rfl, c, rfl, _, _, rfl, rfl, ⟨by decide, by decide, by decide⟩, _, _, rfl, rfl, _, rfl, ?_⟩
      refine ite2 (fun _ => ?_) (fun _ => ?_)
      · refine ⟨_, rfl, (by show 3 ≤ sizeLine; decide), fun q hq => z q _ hq ⟨_, _, _, upd_same, Int.le_refl _⟩⟩
      · refine ⟨_, rfl, c, rfl, _, rfl, (by show 3 ≤ sizeLine; decide), fun q hq => z q _ hq ⟨_, _, _, upd_same, ?_⟩⟩
        split <;> omega
end
end K00

end
section
set_option Elab.async false
set_option linter.all false
set_option maxRecDepth 100000
set_option maxHeartbeats 4000000
namespace K00
open PySem PySem.Spec PyProof.Rows L2 Kit
/-! ### a scheme -/
def fl (r c n : Nat) : List (Str × V) := [("rows", .int r), ("colours", .int c), ("columns", tx (cols n))]
def SchemeAt (C : Addr) (H : Hp) (p : Addr) (r c n : Nat) : Prop := (∃ dx, H p = some (.ins C dx (fl r c n))) ∧ Good r c n
theorem SchemeAt.mono {C p : Addr} {H G : Hp} {r c n : Nat} (h : SchemeAt C H p r c n) (e : Same H G) : SchemeAt C G p r c n := ⟨let ⟨dx, z⟩ := h.1; ⟨dx, e _ _ z⟩, h.2⟩
theorem fm (x c : Nat) : ((x : Nat) : Int).fmod ((c : Nat) : Int) = ((x % c : Nat) : Int) := by
  rw [Int.fmod_eq_emod_of_nonneg _ (by omega)]
  exact (Int.natCast_emod x c).symm
theorem fd (x c : Nat) : ((x : Nat) : Int).fdiv ((c : Nat) : Int) = ((x / c : Nat) : Int) := by
  rw [Int.fdiv_eq_ediv_of_nonneg _ (by omega)]
  exact (Int.natCast_ediv x c).symm
theorem k1 : (("colours" : Str) == ("rows" : Str)) = false := by decide +kernel
theorem k2 : (("columns" : Str) == ("rows" : Str)) = false := by decide +kernel
theorem k3 : (("columns" : Str) == ("colours" : Str)) = false := by decide +kernel
theorem fl_rows (r c n : Nat) : (fl r c n).lookup ("rows" : Str) = some (.int r) := by
  unfold fl
  rw [List.lookup_cons, beq_self_eq_true]
theorem fl_colours (r c n : Nat) : (fl r c n).lookup ("colours" : Str) = some (.int c) := by
  unfold fl
  rw [List.lookup_cons, k1, List.lookup_cons, beq_self_eq_true]
theorem fl_columns (r c n : Nat) : (fl r c n).lookup ("columns" : Str) = some (tx (cols n)) := by
  unfold fl
  rw [List.lookup_cons, k2, List.lookup_cons, k3, List.lookup_cons, beq_self_eq_true]
theorem fl_no (r c n : Nat) {m : Str} (h1 : (m == ("rows" : Str)) = false) (h2 : (m == ("colours" : Str)) = false) (h3 : (m == ("columns" : Str)) = false) : (fl r c n).lookup m = none := by
  unfold fl
  rw [List.lookup_cons, h1, List.lookup_cons, h2, List.lookup_cons, h3, List.lookup_nil]
theorem lit_dig : (Str.ofString "012") = S [48, 49, 50] := by decide +kernel
theorem lit_let : (Str.ofString "abcdefghi") = S (cols 9) := by decide +kernel
theorem lit_e : (Str.ofString "") = S [] := by decide +kernel
/-- what follows of a field's reading: C, the class's facts, the fields -/
local macro_rules | `(tactic| walk_at "rd") => `(tactic| repeat (first | refine ⟨_, rfl, ?_⟩ | refine ⟨_, _, rfl, rfl, ?_⟩ | refine ⟨rfl, ?_⟩))
section
variable {P : Program} {w : World} {K : PySem.W.Frag} {mg : Str → Option Value} {base : Heap} {a : Ad}
def spIsCol (C : Addr) : Sp := fun vs H Q _ => ∃ (p : Addr) (r c n : Nat) (l : List Nat), vs = [.ref p, tx l] ∧ SchemeAt C H p r c n ∧ l.length ≤ 100000 ∧ Q (.bl (isCol n l)) H
theorem one_in {l : List Nat} (h : l.length = 1) : ∃ x, l = [x] := by
  match l, h with
  | [x], _ => exact ⟨x, rfl⟩
theorem c_Scheme_is_column (T : Txt K mg a) : CanM P w K mg base 1 a.Scheme "is_column" (spIsCol a.Scheme) := by
  refine canM_of T.c_Scheme.cl T.m_Scheme_is_column sc_Scheme_is_column bd_Scheme_is_column (fun vs H Q E h => ?_) (fun f cdv A outer s H vs Q E hr h => ?_)
  · obtain ⟨p, r, c, n, l, rfl, _⟩ := h
    rfl
  · obtain ⟨p, r, c, n, l, rfl, ⟨⟨dx, hp⟩, gd⟩, hl, z⟩ := h
    refine ⟨_, (pss_one (ps_ret (pe_and (pe_cmpR op_eq (pe_callB call_len_str (by rfl) T.b_len (by decide +kernel) (pa_cons (pv 1) pa_nil)) pe_int (nomark _)) (pe_one (pe_cmpR op_in_sign (pv 1) (kfld K (pv 0)) (by rfl)))))), ?_⟩
    refine ⟨_, rfl, _, rfl, szl (by rw [S_len]; exact hl), rfl, _, rfl, ?_⟩
    rw [S_len]
    refine ite2 (fun h1 => ?_) (fun h1 => ?_)
    · have h1 : l.length = 1 := by
        have := V.int.inj (of_decide_eq_true h1)
        omega
      obtain ⟨x, rfl⟩ := one_in h1
      refine ⟨_, rfl, _, rfl, p, _, dx, _, _, rfl, hp, T.c_Scheme.cl, T.n_columns, fl_columns r c n, x, _, rfl, rfl, ?_⟩
      have e : isCol n [x] = decide (x ∈ (S (cols n)).cps.toList) := by
        rw [S_cps, isCol, List.all_cons, List.all_nil, Bool.and_true]
        by_cases hx : inCol n x = true
        · rw [hx, decide_eq_true (mem_cols.mpr hx)]
          rfl
        · rw [decide_eq_false (fun q => hx (mem_cols.mp q)), Bool.eq_false_iff.mpr hx]
          rfl
      rw [← e]
      exact z
    · have h1 : ¬ l.length = 1 := fun q => h1 (decide_eq_true (by rw [q]; rfl))
      have e : isCol n l = false := by
        rw [isCol, decide_eq_false h1]
        rfl
      rw [e] at z
      exact z
def spIsColour (C : Addr) : Sp := fun vs H Q _ => ∃ (p : Addr) (r c n : Nat) (l : List Nat), vs = [.ref p, tx l] ∧ SchemeAt C H p r c n ∧ l.length ≤ 100000 ∧ Q (.bl (isColour c l)) H
theorem cut_dig {c : Nat} (h : c = 2 ∨ c = 3) : cutS (Str.ofString "012") none (some (c : Int)) = S ((List.range c).map (48 + ·)) := by
  rcases h with rfl | rfl <;> decide +kernel
theorem mem_digs {c x : Nat} : x ∈ (List.range c).map (48 + ·) ↔ inDig c x = true := by
  unfold inDig
  rw [List.mem_map, decide_eq_true_iff]
  constructor
  · rintro ⟨k, hk, rfl⟩
    have := List.mem_range.mp hk
    omega
  · intro h
    exact ⟨x - 48, List.mem_range.mpr (by omega), by omega⟩
theorem good_c {r c n : Nat} (h : Good r c n) : c = 2 ∨ c = 3 := by
  rcases h.cases with h | h | h | h | h <;> omega
theorem c_Scheme_is_colour (T : Txt K mg a) : CanM P w K mg base 1 a.Scheme "is_colour" (spIsColour a.Scheme) := by
  refine canM_of T.c_Scheme.cl T.m_Scheme_is_colour sc_Scheme_is_colour bd_Scheme_is_colour (fun vs H Q E h => ?_) (fun f cdv A outer s H vs Q E hr h => ?_)
  · obtain ⟨p, r, c, n, l, rfl, _⟩ := h
    rfl
  · obtain ⟨p, r, c, n, l, rfl, ⟨⟨dx, hp⟩, gd⟩, hl, z⟩ := h
    refine ⟨_, (pss_one (ps_ret (pe_and (pe_cmpR op_eq (pe_callB call_len_str (by rfl) T.b_len (by decide +kernel) (pa_cons (pv 1) pa_nil)) pe_int (nomark _)) (pe_one (pe_cmpR op_in_sign (pv 1) (pe_slice sl_str (C8.pe_gc (by rfl) T.g_DIGITS) po_none (po_some (kfld K (pv 0)))) (by rfl)))))), ?_⟩
    refine ⟨_, rfl, _, rfl, szl (by rw [S_len]; exact hl), rfl, _, rfl, ?_⟩
    rw [S_len]
    refine ite2 (fun h1 => ?_) (fun h1 => ?_)
    · have h1 : l.length = 1 := by
        have := V.int.inj (of_decide_eq_true h1)
        omega
      obtain ⟨x, rfl⟩ := one_in h1
      refine ⟨_, rfl, _, rfl, p, _, dx, _, _, rfl, hp, T.c_Scheme.cl, T.n_colours, fl_colours r c n, _, rfl, _, rfl, (by decide +kernel), x, _, rfl, rfl, ?_⟩
      rw [cut_dig (good_c gd)]
      have e : isColour c [x] = decide (x ∈ (S ((List.range c).map (48 + ·))).cps.toList) := by
        rw [S_cps, isColour, List.all_cons, List.all_nil, Bool.and_true]
        by_cases hx : inDig c x = true
        · rw [hx, decide_eq_true (mem_digs.mpr hx)]
          rfl
        · rw [decide_eq_false (fun q => hx (mem_digs.mp q)), Bool.eq_false_iff.mpr hx]
          rfl
      rw [← e]
      exact z
    · have h1 : ¬ l.length = 1 := fun q => h1 (decide_eq_true (by rw [q]; rfl))
      have e : isColour c l = false := by
        rw [isColour, decide_eq_false h1]
        rfl
      rw [e] at z
      exact z
theorem at_S {l : List Nat} {i c : Nat} (h : (S l).cps[i]? = some c) : l[i]? = some c := by
  have z : (S l).cps[i]? = l[i]? := List.getElem?_toArray ..
  rw [← z]
  exact h
theorem beq_col (n x : Nat) : decide (x ∈ (S (cols n)).cps.toList) = inCol n x := by
  rw [S_cps]
  by_cases h : inCol n x = true
  · rw [h, decide_eq_true (mem_cols.mpr h)]
  · rw [decide_eq_false (fun q => h (mem_cols.mp q)), Bool.eq_false_iff.mpr h]
theorem all_map {l : List Nat} {f : Nat → Bool} : (l.map f).all id = l.all f := by
  rw [List.all_map]
  rfl
def spIsStrip (C : Addr) : Sp := fun vs H Q _ => ∃ (p : Addr) (r c n : Nat) (l : List Nat), vs = [.ref p, tx l] ∧ SchemeAt C H p r c n ∧ l.length ≤ 100000 ∧ ∀ G, Same H G → Q (.bl (isStrip n l)) G
theorem c_Scheme_is_strip (T : Txt K mg a) : CanM P w K mg base 1 a.Scheme "is_strip" (spIsStrip a.Scheme) := by
  refine canM_of T.c_Scheme.cl T.m_Scheme_is_strip sc_Scheme_is_strip bd_Scheme_is_strip (fun vs H Q E h => ?_) (fun f cdv A outer s H vs Q E hr h => ?_)
  · obtain ⟨p, r, c, n, l, rfl, _⟩ := h
    rfl
  · obtain ⟨p, r, c, n, l, rfl, sch, hl, z⟩ := h
    refine ⟨_, (pss_one (ps_ret (pe_callB (kall K (by rfl)) (by rfl) T.b_all (by decide +kernel) (pa_cons (pe_lc (own := [("column", 2)]) (g := gName 2) (tt := tYes) (by rfl) sc_Scheme_is_strip.nd (pi_str (pv 1)) (blkOk_by (N := N_Scheme_is_strip) (sc := defScope s_Scheme_is_strip) (by decide +kernel)) (fun _ _ _ _ _ => (pg_name (i := 2) sc_Scheme_is_strip.nd rfl (.inl rfl))) (fun _ _ _ _ _ => pts_nil) (fun _ _ _ _ _ => (pe_cmpR op_in_sign (pv 2) (kfld K (pv 0)) (by rfl)))) pa_nil)))), ?_⟩
    refine ⟨_, rfl, _, rfl, fun D hD => lc_one walk_str (l.map fun x => V.bl (inCol n x)) (by rw [List.length_map]; exact (S_len l).symm) (by show (S l).length ≤ _; rw [S_len]; exact hl) hD (fun _ _ => True.intro) ?_ ?_⟩
    · rintro i x G G' v hi s1 ⟨rfl, c', hc, rfl⟩ hv
      have hc := at_S hc
      rw [List.getElem?_map, hc] at hv
      cases hv
      obtain ⟨⟨dx, hp⟩, _⟩ := sch.mono s1
      refine ⟨.refl _, fun Q' q => ⟨_, rfl, _, rfl, p, _, dx, _, _, rfl, hp, T.c_Scheme.cl, T.n_columns, fl_columns r c n, c', _, rfl, rfl, ?_⟩⟩
      rw [beq_col]
      exact q _ (.refl _)
    · intro G s1 hG
      refine ⟨D, l.map (inCol n), rfl, seqL_of (by rw [List.map_map]; exact hG), ?_⟩
      rw [all_map]
      exact z G s1
def spCheck (a : Ad) : Sp := fun vs H Q E => ∃ (p : Addr) (r c n : Nat) (l : List Nat), vs = [.ref p, tx l] ∧ SchemeAt a.Scheme H p r c n ∧ l.length ≤ 100000 ∧ (isStrip n l = true → ∀ G, Same H G → Q .non G) ∧ (isStrip n l = false → Ra E a.BadStrip "text" (tx l) H)
theorem c_Scheme_check (T : Txt K mg a) : CanM P w K mg base 3 a.Scheme "check" (spCheck a) := by
  refine canM_of T.c_Scheme.cl T.m_Scheme_check sc_Scheme_check bd_Scheme_check (fun vs H Q E h => ?_) (fun f cdv A outer s H vs Q E hr h => ?_)
  · obtain ⟨p, r, c, n, l, rfl, _⟩ := h
    rfl
  · obtain ⟨p, r, c, n, l, rfl, sch, hl, z, y⟩ := h
    refine ⟨_, (pss_one (ps_if (pt_not (pt_val (pc_m (c_Scheme_is_strip T) hr (by decide) (pv 0) (pa_cons (pv 1) pa_nil)))) (pss_one (pr_err (c_BadStrip T) (takes_of rfl rfl rfl rfl) (by rfl) hr (by decide) (by rfl) (pv 1))) pss_nil)), ?_⟩
    obtain ⟨dx, hp⟩ := sch.1
    refine ⟨_, rfl, p, dx, _, rfl, hp, fl_no _ _ _ (by decide +kernel) (by decide +kernel) (by decide +kernel), _, rfl, p, r, c, n, l, rfl, sch, hl, fun G s1 => ⟨_, rfl, ?_⟩⟩
    cases e : isStrip n l with
    | true => exact iteF (z e G s1)
    | false => exact iteT ⟨_, rfl, ((y e).mono s1).now⟩
def col0 (l : List Nat) : Nat := l.headD 0 - 97
theorem idx_col {n x : Nat} (hn : n ≤ 9) (h : inCol n x = true) : Txt.index0 (S (cols n)) (S [x]) = some (x - 97) := by
  unfold inCol at h
  rw [decide_eq_true_iff] at h
  have z : ∀ n ≤ 9, ∀ k < n, Txt.index0 (S (cols n)) (S [97 + k]) = some k := by decide +kernel
  have y := z n hn (x - 97) (by omega)
  rw [show 97 + (x - 97) = x by omega] at y
  exact y
theorem good_n {r c n : Nat} (h : Good r c n) : n ≤ 9 ∧ 0 < r ∧ r ≤ 3 ∧ 0 < n ∧ 2 ≤ n := by
  rcases h.cases with h | h | h | h | h <;> omega
theorem atI_S {l : List Nat} {i x : Nat} (h : l[i]? = some x) : atI (S l).cps.toList ((i : Nat) : Int) = some x := by
  rw [S_cps]
  exact atI_nat h
theorem lit_at {k : Nat} (h : k < 3) : atI (Str.ofString "012").cps.toList ((k : Nat) : Int) = some (48 + k) := by
  rw [lit_dig]
  refine atI_S ?_
  have z : ∀ k < 3, [48, 49, 50][k]? = some (48 + k) := by decide
  exact z k h
def spSpots (a : Ad) : Sp := fun vs H Q E => ∃ (p : Addr) (r c n : Nat) (l : List Nat), vs = [.ref p, tx l] ∧ SchemeAt a.Scheme H p r c n ∧ l.length ≤ 100000 ∧ (isCol n l = true → Q (tx (dig r c (col0 l))) H) ∧ (isCol n l = false → Ra E a.BadColumn "text" (tx l) H)
theorem isCol_one {n : Nat} {l : List Nat} (h : isCol n l = true) : ∃ x, l = [x] ∧ inCol n x = true := by
  unfold isCol at h
  rw [Bool.and_eq_true, decide_eq_true_iff] at h
  obtain ⟨x, rfl⟩ := one_in h.1
  exact ⟨x, rfl, by simpa using h.2⟩
theorem ord_ab {n x : Nat} (h : inCol n x = true) : (((S [x]).cps.getD 0 0 : Nat) : Int) - (((Str.ofString "a").cps.getD 0 0 : Nat) : Int) = ((x - 97 : Nat) : Int) := by
  have e1 : (S [x]).cps.getD 0 0 = x := rfl
  have e2 : (Str.ofString "a").cps.getD 0 0 = 97 := by decide +kernel
  rw [e1, e2]
  unfold inCol at h
  rw [decide_eq_true_iff] at h
  omega
theorem c_Scheme_spots (T : Txt K mg a) : CanM P w K mg base 3 a.Scheme "spots" (spSpots a) := by
  refine canM_of T.c_Scheme.cl T.m_Scheme_spots sc_Scheme_spots bd_Scheme_spots (fun vs H Q E h => ?_) (fun f cdv A outer s H vs Q E hr h => ?_)
  · obtain ⟨p, r, c, n, l, rfl, _⟩ := h
    rfl
  · obtain ⟨p, r, c, n, l, rfl, sch, hl, z, y⟩ := h
    refine ⟨_, (pss_cons (ps_if (pt_not (pt_val (pc_m (c_Scheme_is_column T) hr (by decide) (pv 0) (pa_cons (pv 1) pa_nil)))) (pss_one (pr_err (c_BadColumn T) (takes_of rfl rfl rfl rfl) (by rfl) hr (by decide) (by rfl) (pv 1))) pss_nil)
      (pss_cons (ps_set (i := 2) sc_Scheme_spots.nd rfl (.inl rfl) (pe_op op_sub (pe_callB call_ord (by rfl) T.b_ord (by decide +kernel) (pa_cons (pv 1) pa_nil)) (pe_callB call_ord (by rfl) T.b_ord (by decide +kernel) (pa_cons (kcon K (pv 0)) pa_nil))))
      (pss_cons (ps_set (i := 3) sc_Scheme_spots.nd rfl (.inl rfl) pe_str)
      (pss_cons (ps_for (passes_of rfl) (by rfl) (pi_range1 (by rfl) T.b_range (pa_cons (kfld K (pv 0)) pa_nil)) (pg_name (i := 4) sc_Scheme_spots.nd rfl (.inl rfl)) (pss_cons (ps_set (i := 3) sc_Scheme_spots.nd rfl (.inl rfl) (pe_op op_add_str (pe_ix ix_str (C8.pe_gc (by rfl) T.g_DIGITS) (pe_op op_modN (pv 2) (kfld K (pv 0))) (fun _ _ => rfl)) (pv 3)))
      (pss_one (ps_set (i := 2) sc_Scheme_spots.nd rfl (.inl rfl) (pe_op op_fdivN (pv 2) (kfld K (pv 0)))))))
      (pss_one (ps_ret (pv 3))))))), ?_⟩
    obtain ⟨dx, hp⟩ := sch.1
    have gn := good_n sch.2
    have gc := good_c sch.2
    refine ⟨_, rfl, p, dx, _, rfl, hp, fl_no _ _ _ (by decide +kernel) (by decide +kernel) (by decide +kernel), _, rfl, p, r, c, n, l, rfl, sch, hl, _, rfl, ?_⟩
    cases e : isCol n l with
    | false => exact iteT ⟨_, rfl, (y e).now⟩
    | true =>
      refine iteF ?_
      obtain ⟨x, rfl, hx⟩ := isCol_one e
      obtain ⟨u9, k9⟩ := T.k_BLANK
      refine ⟨_, rfl, S [x], rfl, rfl, _, rfl, p, _, dx, _, _, _, rfl, hp, T.c_Scheme.cl, k9, rfl, Str.ofString "a", rfl, rfl, _, _, rfl, rfl, ?_⟩
      · have e9 := ord_ab hx
        dsimp only
        rw [e9]
        refine ⟨_, rfl, p, _, dx, _, _, rfl, hp, T.c_Scheme.cl, T.n_rows, fl_rows r c n, r, rfl, by omega, by omega, ?_⟩
        refine for_it (walk_range (lo := 0) (n := ((r : Nat) : Int).toNat)) (fun i σ G => G = H ∧ ∃ v : Option V, σ = [some (.ref p), some (tx [x]), some (.int (((x - 97) / c ^ i : Nat) : Int)), some (tx (dig i c (x - 97))), v]) ⟨rfl, none, ?_⟩ (fun _ _ _ _ _ => True.intro) ?_ ?_
        · show [_, _, some (V.int ((x - 97 : Nat) : Int)), some (V.str (Str.ofString "")), none] = [_, _, some (V.int (((x - 97) / c ^ 0 : Nat) : Int)), some (tx []), _]
          rw [Nat.pow_zero, Nat.div_one, lit_e]
        · rintro i u σ G G' hi ⟨rfl, v, rfl⟩ ⟨rfl, rfl⟩
          have g2 := gc
          have hm : (x - 97) / c ^ i % c < 3 := by
            have := Nat.mod_lt ((x - 97) / c ^ i) (show 0 < c by omega)
            omega
          refine ⟨_, rfl, _, rfl, p, _, dx, _, _, rfl, hp, T.c_Scheme.cl, T.n_colours, fl_colours r c n, _, _, rfl, rfl, by show (c : Int) ≠ 0; omega, _, _, 48 + (x - 97) / c ^ i % c, rfl, rfl, by decide +kernel, by rw [fm]; exact lit_at hm, _, rfl, S [48 + (x - 97) / c ^ i % c], _, rfl, rfl, ?_, ?_⟩
          · rw [S_len, S_len, dig_len]
            exact szl (by show 1 + i ≤ 100000; omega)
          · refine ⟨_, rfl, _, rfl, p, _, dx, _, _, rfl, hp, T.c_Scheme.cl, T.n_colours, fl_colours r c n, _, _, rfl, rfl, ⟨by omega, by omega⟩, rfl, some (.int (0 + (i : Nat))), ?_⟩
            show [some (V.ref p), some (tx [x]), some (V.int (Int.fdiv (((x - 97) / c ^ i : Nat) : Int) (c : Int))), some (V.str (S [48 + (x - 97) / c ^ i % c] ++ S (dig i c (x - 97)))), _] = _
            rw [fd, S_app, Nat.div_div_eq_div_mul, ← Nat.pow_succ]
            rfl
        · rintro σ G ⟨rfl, v, rfl⟩
          exact ⟨_, rfl, z e⟩
end
end K00

end
section
set_option Elab.async false
set_option linter.all false
set_option maxRecDepth 100000
set_option maxHeartbeats 4000000
namespace K00
open PySem PySem.Spec PyProof.Rows L2 Kit
section
variable {P : Program} {w : World} {K : PySem.W.Frag} {mg : Str → Option Value} {base : Heap} {a : Ad}
theorem idx_dig {x : Nat} (h : inDig 3 x = true) : Txt.index0 (Str.ofString "012") (S [x]) = some (x - 48) := by
  unfold inDig at h
  rw [decide_eq_true_iff] at h
  have z : ∀ k < 3, Txt.index0 (Str.ofString "012") (S [48 + k]) = some k := by decide +kernel
  have y := z (x - 48) (by omega)
  rw [show 48 + (x - 48) = x by omega] at y
  exact y
theorem int_dig {x : Nat} (h : inDig 3 x = true) : PySem.intText? (S [x]) = some ((x - 48 : Nat) : Int) := by
  unfold inDig at h
  rw [decide_eq_true_iff] at h
  have z : ∀ k < 3, PySem.intText? (S [48 + k]) = some ((k : Nat) : Int) := by decide +kernel
  have y := z (x - 48) (by omega)
  rw [show 48 + (x - 48) = x by omega] at y
  exact y
theorem inDig3 {c x : Nat} (hc : c ≤ 3) (h : inDig c x = true) : inDig 3 x = true := by
  unfold inDig at h ⊢
  rw [decide_eq_true_iff] at h ⊢
  omega
theorem isColour_one (c x : Nat) : isColour c [x] = inDig c x := by
  rw [isColour, List.all_cons, List.all_nil, Bool.and_true]
  rfl
theorem num_take {c : Nat} {l : List Nat} {i x : Nat} (h : l[i]? = some x) : num c (l.take (i + 1)) = num c (l.take i) * c + (x - 48) := by
  unfold num
  rw [List.take_add_one, h, List.foldl_append]
  rfl
theorem all_at {l : List Nat} {f : Nat → Bool} (h : l.all f = true) {i x : Nat} (hx : l[i]? = some x) : f x = true := List.all_eq_true.mp h x (List.mem_of_getElem? hx)
theorem cols_at {n k : Nat} (h : k < n) : atI (S (cols n)).cps.toList ((k : Nat) : Int) = some (97 + k) := by
  refine atI_S ?_
  unfold cols
  rw [List.getElem?_map, List.getElem?_range h]
  rfl
def spCol (a : Ad) : Sp := fun vs H Q E => ∃ (p : Addr) (r c n : Nat) (l : List Nat), vs = [.ref p, tx l] ∧ SchemeAt a.Scheme H p r c n ∧ l.length ≤ 100000 ∧ (isDigs r c l = true → ∀ G, Same H G → Q (tx [97 + num c l]) G) ∧ (isDigs r c l = false → Ra E a.BadSpots "text" (tx l) H)
theorem c_Scheme_column (T : Txt K mg a) : CanM P w K mg base 3 a.Scheme "column" (spCol a) := by
  refine canM_of T.c_Scheme.cl T.m_Scheme_column sc_Scheme_column bd_Scheme_column (fun vs H Q E h => ?_) (fun f cdv A outer s H vs Q E hr h => ?_)
  · obtain ⟨p, r, c, n, l, rfl, _⟩ := h
    rfl
  · obtain ⟨p, r, c, n, l, rfl, sch, hl, z, y⟩ := h
    refine ⟨_, (pss_cons (ps_if (PW.pt (pw_or (pt_cmpR op_ne (pe_callB call_len_str (by rfl) T.b_len (by decide +kernel) (pa_cons (pv 1) pa_nil)) (kfld K (pv 0)) (nomark _)) (pw_or1 (pt_not (pt_truth (pe_callB (kall K (by rfl)) (by rfl) T.b_all (by decide +kernel) (pa_cons (pe_lc (own := [("spot", 2)]) (g := gName 2) (tt := tYes) (by rfl) sc_Scheme_column.nd (pi_str (pv 1)) (blkOk_by (N := N_Scheme_column) (sc := defScope s_Scheme_column) (by decide +kernel)) (fun _ _ _ _ _ => (pg_name (i := 2) sc_Scheme_column.nd rfl (.inl rfl))) (fun _ _ _ _ _ => pts_nil) (fun _ _ _ _ _ => (pc_m (c_Scheme_is_colour T) hr (by decide) (pv 0) (pa_cons (pv 2) pa_nil)))) pa_nil)) (by intro _; rfl)))))) (pss_one (pr_err (c_BadSpots T) (takes_of rfl rfl rfl rfl) (by rfl) hr (by decide) (by rfl) (pv 1))) pss_nil)
      (pss_cons (ps_set (i := 3) sc_Scheme_column.nd rfl (.inl rfl) pe_int)
      (pss_cons (ps_for (passes_of rfl) (by rfl) (pi_str (pv 1)) (pg_name (i := 2) sc_Scheme_column.nd rfl (.inl rfl)) (pss_one (ps_set (i := 3) sc_Scheme_column.nd rfl (.inl rfl) (pe_op op_add (pe_op op_mul (pv 3) (kfld K (pv 0))) (pe_callTy call_int_str (by rfl) T.b_int (by decide +kernel) (pa_cons (pv 2) pa_nil))))))
      (pss_one (ps_ret (pe_ix ix_str (kfld K (pv 0)) (pv 3) (fun _ _ => rfl))))))), ?_⟩
    obtain ⟨dx, hp⟩ := sch.1
    have gn := good_n sch.2
    have gc := good_c sch.2
    refine ⟨_, rfl, _, rfl, szl (by rw [S_len]; exact hl), _, rfl, p, _, dx, _, _, rfl, hp, T.c_Scheme.cl, T.n_rows, fl_rows r c n, rfl, _, rfl, ?_⟩
    rw [S_len]
    refine ite2 (fun h1 => ?_) (fun h1 => ?_)
    · refine iteT ⟨_, rfl, (y ?_).now⟩
      unfold isDigs
      rw [Bool.and_eq_false_iff]
      refine .inl (decide_eq_false fun q => ?_)
      rw [q] at h1
      exact absurd h1 (by simp)
    · refine ⟨_, rfl, _, rfl, fun D hD => lc_one walk_str (l.map fun x => V.bl (inDig c x)) (by rw [List.length_map]; exact (S_len l).symm) (by show (S l).length ≤ _; rw [S_len]; exact hl) hD (fun _ _ => True.intro) ?_ ?_⟩
      · rintro i x G G' v hi s1 ⟨rfl, c', hc, rfl⟩ hv
        have hc := at_S hc
        rw [List.getElem?_map, hc] at hv
        cases hv
        obtain ⟨dx, hp⟩ := (sch.mono s1).1
        refine ⟨.refl _, fun Q' q => ⟨_, rfl, p, dx, _, rfl, hp, fl_no _ _ _ (by decide +kernel) (by decide +kernel) (by decide +kernel), _, rfl, p, r, c, n, [c'], rfl, sch.mono s1, by show 1 ≤ 100000; decide, ?_⟩⟩
        rw [isColour_one]
        exact q _ (.refl _)
      · intro G s1 hG
        refine ⟨D, l.map (inDig c), rfl, seqL_of (by rw [List.map_map]; exact hG), ?_⟩
        rw [all_map]
        have hlr : l.length = r := by
          by_cases q : (l.length : Int) = (r : Int)
          · omega
          · exact absurd (by simpa using q) h1
        refine ⟨_, rfl, ?_⟩
        cases e : l.all (inDig c) with
        | false =>
          refine iteT ⟨_, rfl, ((y ?_).mono s1).now⟩
          unfold isDigs
          rw [e, Bool.and_false]
        | true =>
          have hd : isDigs r c l = true := by
            unfold isDigs
            rw [e, Bool.and_true, decide_eq_true hlr]
          refine iteF ?_
          refine ⟨_, rfl, _, rfl, for_it walk_str (fun i σ M => M = G ∧ ∃ v : Option V, σ = [some (.ref p), some (tx l), v, some (.int ((num c (l.take i) : Nat) : Int))]) ⟨rfl, none, rfl⟩ (fun _ _ _ _ _ => True.intro) ?_ ?_⟩
          · rintro i u σ M M' hi ⟨rfl, v, rfl⟩ ⟨rfl, x, hx, rfl⟩
            have hx := at_S hx
            have dx3 := inDig3 (by omega) (all_at e hx)
            obtain ⟨dx, hp⟩ := (sch.mono s1).1
            refine ⟨_, rfl, _, rfl, p, _, dx, _, _, rfl, hp, T.c_Scheme.cl, T.n_colours, fl_colours r c n, _, _, rfl, rfl, .inr ⟨by omega, by omega⟩, _, rfl, S [x], ((x - 48 : Nat) : Int), by rw [S_one], int_dig dx3, by show 1 ≤ 640; decide, ?_⟩
            refine ⟨_, _, rfl, rfl, rfl, some (tx [x]), ?_⟩
            rw [num_take hx]
            show [some (V.ref p), some (tx l), _, some (V.int (((num c (l.take i) : Nat) : Int) * (c : Int) + ((x - 48 : Nat) : Int)))] = [some (V.ref p), some (tx l), _, some (V.int ((num c (l.take i) * c + (x - 48) : Nat) : Int))]
            rw [Int.natCast_add, Int.natCast_mul]
            rfl
          · rintro σ M ⟨rfl, v, rfl⟩
            obtain ⟨dx, hp⟩ := (sch.mono s1).1
            rw [show (S l).cps.size = l.length from S_len l, List.take_of_length_le (Nat.le_refl _)]
            refine ⟨_, rfl, p, _, dx, _, _, rfl, hp, T.c_Scheme.cl, T.n_columns, fl_columns r c n, _, rfl, _, _, 97 + num c l, rfl, rfl, ?_, ?_, z hd _ s1⟩
            · rw [S_len, cols_len]
              exact szl (by omega)
            · exact cols_at (num_lt sch.2 hd)

/-! ### Scheme(rows, colours) -/
theorem put_fl (x y : V) (n : Nat) (r c : Nat) : putF "columns" (tx (cols n)) (putF "colours" (.int c) (putF "rows" (.int r) [])) = fl r c n := by
  have e1 : ¬ (("rows" : Str) = "colours") := by decide +kernel
  have e2 : ¬ (("rows" : Str) = "columns") := by decide +kernel
  have e3 : ¬ (("colours" : Str) = "columns") := by decide +kernel
  show putF "columns" _ (if ("rows" : Str) = "colours" then _ else _) = _
  rw [if_neg e1]
  show (if ("rows" : Str) = "columns" then _ else (("rows" : Str), V.int r) :: (if ("colours" : Str) = "columns" then _ else _)) = _
  rw [if_neg e2, if_neg e3]
  rfl
def sizeOf (r c : Int) : Option Nat := if r = 1 ∧ c = 2 then some 2 else if r = 1 ∧ c = 3 then some 3 else if r = 2 ∧ c = 2 then some 4 else if r = 2 ∧ c = 3 then some 9 else if r = 3 ∧ c = 2 then some 8 else none
/-- the first wrong part -/
def badPart (r c : Int) : Option (List Nat) := if ¬ (r = 1 ∨ r = 2 ∨ r = 3) then some [114, 111, 119, 115] else if ¬ (c = 2 ∨ c = 3) then some [99, 111, 108, 111, 117, 114, 115] else if r = 3 ∧ c = 3 then some [115, 105, 122, 101] else none
def spInit (a : Ad) : Sp := fun vs H Q E => ∃ (p dx : Addr) (r c : Int), vs = [.ref p, .int r, .int c] ∧ H p = some (.ins a.Scheme dx []) ∧ (∀ l, badPart r c = some l → Ra E a.BadScheme "part" (tx l) H) ∧
  (badPart r c = none → ∀ G, (∀ b o, H b = some o → b ≠ p → G b = some o) → (∃ r' c' n : Nat, (r' : Int) = r ∧ (c' : Int) = c ∧ SchemeAt a.Scheme G p r' c' n) → Q .non G)
theorem c_Scheme_init (T : Txt K mg a) : CanN P w K mg base 3 a.Scheme "Scheme" (spInit a) := by
  refine canN_of T.c_Scheme T.m_Scheme___init__ sc_Scheme___init__ bd_Scheme___init__ (fun vs H Q E h => ?_) (fun f cdv A outer s H vs Q E hr h => ?_)
  · obtain ⟨p, dx, r, c, rfl, _⟩ := h
    rfl
  · obtain ⟨p, dx, r, c, rfl, hp, y, z⟩ := h
    refine ⟨_, (pss_cons (ps_if (pt_cmpR (knotin K) (pv 1) (pe_tup (pa_cons pe_int (pa_cons pe_int (pa_cons pe_int pa_nil)))) (by rfl)) (pss_one (pr_err (c_BadScheme T) (takes_of rfl rfl rfl rfl) (by rfl) hr (by decide) (by rfl) pe_str)) pss_nil)
      (pss_cons (ps_if (pt_cmpR (knotin K) (pv 2) (pe_tup (pa_cons pe_int (pa_cons pe_int pa_nil))) (by rfl)) (pss_one (pr_err (c_BadScheme T) (takes_of rfl rfl rfl rfl) (by rfl) hr (by decide) (by rfl) pe_str)) pss_nil)
      (pss_cons (ps_set (i := 3) sc_Scheme___init__.nd rfl (.inl rfl) pe_int)
      (pss_cons (ps_for (passes_of rfl) (by rfl) (pi_range1 (by rfl) T.b_range (pa_cons (pv 1) pa_nil)) (pg_name (i := 4) sc_Scheme___init__.nd rfl (.inl rfl)) (pss_one (ps_set (i := 3) sc_Scheme___init__.nd rfl (.inl rfl) (pe_op op_mul (pv 3) (pv 2)))))
      (pss_cons (ps_if (pt_cmpR op_gt (pv 3) (kcon K (pv 0)) (nomark _)) (pss_one (pr_err (c_BadScheme T) (takes_of rfl rfl rfl rfl) (by rfl) hr (by decide) (by rfl) pe_str)) pss_nil)
      (pss_cons (ps_fld (pv 0) (pv 1) rfl)
      (pss_cons (ps_fld (pv 0) (pv 2) rfl)
      (pss_one (ps_fld (pv 0) (pe_slice sl_str (C8.pe_gc (by rfl) T.g_LETTERS) po_none (po_some (pv 3))) rfl))))))))), ?_⟩
    have nlit : ∀ s : String, (V.str (Str.ofString s)) = tx (Str.ofString s).cps.toList := fun s => rfl
    have bad : ∀ (l : List Nat) (G : Hp), Same H G → badPart r c = some l → Ra E a.BadScheme "part" (tx l) G := fun l G s e => (y l e).mono s
    refine ⟨_, rfl, by show 3 ≤ sizeLine; decide, fun t ht => ⟨t, _, rfl, .inr (seqT_of upd_same), rfl, rfl, _, rfl, ?_⟩⟩
    have s1 : Same H (upd H t (.tup [.int 1, .int 2, .int 3])) := ex_new ht
    have inr3 : inV (.int r) [.int 1, .int 2, .int 3] = decide (r = 1 ∨ r = 2 ∨ r = 3) := by
      show ((1 : Int) == r || ((2 : Int) == r || ((3 : Int) == r || false))) = _
      by_cases h1 : r = 1
      · subst h1; rfl
      · by_cases h2 : r = 2
        · subst h2; rfl
        · by_cases h3 : r = 3
          · subst h3; rfl
          · simp [h1, h2, h3, Ne.symm h1, Ne.symm h2, Ne.symm h3]
    have inc2 : inV (.int c) [.int 2, .int 3] = decide (c = 2 ∨ c = 3) := by
      show ((2 : Int) == c || ((3 : Int) == c || false)) = _
      by_cases h2 : c = 2
      · subst h2; rfl
      · by_cases h3 : c = 3
        · subst h3; rfl
        · simp [h2, h3, Ne.symm h2, Ne.symm h3]
    rw [inr3]
    by_cases hr3 : r = 1 ∨ r = 2 ∨ r = 3
    · rw [decide_eq_true hr3]
      refine iteF ⟨_, rfl, by show 2 ≤ sizeLine; decide, fun u hu => ⟨u, _, rfl, .inr (seqT_of upd_same), rfl, rfl, _, rfl, ?_⟩⟩
      have s2 := s1.trans (ex_new (o := .tup [.int 2, .int 3]) hu)
      rw [inc2]
      by_cases hc2 : c = 2 ∨ c = 3
      · rw [decide_eq_true hc2]
        obtain ⟨r', rfl⟩ : ∃ r' : Nat, (r' : Int) = r := ⟨r.toNat, by omega⟩
        obtain ⟨c', rfl⟩ : ∃ c' : Nat, (c' : Int) = c := ⟨c.toNat, by omega⟩
        have hr' : r' = 1 ∨ r' = 2 ∨ r' = 3 := by omega
        have hc' : c' = 2 ∨ c' = 3 := by omega
        have pw : ∀ i ≤ 3, (-(2 ^ 64) : Int) < ((c' ^ i : Nat) : Int) ∧ ((c' ^ i : Nat) : Int) < 2 ^ 64 := by
          rcases hc' with rfl | rfl <;> decide
        refine iteF ⟨_, rfl, r', rfl, by omega, by omega, ?_⟩
        refine for_it (walk_range (lo := 0) (n := ((r' : Nat) : Int).toNat)) (fun i σ M => M = upd (upd H t _) u _ ∧ ∃ v : Option V, σ = [some (.ref p), some (.int r'), some (.int c'), some (.int ((c' ^ i : Nat) : Int)), v]) ⟨rfl, none, rfl⟩ (fun _ _ _ _ _ => True.intro) ?_ ?_
        · rintro i x σ M M' hi ⟨rfl, v, rfl⟩ ⟨rfl, rfl⟩
          refine ⟨_, rfl, _, rfl, _, _, rfl, rfl, .inl (pw i (by omega)), rfl, some (.int (0 + (i : Nat))), ?_⟩
          show [_, _, _, some (V.int (((c' ^ i : Nat) : Int) * (c' : Int))), _] = [_, _, _, some (V.int ((c' ^ (i + 1) : Nat) : Int)), _]
          rw [Nat.pow_succ, Int.natCast_mul]
        · rintro σ M ⟨rfl, v, rfl⟩
          have hpM := s2 _ _ hp
          obtain ⟨u9, k9⟩ := T.k_MOST
          refine ⟨_, rfl, _, rfl, p, _, dx, _, _, _, rfl, hpM, T.c_Scheme.cl, k9, rfl, _, _, rfl, rfl, _, rfl, ?_⟩
          rw [show ((r' : Nat) : Int).toNat = r' from rfl]
          by_cases h33 : r' = 3 ∧ c' = 3
          · obtain ⟨rfl, rfl⟩ := h33
            refine iteT (Ra.now ?_)
            rw [show V.str (Str.ofString "size") = tx [115, 105, 122, 101] from congrArg V.str (by decide +kernel)]
            exact bad _ _ s2 rfl
          · have hn : ¬ ((9 : Int) < ((c' ^ r' : Nat) : Int)) := by
              rcases hr' with rfl | rfl | rfl <;> rcases hc' with rfl | rfl <;> first | decide | exact absurd ⟨rfl, rfl⟩ h33
            rw [decide_eq_false hn]
            refine iteF ?_
            refine ⟨_, rfl, _, rfl, p, _, dx, [], rfl, hpM, T.c_Scheme.cl, T.n_rows, by show 0 < 1000; decide, _, rfl, _, rfl, p, _, dx, _, rfl, upd_same, T.c_Scheme.cl, T.n_colours, by show 1 < 1000; decide, _, rfl, _, rfl, _, rfl, by decide +kernel, _, rfl, p, _, dx, _, rfl, upd_same, T.c_Scheme.cl, T.n_columns, by show 2 < 1000; decide, ?_⟩
            have gd : Kit.Good r' c' (c' ^ r') := by
              rcases hr' with rfl | rfl | rfl <;> rcases hc' with rfl | rfl <;> first | decide | exact absurd ⟨rfl, rfl⟩ h33
            have ecut : cutS (Str.ofString "abcdefghi") none (some ((c' ^ r' : Nat) : Int)) = S (cols (c' ^ r')) := by
              rcases hr' with rfl | rfl | rfl <;> rcases hc' with rfl | rfl <;> first | decide +kernel | exact absurd ⟨rfl, rfl⟩ h33
            rw [ecut]
            refine z ?_ _ (fun b o e hb => ?_) ⟨r', c', c' ^ r', rfl, rfl, ⟨dx, ?_⟩, gd⟩
            · unfold badPart
              rw [if_neg (fun q => q hr3), if_neg (fun q => q hc2), if_neg (by omega)]
            · rw [upd_ne hb, upd_ne hb, upd_ne hb]
              exact s2 _ _ e
            · exact upd_same.trans (congrArg (fun l => some (HO.ins a.Scheme dx l)) (put_fl .non .non _ _ _))
      · rw [decide_eq_false hc2]
        refine iteT (Ra.now ?_)
        rw [show V.str (Str.ofString "colours") = tx [99, 111, 108, 111, 117, 114, 115] from congrArg V.str (by decide +kernel)]
        refine bad _ _ s2 ?_
        unfold badPart
        rw [if_neg (fun q => q hr3), if_pos hc2]
    · rw [decide_eq_false hr3]
      refine iteT (Ra.now ?_)
      rw [show V.str (Str.ofString "rows") = tx [114, 111, 119, 115] from congrArg V.str (by decide +kernel)]
      refine bad _ _ s1 ?_
      unfold badPart
      rw [if_pos hr3]
end
end K00

end
section
set_option Elab.async false
set_option linter.all false
set_option maxRecDepth 100000
set_option maxHeartbeats 4000000
namespace K00
open PySem PySem.Spec PyProof.Rows L2 Kit
section
variable {P : Program} {w : World} {K : PySem.W.Frag} {mg : Str → Option Value} {base : Heap} {a : Ad}
def rowsOf (r c : Nat) (l : List Nat) : List (List Nat) := (List.range r).map fun j => l.map fun x => (dig r c (x - 97)).getD j 0
theorem rowsOf_len (r c : Nat) (l : List Nat) : (rowsOf r c l).length = r := by simp [rowsOf]
theorem strip_at {n : Nat} {l : List Nat} (h : isStrip n l = true) {i x : Nat} (hx : l[i]? = some x) : inCol n x = true := all_at h hx
theorem isCol_mk {n x : Nat} (h : inCol n x = true) : isCol n [x] = true := by
  rw [isCol, List.all_cons, h]
  rfl
theorem join_eq (s : Str) (l : List Str) : Txt.join s l = Str.join s l := StrLaws.glued_eq_join s l
/-- join of texts of one sign, the empty text between them -/
theorem join_ones : ∀ l : List Nat, Txt.join (S []) (l.map fun x => S [x]) = S l
  | [] => rfl
  | [x] => rfl
  | x :: y :: l => by
    have e := join_ones (y :: l)
    have z : Txt.join (S []) ((x :: y :: l).map fun x => S [x]) = S [x] ++ S [] ++ Txt.join (S []) ((y :: l).map fun x => S [x]) := by
      rw [join_eq, join_eq]
      rfl
    rw [z, e, S_app, S_app]
    rfl
theorem sum_ones (l : List Nat) : ((l.map fun x => S [x]).map (·.length)).sum = l.length := by
  induction l with
  | nil => rfl
  | cons x l ih =>
    rw [List.map_cons, List.map_cons, List.sum_cons, ih, List.length_cons]
    show 1 + l.length = _
    omega
def spPic (a : Ad) : Sp := fun vs H Q E => ∃ (p : Addr) (r c n : Nat) (l : List Nat), vs = [.ref p, tx l] ∧ SchemeAt a.Scheme H p r c n ∧ l.length ≤ 1000 ∧
  (isStrip n l = true → ∀ G q, Same H G → H q = none → G q = some (.lst ((rowsOf r c l).map tx)) → Q (.ref q) G) ∧ (isStrip n l = false → Ra E a.BadStrip "text" (tx l) H)
theorem c_Scheme_picture (T : Txt K mg a) : CanM P w K mg base 4 a.Scheme "picture" (spPic a) := by
  refine canM_of T.c_Scheme.cl T.m_Scheme_picture sc_Scheme_picture bd_Scheme_picture (fun vs H Q E h => ?_) (fun f cdv A outer s H vs Q E hr h => ?_)
  · obtain ⟨p, r, c, n, l, rfl, _⟩ := h
    rfl
  · obtain ⟨p, r, c, n, l, rfl, sch, hl, z, y⟩ := h
    refine ⟨_, (pss_cons (ps_expr (pc_mS (c_Scheme_check T) (takes_of rfl rfl rfl rfl) hr (by decide) (pv 0) (pa_cons (pv 1) pa_nil)))
      (pss_cons (ps_set (i := 2) sc_Scheme_picture.nd rfl (.inr rfl) (pe_lc (own := [("column", 3)]) (g := gName 3) (tt := tYes) (by rfl) sc_Scheme_picture.nd (pi_str (pv 1)) (blkOk_by (N := N_Scheme_picture) (sc := defScope s_Scheme_picture) (by decide +kernel)) (fun _ _ _ _ _ => (pg_name (i := 3) sc_Scheme_picture.nd rfl (.inl rfl))) (fun _ _ _ _ _ => pts_nil) (fun _ _ _ _ _ => (pc_m (c_Scheme_spots T) hr (by decide) (pv 0) (pa_cons (pv 3) pa_nil)))))
      (pss_one (ps_ret (pe_lc (own := [("row", 5)]) (g := gName 5) (tt := tYes) (by rfl) sc_Scheme_picture.nd (pi_range1 (by rfl) T.b_range (pa_cons (kfld K (pv 0)) pa_nil)) (blkOk_by (N := N_Scheme_picture) (sc := defScope s_Scheme_picture) (by decide +kernel)) (fun _ _ _ _ _ => (pg_name (i := 5) sc_Scheme_picture.nd rfl (.inr rfl))) (fun _ _ _ _ _ => pts_nil) (fun _ _ _ _ _ => (kjoin K pe_str (pe_lc (own := [("spots", 4)]) (g := gName 4) (tt := tYes) (by rfl) sc_Scheme_picture.nd (kpi_list K (pv 2)) (blkOk_by (N := N_Scheme_picture) (sc := { kind := .function, names := [(".0", .local), ("row", .cell), ("drawn", .cell)], isGenerator := false, isCoroutine := false, more := [] }) (by decide +kernel)) (fun _ _ _ _ _ => (pg_name (i := 4) sc_Scheme_picture.nd rfl (.inl rfl))) (fun _ _ _ _ _ => pts_nil) (fun _ _ _ _ _ => (pe_ix ix_str (pv 4) (pv 5) (fun _ _ => rfl))))))))))), ?_⟩
    obtain ⟨dx, hp⟩ := sch.1
    have gn := good_n sch.2
    have gc := good_c sch.2
    refine ⟨_, rfl, p, dx, _, rfl, hp, fl_no _ _ _ (by decide +kernel) (by decide +kernel) (by decide +kernel), _, rfl, p, r, c, n, l, rfl, sch, by omega, fun hst G s1 => ?_, y⟩
    -- drawn
    refine ⟨_, rfl, _, rfl, fun D hD => lc_one walk_str (l.map fun x => tx (dig r c (x - 97))) (by rw [List.length_map]; exact (S_len l).symm) (by show (S l).length ≤ _; rw [S_len]; omega) hD (fun _ _ => True.intro) ?_ ?_⟩
    · rintro i x M M' v hi s2 ⟨rfl, c', hc, rfl⟩ hv
      have hc := at_S hc
      rw [List.getElem?_map, hc] at hv
      cases hv
      obtain ⟨dx, hp⟩ := (sch.mono (s1.trans s2)).1
      exact ⟨.refl _, fun Q' q => ⟨_, rfl, p, dx, _, rfl, hp, fl_no _ _ _ (by decide +kernel) (by decide +kernel) (by decide +kernel), _, rfl, p, r, c, n, [c'], rfl, sch.mono (s1.trans s2), by show 1 ≤ 100000; decide, fun _ => q _ (.refl _), fun e => absurd (isCol_mk (strip_at hst hc)) (by rw [e]; decide)⟩⟩
    · intro M s2 hM
      obtain ⟨dx, hp⟩ := (sch.mono (s1.trans s2)).1
      -- the rows
      refine ⟨_, rfl, p, _, dx, _, _, rfl, hp, T.c_Scheme.cl, T.n_rows, fl_rows r c n, r, rfl, by omega, by omega, fun D2 hD2 => ?_⟩
      refine lc_one (walk_range (lo := 0) (n := ((r : Nat) : Int).toNat)) ((rowsOf r c l).map tx) (by rw [List.length_map, rowsOf_len]; rfl) (by show r ≤ _; omega) hD2 (fun _ _ => True.intro) ?_ ?_
      · rintro i x N N' v hi s3 ⟨rfl, rfl⟩ hv
        refine ⟨.refl _, fun Q' q => ?_⟩
        have hi : i < r := hi
        have hv' : v = tx (l.map fun x => (dig r c (x - 97)).getD i 0) := by
          rw [List.getElem?_map, rowsOf, List.getElem?_map, List.getElem?_range hi] at hv
          exact (Option.some.inj hv).symm
        subst hv'
        have hDN : SqL K N' D (l.map fun x => tx (dig r c (x - 97))) := seqL_of (s3 _ _ hM)
        refine ⟨⟨_, rfl⟩, _, rfl, D, rfl, ⟨_, hDN⟩, fun D3 hD3 => ?_⟩
        refine lc_one (walk_list (xs := l.map fun x => tx (dig r c (x - 97)))) ((l.map fun x => (dig r c (x - 97)).getD i 0).map fun x => tx [x]) (by simp) (by rw [List.length_map]; omega) hD3 (fun N2 s4 => seqL_of (s4 _ _ (s3 _ _ hM))) ?_ ?_
        · rintro i2 x N2 N3 v hi2 s4 ⟨rfl, hx⟩ hv
          refine ⟨.refl _, fun Q2 q2 => ?_⟩
          rw [List.getElem?_map] at hx
          rw [List.getElem?_map, List.getElem?_map] at hv
          cases e : l[i2]? with
          | none =>
            rw [e] at hx
            cases hx
          | some c' =>
            rw [e] at hx hv
            cases hx
            cases hv
            refine ⟨_, rfl, _, rfl, _, _, (dig r c (c' - 97)).getD i 0, rfl, rfl, ?_, ?_, q2 _ (.refl _)⟩
            · rw [S_len, dig_len]
              exact szl (by omega)
            · have e0 : (dig r c (c' - 97))[i]? = some ((dig r c (c' - 97)).getD i 0) := by
                rw [List.getD_eq_getElem?_getD, List.getElem?_eq_getElem (by rw [dig_len]; exact hi)]
                rfl
              have e1 := atI_S e0
              rwa [show (0 : Int) + ((i : Nat) : Int) = ((i : Nat) : Int) by omega]
        · intro N2 s4 hN2
          refine ⟨_, _, (l.map fun x => (dig r c (x - 97)).getD i 0).map fun x => S [x], rfl, rfl, .inl (seqL_of (by rw [List.map_map]; exact hN2)), ?_, ?_⟩
          · rw [sum_ones, show Str.ofString "" = S [] from lit_e, S_len]
            simp
            omega
          · rw [show Str.ofString "" = S [] from lit_e, join_ones]
            exact q _ s4
      · intro N s3 hN
        exact z hst N D2 ((s1.trans s2).trans s3) (((s1.trans s2)).free hD2) hN
end
end K00

end
section
set_option Elab.async false
set_option linter.all false
set_option maxRecDepth 100000
set_option maxHeartbeats 4000000
namespace K00
open PySem PySem.Spec PyProof.Rows L2 Kit
section
variable {P : Program} {w : World} {K : PySem.W.Frag} {mg : Str → Option Value} {base : Heap} {a : Ad}
theorem sIx_some (n d k : Nat) : HT.sIx n d (some (k : Int)) = min k n := by
  show (if (k : Int) < 0 then ((k : Int) + (n : Int)).toNat else min (k : Int).toNat n) = _
  rw [if_neg (by omega)]
  rfl
theorem sIx_none (n d : Nat) : HT.sIx n d none = d := rfl
theorem cut_take (l : List Nat) (k : Nat) : cutS (S l) none (some (k : Int)) = S (l.take k) := by
  rw [cut_S, sIx_some, sIx_none, List.drop_zero, Nat.sub_zero]
  congr 1
  by_cases h : k ≤ l.length
  · rw [Nat.min_eq_left h]
  · rw [Nat.min_eq_right (by omega), List.take_length, List.take_of_length_le (by omega)]
theorem cut_drop (l : List Nat) (k : Nat) : cutS (S l) (some (k : Int)) none = S (l.drop k) := by
  rw [cut_S, sIx_some, sIx_none]
  congr 1
  by_cases h : k ≤ l.length
  · rw [Nat.min_eq_left h, List.take_of_length_le (by simp)]
  · rw [Nat.min_eq_right (by omega), List.drop_length, List.drop_of_length_le (by omega), List.take_nil]
def spotAt (r c : Nat) (l : List Nat) (row at_ : Nat) : Nat := (dig r c (l.getD at_ 0 - 97)).getD row 0
theorem getD_at {l : List Nat} {i : Nat} (h : i < l.length) : l[i]? = some (l.getD i 0) := by
  rw [List.getD_eq_getElem?_getD, List.getElem?_eq_getElem h]
  rfl
def spSpot (a : Ad) : Sp := fun vs H Q E => ∃ (p : Addr) (r c n : Nat) (l : List Nat) (row at_ : Int), vs = [.ref p, tx l, .int row, .int at_] ∧ SchemeAt a.Scheme H p r c n ∧ l.length ≤ 1000 ∧
  (isStrip n l = false → Ra E a.BadStrip "text" (tx l) H) ∧ (isStrip n l = true → ¬ (0 ≤ row ∧ row < r) → Ra E a.BadRow "row" (.int row) H) ∧
  (isStrip n l = true → 0 ≤ row → row < r → ¬ (0 ≤ at_ ∧ at_ < l.length) → Ra E a.BadIndex "at" (.int at_) H) ∧
  (isStrip n l = true → 0 ≤ row → row < r → 0 ≤ at_ → at_ < l.length → ∀ G, Same H G → Q (tx [spotAt r c l row.toNat at_.toNat]) G)
theorem c_Scheme_colour_at (T : Txt K mg a) : CanM P w K mg base 4 a.Scheme "colour_at" (spSpot a) := by
  refine canM_of T.c_Scheme.cl T.m_Scheme_colour_at sc_Scheme_colour_at bd_Scheme_colour_at (fun vs H Q E h => ?_) (fun f cdv A outer s H vs Q E hr h => ?_)
  · obtain ⟨p, r, c, n, l, row, at_, rfl, _⟩ := h
    rfl
  · obtain ⟨p, r, c, n, l, row, at_, rfl, sch, hl, y1, y2, y3, z⟩ := h
    refine ⟨_, (pss_cons (ps_expr (pc_mS (c_Scheme_check T) (takes_of rfl rfl rfl rfl) hr (by decide) (pv 0) (pa_cons (pv 1) pa_nil)))
      (pss_cons (ps_if (pt_not (pt_chain op_le op_lt pe_int (pv 2) (kfld K (pv 0)))) (pss_one (pr_err (c_BadRow T) (takes_of rfl rfl rfl rfl) (by rfl) hr (by decide) (by rfl) (pv 2))) pss_nil)
      (pss_cons (ps_if (pt_not (pt_chain op_le op_lt pe_int (pv 3) (pe_callB call_len_str (by rfl) T.b_len (by decide +kernel) (pa_cons (pv 1) pa_nil)))) (pss_one (pr_err (c_BadIndex T) (takes_of rfl rfl rfl rfl) (by rfl) hr (by decide) (by rfl) (pv 3))) pss_nil)
      (pss_one (ps_ret (pe_ix ix_str (pc_m (c_Scheme_spots T) hr (by decide) (pv 0) (pa_cons (pe_ix ix_str (pv 1) (pv 3) (fun _ _ => rfl)) pa_nil)) (pv 2) (fun _ _ => rfl))))))), ?_⟩
    obtain ⟨dx, hp⟩ := sch.1
    have gn := good_n sch.2
    refine ⟨_, rfl, p, dx, _, rfl, hp, fl_no _ _ _ (by decide +kernel) (by decide +kernel) (by decide +kernel), _, rfl, p, r, c, n, l, rfl, sch, by omega, fun hst G s1 => ?_, y1⟩
    obtain ⟨dx, hp⟩ := (sch.mono s1).1
    refine ⟨_, rfl, _, _, rfl, rfl, _, rfl, ?_⟩
    refine ite2 (fun h1 => ?_) (fun h1 => ?_)
    · have h1 := of_decide_eq_true h1
      refine ⟨_, rfl, p, _, dx, _, _, rfl, hp, T.c_Scheme.cl, T.n_rows, fl_rows r c n, _, _, rfl, rfl, _, rfl, ?_⟩
      refine ite2 (fun h2 => ?_) (fun h2 => ?_)
      · exact ⟨_, rfl, ((y2 hst (by have := h2; simp at this; omega)).mono s1).now⟩
      · have h2 : row < r := by
          simpa using h2
        refine ⟨_, rfl, _, _, rfl, rfl, _, rfl, ?_⟩
        refine ite2 (fun h3 => ?_) (fun h3 => ?_)
        · have h3 := of_decide_eq_true h3
          refine ⟨_, rfl, _, rfl, szl (by rw [S_len]; omega), _, _, rfl, rfl, _, rfl, ?_⟩
          rw [S_len]
          refine ite2 (fun h4 => ?_) (fun h4 => ?_)
          · exact ⟨_, rfl, ((y3 hst h1 h2 (by have := h4; simp at this; omega)).mono s1).now⟩
          · have h4 : at_ < l.length := by
              simpa using h4
            have ha := getD_at (l := l) (i := at_.toNat) (by omega)
            have e0 := atI_S ha
            rw [show ((at_.toNat : Nat) : Int) = at_ by omega] at e0
            have hc := isCol_mk (strip_at hst ha)
            refine ⟨_, rfl, p, dx, _, rfl, hp, fl_no _ _ _ (by decide +kernel) (by decide +kernel) (by decide +kernel), _, rfl, _, rfl, _, _, _, rfl, rfl, szl (by rw [S_len]; omega), e0, p, r, c, n, [l.getD at_.toNat 0], rfl, sch.mono s1, by show 1 ≤ 100000; decide, fun _ => ?_, fun e => absurd hc (by rw [e]; decide)⟩
            have hb := getD_at (l := dig r c (l.getD at_.toNat 0 - 97)) (i := row.toNat) (by rw [dig_len]; omega)
            have e2 := atI_S hb
            rw [show ((row.toNat : Nat) : Int) = row by omega] at e2
            exact ⟨_, rfl, _, _, _, rfl, rfl, szl (by rw [S_len, dig_len]; omega), e2, z hst h1 h2 h3 h4 G s1⟩
        · exact ⟨_, rfl, iteT ⟨_, rfl, ((y3 hst h1 h2 (by have := h3; simp at this; omega)).mono s1).now⟩⟩
    · exact ⟨_, rfl, iteT ⟨_, rfl, ((y2 hst (by have := h1; simp at this; omega)).mono s1).now⟩⟩
def recol (r c : Nat) (l : List Nat) (row at_ : Nat) (col : List Nat) : List Nat :=
  l.take at_ ++ [97 + num c ((dig r c (l.getD at_ 0 - 97)).take row ++ col ++ (dig r c (l.getD at_ 0 - 97)).drop (row + 1))] ++ l.drop (at_ + 1)
theorem digs_put {r c : Nat} {d col : List Nat} {row : Nat} (h : isDigs r c d = true) (hr : row < r) (hc : isColour c col = true) : isDigs r c (d.take row ++ col ++ d.drop (row + 1)) = true := by
  unfold isDigs at h ⊢
  unfold isColour at hc
  rw [Bool.and_eq_true, decide_eq_true_iff] at h hc ⊢
  obtain ⟨h1, h2⟩ := h
  obtain ⟨h3, h4⟩ := hc
  refine ⟨by simp; omega, ?_⟩
  rw [List.all_append, List.all_append, h4, Bool.and_true, Bool.and_eq_true]
  exact ⟨List.all_eq_true.mpr fun x hx => List.all_eq_true.mp h2 x (List.mem_of_mem_take hx), List.all_eq_true.mpr fun x hx => List.all_eq_true.mp h2 x (List.mem_of_mem_drop hx)⟩
def spRecol (a : Ad) : Sp := fun vs H Q E => ∃ (p : Addr) (r c n : Nat) (l : List Nat) (row at_ : Int) (col : List Nat), vs = [.ref p, tx l, .int row, .int at_, tx col] ∧ SchemeAt a.Scheme H p r c n ∧ l.length ≤ 1000 ∧ col.length ≤ 1000 ∧
  (isStrip n l = false → Ra E a.BadStrip "text" (tx l) H) ∧ (isStrip n l = true → ¬ (0 ≤ row ∧ row < r) → Ra E a.BadRow "row" (.int row) H) ∧
  (isStrip n l = true → 0 ≤ row → row < r → ¬ (0 ≤ at_ ∧ at_ < l.length) → Ra E a.BadIndex "at" (.int at_) H) ∧
  (isStrip n l = true → 0 ≤ row → row < r → 0 ≤ at_ → at_ < l.length → isColour c col = false → Ra E a.BadColour "colour" (tx col) H) ∧
  (isStrip n l = true → 0 ≤ row → row < r → 0 ≤ at_ → at_ < l.length → isColour c col = true → ∀ G, Same H G → Q (tx (recol r c l row.toNat at_.toNat col)) G)
theorem c_Scheme_recoloured (T : Txt K mg a) : CanM P w K mg base 5 a.Scheme "recoloured" (spRecol a) := by
  refine canM_of T.c_Scheme.cl T.m_Scheme_recoloured sc_Scheme_recoloured bd_Scheme_recoloured (fun vs H Q E h => ?_) (fun f cdv A outer s H vs Q E hr h => ?_)
  · obtain ⟨p, r, c, n, l, row, at_, col, rfl, _⟩ := h
    rfl
  · obtain ⟨p, r, c, n, l, row, at_, col, rfl, sch, hl, hcl, y1, y2, y3, y4, z⟩ := h
    refine ⟨_, (pss_cons (ps_expr (pc_mS (c_Scheme_colour_at T) (takes_of rfl rfl rfl rfl) hr (by decide) (pv 0) (pa_cons (pv 1) (pa_cons (pv 2) (pa_cons (pv 3) pa_nil)))))
      (pss_cons (ps_if (pt_not (pt_val (pc_m (c_Scheme_is_colour T) hr (by decide) (pv 0) (pa_cons (pv 4) pa_nil)))) (pss_one (pr_err (c_BadColour T) (takes_of rfl rfl rfl rfl) (by rfl) hr (by decide) (by rfl) (pv 4))) pss_nil)
      (pss_cons (ps_set (i := 5) sc_Scheme_recoloured.nd rfl (.inl rfl) (pc_m (c_Scheme_spots T) hr (by decide) (pv 0) (pa_cons (pe_ix ix_str (pv 1) (pv 3) (fun _ _ => rfl)) pa_nil)))
      (pss_cons (ps_set (i := 6) sc_Scheme_recoloured.nd rfl (.inl rfl) (pc_m (c_Scheme_column T) hr (by decide) (pv 0) (pa_cons (pe_op op_add_str (pe_op op_add_str (pe_slice sl_str (pv 5) po_none (po_some (pv 2))) (pv 4)) (pe_slice sl_str (pv 5) (po_some (pe_op op_add (pv 2) pe_int)) po_none)) pa_nil)))
      (pss_one (ps_ret (pe_op op_add_str (pe_op op_add_str (pe_slice sl_str (pv 1) po_none (po_some (pv 3))) (pv 6)) (pe_slice sl_str (pv 1) (po_some (pe_op op_add (pv 3) pe_int)) po_none)))))))), ?_⟩
    obtain ⟨dx, hp⟩ := sch.1
    have gn := good_n sch.2
    have gc := good_c sch.2
    refine ⟨_, rfl, p, dx, _, rfl, hp, fl_no _ _ _ (by decide +kernel) (by decide +kernel) (by decide +kernel), _, rfl, _, rfl, _, rfl, p, r, c, n, l, row, at_, rfl, sch, hl, y1, y2, y3, fun hst h1 h2 h3 h4 G s1 => ?_⟩
    obtain ⟨dx, hp⟩ := (sch.mono s1).1
    refine ⟨_, rfl, p, dx, _, rfl, hp, fl_no _ _ _ (by decide +kernel) (by decide +kernel) (by decide +kernel), _, rfl, p, r, c, n, col, rfl, sch.mono s1, by omega, _, rfl, ?_⟩
    cases ec : isColour c col with
    | false => exact iteT ⟨_, rfl, ((y4 hst h1 h2 h3 h4 ec).mono s1).now⟩
    | true =>
      refine iteF ?_
      have ha := getD_at (l := l) (i := at_.toNat) (by omega)
      have e0 := atI_S ha
      rw [show ((at_.toNat : Nat) : Int) = at_ by omega] at e0
      have hc := isCol_mk (strip_at hst ha)
      refine ⟨_, rfl, p, dx, _, rfl, hp, fl_no _ _ _ (by decide +kernel) (by decide +kernel) (by decide +kernel), _, rfl, _, rfl, _, _, _, rfl, rfl, szl (by rw [S_len]; omega), e0, p, r, c, n, [l.getD at_.toNat 0], rfl, sch.mono s1, by show 1 ≤ 100000; decide, fun _ => ?_, fun e => absurd hc (by rw [e]; decide)⟩
      have dl : (dig r c (col0 [l.getD at_.toNat 0])).length = r := dig_len r c _
      have c1 := cut_take (dig r c (col0 [l.getD at_.toNat 0])) row.toNat
      have c2 := cut_drop (dig r c (col0 [l.getD at_.toNat 0])) (row.toNat + 1)
      have c3 := cut_take l at_.toNat
      have c4 := cut_drop l (at_.toNat + 1)
      rw [show ((row.toNat : Nat) : Int) = row by omega] at c1
      rw [show ((row.toNat + 1 : Nat) : Int) = row + 1 by omega] at c2
      rw [show ((at_.toNat : Nat) : Int) = at_ by omega] at c3
      rw [show ((at_.toNat + 1 : Nat) : Int) = at_ + 1 by omega] at c4
      have dd : isDigs r c (dig r c (col0 [l.getD at_.toNat 0])) = true := dig_digs (by omega)
      have hcol1 : col.length = 1 := by
        unfold isColour at ec
        rw [Bool.and_eq_true, decide_eq_true_iff] at ec
        exact ec.1
      refine ⟨_, rfl, p, dx, _, rfl, hp, fl_no _ _ _ (by decide +kernel) (by decide +kernel) (by decide +kernel), _, rfl, _, rfl, _, rfl, _, rfl, szl (by rw [S_len, dl]; omega), ?_⟩
      rw [c1]
      refine ⟨_, rfl, _, _, rfl, rfl, szl (by rw [S_len, S_len]; simp only [List.length_append, List.length_take, List.length_drop, List.length_cons, List.length_nil]; omega), ?_⟩
      rw [S_app]
      refine ⟨_, rfl, _, rfl, _, _, rfl, rfl, _, rfl, _, rfl, szl (by rw [S_len, dl]; omega), ?_⟩
      rw [c2]
      refine ⟨_, _, rfl, rfl, szl (by rw [S_len, S_len]; simp only [List.length_append, List.length_take, List.length_drop, List.length_cons, List.length_nil]; omega), ?_⟩
      rw [S_app]
      refine ⟨p, r, c, n, _, rfl, sch.mono s1, by simp only [List.length_append, List.length_take, List.length_drop, List.length_cons, List.length_nil]; omega, fun _ M s2 => ?_, fun e => absurd (digs_put (row := row.toNat) dd (by omega) ec) (by rw [e]; decide)⟩
      refine ⟨_, rfl, _, rfl, _, rfl, _, rfl, szl (by rw [S_len]; omega), ?_⟩
      rw [c3]
      refine ⟨_, rfl, _, _, rfl, rfl, szl (by rw [S_len, S_len]; simp only [List.length_append, List.length_take, List.length_drop, List.length_cons, List.length_nil]; omega), ?_⟩
      rw [S_app]
      refine ⟨_, rfl, _, rfl, _, _, rfl, rfl, _, rfl, _, rfl, szl (by rw [S_len]; omega), ?_⟩
      rw [c4]
      refine ⟨_, _, rfl, rfl, szl (by rw [S_len, S_len]; simp only [List.length_append, List.length_take, List.length_drop, List.length_cons, List.length_nil]; omega), ?_⟩
      rw [S_app]
      exact z hst h1 h2 h3 h4 ec M (s1.trans s2)
end
end K00

end
section
set_option Elab.async false
set_option linter.all false
set_option maxRecDepth 100000
set_option maxHeartbeats 4000000
namespace K00
open PySem PySem.Spec PyProof.Rows L2 Kit
section
variable {P : Program} {w : World} {K : PySem.W.Frag} {mg : Str → Option Value} {base : Heap} {a : Ad}
def spLenS (C : Addr) : Sp := fun vs H Q _ => ∃ (p : Addr) (r c n : Nat), vs = [.ref p] ∧ SchemeAt C H p r c n ∧ Q (.int n) H
theorem c_Scheme_len (T : Txt K mg a) : CanM P w K mg base 1 a.Scheme "__len__" (spLenS a.Scheme) := by
  refine canM_of T.c_Scheme.cl T.m_Scheme___len__ sc_Scheme___len__ bd_Scheme___len__ (fun vs H Q E h => ?_) (fun f cdv A outer s H vs Q E hr h => ?_)
  · obtain ⟨p, r, c, n, rfl, _⟩ := h
    rfl
  · obtain ⟨p, r, c, n, rfl, ⟨⟨dx, hp⟩, gd⟩, z⟩ := h
    refine ⟨_, (pss_one (ps_ret (pe_callB call_len_str (by rfl) T.b_len (by decide +kernel) (pa_cons (kfld K (pv 0)) pa_nil)))), ?_⟩
    have gn := good_n gd
    refine ⟨_, rfl, p, _, dx, _, _, rfl, hp, T.c_Scheme.cl, T.n_columns, fl_columns r c n, _, rfl, szl (by rw [S_len, cols_len]; omega), ?_⟩
    rw [S_len, cols_len]
    exact z
/-- == with another thing: another scheme, an int, a text -/
def spEqS (C : Addr) : Sp := fun vs H Q _ => ∃ (p : Addr) (r c n : Nat) (y : V), vs = [.ref p, y] ∧ SchemeAt C H p r c n ∧
  ((∃ i, y = .int i ∧ Q (.bl false) H) ∨ (∃ t, y = .str t ∧ Q (.bl false) H) ∨ ∃ q r2 c2 n2, y = .ref q ∧ SchemeAt C H q r2 c2 n2 ∧ Q (.bl (decide (r = r2) && decide (c = c2))) H)
theorem c_Scheme_eq (T : Txt K mg a) : CanM P w K mg base 1 a.Scheme "__eq__" (spEqS a.Scheme) := by
  refine canM_of T.c_Scheme.cl T.m_Scheme___eq__ sc_Scheme___eq__ bd_Scheme___eq__ (fun vs H Q E h => ?_) (fun f cdv A outer s H vs Q E hr h => ?_)
  · obtain ⟨p, r, c, n, y, rfl, _⟩ := h
    rfl
  · obtain ⟨p, r, c, n, y, rfl, ⟨⟨dx, hp⟩, gd⟩, z⟩ := h
    refine ⟨_, (pss_one (ps_ret (pe_and (pe_callB (kisi K) (by rfl) T.b_isinstance (by decide +kernel) (pa_cons (pv 1) (pa_cons (pe_glob (v := .ref a.Scheme) (by rfl) T.c_Scheme.gC rfl) pa_nil))) (pe_and (pe_cmpR op_eq (kfld K (pv 0)) (kfld K (pv 1)) (nomark _)) (pe_one (pe_cmpR op_eq (kfld K (pv 0)) (kfld K (pv 1)) (nomark _))))))), ?_⟩
    rcases z with ⟨i, rfl, z⟩ | ⟨t, rfl, z⟩ | ⟨q, r2, c2, n2, rfl, ⟨⟨dy, hq⟩, gd2⟩, z⟩
    · exact ⟨_, rfl, _, _, _, _, false, rfl, .own _, .base (.int i), T.i_int, _, rfl, iteF z⟩
    · exact ⟨_, rfl, _, _, _, _, false, rfl, .own _, .base (.str t), T.i_str, _, rfl, iteF z⟩
    · refine ⟨_, rfl, _, _, _, _, true, rfl, .own _, .base (.ins hq T.c_Scheme.cl T.i_ha T.i_hn T.i_ht T.i_hm), T.i_own, _, rfl, iteT ?_⟩
      refine ⟨_, rfl, p, _, dx, _, _, rfl, hp, T.c_Scheme.cl, T.n_rows, fl_rows r c n, _, rfl, q, _, dy, _, _, rfl, hq, T.c_Scheme.cl, T.n_rows, fl_rows r2 c2 n2, rfl, _, rfl, ?_⟩
      refine ite2 (fun h1 => ?_) (fun h1 => ?_)
      · have h1 : r = r2 := by
          have := V.int.inj (of_decide_eq_true h1)
          omega
        subst h1
        refine ⟨_, rfl, p, _, dx, _, _, rfl, hp, T.c_Scheme.cl, T.n_colours, fl_colours r c n, _, rfl, q, _, dy, _, _, rfl, hq, T.c_Scheme.cl, T.n_colours, fl_colours r c2 n2, rfl, ?_⟩
        have e : decide ((V.int (c : Int)) = V.int (c2 : Int)) = (decide (r = r) && decide (c = c2)) := by
          rw [decide_eq_true (rfl : r = r), Bool.true_and]
          by_cases h : c = c2
          · subst h
            rw [decide_eq_true rfl, decide_eq_true rfl]
          · rw [decide_eq_false h, decide_eq_false fun q => h (by have := V.int.inj q; omega)]
        rw [e]
        exact z
      · have h1 : ¬ r = r2 := fun q => h1 (decide_eq_true (by rw [q]))
        rw [decide_eq_false h1] at z
        exact z
/-! ### of_picture -/
def badAt (r c : Nat) (ls : List (List Nat)) (k : Nat) : Bool := decide (r ≤ k) || decide ((ls.getD k []).length ≠ (ls.getD 0 []).length) || !(ls.getD k []).all (inDig c)
def firstBad (r c : Nat) (ls : List (List Nat)) : Option Nat := (List.range ls.length).find? (badAt r c ls)
theorem first_some {r c i : Nat} {ls : List (List Nat)} (h : ∀ k < i, badAt r c ls k = false) (hb : badAt r c ls i = true) (hi : i < ls.length) : firstBad r c ls = some i := by
  unfold firstBad
  rw [List.find?_range_eq_some]
  exact ⟨hb, List.mem_range.mpr hi, fun k hk => by rw [h k hk]; rfl⟩
theorem first_none {r c : Nat} {ls : List (List Nat)} (h : ∀ k < ls.length, badAt r c ls k = false) : firstBad r c ls = none := by
  unfold firstBad
  rw [List.find?_eq_none]
  intro k hk
  rw [h k (List.mem_range.mp hk)]
  decide
def ofPic (c : Nat) (ls : List (List Nat)) : List Nat := (List.range (ls.getD 0 []).length).map fun t => 97 + num c (ls.map fun l => l.getD t 0)
theorem getD_lst {ls : List (List Nat)} {i : Nat} {l : List Nat} (h : ls[i]? = some l) : ls.getD i [] = l := by
  rw [List.getD_eq_getElem?_getD, h]
  rfl
theorem good_digs {r c : Nat} {ls : List (List Nat)} (h : ∀ k < ls.length, badAt r c ls k = false) (hr : r ≤ ls.length) {t : Nat} (ht : t < (ls.getD 0 []).length) : isDigs r c (ls.map fun l => l.getD t 0) = true ∧ ls.length = r := by
  have hlen : ls.length = r := by
    by_cases q : r < ls.length
    · have := h r q
      unfold badAt at this
      simp at this
    · omega
  refine ⟨?_, hlen⟩
  unfold isDigs
  rw [List.length_map, decide_eq_true hlen, Bool.true_and, List.all_map, List.all_eq_true]
  intro l hl
  obtain ⟨k, hk, rfl⟩ := List.mem_iff_getElem.mp hl
  have e : ls.getD k [] = ls[k] := getD_lst (List.getElem?_eq_getElem hk)
  have hb := h k hk
  unfold badAt at hb
  rw [e] at hb
  simp only [Bool.or_eq_false_iff, decide_eq_false_iff_not, Bool.not_eq_false'] at hb
  obtain ⟨⟨_, h2⟩, h3⟩ := hb
  have h2 : ls[k].length = (ls.getD 0 []).length := by
    by_cases q : ls[k].length = (ls.getD 0 []).length
    · exact q
    · exact absurd q h2
  exact all_at h3 (getD_at (by omega))
def spOfPic (a : Ad) : Sp := fun vs H Q E => ∃ (p q : Addr) (r c n : Nat) (ls : List (List Nat)), vs = [.ref p, .ref q] ∧ SchemeAt a.Scheme H p r c n ∧ H q = some (.lst (ls.map tx)) ∧ ls.length ≤ 100 ∧ (∀ l ∈ ls, l.length ≤ 1000) ∧
  (∀ k, firstBad r c ls = some k → Ra E a.BadPicture "line" (.int ((k + 1 : Nat) : Int)) H) ∧ (firstBad r c ls = none → ls.length < r → Ra E a.BadPicture "line" (.int ((ls.length + 1 : Nat) : Int)) H) ∧
  (firstBad r c ls = none → r ≤ ls.length → ∀ G, Same H G → Q (tx (ofPic c ls)) G)
theorem c_Scheme_of_picture (T : Txt K mg a) : CanM P w K mg base 4 a.Scheme "of_picture" (spOfPic a) := by
  refine canM_of T.c_Scheme.cl T.m_Scheme_of_picture sc_Scheme_of_picture bd_Scheme_of_picture (fun vs H Q E h => ?_) (fun f cdv A outer s H vs Q E hr h => ?_)
  · obtain ⟨p, q, r, c, n, ls, rfl, _⟩ := h
    rfl
  · obtain ⟨p, q, r, c, n, ls, rfl, sch, hq, hl, hll, y1, y2, z⟩ := h
    refine ⟨_, (pss_cons (ps_for (passes_of rfl) (by rfl) (pi_enumS (by rfl) T.b_enumerate (pa_cons (pv 1) pa_nil) (pk_cons pe_int pk_nil)) (pg_tup rfl (pgs_cons (pg_name (i := 2) sc_Scheme_of_picture.nd rfl (.inl rfl)) (pgs_cons (pg_name (i := 3) sc_Scheme_of_picture.nd rfl (.inl rfl)) pgs_nil))) (pss_cons (ps_if (PW.pt (pw_or (pt_cmpR op_gt (pv 2) (kfld K (pv 0)) (nomark _)) (pw_or1 (pt_cmpR op_ne (pe_callB call_len_str (by rfl) T.b_len (by decide +kernel) (pa_cons (pv 3) pa_nil)) (pe_callB call_len_str (by rfl) T.b_len (by decide +kernel) (pa_cons (pe_ix (kix_list K) (pv 1) pe_int (fun _ _ => rfl)) pa_nil)) (nomark _))))) (pss_one (pr_err (c_BadPicture T) (takes_of rfl rfl rfl rfl) (by rfl) hr (by decide) (by rfl) (pv 2))) pss_nil)
      (pss_one (ps_if (pt_not (pt_truth (pe_callB (kall K (by rfl)) (by rfl) T.b_all (by decide +kernel) (pa_cons (pe_lc (own := [("spot", 4)]) (g := gName 4) (tt := tYes) (by rfl) sc_Scheme_of_picture.nd (pi_str (pv 3)) (blkOk_by (N := N_Scheme_of_picture) (sc := defScope s_Scheme_of_picture) (by decide +kernel)) (fun _ _ _ _ _ => (pg_name (i := 4) sc_Scheme_of_picture.nd rfl (.inl rfl))) (fun _ _ _ _ _ => pts_nil) (fun _ _ _ _ _ => (pc_m (c_Scheme_is_colour T) hr (by decide) (pv 0) (pa_cons (pv 4) pa_nil)))) pa_nil)) (by intro _; rfl))) (pss_one (pr_err (c_BadPicture T) (takes_of rfl rfl rfl rfl) (by rfl) hr (by decide) (by rfl) (pv 2))) pss_nil))))
      (pss_cons (ps_if (pt_cmpR op_lt (pe_callB (klen_seq K) (by rfl) T.b_len (by decide +kernel) (pa_cons (pv 1) pa_nil)) (kfld K (pv 0)) (nomark _)) (pss_one (pr_err (c_BadPicture T) (takes_of rfl rfl rfl rfl) (by rfl) hr (by decide) (by rfl) (pe_op op_add (pe_callB (klen_seq K) (by rfl) T.b_len (by decide +kernel) (pa_cons (pv 1) pa_nil)) pe_int))) pss_nil)
      (pss_cons (ps_setLc (i := 5) (own := [("at", 7)]) (g := gName 7) (tt := tYes) (by rfl) sc_Scheme_of_picture.nd rfl rfl (sw_true rfl rfl rfl (by decide +kernel)) (pi_range1 (by rfl) T.b_range (pa_cons (pe_callB call_len_str (by rfl) T.b_len (by decide +kernel) (pa_cons (pe_ix (kix_list K) (pv 1) pe_int (fun _ _ => rfl)) pa_nil)) pa_nil)) (blkOk_by (N := N_Scheme_of_picture) (sc := defScope s_Scheme_of_picture) (by decide +kernel)) (fun _ _ _ _ _ => (pg_name (i := 7) sc_Scheme_of_picture.nd rfl (.inr rfl))) (fun _ _ _ _ _ => pts_nil) (fun _ _ _ _ _ => (kjoin K pe_str (pe_lc (own := [("row", 6)]) (g := gName 6) (tt := tYes) (by rfl) sc_Scheme_of_picture.nd (kpi_list K (pv 1)) (blkOk_by (N := N_Scheme_of_picture) (sc := { kind := .function, names := [(".0", .local), ("at", .cell), ("lines", .cell)], isGenerator := false, isCoroutine := false, more := [] }) (by decide +kernel)) (fun _ _ _ _ _ => (pg_name (i := 6) sc_Scheme_of_picture.nd rfl (.inl rfl))) (fun _ _ _ _ _ => pts_nil) (fun _ _ _ _ _ => (pe_ix ix_str (pv 6) (pv 7) (fun _ _ => rfl)))))))
      (pss_one (ps_ret (kjoin K pe_str (pe_lc (own := [("spots", 8)]) (g := gName 8) (tt := tYes) (by rfl) sc_Scheme_of_picture.nd (kpi_list K (pv 5)) (blkOk_by (N := N_Scheme_of_picture) (sc := defScope s_Scheme_of_picture) (by decide +kernel)) (fun _ _ _ _ _ => (pg_name (i := 8) sc_Scheme_of_picture.nd rfl (.inl rfl))) (fun _ _ _ _ _ => pts_nil) (fun _ _ _ _ _ => (pc_m (c_Scheme_column T) hr (by decide) (pv 0) (pa_cons (pv 8) pa_nil)))))))))), ?_⟩
    have gn := good_n sch.2
    have gc := good_c sch.2
    have lenM : (ls.map tx).length = ls.length := List.length_map ..
    refine ⟨_, rfl, q, ls.map tx, 1, rfl, rfl, by decide, by decide, hq, ?_⟩
    refine for_it walk_S (fun i σ G => Same H G ∧ (∀ k < i, badAt r c ls k = false) ∧ ∃ u v : Option V, σ = [some (.ref p), some (.ref q), u, v, none, none, none, none, none]) ⟨.refl _, fun k hk => absurd hk (by omega), none, none, rfl⟩ (fun i σ G _ h => h.1 _ _ hq) ?_ ?_
    · rintro i x σ G G' hi ⟨s1, hgood, u, v, rfl⟩ ⟨t, x0, y0, rfl, hT, rfl, hx0, hy0⟩
      cases hx0
      rw [lenM] at hi
      have hy0 : y0 = tx ls[i] := by
        have hy1 : (ls.map tx)[i]? = some y0 := hy0
        rw [List.getElem?_map, List.getElem?_eq_getElem hi] at hy1
        exact (Option.some.inj hy1).symm
      subst hy0
      have eD : ls.getD i [] = ls[i] := getD_lst (List.getElem?_eq_getElem hi)
      have s2 := s1.trans (ex_new (o := .tup [.int (1 + (i : Nat)), tx ls[i]]) hT)
      have hwrong : badAt r c ls i = true → Ra E a.BadPicture "line" (.int (1 + (i : Nat))) (upd G t (.tup [.int (1 + (i : Nat)), tx ls[i]])) := by
        intro hb
        have := (y1 i (first_some hgood hb hi)).mono s2
        rwa [show ((i + 1 : Nat) : Int) = 1 + (i : Int) by omega] at this
      have hnext : badAt r c ls i = false → ∀ k < i + 1, badAt r c ls k = false := by
        intro hb k hk
        by_cases e : k = i
        · rw [e]
          exact hb
        · exact hgood k (by omega)
      have h0 : (ls.map tx)[0]? = some (tx (ls.getD 0 [])) := by
        rw [List.getElem?_map, List.getElem?_eq_getElem (show 0 < ls.length by omega), getD_lst (List.getElem?_eq_getElem (show 0 < ls.length by omega))]
        rfl
      have l0 : (ls.getD 0 []).length ≤ 1000 := by
        rw [getD_lst (List.getElem?_eq_getElem (show 0 < ls.length by omega))]
        exact hll _ (List.getElem_mem _)
      have li : ls[i].length ≤ 1000 := hll _ (List.getElem_mem _)
      obtain ⟨dx, hp⟩ := (sch.mono s2).1
      refine ⟨t, _, rfl, seqT_of upd_same, rfl, _, _, rfl, _, _, rfl, rfl, ?_⟩
      refine ⟨_, rfl, _, rfl, p, _, dx, _, _, rfl, hp, T.c_Scheme.cl, T.n_rows, fl_rows r c n, _, _, rfl, rfl, _, rfl, ?_⟩
      refine ite2 (fun h1 => ?_) (fun h1 => ?_)
      · refine iteT ⟨_, rfl, (hwrong ?_).now⟩
        have := of_decide_eq_true h1
        unfold badAt
        rw [decide_eq_true (show r ≤ i by omega)]
        rfl
      · have h1 : ¬ r ≤ i := fun q => h1 (decide_eq_true (by omega))
        refine ⟨_, rfl, _, rfl, szl (by rw [S_len]; omega), _, rfl, q, _, 0, _, rfl, rfl, seqL_of (s2 _ _ hq), atI_nat h0, _, rfl, szl (by rw [S_len]; omega), rfl, _, rfl, ?_⟩
        rw [S_len, S_len]
        refine ite2 (fun h2 => ?_) (fun h2 => ?_)
        · refine ⟨_, rfl, (hwrong ?_).now⟩
          have h2 : ls[i].length ≠ (ls.getD 0 []).length := fun q => by
            rw [q] at h2
            exact absurd h2 (by simp)
          unfold badAt
          rw [eD, decide_eq_true h2]
          simp
        · have h2 : ls[i].length = (ls.getD 0 []).length := by
            by_cases q : (ls[i].length : Int) = ((ls.getD 0 []).length : Int)
            · omega
            · exact absurd (by simpa using q) h2
          refine ⟨_, rfl, _, rfl, fun D hD => lc_one walk_str (ls[i].map fun x => V.bl (inDig c x)) (by rw [List.length_map]; exact (S_len _).symm) (by show (S _).length ≤ _; rw [S_len]; omega) hD (fun _ _ => True.intro) ?_ ?_⟩
          · rintro j x M M' v hj s3 ⟨rfl, c', hc, rfl⟩ hv
            have hc := at_S hc
            rw [List.getElem?_map, hc] at hv
            cases hv
            obtain ⟨dx, hp⟩ := (sch.mono (s2.trans s3)).1
            refine ⟨.refl _, fun Q' q => ⟨_, rfl, p, dx, _, rfl, hp, fl_no _ _ _ (by decide +kernel) (by decide +kernel) (by decide +kernel), _, rfl, p, r, c, n, [c'], rfl, sch.mono (s2.trans s3), by show 1 ≤ 100000; decide, ?_⟩⟩
            rw [isColour_one]
            exact q _ (.refl _)
          · intro M s3 hM
            refine ⟨D, ls[i].map (inDig c), rfl, seqL_of (by rw [List.map_map]; exact hM), ?_⟩
            rw [all_map]
            refine ⟨_, rfl, ?_⟩
            have eb : badAt r c ls i = !(ls[i].all (inDig c)) := by
              unfold badAt
              rw [eD, decide_eq_false h1, decide_eq_false (fun q => q h2)]
              rfl
            cases e : ls[i].all (inDig c) with
            | false =>
              refine iteT ⟨_, rfl, ((hwrong ?_).mono s3).now⟩
              rw [eb, e]
              rfl
            | true =>
              refine iteF ⟨s2.trans s3, hnext ?_, _, _, rfl⟩
              rw [eb, e]
              rfl
    · rintro σ G ⟨s1, hgood, u, v, rfl⟩
      have hgood : ∀ k < ls.length, badAt r c ls k = false := fun k hk => hgood k (by rw [lenM]; exact hk)
      have hnone := first_none hgood
      obtain ⟨dx, hp⟩ := (sch.mono s1).1
      refine ⟨_, rfl, q, _, rfl, .inl (seqL_of (s1 _ _ hq)), _, rfl, p, _, dx, _, _, rfl, hp, T.c_Scheme.cl, T.n_rows, fl_rows r c n, _, _, rfl, rfl, _, rfl, ?_⟩
      rw [lenM]
      refine ite2 (fun h1 => ?_) (fun h1 => ?_)
      · have h1 := of_decide_eq_true h1
        refine ⟨_, rfl, q, _, rfl, .inl (seqL_of (s1 _ _ hq)), _, _, rfl, rfl, ?_⟩
        rw [lenM]
        exact ((y2 hnone (by omega)).mono s1).now
      · have h1 : r ≤ ls.length := by
          by_cases q : ls.length < r
          · exact absurd (decide_eq_true (by omega)) h1
          · omega
        have z := z hnone h1
        have h00 : 0 < ls.length := by omega
        have h0 : (ls.map tx)[0]? = some (tx (ls.getD 0 [])) := by
          rw [List.getElem?_map, List.getElem?_eq_getElem h00, getD_lst (List.getElem?_eq_getElem h00)]
          rfl
        have l0 : (ls.getD 0 []).length ≤ 1000 := by
          rw [getD_lst (List.getElem?_eq_getElem h00)]
          exact hll _ (List.getElem_mem _)
        refine ⟨_, rfl, q, _, 0, _, rfl, rfl, seqL_of (s1 _ _ hq), atI_nat h0, _, rfl, szl (by rw [S_len]; omega), (ls.getD 0 []).length, by rw [S_len], by omega, by omega, fun D hD => ?_⟩
        refine lc_one (walk_range (lo := 0) (n := (((ls.getD 0 []).length : Nat) : Int).toNat)) ((List.range (ls.getD 0 []).length).map fun t => tx (ls.map fun l => l.getD t 0)) (by simp) (by show (ls.getD 0 []).length ≤ _; omega) hD (fun _ _ => True.intro) ?_ ?_
        · rintro i x M M' vv hi s2 ⟨rfl, rfl⟩ hv
          refine ⟨.refl _, fun Q' qq => ?_⟩
          have hi : i < (ls.getD 0 []).length := hi
          rw [List.getElem?_map, List.getElem?_range hi] at hv
          have hv' : vv = tx (ls.map fun l => l.getD i 0) := (Option.some.inj hv).symm
          subst hv'
          refine ⟨⟨_, rfl⟩, _, rfl, q, rfl, ⟨_, seqL_of ((s1.trans s2) _ _ hq)⟩, fun D3 hD3 => ?_⟩
          refine lc_one (walk_list (xs := ls.map tx)) ((ls.map fun l => l.getD i 0).map fun x => tx [x]) (by simp) (by rw [List.length_map]; omega) hD3 (fun N2 s4 => seqL_of (((s1.trans s2).trans s4) _ _ hq)) ?_ ?_
          · rintro i2 x N2 N3 v2 hi2 s4 ⟨rfl, hx⟩ hv
            refine ⟨.refl _, fun Q2 q2 => ?_⟩
            rw [List.getElem?_map] at hx
            rw [List.getElem?_map, List.getElem?_map] at hv
            rw [lenM] at hi2
            rw [List.getElem?_eq_getElem hi2] at hx hv
            cases hx
            cases hv
            have hl2 := hll ls[i2] (List.getElem_mem _)
            have e2 : ls[i2].length = (ls.getD 0 []).length := by
              have := hgood i2 hi2
              unfold badAt at this
              rw [getD_lst (List.getElem?_eq_getElem hi2)] at this
              simp only [Bool.or_eq_false_iff, decide_eq_false_iff_not] at this
              by_cases q : ls[i2].length = (ls.getD 0 []).length
              · exact q
              · exact absurd q this.1.2
            refine ⟨_, rfl, _, rfl, _, _, ls[i2].getD i 0, rfl, rfl, ?_, ?_, q2 _ (.refl _)⟩
            · rw [S_len]
              exact szl (by omega)
            · have e1 := atI_S (getD_at (l := ls[i2]) (i := i) (by omega))
              rwa [show (0 : Int) + ((i : Nat) : Int) = ((i : Nat) : Int) by omega]
          · intro N2 s4 hN2
            refine ⟨_, _, (ls.map fun l => l.getD i 0).map fun x => S [x], rfl, rfl, .inl (seqL_of (by rw [List.map_map]; exact hN2)), ?_, ?_⟩
            · rw [sum_ones, show Str.ofString "" = S [] from lit_e, S_len]
              simp
              omega
            · rw [show Str.ofString "" = S [] from lit_e, join_ones]
              exact qq _ s4
        · intro M s2 hM
          refine ⟨⟨_, rfl⟩, _, rfl, D, rfl, ⟨_, seqL_of hM⟩, fun D2 hD2 => ?_⟩
          refine lc_one (walk_list (xs := (List.range (ls.getD 0 []).length).map fun t => tx (ls.map fun l => l.getD t 0))) ((ofPic c ls).map fun x => tx [x]) (by simp [ofPic]) (by rw [List.length_map, List.length_range]; omega) hD2 (fun N2 s4 => seqL_of (s4 _ _ hM)) ?_ ?_
          · rintro i x N2 N3 v2 hi2 s4 ⟨rfl, hx⟩ hv
            have hi2 : i < (ls.getD 0 []).length := by simpa using hi2
            rw [List.getElem?_map, List.getElem?_range hi2] at hx
            rw [ofPic, List.getElem?_map, List.getElem?_map, List.getElem?_range hi2] at hv
            cases hx
            cases hv
            obtain ⟨hd, hlen⟩ := good_digs hgood h1 hi2
            obtain ⟨dx, hp⟩ := (sch.mono ((s1.trans s2).trans s4)).1
            refine ⟨.refl _, fun Q' qq => ⟨_, rfl, p, dx, _, rfl, hp, fl_no _ _ _ (by decide +kernel) (by decide +kernel) (by decide +kernel), _, rfl, p, r, c, n, _, rfl, sch.mono ((s1.trans s2).trans s4), by rw [List.length_map]; omega, fun _ G2 s5 => qq _ s5, fun e => absurd hd (by rw [e]; decide)⟩⟩
          · intro N s4 hN
            refine ⟨_, _, (ofPic c ls).map fun x => S [x], rfl, rfl, .inl (seqL_of (by rw [List.map_map]; exact hN)), ?_, ?_⟩
            · rw [sum_ones, show Str.ofString "" = S [] from lit_e, S_len]
              rw [ofPic, List.length_map, List.length_range]
              show _ + _ * 0 ≤ _
              omega
            · rw [show Str.ofString "" = S [] from lit_e, join_ones]
              exact z _ ((s1.trans s2).trans s4)
end
end K00

end
section
set_option Elab.async false
set_option linter.all false
set_option maxRecDepth 100000
set_option maxHeartbeats 4000000
namespace K00
open PySem PySem.Spec PyProof.Rows L2 Kit
section
variable {P : Program} {w : World} {K : PySem.W.Frag} {mg : Str → Option Value} {base : Heap} {a : Ad}
/-- all but the purse as before -/
def Pu (p : Addr) (H G : Hp) : Prop := (∀ b o, H b = some o → b ≠ p → G b = some o) ∧ PurseAt G p
theorem pmono {H G : Hp} {p : Addr} (h : PurseAt H p) (e : Same H G) : PurseAt G p := let ⟨x, y, z, q, r⟩ := h; ⟨x, y, z, e _ _ q, r⟩
theorem Pu.refl {p : Addr} {H : Hp} (h : PurseAt H p) : Pu p H H := ⟨fun _ _ e _ => e, h⟩
theorem Pu.draw {p : Addr} {H : Hp} {o : HO} (h : PurseAt (upd H p o) p) : Pu p H (upd H p o) := ⟨fun b u e hb => by rw [upd_ne hb]; exact e, h⟩
theorem Pu.trans {p : Addr} {H G M : Hp} (h : Pu p H G) (k : Pu p G M) : Pu p H M := ⟨fun b o e hb => k.1 b o (h.1 b o e hb) hb, k.2⟩
theorem Pu.same {p : Addr} {H G M : Hp} (h : Pu p H G) (k : Same G M) : Pu p H M := ⟨fun b o e hb => k b o (h.1 b o e hb), pmono h.2 k⟩
theorem same_pu {p : Addr} {H G M : Hp} (h : Same H G) (k : Pu p G M) : Pu p H M := ⟨fun b o e hb => k.1 b o (h b o e) hb, k.2⟩
def SizeAt (H : Hp) (s : Addr) (r c n : Nat) : Prop := H s = some (.tup [.int r, .int c, .int n]) ∧ Good r c n
theorem SizeAt.mono {H G : Hp} {s : Addr} {r c n : Nat} (h : SizeAt H s r c n) (e : Same H G) : SizeAt G s r c n := ⟨e _ _ h.1, h.2⟩
theorem SizeAt.pu {H G : Hp} {s p : Addr} {r c n : Nat} (h : SizeAt H s r c n) (hp : PurseAt H p) (e : Pu p H G) : SizeAt G s r c n := by
  obtain ⟨x, y, z, q, _⟩ := hp
  exact ⟨e.1 _ _ h.1 (ne_of h.1 q (by intro z; cases z)), h.2⟩
theorem SchemeAt.pu {C : Addr} {H G : Hp} {q p : Addr} {r c n : Nat} (h : SchemeAt C H q r c n) (hp : PurseAt H p) (e : Pu p H G) : SchemeAt C G q r c n := by
  obtain ⟨x, y, z, k, _⟩ := hp
  obtain ⟨⟨dx, h1⟩, h2⟩ := h
  exact ⟨⟨dx, e.1 _ _ h1 (ne_of h1 k (by intro z; cases z))⟩, h2⟩
/-! ### signs, spoilt texts, numbers far off -/
theorem at_of_lt {l : List Nat} {d : Int} (h0 : 0 ≤ d) (h1 : d < l.length) : ∃ x, atI (S l).cps.toList d = some x := by
  have e := atI_S (getD_at (l := l) (i := d.toNat) (by omega))
  rw [show ((d.toNat : Nat) : Int) = d by omega] at e
  exact ⟨_, e⟩
theorem str_at {s : String} {n : Nat} (hs : (Str.ofString s).length = n) {d : Int} (h0 : 0 ≤ d) (h1 : d < n) : ∃ x, atI (Str.ofString s).cps.toList d = some x := by
  obtain ⟨l, hl⟩ := S_of (Str.ofString s)
  rw [hl] at hs ⊢
  rw [S_len] at hs
  exact at_of_lt h0 (by omega)
def spSign : Sp := fun vs H Q _ => ∃ p : Addr, vs = [.ref p] ∧ PurseAt H p ∧ ∀ x G, Pu p H G → Q (tx [x]) G
theorem c_law_sign (T : Txt K mg a) : Can P w K mg base 2 "_law_sign" spSign := by
  refine can_of T.d_law_sign sc_law_sign bd_law_sign (fun vs H Q E h => ?_) (fun f cdv A outer s H vs Q E hr h => ?_)
  · obtain ⟨p, rfl, _⟩ := h
    rfl
  · obtain ⟨p, rfl, hp, z⟩ := h
    refine ⟨_, (pss_cons (ps_set (i := 1) sc_law_sign.nd rfl (.inl rfl) pe_str)
      (pss_cons (ps_if (pt_cmpR op_eq (pc_f (c_law_draw T) hr (by decide) (by rfl) (pa_cons (pv 0) (pa_cons pe_int pa_nil))) pe_int (nomark _)) (pss_one (ps_ret (pe_ix ix_str (pv 1) (pc_f (c_law_draw T) hr (by decide) (by rfl) (pa_cons (pv 0) (pa_cons pe_int pa_nil))) (fun _ _ => rfl)))) pss_nil)
      (pss_cons (ps_set (i := 2) sc_law_sign.nd rfl (.inl rfl) pe_str)
      (pss_one (ps_ret (pe_ix ix_str (pv 2) (pc_f (c_law_draw T) hr (by decide) (by rfl) (pa_cons (pv 0) (pa_cons pe_int pa_nil))) (fun _ _ => rfl))))))), ?_⟩
    refine ⟨_, rfl, p, 2, rfl, hp, by decide, by decide, fun d o d0 d1 hp1 => ⟨rfl, _, rfl, ?_⟩⟩
    have q1 := Pu.draw (H := H) hp1
    refine ite2 (fun _ => ?_) (fun _ => ?_)
    · refine ⟨_, rfl, _, rfl, p, 16, rfl, hp1, by decide, by decide, fun e u e0 e1 hp2 => ?_⟩
      obtain ⟨x, hx⟩ := str_at (s := "abcdefghij012345") (by decide +kernel) e0 e1
      exact ⟨_, _, x, rfl, rfl, by decide +kernel, hx, z x _ (q1.trans (Pu.draw hp2))⟩
    · refine ⟨_, rfl, _, rfl, p, 94, rfl, hp1, by decide, by decide, fun e u e0 e1 hp2 => ?_⟩
      obtain ⟨x, hx⟩ := str_at (s := " !\"#$&'()*+,-./0123456789:;<=>?@ABCDEFGHIJKLMNOPQRSTUVWXYZ[\\]^_`abcdefghijklmnopqrstuvwxyz{|}~") (by decide +kernel) e0 e1
      exact ⟨_, _, x, rfl, rfl, by decide +kernel, hx, z x _ (q1.trans (Pu.draw hp2))⟩
theorem cut_takeI {l : List Nat} {d : Int} (h : 0 ≤ d) : cutS (S l) none (some d) = S (l.take d.toNat) := by
  have e := cut_take l d.toNat
  rwa [show ((d.toNat : Nat) : Int) = d by omega] at e
theorem cut_dropI {l : List Nat} {d : Int} (h : 0 ≤ d) : cutS (S l) (some d) none = S (l.drop d.toNat) := by
  have e := cut_drop l d.toNat
  rwa [show ((d.toNat : Nat) : Int) = d by omega] at e
def spSpoilt : Sp := fun vs H Q _ => ∃ (p : Addr) (l : List Nat), vs = [.ref p, tx l] ∧ PurseAt H p ∧ l.length ≤ 1000 ∧ ∀ m G, m.length ≤ l.length + 1 → Pu p H G → Q (tx m) G
theorem c_law_spoilt (T : Txt K mg a) : Can P w K mg base 3 "_law_spoilt" spSpoilt := by
  refine can_of T.d_law_spoilt sc_law_spoilt bd_law_spoilt (fun vs H Q E h => ?_) (fun f cdv A outer s H vs Q E hr h => ?_)
  · obtain ⟨p, l, rfl, _⟩ := h
    rfl
  · obtain ⟨p, l, rfl, hp, hl, z⟩ := h
    refine ⟨_, (pss_cons (ps_set (i := 2) sc_law_spoilt.nd rfl (.inl rfl) (pc_f (c_law_draw T) hr (by decide) (by rfl) (pa_cons (pv 0) (pa_cons pe_int pa_nil))))
      (pss_cons (ps_set (i := 3) sc_law_spoilt.nd rfl (.inl rfl) (pc_f (c_law_draw T) hr (by decide) (by rfl) (pa_cons (pv 0) (pa_cons (pe_op op_add (pe_callB call_len_str (by rfl) T.b_len (by decide +kernel) (pa_cons (pv 1) pa_nil)) pe_int) pa_nil))))
      (pss_cons (ps_if (pt_cmpR op_eq (pv 2) pe_int (nomark _)) (pss_one (ps_ret (pe_op op_add_str (pe_slice sl_str (pv 1) po_none (po_some (pv 3))) (pe_slice sl_str (pv 1) (po_some (pe_op op_add (pv 3) pe_int)) po_none)))) pss_nil)
      (pss_cons (ps_if (pt_cmpR op_eq (pv 2) pe_int (nomark _)) (pss_one (ps_ret (pe_op op_add_str (pe_op op_add_str (pe_slice sl_str (pv 1) po_none (po_some (pv 3))) (pc_f (c_law_sign T) hr (by decide) (by rfl) (pa_cons (pv 0) pa_nil))) (pe_slice sl_str (pv 1) (po_some (pv 3)) po_none)))) pss_nil)
      (pss_one (ps_ret (pe_op op_add_str (pe_op op_add_str (pe_slice sl_str (pv 1) po_none (po_some (pv 3))) (pc_f (c_law_sign T) hr (by decide) (by rfl) (pa_cons (pv 0) pa_nil))) (pe_slice sl_str (pv 1) (po_some (pe_op op_add (pv 3) pe_int)) po_none)))))))), ?_⟩
    refine ⟨_, rfl, p, 3, rfl, hp, by decide, by decide, fun d o d0 d1 hp1 => ?_⟩
    have q1 := Pu.draw (H := H) hp1
    refine ⟨_, rfl, _, rfl, _, rfl, szl (by rw [S_len]; omega), _, _, rfl, rfl, p, _, rfl, hp1, by rw [S_len]; omega, by rw [S_len]; omega, fun e u e0 e1 hp2 => ?_⟩
    rw [S_len] at e1
    have q2 := q1.trans (Pu.draw hp2)
    have k1 := cut_takeI (l := l) e0
    have k2 := cut_dropI (l := l) e0
    have k3 := cut_dropI (l := l) (d := e + 1) (by omega)
    have lS : (S l).length ≤ sizeLine := szl (by rw [S_len]; omega)
    refine ⟨_, rfl, rfl, _, rfl, ?_⟩
    refine ite2 (fun _ => ?_) (fun _ => ?_)
    · refine ⟨_, rfl, _, rfl, _, rfl, _, rfl, lS, ?_⟩
      rw [k1]
      refine ⟨_, rfl, _, rfl, _, _, rfl, rfl, _, rfl, _, rfl, lS, ?_⟩
      rw [k3]
      refine ⟨_, _, rfl, rfl, szl (by rw [S_len, S_len]; simp only [List.length_take, List.length_drop]; omega), ?_⟩
      rw [S_app]
      exact z _ _ (by simp only [List.length_append, List.length_take, List.length_drop]; omega) q2
    · refine ⟨_, rfl, rfl, _, rfl, ?_⟩
      refine ite2 (fun _ => ?_) (fun _ => ?_)
      · refine ⟨_, rfl, _, rfl, _, rfl, _, rfl, lS, ?_⟩
        rw [k1]
        refine ⟨_, rfl, p, rfl, hp2, fun x G q3 => ⟨_, _, rfl, rfl, szl (by rw [S_len, S_len]; simp only [List.length_take, List.length_cons, List.length_nil]; omega), ?_⟩⟩
        rw [S_app]
        refine ⟨_, rfl, _, rfl, _, rfl, _, rfl, lS, ?_⟩
        rw [k2]
        refine ⟨_, _, rfl, rfl, szl (by rw [S_len, S_len]; simp only [List.length_append, List.length_take, List.length_drop, List.length_cons, List.length_nil]; omega), ?_⟩
        rw [S_app]
        exact z _ _ (by simp only [List.length_append, List.length_take, List.length_drop, List.length_cons, List.length_nil]; omega) (q2.trans q3)
      · refine ⟨_, rfl, _, rfl, _, rfl, _, rfl, lS, ?_⟩
        rw [k1]
        refine ⟨_, rfl, p, rfl, hp2, fun x G q3 => ⟨_, _, rfl, rfl, szl (by rw [S_len, S_len]; simp only [List.length_take, List.length_cons, List.length_nil]; omega), ?_⟩⟩
        rw [S_app]
        refine ⟨_, rfl, _, rfl, _, _, rfl, rfl, _, rfl, _, rfl, lS, ?_⟩
        rw [k3]
        refine ⟨_, _, rfl, rfl, szl (by rw [S_len, S_len]; simp only [List.length_append, List.length_take, List.length_drop, List.length_cons, List.length_nil]; omega), ?_⟩
        rw [S_app]
        exact z _ _ (by simp only [List.length_append, List.length_take, List.length_drop, List.length_cons, List.length_nil]; omega) (q2.trans q3)
def spFar : Sp := fun vs H Q _ => ∃ p : Addr, vs = [.ref p] ∧ PurseAt H p ∧ ∀ i G, Pu p H G → Q (.int i) G
theorem c_law_far (T : Txt K mg a) : Can P w K mg base 2 "_law_far" spFar := by
  refine can_of T.d_law_far sc_law_far bd_law_far (fun vs H Q E h => ?_) (fun f cdv A outer s H vs Q E hr h => ?_)
  · obtain ⟨p, rfl, _⟩ := h
    rfl
  · obtain ⟨p, rfl, hp, z⟩ := h
    refine ⟨_, (pss_one (ps_ret (pe_ix (kix_list K) (pe_lst (pa_cons (pe_op op_add (pe_op op_pow pe_int pe_int) pe_int) (pa_cons (pe_un un_neg (pe_op op_pow pe_int pe_int)) pa_nil))) (pc_f (c_law_draw T) hr (by decide) (by rfl) (pa_cons (pv 0) (pa_cons pe_int pa_nil))) (fun _ _ => rfl)))), ?_⟩
    refine ⟨_, _, rfl, rfl, ⟨by decide, by decide, by decide⟩, _, _, rfl, rfl, _, _, rfl, rfl, ⟨by decide, by decide, by decide⟩, _, rfl, by show 2 ≤ sizeLine; decide, fun l hl => ?_⟩
    have hp' := pmono hp (ex_new (o := .lst [.int (10 ^ (30 : Int).toNat + 1), .int (-10 ^ (30 : Int).toNat)]) hl)
    refine ⟨_, rfl, p, 2, rfl, hp', by decide, by decide, fun d o d0 d1 hp1 => ?_⟩
    have nlp : l ≠ p := by
      obtain ⟨_, _, _, q, _⟩ := hp
      exact (ne_of_none q hl).symm
    have hlx : ∀ o, upd (upd H l (.lst [.int (10 ^ (30 : Int).toNat + 1), .int (-10 ^ (30 : Int).toNat)])) p o l = some (.lst [.int (10 ^ (30 : Int).toNat + 1), .int (-10 ^ (30 : Int).toNat)]) := fun o => by rw [upd_ne nlp, upd_same]
    have q1 := same_pu (ex_new (o := .lst [.int (10 ^ (30 : Int).toNat + 1), .int (-10 ^ (30 : Int).toNat)]) hl) (Pu.draw hp1)
    obtain rfl | rfl : d = 0 ∨ d = 1 := by omega
    · exact ⟨l, _, 0, _, rfl, rfl, seqL_of (hlx _), rfl, z _ _ q1⟩
    · exact ⟨l, _, 1, _, rfl, rfl, seqL_of (hlx _), rfl, z _ _ q1⟩
/-! ### what the law reckons by itself -/
theorem size_ix {s : Addr} {H : Hp} {r c n : Nat} (h : SizeAt H s r c n) : SqT K H s [.int r, .int c, .int n] := seqT_of h.1
def spDigits : Sp := fun vs H Q _ => ∃ (s : Addr) (r c n k : Nat), vs = [.ref s, .int k] ∧ SizeAt H s r c n ∧ Q (tx (dig r c k)) H
theorem c_law_digits (T : Txt K mg a) : Can P w K mg base 1 "_law_digits" spDigits := by
  refine can_of T.d_law_digits sc_law_digits bd_law_digits (fun vs H Q E h => ?_) (fun f cdv A outer s H vs Q E hr h => ?_)
  · obtain ⟨s, r, c, n, k, rfl, _⟩ := h
    rfl
  · obtain ⟨s, r, c, n, k, rfl, sz, z⟩ := h
    refine ⟨_, (pss_cons (ps_set (i := 2) sc_law_digits.nd rfl (.inl rfl) pe_str)
      (pss_cons (ps_for (passes_of rfl) (by rfl) (pi_range1 (by rfl) T.b_range (pa_cons (pe_ix (kix_tup K) (pv 0) pe_int (fun _ _ => rfl)) pa_nil)) (pg_name (i := 3) sc_law_digits.nd rfl (.inl rfl)) (pss_cons (ps_set (i := 2) sc_law_digits.nd rfl (.inl rfl) (pe_op op_add_str (pe_ix ix_str pe_str (pe_op op_modN (pe_callTy call_int1 (by rfl) T.b_int (by decide +kernel) (pa_cons (pv 1) pa_nil)) (pe_ix (kix_tup K) (pv 0) pe_int (fun _ _ => rfl))) (fun _ _ => rfl)) (pv 2)))
      (pss_one (ps_set (i := 1) sc_law_digits.nd rfl (.inl rfl) (pe_op op_fdivN (pv 1) (pe_ix (kix_tup K) (pv 0) pe_int (fun _ _ => rfl)))))))
      (pss_one (ps_ret (pv 2))))), ?_⟩
    have gn := good_n sz.2
    have gc := good_c sz.2
    have hs : SqT K H s [.int r, .int c, .int n] := seqT_of sz.1
    refine ⟨_, rfl, s, _, 0, _, rfl, rfl, hs, rfl, r, rfl, by omega, by omega, ?_⟩
    refine for_it (walk_range (lo := 0) (n := ((r : Nat) : Int).toNat)) (fun i σ G => G = H ∧ ∃ v : Option V, σ = [some (.ref s), some (.int ((k / c ^ i : Nat) : Int)), some (tx (dig i c k)), v]) ⟨rfl, none, ?_⟩ (fun _ _ _ _ _ => True.intro) ?_ ?_
    · show [_, some (V.int (k : Int)), some (V.str (Str.ofString "")), none] = [_, some (V.int ((k / c ^ 0 : Nat) : Int)), some (tx []), _]
      rw [Nat.pow_zero, Nat.div_one, lit_e]
    · rintro i u σ G G' hi ⟨rfl, v, rfl⟩ ⟨rfl, rfl⟩
      have hm : k / c ^ i % c < 3 := by
        have := Nat.mod_lt (k / c ^ i) (show 0 < c by omega)
        omega
      refine ⟨_, rfl, .inl ⟨_, rfl, _, rfl, s, _, 1, _, rfl, rfl, hs, rfl, _, _, rfl, rfl, by show (c : Int) ≠ 0; omega, _, _, 48 + k / c ^ i % c, rfl, rfl, by decide +kernel, by rw [fm]; exact lit_at hm, _, rfl, S [48 + k / c ^ i % c], _, rfl, rfl, ?_, ?_⟩⟩
      · rw [S_len, S_len, dig_len]
        have hi : i < r := hi
        exact szl (by show 1 + i ≤ 100000; omega)
      · refine ⟨_, rfl, _, rfl, s, _, 1, _, rfl, rfl, hs, rfl, _, _, rfl, rfl, ⟨by omega, by omega⟩, rfl, some (.int (0 + (i : Nat))), ?_⟩
        show [some (V.ref s), some (V.int (Int.fdiv ((k / c ^ i : Nat) : Int) (c : Int))), some (V.str (S [48 + k / c ^ i % c] ++ S (dig i c k))), _] = _
        rw [fd, S_app, Nat.div_div_eq_div_mul, ← Nat.pow_succ]
        rfl
    · rintro σ G ⟨rfl, v, rfl⟩
      exact ⟨_, rfl, z⟩
def spLetter : Sp := fun vs H Q _ => ∃ (s : Addr) (r c n : Nat) (l : List Nat), vs = [.ref s, tx l] ∧ SizeAt H s r c n ∧ isDigs r c l = true ∧ Q (tx [97 + num c l]) H
theorem let_at {k : Nat} (h : k < 9) : atI (Str.ofString "abcdefghi").cps.toList ((k : Nat) : Int) = some (97 + k) := by
  rw [lit_let]
  exact cols_at h
theorem c_law_letter (T : Txt K mg a) : Can P w K mg base 1 "_law_letter" spLetter := by
  refine can_of T.d_law_letter sc_law_letter bd_law_letter (fun vs H Q E h => ?_) (fun f cdv A outer s H vs Q E hr h => ?_)
  · obtain ⟨s, r, c, n, k, rfl, _⟩ := h
    rfl
  · obtain ⟨s, r, c, n, l, rfl, sz, hd, z⟩ := h
    refine ⟨_, (pss_cons (ps_set (i := 2) sc_law_letter.nd rfl (.inl rfl) pe_int)
      (pss_cons (ps_for (passes_of rfl) (by rfl) (pi_str (pv 1)) (pg_name (i := 3) sc_law_letter.nd rfl (.inl rfl)) (pss_one (ps_set (i := 2) sc_law_letter.nd rfl (.inl rfl) (pe_op op_add (pe_op op_mul (pv 2) (pe_ix (kix_tup K) (pv 0) pe_int (fun _ _ => rfl))) (pe_bmS PySem.F.plainAttrs_str PySem.F.slot_str_index PySem.F.type_str_index (mt_indexX (by rfl) takes0) pe_str (pa_cons (pv 3) pa_nil))))))
      (pss_one (ps_ret (pe_ix ix_str pe_str (pv 2) (fun _ _ => rfl)))))), ?_⟩
    have gn := good_n sz.2
    have gc := good_c sz.2
    have hs : SqT K H s [.int r, .int c, .int n] := seqT_of sz.1
    have he : l.all (inDig c) = true := by
      unfold isDigs at hd
      rw [Bool.and_eq_true] at hd
      exact hd.2
    refine ⟨_, rfl, _, rfl, for_it walk_str (fun i σ M => M = H ∧ ∃ v : Option V, σ = [some (.ref s), some (tx l), some (.int ((num c (l.take i) : Nat) : Int)), v]) ⟨rfl, none, rfl⟩ (fun _ _ _ _ _ => True.intro) ?_ ?_⟩
    · rintro i u σ M M' hi ⟨rfl, v, rfl⟩ ⟨rfl, x, hx, rfl⟩
      have hx := at_S hx
      have dx3 := inDig3 (by omega) (all_at he hx)
      refine ⟨_, rfl, _, rfl, s, _, 1, _, rfl, rfl, hs, rfl, _, _, rfl, rfl, .inr ⟨by omega, by omega⟩, rfl, _, rfl, _, _, rfl, rfl, fun k hk => ?_, fun hk => ?_⟩
      · rw [S_one, idx_dig dx3] at hk
        cases hk
        refine ⟨_, _, rfl, rfl, rfl, some (tx [x]), ?_⟩
        rw [num_take hx]
        show [some (V.ref s), some (tx l), some (V.int (((num c (l.take i) : Nat) : Int) * (c : Int) + ((x - 48 : Nat) : Int))), _] = [some (V.ref s), some (tx l), some (V.int ((num c (l.take i) * c + (x - 48) : Nat) : Int)), _]
        rw [Int.natCast_add, Int.natCast_mul]
        rfl
      · rw [S_one, idx_dig dx3] at hk
        cases hk
    · rintro σ M ⟨rfl, v, rfl⟩
      rw [show (S l).cps.size = l.length from S_len l, List.take_of_length_le (Nat.le_refl _)]
      have hn := num_lt sz.2 hd
      exact ⟨_, rfl, _, _, 97 + num c l, rfl, rfl, by decide +kernel, let_at (by omega), z⟩
theorem inV_tx (x : Nat) (cs : List Nat) : inV (tx [x]) (cs.map fun c => tx [c]) = cs.contains x := by
  induction cs with
  | nil => rfl
  | cons c cs ih =>
    show (eqV (tx [c]) (tx [x]) || inV (tx [x]) (cs.map fun c => tx [c])) = _
    rw [ih, List.contains_cons]
    congr 1
    show ((S [c]) == (S [x])) = (x == c)
    by_cases h : x = c
    · subst h
      rw [beq_self_eq_true, beq_self_eq_true]
    · rw [beq_eq_false_iff_ne.mpr h, beq_eq_false_iff_ne.mpr fun q => h (by have := S_inj q; simpa using this.symm)]
theorem flat_tx (cs : List Nat) : (cs.map fun c => tx [c]).all flatV = true := by
  rw [List.all_map]
  exact List.all_eq_true.mpr fun _ _ => rfl
def spOnly : Sp := fun vs H Q _ => ∃ (q : Addr) (l cs : List Nat), vs = [tx l, .ref q] ∧ H q = some (.lst (cs.map fun c => tx [c])) ∧ Q (.bl (l.all cs.contains)) H
theorem c_law_only (T : Txt K mg a) : Can P w K mg base 1 "_law_only" spOnly := by
  refine can_of T.d_law_only sc_law_only bd_law_only (fun vs H Q E h => ?_) (fun f cdv A outer s H vs Q E hr h => ?_)
  · obtain ⟨q, l, cs, rfl, _⟩ := h
    rfl
  · obtain ⟨q, l, cs, rfl, hq, z⟩ := h
    refine ⟨_, (pss_cons (ps_for (passes_of rfl) (by rfl) (pi_str (pv 0)) (pg_name (i := 2) sc_law_only.nd rfl (.inl rfl)) (pss_one (ps_if (pt_cmpR (knotin K) (pv 2) (pv 1) (by rfl)) (pss_one (ps_ret pe_bl)) pss_nil)))
      (pss_one (ps_ret pe_bl))), ?_⟩
    refine ⟨_, rfl, _, rfl, for_it walk_str (fun i σ M => M = H ∧ (l.take i).all cs.contains = true ∧ ∃ v : Option V, σ = [some (tx l), some (.ref q), v]) ⟨rfl, rfl, none, rfl⟩ (fun _ _ _ _ _ => True.intro) ?_ ?_⟩
    · rintro i u σ M M' hi ⟨rfl, ha, v, rfl⟩ ⟨rfl, x, hx, rfl⟩
      have hx := at_S hx
      refine ⟨_, rfl, _, rfl, q, _, rfl, .inl (seqL_of hq), rfl, flat_tx cs, _, rfl, ?_⟩
      rw [S_one, inV_tx]
      cases e : cs.contains x with
      | true => exact iteF ⟨rfl, by rw [List.take_add_one, List.all_append, ha, hx]; simp; simpa using e, some (tx [x]), rfl⟩
      | false =>
        refine iteT ?_
        have e2 : l.all cs.contains = false := by
          rw [Bool.eq_false_iff]
          intro h
          rw [all_at h hx] at e
          cases e
        rw [e2] at z
        exact z
    · rintro σ M ⟨rfl, ha, v, rfl⟩
      rw [show (S l).cps.size = l.length from S_len l, List.take_of_length_le (Nat.le_refl _)] at ha
      rw [ha] at z
      exact z
end
end K00

end
section
set_option Elab.async false
set_option linter.all false
set_option maxRecDepth 100000
set_option maxHeartbeats 4000000
namespace K00
open PySem PySem.Spec PyProof.Rows L2 Kit
section
variable {P : Program} {w : World} {K : PySem.W.Frag} {mg : Str → Option Value} {base : Heap} {a : Ad}
def lit (s : String) : List Nat := (Str.ofString s).cps.toList
theorem tx_lit (s : String) : V.str (Str.ofString s) = tx (lit s) := rfl
def refd (i : Int) (d : D) : D := .tup [.txt (lit "refused"), .int i, d]
def told (d : D) : D := .tup [.txt (lit "told"), d]
theorem rp_refd {H : Hp} {p : Addr} {i : Int} {d : D} {v : V} (h : H p = none) (r : Rp H d v) : Rp (upd H p (.tup [.str (Str.ofString "refused"), .int i, v])) (refd i d) (.ref p) :=
  ⟨p, _, rfl, upd_same, _, _, rfl, rfl, _, _, rfl, rfl, _, _, rfl, r.mono (ex_new h), rfl⟩
theorem rp_told {H : Hp} {p : Addr} {d : D} {v : V} (h : H p = none) (r : Rp H d v) : Rp (upd H p (.tup [.str (Str.ofString "told"), v])) (told d) (.ref p) :=
  ⟨p, _, rfl, upd_same, _, _, rfl, rfl, _, _, rfl, r.mono (ex_new h), rfl⟩
/-! ### the sizes -/
def sizes : List (Nat × Nat × Nat) := [(1, 2, 2), (1, 3, 3), (2, 2, 4), (2, 3, 9), (3, 2, 8)]
def SizesAt (G : Hp) (q : Addr) : Prop := ∃ t0 t1 t2 t3 t4 : Addr, G q = some (.lst [.ref t0, .ref t1, .ref t2, .ref t3, .ref t4]) ∧ SizeAt G t0 1 2 2 ∧ SizeAt G t1 1 3 3 ∧ SizeAt G t2 2 2 4 ∧ SizeAt G t3 2 3 9 ∧ SizeAt G t4 3 2 8
def spSizes : Sp := fun vs H Q _ => vs = [] ∧ ∀ G q, Same H G → H q = none → SizesAt G q → Q (.ref q) G
theorem c_law_sizes (T : Txt K mg a) : Can P w K mg base 1 "_law_sizes" spSizes := by
  refine can_of T.d_law_sizes sc_law_sizes bd_law_sizes (fun vs H Q E h => ?_) (fun f cdv A outer s H vs Q E hr h => ?_)
  · obtain ⟨rfl, _⟩ := h
    rfl
  · obtain ⟨rfl, z⟩ := h
    refine ⟨_, (pss_one (ps_ret (pe_lst (pa_cons (pe_tup (pa_cons pe_int (pa_cons pe_int (pa_cons pe_int pa_nil)))) (pa_cons (pe_tup (pa_cons pe_int (pa_cons pe_int (pa_cons pe_int pa_nil)))) (pa_cons (pe_tup (pa_cons pe_int (pa_cons pe_int (pa_cons pe_int pa_nil)))) (pa_cons (pe_tup (pa_cons pe_int (pa_cons pe_int (pa_cons pe_int pa_nil)))) (pa_cons (pe_tup (pa_cons pe_int (pa_cons pe_int (pa_cons pe_int pa_nil)))) pa_nil)))))))), ?_⟩
    refine ⟨by show 3 ≤ sizeLine; decide, fun t0 h0 => ⟨by show 3 ≤ sizeLine; decide, fun t1 h1 => ⟨by show 3 ≤ sizeLine; decide, fun t2 h2 => ⟨by show 3 ≤ sizeLine; decide, fun t3 h3 => ⟨by show 3 ≤ sizeLine; decide, fun t4 h4 => ⟨by show 5 ≤ sizeLine; decide, fun q hq => ?_⟩⟩⟩⟩⟩⟩
    have s0 := ex_new (o := .tup [.int 1, .int 2, .int 2]) h0
    have s1 := ex_new (o := .tup [.int 1, .int 3, .int 3]) h1
    have s2 := ex_new (o := .tup [.int 2, .int 2, .int 4]) h2
    have s3 := ex_new (o := .tup [.int 2, .int 3, .int 9]) h3
    have s4 := ex_new (o := .tup [.int 3, .int 2, .int 8]) h4
    have s5 := ex_new (o := .lst [.ref t0, .ref t1, .ref t2, .ref t3, .ref t4]) hq
    have g : ∀ {r c n : Nat}, (r, c, n) ∈ sizes → Good r c n := fun h => h
    refine z _ _ (s0.trans (s1.trans (s2.trans (s3.trans (s4.trans s5))))) (by
      have := (s0.trans (s1.trans (s2.trans (s3.trans s4)))).free hq
      exact this) ⟨t0, t1, t2, t3, t4, upd_same, ⟨(s1.trans (s2.trans (s3.trans (s4.trans s5)))) _ _ upd_same, by decide⟩, ⟨(s2.trans (s3.trans (s4.trans s5))) _ _ upd_same, by decide⟩, ⟨(s3.trans (s4.trans s5)) _ _ upd_same, by decide⟩, ⟨(s4.trans s5) _ _ upd_same, by decide⟩, ⟨s5 _ _ upd_same, by decide⟩⟩
/-! ### strips, colours -/
theorem cut_let {n : Nat} (h : n ≤ 9) : cutS (Str.ofString "abcdefghi") none (some (n : Int)) = S (cols n) := by
  have z : ∀ n : Nat, n ≤ 9 → cutS (Str.ofString "abcdefghi") none (some (n : Int)) = S (cols n) := by decide +kernel
  exact z n h
theorem contains_cols (n x : Nat) : (cols n).contains x = inCol n x := by
  by_cases h : inCol n x = true
  · rw [h]
    simpa using mem_cols.mpr h
  · rw [Bool.eq_false_iff.mpr h, Bool.eq_false_iff]
    exact fun q => h (mem_cols.mp (by simpa using q))
def spStrip : Sp := fun vs H Q _ => ∃ (s : Addr) (r c n : Nat) (l : List Nat), vs = [.ref s, tx l] ∧ SizeAt H s r c n ∧ ∀ G, Same H G → Q (.bl (isStrip n l)) G
theorem c_law_is_strip (T : Txt K mg a) : Can P w K mg base 2 "_law_is_strip" spStrip := by
  refine can_of T.d_law_is_strip sc_law_is_strip bd_law_is_strip (fun vs H Q E h => ?_) (fun f cdv A outer s H vs Q E hr h => ?_)
  · obtain ⟨s, r, c, n, l, rfl, _⟩ := h
    rfl
  · obtain ⟨s, r, c, n, l, rfl, sz, z⟩ := h
    refine ⟨_, (pss_one (ps_ret (pc_f (c_law_only T) hr (by decide) (by rfl) (pa_cons (pv 1) (pa_cons (pe_callTy (listS (by rfl)) (by rfl) T.b_list (by decide +kernel) (pa_cons (pe_slice sl_str pe_str po_none (po_some (pe_ix (kix_tup K) (pv 0) pe_int (fun _ _ => rfl)))) pa_nil)) pa_nil))))), ?_⟩
    have gn := good_n sz.2
    refine ⟨_, rfl, _, rfl, s, _, 2, _, rfl, rfl, size_ix sz, rfl, _, rfl, _, rfl, by decide +kernel, ?_⟩
    rw [cut_let gn.1]
    refine ⟨cols n, rfl, by rw [cols_len]; omega, fun q hq => ⟨q, l, cols n, rfl, upd_same, ?_⟩⟩
    have e : l.all (cols n).contains = isStrip n l := by
      unfold isStrip
      congr 1
      funext x
      exact contains_cols n x
    rw [e]
    exact z _ (ex_new hq)
def digs (c : Nat) : List Nat := (List.range c).map (48 + ·)
theorem contains_digs (c x : Nat) : (digs c).contains x = inDig c x := by
  by_cases h : inDig c x = true
  · rw [h]
    exact List.contains_iff_mem.mpr (mem_digs.mpr h)
  · rw [Bool.eq_false_iff.mpr h, Bool.eq_false_iff]
    exact fun q => h (mem_digs.mp (List.contains_iff_mem.mp q))
def spColours : Sp := fun vs H Q _ => ∃ (s : Addr) (r c n : Nat), vs = [.ref s] ∧ SizeAt H s r c n ∧ ∀ q, H q = none → Q (.ref q) (upd H q (.lst ((digs c).map fun x => tx [x])))
theorem c_law_colours (T : Txt K mg a) : Can P w K mg base 1 "_law_colours" spColours := by
  refine can_of T.d_law_colours sc_law_colours bd_law_colours (fun vs H Q E h => ?_) (fun f cdv A outer s H vs Q E hr h => ?_)
  · obtain ⟨s, r, c, n, rfl, _⟩ := h
    rfl
  · obtain ⟨s, r, c, n, rfl, sz, z⟩ := h
    refine ⟨_, (pss_one (ps_ret (pe_callTy (listS (by rfl)) (by rfl) T.b_list (by decide +kernel) (pa_cons (pe_slice sl_str pe_str po_none (po_some (pe_ix (kix_tup K) (pv 0) pe_int (fun _ _ => rfl)))) pa_nil)))), ?_⟩
    have gn := good_n sz.2
    have gc := good_c sz.2
    refine ⟨_, rfl, s, _, 1, _, rfl, rfl, size_ix sz, rfl, _, rfl, _, rfl, by decide +kernel, ?_⟩
    rw [cut_dig gc]
    exact ⟨digs c, rfl, by rw [digs, List.length_map, List.length_range]; omega, z⟩
theorem idx_let {n x : Nat} (hn : n ≤ 9) (h : inCol n x = true) : Txt.index0 (Str.ofString "abcdefghi") (S [x]) = some (x - 97) := by
  rw [lit_let]
  refine idx_col (Nat.le_refl _) ?_
  unfold inCol at h ⊢
  rw [decide_eq_true_iff] at h ⊢
  omega
/-! ### the rows of a strip -/
def spLines : Sp := fun vs H Q _ => ∃ (s : Addr) (r c n : Nat) (l : List Nat), vs = [.ref s, tx l] ∧ SizeAt H s r c n ∧ l.length ≤ 1000 ∧ isStrip n l = true ∧ ∀ G q, Same H G → H q = none → G q = some (.lst ((rowsOf r c l).map tx)) → Q (.ref q) G
theorem c_law_lines (T : Txt K mg a) : Can P w K mg base 2 "_law_lines" spLines := by
  refine can_of T.d_law_lines sc_law_lines bd_law_lines (fun vs H Q E h => ?_) (fun f cdv A outer s H vs Q E hr h => ?_)
  · obtain ⟨s, r, c, n, l, rfl, _⟩ := h
    rfl
  · obtain ⟨s, r, c, n, l, rfl, sz, hl, hst, z⟩ := h
    refine ⟨_, (pss_cons (ps_set (i := 2) sc_law_lines.nd rfl (.inl rfl) (pe_lst pa_nil))
      (pss_cons (ps_for (passes_of rfl) (by rfl) (pi_range1 (by rfl) T.b_range (pa_cons (pe_ix (kix_tup K) (pv 0) pe_int (fun _ _ => rfl)) pa_nil)) (pg_name (i := 3) sc_law_lines.nd rfl (.inl rfl)) (pss_cons (ps_set (i := 4) sc_law_lines.nd rfl (.inl rfl) pe_str)
      (pss_cons (ps_for (passes_of rfl) (by rfl) (pi_str (pv 1)) (pg_name (i := 5) sc_law_lines.nd rfl (.inl rfl)) (pss_one (ps_set (i := 4) sc_law_lines.nd rfl (.inl rfl) (pe_op op_add_str (pv 4) (pe_ix ix_str (pc_f (c_law_digits T) hr (by decide) (by rfl) (pa_cons (pv 0) (pa_cons (pe_bmS PySem.F.plainAttrs_str PySem.F.slot_str_index PySem.F.type_str_index (mt_indexX (by rfl) takes0) pe_str (pa_cons (pv 5) pa_nil)) pa_nil))) (pv 3) (fun _ _ => rfl))))))
      (pss_one (ps_expr (pe_bm PySem.F.plainAttrs_list PySem.F.slot_list_append PySem.F.type_list_append mt_append (pv 2) (pa_cons (pv 4) pa_nil)))))))
      (pss_one (ps_ret (pv 2))))), ?_⟩
    have gn := good_n sz.2
    have gc := good_c sz.2
    refine ⟨by show 0 ≤ sizeLine; decide, fun q hq => ?_⟩
    have sne : s ≠ q := ne_of_none sz.1 hq
    have szq : ∀ o, SizeAt (upd H q o) s r c n := fun o => sz.mono (ex_new hq)
    refine ⟨_, rfl, s, _, 0, _, rfl, rfl, size_ix (szq _), rfl, r, rfl, by omega, by omega, ?_⟩
    refine for_it (walk_range (lo := 0) (n := ((r : Nat) : Int).toNat)) (fun i σ G => G = upd H q (.lst (((rowsOf r c l).take i).map tx)) ∧ ∃ v4 v5 v6 : Option V, σ = [some (.ref s), some (tx l), some (.ref q), v4, v5, v6]) ⟨rfl, none, none, none, rfl⟩ (fun _ _ _ _ _ => True.intro) ?_ ?_
    · rintro i u σ G G' hi ⟨rfl, v4, v5, v6, rfl⟩ ⟨rfl, rfl⟩
      have hi : i < r := hi
      refine ⟨_, rfl, _, rfl, for_it walk_str (fun j σ M => M = upd H q (.lst (((rowsOf r c l).take i).map tx)) ∧ ∃ v6 : Option V, σ = [some (.ref s), some (tx l), some (.ref q), some (.int (0 + (i : Nat))), some (tx ((l.take j).map fun x => (dig r c (x - 97)).getD i 0)), v6]) ⟨rfl, v6, ?_⟩ (fun _ _ _ _ _ => True.intro) ?_ ?_⟩
      · show [_, _, _, _, some (V.str (Str.ofString "")), _] = _
        rw [lit_e]
        rfl
      · rintro j u σ G G' hj ⟨rfl, v6, rfl⟩ ⟨rfl, x, hx, rfl⟩
        have hx := at_S hx
        have hin := strip_at hst hx
        have hj : j < l.length := by
          have : j < (S l).cps.size := hj
          rwa [show (S l).cps.size = l.length from S_len l] at this
        refine ⟨_, rfl, _, rfl, rfl, _, rfl, _, _, rfl, rfl, fun k hk => ?_, fun hk => ?_⟩
        · rw [S_one, idx_let gn.1 hin] at hk
          cases hk
          refine ⟨s, r, c, n, x - 97, rfl, szq _, _, rfl, _, _, (dig r c (x - 97)).getD i 0, rfl, rfl, szl (by rw [S_len, dig_len]; omega), ?_, _, _, rfl, rfl, szl (by rw [S_len]; show _ + 1 ≤ _; rw [List.length_map, List.length_take]; omega), rfl, some (tx [x]), ?_⟩
          · have e1 := atI_S (getD_at (l := dig r c (x - 97)) (i := i) (by rw [dig_len]; exact hi))
            rwa [show (0 : Int) + ((i : Nat) : Int) = ((i : Nat) : Int) by omega]
          · show [_, _, _, _, some (V.str (S _ ++ S [_])), _] = _
            rw [S_app, List.take_add_one, hx, List.map_append]
            rfl
        · rw [S_one, idx_let gn.1 hin] at hk
          cases hk
      · rintro σ G ⟨rfl, v6, rfl⟩
        rw [show (S l).cps.size = l.length from S_len l, List.take_of_length_le (Nat.le_refl _)]
        refine ⟨_, rfl, .inl ⟨rfl, _, seqL_of upd_same⟩, _, rfl, q, _, _, rfl, rfl, upd_same, ?_, ?_⟩
        · rw [List.length_map, List.length_take, rowsOf_len]
          exact szlt (by omega)
        · refine ⟨?_, _, _, _, rfl⟩
          rw [upd_upd]
          congr 2
          rw [List.take_add_one, List.map_append, rowsOf, List.getElem?_map, List.getElem?_range hi]
          rfl
    · rintro σ G ⟨rfl, v4, v5, v6, rfl⟩
      refine ⟨_, rfl, z _ _ (ex_new hq) hq ?_⟩
      rw [upd_same, List.take_of_length_le (by rw [rowsOf_len]; exact Nat.le_refl _)]
/-! ### what is due of read pictures -/
def dSeen (r c : Nat) (ls : List (List Nat)) : D := match firstBad r c ls with
  | some k => refd 4 (.int ((k + 1 : Nat) : Int))
  | none => if ls.length < r then refd 4 (.int ((ls.length + 1 : Nat) : Int)) else told (.txt (ofPic c ls))
def spSeenDue : Sp := fun vs H Q _ => ∃ (s q : Addr) (r c n : Nat) (ls : List (List Nat)), vs = [.ref s, .ref q] ∧ SizeAt H s r c n ∧ H q = some (.lst (ls.map tx)) ∧ ls.length ≤ 100 ∧ (∀ l ∈ ls, l.length ≤ 1000) ∧ ∀ G v, Same H G → Rp G (dSeen r c ls) v → Q v G
theorem c_law_seen_due (T : Txt K mg a) : Can P w K mg base 2 "_law_seen_due" spSeenDue := by
  refine can_of T.d_law_seen_due sc_law_seen_due bd_law_seen_due (fun vs H Q E h => ?_) (fun f cdv A outer s H vs Q E hr h => ?_)
  · obtain ⟨s, q, r, c, n, ls, rfl, _⟩ := h
    rfl
  · obtain ⟨s, q, r, c, n, ls, rfl, sz, hq, hl, hll, z⟩ := h
    refine ⟨_, (pss_cons (ps_for (passes_of rfl) (by rfl) (pi_range1 (by rfl) T.b_range (pa_cons (pe_callB (klen_seq K) (by rfl) T.b_len (by decide +kernel) (pa_cons (pv 1) pa_nil)) pa_nil)) (pg_name (i := 2) sc_law_seen_due.nd rfl (.inl rfl)) (pss_one (ps_if (PW.pt (pw_or (pt_cmpR op_ge (pv 2) (pe_ix (kix_tup K) (pv 0) pe_int (fun _ _ => rfl)) (nomark _)) (pw_or (pt_cmpR op_ne (pe_callB call_len_str (by rfl) T.b_len (by decide +kernel) (pa_cons (pe_ix (kix_list K) (pv 1) (pv 2) (fun _ _ => rfl)) pa_nil)) (pe_callB call_len_str (by rfl) T.b_len (by decide +kernel) (pa_cons (pe_ix (kix_list K) (pv 1) pe_int (fun _ _ => rfl)) pa_nil)) (nomark _)) (pw_or1 (pt_not (pt_val (pc_f (c_law_only T) hr (by decide) (by rfl) (pa_cons (pe_ix (kix_list K) (pv 1) (pv 2) (fun _ _ => rfl)) (pa_cons (pc_f (c_law_colours T) hr (by decide) (by rfl) (pa_cons (pv 0) pa_nil)) pa_nil))))))))) (pss_one (ps_ret (pe_tup (pa_cons pe_str (pa_cons pe_int (pa_cons (pe_op op_add (pv 2) pe_int) pa_nil)))))) pss_nil)))
      (pss_cons (ps_if (pt_cmpR op_lt (pe_callB (klen_seq K) (by rfl) T.b_len (by decide +kernel) (pa_cons (pv 1) pa_nil)) (pe_ix (kix_tup K) (pv 0) pe_int (fun _ _ => rfl)) (nomark _)) (pss_one (ps_ret (pe_tup (pa_cons pe_str (pa_cons pe_int (pa_cons (pe_op op_add (pe_callB (klen_seq K) (by rfl) T.b_len (by decide +kernel) (pa_cons (pv 1) pa_nil)) pe_int) pa_nil)))))) pss_nil)
      (pss_cons (ps_set (i := 3) sc_law_seen_due.nd rfl (.inl rfl) pe_str)
      (pss_cons (ps_for (passes_of rfl) (by rfl) (pi_range1 (by rfl) T.b_range (pa_cons (pe_callB call_len_str (by rfl) T.b_len (by decide +kernel) (pa_cons (pe_ix (kix_list K) (pv 1) pe_int (fun _ _ => rfl)) pa_nil)) pa_nil)) (pg_name (i := 4) sc_law_seen_due.nd rfl (.inr rfl)) (pss_one (ps_set (i := 3) sc_law_seen_due.nd rfl (.inl rfl) (pe_op op_add_str (pv 3) (pc_f (c_law_letter T) hr (by decide) (by rfl) (pa_cons (pv 0) (pa_cons (kjoin K pe_str (pe_lc (own := [("line", 5)]) (g := gName 5) (tt := tYes) (by rfl) sc_law_seen_due.nd (kpi_list K (pv 1)) (blkOk_by (N := N_law_seen_due) (sc := defScope s_law_seen_due) (by decide +kernel)) (fun _ _ _ _ _ => (pg_name (i := 5) sc_law_seen_due.nd rfl (.inl rfl))) (fun _ _ _ _ _ => pts_nil) (fun _ _ _ _ _ => (pe_ix ix_str (pv 5) (pv 4) (fun _ _ => rfl))))) pa_nil)))))))
      (pss_one (ps_ret (pe_tup (pa_cons pe_str (pa_cons (pv 3) pa_nil))))))))), ?_⟩
    have gn := good_n sz.2
    have gc := good_c sz.2
    have lenM : (ls.map tx).length = ls.length := List.length_map ..
    refine ⟨_, rfl, q, _, rfl, .inl (seqL_of hq), ls.length, by rw [lenM], by omega, by omega, ?_⟩
    refine for_it (walk_range (lo := 0) (n := ((ls.length : Nat) : Int).toNat)) (fun i σ G => Same H G ∧ (∀ k < i, badAt r c ls k = false) ∧ ∃ v : Option V, σ = [some (.ref s), some (.ref q), v, none, none, none]) ⟨.refl _, fun k hk => absurd hk (by omega), none, rfl⟩ (fun _ _ _ _ _ => True.intro) ?_ ?_
    · rintro i u σ G G' hi ⟨s1, hgood, v, rfl⟩ ⟨rfl, rfl⟩
      have hi : i < ls.length := hi
      have eD : ls.getD i [] = ls[i] := getD_lst (List.getElem?_eq_getElem hi)
      have h0 : (ls.map tx)[0]? = some (tx (ls.getD 0 [])) := by
        rw [List.getElem?_map, List.getElem?_eq_getElem (show 0 < ls.length by omega), getD_lst (List.getElem?_eq_getElem (show 0 < ls.length by omega))]
        rfl
      have hix : atI (ls.map tx) (0 + (i : Int)) = some (tx ls[i]) := by
        rw [show (0 : Int) + ((i : Nat) : Int) = ((i : Nat) : Int) by omega]
        exact atI_nat (by rw [List.getElem?_map, List.getElem?_eq_getElem hi]; rfl)
      have l0 : (ls.getD 0 []).length ≤ 1000 := by
        rw [getD_lst (List.getElem?_eq_getElem (show 0 < ls.length by omega))]
        exact hll _ (List.getElem_mem _)
      have li : ls[i].length ≤ 1000 := hll _ (List.getElem_mem _)
      have hwrong : ∀ M p, badAt r c ls i = true → Same H M → M p = none → Q (.ref p) (upd M p (.tup [.str (Str.ofString "refused"), .int 4, .int (0 + (i : Int) + 1)])) := by
        intro M p hb s2 hp
        refine z _ _ (s2.trans (ex_new hp)) ?_
        unfold dSeen
        rw [first_some hgood hb hi]
        have e : 0 + (i : Int) + 1 = ((i + 1 : Nat) : Int) := by omega
        rw [e]
        exact rp_refd hp rfl
      have hnext : badAt r c ls i = false → ∀ k < i + 1, badAt r c ls k = false := by
        intro hb k hk
        by_cases e : k = i
        · rw [e]
          exact hb
        · exact hgood k (by omega)
      refine ⟨_, rfl, _, rfl, s, _, 0, _, rfl, rfl, size_ix (sz.mono s1), rfl, _, _, rfl, rfl, _, rfl, ?_⟩
      refine ite2 (fun h1 => ?_) (fun h1 => ?_)
      · refine iteT ⟨_, rfl, _, _, rfl, rfl, by show 3 ≤ sizeLine; decide, fun p hp => hwrong _ p ?_ s1 hp⟩
        have := of_decide_eq_true h1
        unfold badAt
        rw [decide_eq_true (show r ≤ i by omega)]
        rfl
      · have h1 : ¬ r ≤ i := fun q => h1 (decide_eq_true (by omega))
        refine ⟨_, rfl, _, rfl, q, _, _, _, rfl, rfl, seqL_of (s1 _ _ hq), hix, _, rfl, szl (by rw [S_len]; omega), _, rfl, q, _, 0, _, rfl, rfl, seqL_of (s1 _ _ hq), atI_nat h0, _, rfl, szl (by rw [S_len]; omega), rfl, _, rfl, ?_⟩
        rw [S_len, S_len]
        refine ite2 (fun h2 => ?_) (fun h2 => ?_)
        · refine iteT ⟨_, rfl, _, _, rfl, rfl, by show 3 ≤ sizeLine; decide, fun p hp => hwrong _ p ?_ s1 hp⟩
          have h2 : ls[i].length ≠ (ls.getD 0 []).length := fun q => by
            rw [q] at h2
            exact absurd h2 (by simp)
          unfold badAt
          rw [eD, decide_eq_true h2]
          simp
        · have h2 : ls[i].length = (ls.getD 0 []).length := by
            by_cases q : (ls[i].length : Int) = ((ls.getD 0 []).length : Int)
            · omega
            · exact absurd (by simpa using q) h2
          have eb : badAt r c ls i = !(ls[i].all (inDig c)) := by
            unfold badAt
            rw [eD, decide_eq_false h1, decide_eq_false (fun q => q h2)]
            rfl
          refine ⟨_, rfl, _, rfl, q, _, _, _, rfl, rfl, seqL_of (s1 _ _ hq), hix, _, rfl, s, r, c, n, rfl, sz.mono s1, fun cq hcq => ⟨cq, ls[i], digs c, rfl, upd_same, _, rfl, ?_⟩⟩
          have e9 : ls[i].all (digs c).contains = ls[i].all (inDig c) := by
            congr 1
            funext x
            exact contains_digs c x
          rw [e9]
          have s2 := s1.trans (ex_new (o := .lst ((digs c).map fun x => tx [x])) hcq)
          cases e : ls[i].all (inDig c) with
          | false => exact ⟨_, rfl, _, _, rfl, rfl, by show 3 ≤ sizeLine; decide, fun p hp => hwrong _ p (by rw [eb, e]; rfl) s2 hp⟩
          | true => exact ⟨s2, hnext (by rw [eb, e]; rfl), _, rfl⟩
    · rintro σ G ⟨s1, hgood, v, rfl⟩
      have hgood : ∀ k < ls.length, badAt r c ls k = false := hgood
      have hnone := first_none hgood
      have z : ∀ G v, Same H G → Rp G (if ls.length < r then refd 4 (.int ((ls.length + 1 : Nat) : Int)) else told (.txt (ofPic c ls))) v → Q v G := by
        unfold dSeen at z
        rw [hnone] at z
        exact z
      refine ⟨_, rfl, q, _, rfl, .inl (seqL_of (s1 _ _ hq)), _, rfl, s, _, 0, _, rfl, rfl, size_ix (sz.mono s1), rfl, _, _, rfl, rfl, _, rfl, ?_⟩
      rw [lenM]
      refine ite2 (fun h1 => ?_) (fun h1 => ?_)
      · have h1 := of_decide_eq_true h1
        have h1 : ls.length < r := by omega
        refine ⟨_, rfl, q, _, rfl, .inl (seqL_of (s1 _ _ hq)), _, _, rfl, rfl, by show 3 ≤ sizeLine; decide, fun p hp => z _ _ (s1.trans (ex_new hp)) ?_⟩
        rw [lenM, if_pos h1]
        exact rp_refd hp rfl
      · have h1 : r ≤ ls.length := by
          by_cases q : ls.length < r
          · exact absurd (decide_eq_true (by omega)) h1
          · omega
        have h00 : 0 < ls.length := by omega
        have h0 : (ls.map tx)[0]? = some (tx (ls.getD 0 [])) := by
          rw [List.getElem?_map, List.getElem?_eq_getElem h00, getD_lst (List.getElem?_eq_getElem h00)]
          rfl
        have l0 : (ls.getD 0 []).length ≤ 1000 := by
          rw [getD_lst (List.getElem?_eq_getElem h00)]
          exact hll _ (List.getElem_mem _)
        refine ⟨_, rfl, q, _, 0, _, rfl, rfl, seqL_of (s1 _ _ hq), atI_nat h0, _, rfl, szl (by rw [S_len]; omega), (ls.getD 0 []).length, by rw [S_len], by omega, by omega, ?_⟩
        refine for_it (walk_range (lo := 0) (n := (((ls.getD 0 []).length : Nat) : Int).toNat)) (fun i σ M => Same H M ∧ ∃ v2 v4 : Option V, σ = [some (.ref s), some (.ref q), v2, some (tx ((ofPic c ls).take i)), v4, none]) ⟨s1, v, none, ?_⟩ (fun _ _ _ _ _ => True.intro) ?_ ?_
        · show [_, _, _, some (V.str (Str.ofString "")), _, _] = _
          rw [lit_e]
          rfl
        · rintro i u σ M M' hi ⟨s2, v2, v4, rfl⟩ ⟨rfl, rfl⟩
          have hi : i < (ls.getD 0 []).length := hi
          obtain ⟨hd, hlen⟩ := good_digs hgood h1 hi
          refine ⟨_, rfl, _, rfl, ⟨_, rfl⟩, _, rfl, q, rfl, ⟨_, seqL_of (s2 _ _ hq)⟩, fun D3 hD3 => ?_⟩
          refine lc_one (walk_list (xs := ls.map tx)) ((ls.map fun l => l.getD i 0).map fun x => tx [x]) (by simp) (by rw [List.length_map]; omega) hD3 (fun N2 s4 => seqL_of ((s2.trans s4) _ _ hq)) ?_ ?_
          · rintro i2 x N2 N3 v2 hi2 s4 ⟨rfl, hx⟩ hv
            refine ⟨.refl _, fun Q2 q2 => ?_⟩
            rw [List.getElem?_map] at hx
            rw [List.getElem?_map, List.getElem?_map] at hv
            rw [lenM] at hi2
            rw [List.getElem?_eq_getElem hi2] at hx hv
            cases hx
            cases hv
            have hl2 := hll ls[i2] (List.getElem_mem _)
            have e2 : ls[i2].length = (ls.getD 0 []).length := by
              have := hgood i2 hi2
              unfold badAt at this
              rw [getD_lst (List.getElem?_eq_getElem hi2)] at this
              simp only [Bool.or_eq_false_iff, decide_eq_false_iff_not] at this
              by_cases q : ls[i2].length = (ls.getD 0 []).length
              · exact q
              · exact absurd q this.1.2
            refine ⟨_, rfl, _, rfl, _, _, ls[i2].getD i 0, rfl, rfl, ?_, ?_, q2 _ (.refl _)⟩
            · rw [S_len]
              exact szl (by omega)
            · have e1 := atI_S (getD_at (l := ls[i2]) (i := i) (by omega))
              rwa [show (0 : Int) + ((i : Nat) : Int) = ((i : Nat) : Int) by omega]
          · intro N2 s4 hN2
            refine ⟨_, _, (ls.map fun l => l.getD i 0).map fun x => S [x], rfl, rfl, .inl (seqL_of (by rw [List.map_map]; exact hN2)), ?_, ?_⟩
            · rw [sum_ones, show Str.ofString "" = S [] from lit_e, S_len]
              simp
              omega
            · rw [show Str.ofString "" = S [] from lit_e, join_ones]
              refine ⟨s, r, c, n, _, rfl, sz.mono (s2.trans s4), hd, _, _, rfl, rfl, szl (by rw [S_len]; show _ + 1 ≤ _; rw [List.length_take]; omega), s2.trans s4, v2, some (.int (0 + (i : Nat))), ?_⟩
              show [_, _, _, some (V.str (S _ ++ S [_])), _, _] = _
              rw [S_app, List.take_add_one, ofPic, List.getElem?_map, List.getElem?_range hi]
              rfl
        · rintro σ M ⟨s2, v2, v4, rfl⟩
          rw [show (((ls.getD 0 []).length : Nat) : Int).toNat = (ofPic c ls).length by simp [ofPic], List.take_of_length_le (Nat.le_refl _)]
          refine ⟨_, rfl, by show 2 ≤ sizeLine; decide, fun p hp => z _ _ (s2.trans (ex_new hp)) ?_⟩
          rw [if_neg (by omega)]
          exact rp_told hp rfl
/-! ### what is due of one spot -/
def dSpot (r c n : Nat) (l : List Nat) (row at_ : Int) (co : List Nat) (painted : Bool) : D :=
  if isStrip n l = false then refd 3 (.txt l) else if ¬ (0 ≤ row ∧ row < r) then refd 5 (.int row) else if ¬ (0 ≤ at_ ∧ at_ < l.length) then refd 6 (.int at_) else
  if painted = false then told (.txt [spotAt r c l row.toNat at_.toNat]) else if isColour c co = false then refd 7 (.txt co) else told (.txt (recol r c l row.toNat at_.toNat co))
theorem inV_colour (c : Nat) (co : List Nat) : inV (tx co) ((digs c).map fun x => tx [x]) = isColour c co := by
  by_cases h : co.length = 1
  · obtain ⟨x, rfl⟩ := one_in h
    rw [inV_tx, contains_digs, isColour_one]
  · have e : isColour c co = false := by
      unfold isColour
      rw [decide_eq_false h]
      rfl
    rw [e]
    generalize digs c = ds
    induction ds with
    | nil => rfl
    | cons d ds ih =>
      show ((S [d]) == (S co) || inV (tx co) (ds.map fun x => tx [x])) = false
      rw [ih, Bool.or_false]
      exact beq_eq_false_iff_ne.mpr fun q => h (by rw [← S_inj q]; rfl)
def spSpotDue : Sp := fun vs H Q _ => ∃ (s : Addr) (r c n : Nat) (l : List Nat) (row at_ : Int) (co : List Nat) (painted : Bool), vs = [.ref s, tx l, .int row, .int at_, tx co, .bl painted] ∧ SizeAt H s r c n ∧ l.length ≤ 1000 ∧ co.length ≤ 1000 ∧ ∀ G v, Same H G → Rp G (dSpot r c n l row at_ co painted) v → Q v G
theorem c_law_spot_due (T : Txt K mg a) : Can P w K mg base 3 "_law_spot_due" spSpotDue := by
  refine can_of T.d_law_spot_due sc_law_spot_due bd_law_spot_due (fun vs H Q E h => ?_) (fun f cdv A outer s H vs Q E hr h => ?_)
  · obtain ⟨s, r, c, n, l, row, at_, co, painted, rfl, _⟩ := h
    rfl
  · obtain ⟨s, r, c, n, l, row, at_, co, painted, rfl, sz, hl, hcl, z⟩ := h
    refine ⟨_, (pss_cons (ps_if (pt_not (pt_val (pc_f (c_law_is_strip T) hr (by decide) (by rfl) (pa_cons (pv 0) (pa_cons (pv 1) pa_nil))))) (pss_one (ps_ret (pe_tup (pa_cons pe_str (pa_cons pe_int (pa_cons (pv 1) pa_nil)))))) pss_nil)
      (pss_cons (ps_if (pt_not (pt_chain op_le op_lt pe_int (pv 2) (pe_ix (kix_tup K) (pv 0) pe_int (fun _ _ => rfl)))) (pss_one (ps_ret (pe_tup (pa_cons pe_str (pa_cons pe_int (pa_cons (pv 2) pa_nil)))))) pss_nil)
      (pss_cons (ps_if (pt_not (pt_chain op_le op_lt pe_int (pv 3) (pe_callB call_len_str (by rfl) T.b_len (by decide +kernel) (pa_cons (pv 1) pa_nil)))) (pss_one (ps_ret (pe_tup (pa_cons pe_str (pa_cons pe_int (pa_cons (pv 3) pa_nil)))))) pss_nil)
      (pss_cons (ps_set (i := 6) sc_law_spot_due.nd rfl (.inl rfl) (pc_f (c_law_digits T) hr (by decide) (by rfl) (pa_cons (pv 0) (pa_cons (pe_bmS PySem.F.plainAttrs_str PySem.F.slot_str_index PySem.F.type_str_index (mt_indexX (by rfl) takes0) pe_str (pa_cons (pe_ix ix_str (pv 1) (pv 3) (fun _ _ => rfl)) pa_nil)) pa_nil))))
      (pss_cons (ps_if (pt_not (pt_val (pv 5))) (pss_one (ps_ret (pe_tup (pa_cons pe_str (pa_cons (pe_ix ix_str (pv 6) (pv 2) (fun _ _ => rfl)) pa_nil))))) pss_nil)
      (pss_cons (ps_if (pt_cmpR (knotin K) (pv 4) (pc_f (c_law_colours T) hr (by decide) (by rfl) (pa_cons (pv 0) pa_nil)) (by rfl)) (pss_one (ps_ret (pe_tup (pa_cons pe_str (pa_cons pe_int (pa_cons (pv 4) pa_nil)))))) pss_nil)
      (pss_one (ps_ret (pe_tup (pa_cons pe_str (pa_cons (pe_op op_add_str (pe_op op_add_str (pe_slice sl_str (pv 1) po_none (po_some (pv 3))) (pc_f (c_law_letter T) hr (by decide) (by rfl) (pa_cons (pv 0) (pa_cons (pe_op op_add_str (pe_op op_add_str (pe_slice sl_str (pv 6) po_none (po_some (pv 2))) (pv 4)) (pe_slice sl_str (pv 6) (po_some (pe_op op_add (pv 2) pe_int)) po_none)) pa_nil)))) (pe_slice sl_str (pv 1) (po_some (pe_op op_add (pv 3) pe_int)) po_none)) pa_nil))))))))))), ?_⟩
    have gn := good_n sz.2
    have gc := good_c sz.2
    refine ⟨_, rfl, _, rfl, s, r, c, n, l, rfl, sz, fun G s1 => ⟨_, rfl, ?_⟩⟩
    cases hst : isStrip n l with
    | false =>
      refine iteT ⟨_, rfl, by show 3 ≤ sizeLine; decide, fun p hp => z _ _ (s1.trans (ex_new hp)) ?_⟩
      unfold dSpot
      rw [if_pos hst]
      exact rp_refd hp rfl
    | true =>
      refine iteF ?_
      unfold dSpot at z
      rw [if_neg (by rw [hst]; decide)] at z
      refine ⟨_, rfl, _, _, rfl, rfl, _, rfl, ?_⟩
      by_cases h1 : 0 ≤ row ∧ row < r
      · rw [if_neg (fun q => q h1)] at z
        rw [if_pos (decide_eq_true h1.1)]
        refine ⟨_, rfl, s, _, 0, _, rfl, rfl, size_ix (sz.mono s1), rfl, _, _, rfl, rfl, _, rfl, ?_⟩
        rw [decide_eq_true h1.2]
        refine iteF ⟨_, rfl, _, _, rfl, rfl, _, rfl, ?_⟩
        by_cases h2 : 0 ≤ at_ ∧ at_ < l.length
        · rw [if_neg (fun q => q h2)] at z
          rw [if_pos (decide_eq_true h2.1)]
          refine ⟨_, rfl, _, rfl, szl (by rw [S_len]; omega), _, _, rfl, rfl, _, rfl, ?_⟩
          rw [S_len, decide_eq_true h2.2]
          have ha := getD_at (l := l) (i := at_.toNat) (by omega)
          have e0 := atI_S ha
          rw [show ((at_.toNat : Nat) : Int) = at_ by omega] at e0
          have hin := strip_at hst ha
          refine iteF ⟨_, rfl, rfl, _, rfl, _, rfl, _, _, _, rfl, rfl, szl (by rw [S_len]; omega), e0, _, _, rfl, rfl, fun k hk => ?_, fun hk => ?_⟩
          · rw [S_one, idx_let gn.1 hin] at hk
            cases hk
            refine ⟨s, r, c, n, _, rfl, sz.mono s1, _, rfl, _, rfl, ?_⟩
            cases painted with
            | false =>
              rw [if_pos rfl] at z
              have e2 := atI_S (getD_at (l := dig r c (l.getD at_.toNat 0 - 97)) (i := row.toNat) (by rw [dig_len]; omega))
              rw [show ((row.toNat : Nat) : Int) = row by omega] at e2
              refine iteT ⟨_, rfl, _, rfl, _, _, _, rfl, rfl, szl (by rw [S_len, dig_len]; omega), e2, by show 2 ≤ sizeLine; decide, fun p hp => z _ _ (s1.trans (ex_new hp)) (rp_told hp rfl)⟩
            | true =>
              rw [if_neg (by decide)] at z
              refine iteF ⟨_, rfl, _, rfl, s, r, c, n, rfl, sz.mono s1, fun cq hcq => ⟨cq, _, rfl, .inl (seqL_of upd_same), rfl, flat_tx _, _, rfl, ?_⟩⟩
              have s2 := s1.trans (ex_new (o := .lst ((digs c).map fun x => tx [x])) hcq)
              rw [if_pos rfl, inV_colour]
              cases ec : isColour c co with
              | false =>
                rw [if_pos ec] at z
                exact iteT ⟨_, rfl, by show 3 ≤ sizeLine; decide, fun p hp => z _ _ (s2.trans (ex_new hp)) (rp_refd hp rfl)⟩
              | true =>
                rw [if_neg (by rw [ec]; decide)] at z
                have dl : (dig r c (l.getD at_.toNat 0 - 97)).length = r := dig_len r c _
                have c1 := cut_take (dig r c (l.getD at_.toNat 0 - 97)) row.toNat
                have c2 := cut_drop (dig r c (l.getD at_.toNat 0 - 97)) (row.toNat + 1)
                have c3 := cut_take l at_.toNat
                have c4 := cut_drop l (at_.toNat + 1)
                rw [show ((row.toNat : Nat) : Int) = row by omega] at c1
                rw [show ((row.toNat + 1 : Nat) : Int) = row + 1 by omega] at c2
                rw [show ((at_.toNat : Nat) : Int) = at_ by omega] at c3
                rw [show ((at_.toNat + 1 : Nat) : Int) = at_ + 1 by omega] at c4
                have dd : isDigs r c (dig r c (l.getD at_.toNat 0 - 97)) = true := dig_digs (by omega)
                have hcol1 : co.length = 1 := by
                  unfold isColour at ec
                  rw [Bool.and_eq_true, decide_eq_true_iff] at ec
                  exact ec.1
                refine iteF ⟨_, rfl, _, rfl, _, rfl, _, rfl, szl (by rw [S_len]; omega), ?_⟩
                rw [c3]
                refine ⟨_, rfl, _, rfl, _, rfl, _, rfl, _, rfl, szl (by rw [S_len, dl]; omega), ?_⟩
                rw [c1]
                refine ⟨_, rfl, _, _, rfl, rfl, szl (by rw [S_len, S_len]; simp only [List.length_append, List.length_take, List.length_drop, List.length_cons, List.length_nil]; omega), ?_⟩
                rw [S_app]
                refine ⟨_, rfl, _, rfl, _, _, rfl, rfl, _, rfl, _, rfl, szl (by rw [S_len, dl]; omega), ?_⟩
                rw [c2]
                refine ⟨_, _, rfl, rfl, szl (by rw [S_len, S_len]; simp only [List.length_append, List.length_take, List.length_drop, List.length_cons, List.length_nil]; omega), ?_⟩
                rw [S_app]
                refine ⟨s, r, c, n, _, rfl, sz.mono s2, digs_put dd (by omega) ec, ?_⟩
                refine ⟨_, _, rfl, rfl, szl (by rw [S_len, S_len]; simp only [List.length_append, List.length_take, List.length_drop, List.length_cons, List.length_nil]; omega), ?_⟩
                rw [S_app]
                refine ⟨_, rfl, _, rfl, _, _, rfl, rfl, _, rfl, _, rfl, szl (by rw [S_len]; omega), ?_⟩
                rw [c4]
                refine ⟨_, _, rfl, rfl, szl (by rw [S_len, S_len]; simp only [List.length_append, List.length_take, List.length_drop, List.length_cons, List.length_nil]; omega), ?_⟩
                rw [S_app]
                exact ⟨by show 2 ≤ sizeLine; decide, fun p hp => z _ _ (s2.trans (ex_new hp)) (rp_told hp rfl)⟩
          · rw [S_one, idx_let gn.1 hin] at hk
            cases hk
        · rw [if_pos h2] at z
          have fin : ∀ p, G p = none → Q (.ref p) (upd G p (.tup [.str (Str.ofString "refused"), .int 6, .int at_])) := fun p hp => z _ _ (s1.trans (ex_new hp)) (rp_refd hp rfl)
          refine ite2 (fun h3 => ?_) (fun h3 => ?_)
          · have h3 := of_decide_eq_true h3
            refine ⟨_, rfl, _, rfl, szl (by rw [S_len]; omega), _, _, rfl, rfl, _, rfl, ?_⟩
            rw [S_len, decide_eq_false fun q => h2 ⟨h3, q⟩]
            exact iteT ⟨_, rfl, by show 3 ≤ sizeLine; decide, fin⟩
          · exact ⟨_, rfl, iteT ⟨_, rfl, by show 3 ≤ sizeLine; decide, fin⟩⟩
      · rw [if_pos h1] at z
        have fin : ∀ p, G p = none → Q (.ref p) (upd G p (.tup [.str (Str.ofString "refused"), .int 5, .int row])) := fun p hp => z _ _ (s1.trans (ex_new hp)) (rp_refd hp rfl)
        refine ite2 (fun h3 => ?_) (fun h3 => ?_)
        · have h3 := of_decide_eq_true h3
          refine ⟨_, rfl, s, _, 0, _, rfl, rfl, size_ix (sz.mono s1), rfl, _, _, rfl, rfl, _, rfl, ?_⟩
          rw [decide_eq_false fun q => h1 ⟨h3, q⟩]
          exact iteT ⟨_, rfl, by show 3 ≤ sizeLine; decide, fin⟩
        · exact ⟨_, rfl, iteT ⟨_, rfl, by show 3 ≤ sizeLine; decide, fin⟩⟩
end
end K00

end
section
set_option Elab.async false
set_option linter.all false
set_option maxRecDepth 100000
set_option maxHeartbeats 4000000
namespace K00
open PySem PySem.Spec PyProof.Rows L2 Kit
section
variable {P : Program} {w : World} {K : PySem.W.Frag} {mg : Str → Option Value} {base : Heap} {a : Ad}
mutual
def deep : D → Nat
  | .lst ds => deeps ds + 1
  | .tup ds => deeps ds + 1
  | _ => 0
def deeps : List D → Nat
  | [] => 0
  | d :: ds => max (deep d) (deeps ds)
end
theorem deeps_at : ∀ {ds : List D} {i : Nat} {d : D}, ds[i]? = some d → deep d ≤ deeps ds
  | [], _, _, h => by simp at h
  | d :: ds, 0, e, h => by
    simp at h
    subst h
    unfold deeps
    omega
  | d :: ds, i + 1, e, h => by
    have := deeps_at (ds := ds) (i := i) (d := e) (by simpa using h)
    unfold deeps
    omega
mutual
def big : D → Nat
  | .lst ds => max ds.length (bigs ds)
  | .tup ds => max ds.length (bigs ds)
  | _ => 0
def bigs : List D → Nat
  | [] => 0
  | d :: ds => max (big d) (bigs ds)
end
theorem bigs_at : ∀ {ds : List D} {i : Nat} {d : D}, ds[i]? = some d → big d ≤ bigs ds
  | [], _, _, h => by simp at h
  | d :: ds, 0, e, h => by
    simp at h
    subst h
    unfold bigs
    omega
  | d :: ds, i + 1, e, h => by
    have := bigs_at (ds := ds) (i := i) (d := e) (by simpa using h)
    unfold bigs
    omega
def spAlike : Nat → Sp := fun k vs H Q _ => ∃ (x y : V) (d : D), vs = [x, y] ∧ Rp H d x ∧ Rp H d y ∧ deep d < k ∧ big d ≤ 10000 ∧ Q (.bl true) H
theorem eq_refl_int (i : Int) : decide ((V.int i) = V.int i) = true := decide_eq_true rfl
theorem alike_step (T : Txt K mg a) {k : Nat} (ih : Can P w K mg base k "_law_alike" (spAlike k)) : Can P w K mg base (k + 1) "_law_alike" (spAlike (k + 1)) := by
  refine can_of T.d_law_alike sc_law_alike bd_law_alike (fun vs H Q E h => ?_) (fun f cdv A outer s H vs Q E hr h => ?_)
  · obtain ⟨x, y, d, rfl, _⟩ := h
    rfl
  · obtain ⟨x, y, d, rfl, hx, hy, hd, hb, z⟩ := h
    refine ⟨_, (pss_cons (ps_if (pt_cmpR op_isN (pv 1) pe_non (nomark _)) (pss_one (ps_ret (pe_cmpR op_isN (pv 0) pe_non (nomark _)))) pss_nil)
      (pss_cons (ps_if (pt_val (pe_callB (kisi K) (by rfl) T.b_isinstance (by decide +kernel) (pa_cons (pv 1) (pa_cons (pe_bltn (v := .ty "bool") (by rfl) T.b_bool (by decide +kernel) rfl) pa_nil)))) (pss_one (ps_ret (pe_and (pe_callB (kisi K) (by rfl) T.b_isinstance (by decide +kernel) (pa_cons (pv 0) (pa_cons (pe_bltn (v := .ty "bool") (by rfl) T.b_bool (by decide +kernel) rfl) pa_nil))) (pe_one (pe_cmpR op_eq (pv 0) (pv 1) (nomark _)))))) pss_nil)
      (pss_cons (ps_if (pt_val (pe_callB (kisi K) (by rfl) T.b_isinstance (by decide +kernel) (pa_cons (pv 1) (pa_cons (pe_bltn (v := .ty "int") (by rfl) T.b_int (by decide +kernel) rfl) pa_nil)))) (pss_one (ps_ret (pe_and (pe_callB (kisi K) (by rfl) T.b_isinstance (by decide +kernel) (pa_cons (pv 0) (pa_cons (pe_bltn (v := .ty "int") (by rfl) T.b_int (by decide +kernel) rfl) pa_nil))) (pe_and (pe_not (pe_callB (kisi K) (by rfl) T.b_isinstance (by decide +kernel) (pa_cons (pv 0) (pa_cons (pe_bltn (v := .ty "bool") (by rfl) T.b_bool (by decide +kernel) rfl) pa_nil)))) (pe_one (pe_cmpR op_eq (pv 0) (pv 1) (nomark _))))))) pss_nil)
      (pss_cons (ps_if (pt_val (pe_callB (kisi K) (by rfl) T.b_isinstance (by decide +kernel) (pa_cons (pv 1) (pa_cons (pe_bltn (v := .ty "str") (by rfl) T.b_str (by decide +kernel) rfl) pa_nil)))) (pss_one (ps_ret (pe_and (pe_callB (kisi K) (by rfl) T.b_isinstance (by decide +kernel) (pa_cons (pv 0) (pa_cons (pe_bltn (v := .ty "str") (by rfl) T.b_str (by decide +kernel) rfl) pa_nil))) (pe_one (pe_cmpR op_eq (pv 0) (pv 1) (nomark _)))))) pss_nil)
      (pss_cons (ps_if (PW.pt (pw_and (pt_val (pe_callB (kisi K) (by rfl) T.b_isinstance (by decide +kernel) (pa_cons (pv 1) (pa_cons (pe_bltn (v := .ty "tuple") (by rfl) T.b_tuple (by decide +kernel) rfl) pa_nil)))) (pw_and1 (pt_not (pt_val (pe_callB (kisi K) (by rfl) T.b_isinstance (by decide +kernel) (pa_cons (pv 0) (pa_cons (pe_bltn (v := .ty "tuple") (by rfl) T.b_tuple (by decide +kernel) rfl) pa_nil)))))))) (pss_one (ps_ret pe_bl)) pss_nil)
      (pss_cons (ps_if (PW.pt (pw_and (pt_val (pe_callB (kisi K) (by rfl) T.b_isinstance (by decide +kernel) (pa_cons (pv 1) (pa_cons (pe_bltn (v := .ty "list") (by rfl) T.b_list (by decide +kernel) rfl) pa_nil)))) (pw_and1 (pt_not (pt_val (pe_callB (kisi K) (by rfl) T.b_isinstance (by decide +kernel) (pa_cons (pv 0) (pa_cons (pe_bltn (v := .ty "list") (by rfl) T.b_list (by decide +kernel) rfl) pa_nil)))))))) (pss_one (ps_ret pe_bl)) pss_nil)
      (pss_cons (ps_if (pt_cmpR op_ne (pe_callB (klen K) (by rfl) T.b_len (by decide +kernel) (pa_cons (pv 0) pa_nil)) (pe_callB (klen K) (by rfl) T.b_len (by decide +kernel) (pa_cons (pv 1) pa_nil)) (nomark _)) (pss_one (ps_ret pe_bl)) pss_nil)
      (pss_cons (ps_for (passes_of rfl) (by rfl) (pi_range1 (by rfl) T.b_range (pa_cons (pe_callB (klen K) (by rfl) T.b_len (by decide +kernel) (pa_cons (pv 1) pa_nil)) pa_nil)) (pg_name (i := 2) sc_law_alike.nd rfl (.inl rfl)) (pss_one (ps_if (pt_not (pt_val (pc_f ih hr (Nat.le_refl _) (by rfl) (pa_cons (pe_ix (kix_seq K) (pv 0) (pv 2) (fun _ _ => rfl)) (pa_cons (pe_ix (kix_seq K) (pv 1) (pv 2) (fun _ _ => rfl)) pa_nil))))) (pss_one (ps_ret pe_bl)) pss_nil)))
      (pss_one (ps_ret pe_bl)))))))))), ?_⟩
    cases d with
    | non =>
      cases hx
      cases hy
      exact ⟨_, rfl, rfl, _, rfl, iteT ⟨_, rfl, rfl, z⟩⟩
    | bl b =>
      cases hx
      cases hy
      refine ⟨_, rfl, rfl, _, rfl, iteF ?_⟩
      refine ⟨_, rfl, _, _, _, _, true, rfl, .ty _, .base (.bl b), rfl, _, rfl, iteT ?_⟩
      refine ⟨_, rfl, _, _, _, _, true, rfl, .ty _, .base (.bl b), rfl, _, rfl, iteT ⟨_, rfl, _, rfl, rfl, ?_⟩⟩
      rw [decide_eq_true rfl]
      exact z
    | int i =>
      cases hx
      cases hy
      refine ⟨_, rfl, rfl, _, rfl, iteF ?_⟩
      refine ⟨_, rfl, _, _, _, _, false, rfl, .ty _, .base (.int i), rfl, _, rfl, iteF ?_⟩
      refine ⟨_, rfl, _, _, _, _, true, rfl, .ty _, .base (.int i), rfl, _, rfl, iteT ?_⟩
      refine ⟨_, rfl, _, _, _, _, true, rfl, .ty _, .base (.int i), rfl, _, rfl, iteT ?_⟩
      refine ⟨_, rfl, _, _, _, _, false, rfl, .ty _, .base (.int i), rfl, _, rfl, _, rfl, iteT ⟨_, rfl, _, rfl, rfl, ?_⟩⟩
      rw [decide_eq_true rfl]
      exact z
    | txt l =>
      cases hx
      cases hy
      refine ⟨_, rfl, rfl, _, rfl, iteF ?_⟩
      refine ⟨_, rfl, _, _, _, _, false, rfl, .ty _, .base (.str _), rfl, _, rfl, iteF ?_⟩
      refine ⟨_, rfl, _, _, _, _, false, rfl, .ty _, .base (.str _), rfl, _, rfl, iteF ?_⟩
      refine ⟨_, rfl, _, _, _, _, true, rfl, .ty _, .base (.str _), rfl, _, rfl, iteT ?_⟩
      refine ⟨_, rfl, _, _, _, _, true, rfl, .ty _, .base (.str _), rfl, _, rfl, iteT ⟨_, rfl, _, rfl, rfl, ?_⟩⟩
      rw [decide_eq_true rfl]
      exact z
    | lst ds =>
      obtain ⟨p, vs, rfl, hp, hvs⟩ := hx
      obtain ⟨q, us, rfl, hq, hus⟩ := hy
      have hd : deeps ds < k := by
        unfold deep at hd
        omega
      have hb : ds.length ≤ 10000 ∧ bigs ds ≤ 10000 := by
        unfold big at hb
        omega
      have lv := hvs.len
      have lu := hus.len
      refine ⟨_, rfl, rfl, _, rfl, iteF ?_⟩
      refine ⟨_, rfl, _, _, _, _, false, rfl, .ty _, .base (.lst hq), rfl, _, rfl, iteF ?_⟩
      refine ⟨_, rfl, _, _, _, _, false, rfl, .ty _, .base (.lst hq), rfl, _, rfl, iteF ?_⟩
      refine ⟨_, rfl, _, _, _, _, false, rfl, .ty _, .base (.lst hq), rfl, _, rfl, iteF ?_⟩
      refine ⟨_, rfl, _, _, _, _, false, rfl, .ty _, .base (.lst hq), rfl, _, rfl, iteF ?_⟩
      refine ⟨_, rfl, _, _, _, _, true, rfl, .ty _, .base (.lst hq), rfl, _, rfl, iteT ?_⟩
      refine ⟨_, rfl, _, _, _, _, true, rfl, .ty _, .base (.lst hp), rfl, _, rfl, iteF ?_⟩
      refine ⟨_, rfl, _, vs.length, rfl, .inl ⟨vs, seqL_of hp, rfl⟩, _, rfl, _, us.length, rfl, .inl ⟨us, seqL_of hq, rfl⟩, rfl, _, rfl, ?_⟩
      rw [lv, lu, decide_eq_true rfl]
      refine iteF ?_
      refine ⟨_, rfl, _, ds.length, rfl, .inl ⟨us, seqL_of hq, lu.symm⟩, ds.length, rfl, by omega, by omega, ?_⟩
      refine for_it (walk_range (lo := 0) (n := ((ds.length : Nat) : Int).toNat)) (fun i σ G => G = H ∧ ∃ v : Option V, σ = [some (.ref p), some (.ref q), v]) ⟨rfl, none, rfl⟩ (fun _ _ _ _ _ => True.intro) ?_ ?_
      · rintro i u σ G G' hi ⟨rfl, v, rfl⟩ ⟨rfl, rfl⟩
        have hi : i < ds.length := hi
        obtain ⟨x, ex, rx⟩ := Rps.at i ds[i] hvs (List.getElem?_eq_getElem hi)
        obtain ⟨y, ey, ry⟩ := Rps.at i ds[i] hus (List.getElem?_eq_getElem hi)
        have fx : atI vs (0 + (i : Int)) = some x := by
          rw [show (0 : Int) + ((i : Nat) : Int) = ((i : Nat) : Int) by omega]
          exact atI_nat ex
        have fy : atI us (0 + (i : Int)) = some y := by
          rw [show (0 : Int) + ((i : Nat) : Int) = ((i : Nat) : Int) by omega]
          exact atI_nat ey
        have d1 := deeps_at (List.getElem?_eq_getElem hi)
        have d2 := bigs_at (List.getElem?_eq_getElem hi)
        exact ⟨_, rfl, _, rfl, .inl ⟨p, vs, _, x, rfl, rfl, seqL_of hp, fx, _, rfl, _, rfl, .inl ⟨q, us, _, y, rfl, rfl, seqL_of hq, fy, x, y, ds[i], rfl, rx, ry, by omega, by omega, _, rfl, iteF ⟨rfl, _, rfl⟩⟩⟩⟩
      · rintro σ G ⟨rfl, v, rfl⟩
        exact z
    | tup ds =>
      obtain ⟨p, vs, rfl, hp, hvs⟩ := hx
      obtain ⟨q, us, rfl, hq, hus⟩ := hy
      have hd : deeps ds < k := by
        unfold deep at hd
        omega
      have hb : ds.length ≤ 10000 ∧ bigs ds ≤ 10000 := by
        unfold big at hb
        omega
      have lv := hvs.len
      have lu := hus.len
      refine ⟨_, rfl, rfl, _, rfl, iteF ?_⟩
      refine ⟨_, rfl, _, _, _, _, false, rfl, .ty _, .base (.tup hq), rfl, _, rfl, iteF ?_⟩
      refine ⟨_, rfl, _, _, _, _, false, rfl, .ty _, .base (.tup hq), rfl, _, rfl, iteF ?_⟩
      refine ⟨_, rfl, _, _, _, _, false, rfl, .ty _, .base (.tup hq), rfl, _, rfl, iteF ?_⟩
      refine ⟨_, rfl, _, _, _, _, true, rfl, .ty _, .base (.tup hq), rfl, _, rfl, iteT ?_⟩
      refine ⟨_, rfl, _, _, _, _, true, rfl, .ty _, .base (.tup hp), rfl, _, rfl, iteF ?_⟩
      refine ⟨_, rfl, _, _, _, _, false, rfl, .ty _, .base (.tup hq), rfl, _, rfl, iteF ?_⟩
      refine ⟨_, rfl, _, vs.length, rfl, .inr ⟨vs, seqT_of hp, rfl⟩, _, rfl, _, us.length, rfl, .inr ⟨us, seqT_of hq, rfl⟩, rfl, _, rfl, ?_⟩
      rw [lv, lu, decide_eq_true rfl]
      refine iteF ?_
      refine ⟨_, rfl, _, ds.length, rfl, .inr ⟨us, seqT_of hq, lu.symm⟩, ds.length, rfl, by omega, by omega, ?_⟩
      refine for_it (walk_range (lo := 0) (n := ((ds.length : Nat) : Int).toNat)) (fun i σ G => G = H ∧ ∃ v : Option V, σ = [some (.ref p), some (.ref q), v]) ⟨rfl, none, rfl⟩ (fun _ _ _ _ _ => True.intro) ?_ ?_
      · rintro i u σ G G' hi ⟨rfl, v, rfl⟩ ⟨rfl, rfl⟩
        have hi : i < ds.length := hi
        obtain ⟨x, ex, rx⟩ := Rps.at i ds[i] hvs (List.getElem?_eq_getElem hi)
        obtain ⟨y, ey, ry⟩ := Rps.at i ds[i] hus (List.getElem?_eq_getElem hi)
        have fx : atI vs (0 + (i : Int)) = some x := by
          rw [show (0 : Int) + ((i : Nat) : Int) = ((i : Nat) : Int) by omega]
          exact atI_nat ex
        have fy : atI us (0 + (i : Int)) = some y := by
          rw [show (0 : Int) + ((i : Nat) : Int) = ((i : Nat) : Int) by omega]
          exact atI_nat ey
        have d1 := deeps_at (List.getElem?_eq_getElem hi)
        have d2 := bigs_at (List.getElem?_eq_getElem hi)
        exact ⟨_, rfl, _, rfl, .inr (.inl ⟨p, vs, _, x, rfl, rfl, seqT_of hp, fx, _, rfl, _, rfl, .inr (.inl ⟨q, us, _, y, rfl, rfl, seqT_of hq, fy, x, y, ds[i], rfl, rx, ry, by omega, by omega, _, rfl, iteF ⟨rfl, _, rfl⟩⟩)⟩)⟩
      · rintro σ G ⟨rfl, v, rfl⟩
        exact z
theorem alike_0 (T : Txt K mg a) : Can P w K mg base 0 "_law_alike" (spAlike 0) := by
  obtain ⟨f, fd, F, g⟩ := T.d_law_alike.ex
  refine ⟨f, fd, P_law_alike, ⟨fun vs H Q E h => ?_, fun _ _ _ _ _ _ _ _ _ _ _ _ _ h => ?_⟩, g, F.kp, F.binds bd_law_alike⟩
  · obtain ⟨x, y, d, rfl, _⟩ := h
    rfl
  · obtain ⟨_, _, _, _, _, _, h, _⟩ := h
    omega
theorem alike_n (T : Txt K mg a) : ∀ k, Can P w K mg base k "_law_alike" (spAlike k)
  | 0 => alike_0 T
  | k + 1 => alike_step T (alike_n T k)
theorem c_law_alike (T : Txt K mg a) : Can P w K mg base 4 "_law_alike" (spAlike 4) := alike_n T 4
end
end K00

end
section
set_option Elab.async false
set_option linter.all false
set_option maxRecDepth 100000
set_option maxHeartbeats 4000000
namespace K00
open PySem PySem.Spec PyProof.Rows L2 Kit
section
variable {P : Program} {w : World} {K : PySem.W.Frag} {mg : Str → Option Value} {base : Heap} {a : Ad}
def eFld : Nat → Str
  | 0 => "part"
  | 1 => "text"
  | 2 => "text"
  | 3 => "text"
  | 4 => "line"
  | 5 => "row"
  | 6 => "at"
  | _ => "colour"
theorem errC (T : Txt K mg a) : ∀ i < 8, ErrC K (eAd a i) := by
  intro i hi
  match i, hi with
  | 0, _ => exact T.x_BadScheme
  | 1, _ => exact T.x_BadColumn
  | 2, _ => exact T.x_BadSpots
  | 3, _ => exact T.x_BadStrip
  | 4, _ => exact T.x_BadPicture
  | 5, _ => exact T.x_BadRow
  | 6, _ => exact T.x_BadIndex
  | 7, _ => exact T.x_BadColour
theorem errF (T : Txt K mg a) : ∀ i < 8, PySem.W.findIn K (.ref (eAd a i)) (eFld i) = some none := by
  intro i hi
  match i, hi with
  | 0, _ => exact T.e_BadScheme.noF
  | 1, _ => exact T.e_BadColumn.noF
  | 2, _ => exact T.e_BadSpots.noF
  | 3, _ => exact T.e_BadStrip.noF
  | 4, _ => exact T.e_BadPicture.noF
  | 5, _ => exact T.e_BadRow.noF
  | 6, _ => exact T.e_BadIndex.noF
  | 7, _ => exact T.e_BadColour.noF
theorem itP {c : Prop} [Decidable c] {A B : Prop} (h : c) (x : A) : if c then A else B := by
  rw [if_pos h]
  exact x
theorem itN {c : Prop} [Decidable c] {A B : Prop} (h : ¬ c) (x : B) : if c then A else B := by
  rw [if_neg h]
  exact x
theorem look1 (f : Str) (y : V) : [(f, y)].lookup f = some y := by
  rw [List.lookup_cons, beq_self_eq_true]
def L8 (i : Nat) : List V := [.bl (decide (i = 0)), .bl (decide (i = 1)), .bl (decide (i = 2)), .bl (decide (i = 3)), .bl (decide (i = 4)), .bl (decide (i = 5)), .bl (decide (i = 6)), .bl (decide (i = 7))]
theorem L8_count : ∀ i < 8, (L8 i).countP (fun z => eqV z (.bl true)) = 1 := by decide
theorem L8_at : ∀ i < 8, (L8 i)[i]? = some (.bl true) := by decide
theorem L8_first : ∀ i < 8, ∀ m < i, (L8 i)[m]? = some (.bl false) := by decide
def spRef (A : Ad) : SpE := fun a cls d vs H Q E => ∃ (i : Nat) (dd : Addr) (y : V) (dy : D), i < 8 ∧ vs = [.ref a] ∧ cls = .ref (eAd A i) ∧ d = some dd ∧ H dd = some (.xd [(eFld i, y)]) ∧ Rp H dy y ∧ ∀ G v, Same H G → Rp G (refd i dy) v → Q v G
theorem c_law_refusal (T : Txt K mg a) : CanS P w K mg base 1 "_law_refusal" (spRef a) := by
  refine canS_of T.d_law_refusal sc_law_refusal bd_law_refusal (fun a cls d vs H Q E h => ?_) (fun f cdv A outer s H vs Q E p cls d hr hz hf h => ?_)
  · obtain ⟨i, dd, y, dy, _, rfl, _⟩ := h
    rfl
  · obtain ⟨i, dd, y, dy, hi, rfl, rfl, rfl, hd, ry, z⟩ := h
    have hp : (p.1, p.2) ∈ (cxE P w K mg base N_law_refusal "_law_refusal" s_law_refusal f cdv A outer s H E p).pn := List.mem_cons_self
    refine ⟨_, (pss_cons (ps_set (i := 1) sc_law_refusal.nd rfl (.inl rfl) (pe_lst (pa_cons (pe_callB (call_isP hp hz hf) (by rfl) T.b_isinstance (by decide +kernel) (pa_cons (pv 0) (pa_cons (pe_glob (v := .ref a.BadScheme) (by rfl) T.e_BadScheme.gC rfl) pa_nil))) (pa_cons (pe_callB (call_isP hp hz hf) (by rfl) T.b_isinstance (by decide +kernel) (pa_cons (pv 0) (pa_cons (pe_glob (v := .ref a.BadColumn) (by rfl) T.e_BadColumn.gC rfl) pa_nil))) (pa_cons (pe_callB (call_isP hp hz hf) (by rfl) T.b_isinstance (by decide +kernel) (pa_cons (pv 0) (pa_cons (pe_glob (v := .ref a.BadSpots) (by rfl) T.e_BadSpots.gC rfl) pa_nil))) (pa_cons (pe_callB (call_isP hp hz hf) (by rfl) T.b_isinstance (by decide +kernel) (pa_cons (pv 0) (pa_cons (pe_glob (v := .ref a.BadStrip) (by rfl) T.e_BadStrip.gC rfl) pa_nil))) pa_nil))))))
      (pss_cons (ps_set (i := 1) sc_law_refusal.nd rfl (.inl rfl) (pe_op op_cat (pv 1) (pe_lst (pa_cons (pe_callB (call_isP hp hz hf) (by rfl) T.b_isinstance (by decide +kernel) (pa_cons (pv 0) (pa_cons (pe_glob (v := .ref a.BadPicture) (by rfl) T.e_BadPicture.gC rfl) pa_nil))) (pa_cons (pe_callB (call_isP hp hz hf) (by rfl) T.b_isinstance (by decide +kernel) (pa_cons (pv 0) (pa_cons (pe_glob (v := .ref a.BadRow) (by rfl) T.e_BadRow.gC rfl) pa_nil))) (pa_cons (pe_callB (call_isP hp hz hf) (by rfl) T.b_isinstance (by decide +kernel) (pa_cons (pv 0) (pa_cons (pe_glob (v := .ref a.BadIndex) (by rfl) T.e_BadIndex.gC rfl) pa_nil))) pa_nil))))))
      (pss_cons (ps_set (i := 1) sc_law_refusal.nd rfl (.inl rfl) (pe_op op_cat (pv 1) (pe_lst (pa_cons (pe_callB (call_isP hp hz hf) (by rfl) T.b_isinstance (by decide +kernel) (pa_cons (pv 0) (pa_cons (pe_glob (v := .ref a.BadColour) (by rfl) T.e_BadColour.gC rfl) pa_nil))) pa_nil))))
      (pss_cons (ps_if (PW.pt (pw_or (pt_cmpR op_ne (pe_bm PySem.F.plainAttrs_list PySem.F.slot_list_count PySem.F.type_list_count mt_countF (pv 1) (pa_cons pe_bl pa_nil)) pe_int (nomark _)) (pw_or1 (pt_not (pt_val (pe_callB (call_isP hp hz hf) (by rfl) T.b_isinstance (by decide +kernel) (pa_cons (pv 0) (pa_cons (pe_bltn (v := .ty "ValueError") (by rfl) T.b_ValueError (by decide +kernel) rfl) pa_nil)))))))) (pss_one (ps_ret (pe_tup (pa_cons pe_str (pa_cons (pe_un un_neg pe_int) (pa_cons pe_str pa_nil)))))) pss_nil)
      (pss_cons (ps_set (i := 2) sc_law_refusal.nd rfl (.inl rfl) (pe_bm PySem.F.plainAttrs_list PySem.F.slot_list_index PySem.F.type_list_index mt_index (pv 1) (pa_cons pe_bl pa_nil)))
      (pss_cons (ps_if (pt_cmpR op_eq (pv 2) pe_int (nomark _)) (pss_one (ps_ret (pe_tup (pa_cons pe_str (pa_cons pe_int (pa_cons (pe_xp hp hz hf (pv 0)) pa_nil)))))) pss_nil)
      (pss_cons (ps_if (pt_cmpR op_le (pv 2) pe_int (nomark _)) (pss_one (ps_ret (pe_tup (pa_cons pe_str (pa_cons (pv 2) (pa_cons (pe_xp hp hz hf (pv 0)) pa_nil)))))) pss_nil)
      (pss_cons (ps_if (pt_cmpR op_eq (pv 2) pe_int (nomark _)) (pss_one (ps_ret (pe_tup (pa_cons pe_str (pa_cons pe_int (pa_cons (pe_xp hp hz hf (pv 0)) pa_nil)))))) pss_nil)
      (pss_cons (ps_if (pt_cmpR op_eq (pv 2) pe_int (nomark _)) (pss_one (ps_ret (pe_tup (pa_cons pe_str (pa_cons pe_int (pa_cons (pe_xp hp hz hf (pv 0)) pa_nil)))))) pss_nil)
      (pss_cons (ps_if (pt_cmpR op_eq (pv 2) pe_int (nomark _)) (pss_one (ps_ret (pe_tup (pa_cons pe_str (pa_cons pe_int (pa_cons (pe_xp hp hz hf (pv 0)) pa_nil)))))) pss_nil)
      (pss_one (ps_ret (pe_tup (pa_cons pe_str (pa_cons pe_int (pa_cons (pe_xp hp hz hf (pv 0)) pa_nil)))))))))))))))), ?_⟩
    have hC := errC T i hi
    have hn := errF T i hi
    have xd : ∀ {G : Hp}, G dd = some (.xd [(eFld i, y)]) → XdOk (some dd) G := fun h _ e => ⟨_, (Option.some.inj e) ▸ h⟩
    have kkk : ∀ j, j < 8 → PySem.W.kitOne K (.ref (eAd a i)) (.ref (eAd a j)) = some (decide (i = j)) := T.kk_e i hi
    refine ⟨_, rfl, eAd a i, _, _, decide (i = 0), rfl, hC, xd hd, rfl, fun _ r => r, kkk 0 (by decide), ⟨_, rfl, eAd a i, _, _, decide (i = 1), rfl, hC, xd hd, rfl, fun _ r => r, kkk 1 (by decide), ⟨_, rfl, eAd a i, _, _, decide (i = 2), rfl, hC, xd hd, rfl, fun _ r => r, kkk 2 (by decide), ⟨_, rfl, eAd a i, _, _, decide (i = 3), rfl, hC, xd hd, rfl, fun _ r => r, kkk 3 (by decide), ⟨by show 4 ≤ sizeLine; decide, fun m1 h1 => ?_⟩⟩⟩⟩⟩
    have s1 : Same H (upd H m1 (.lst [.bl (decide (i = 0)), .bl (decide (i = 1)), .bl (decide (i = 2)), .bl (decide (i = 3))])) := ex_new h1
    have hd1 := s1 _ _ hd
    refine ⟨_, rfl, _, rfl, eAd a i, _, _, decide (i = 4), rfl, hC, xd hd1, rfl, fun _ r => r, kkk 4 (by decide), ⟨_, rfl, eAd a i, _, _, decide (i = 5), rfl, hC, xd hd1, rfl, fun _ r => r, kkk 5 (by decide), ⟨_, rfl, eAd a i, _, _, decide (i = 6), rfl, hC, xd hd1, rfl, fun _ r => r, kkk 6 (by decide), ⟨by show 3 ≤ sizeLine; decide, fun m2 h2 => ?_⟩⟩⟩⟩
    have s2 := ex_new (o := .lst [.bl (decide (i = 4)), .bl (decide (i = 5)), .bl (decide (i = 6))]) h2
    refine ⟨m1, m2, _, _, rfl, rfl, s2 _ _ upd_same, upd_same, by show 4 + 3 ≤ sizeLine; decide, fun m3 h3 => ?_⟩
    have s3 := ex_new (o := .lst [.bl (decide (i = 0)), .bl (decide (i = 1)), .bl (decide (i = 2)), .bl (decide (i = 3)), .bl (decide (i = 4)), .bl (decide (i = 5)), .bl (decide (i = 6))]) h3
    have t3 := s1.trans (s2.trans s3)
    have hd3 := t3 _ _ hd
    refine ⟨_, rfl, _, rfl, eAd a i, _, _, decide (i = 7), rfl, hC, xd hd3, rfl, fun _ r => r, kkk 7 (by decide), ⟨by show 1 ≤ sizeLine; decide, fun m4 h4 => ?_⟩⟩
    have s4 := ex_new (o := .lst [.bl (decide (i = 7))]) h4
    refine ⟨m3, m4, _, _, rfl, rfl, s4 _ _ upd_same, upd_same, by show 7 + 1 ≤ sizeLine; decide, fun m5 h5 => ?_⟩
    have s5 := ex_new (o := .lst [.bl (decide (i = 0)), .bl (decide (i = 1)), .bl (decide (i = 2)), .bl (decide (i = 3)), .bl (decide (i = 4)), .bl (decide (i = 5)), .bl (decide (i = 6)), .bl (decide (i = 7))]) h5
    have t5 := t3.trans (s4.trans s5)
    have hd5 := t5 _ _ hd
    refine ⟨_, rfl, .inl ⟨rfl, _, seqL_of upd_same⟩, m5, _, .bl true, rfl, rfl, seqL_of upd_same, rfl, rfl, ?_⟩
    have hm : ∀ {o : HO} {G : Hp}, SqL K (upd G m5 (.lst (L8 i))) m5 (L8 i) := seqL_of upd_same
    refine ⟨rfl, _, rfl, ?_⟩
    refine ite2 (fun h => ?_) (fun _ => ?_)
    · have h : (!decide (V.int (((L8 i).countP fun z => eqV z (.bl true) : Nat) : Int) = V.int 1)) = true := h
      rw [L8_count i hi] at h
      exact absurd h (by decide)
    refine ⟨_, rfl, eAd a i, _, _, true, rfl, hC, xd hd5, rfl, fun _ r => r, T.kv_e i hi, _, rfl, ?_⟩
    refine iteF ?_
    refine ⟨_, rfl, .inl ⟨rfl, _, seqL_of upd_same⟩, m5, L8 i, .bl true, i, .bl true, rfl, rfl, seqL_of upd_same, rfl, rfl, L8_at i hi, rfl, fun m z' hm e => ?_, ?_⟩
    · rw [L8_first i hi m hm] at e
      cases e
      rfl
    refine ⟨_, rfl, rfl, _, rfl, ?_⟩
    match i, hi with
    | 0, _ =>
      refine itP (by decide) ⟨_, rfl, _, dd, _, y, rfl, rfl, hC.xf, hn, rfl, hd5, look1 _ y, by show 3 ≤ sizeLine; decide, fun q hq => z _ _ (t5.trans (ex_new hq)) (rp_refd hq (ry.mono t5))⟩
    | 1, _ =>
      refine itN (by decide) ⟨_, rfl, _, _, rfl, rfl, _, rfl, itP (by decide) ⟨_, rfl, _, rfl, _, dd, _, y, rfl, rfl, hC.xf, hn, rfl, hd5, look1 _ y, by show 3 ≤ sizeLine; decide, fun q hq => z _ _ (t5.trans (ex_new hq)) (rp_refd hq (ry.mono t5))⟩⟩
    | 2, _ =>
      refine itN (by decide) ⟨_, rfl, _, _, rfl, rfl, _, rfl, itP (by decide) ⟨_, rfl, _, rfl, _, dd, _, y, rfl, rfl, hC.xf, hn, rfl, hd5, look1 _ y, by show 3 ≤ sizeLine; decide, fun q hq => z _ _ (t5.trans (ex_new hq)) (rp_refd hq (ry.mono t5))⟩⟩
    | 3, _ =>
      refine itN (by decide) ⟨_, rfl, _, _, rfl, rfl, _, rfl, itP (by decide) ⟨_, rfl, _, rfl, _, dd, _, y, rfl, rfl, hC.xf, hn, rfl, hd5, look1 _ y, by show 3 ≤ sizeLine; decide, fun q hq => z _ _ (t5.trans (ex_new hq)) (rp_refd hq (ry.mono t5))⟩⟩
    | 4, _ =>
      refine itN (by decide) ⟨_, rfl, _, _, rfl, rfl, _, rfl, itN (by decide) ⟨_, rfl, rfl, _, rfl, itP (by decide) ⟨_, rfl, _, dd, _, y, rfl, rfl, hC.xf, hn, rfl, hd5, look1 _ y, by show 3 ≤ sizeLine; decide, fun q hq => z _ _ (t5.trans (ex_new hq)) (rp_refd hq (ry.mono t5))⟩⟩⟩
    | 5, _ =>
      refine itN (by decide) ⟨_, rfl, _, _, rfl, rfl, _, rfl, itN (by decide) ⟨_, rfl, rfl, _, rfl, itN (by decide) ⟨_, rfl, rfl, _, rfl, itP (by decide) ⟨_, rfl, _, dd, _, y, rfl, rfl, hC.xf, hn, rfl, hd5, look1 _ y, by show 3 ≤ sizeLine; decide, fun q hq => z _ _ (t5.trans (ex_new hq)) (rp_refd hq (ry.mono t5))⟩⟩⟩⟩
    | 6, _ =>
      refine itN (by decide) ⟨_, rfl, _, _, rfl, rfl, _, rfl, itN (by decide) ⟨_, rfl, rfl, _, rfl, itN (by decide) ⟨_, rfl, rfl, _, rfl, itN (by decide) ⟨_, rfl, rfl, _, rfl, itP (by decide) ⟨_, rfl, _, dd, _, y, rfl, rfl, hC.xf, hn, rfl, hd5, look1 _ y, by show 3 ≤ sizeLine; decide, fun q hq => z _ _ (t5.trans (ex_new hq)) (rp_refd hq (ry.mono t5))⟩⟩⟩⟩⟩
    | 7, _ =>
      refine itN (by decide) ⟨_, rfl, _, _, rfl, rfl, _, rfl, itN (by decide) ⟨_, rfl, rfl, _, rfl, itN (by decide) ⟨_, rfl, rfl, _, rfl, itN (by decide) ⟨_, rfl, rfl, _, rfl, itN (by decide) ⟨_, rfl, _, dd, _, y, rfl, rfl, hC.xf, hn, rfl, hd5, look1 _ y, by show 3 ≤ sizeLine; decide, fun q hq => z _ _ (t5.trans (ex_new hq)) (rp_refd hq (ry.mono t5))⟩⟩⟩⟩⟩
end
end K00

end
section
set_option Elab.async false
set_option linter.all false
set_option maxRecDepth 100000
set_option maxHeartbeats 4000000
namespace K00
open PySem PySem.Spec PyProof.Rows L2 Kit
section
variable {P : Program} {w : World} {K : PySem.W.Frag} {mg : Str → Option Value} {base : Heap} {a : Ad}
def dMade (r c : Int) : D := match badPart r c with
  | some l => refd 0 (.txt l)
  | none => told (.lst [.int r, .int c, .txt (cols ((sizeOf r c).getD 0)), .int ((sizeOf r c).getD 0 : Nat)])
theorem good_sizeOf {r c n : Nat} (h : Good r c n) : sizeOf r c = some n ∧ badPart r c = none := by
  rcases h.cases with ⟨rfl, rfl, rfl⟩ | ⟨rfl, rfl, rfl⟩ | ⟨rfl, rfl, rfl⟩ | ⟨rfl, rfl, rfl⟩ | ⟨rfl, rfl, rfl⟩ <;> exact ⟨by decide, by decide⟩
def spMade (a : Ad) : Sp := fun vs H Q _ => ∃ r c : Int, vs = [.int r, .int c] ∧ ∀ G v, Same H G → Rp G (dMade r c) v → Q v G
theorem c_law_made (T : Txt K mg a) : Can P w K mg base 5 "_law_made" (spMade a) := by
  refine can_of T.d_law_made sc_law_made bd_law_made (fun vs H Q E h => ?_) (fun f cdv A outer s H vs Q E hr h => ?_)
  · obtain ⟨r, c, rfl, _⟩ := h
    rfl
  · obtain ⟨r, c, rfl, z⟩ := h
    refine ⟨_, (pss_one (ps_try_as (i := 3) (tb := _) rfl rfl sc_law_made.nd rfl rfl ⟨rfl, by decide, .inl T.g_GalloonError⟩ takes0 (fun W pn xe tk po => (pss_cons (ps_set (i := 2) sc_law_made.nd rfl (.inl rfl) (pc_nS (c_Scheme_init T) tk hr (by decide) (by rfl) (pa_cons (pv 0) (pa_cons (pv 1) pa_nil))))
      (pss_one (ps_ret (pe_tup (pa_cons pe_str (pa_cons (pe_lst (pa_cons (kfld K (pv 2)) (pa_cons (kfld K (pv 2)) (pa_cons (kfld K (pv 2)) (pa_cons (pe_callB (lenO (c_Scheme_len T) hr (by decide)) (by rfl) T.b_len (by decide +kernel) (pa_cons (pv 2) pa_nil)) pa_nil))))) pa_nil))))))) (fun a oe cls d pn hz hf => (pss_one (ps_ret (pc_E (c_law_refusal T) hz hf hr (by decide) (by rfl) (pa_cons (pv 3) pa_nil))))))), ?_⟩
    refine ⟨_, rfl, _, rfl, fun p dx hp hdx ne => ⟨p, dx, r, c, rfl, upd_same, fun l e d M s hd => ?_, fun e G hG hs => ?_⟩⟩
    · have s0 : Same H (upd (upd H dx (.own p)) p (.ins a.Scheme dx [])) := (ex_new hdx).trans (ex_new (by rw [upd_ne (Ne.symm ne)]; exact hp))
      refine ⟨true, T.xm_e 0 (by decide), fun _ x hx => ⟨_, rfl, 0, d, tx l, .txt l, by decide, rfl, rfl, rfl, hd, rfl, fun G v s2 rp => z G v (s0.trans (s.trans s2)) ?_⟩, nofun⟩
      unfold dMade
      rw [e]
      exact rp
    · obtain ⟨r', c', n, rfl, rfl, ⟨⟨dx', hp'⟩, gd⟩⟩ := hs
      have s0 : Same H G := fun b o hb => hG b o (((ex_new hdx).trans (ex_new (by rw [upd_ne (Ne.symm ne)]; exact hp))) b o hb) (ne_of_none hb hp)
      have gn := good_n gd
      refine ⟨rfl, ?_⟩
      refine ⟨_, rfl, p, _, dx', _, _, rfl, hp', T.c_Scheme.cl, T.n_rows, fl_rows r' c' n, ?_⟩
      refine ⟨_, rfl, p, _, dx', _, _, rfl, hp', T.c_Scheme.cl, T.n_colours, fl_colours r' c' n, ?_⟩
      refine ⟨_, rfl, p, _, dx', _, _, rfl, hp', T.c_Scheme.cl, T.n_columns, fl_columns r' c' n, ?_⟩
      refine ⟨_, rfl, p, dx', _, rfl, hp', p, r', c', n, rfl, ⟨⟨dx', hp'⟩, gd⟩, n, rfl, by omega, by omega, by show 4 ≤ sizeLine; decide, fun q hq => ⟨by show 2 ≤ sizeLine; decide, fun q2 hq2 => z _ _ (s0.trans ((ex_new hq).trans (ex_new hq2))) ?_⟩⟩
      unfold dMade
      rw [e, (good_sizeOf gd).1]
      refine rp_told hq2 ⟨q, _, rfl, upd_same, ?_⟩
      exact ⟨_, _, rfl, rfl, _, _, rfl, rfl, _, _, rfl, rfl, _, _, rfl, rfl, rfl⟩
/-! ### what is due -/
theorem sizes_list {G : Hp} {q : Addr} (h : SizesAt G q) : ∃ ts : List Addr, G q = some (.lst (ts.map .ref)) ∧ ts.length = 5 ∧ ∀ (i : Nat) (t : Addr), ts[i]? = some t → ∃ r c n, sizes[i]? = some (r, c, n) ∧ SizeAt G t r c n := by
  obtain ⟨t0, t1, t2, t3, t4, h, h0, h1, h2, h3, h4⟩ := h
  refine ⟨[t0, t1, t2, t3, t4], h, rfl, fun i t ht => ?_⟩
  match i, ht with
  | 0, ht => cases ht; exact ⟨_, _, _, rfl, h0⟩
  | 1, ht => cases ht; exact ⟨_, _, _, rfl, h1⟩
  | 2, ht => cases ht; exact ⟨_, _, _, rfl, h2⟩
  | 3, ht => cases ht; exact ⟨_, _, _, rfl, h3⟩
  | 4, ht => cases ht; exact ⟨_, _, _, rfl, h4⟩
theorem SizesAt.mono {G M : Hp} {q : Addr} (h : SizesAt G q) (s : Same G M) : SizesAt M q := by
  obtain ⟨t0, t1, t2, t3, t4, h, h0, h1, h2, h3, h4⟩ := h
  exact ⟨t0, t1, t2, t3, t4, s _ _ h, h0.mono s, h1.mono s, h2.mono s, h3.mono s, h4.mono s⟩
def spMadeDue : Sp := fun vs H Q _ => ∃ r c : Int, vs = [.int r, .int c] ∧ ∀ G v, Same H G → Rp G (dMade r c) v → Q v G
theorem c_law_made_due (T : Txt K mg a) : Can P w K mg base 2 "_law_made_due" spMadeDue := by
  refine can_of T.d_law_made_due sc_law_made_due bd_law_made_due (fun vs H Q E h => ?_) (fun f cdv A outer s H vs Q E hr h => ?_)
  · obtain ⟨r, c, rfl, _⟩ := h
    rfl
  · obtain ⟨r, c, rfl, z⟩ := h
    refine ⟨_, (pss_cons (ps_if (pt_cmpR (knotin K) (pv 0) (pe_lst (pa_cons pe_int (pa_cons pe_int (pa_cons pe_int pa_nil)))) (by rfl)) (pss_one (ps_ret (pe_tup (pa_cons pe_str (pa_cons pe_int (pa_cons pe_str pa_nil)))))) pss_nil)
      (pss_cons (ps_if (pt_cmpR (knotin K) (pv 1) (pe_lst (pa_cons pe_int (pa_cons pe_int pa_nil))) (by rfl)) (pss_one (ps_ret (pe_tup (pa_cons pe_str (pa_cons pe_int (pa_cons pe_str pa_nil)))))) pss_nil)
      (pss_cons (ps_for (passes_of rfl) (by rfl) (kpi_list K (pc_f0 (c_law_sizes T) hr (by decide) (by rfl))) (pg_name (i := 2) sc_law_made_due.nd rfl (.inl rfl)) (pss_one (ps_if (PW.pt (pw_and (pt_cmpR op_eq (pe_ix (kix_tup K) (pv 2) pe_int (fun _ _ => rfl)) (pv 0) (nomark _)) (pw_and1 (pt_cmpR op_eq (pe_ix (kix_tup K) (pv 2) pe_int (fun _ _ => rfl)) (pv 1) (nomark _))))) (pss_one (ps_ret (pe_tup (pa_cons pe_str (pa_cons (pe_lst (pa_cons (pv 0) (pa_cons (pv 1) (pa_cons (pe_slice sl_str pe_str po_none (po_some (pe_ix (kix_tup K) (pv 2) pe_int (fun _ _ => rfl)))) (pa_cons (pe_ix (kix_tup K) (pv 2) pe_int (fun _ _ => rfl)) pa_nil))))) pa_nil))))) pss_nil)))
      (pss_one (ps_ret (pe_tup (pa_cons pe_str (pa_cons pe_int (pa_cons pe_str pa_nil))))))))), ?_⟩
    have inr3 : inV (.int r) [.int 1, .int 2, .int 3] = decide (r = 1 ∨ r = 2 ∨ r = 3) := by
      show ((1 : Int) == r || ((2 : Int) == r || ((3 : Int) == r || false))) = _
      by_cases h1 : r = 1
      · subst h1; rfl
      · by_cases h2 : r = 2
        · subst h2; rfl
        · by_cases h3 : r = 3
          · subst h3; rfl
          · simp [h1, h2, h3, Ne.symm h1, Ne.symm h2, Ne.symm h3]
    have inc2 : inV (.int c) [.int 2, .int 3] = decide (c = 2 ∨ c = 3) := by
      show ((2 : Int) == c || ((3 : Int) == c || false)) = _
      by_cases h2 : c = 2
      · subst h2; rfl
      · by_cases h3 : c = 3
        · subst h3; rfl
        · simp [h2, h3, Ne.symm h2, Ne.symm h3]
    refine ⟨_, rfl, by show 3 ≤ sizeLine; decide, fun t ht => ⟨t, _, rfl, .inl (seqL_of upd_same), rfl, rfl, _, rfl, ?_⟩⟩
    have s1 : Same H (upd H t (.lst [.int 1, .int 2, .int 3])) := ex_new ht
    rw [inr3]
    by_cases hr3 : r = 1 ∨ r = 2 ∨ r = 3
    · rw [decide_eq_true hr3]
      refine iteF ⟨_, rfl, by show 2 ≤ sizeLine; decide, fun u hu => ⟨u, _, rfl, .inl (seqL_of upd_same), rfl, rfl, _, rfl, ?_⟩⟩
      have s2 := s1.trans (ex_new (o := .lst [.int 2, .int 3]) hu)
      rw [inc2]
      by_cases hc2 : c = 2 ∨ c = 3
      · rw [decide_eq_true hc2]
        refine iteF ?_
        refine ⟨rfl, fun G q s3 hq hs => ?_⟩
        obtain ⟨ts, hl, h5, hts⟩ := sizes_list hs
        have t3 := s2.trans s3
        refine ⟨q, rfl, ⟨_, seqL_of hl⟩, for_it (walk_list (xs := ts.map .ref)) (fun i σ M => M = G ∧ (∀ k < i, ∀ r' c' n', sizes[k]? = some (r', c', n') → ¬ ((r' : Int) = r ∧ (c' : Int) = c)) ∧ ∃ v : Option V, σ = [some (.int r), some (.int c), v]) ⟨rfl, fun k hk => absurd hk (by omega), none, rfl⟩ (fun i σ M _ h => seqL_of (by rw [h.1]; exact hl)) ?_ ?_⟩
        · rintro i x σ M M' hi ⟨rfl, hno, v, rfl⟩ ⟨rfl, hx⟩
          rw [List.getElem?_map] at hx
          cases et : ts[i]? with
          | none =>
            rw [et] at hx
            cases hx
          | some t' =>
            rw [et] at hx
            cases hx
            obtain ⟨r', c', n', es, sz⟩ := hts i t' et
            have gn := good_n sz.2
            refine ⟨_, rfl, t', _, 0, _, rfl, rfl, size_ix sz, rfl, _, rfl, rfl, _, rfl, ?_⟩
            have nxt : ¬ ((r' : Int) = r ∧ (c' : Int) = c) → ∀ k < i + 1, ∀ r' c' n', sizes[k]? = some (r', c', n') → ¬ ((r' : Int) = r ∧ (c' : Int) = c) := by
              intro hne k hk r2 c2 n2 e2
              by_cases e : k = i
              · subst e
                rw [es] at e2
                cases e2
                exact hne
              · exact hno k (by omega) r2 c2 n2 e2
            by_cases e1 : (r' : Int) = r
            · refine itP (decide_eq_true (by rw [e1])) ⟨_, rfl, t', _, 1, _, rfl, rfl, size_ix sz, rfl, _, rfl, rfl, _, rfl, ?_⟩
              by_cases e2 : (c' : Int) = c
              · refine itP (decide_eq_true (by rw [e2])) ⟨_, rfl, _, rfl, _, rfl, t', _, 2, _, rfl, rfl, size_ix sz, rfl, _, rfl, _, rfl, by decide +kernel, ?_⟩
                rw [cut_let gn.1]
                refine ⟨_, rfl, t', _, 2, _, rfl, rfl, size_ix sz, rfl, by show 4 ≤ sizeLine; decide, fun q1 hq1 => ⟨by show 2 ≤ sizeLine; decide, fun q2 hq2 => z _ _ (t3.trans ((ex_new hq1).trans (ex_new hq2))) ?_⟩⟩
                subst e1 e2
                unfold dMade
                rw [(good_sizeOf sz.2).1, (good_sizeOf sz.2).2]
                exact rp_told hq2 ⟨q1, _, rfl, upd_same, _, _, rfl, rfl, _, _, rfl, rfl, _, _, rfl, rfl, _, _, rfl, rfl, rfl⟩
              · exact itN (by rw [decide_eq_false (fun q => e2 (V.int.inj q))]; decide) ⟨rfl, nxt (fun q => e2 q.2), _, rfl⟩
            · exact itN (by rw [decide_eq_false (fun q => e1 (V.int.inj q))]; decide) (iteF ⟨rfl, nxt (fun q => e1 q.1), _, rfl⟩)
        · rintro σ M ⟨rfl, hno, v, rfl⟩
          rw [List.length_map, h5] at hno
          refine ⟨by show 3 ≤ sizeLine; decide, fun p hp => z _ _ (t3.trans (ex_new hp)) ?_⟩
          have g33 : r = 3 ∧ c = 3 := by
            have n0 := hno 0 (by decide) 1 2 2 rfl
            have n1 := hno 1 (by decide) 1 3 3 rfl
            have n2 := hno 2 (by decide) 2 2 4 rfl
            have n3 := hno 3 (by decide) 2 3 9 rfl
            have n4 := hno 4 (by decide) 3 2 8 rfl
            omega
          obtain ⟨rfl, rfl⟩ := g33
          exact rp_refd (d := .txt _) hp (congrArg V.str (by decide +kernel))
      · rw [decide_eq_false hc2]
        refine iteT ⟨by show 3 ≤ sizeLine; decide, fun p hp => z _ _ (s2.trans (ex_new hp)) ?_⟩
        unfold dMade badPart
        rw [if_neg (fun q => q hr3), if_pos hc2]
        exact rp_refd (d := .txt _) hp (congrArg V.str (by decide +kernel))
    · rw [decide_eq_false hr3]
      refine iteT ⟨by show 3 ≤ sizeLine; decide, fun p hp => z _ _ (s1.trans (ex_new hp)) ?_⟩
      unfold dMade badPart
      rw [if_pos hr3]
      exact rp_refd (d := .txt _) hp (congrArg V.str (by decide +kernel))
end
end K00

end
section
set_option Elab.async false
set_option linter.all false
set_option maxRecDepth 100000
set_option maxHeartbeats 4000000
namespace K00
open PySem PySem.Spec PyProof.Rows L2 Kit
section
variable {P : Program} {w : World} {K : PySem.W.Frag} {mg : Str → Option Value} {base : Heap} {a : Ad}
inductive Way where
  | spots | column | picture | check | isS | spot | recol
def Way.txt : Way → String
  | .spots => "spots"
  | .column => "column"
  | .picture => "picture"
  | .check => "check"
  | .isS => "is"
  | .spot => "spot"
  | .recol => "recoloured"
def dAns (r c n : Nat) (l : List Nat) (row at_ : Int) (co : List Nat) : Way → D
  | .spots => if isCol n l = true then told (.txt (dig r c (col0 l))) else refd 1 (.txt l)
  | .column => if isDigs r c l = true then told (.txt [97 + num c l]) else refd 2 (.txt l)
  | .picture => if isStrip n l = true then told (.lst ((rowsOf r c l).map .txt)) else refd 3 (.txt l)
  | .check => if isStrip n l = true then told .non else refd 3 (.txt l)
  | .isS => told (.bl (isStrip n l))
  | .spot => dSpot r c n l row at_ co false
  | .recol => dSpot r c n l row at_ co true
def spAnswer (a : Ad) : Sp := fun vs H Q _ => ∃ (p : Addr) (r c n : Nat) (wy : Way) (l : List Nat) (row at_ : Int) (co : List Nat), vs = [.ref p, .str (Str.ofString wy.txt), tx l, .int row, .int at_, tx co] ∧ SchemeAt a.Scheme H p r c n ∧ l.length ≤ 1000 ∧ co.length ≤ 1000 ∧
  ∀ G v, Same H G → Rp G (dAns r c n l row at_ co wy) v → Q v G
theorem dSpot_s {r c n : Nat} {l : List Nat} {row at_ : Int} {co : List Nat} {b : Bool} (h : isStrip n l = false) : dSpot r c n l row at_ co b = refd 3 (.txt l) := by
  unfold dSpot
  rw [if_pos h]
theorem dSpot_r {r c n : Nat} {l : List Nat} {row at_ : Int} {co : List Nat} {b : Bool} (h : isStrip n l = true) (h1 : ¬ (0 ≤ row ∧ row < r)) : dSpot r c n l row at_ co b = refd 5 (.int row) := by
  unfold dSpot
  rw [if_neg (by rw [h]; decide), if_pos h1]
theorem dSpot_a {r c n : Nat} {l : List Nat} {row at_ : Int} {co : List Nat} {b : Bool} (h : isStrip n l = true) (h1 : 0 ≤ row ∧ row < r) (h2 : ¬ (0 ≤ at_ ∧ at_ < l.length)) : dSpot r c n l row at_ co b = refd 6 (.int at_) := by
  unfold dSpot
  rw [if_neg (by rw [h]; decide), if_neg (fun q => q h1), if_pos h2]
theorem dSpot_o {r c n : Nat} {l : List Nat} {row at_ : Int} {co : List Nat} (h : isStrip n l = true) (h1 : 0 ≤ row ∧ row < r) (h2 : 0 ≤ at_ ∧ at_ < l.length) : dSpot r c n l row at_ co false = told (.txt [spotAt r c l row.toNat at_.toNat]) := by
  unfold dSpot
  rw [if_neg (by rw [h]; decide), if_neg (fun q => q h1), if_neg (fun q => q h2), if_pos rfl]
theorem dSpot_c {r c n : Nat} {l : List Nat} {row at_ : Int} {co : List Nat} (h : isStrip n l = true) (h1 : 0 ≤ row ∧ row < r) (h2 : 0 ≤ at_ ∧ at_ < l.length) (h3 : isColour c co = false) : dSpot r c n l row at_ co true = refd 7 (.txt co) := by
  unfold dSpot
  rw [if_neg (by rw [h]; decide), if_neg (fun q => q h1), if_neg (fun q => q h2), if_neg (by decide), if_pos h3]
theorem dSpot_p {r c n : Nat} {l : List Nat} {row at_ : Int} {co : List Nat} (h : isStrip n l = true) (h1 : 0 ≤ row ∧ row < r) (h2 : 0 ≤ at_ ∧ at_ < l.length) (h3 : isColour c co = true) : dSpot r c n l row at_ co true = told (.txt (recol r c l row.toNat at_.toNat co)) := by
  unfold dSpot
  rw [if_neg (by rw [h]; decide), if_neg (fun q => q h1), if_neg (fun q => q h2), if_neg (by decide), if_neg (by rw [h3]; decide)]
theorem rps_rows {H : Hp} (r c : Nat) (l : List Nat) : Rps H ((rowsOf r c l).map .txt) ((rowsOf r c l).map tx) := Rps.txts _
theorem c_law_answer (T : Txt K mg a) : Can P w K mg base 6 "_law_answer" (spAnswer a) := by
  refine can_of T.d_law_answer sc_law_answer bd_law_answer (fun vs H Q E h => ?_) (fun f cdv A outer s H vs Q E hr h => ?_)
  · obtain ⟨p, r, c, n, wy, l, row, at_, co, rfl, _⟩ := h
    rfl
  · obtain ⟨p, r, c, n, wy, l, row, at_, co, rfl, sch, hl, hcl, z⟩ := h
    refine ⟨_, (pss_one (ps_try_as (i := 6) (tb := _) rfl rfl sc_law_answer.nd rfl rfl ⟨rfl, by decide, .inl T.g_GalloonError⟩ takes0 (fun W pn xe tk po => (pss_cons (ps_if (pt_cmpR op_eq (pv 1) pe_str (nomark _)) (pss_one (ps_ret (pe_tup (pa_cons pe_str (pa_cons (pc_mS (c_Scheme_spots T) tk hr (by decide) (pv 0) (pa_cons (pv 2) pa_nil)) pa_nil))))) pss_nil)
      (pss_cons (ps_if (pt_cmpR op_eq (pv 1) pe_str (nomark _)) (pss_one (ps_ret (pe_tup (pa_cons pe_str (pa_cons (pc_mS (c_Scheme_column T) tk hr (by decide) (pv 0) (pa_cons (pv 2) pa_nil)) pa_nil))))) pss_nil)
      (pss_cons (ps_if (pt_cmpR op_eq (pv 1) pe_str (nomark _)) (pss_one (ps_ret (pe_tup (pa_cons pe_str (pa_cons (pc_mS (c_Scheme_picture T) tk hr (by decide) (pv 0) (pa_cons (pv 2) pa_nil)) pa_nil))))) pss_nil)
      (pss_cons (ps_if (pt_cmpR op_eq (pv 1) pe_str (nomark _)) (pss_one (ps_ret (pe_tup (pa_cons pe_str (pa_cons (pc_mS (c_Scheme_check T) tk hr (by decide) (pv 0) (pa_cons (pv 2) pa_nil)) pa_nil))))) pss_nil)
      (pss_cons (ps_if (pt_cmpR op_eq (pv 1) pe_str (nomark _)) (pss_one (ps_ret (pe_tup (pa_cons pe_str (pa_cons (pc_m (c_Scheme_is_strip T) hr (by decide) (pv 0) (pa_cons (pv 2) pa_nil)) pa_nil))))) pss_nil)
      (pss_cons (ps_if (pt_cmpR op_eq (pv 1) pe_str (nomark _)) (pss_one (ps_ret (pe_tup (pa_cons pe_str (pa_cons (pc_mS (c_Scheme_colour_at T) tk hr (by decide) (pv 0) (pa_cons (pv 2) (pa_cons (pv 3) (pa_cons (pv 4) pa_nil)))) pa_nil))))) pss_nil)
      (pss_one (ps_ret (pe_tup (pa_cons pe_str (pa_cons (pc_mS (c_Scheme_recoloured T) tk hr (by decide) (pv 0) (pa_cons (pv 2) (pa_cons (pv 3) (pa_cons (pv 4) (pa_cons (pv 5) pa_nil))))) pa_nil)))))))))))) (fun a oe cls d pn hz hf => (pss_one (ps_ret (pc_E (c_law_refusal T) hz hf hr (by decide) (by rfl) (pa_cons (pv 6) pa_nil))))))), ?_⟩
    obtain ⟨dx, hp⟩ := sch.1
    have gn := good_n sch.2
    cases wy with
    | spots =>
      refine ⟨_, rfl, rfl, _, rfl, itP (by decide +kernel) ?_⟩
      unfold dAns at z
      dsimp only at z
      refine ⟨_, rfl, p, dx, _, rfl, hp, fl_no _ _ _ (by decide +kernel) (by decide +kernel) (by decide +kernel), _, rfl, p, r, c, n, l, rfl, sch, by omega, fun e => ?_, fun e => ?_⟩
      · rw [if_pos e] at z
        exact ⟨by show 2 ≤ sizeLine; decide, fun q hq => z _ _ (ex_new hq) (rp_told hq rfl)⟩
      · rw [if_neg (by rw [e]; decide)] at z
        exact fun d M s hd => ⟨true, T.xm_e 1 (by decide), fun _ x hx => ⟨_, rfl, 1, d, tx l, .txt l, by decide, rfl, rfl, rfl, hd, rfl, fun G v s2 rp => z G v (s.trans s2) (rp)⟩, nofun⟩
    | column =>
      refine ⟨_, rfl, rfl, _, rfl, itN (by decide +kernel) ?_⟩
      refine ⟨_, rfl, rfl, _, rfl, itP (by decide +kernel) ?_⟩
      unfold dAns at z
      dsimp only at z
      refine ⟨_, rfl, p, dx, _, rfl, hp, fl_no _ _ _ (by decide +kernel) (by decide +kernel) (by decide +kernel), _, rfl, p, r, c, n, l, rfl, sch, by omega, fun e G s1 => ?_, fun e => ?_⟩
      · rw [if_pos e] at z
        exact ⟨by show 2 ≤ sizeLine; decide, fun q hq => z _ _ (s1.trans (ex_new hq)) (rp_told hq rfl)⟩
      · rw [if_neg (by rw [e]; decide)] at z
        exact fun d M s hd => ⟨true, T.xm_e 2 (by decide), fun _ x hx => ⟨_, rfl, 2, d, tx l, .txt l, by decide, rfl, rfl, rfl, hd, rfl, fun G v s2 rp => z G v (s.trans s2) (rp)⟩, nofun⟩
    | picture =>
      refine ⟨_, rfl, rfl, _, rfl, itN (by decide +kernel) ?_⟩
      refine ⟨_, rfl, rfl, _, rfl, itN (by decide +kernel) ?_⟩
      refine ⟨_, rfl, rfl, _, rfl, itP (by decide +kernel) ?_⟩
      unfold dAns at z
      dsimp only at z
      refine ⟨_, rfl, p, dx, _, rfl, hp, fl_no _ _ _ (by decide +kernel) (by decide +kernel) (by decide +kernel), _, rfl, p, r, c, n, l, rfl, sch, by omega, fun e G q0 s1 hq0 hL => ?_, fun e => ?_⟩
      · rw [if_pos e] at z
        exact ⟨by show 2 ≤ sizeLine; decide, fun q hq => z _ _ (s1.trans (ex_new hq)) (rp_told hq ⟨q0, _, rfl, hL, rps_rows r c l⟩)⟩
      · rw [if_neg (by rw [e]; decide)] at z
        exact fun d M s hd => ⟨true, T.xm_e 3 (by decide), fun _ x hx => ⟨_, rfl, 3, d, tx l, .txt l, by decide, rfl, rfl, rfl, hd, rfl, fun G v s2 rp => z G v (s.trans s2) (rp)⟩, nofun⟩
    | check =>
      refine ⟨_, rfl, rfl, _, rfl, itN (by decide +kernel) ?_⟩
      refine ⟨_, rfl, rfl, _, rfl, itN (by decide +kernel) ?_⟩
      refine ⟨_, rfl, rfl, _, rfl, itN (by decide +kernel) ?_⟩
      refine ⟨_, rfl, rfl, _, rfl, itP (by decide +kernel) ?_⟩
      unfold dAns at z
      dsimp only at z
      refine ⟨_, rfl, p, dx, _, rfl, hp, fl_no _ _ _ (by decide +kernel) (by decide +kernel) (by decide +kernel), _, rfl, p, r, c, n, l, rfl, sch, by omega, fun e G s1 => ?_, fun e => ?_⟩
      · rw [if_pos e] at z
        exact ⟨by show 2 ≤ sizeLine; decide, fun q hq => z _ _ (s1.trans (ex_new hq)) (rp_told hq rfl)⟩
      · rw [if_neg (by rw [e]; decide)] at z
        exact fun d M s hd => ⟨true, T.xm_e 3 (by decide), fun _ x hx => ⟨_, rfl, 3, d, tx l, .txt l, by decide, rfl, rfl, rfl, hd, rfl, fun G v s2 rp => z G v (s.trans s2) (rp)⟩, nofun⟩
    | isS =>
      refine ⟨_, rfl, rfl, _, rfl, itN (by decide +kernel) ?_⟩
      refine ⟨_, rfl, rfl, _, rfl, itN (by decide +kernel) ?_⟩
      refine ⟨_, rfl, rfl, _, rfl, itN (by decide +kernel) ?_⟩
      refine ⟨_, rfl, rfl, _, rfl, itN (by decide +kernel) ?_⟩
      refine ⟨_, rfl, rfl, _, rfl, itP (by decide +kernel) ?_⟩
      unfold dAns at z
      dsimp only at z
      refine ⟨_, rfl, p, dx, _, rfl, hp, fl_no _ _ _ (by decide +kernel) (by decide +kernel) (by decide +kernel), _, rfl, p, r, c, n, l, rfl, sch, by omega, fun G s1 => ?_⟩
      exact ⟨by show 2 ≤ sizeLine; decide, fun q hq => z _ _ (s1.trans (ex_new hq)) (rp_told hq rfl)⟩
    | spot =>
      refine ⟨_, rfl, rfl, _, rfl, itN (by decide +kernel) ?_⟩
      refine ⟨_, rfl, rfl, _, rfl, itN (by decide +kernel) ?_⟩
      refine ⟨_, rfl, rfl, _, rfl, itN (by decide +kernel) ?_⟩
      refine ⟨_, rfl, rfl, _, rfl, itN (by decide +kernel) ?_⟩
      refine ⟨_, rfl, rfl, _, rfl, itN (by decide +kernel) ?_⟩
      refine ⟨_, rfl, rfl, _, rfl, itP (by decide +kernel) ?_⟩
      have zz : ∀ {d : D}, dSpot r c n l row at_ co false = d → ∀ G v, Same H G → Rp G d v → Q v G := fun e G v s rp => z G v s (by unfold dAns; dsimp only; rw [e]; exact rp)
      refine ⟨_, rfl, p, dx, _, rfl, hp, fl_no _ _ _ (by decide +kernel) (by decide +kernel) (by decide +kernel), _, rfl, _, rfl, _, rfl, p, r, c, n, l, row, at_, rfl, sch, hl, fun e => ?_, fun e e1 => ?_, fun e h1 h2 e3 => ?_, fun e h1 h2 h3 h4 G s1 => ?_⟩
      · have z := zz (dSpot_s e)
        exact fun d M s hd => ⟨true, T.xm_e 3 (by decide), fun _ x hx => ⟨_, rfl, 3, d, tx l, .txt l, by decide, rfl, rfl, rfl, hd, rfl, fun G v s2 rp => z G v (s.trans s2) (rp)⟩, nofun⟩
      · have z := zz (dSpot_r e e1)
        exact fun d M s hd => ⟨true, T.xm_e 5 (by decide), fun _ x hx => ⟨_, rfl, 5, d, .int row, .int row, by decide, rfl, rfl, rfl, hd, rfl, fun G v s2 rp => z G v (s.trans s2) (rp)⟩, nofun⟩
      · have z := zz (dSpot_a e ⟨h1, h2⟩ e3)
        exact fun d M s hd => ⟨true, T.xm_e 6 (by decide), fun _ x hx => ⟨_, rfl, 6, d, .int at_, .int at_, by decide, rfl, rfl, rfl, hd, rfl, fun G v s2 rp => z G v (s.trans s2) (rp)⟩, nofun⟩
      · have z := zz (dSpot_o e ⟨h1, h2⟩ ⟨h3, h4⟩)
        exact ⟨by show 2 ≤ sizeLine; decide, fun q hq => z _ _ (s1.trans (ex_new hq)) (rp_told hq rfl)⟩
    | recol =>
      refine ⟨_, rfl, rfl, _, rfl, itN (by decide +kernel) ?_⟩
      refine ⟨_, rfl, rfl, _, rfl, itN (by decide +kernel) ?_⟩
      refine ⟨_, rfl, rfl, _, rfl, itN (by decide +kernel) ?_⟩
      refine ⟨_, rfl, rfl, _, rfl, itN (by decide +kernel) ?_⟩
      refine ⟨_, rfl, rfl, _, rfl, itN (by decide +kernel) ?_⟩
      refine ⟨_, rfl, rfl, _, rfl, itN (by decide +kernel) ?_⟩
      have zz : ∀ {d : D}, dSpot r c n l row at_ co true = d → ∀ G v, Same H G → Rp G d v → Q v G := fun e G v s rp => z G v s (by unfold dAns; dsimp only; rw [e]; exact rp)
      refine ⟨_, rfl, p, dx, _, rfl, hp, fl_no _ _ _ (by decide +kernel) (by decide +kernel) (by decide +kernel), _, rfl, _, rfl, _, rfl, _, rfl, p, r, c, n, l, row, at_, co, rfl, sch, hl, hcl, fun e => ?_, fun e e1 => ?_, fun e h1 h2 e3 => ?_, fun e h1 h2 h3 h4 e5 => ?_, fun e h1 h2 h3 h4 e5 G s1 => ?_⟩
      · have z := zz (dSpot_s e)
        exact fun d M s hd => ⟨true, T.xm_e 3 (by decide), fun _ x hx => ⟨_, rfl, 3, d, tx l, .txt l, by decide, rfl, rfl, rfl, hd, rfl, fun G v s2 rp => z G v (s.trans s2) (rp)⟩, nofun⟩
      · have z := zz (dSpot_r e e1)
        exact fun d M s hd => ⟨true, T.xm_e 5 (by decide), fun _ x hx => ⟨_, rfl, 5, d, .int row, .int row, by decide, rfl, rfl, rfl, hd, rfl, fun G v s2 rp => z G v (s.trans s2) (rp)⟩, nofun⟩
      · have z := zz (dSpot_a e ⟨h1, h2⟩ e3)
        exact fun d M s hd => ⟨true, T.xm_e 6 (by decide), fun _ x hx => ⟨_, rfl, 6, d, .int at_, .int at_, by decide, rfl, rfl, rfl, hd, rfl, fun G v s2 rp => z G v (s.trans s2) (rp)⟩, nofun⟩
      · have z := zz (dSpot_c e ⟨h1, h2⟩ ⟨h3, h4⟩ e5)
        exact fun d M s hd => ⟨true, T.xm_e 7 (by decide), fun _ x hx => ⟨_, rfl, 7, d, tx co, .txt co, by decide, rfl, rfl, rfl, hd, rfl, fun G v s2 rp => z G v (s.trans s2) (rp)⟩, nofun⟩
      · have z := zz (dSpot_p e ⟨h1, h2⟩ ⟨h3, h4⟩ e5)
        exact ⟨by show 2 ≤ sizeLine; decide, fun q hq => z _ _ (s1.trans (ex_new hq)) (rp_told hq rfl)⟩
/-! ### read pictures -/
def spSeen (a : Ad) : Sp := fun vs H Q _ => ∃ (p q : Addr) (r c n : Nat) (ls : List (List Nat)), vs = [.ref p, .ref q] ∧ SchemeAt a.Scheme H p r c n ∧ H q = some (.lst (ls.map tx)) ∧ ls.length ≤ 100 ∧ (∀ l ∈ ls, l.length ≤ 1000) ∧ ∀ G v, Same H G → Rp G (dSeen r c ls) v → Q v G
theorem c_law_seen (T : Txt K mg a) : Can P w K mg base 5 "_law_seen" (spSeen a) := by
  refine can_of T.d_law_seen sc_law_seen bd_law_seen (fun vs H Q E h => ?_) (fun f cdv A outer s H vs Q E hr h => ?_)
  · obtain ⟨p, q, r, c, n, ls, rfl, _⟩ := h
    rfl
  · obtain ⟨p, q, r, c, n, ls, rfl, sch, hq, hl, hll, z⟩ := h
    refine ⟨_, (pss_one (ps_try_as (i := 2) (tb := _) rfl rfl sc_law_seen.nd rfl rfl ⟨rfl, by decide, .inl T.g_GalloonError⟩ takes0 (fun W pn xe tk po => (pss_one (ps_ret (pe_tup (pa_cons pe_str (pa_cons (pc_mS (c_Scheme_of_picture T) tk hr (by decide) (pv 0) (pa_cons (pv 1) pa_nil)) pa_nil)))))) (fun a oe cls d pn hz hf => (pss_one (ps_ret (pc_E (c_law_refusal T) hz hf hr (by decide) (by rfl) (pa_cons (pv 2) pa_nil))))))), ?_⟩
    obtain ⟨dx, hp⟩ := sch.1
    refine ⟨_, rfl, p, dx, _, rfl, hp, fl_no _ _ _ (by decide +kernel) (by decide +kernel) (by decide +kernel), _, rfl, p, q, r, c, n, ls, rfl, sch, hq, hl, hll, fun k e => ?_, fun e h => ?_, fun e h G s1 => ?_⟩
    · have z : ∀ G v, Same H G → Rp G (refd 4 (.int ((k + 1 : Nat) : Int))) v → Q v G := fun G v s rp => z G v s (by unfold dSeen; rw [e]; exact rp)
      exact fun d M s hd => ⟨true, T.xm_e 4 (by decide), fun _ x hx => ⟨_, rfl, 4, d, .int ((k + 1 : Nat) : Int), .int ((k + 1 : Nat) : Int), by decide, rfl, rfl, rfl, hd, rfl, fun G v s2 rp => z G v (s.trans s2) (rp)⟩, nofun⟩
    · have z : ∀ G v, Same H G → Rp G (refd 4 (.int ((ls.length + 1 : Nat) : Int))) v → Q v G := fun G v s rp => z G v s (by unfold dSeen; rw [e]; dsimp only; rw [if_pos h]; exact rp)
      exact fun d M s hd => ⟨true, T.xm_e 4 (by decide), fun _ x hx => ⟨_, rfl, 4, d, .int ((ls.length + 1 : Nat) : Int), .int ((ls.length + 1 : Nat) : Int), by decide, rfl, rfl, rfl, hd, rfl, fun G v s2 rp => z G v (s.trans s2) (rp)⟩, nofun⟩
    · have z : ∀ G v, Same H G → Rp G (told (.txt (ofPic c ls))) v → Q v G := fun G v s rp => z G v s (by unfold dSeen; rw [e]; dsimp only; rw [if_neg (by omega)]; exact rp)
      exact ⟨by show 2 ≤ sizeLine; decide, fun q hq => z _ _ (s1.trans (ex_new hq)) (rp_told hq rfl)⟩
end
end K00

end
section
set_option Elab.async false
set_option linter.all false
set_option maxRecDepth 100000
set_option maxHeartbeats 4000000
namespace K00
open PySem PySem.Spec PyProof.Rows L2 Kit
section
variable {P : Program} {w : World} {K : PySem.W.Frag} {mg : Str → Option Value} {base : Heap} {a : Ad}
theorem deep_refd {i : Int} {l : List Nat} : deep (refd i (.txt l)) < 4 ∧ big (refd i (.txt l)) ≤ 10000 := by
  unfold refd
  simp [deep, deeps, big, bigs]
theorem made_small (r c : Int) : deep (dMade r c) < 4 ∧ big (dMade r c) ≤ 10000 := by
  unfold dMade
  cases badPart r c with
  | some l => exact deep_refd
  | none => simp [told, deep, deeps, big, bigs]
theorem init_good {a : Ad} {H : Hp} {y dx : Addr} {r c n : Nat} {Q : Hp → Prop} (g : Good r c n) (hy : H y = none) (hdx : H dx = none) (ne : dx ≠ y) (k : ∀ G, Same H G → SchemeAt a.Scheme G y r c n → Q G) :
    spInit a (.ref y :: ([.int (r : Int), .int (c : Int)] ++ [])) (upd (upd H dx (.own y)) y (.ins a.Scheme dx [])) (fun v G => v = .non ∧ Q G) E0 := by
  refine ⟨y, dx, r, c, rfl, upd_same, fun l e => ?_, fun _ G hG hs => ⟨rfl, ?_⟩⟩
  · rw [(good_sizeOf g).2] at e
    cases e
  · obtain ⟨r', c', n', e1, e2, sch⟩ := hs
    obtain rfl : r' = r := by omega
    obtain rfl : c' = c := by omega
    have e3 := (good_sizeOf sch.2).1
    rw [(good_sizeOf g).1] at e3
    cases e3
    exact k G (fun b o hb => hG b o (((ex_new hdx).trans (ex_new (by rw [upd_ne (Ne.symm ne)]; exact hy))) b o hb) (ne_of_none hb hy)) sch
def spFields (a : Ad) : Sp := fun vs H Q _ => ∃ (p s o pu : Addr) (r c n r2 c2 n2 : Nat), vs = [.ref p, .ref s, .ref o, .ref pu] ∧ SchemeAt a.Scheme H p r c n ∧ SizeAt H s r c n ∧ SchemeAt a.Scheme H o r2 c2 n2 ∧ ¬ (r = r2 ∧ c = c2) ∧ PurseAt H pu ∧ ∀ G, Pu pu H G → Q (.bl true) G
theorem c_law_fields (T : Txt K mg a) : Can P w K mg base 6 "_law_fields" (spFields a) := by
  refine can_of T.d_law_fields sc_law_fields bd_law_fields (fun vs H Q E h => ?_) (fun f cdv A outer s H vs Q E hr h => ?_)
  · obtain ⟨p, s, o, pu, r, c, n, r2, c2, n2, rfl, _⟩ := h
    rfl
  · obtain ⟨p, s, o, pu, r, c, n, r2, c2, n2, rfl, sch, sz, oth, hne, hpu, z⟩ := h
    refine ⟨_, (pss_cons (ps_for (passes_of rfl) (by rfl) (pi_range2 (by rfl) T.b_range (pa_cons (pe_un un_neg pe_int) (pa_cons pe_int pa_nil))) (pg_name (i := 4) sc_law_fields.nd rfl (.inl rfl)) (pss_one (ps_for (passes_of rfl) (by rfl) (pi_range2 (by rfl) T.b_range (pa_cons (pe_un un_neg pe_int) (pa_cons pe_int pa_nil))) (pg_name (i := 5) sc_law_fields.nd rfl (.inl rfl)) (pss_one (ps_if (pt_not (pt_val (pc_f (c_law_alike T) hr (by decide) (by rfl) (pa_cons (pc_f (c_law_made T) hr (by decide) (by rfl) (pa_cons (pv 4) (pa_cons (pv 5) pa_nil))) (pa_cons (pc_f (c_law_made_due T) hr (by decide) (by rfl) (pa_cons (pv 4) (pa_cons (pv 5) pa_nil))) pa_nil))))) (pss_one (ps_ret pe_bl)) pss_nil)))))
      (pss_cons (ps_set (i := 4) sc_law_fields.nd rfl (.inl rfl) (pc_f (c_law_draw T) hr (by decide) (by rfl) (pa_cons (pv 3) (pa_cons pe_int pa_nil))))
      (pss_cons (ps_set (i := 5) sc_law_fields.nd rfl (.inl rfl) (pc_f (c_law_far T) hr (by decide) (by rfl) (pa_cons (pv 3) pa_nil)))
      (C8.pss_cut (ps_if (pt_cmpR op_eq (pc_f (c_law_draw T) hr (by decide) (by rfl) (pa_cons (pv 3) (pa_cons pe_int pa_nil))) pe_int (nomark _)) (pss_one (ps_par (i := 4) (j := 5) (by rfl) sc_law_fields.nd rfl rfl (by decide) rfl rfl (pa_cons (pv 5) (pa_cons (pv 4) pa_nil)) (by rfl))) pss_nil)
      (pss_cons (ps_if (pt_not (pt_val (pc_f (c_law_alike T) hr (by decide) (by rfl) (pa_cons (pc_f (c_law_made T) hr (by decide) (by rfl) (pa_cons (pv 4) (pa_cons (pv 5) pa_nil))) (pa_cons (pc_f (c_law_made_due T) hr (by decide) (by rfl) (pa_cons (pv 4) (pa_cons (pv 5) pa_nil))) pa_nil))))) (pss_one (ps_ret pe_bl)) pss_nil)
      (pss_cons (ps_set (i := 6) sc_law_fields.nd rfl (.inl rfl) (pc_n (c_Scheme_init T) hr (by decide) (by rfl) (pa_cons (pe_ix (kix_tup K) (pv 1) pe_int (fun _ _ => rfl)) (pa_cons (pe_ix (kix_tup K) (pv 1) pe_int (fun _ _ => rfl)) pa_nil))))
      (pss_cons (ps_if (pt_not (pt_val (pc_f (c_law_alike T) hr (by decide) (by rfl) (pa_cons (pe_lst (pa_cons (ClX.pe_cval (pe_glob (v := .ref a.Scheme) (by rfl) T.c_Scheme.gC rfl)) (pa_cons (ClX.pe_cval (pe_glob (v := .ref a.Scheme) (by rfl) T.c_Scheme.gC rfl)) (pa_cons (kcon K (pv 0)) (pa_cons (kcon K (pv 2)) pa_nil))))) (pa_cons (pe_lst (pa_cons pe_int (pa_cons pe_str (pa_cons pe_int (pa_cons pe_str pa_nil))))) pa_nil))))) (pss_one (ps_ret pe_bl)) pss_nil)
      (pss_cons (ps_set (i := 7) sc_law_fields.nd rfl (.inl rfl) (pe_lst (pa_cons (pe_cmpR (eqO K (c_Scheme_eq T) hr (by decide) T.i_ni T.i_ns) (pv 0) (pv 6) (nomark _)) (pa_cons (pe_cmpR (eqO K (c_Scheme_eq T) hr (by decide) T.i_ni T.i_ns) (pv 6) (pv 0) (nomark _)) (pa_cons (pe_cmpR (eqO K (c_Scheme_eq T) hr (by decide) T.i_ni T.i_ns) (pv 0) (pv 2) (nomark _)) (pa_cons (pe_cmpR (eqO K (c_Scheme_eq T) hr (by decide) T.i_ni T.i_ns) (pv 2) (pv 0) (nomark _)) (pa_cons (pe_cmpR (eqO K (c_Scheme_eq T) hr (by decide) T.i_ni T.i_ns) (pv 0) (pe_ix (kix_tup K) (pv 1) pe_int (fun _ _ => rfl)) (nomark _)) (pa_cons (pe_cmpR (eqO K (c_Scheme_eq T) hr (by decide) T.i_ni T.i_ns) (pv 0) pe_str (nomark _)) pa_nil))))))))
      (pss_one (ps_ret (pc_f (c_law_alike T) hr (by decide) (by rfl) (pa_cons (pv 7) (pa_cons (pe_lst (pa_cons pe_bl (pa_cons pe_bl (pa_cons pe_bl (pa_cons pe_bl (pa_cons pe_bl (pa_cons pe_bl pa_nil))))))) pa_nil))))))))))))), ?_⟩
    have gn := good_n sch.2
    refine ⟨_, rfl, _, _, rfl, ⟨by decide, by decide, by decide, by decide⟩, ?_⟩
    refine for_it (walk_range (lo := -1) (n := 7)) (fun i σ G => Same H G ∧ ∃ v4 v5 : Option V, σ = [some (.ref p), some (.ref s), some (.ref o), some (.ref pu), v4, v5, none, none]) ⟨.refl _, none, none, rfl⟩ (fun _ _ _ _ _ => True.intro) ?_ ?_
    · rintro i u σ G G' hi ⟨s1, v4, v5, rfl⟩ ⟨rfl, rfl⟩
      refine ⟨_, rfl, _, _, rfl, ⟨by decide, by decide, by decide, by decide⟩, ?_⟩
      refine for_it (walk_range (lo := -1) (n := 7)) (fun j σ G => Same H G ∧ ∃ v5 : Option V, σ = [some (.ref p), some (.ref s), some (.ref o), some (.ref pu), some (.int (-1 + (i : Int))), v5, none, none]) ⟨s1, v5, rfl⟩ (fun _ _ _ _ _ => True.intro) ?_ ?_
      · rintro j u σ M M' hj ⟨s2, v5, rfl⟩ ⟨rfl, rfl⟩
        exact ⟨_, rfl, _, rfl, -1 + (i : Int), -1 + (j : Int), rfl, fun G v s3 rp1 => ⟨_, rfl, _, rfl, -1 + (i : Int), -1 + (j : Int), rfl, fun N v2 s4 rp2 => ⟨v, v2, dMade (-1 + (i : Int)) (-1 + (j : Int)), rfl, rp1.mono s4, rp2, (made_small _ _).1, (made_small _ _).2, _, rfl, iteF ⟨(s2.trans s3).trans s4, _, rfl⟩⟩⟩⟩
      · rintro σ M ⟨s2, v5, rfl⟩
        exact ⟨s2, _, _, rfl⟩
    · rintro σ G ⟨s1, v4, v5, rfl⟩
      refine ⟨_, rfl, pu, 5, rfl, pmono hpu s1, by decide, by decide, fun d o1 d0 d1 hp1 => ?_⟩
      have q1 := same_pu s1 (Pu.draw hp1)
      refine ⟨_, rfl, pu, rfl, hp1, fun x G2 q2 => ?_⟩
      have q2 := q1.trans q2
      refine ⟨fun σ M => Pu pu H M ∧ ∃ i j : Int, σ = [some (.ref p), some (.ref s), some (.ref o), some (.ref pu), some (.int i), some (.int j), none, none], ?_, ?_⟩
      · refine ⟨_, rfl, pu, 2, rfl, q2.2, by decide, by decide, fun e o2 e0 e1 hp3 => ⟨rfl, _, rfl, ?_⟩⟩
        have q3 := q2.trans (Pu.draw hp3)
        refine ite2 (fun _ => ?_) (fun _ => ?_)
        · exact ⟨_, rfl, _, rfl, _, _, rfl, q3, _, _, rfl⟩
        · exact ⟨q3, _, _, rfl⟩
      · rintro σ M ⟨q3, i, j, rfl⟩
        refine ⟨_, rfl, _, rfl, i, j, rfl, fun G v s3 rp1 => ⟨_, rfl, _, rfl, i, j, rfl, fun N v2 s4 rp2 => ⟨v, v2, dMade i j, rfl, rp1.mono s4, rp2, (made_small _ _).1, (made_small _ _).2, _, rfl, iteF ?_⟩⟩⟩
        have q4 := (q3.same s3).same s4
        have szN := sz.pu hpu q4
        refine ⟨_, rfl, s, _, 0, _, rfl, rfl, size_ix szN, rfl, _, rfl, s, _, 1, _, rfl, rfl, size_ix szN, rfl, fun y dx hy hdx ne => init_good sch.2 hy hdx ne fun G5 s5 tw => ?_⟩
        have q5 := q4.same s5
        obtain ⟨mc, cr, ⟨u1, cv1⟩, u2, cv2⟩ := T.r_Scheme
        obtain ⟨u9, k9⟩ := T.k_MOST
        obtain ⟨ua, ka⟩ := T.k_BLANK
        obtain ⟨⟨dxp, hp⟩, _⟩ := sch.pu hpu q5
        obtain ⟨⟨dxo, ho⟩, _⟩ := oth.pu hpu q5
        have t97 : V.str (Str.ofString "a") = tx [97] := congrArg V.str (by decide +kernel)
        refine ⟨a.Scheme, mc, _, _, rfl, cr, cv1, a.Scheme, mc, _, _, rfl, cr, cv2, _, rfl, p, _, dxp, _, _, _, rfl, hp, T.c_Scheme.cl, k9, fl_no _ _ _ (by decide +kernel) (by decide +kernel) (by decide +kernel), _, rfl, o, _, dxo, _, _, _, rfl, ho, T.c_Scheme.cl, ka, fl_no _ _ _ (by decide +kernel) (by decide +kernel) (by decide +kernel), by show 4 ≤ sizeLine; decide, fun l1 hl1 => ⟨by show 4 ≤ sizeLine; decide, fun l2 hl2 => ?_⟩⟩
        have s6 := (ex_new (o := .lst [.int 9, .str (Str.ofString "a"), .int 9, .str (Str.ofString "a")]) hl1).trans (ex_new (o := .lst [.int 9, .str (Str.ofString "a"), .int 9, .str (Str.ofString "a")]) hl2)
        refine ⟨.ref l1, .ref l2, .lst [.int 9, .txt [97], .int 9, .txt [97]], rfl, ⟨l1, _, rfl, ex_new hl2 _ _ upd_same, _, _, rfl, rfl, _, _, rfl, t97, _, _, rfl, rfl, _, _, rfl, t97, rfl⟩, ⟨l2, _, rfl, upd_same, _, _, rfl, rfl, _, _, rfl, t97, _, _, rfl, rfl, _, _, rfl, t97, rfl⟩, by simp [deep, deeps], by simp [big, bigs], _, rfl, iteF ?_⟩
        have q6 := q5.same s6
        have schG := sch.pu hpu q6
        have othG := oth.pu hpu q6
        have twG := tw.mono s6
        have szG := sz.pu hpu q6
        obtain ⟨⟨dxp, hp⟩, _⟩ := sch.pu hpu q6
        obtain ⟨⟨dxo, ho⟩, _⟩ := oth.pu hpu q6
        obtain ⟨⟨dxt, hy⟩, _⟩ := tw.mono s6
        refine ⟨_, rfl, _, rfl, p, dxp, _, rfl, hp, .inr (.inr ⟨y, dxt, _, rfl, hy⟩), p, r, c, n, .ref y, rfl, schG, .inr (.inr ⟨y, r, c, n, rfl, twG, _, rfl, ?_⟩)⟩
        refine ⟨_, rfl, _, rfl, y, dxt, _, rfl, hy, .inr (.inr ⟨p, dxp, _, rfl, hp⟩), y, r, c, n, .ref p, rfl, twG, .inr (.inr ⟨p, r, c, n, rfl, schG, _, rfl, ?_⟩)⟩
        refine ⟨_, rfl, _, rfl, p, dxp, _, rfl, hp, .inr (.inr ⟨o, dxo, _, rfl, ho⟩), p, r, c, n, .ref o, rfl, schG, .inr (.inr ⟨o, r2, c2, n2, rfl, othG, _, rfl, ?_⟩)⟩
        refine ⟨_, rfl, _, rfl, o, dxo, _, rfl, ho, .inr (.inr ⟨p, dxp, _, rfl, hp⟩), o, r2, c2, n2, .ref p, rfl, othG, .inr (.inr ⟨p, r, c, n, rfl, schG, _, rfl, ?_⟩)⟩
        refine ⟨_, rfl, _, rfl, s, _, 0, _, rfl, rfl, size_ix szG, rfl, p, dxp, _, rfl, hp, .inl ⟨_, rfl⟩, p, r, c, n, .int r, rfl, schG, .inl ⟨_, rfl, _, rfl, ?_⟩⟩
        refine ⟨_, rfl, p, dxp, _, rfl, hp, .inr (.inl ⟨_, rfl⟩), p, r, c, n, .str (Str.ofString "a"), rfl, schG, .inr (.inl ⟨_, rfl, _, rfl, ?_⟩)⟩
        refine ⟨by show 6 ≤ sizeLine; decide, fun l3 hl3 => ⟨_, rfl, by show 6 ≤ sizeLine; decide, fun l4 hl4 => ?_⟩⟩
        refine ⟨.ref l3, .ref l4, .lst [.bl true, .bl true, .bl false, .bl false, .bl false, .bl false], rfl, ⟨l3, _, rfl, ex_new hl4 _ _ upd_same, _, _, rfl, congrArg V.bl (by simp), _, _, rfl, congrArg V.bl (by simp), _, _, rfl, congrArg V.bl ?_, _, _, rfl, congrArg V.bl ?_, _, _, rfl, rfl, _, _, rfl, rfl, rfl⟩, ⟨l4, _, rfl, upd_same, _, _, rfl, rfl, _, _, rfl, rfl, _, _, rfl, rfl, _, _, rfl, rfl, _, _, rfl, rfl, _, _, rfl, rfl, rfl⟩, by simp [deep, deeps], by simp [big, bigs], z _ ((q6.same (ex_new hl3)).same (ex_new hl4))⟩
        · simpa using hne
        · rw [Bool.eq_false_iff]
          intro q
          simp at q
          exact hne ⟨q.1.symm, q.2.symm⟩
end
end K00

end
section
set_option Elab.async false
set_option linter.all false
set_option maxRecDepth 100000
set_option maxHeartbeats 4000000
namespace K00
open PySem PySem.Spec PyProof.Rows L2 Kit
section
variable {P : Program} {w : World} {K : PySem.W.Frag} {mg : Str → Option Value} {base : Heap} {a : Ad}
theorem deeps_txt (ls : List (List Nat)) : deeps (ls.map .txt) = 0 := by
  induction ls with
  | nil => rfl
  | cons l ls ih => simp [deeps, deep, ih]
theorem bigs_txt (ls : List (List Nat)) : bigs (ls.map .txt) = 0 := by
  induction ls with
  | nil => rfl
  | cons l ls ih => simp [bigs, big, ih]
theorem small_refd (i : Int) (l : List Nat) : deep (refd i (.txt l)) < 4 ∧ big (refd i (.txt l)) ≤ 10000 := deep_refd
theorem small_refi (i j : Int) : deep (refd i (.int j)) < 4 ∧ big (refd i (.int j)) ≤ 10000 := by
  unfold refd
  simp [deep, deeps, big, bigs]
theorem small_told (l : List Nat) : deep (told (.txt l)) < 4 ∧ big (told (.txt l)) ≤ 10000 := by
  unfold told
  simp [deep, deeps, big, bigs]
theorem small_spot (r c n : Nat) (l : List Nat) (row at_ : Int) (co : List Nat) (b : Bool) : deep (dSpot r c n l row at_ co b) < 4 ∧ big (dSpot r c n l row at_ co b) ≤ 10000 := by
  unfold dSpot
  split
  · exact small_refd _ _
  split
  · exact small_refi _ _
  split
  · exact small_refi _ _
  split
  · exact small_told _
  split
  · exact small_refd _ _
  · exact small_told _
theorem small_ans {r c n : Nat} (hr : r ≤ 3) (l : List Nat) (row at_ : Int) (co : List Nat) (wy : Way) : deep (dAns r c n l row at_ co wy) < 4 ∧ big (dAns r c n l row at_ co wy) ≤ 10000 := by
  unfold dAns
  cases wy with
  | spots => dsimp only; split; exact small_told _; exact small_refd _ _
  | column => dsimp only; split; exact small_told _; exact small_refd _ _
  | picture =>
    dsimp only
    split
    · unfold told
      simp [deep, deeps, big, bigs, deeps_txt, bigs_txt, rowsOf_len]
      omega
    · exact small_refd _ _
  | check =>
    dsimp only
    split
    · unfold told
      simp [deep, deeps, big, bigs]
    · exact small_refd _ _
  | isS =>
    unfold told
    simp [deep, deeps, big, bigs]
  | spot => exact small_spot ..
  | recol => exact small_spot ..
theorem small_seen (r c : Nat) (ls : List (List Nat)) : deep (dSeen r c ls) < 4 ∧ big (dSeen r c ls) ≤ 10000 := by
  unfold dSeen
  cases firstBad r c ls with
  | some k => exact small_refi _ _
  | none =>
    dsimp only
    split
    · exact small_refi _ _
    · exact small_told _
def spColumns (a : Ad) : Sp := fun vs H Q _ => ∃ (p s pu : Addr) (r c n : Nat), vs = [.ref p, .ref s, .ref pu] ∧ SchemeAt a.Scheme H p r c n ∧ SizeAt H s r c n ∧ PurseAt H pu ∧ ∀ G, Pu pu H G → Q (.bl true) G
theorem c_law_columns (T : Txt K mg a) : Can P w K mg base 7 "_law_columns" (spColumns a) := by
  refine can_of T.d_law_columns sc_law_columns bd_law_columns (fun vs H Q E h => ?_) (fun f cdv A outer s H vs Q E hr h => ?_)
  · obtain ⟨p, s, pu, r, c, n, rfl, _⟩ := h
    rfl
  · obtain ⟨p, s, pu, r, c, n, rfl, sch, sz, hpu, z⟩ := h
    refine ⟨_, (pss_cons (ps_for (passes_of rfl) (by rfl) (pi_range1 (by rfl) T.b_range (pa_cons (pe_ix (kix_tup K) (pv 1) pe_int (fun _ _ => rfl)) pa_nil)) (pg_name (i := 3) sc_law_columns.nd rfl (.inl rfl)) (pss_cons (ps_set (i := 4) sc_law_columns.nd rfl (.inl rfl) (pe_lst (pa_cons (pc_m (c_Scheme_spots T) hr (by decide) (pv 0) (pa_cons (pe_ix ix_str pe_str (pv 3) (fun _ _ => rfl)) pa_nil)) (pa_cons (pc_m (c_Scheme_column T) hr (by decide) (pv 0) (pa_cons (pc_f (c_law_digits T) hr (by decide) (by rfl) (pa_cons (pv 1) (pa_cons (pv 3) pa_nil))) pa_nil)) pa_nil))))
      (pss_one (ps_if (pt_not (pt_val (pc_f (c_law_alike T) hr (by decide) (by rfl) (pa_cons (pv 4) (pa_cons (pe_lst (pa_cons (pc_f (c_law_digits T) hr (by decide) (by rfl) (pa_cons (pv 1) (pa_cons (pv 3) pa_nil))) (pa_cons (pe_ix ix_str pe_str (pv 3) (fun _ _ => rfl)) pa_nil))) pa_nil))))) (pss_one (ps_ret pe_bl)) pss_nil))))
      (pss_cons (ps_set (i := 5) sc_law_columns.nd rfl (.inl rfl) (pe_ix ix_str pe_str (pc_f (c_law_draw T) hr (by decide) (by rfl) (pa_cons (pv 2) (pa_cons (pe_ix (kix_tup K) (pv 1) pe_int (fun _ _ => rfl)) pa_nil))) (fun _ _ => rfl)))
      (pss_cons (ps_for (passes_of rfl) (by rfl) (kpi_list K (pe_lst (pa_cons pe_str (pa_cons pe_str (pa_cons pe_str (pa_cons (pc_f (c_law_spoilt T) hr (by decide) (by rfl) (pa_cons (pv 2) (pa_cons (pv 5) pa_nil))) (pa_cons (pc_f (c_law_sign T) hr (by decide) (by rfl) (pa_cons (pv 2) pa_nil)) pa_nil))))))) (pg_name (i := 6) sc_law_columns.nd rfl (.inl rfl)) (pss_cons (ps_set (i := 7) sc_law_columns.nd rfl (.inl rfl) (pe_tup (pa_cons pe_str (pa_cons pe_int (pa_cons (pv 6) pa_nil)))))
      (C8.pss_cut (ps_if (PW.pt (pw_and (pt_cmpR op_eq (pe_callB call_len_str (by rfl) T.b_len (by decide +kernel) (pa_cons (pv 6) pa_nil)) pe_int (nomark _)) (pw_and1 (pt_val (pc_f (c_law_is_strip T) hr (by decide) (by rfl) (pa_cons (pv 1) (pa_cons (pv 6) pa_nil))))))) (pss_one (ps_set (i := 7) sc_law_columns.nd rfl (.inl rfl) (pe_tup (pa_cons pe_str (pa_cons (pc_f (c_law_digits T) hr (by decide) (by rfl) (pa_cons (pv 1) (pa_cons (pe_bmS PySem.F.plainAttrs_str PySem.F.slot_str_index PySem.F.type_str_index (mt_indexX (by rfl) takes0) pe_str (pa_cons (pv 6) pa_nil)) pa_nil))) pa_nil))))) pss_nil)
      (pss_one (ps_if (pt_not (pt_val (pc_f (c_law_alike T) hr (by decide) (by rfl) (pa_cons (pc_f (c_law_answer T) hr (by decide) (by rfl) (pa_cons (pv 0) (pa_cons pe_str (pa_cons (pv 6) (pa_cons pe_int (pa_cons pe_int (pa_cons pe_str pa_nil))))))) (pa_cons (pv 7) pa_nil))))) (pss_one (ps_ret pe_bl)) pss_nil)))))
      (pss_cons (ps_set (i := 8) sc_law_columns.nd rfl (.inl rfl) (pc_f (c_law_digits T) hr (by decide) (by rfl) (pa_cons (pv 1) (pa_cons (pc_f (c_law_draw T) hr (by decide) (by rfl) (pa_cons (pv 2) (pa_cons (pe_ix (kix_tup K) (pv 1) pe_int (fun _ _ => rfl)) pa_nil))) pa_nil))))
      (pss_cons (ps_for (passes_of rfl) (by rfl) (kpi_list K (pe_lst (pa_cons pe_str (pa_cons (pe_op op_add_str (pv 8) pe_str) (pa_cons (pe_slice sl_str (pv 8) (po_some pe_int) po_none) (pa_cons (pe_op op_add_str (pe_slice sl_str (pv 8) (po_some pe_int) po_none) pe_str) (pa_cons (pc_f (c_law_spoilt T) hr (by decide) (by rfl) (pa_cons (pv 2) (pa_cons (pv 8) pa_nil))) (pa_cons (pc_f (c_law_sign T) hr (by decide) (by rfl) (pa_cons (pv 2) pa_nil)) pa_nil)))))))) (pg_name (i := 6) sc_law_columns.nd rfl (.inl rfl)) (pss_cons (ps_set (i := 7) sc_law_columns.nd rfl (.inl rfl) (pe_tup (pa_cons pe_str (pa_cons pe_int (pa_cons (pv 6) pa_nil)))))
      (C8.pss_cut (ps_if (PW.pt (pw_and (pt_cmpR op_eq (pe_callB call_len_str (by rfl) T.b_len (by decide +kernel) (pa_cons (pv 6) pa_nil)) (pe_ix (kix_tup K) (pv 1) pe_int (fun _ _ => rfl)) (nomark _)) (pw_and1 (pt_val (pc_f (c_law_only T) hr (by decide) (by rfl) (pa_cons (pv 6) (pa_cons (pc_f (c_law_colours T) hr (by decide) (by rfl) (pa_cons (pv 1) pa_nil)) pa_nil))))))) (pss_one (ps_set (i := 7) sc_law_columns.nd rfl (.inl rfl) (pe_tup (pa_cons pe_str (pa_cons (pc_f (c_law_letter T) hr (by decide) (by rfl) (pa_cons (pv 1) (pa_cons (pv 6) pa_nil))) pa_nil))))) pss_nil)
      (pss_one (ps_if (pt_not (pt_val (pc_f (c_law_alike T) hr (by decide) (by rfl) (pa_cons (pc_f (c_law_answer T) hr (by decide) (by rfl) (pa_cons (pv 0) (pa_cons pe_str (pa_cons (pv 6) (pa_cons pe_int (pa_cons pe_int (pa_cons pe_str pa_nil))))))) (pa_cons (pv 7) pa_nil))))) (pss_one (ps_ret pe_bl)) pss_nil)))))
      (pss_one (ps_ret pe_bl))))))), ?_⟩
    have gn := good_n sch.2
    have gc := good_c sch.2
    obtain ⟨dx, hp⟩ := sch.1
    have me := fl_no r c n (m := "spots") (by decide +kernel) (by decide +kernel) (by decide +kernel)
    refine ⟨_, rfl, s, _, 2, _, rfl, rfl, size_ix sz, rfl, n, rfl, by omega, by omega, ?_⟩
    refine for_it (walk_range (lo := 0) (n := ((n : Nat) : Int).toNat)) (fun i σ G => Same H G ∧ ∃ v3 v4 : Option V, σ = [some (.ref p), some (.ref s), some (.ref pu), v3, v4, none, none, none, none]) ⟨.refl _, none, none, rfl⟩ (fun _ _ _ _ _ => True.intro) ?_ ?_
    · rintro i u σ G G' hi ⟨s1, v3, v4, rfl⟩ ⟨rfl, rfl⟩
      have hi : i < n := hi
      obtain ⟨dx, hp⟩ := (sch.mono s1).1
      have la : atI (Str.ofString "abcdefghi").cps.toList (0 + (i : Int)) = some (97 + i) := by
        rw [show (0 : Int) + ((i : Nat) : Int) = ((i : Nat) : Int) by omega]
        exact let_at (by omega)
      have ic : isCol n [97 + i] = true := isCol_mk (by unfold inCol; rw [decide_eq_true_iff]; omega)
      have e97 : col0 [97 + i] = i := by
        show 97 + i - 97 = i
        omega
      have ei : (0 : Int) + (i : Int) = ((i : Nat) : Int) := by omega
      refine ⟨_, rfl, p, dx, _, rfl, hp, me, _, rfl, _, _, _, rfl, rfl, by decide +kernel, la, p, r, c, n, [97 + i], rfl, sch.mono s1, by show 1 ≤ 100000; decide, fun _ => ?_, fun e => absurd ic (by rw [e]; decide)⟩
      have mc := fl_no r c n (m := "column") (by decide +kernel) (by decide +kernel) (by decide +kernel)
      have nd : num c (dig r c i) = i := num_dig sch.2 hi
      have hd : isDigs r c (dig r c i) = true := dig_digs (by omega)
      rw [e97]
      refine ⟨_, rfl, p, dx, _, rfl, hp, mc, _, rfl, _, rfl, s, r, c, n, i, (by show [V.ref s, V.int (0 + (i : Int))] = _; rw [ei]), sz.mono s1, p, r, c, n, _, rfl, sch.mono s1, by rw [dig_len]; omega, fun _ G s2 => ?_, fun e => absurd hd (by rw [e]; decide)⟩
      rw [nd]
      refine ⟨by show 2 ≤ sizeLine; decide, fun q1 hq1 => ?_⟩
      have s3 := (s1.trans s2).trans (ex_new (o := .lst [tx (dig r c i), tx [97 + i]]) hq1)
      refine ⟨_, rfl, _, rfl, _, rfl, s, r, c, n, i, (by show [V.ref s, V.int (0 + (i : Int))] = _; rw [ei]), sz.mono s3, _, rfl, _, _, _, rfl, rfl, by decide +kernel, la, by show 2 ≤ sizeLine; decide, fun q2 hq2 => ?_⟩
      refine ⟨.ref q1, .ref q2, .lst [.txt (dig r c i), .txt [97 + i]], rfl, ⟨q1, _, rfl, ex_new hq2 _ _ upd_same, _, _, rfl, rfl, _, _, rfl, rfl, rfl⟩, ⟨q2, _, rfl, upd_same, _, _, rfl, rfl, _, _, rfl, rfl, rfl⟩, by simp [deep, deeps], by simp [big, bigs], _, rfl, iteF ⟨s3.trans (ex_new hq2), _, _, rfl⟩⟩
    · rintro σ G ⟨s1, v3, v4, rfl⟩
      refine ⟨_, rfl, _, rfl, s, _, 2, _, rfl, rfl, size_ix (sz.mono s1), rfl, pu, n, rfl, pmono hpu s1, by omega, by omega, fun d o1 d0 d1 hp1 => ?_⟩
      have q1 := same_pu s1 (Pu.draw hp1)
      obtain ⟨k, rfl⟩ : ∃ k : Nat, (k : Int) = d := ⟨d.toNat, by omega⟩
      have hk : k < n := by omega
      refine ⟨_, _, _, rfl, rfl, by decide +kernel, let_at (by omega), ?_⟩
      have t0 : V.str (Str.ofString "") = tx [] := congrArg V.str lit_e
      have tab : V.str (Str.ofString "ab") = tx [97, 98] := congrArg V.str (by decide +kernel)
      have tj : V.str (Str.ofString "j") = tx [106] := congrArg V.str (by decide +kernel)
      refine ⟨_, rfl, _, rfl, pu, [97 + k], rfl, hp1, by show 1 ≤ 1000; decide, fun m1 G1 hm1 q2 => ⟨_, rfl, pu, rfl, q2.2, fun x1 G2 q3 => ⟨by show 5 ≤ sizeLine; decide, fun L hL => ?_⟩⟩⟩
      have q4 := (q1.trans q2).trans q3
      have q5 := q4.same (ex_new (o := .lst [.str (Str.ofString ""), .str (Str.ofString "ab"), .str (Str.ofString "j"), tx m1, tx [x1]]) hL)
      have hm1 : m1.length ≤ 1000 := Nat.le_trans hm1 (by show 1 + 1 ≤ 1000; decide)
      have hLs : upd G2 L (.lst [.str (Str.ofString ""), .str (Str.ofString "ab"), .str (Str.ofString "j"), tx m1, tx [x1]]) L = some (.lst ([[], [97, 98], [106], m1, [x1]].map tx)) := by
        rw [upd_same, t0, tab, tj]
        rfl
      generalize hG5 : upd G2 L (.lst [.str (Str.ofString ""), .str (Str.ofString "ab"), .str (Str.ofString "j"), tx m1, tx [x1]]) = G5 at q5 hLs
      have hts : ∀ l ∈ [[], [97, 98], [106], m1, [x1]], l.length ≤ 1000 := by
        intro l hl
        simp at hl
        rcases hl with rfl | rfl | rfl | rfl | rfl <;> first | exact hm1 | (show _ ≤ 1000; simp)
      refine ⟨L, rfl, ⟨_, seqL_of hLs⟩, ?_⟩
      generalize hT1 : ([[], [97, 98], [106], m1, [x1]] : List (List Nat)) = T1 at hLs hts
      refine for_it (walk_list (xs := T1.map tx)) (fun i σ G => Same G5 G ∧ ∃ v3 v4 v6 v7 : Option V, σ = [some (.ref p), some (.ref s), some (.ref pu), v3, v4, some (tx [97 + k]), v6, v7, none]) ⟨.refl _, v3, v4, none, none, rfl⟩ (fun i σ G _ h => seqL_of (h.1 _ _ hLs)) ?_ ?_
      · rintro i x σ G G' hi ⟨s6, v3, v4, v6, v7, rfl⟩ ⟨rfl, hx⟩
        rw [List.getElem?_map] at hx
        obtain ⟨l, el, rfl⟩ : ∃ l, T1[i]? = some l ∧ x = tx l := by
          cases e : T1[i]? with
          | none =>
            rw [e] at hx
            cases hx
          | some l =>
            rw [e] at hx
            exact ⟨l, rfl, (Option.some.inj hx).symm⟩
        have hl := hts l (List.mem_of_getElem? el)
        have szG := (sz.pu hpu q5).mono s6
        refine ⟨_, rfl, by show 3 ≤ sizeLine; decide, fun q1 hq1 => ?_⟩
        have s7 := s6.trans (ex_new (o := .tup [.str (Str.ofString "refused"), .int 1, tx l]) hq1)
        refine ⟨fun σ M => Same G5 M ∧ ∃ v, Rp M (dAns r c n l 0 0 (lit "") .spots) v ∧ σ = [some (.ref p), some (.ref s), some (.ref pu), v3, v4, some (tx [97 + k]), some (tx l), some v, none], ?_, ?_⟩
        · have no : isCol n l = false → Rp (upd G' q1 (.tup [.str (Str.ofString "refused"), .int 1, tx l])) (dAns r c n l 0 0 (lit "") .spots) (.ref q1) := by
            intro e
            unfold dAns
            dsimp only
            rw [if_neg (by rw [e]; decide)]
            exact rp_refd hq1 rfl
          refine ⟨_, rfl, _, rfl, szl (by rw [S_len]; omega), rfl, _, rfl, ?_⟩
          rw [S_len]
          by_cases h1 : l.length = 1
          · obtain ⟨x, rfl⟩ := one_in h1
            refine itP (decide_eq_true rfl) ⟨_, rfl, _, rfl, s, r, c, n, [x], rfl, szG.mono (ex_new hq1), fun M s8 => ⟨_, rfl, ?_⟩⟩
            have es : isStrip n [x] = inCol n x := by
              unfold isStrip
              rw [List.all_cons, List.all_nil, Bool.and_true]
            rw [es]
            cases e : inCol n x with
            | false =>
              refine iteF ⟨s7.trans s8, _, (no ?_).mono s8, rfl⟩
              unfold isCol
              rw [List.all_cons, e]
              rfl
            | true =>
              refine iteT ⟨_, rfl, rfl, _, rfl, _, _, rfl, rfl, fun k hk => ?_, fun hk => ?_⟩
              · rw [idx_let gn.1 e] at hk
                cases hk
                refine ⟨s, r, c, n, x - 97, rfl, (szG.mono (ex_new hq1)).mono s8, by show 2 ≤ sizeLine; decide, fun q2 hq2 => ⟨(s7.trans s8).trans (ex_new hq2), _, ?_, rfl⟩⟩
                unfold dAns
                dsimp only
                rw [if_pos (isCol_mk e)]
                exact rp_told hq2 rfl
              · rw [idx_let gn.1 e] at hk
                cases hk
          · refine itN (by rw [decide_eq_false (fun q => h1 (by have := V.int.inj q; omega))]; decide) (iteF ⟨s7, _, no ?_, rfl⟩)
            unfold isCol
            rw [decide_eq_false h1]
            rfl
        · rintro σ M ⟨s8, v, rv, rfl⟩
          have sm := small_ans (n := n) (c := c) gn.2.2.1 l 0 0 (lit "") .spots
          exact ⟨_, rfl, _, rfl, p, r, c, n, .spots, l, 0, 0, lit "", rfl, (sch.pu hpu q5).mono s8, hl, by decide +kernel, fun N v2 s9 rp => ⟨_, rfl, v2, v, _, rfl, rp, rv.mono s9, sm.1, sm.2, _, rfl, iteF ⟨s8.trans s9, _, _, _, _, rfl⟩⟩⟩
      · rintro σ G ⟨s6, v3, v4, v6, v7, rfl⟩
        have q6 := q5.same s6
        have szG := sz.pu hpu q6
        refine ⟨_, rfl, _, rfl, _, rfl, s, _, 2, _, rfl, rfl, size_ix szG, rfl, pu, n, rfl, q6.2, by omega, by omega, fun d2 o2 d0 d1 hp2 => ?_⟩
        have q7 := q6.trans (Pu.draw hp2)
        obtain ⟨k2, rfl⟩ : ∃ k2 : Nat, (k2 : Int) = d2 := ⟨d2.toNat, by omega⟩
        refine ⟨s, r, c, n, k2, rfl, sz.pu hpu q7, ?_⟩
        have dl : (dig r c k2).length = r := dig_len r c k2
        have lS : (S (dig r c k2)).length ≤ sizeLine := szl (by rw [S_len, dl]; omega)
        have l48 : Str.ofString "0" = S [48] := by decide +kernel
        have l51 : Str.ofString "3" = S [51] := by decide +kernel
        refine ⟨_, rfl, _, _, rfl, rfl, szl (by rw [l48, S_len, S_len, dl]; show r + 1 ≤ _; omega), ?_⟩
        rw [l48, S_app]
        refine ⟨_, rfl, _, rfl, _, rfl, lS, ?_⟩
        rw [show cutS (S (dig r c k2)) (some 1) none = S ((dig r c k2).drop 1) from cut_drop _ 1]
        refine ⟨_, rfl, _, rfl, _, rfl, lS, ?_⟩
        rw [show cutS (S (dig r c k2)) (some 1) none = S ((dig r c k2).drop 1) from cut_drop _ 1]
        refine ⟨_, _, rfl, rfl, szl (by rw [l51, S_len, S_len, List.length_drop, dl]; show r - 1 + 1 ≤ _; omega), ?_⟩
        rw [l51, S_app]
        refine ⟨_, rfl, _, rfl, pu, dig r c k2, rfl, q7.2, by rw [dl]; omega, fun m2 G1 hm2 q8 => ⟨_, rfl, pu, rfl, q8.2, fun x2 G2 q9 => ⟨by show 6 ≤ sizeLine; decide, fun L hL => ?_⟩⟩⟩
        have q10 := ((q7.trans q8).trans q9).same (ex_new (o := .lst [.str (Str.ofString ""), tx (dig r c k2 ++ [48]), tx ((dig r c k2).drop 1), tx ((dig r c k2).drop 1 ++ [51]), tx m2, tx [x2]]) hL)
        have hLs : upd G2 L (.lst [.str (Str.ofString ""), tx (dig r c k2 ++ [48]), tx ((dig r c k2).drop 1), tx ((dig r c k2).drop 1 ++ [51]), tx m2, tx [x2]]) L = some (.lst ([[], dig r c k2 ++ [48], (dig r c k2).drop 1, (dig r c k2).drop 1 ++ [51], m2, [x2]].map tx)) := by
          rw [upd_same, t0]
          rfl
        generalize hG6 : upd G2 L (.lst [.str (Str.ofString ""), tx (dig r c k2 ++ [48]), tx ((dig r c k2).drop 1), tx ((dig r c k2).drop 1 ++ [51]), tx m2, tx [x2]]) = G6 at q10 hLs
        have hts : ∀ l ∈ [[], dig r c k2 ++ [48], (dig r c k2).drop 1, (dig r c k2).drop 1 ++ [51], m2, [x2]], l.length ≤ 1000 := by
          intro l hl
          simp only [List.mem_cons, List.not_mem_nil, or_false] at hl
          rcases hl with rfl | rfl | rfl | rfl | rfl | rfl <;> (try simp only [List.length_append, List.length_drop, List.length_cons, List.length_nil, dl]) <;> omega
        refine ⟨L, rfl, ⟨_, seqL_of hLs⟩, ?_⟩
        generalize hT2 : ([[], dig r c k2 ++ [48], (dig r c k2).drop 1, (dig r c k2).drop 1 ++ [51], m2, [x2]] : List (List Nat)) = T2 at hLs hts
        refine for_it (walk_list (xs := T2.map tx)) (fun i σ G => Same G6 G ∧ ∃ v3 v4 v5 v6 v7 v8 : Option V, σ = [some (.ref p), some (.ref s), some (.ref pu), v3, v4, v5, v6, v7, v8]) ⟨.refl _, v3, v4, _, v6, v7, _, rfl⟩ (fun i σ G _ h => seqL_of (h.1 _ _ hLs)) ?_ ?_
        · rintro i x σ G G' hi ⟨s6, v3, v4, v5, v6, v7, v8, rfl⟩ ⟨rfl, hx⟩
          rw [List.getElem?_map] at hx
          obtain ⟨l, el, rfl⟩ : ∃ l, T2[i]? = some l ∧ x = tx l := by
            cases e : T2[i]? with
            | none =>
              rw [e] at hx
              cases hx
            | some l =>
              rw [e] at hx
              exact ⟨l, rfl, (Option.some.inj hx).symm⟩
          have hl := hts l (List.mem_of_getElem? el)
          have szG := (sz.pu hpu q10).mono s6
          refine ⟨_, rfl, by show 3 ≤ sizeLine; decide, fun q1 hq1 => ?_⟩
          have s7 := s6.trans (ex_new (o := .tup [.str (Str.ofString "refused"), .int 2, tx l]) hq1)
          have sz7 := szG.mono (ex_new (o := .tup [.str (Str.ofString "refused"), .int 2, tx l]) hq1)
          refine ⟨fun σ M => Same G6 M ∧ ∃ v, Rp M (dAns r c n l 0 0 (lit "") .column) v ∧ σ = [some (.ref p), some (.ref s), some (.ref pu), v3, v4, v5, some (tx l), some v, v8], ?_, ?_⟩
          · have no : isDigs r c l = false → Rp (upd G' q1 (.tup [.str (Str.ofString "refused"), .int 2, tx l])) (dAns r c n l 0 0 (lit "") .column) (.ref q1) := by
              intro e
              unfold dAns
              dsimp only
              rw [if_neg (by rw [e]; decide)]
              exact rp_refd hq1 rfl
            refine ⟨_, rfl, _, rfl, szl (by rw [S_len]; omega), _, rfl, s, _, 0, _, rfl, rfl, size_ix sz7, rfl, rfl, _, rfl, ?_⟩
            rw [S_len]
            by_cases h1 : l.length = r
            · have e9 : l.all (digs c).contains = l.all (inDig c) := by
                congr 1
                funext x
                exact contains_digs c x
              refine itP (decide_eq_true (by rw [h1])) ⟨_, rfl, _, rfl, s, r, c, n, rfl, sz7, fun cq hcq => ⟨cq, l, digs c, rfl, upd_same, _, rfl, ?_⟩⟩
              have s8 := s7.trans (ex_new (o := .lst ((digs c).map fun x => tx [x])) hcq)
              have s9 := ex_new (o := .lst ((digs c).map fun x => tx [x])) hcq
              rw [e9]
              cases e : l.all (inDig c) with
              | false =>
                refine iteF ⟨s8, _, (no ?_).mono s9, rfl⟩
                unfold isDigs
                rw [e, Bool.and_false]
              | true =>
                have hd : isDigs r c l = true := by
                  unfold isDigs
                  rw [e, Bool.and_true, decide_eq_true h1]
                refine iteT ⟨_, rfl, _, rfl, s, r, c, n, l, rfl, sz7.mono s9, hd, by show 2 ≤ sizeLine; decide, fun q2 hq2 => ⟨s8.trans (ex_new hq2), _, ?_, rfl⟩⟩
                unfold dAns
                dsimp only
                rw [if_pos hd]
                exact rp_told hq2 rfl
            · refine itN (by rw [decide_eq_false (fun q => h1 (by have := V.int.inj q; omega))]; decide) (iteF ⟨s7, _, no ?_, rfl⟩)
              unfold isDigs
              rw [decide_eq_false h1]
              rfl
          · rintro σ M ⟨s8, v, rv, rfl⟩
            have sm := small_ans (n := n) (c := c) gn.2.2.1 l 0 0 (lit "") .column
            exact ⟨_, rfl, _, rfl, p, r, c, n, .column, l, 0, 0, lit "", rfl, (sch.pu hpu q10).mono s8, hl, by decide +kernel, fun N v2 s9 rp => ⟨_, rfl, v2, v, _, rfl, rp, rv.mono s9, sm.1, sm.2, _, rfl, iteF ⟨s8.trans s9, _, _, _, _, _, _, rfl⟩⟩⟩
        · rintro σ G ⟨s6, v3, v4, v5, v6, v7, v8, rfl⟩
          exact z _ (q10.same s6)
end
end K00

end
section
set_option Elab.async false
set_option linter.all false
set_option maxRecDepth 100000
set_option maxHeartbeats 4000000
namespace K00
open PySem PySem.Spec PyProof.Rows L2 Kit
section
variable {P : Program} {w : World} {K : PySem.W.Frag} {mg : Str → Option Value} {base : Heap} {a : Ad}
theorem cutV_S (xs : List V) (lo hi : Option Int) : cutV xs lo hi = (xs.drop (HT.sIx xs.length 0 lo)).take (HT.sIx xs.length xs.length hi - HT.sIx xs.length 0 lo) := rfl
theorem cutV_take (xs : List V) {d : Int} (h : 0 ≤ d) : cutV xs none (some d) = xs.take d.toNat := by
  obtain ⟨k, rfl⟩ : ∃ k : Nat, (k : Int) = d := ⟨d.toNat, by omega⟩
  rw [cutV_S, sIx_some, sIx_none, List.drop_zero, Nat.sub_zero]
  show xs.take (min k xs.length) = xs.take k
  by_cases h : k ≤ xs.length
  · rw [Nat.min_eq_left h]
  · rw [Nat.min_eq_right (by omega), List.take_length, List.take_of_length_le (by omega)]
theorem cutV_drop (xs : List V) {d : Int} (h : 0 ≤ d) : cutV xs (some d) none = xs.drop d.toNat := by
  obtain ⟨k, rfl⟩ : ∃ k : Nat, (k : Int) = d := ⟨d.toNat, by omega⟩
  rw [cutV_S, sIx_some, sIx_none]
  show (xs.drop (min k xs.length)).take (xs.length - min k xs.length) = xs.drop k
  by_cases h : k ≤ xs.length
  · rw [Nat.min_eq_left h, List.take_of_length_le (by simp)]
  · rw [Nat.min_eq_right (by omega), List.drop_length, List.drop_of_length_le (by omega), List.take_nil]
theorem cutM_take (ls : List (List Nat)) {d : Int} (h : 0 ≤ d) : cutV (ls.map tx) none (some d) = (ls.take d.toNat).map tx := by
  rw [cutV_take _ h, List.map_take]
theorem cutM_drop (ls : List (List Nat)) {d : Int} (h : 0 ≤ d) : cutV (ls.map tx) (some d) none = (ls.drop d.toNat).map tx := by
  rw [cutV_drop _ h, List.map_drop]
theorem Pu.free {p b : Addr} {H G : Hp} (h : Pu p H G) (e : G b = none) : H b = none := by
  cases k : H b with
  | none => rfl
  | some o =>
    by_cases q : b = p
    · obtain ⟨_, _, _, y, _⟩ := h.2
      rw [q, y] at e
      cases e
    · rw [h.1 b o k q] at e
      cases e
theorem Pu.at {p b : Addr} {H G : Hp} {o : HO} (h : Pu p H G) (e : H b = some o) (ne : b ≠ p) : G b = some o := h.1 b o e ne
def spBent : Sp := fun vs H Q _ => ∃ (pu q : Addr) (ls : List (List Nat)) (B : Nat), vs = [.ref pu, .ref q] ∧ PurseAt H pu ∧ q ≠ pu ∧ H q = some (.lst (ls.map tx)) ∧ ls.length ≤ 90 ∧ (∀ l ∈ ls, l.length ≤ B) ∧ B ≤ 900 ∧
  ∀ (G : Hp) (b : Addr) (ms : List (List Nat)), Pu pu H G → G b = some (.lst (ms.map tx)) → H b = none → ms.length ≤ ls.length + 1 → (∀ m ∈ ms, m.length ≤ B + 1) → Q (.ref b) G
theorem c_law_bent (T : Txt K mg a) : Can P w K mg base 4 "_law_bent" spBent := by
  refine can_of T.d_law_bent sc_law_bent bd_law_bent (fun vs H Q E h => ?_) (fun f cdv A outer s H vs Q E hr h => ?_)
  · obtain ⟨pu, q, ls, B, rfl, _⟩ := h
    rfl
  · obtain ⟨pu, q, ls, B, rfl, hpu, nq, hq, hl, hb, hB, z⟩ := h
    refine ⟨_, (pss_cons (ps_set (i := 2) sc_law_bent.nd rfl (.inl rfl) (pc_f (c_law_draw T) hr (by decide) (by rfl) (pa_cons (pv 0) (pa_cons pe_int pa_nil))))
      (pss_cons (ps_set (i := 3) sc_law_bent.nd rfl (.inl rfl) (pc_f (c_law_draw T) hr (by decide) (by rfl) (pa_cons (pv 0) (pa_cons (pe_op op_add (pe_callB (klen_seq K) (by rfl) T.b_len (by decide +kernel) (pa_cons (pv 1) pa_nil)) pe_int) pa_nil))))
      (pss_cons (ps_if (pt_cmpR op_eq (pv 2) pe_int (nomark _)) (pss_one (ps_ret (pe_op op_cat (pe_slice (ksl_list K) (pv 1) po_none (po_some (pv 3))) (pe_slice (ksl_list K) (pv 1) (po_some (pe_op op_add (pv 3) pe_int)) po_none)))) pss_nil)
      (pss_cons (ps_if (pt_cmpR op_eq (pv 2) pe_int (nomark _)) (pss_one (ps_ret (pe_op op_cat (pe_op op_cat (pe_slice (ksl_list K) (pv 1) po_none (po_some (pv 3))) (pe_slice (ksl_list K) (pv 1) po_none (po_some pe_int))) (pe_slice (ksl_list K) (pv 1) (po_some (pv 3)) po_none)))) pss_nil)
      (pss_cons (ps_if (pt_cmpR op_eq (pv 2) pe_int (nomark _)) (pss_one (ps_ret (pe_op op_cat (pe_op op_cat (pe_slice (ksl_list K) (pv 1) po_none (po_some (pv 3))) (pe_lst (pa_cons (pc_f (c_law_sign T) hr (by decide) (by rfl) (pa_cons (pv 0) pa_nil)) pa_nil))) (pe_slice (ksl_list K) (pv 1) (po_some (pv 3)) po_none)))) pss_nil)
      (pss_cons (ps_if (pt_cmpR op_eq (pv 3) (pe_callB (klen_seq K) (by rfl) T.b_len (by decide +kernel) (pa_cons (pv 1) pa_nil)) (nomark _)) (pss_one (ps_ret (pe_slice (ksl_list K) (pv 1) po_none (po_some pe_int)))) pss_nil)
      (pss_one (ps_ret (pe_op op_cat (pe_op op_cat (pe_slice (ksl_list K) (pv 1) po_none (po_some (pv 3))) (pe_lst (pa_cons (pc_f (c_law_spoilt T) hr (by decide) (by rfl) (pa_cons (pv 0) (pa_cons (pe_ix (kix_list K) (pv 1) (pv 3) (fun _ _ => rfl)) pa_nil))) pa_nil))) (pe_slice (ksl_list K) (pv 1) (po_some (pe_op op_add (pv 3) pe_int)) po_none)))))))))), ?_⟩
    have lenM : (ls.map tx).length = ls.length := List.length_map ..
    refine ⟨_, rfl, pu, 6, rfl, hpu, by decide, by decide, fun d o d0 d1 hp1 => ?_⟩
    have q1 := Pu.draw (H := H) hp1
    refine ⟨_, rfl, _, rfl, q, _, rfl, .inl (seqL_of (q1.at hq nq)), _, _, rfl, rfl, pu, _, rfl, hp1, by rw [lenM]; omega, by rw [lenM]; omega, fun e o2 e0 e1 hp2 => ?_⟩
    rw [lenM] at e1
    have q2 := q1.trans (Pu.draw hp2)
    generalize hG : upd (upd H pu o) pu o2 = G at q2
    have hqG := q2.at hq nq
    have inT : ∀ {k : Nat} {m : List Nat}, m ∈ ls.take k → m.length ≤ B + 1 := fun h => Nat.le_succ_of_le (hb _ (List.mem_of_mem_take h))
    have inD : ∀ {k : Nat} {m : List Nat}, m ∈ ls.drop k → m.length ≤ B + 1 := fun h => Nat.le_succ_of_le (hb _ (List.mem_of_mem_drop h))
    have fin : ∀ (M : Hp) (b : Addr) (ms : List (List Nat)), Pu pu H M → M b = none → ms.length ≤ ls.length + 1 → (∀ m ∈ ms, m.length ≤ B + 1) → Q (.ref b) (upd M b (.lst (ms.map tx))) := fun M b ms p1 p2 p3 p4 => z _ b ms (p1.same (ex_new p2)) upd_same (p1.free p2) p3 p4
    have ct := cutM_take ls e0
    have cd := cutM_drop ls e0
    have cd1 := cutM_drop ls (d := e + 1) (by omega)
    have c1 : cutV (ls.map tx) none (some 1) = (ls.take 1).map tx := cutM_take ls (by decide)
    have c0 : cutV (ls.map tx) none (some 0) = (ls.take 0).map tx := cutM_take ls (by decide)
    refine ⟨_, rfl, rfl, _, rfl, ?_⟩
    refine ite2 (fun _ => ?_) (fun _ => ?_)
    · refine ⟨_, rfl, _, rfl, _, rfl, q, _, rfl, seqL_of hqG, fun b1 h1 => ?_⟩
      rw [ct]
      have t1 := ex_new (o := .lst ((ls.take e.toNat).map tx)) h1
      refine ⟨_, rfl, _, rfl, _, _, rfl, rfl, _, rfl, q, _, rfl, seqL_of (t1 _ _ hqG), fun b2 h2 => ?_⟩
      rw [cd1]
      have t2 := ex_new (o := .lst ((ls.drop (e + 1).toNat).map tx)) h2
      refine ⟨b1, b2, _, _, rfl, rfl, t2 _ _ upd_same, upd_same, szl (by simp only [List.length_map, List.length_take, List.length_drop]; omega), fun b3 h3 => ?_⟩
      rw [← List.map_append]
      refine fin _ b3 _ ((q2.same t1).same t2) h3 (by simp only [List.length_append, List.length_take, List.length_drop]; omega) fun m hm => ?_
      rcases List.mem_append.mp hm with hm | hm
      · exact inT hm
      · exact inD hm
    refine ⟨_, rfl, rfl, _, rfl, ?_⟩
    refine ite2 (fun _ => ?_) (fun _ => ?_)
    · refine ⟨_, rfl, _, rfl, _, rfl, q, _, rfl, seqL_of hqG, fun b1 h1 => ?_⟩
      rw [ct]
      have t1 := ex_new (o := .lst ((ls.take e.toNat).map tx)) h1
      refine ⟨_, rfl, _, rfl, q, _, rfl, seqL_of (t1 _ _ hqG), fun b2 h2 => ?_⟩
      rw [c1]
      have t2 := ex_new (o := .lst ((ls.take 1).map tx)) h2
      refine ⟨b1, b2, _, _, rfl, rfl, t2 _ _ upd_same, upd_same, szl (by simp only [List.length_map, List.length_take, List.length_drop]; omega), fun b3 h3 => ?_⟩
      rw [← List.map_append]
      have t3 := ex_new (o := .lst ((ls.take e.toNat ++ ls.take 1).map tx)) h3
      have t123 := t1.trans (t2.trans t3)
      refine ⟨_, rfl, _, rfl, _, rfl, q, _, rfl, seqL_of (t123 _ _ hqG), fun b4 h4 => ?_⟩
      rw [cd]
      have t4 := ex_new (o := .lst ((ls.drop e.toNat).map tx)) h4
      refine ⟨b3, b4, _, _, rfl, rfl, t4 _ _ upd_same, upd_same, szl (by simp only [List.length_append, List.length_map, List.length_take, List.length_drop]; omega), fun b5 h5 => ?_⟩
      rw [← List.map_append]
      refine fin _ b5 _ ((q2.same t123).same t4) h5 (by simp only [List.length_append, List.length_take, List.length_drop]; omega) fun m hm => ?_
      rcases List.mem_append.mp hm with hm | hm
      · rcases List.mem_append.mp hm with hm | hm
        · exact inT hm
        · exact inT hm
      · exact inD hm
    refine ⟨_, rfl, rfl, _, rfl, ?_⟩
    refine ite2 (fun _ => ?_) (fun _ => ?_)
    · refine ⟨_, rfl, _, rfl, _, rfl, q, _, rfl, seqL_of hqG, fun b1 h1 => ?_⟩
      rw [ct]
      have t1 := ex_new (o := .lst ((ls.take e.toNat).map tx)) h1
      refine ⟨_, rfl, pu, rfl, (q2.same t1).2, fun x M q3 => ⟨by show 1 ≤ sizeLine; decide, fun b2 h2 => ?_⟩⟩
      have n1 : b1 ≠ pu := fun q => by
        obtain ⟨_, _, _, y, _⟩ := q2.2
        rw [q, y] at h1
        cases h1
      have t2 := ex_new (o := .lst [tx [x]]) h2
      have hb1 := t2 _ _ (q3.at upd_same n1)
      have q4 := ((q2.same t1).trans q3).same t2
      refine ⟨b1, b2, _, _, rfl, rfl, hb1, upd_same, szl (by simp only [List.length_map, List.length_take, List.length_drop, List.length_cons, List.length_nil]; omega), fun b3 h3 => ?_⟩
      rw [show (ls.take e.toNat).map tx ++ [tx [x]] = (ls.take e.toNat ++ [[x]]).map tx from by rw [List.map_append]; rfl]
      have t3 := ex_new (o := .lst ((ls.take e.toNat ++ [[x]]).map tx)) h3
      have q5 := q4.same t3
      refine ⟨_, rfl, _, rfl, _, rfl, q, _, rfl, seqL_of (q5.at hq nq), fun b4 h4 => ?_⟩
      rw [cd]
      have t4 := ex_new (o := .lst ((ls.drop e.toNat).map tx)) h4
      refine ⟨b3, b4, _, _, rfl, rfl, t4 _ _ upd_same, upd_same, szl (by simp only [List.length_append, List.length_map, List.length_take, List.length_drop, List.length_cons, List.length_nil]; omega), fun b5 h5 => ?_⟩
      rw [← List.map_append]
      refine fin _ b5 _ (q5.same t4) h5 (by simp only [List.length_append, List.length_take, List.length_drop, List.length_cons, List.length_nil]; omega) fun m hm => ?_
      rcases List.mem_append.mp hm with hm | hm
      · rcases List.mem_append.mp hm with hm | hm
        · exact inT hm
        · simp at hm
          subst hm
          show 1 ≤ B + 1
          omega
      · exact inD hm
    refine ⟨_, rfl, _, rfl, q, _, rfl, .inl (seqL_of hqG), rfl, _, rfl, ?_⟩
    rw [lenM]
    refine ite2 (fun _ => ?_) (fun he => ?_)
    · refine ⟨_, rfl, _, rfl, q, _, rfl, seqL_of hqG, fun b1 h1 => ?_⟩
      rw [c0]
      exact fin _ b1 _ q2 h1 (by simp) (fun m hm => inT hm)
    have he : e.toNat < ls.length := by
      have : ¬ (e = ls.length) := fun q => he (decide_eq_true (by rw [q]))
      omega
    refine ⟨_, rfl, _, rfl, _, rfl, q, _, rfl, seqL_of hqG, fun b1 h1 => ?_⟩
    rw [ct]
    have t1 := ex_new (o := .lst ((ls.take e.toNat).map tx)) h1
    have hix : atI (ls.map tx) e = some (tx ls[e.toNat]) := by
      have := atI_nat (xs := ls.map tx) (j := e.toNat) (v := tx ls[e.toNat]) (by rw [List.getElem?_map, List.getElem?_eq_getElem he]; rfl)
      rwa [show ((e.toNat : Nat) : Int) = e by omega] at this
    have hbe := hb ls[e.toNat] (List.getElem_mem _)
    refine ⟨_, rfl, _, rfl, _, rfl, q, _, _, _, rfl, rfl, seqL_of (t1 _ _ hqG), hix, pu, ls[e.toNat], rfl, (q2.same t1).2, by omega, fun m0 M hm0 q3 => ⟨by show 1 ≤ sizeLine; decide, fun b2 h2 => ?_⟩⟩
    have n1 : b1 ≠ pu := fun q => by
      obtain ⟨_, _, _, y, _⟩ := q2.2
      rw [q, y] at h1
      cases h1
    have t2 := ex_new (o := .lst [tx m0]) h2
    have hb1 := t2 _ _ (q3.at upd_same n1)
    have q4 := ((q2.same t1).trans q3).same t2
    refine ⟨b1, b2, _, _, rfl, rfl, hb1, upd_same, szl (by simp only [List.length_map, List.length_take, List.length_drop, List.length_cons, List.length_nil]; omega), fun b3 h3 => ?_⟩
    rw [show (ls.take e.toNat).map tx ++ [tx m0] = (ls.take e.toNat ++ [m0]).map tx from by rw [List.map_append]; rfl]
    have t3 := ex_new (o := .lst ((ls.take e.toNat ++ [m0]).map tx)) h3
    have q5 := q4.same t3
    refine ⟨_, rfl, _, rfl, _, _, rfl, rfl, _, rfl, q, _, rfl, seqL_of (q5.at hq nq), fun b4 h4 => ?_⟩
    rw [cd1]
    have t4 := ex_new (o := .lst ((ls.drop (e + 1).toNat).map tx)) h4
    refine ⟨b3, b4, _, _, rfl, rfl, t4 _ _ upd_same, upd_same, szl (by simp only [List.length_append, List.length_map, List.length_take, List.length_drop, List.length_cons, List.length_nil]; omega), fun b5 h5 => ?_⟩
    rw [← List.map_append]
    refine fin _ b5 _ (q5.same t4) h5 (by simp only [List.length_append, List.length_take, List.length_drop, List.length_cons, List.length_nil]; omega) fun m hm => ?_
    rcases List.mem_append.mp hm with hm | hm
    · rcases List.mem_append.mp hm with hm | hm
      · exact inT hm
      · simp at hm
        subst hm
        omega
    · exact inD hm
end
end K00

end
section
set_option Elab.async false
set_option linter.all false
set_option maxRecDepth 100000
set_option maxHeartbeats 4000000
namespace K00
open PySem PySem.Spec PyProof.Rows L2 Kit
section
variable {P : Program} {w : World} {K : PySem.W.Frag} {mg : Str → Option Value} {base : Heap} {a : Ad}
theorem rowsOf_lines {r c : Nat} {l : List Nat} : ∀ m ∈ rowsOf r c l, m.length = l.length := by
  intro m hm
  unfold rowsOf at hm
  rw [List.mem_map] at hm
  obtain ⟨j, _, rfl⟩ := hm
  exact List.length_map ..
theorem free_ne {H : Hp} {b p : Addr} (h : H b = none) (hp : PurseAt H p) : b ≠ p := fun q => by
  obtain ⟨_, _, _, y, _⟩ := hp
  rw [q, y] at h
  cases h
def spPictures (a : Ad) : Sp := fun vs H Q _ => ∃ (p s pu : Addr) (r c n : Nat) (l : List Nat), vs = [.ref p, .ref s, tx l, .ref pu] ∧ SchemeAt a.Scheme H p r c n ∧ SizeAt H s r c n ∧ PurseAt H pu ∧ l.length ≤ 800 ∧ isStrip n l = true ∧ ∀ G, Pu pu H G → Q (.bl true) G
theorem c_law_pictures (T : Txt K mg a) : Can P w K mg base 7 "_law_pictures" (spPictures a) := by
  refine can_of T.d_law_pictures sc_law_pictures bd_law_pictures (fun vs H Q E h => ?_) (fun f cdv A outer s H vs Q E hr h => ?_)
  · obtain ⟨p, s, pu, r, c, n, l, rfl, _⟩ := h
    rfl
  · obtain ⟨p, s, pu, r, c, n, l, rfl, sch, sz, hpu, hl, hst, z⟩ := h
    refine ⟨_, (pss_cons (ps_set (i := 4) sc_law_pictures.nd rfl (.inl rfl) (pc_f (c_law_lines T) hr (by decide) (by rfl) (pa_cons (pv 1) (pa_cons (pv 2) pa_nil))))
      (pss_cons (ps_set (i := 5) sc_law_pictures.nd rfl (.inl rfl) (pc_m (c_Scheme_picture T) hr (by decide) (pv 0) (pa_cons (pv 2) pa_nil)))
      (pss_cons (ps_if (pt_not (pt_val (pc_f (c_law_alike T) hr (by decide) (by rfl) (pa_cons (pv 5) (pa_cons (pv 4) pa_nil))))) (pss_one (ps_ret pe_bl)) pss_nil)
      (pss_cons (ps_expr (pe_bm PySem.F.plainAttrs_list PySem.F.slot_list_append PySem.F.type_list_append mt_append (pv 5) (pa_cons pe_str pa_nil)))
      (pss_cons (ps_if (pt_not (pt_val (pc_f (c_law_alike T) hr (by decide) (by rfl) (pa_cons (pc_m (c_Scheme_picture T) hr (by decide) (pv 0) (pa_cons (pv 2) pa_nil)) (pa_cons (pv 4) pa_nil))))) (pss_one (ps_ret pe_bl)) pss_nil)
      (pss_cons (ps_set (i := 6) sc_law_pictures.nd rfl (.inl rfl) (pe_callTy (klist_of K) (by rfl) T.b_list (by decide +kernel) (pa_cons (pv 4) pa_nil)))
      (pss_cons (ps_for (passes_of rfl) (by rfl) (pi_range1 (by rfl) T.b_range (pa_cons pe_int pa_nil)) (pg_name (i := 7) sc_law_pictures.nd rfl (.inl rfl)) (pss_cons (ps_set (i := 8) sc_law_pictures.nd rfl (.inl rfl) (pe_callTy (klist_of K) (by rfl) T.b_list (by decide +kernel) (pa_cons (pv 6) pa_nil)))
      (pss_cons (ps_if (PW.pt (pw_or (pt_not (pt_val (pc_f (c_law_alike T) hr (by decide) (by rfl) (pa_cons (pc_f (c_law_seen T) hr (by decide) (by rfl) (pa_cons (pv 0) (pa_cons (pv 8) pa_nil))) (pa_cons (pc_f (c_law_seen_due T) hr (by decide) (by rfl) (pa_cons (pv 1) (pa_cons (pv 6) pa_nil))) pa_nil))))) (pw_or1 (pt_cmpR (kneP K hr.units) (pv 8) (pv 6) (nomark _))))) (pss_one (ps_ret pe_bl)) pss_nil)
      (pss_one (ps_set (i := 6) sc_law_pictures.nd rfl (.inl rfl) (pc_f (c_law_bent T) hr (by decide) (by rfl) (pa_cons (pv 3) (pa_cons (pv 6) pa_nil))))))))
      (pss_one (ps_ret (pc_f (c_law_alike T) hr (by decide) (by rfl) (pa_cons (pc_f (c_law_seen T) hr (by decide) (by rfl) (pa_cons (pv 0) (pa_cons (pe_lst pa_nil) pa_nil))) (pa_cons (pe_tup (pa_cons pe_str (pa_cons pe_int (pa_cons pe_int pa_nil)))) pa_nil)))))))))))), ?_⟩
    have gn := good_n sch.2
    obtain ⟨dx, hp⟩ := sch.1
    have me := fl_no r c n (m := "picture") (by decide +kernel) (by decide +kernel) (by decide +kernel)
    have smL : deep (.lst ((rowsOf r c l).map .txt)) < 4 ∧ big (.lst ((rowsOf r c l).map .txt)) ≤ 10000 := by
      simp [deep, big, deeps_txt, bigs_txt, rowsOf_len]
      omega
    refine ⟨_, rfl, _, rfl, s, r, c, n, l, rfl, sz, by omega, hst, fun G1 q1 s1 hq1 hL1 => ?_⟩
    obtain ⟨dx1, hp1⟩ := (sch.mono s1).1
    refine ⟨_, rfl, p, dx1, _, rfl, hp1, me, _, rfl, p, r, c, n, l, rfl, sch.mono s1, by omega, fun _ G2 q2 s2 hq2 hL2 => ?_, fun e => absurd hst (by rw [e]; decide)⟩
    refine ⟨_, rfl, _, rfl, .ref q2, .ref q1, .lst ((rowsOf r c l).map .txt), rfl, ⟨q2, _, rfl, hL2, Rps.txts _⟩, ⟨q1, _, rfl, s2 _ _ hL1, Rps.txts _⟩, smL.1, smL.2, _, rfl, iteF ?_⟩
    refine ⟨_, rfl, .inl ⟨rfl, _, seqL_of hL2⟩, q2, _, _, rfl, rfl, hL2, szlt (by rw [List.length_map, rowsOf_len]; omega), ?_⟩
    have s3 : Same G1 (upd G2 q2 (.lst ((rowsOf r c l).map tx ++ [.str (Str.ofString "0")]))) := ex_mut s2 hq2
    have s13 := s1.trans s3
    obtain ⟨dx3, hp3⟩ := (sch.mono s13).1
    refine ⟨_, rfl, p, dx3, _, rfl, hp3, me, _, rfl, p, r, c, n, l, rfl, sch.mono s13, by omega, fun _ G4 q4 s4 hq4 hL4 => ?_, fun e => absurd hst (by rw [e]; decide)⟩
    have hL14 := s4 _ _ (s3 _ _ hL1)
    refine ⟨_, rfl, .ref q4, .ref q1, .lst ((rowsOf r c l).map .txt), rfl, ⟨q4, _, rfl, hL4, Rps.txts _⟩, ⟨q1, _, rfl, hL14, Rps.txts _⟩, smL.1, smL.2, _, rfl, iteF ?_⟩
    refine ⟨_, rfl, q1, _, rfl, .inl (seqL_of hL14), fun q5 hq5 => ?_⟩
    have s5 := (s13.trans s4).trans (ex_new (o := .lst ((rowsOf r c l).map tx)) hq5)
    have p5 := pmono hpu s5
    refine ⟨4, rfl, by decide, by decide, ?_⟩
    refine for_it (walk_range (lo := 0) (n := 4)) (fun i σ G => Pu pu H G ∧ ∃ (b : Addr) (ls : List (List Nat)) (v1 v2 : Option V), σ = [some (.ref p), some (.ref s), some (tx l), some (.ref pu), some (.ref q1), some (.ref q2), some (.ref b), v1, v2] ∧ b ≠ pu ∧ G b = some (.lst (ls.map tx)) ∧ ls.length ≤ 3 + i ∧ ∀ m ∈ ls, m.length ≤ 800 + i) ⟨?_, q5, rowsOf r c l, none, none, rfl, ?_, upd_same, ?_, ?_⟩ (fun _ _ _ _ _ => True.intro) ?_ ?_
    · exact same_pu s5 (Pu.refl p5)
    · exact fun q => free_ne hq5 (pmono hpu (s13.trans s4)) q
    · rw [rowsOf_len]
      omega
    · intro m hm
      rw [rowsOf_lines m hm]
      omega
    · rintro i u σ G G' hi ⟨p6, b, ls, v1, v2, rfl, nb, hb, hls, hms⟩ ⟨rfl, rfl⟩
      have hi : i < 4 := hi
      refine ⟨_, rfl, b, _, rfl, .inl (seqL_of hb), fun q6 hq6 => ?_⟩
      have e6 := ex_new (o := .lst (ls.map tx)) hq6
      have p7 := p6.same e6
      have hms2 : ∀ m ∈ ls, m.length ≤ 1000 := fun m hm => by
        have := hms m hm
        omega
      refine ⟨_, rfl, _, rfl, p, q6, r, c, n, ls, rfl, sch.pu hpu p7, upd_same, by omega, hms2, fun G8 v8 s8 rp8 => ?_⟩
      have p8 := p7.same s8
      refine ⟨_, rfl, _, rfl, s, b, r, c, n, ls, rfl, sz.pu hpu p8, s8 _ _ (e6 _ _ hb), by omega, hms2, fun G9 v9 s9 rp9 => ?_⟩
      have p9 := p8.same s9
      have sm := small_seen r c ls
      refine ⟨v8, v9, _, rfl, rp8.mono s9, rp9, sm.1, sm.2, _, rfl, ?_⟩
      have hb9 := s9 _ _ (s8 _ _ (e6 _ _ hb))
      have hq69 := s9 _ _ (s8 _ _ (upd_same (H := G') (a := q6) (o := .lst (ls.map tx))))
      refine iteF ⟨_, rfl, _, rfl, pdL ls, pdL ls, dp_txt hq69, dp_txt hb9, plainL ls, plainL ls, depthL ls, _, rfl, itN (by rw [SeqAt.eqv_refl_plain _ (plainL ls)]; decide) ?_⟩
      refine ⟨_, rfl, _, rfl, pu, b, ls, 800 + i, rfl, p9.2, nb, hb9, by omega, hms, by omega, fun G10 b2 ms p10 hb2 fb h1 h2 => ⟨p9.trans p10, b2, ms, _, _, rfl, free_ne fb p9.2, hb2, by omega, fun m hm => by have := h2 m hm; omega⟩⟩
    · rintro σ G ⟨p6, b, ls, v1, v2, rfl, nb, hb, hls, hms⟩
      refine ⟨_, rfl, by show 0 ≤ sizeLine; decide, fun q7 hq7 => ?_⟩
      have p7 := p6.same (ex_new (o := .lst []) hq7)
      refine ⟨p, q7, r, c, n, [], rfl, sch.pu hpu p7, upd_same, by decide, nofun, fun G8 v8 s8 rp8 => ⟨by show 3 ≤ sizeLine; decide, fun q8 hq8 => ?_⟩⟩
      have e0 : dSeen r c [] = refd 4 (.int 1) := by
        unfold dSeen
        rw [show firstBad r c [] = none from rfl]
        dsimp only
        rw [if_pos (by show 0 < r; omega)]
        rfl
      rw [e0] at rp8
      have e8 := ex_new (o := .tup [.str (Str.ofString "refused"), .int 4, .int 1]) hq8
      have sm := small_refi 4 1
      exact ⟨v8, .ref q8, refd 4 (.int 1), rfl, rp8.mono e8, rp_refd hq8 rfl, sm.1, sm.2, z _ ((p7.same s8).same e8)⟩
/-! ### strips -/
def spStrips (a : Ad) : Sp := fun vs H Q _ => ∃ (p s pu : Addr) (r c n : Nat) (l : List Nat), vs = [.ref p, .ref s, tx l, .ref pu] ∧ SchemeAt a.Scheme H p r c n ∧ SizeAt H s r c n ∧ PurseAt H pu ∧ l.length ≤ 800 ∧ ∀ G, Pu pu H G → Q (.bl true) G
theorem c_law_strips (T : Txt K mg a) : Can P w K mg base 7 "_law_strips" (spStrips a) := by
  refine can_of T.d_law_strips sc_law_strips bd_law_strips (fun vs H Q E h => ?_) (fun f cdv A outer s H vs Q E hr h => ?_)
  · obtain ⟨p, s, pu, r, c, n, l, rfl, _⟩ := h
    rfl
  · obtain ⟨p, s, pu, r, c, n, l, rfl, sch, sz, hpu, hl, z⟩ := h
    refine ⟨_, (pss_cons (ps_for (passes_of rfl) (by rfl) (kpi_list K (pe_lst (pa_cons (pv 2) (pa_cons (pc_f (c_law_spoilt T) hr (by decide) (by rfl) (pa_cons (pv 3) (pa_cons (pv 2) pa_nil))) (pa_cons (pe_op op_add_str (pv 2) pe_str) pa_nil))))) (pg_name (i := 4) sc_law_strips.nd rfl (.inl rfl)) (pss_cons (ps_set (i := 5) sc_law_strips.nd rfl (.inl rfl) (pc_f (c_law_is_strip T) hr (by decide) (by rfl) (pa_cons (pv 1) (pa_cons (pv 4) pa_nil))))
      (pss_cons (ps_if (pt_not (pt_val (pc_f (c_law_alike T) hr (by decide) (by rfl) (pa_cons (pc_f (c_law_answer T) hr (by decide) (by rfl) (pa_cons (pv 0) (pa_cons pe_str (pa_cons (pv 4) (pa_cons pe_int (pa_cons pe_int (pa_cons pe_str pa_nil))))))) (pa_cons (pe_tup (pa_cons pe_str (pa_cons (pv 5) pa_nil))) pa_nil))))) (pss_one (ps_ret pe_bl)) pss_nil)
      (pss_cons (ps_set (i := 6) sc_law_strips.nd rfl (.inl rfl) (pe_ifExp (pt_val (pv 5)) (pe_tup (pa_cons pe_str (pa_cons pe_non pa_nil))) (pe_tup (pa_cons pe_str (pa_cons pe_int (pa_cons (pv 4) pa_nil))))))
      (pss_cons (ps_if (pt_not (pt_val (pc_f (c_law_alike T) hr (by decide) (by rfl) (pa_cons (pc_f (c_law_answer T) hr (by decide) (by rfl) (pa_cons (pv 0) (pa_cons pe_str (pa_cons (pv 4) (pa_cons pe_int (pa_cons pe_int (pa_cons pe_str pa_nil))))))) (pa_cons (pv 6) pa_nil))))) (pss_one (ps_ret pe_bl)) pss_nil)
      (pss_cons (ps_set (i := 6) sc_law_strips.nd rfl (.inl rfl) (pe_ifExp (pt_val (pv 5)) (pe_tup (pa_cons pe_str (pa_cons (pc_f (c_law_lines T) hr (by decide) (by rfl) (pa_cons (pv 1) (pa_cons (pv 4) pa_nil))) pa_nil))) (pe_tup (pa_cons pe_str (pa_cons pe_int (pa_cons (pv 4) pa_nil))))))
      (pss_one (ps_if (pt_not (pt_val (pc_f (c_law_alike T) hr (by decide) (by rfl) (pa_cons (pc_f (c_law_answer T) hr (by decide) (by rfl) (pa_cons (pv 0) (pa_cons pe_str (pa_cons (pv 4) (pa_cons pe_int (pa_cons pe_int (pa_cons pe_str pa_nil))))))) (pa_cons (pv 6) pa_nil))))) (pss_one (ps_ret pe_bl)) pss_nil))))))))
      (pss_one (ps_ret pe_bl))), ?_⟩
    have gn := good_n sch.2
    have l106 : Str.ofString "j" = S [106] := by decide +kernel
    refine ⟨_, rfl, _, rfl, _, rfl, pu, l, rfl, hpu, by omega, fun m1 G1 hm1 p1 => ⟨_, rfl, _, _, rfl, rfl, szl (by rw [l106, S_len, S_len]; show l.length + 1 ≤ _; omega), ?_⟩⟩
    rw [l106, S_app]
    refine ⟨by show 3 ≤ sizeLine; decide, fun L hL => ?_⟩
    have p2 := p1.same (ex_new (o := .lst [tx l, tx m1, tx (l ++ [106])]) hL)
    have hLs : upd G1 L (.lst [tx l, tx m1, tx (l ++ [106])]) L = some (.lst ([l, m1, l ++ [106]].map tx)) := upd_same
    generalize hG5 : upd G1 L (.lst [tx l, tx m1, tx (l ++ [106])]) = G5 at p2 hLs
    have hts : ∀ t ∈ [l, m1, l ++ [106]], t.length ≤ 1000 := by
      intro t ht
      simp only [List.mem_cons, List.not_mem_nil, or_false] at ht
      rcases ht with rfl | rfl | rfl <;> (try simp only [List.length_append, List.length_cons, List.length_nil]) <;> omega
    refine ⟨L, rfl, ⟨_, seqL_of hLs⟩, ?_⟩
    generalize hT1 : ([l, m1, l ++ [106]] : List (List Nat)) = T1 at hLs hts
    refine for_it (walk_list (xs := T1.map tx)) (fun i σ G => Same G5 G ∧ ∃ v4 v5 v6 : Option V, σ = [some (.ref p), some (.ref s), some (tx l), some (.ref pu), v4, v5, v6]) ⟨.refl _, none, none, none, rfl⟩ (fun i σ G _ h => seqL_of (h.1 _ _ hLs)) ?_ ?_
    · rintro i x σ G G' hi ⟨s6, v4, v5, v6, rfl⟩ ⟨rfl, hx⟩
      rw [List.getElem?_map] at hx
      obtain ⟨t, el, rfl⟩ : ∃ l, T1[i]? = some l ∧ x = tx l := by
        cases e : T1[i]? with
        | none =>
          rw [e] at hx
          cases hx
        | some l =>
          rw [e] at hx
          exact ⟨l, rfl, (Option.some.inj hx).symm⟩
      have ht := hts t (List.mem_of_getElem? el)
      have sz5 := sz.pu hpu p2
      have sch5 := sch.pu hpu p2
      refine ⟨_, rfl, _, rfl, s, r, c, n, t, rfl, sz5.mono s6, fun G7 s7 => ?_⟩
      have s67 := s6.trans s7
      cases e : isStrip n t with
      | true =>
        have sm1 := small_ans (n := n) (c := c) gn.2.2.1 t 0 0 (lit "") .isS
        have sm2 := small_ans (n := n) (c := c) gn.2.2.1 t 0 0 (lit "") .check
        have sm3 := small_ans (n := n) (c := c) gn.2.2.1 t 0 0 (lit "") .picture
        have eI : dAns r c n t 0 0 (lit "") .isS = told (.bl true) := by
          unfold dAns
          dsimp only
          rw [e]
        have eC : dAns r c n t 0 0 (lit "") .check = told .non := by
          unfold dAns
          dsimp only
          rw [if_pos e]
        have eP : dAns r c n t 0 0 (lit "") .picture = told (.lst ((rowsOf r c t).map .txt)) := by
          unfold dAns
          dsimp only
          rw [if_pos e]
        rw [eI] at sm1
        rw [eC] at sm2
        rw [eP] at sm3
        refine ⟨_, rfl, _, rfl, p, r, c, n, .isS, t, 0, 0, lit "", rfl, sch5.mono s67, ht, by decide +kernel, fun G8 v8 s8 rp8 => ⟨_, rfl, by show 2 ≤ sizeLine; decide, fun q1 hq1 => ?_⟩⟩
        rw [eI] at rp8
        have e8 := ex_new (o := .tup [.str (Str.ofString "told"), .bl true]) hq1
        refine ⟨v8, .ref q1, _, rfl, rp8.mono e8, rp_told hq1 rfl, sm1.1, sm1.2, _, rfl, iteF ?_⟩
        have s9 := (s67.trans s8).trans e8
        refine ⟨_, rfl, _, rfl, iteT ⟨by show 2 ≤ sizeLine; decide, fun q2 hq2 => ?_⟩⟩
        have e9 := ex_new (o := .tup [.str (Str.ofString "told"), .non]) hq2
        have due : Rp (upd _ q2 (.tup [.str (Str.ofString "told"), .non])) (told .non) (.ref q2) := rp_told hq2 rfl
        refine ⟨_, rfl, _, rfl, p, r, c, n, .check, t, 0, 0, lit "", rfl, sch5.mono (s9.trans e9), ht, by decide +kernel, fun G10 v10 s10 rp10 => ⟨_, rfl, ?_⟩⟩
        rw [eC] at rp10
        refine ⟨v10, .ref q2, _, rfl, rp10, due.mono s10, sm2.1, sm2.2, _, rfl, iteF ?_⟩
        have s11 := (s9.trans e9).trans s10
        refine ⟨_, rfl, _, rfl, iteT ⟨_, rfl, _, rfl, s, r, c, n, t, rfl, sz5.mono s11, ht, e, fun G12 q12 s12 hq12 hL12 => ⟨by show 2 ≤ sizeLine; decide, fun q3 hq3 => ?_⟩⟩⟩
        have e12 := s12.trans (ex_new (o := .tup [.str (Str.ofString "told"), .ref q12]) hq3)
        have due : Rp (upd G12 q3 (.tup [.str (Str.ofString "told"), .ref q12])) (told (.lst ((rowsOf r c t).map .txt))) (.ref q3) := rp_told hq3 ⟨q12, _, rfl, hL12, rps_rows r c t⟩
        refine ⟨_, rfl, _, rfl, p, r, c, n, .picture, t, 0, 0, lit "", rfl, sch5.mono (s11.trans e12), ht, by decide +kernel, fun G13 v13 s13 rp13 => ⟨_, rfl, ?_⟩⟩
        rw [eP] at rp13
        exact ⟨v13, .ref q3, _, rfl, rp13, due.mono s13, sm3.1, sm3.2, _, rfl, iteF ⟨(s11.trans e12).trans s13, _, _, _, rfl⟩⟩
      | false =>
        have sm1 := small_ans (n := n) (c := c) gn.2.2.1 t 0 0 (lit "") .isS
        have sm2 := small_ans (n := n) (c := c) gn.2.2.1 t 0 0 (lit "") .check
        have sm3 := small_ans (n := n) (c := c) gn.2.2.1 t 0 0 (lit "") .picture
        have eI : dAns r c n t 0 0 (lit "") .isS = told (.bl false) := by
          unfold dAns
          dsimp only
          rw [e]
        have eC : dAns r c n t 0 0 (lit "") .check = refd 3 (.txt t) := by
          unfold dAns
          dsimp only
          rw [if_neg (by rw [e]; decide)]
        have eP : dAns r c n t 0 0 (lit "") .picture = refd 3 (.txt t) := by
          unfold dAns
          dsimp only
          rw [if_neg (by rw [e]; decide)]
        rw [eI] at sm1
        rw [eC] at sm2
        rw [eP] at sm3
        refine ⟨_, rfl, _, rfl, p, r, c, n, .isS, t, 0, 0, lit "", rfl, sch5.mono s67, ht, by decide +kernel, fun G8 v8 s8 rp8 => ⟨_, rfl, by show 2 ≤ sizeLine; decide, fun q1 hq1 => ?_⟩⟩
        rw [eI] at rp8
        have e8 := ex_new (o := .tup [.str (Str.ofString "told"), .bl false]) hq1
        refine ⟨v8, .ref q1, _, rfl, rp8.mono e8, rp_told hq1 rfl, sm1.1, sm1.2, _, rfl, iteF ?_⟩
        have s9 := (s67.trans s8).trans e8
        refine ⟨_, rfl, _, rfl, iteF ⟨_, rfl, by show 3 ≤ sizeLine; decide, fun q2 hq2 => ?_⟩⟩
        have e9 := ex_new (o := .tup [.str (Str.ofString "refused"), .int 3, tx t]) hq2
        have due : Rp (upd _ q2 (.tup [.str (Str.ofString "refused"), .int 3, tx t])) (refd 3 (.txt t)) (.ref q2) := rp_refd hq2 rfl
        refine ⟨_, rfl, _, rfl, p, r, c, n, .check, t, 0, 0, lit "", rfl, sch5.mono (s9.trans e9), ht, by decide +kernel, fun G10 v10 s10 rp10 => ⟨_, rfl, ?_⟩⟩
        rw [eC] at rp10
        refine ⟨v10, .ref q2, _, rfl, rp10, due.mono s10, sm2.1, sm2.2, _, rfl, iteF ?_⟩
        have s11 := (s9.trans e9).trans s10
        refine ⟨_, rfl, _, rfl, iteF ⟨_, rfl, by show 3 ≤ sizeLine; decide, fun q3 hq3 => ?_⟩⟩
        have e12 := ex_new (o := .tup [.str (Str.ofString "refused"), .int 3, tx t]) hq3
        have due : Rp (upd G10 q3 (.tup [.str (Str.ofString "refused"), .int 3, tx t])) (refd 3 (.txt t)) (.ref q3) := rp_refd hq3 rfl
        refine ⟨_, rfl, _, rfl, p, r, c, n, .picture, t, 0, 0, lit "", rfl, sch5.mono (s11.trans e12), ht, by decide +kernel, fun G13 v13 s13 rp13 => ⟨_, rfl, ?_⟩⟩
        rw [eP] at rp13
        exact ⟨v13, .ref q3, _, rfl, rp13, due.mono s13, sm3.1, sm3.2, _, rfl, iteF ⟨(s11.trans e12).trans s13, _, _, _, rfl⟩⟩
    · rintro σ G ⟨s6, v4, v5, v6, rfl⟩
      exact z _ (p2.same s6)
end
end K00

end
section
set_option Elab.async false
set_option linter.all false
set_option maxRecDepth 100000
set_option maxHeartbeats 4000000
namespace K00
open PySem PySem.Spec PyProof.Rows L2 Kit
section
variable {P : Program} {w : World} {K : PySem.W.Frag} {mg : Str → Option Value} {base : Heap} {a : Ad}
def coNames : List String := ["0", "1", "2", "0", "1", "3", "", "00", "a", "-1"]
theorem co_at {d : Int} (h0 : 0 ≤ d) (h1 : d < 10) : ∃ co : List Nat, atI (coNames.map fun s => V.str (Str.ofString s)) d = some (tx co) ∧ co.length ≤ 1000 := by
  obtain ⟨k, rfl⟩ : ∃ k : Nat, (k : Int) = d := ⟨d.toNat, by omega⟩
  have hk : k < coNames.length := by show k < 10; omega
  have hl : ∀ s ∈ coNames, (lit s).length ≤ 1000 := by decide +kernel
  refine ⟨lit coNames[k], ?_, hl _ (List.getElem_mem _)⟩
  exact atI_nat (by rw [List.getElem?_map, List.getElem?_eq_getElem hk]; rfl)
def spSpots2 (a : Ad) : Sp := fun vs H Q _ => ∃ (p s pu : Addr) (r c n : Nat) (l : List Nat), vs = [.ref p, .ref s, tx l, .ref pu] ∧ SchemeAt a.Scheme H p r c n ∧ SizeAt H s r c n ∧ PurseAt H pu ∧ l.length ≤ 800 ∧ ∀ G, Pu pu H G → Q (.bl true) G
theorem c_law_spots (T : Txt K mg a) : Can P w K mg base 7 "_law_spots" (spSpots2 a) := by
  refine can_of T.d_law_spots sc_law_spots bd_law_spots (fun vs H Q E h => ?_) (fun f cdv A outer s H vs Q E hr h => ?_)
  · obtain ⟨p, s, pu, r, c, n, l, rfl, _⟩ := h
    rfl
  · obtain ⟨p, s, pu, r, c, n, l, rfl, sch, sz, hpu, hl, z⟩ := h
    refine ⟨_, (pss_cons (ps_for (passes_of rfl) (by rfl) (pi_range1 (by rfl) T.b_range (pa_cons pe_int pa_nil)) (pg_name (i := 4) sc_law_spots.nd rfl (.inl rfl)) (pss_cons (ps_set (i := 5) sc_law_spots.nd rfl (.inl rfl) (pv 2))
      (C8.pss_cut (ps_if (pt_cmpR op_eq (pc_f (c_law_draw T) hr (by decide) (by rfl) (pa_cons (pv 3) (pa_cons pe_int pa_nil))) pe_int (nomark _)) (pss_one (ps_set (i := 5) sc_law_spots.nd rfl (.inl rfl) (pc_f (c_law_spoilt T) hr (by decide) (by rfl) (pa_cons (pv 3) (pa_cons (pv 2) pa_nil))))) pss_nil)
      (pss_cons (ps_set (i := 6) sc_law_spots.nd rfl (.inl rfl) (pe_op op_sub (pc_f (c_law_draw T) hr (by decide) (by rfl) (pa_cons (pv 3) (pa_cons (pe_op op_add (pe_ix (kix_tup K) (pv 1) pe_int (fun _ _ => rfl)) pe_int) pa_nil))) pe_int))
      (pss_cons (ps_set (i := 7) sc_law_spots.nd rfl (.inl rfl) (pe_op op_sub (pc_f (c_law_draw T) hr (by decide) (by rfl) (pa_cons (pv 3) (pa_cons (pe_op op_add (pe_callB call_len_str (by rfl) T.b_len (by decide +kernel) (pa_cons (pv 2) pa_nil)) pe_int) pa_nil))) pe_int))
      (C8.pss_cut (ps_if (pt_cmpR op_eq (pc_f (c_law_draw T) hr (by decide) (by rfl) (pa_cons (pv 3) (pa_cons pe_int pa_nil))) pe_int (nomark _)) (pss_one (ps_set (i := 6) sc_law_spots.nd rfl (.inl rfl) (pc_f (c_law_far T) hr (by decide) (by rfl) (pa_cons (pv 3) pa_nil)))) pss_nil)
      (C8.pss_cut (ps_if (pt_cmpR op_eq (pc_f (c_law_draw T) hr (by decide) (by rfl) (pa_cons (pv 3) (pa_cons pe_int pa_nil))) pe_int (nomark _)) (pss_one (ps_set (i := 7) sc_law_spots.nd rfl (.inl rfl) (pc_f (c_law_far T) hr (by decide) (by rfl) (pa_cons (pv 3) pa_nil)))) pss_nil)
      (pss_cons (ps_set (i := 8) sc_law_spots.nd rfl (.inl rfl) (pe_ix (kix_list K) (pe_lst (pa_cons pe_str (pa_cons pe_str (pa_cons pe_str (pa_cons pe_str (pa_cons pe_str (pa_cons pe_str (pa_cons pe_str (pa_cons pe_str (pa_cons pe_str (pa_cons pe_str pa_nil))))))))))) (pc_f (c_law_draw T) hr (by decide) (by rfl) (pa_cons (pv 3) (pa_cons pe_int pa_nil))) (fun _ _ => rfl)))
      (pss_cons (ps_set (i := 9) sc_law_spots.nd rfl (.inl rfl) (pc_f (c_law_spot_due T) hr (by decide) (by rfl) (pa_cons (pv 1) (pa_cons (pv 5) (pa_cons (pv 6) (pa_cons (pv 7) (pa_cons (pv 8) (pa_cons pe_bl pa_nil))))))))
      (pss_cons (ps_if (pt_not (pt_val (pc_f (c_law_alike T) hr (by decide) (by rfl) (pa_cons (pc_f (c_law_answer T) hr (by decide) (by rfl) (pa_cons (pv 0) (pa_cons pe_str (pa_cons (pv 5) (pa_cons (pv 6) (pa_cons (pv 7) (pa_cons (pv 8) pa_nil))))))) (pa_cons (pv 9) pa_nil))))) (pss_one (ps_ret pe_bl)) pss_nil)
      (pss_cons (ps_set (i := 9) sc_law_spots.nd rfl (.inl rfl) (pc_f (c_law_spot_due T) hr (by decide) (by rfl) (pa_cons (pv 1) (pa_cons (pv 5) (pa_cons (pv 6) (pa_cons (pv 7) (pa_cons (pv 8) (pa_cons pe_bl pa_nil))))))))
      (pss_one (ps_if (pt_not (pt_val (pc_f (c_law_alike T) hr (by decide) (by rfl) (pa_cons (pc_f (c_law_answer T) hr (by decide) (by rfl) (pa_cons (pv 0) (pa_cons pe_str (pa_cons (pv 5) (pa_cons (pv 6) (pa_cons (pv 7) (pa_cons (pv 8) pa_nil))))))) (pa_cons (pv 9) pa_nil))))) (pss_one (ps_ret pe_bl)) pss_nil)))))))))))))
      (pss_one (ps_ret pe_bl))), ?_⟩
    have gn := good_n sch.2
    refine ⟨4, rfl, by decide, by decide, ?_⟩
    refine for_it (walk_range (lo := 0) (n := 4)) (fun i σ G => Pu pu H G ∧ ∃ v4 v5 v6 v7 v8 v9 : Option V, σ = [some (.ref p), some (.ref s), some (tx l), some (.ref pu), v4, v5, v6, v7, v8, v9]) ⟨Pu.refl hpu, none, none, none, none, none, none, rfl⟩ (fun _ _ _ _ _ => True.intro) ?_ ?_
    · rintro i u σ G G' hi ⟨p0, v4, v5, v6, v7, v8, v9, rfl⟩ ⟨rfl, rfl⟩
      refine ⟨_, rfl, fun σ M => Pu pu H M ∧ ∃ t : List Nat, t.length ≤ 1000 ∧ σ = [some (.ref p), some (.ref s), some (tx l), some (.ref pu), some (.int (0 + (i : Int))), some (tx t), v6, v7, v8, v9], ?_, ?_⟩
      · refine ⟨_, rfl, pu, 4, rfl, p0.2, by decide, by decide, fun d o d0 d1 hp1 => ⟨rfl, _, rfl, ?_⟩⟩
        have q1 := p0.trans (Pu.draw hp1)
        refine ite2 (fun _ => ?_) (fun _ => ?_)
        · exact ⟨_, rfl, _, rfl, pu, l, rfl, hp1, by omega, fun m M hm q2 => ⟨q1.trans q2, m, by omega, rfl⟩⟩
        · exact ⟨q1, l, by omega, rfl⟩
      rintro σ M ⟨p1, t, ht, rfl⟩
      refine ⟨_, rfl, _, rfl, s, _, 0, _, rfl, rfl, size_ix (sz.pu hpu p1), rfl, _, _, rfl, rfl, pu, _, rfl, p1.2, by omega, by omega, fun d o d0 d1 hp1 => ⟨_, _, rfl, rfl, ?_⟩⟩
      have p2 := p1.trans (Pu.draw hp1)
      refine ⟨_, rfl, _, rfl, _, rfl, szl (by rw [S_len]; omega), _, _, rfl, rfl, pu, _, rfl, p2.2, by rw [S_len]; omega, by rw [S_len]; omega, fun d2 o2 d20 d21 hp2 => ⟨_, _, rfl, rfl, ?_⟩⟩
      have p3 := p2.trans (Pu.draw hp2)
      refine ⟨fun σ M => Pu pu H M ∧ ∃ row at_ : Int, σ = [some (.ref p), some (.ref s), some (tx l), some (.ref pu), some (.int (0 + (i : Int))), some (tx t), some (.int row), some (.int at_), v8, v9], ?_, ?_⟩
      · refine ⟨_, rfl, pu, 8, rfl, p3.2, by decide, by decide, fun d o d0 d1 hp1 => ⟨rfl, _, rfl, ?_⟩⟩
        have q1 := p3.trans (Pu.draw hp1)
        refine ite2 (fun _ => ?_) (fun _ => ?_)
        · exact ⟨_, rfl, pu, rfl, hp1, fun m M q2 => ⟨q1.trans q2, _, _, rfl⟩⟩
        · exact ⟨q1, _, _, rfl⟩
      rintro σ M4 ⟨p4, row, at_, rfl⟩
      refine ⟨fun σ M => Pu pu H M ∧ ∃ at_ : Int, σ = [some (.ref p), some (.ref s), some (tx l), some (.ref pu), some (.int (0 + (i : Int))), some (tx t), some (.int row), some (.int at_), v8, v9], ?_, ?_⟩
      · refine ⟨_, rfl, pu, 8, rfl, p4.2, by decide, by decide, fun d o d0 d1 hp1 => ⟨rfl, _, rfl, ?_⟩⟩
        have q1 := p4.trans (Pu.draw hp1)
        refine ite2 (fun _ => ?_) (fun _ => ?_)
        · exact ⟨_, rfl, pu, rfl, hp1, fun m M q2 => ⟨q1.trans q2, _, rfl⟩⟩
        · exact ⟨q1, _, rfl⟩
      rintro σ M5 ⟨p5, at_, rfl⟩
      refine ⟨by show 10 ≤ sizeLine; decide, fun L hL => ⟨_, rfl, pu, 10, rfl, pmono p5.2 (ex_new hL), by decide, by decide, fun d o d0 d1 hp1 => ?_⟩⟩
      have p6 := (p5.same (ex_new (o := .lst (coNames.map fun s => V.str (Str.ofString s))) hL)).trans (Pu.draw hp1)
      have nL := free_ne hL p5.2
      obtain ⟨co, hco, lco⟩ := co_at d0 d1
      refine ⟨L, coNames.map fun s => V.str (Str.ofString s), d, _, rfl, rfl, seqL_of ((Pu.draw hp1).at upd_same nL), hco, ?_⟩
      have sm1 := small_ans (n := n) (c := c) gn.2.2.1 t row at_ co .spot
      have sm2 := small_ans (n := n) (c := c) gn.2.2.1 t row at_ co .recol
      refine ⟨_, rfl, _, rfl, _, rfl, _, rfl, _, rfl, s, r, c, n, t, row, at_, co, false, rfl, sz.pu hpu p6, ht, lco, fun G7 v7 s7 rp7 => ?_⟩
      refine ⟨_, rfl, _, rfl, _, rfl, _, rfl, _, rfl, p, r, c, n, .spot, t, row, at_, co, rfl, (sch.pu hpu p6).mono s7, ht, lco, fun G8 v8' s8 rp8 => ⟨_, rfl, v8', v7, _, rfl, rp8, rp7.mono s8, sm1.1, sm1.2, _, rfl, iteF ?_⟩⟩
      have p8 := (p6.same s7).same s8
      refine ⟨_, rfl, _, rfl, _, rfl, _, rfl, _, rfl, s, r, c, n, t, row, at_, co, true, rfl, sz.pu hpu p8, ht, lco, fun G9 v9' s9 rp9 => ?_⟩
      refine ⟨_, rfl, _, rfl, _, rfl, _, rfl, _, rfl, p, r, c, n, .recol, t, row, at_, co, rfl, (sch.pu hpu p8).mono s9, ht, lco, fun G10 v10 s10 rp10 => ⟨_, rfl, v10, v9', _, rfl, rp10, rp9.mono s10, sm2.1, sm2.2, _, rfl, iteF ⟨(p8.same s9).same s10, _, _, _, _, _, _, rfl⟩⟩⟩
    · rintro σ G ⟨p0, v4, v5, v6, v7, v8, v9, rfl⟩
      exact z _ p0
end
end K00

end
section
set_option Elab.async false
set_option linter.all false
set_option maxRecDepth 100000
set_option maxHeartbeats 4000000
namespace K00
open PySem PySem.Spec PyProof.Rows L2 Kit
section
variable {P : Program} {w : World} {K : PySem.W.Frag} {mg : Str → Option Value} {base : Heap} {a : Ad}
theorem SqLm {K : PySem.W.Frag} {H G : Hp} {q : Addr} {xs : List V} (h : SqL K H q xs) (e : Same H G) : SqL K G q xs := by
  rcases h with h | h
  · rcases h with h | ⟨o, h⟩
    · exact .inl (.inl (e _ _ h))
    · exact .inl (.inr ⟨o, e _ _ h⟩)
  · exact .inr h
theorem same_of_pu {H M G : Hp} {p : Addr} (h0 : H p = none) (s : Same H M) (h : Pu p M G) : Same H G := fun b o e => h.1 b o (s b o e) (ne_of_none e h0)
theorem size_eq {r c n r2 c2 n2 : Nat} : PyData.eqv (.tuple [.int r2, .int c2, .int n2]) (.tuple [.int r, .int c, .int n]) = decide ((r2, c2, n2) = (r, c, n)) := by
  by_cases h : (r2, c2, n2) = (r, c, n)
  · cases h
    rw [decide_eq_true rfl]
    simp [PyData.eqv, PyData.eqvAll]
  · rw [decide_eq_false h, Bool.eq_false_iff]
    intro q
    simp [PyData.eqv, PyData.eqvAll] at q
    obtain ⟨q1, q2, q3⟩ := q
    obtain rfl : r2 = r := by omega
    obtain rfl : c2 = c := by omega
    obtain rfl : n2 = n := by omega
    exact h rfl
theorem size_count {r c n : Nat} (h : (r, c, n) ∈ sizes) : sizes.countP (fun z => !decide (z = (r, c, n))) = 4 := by
  have z : ∀ x ∈ sizes, sizes.countP (fun z => !decide (z = x)) = 4 := by decide
  exact z _ h
theorem good_ne {r c n r2 c2 n2 : Nat} (h : Good r c n) (h2 : Good r2 c2 n2) (ne : ¬ (r2, c2, n2) = (r, c, n)) : ¬ (r = r2 ∧ c = c2) := by
  rintro ⟨rfl, rfl⟩
  have e1 := (good_sizeOf h).1
  have e2 := (good_sizeOf h2).1
  rw [e1] at e2
  cases e2
  exact ne rfl
def spLaw (K : PySem.W.Frag) : Sp := fun vs H Q _ => ∃ (q : Addr) (ns : List Int), vs = [.ref q] ∧ SqL K H q (ns.map V.int) ∧ ns.length ≤ 63 ∧ ∀ G, Q (.bl true) G
theorem ok_law (T : Txt K mg a) {f : Addr} {fd : FuncData} (F : Fun K "law" "law" s_law f fd) : FnOk P w K mg base (L2.CX P w) 8 f fd P_law (spLaw K) := by
  refine F.okX sc_law (fun vs H Q E h => ?_) (fun cdv A outer s H vs Q E hr h => ?_)
  · obtain ⟨q, ns, rfl, _⟩ := h
    rfl
  · obtain ⟨q, ns, rfl, hs, hl, z⟩ := h
    refine ⟨_, (pss_cons (ps_set (i := 1) sc_law.nd rfl (.inr rfl) (pc_f (c_law_purse T) hr (by decide) (by rfl) (pa_cons (pv 0) (pa_cons pe_int (pa_cons pe_int pa_nil)))))
      (pss_cons (ps_set (i := 2) sc_law.nd rfl (.inr rfl) (pe_ix (kix_list K) (pc_f0 (c_law_sizes T) hr (by decide) (by rfl)) (pc_f (c_law_draw T) hr (by decide) (by rfl) (pa_cons (pv 1) (pa_cons pe_int pa_nil))) (fun _ _ => rfl)))
      (pss_cons (ps_set (i := 3) sc_law.nd rfl (.inl rfl) (pe_ix (kix_list K) (pe_lc (own := [("one", 4)]) (g := gName 4) (by rfl) sc_law.nd (kpi_list K (pc_f0 (c_law_sizes T) hr (by decide) (by rfl))) (blkOk_by (N := N_law) (sc := defScope s_law) (by decide +kernel)) (fun _ _ _ _ _ => (pg_name (i := 4) sc_law.nd rfl (.inl rfl))) (fun _ _ _ _ _ => (pts_one (pt_cmpR (kneP K hr.units) (pv 4) (pv 2) (nomark _)))) (fun _ _ _ _ _ => (pv 4))) (pc_f (c_law_draw T) hr (by decide) (by rfl) (pa_cons (pv 1) (pa_cons pe_int pa_nil))) (fun _ _ => rfl)))
      (pss_cons (ps_set (i := 5) sc_law.nd rfl (.inl rfl) (pc_f (c_law_draw T) hr (by decide) (by rfl) (pa_cons (pv 1) (pa_cons pe_int pa_nil))))
      (C8.pss_cut (ps_if (pt_cmpR op_eq (pc_f (c_law_draw T) hr (by decide) (by rfl) (pa_cons (pv 1) (pa_cons pe_int pa_nil))) pe_int (nomark _)) (pss_one (ps_set (i := 5) sc_law.nd rfl (.inl rfl) (pc_f (c_law_draw T) hr (by decide) (by rfl) (pa_cons (pv 1) (pa_cons pe_int pa_nil))))) pss_nil)
      (pss_cons (ps_set (i := 6) sc_law.nd rfl (.inl rfl) (kjoin K pe_str (pe_lc (own := [("k", 7)]) (g := gName 7) (tt := tYes) (by rfl) sc_law.nd (pi_range1 (by rfl) T.b_range (pa_cons (pv 5) pa_nil)) (blkOk_by (N := N_law) (sc := defScope s_law) (by decide +kernel)) (fun _ _ _ _ _ => (pg_name (i := 7) sc_law.nd rfl (.inl rfl))) (fun _ _ _ _ _ => pts_nil) (fun _ _ _ _ _ => (pe_ix ix_str pe_str (pc_f (c_law_draw T) hr (by decide) (by rfl) (pa_cons (pv 1) (pa_cons (pe_ix (kix_tup K) (pv 2) pe_int (fun _ _ => rfl)) pa_nil))) (fun _ _ => rfl))))))
      (pss_cons (ps_set (i := 8) sc_law.nd rfl (.inl rfl) (pc_n (c_Scheme_init T) hr (by decide) (by rfl) (pa_cons (pe_ix (kix_tup K) (pv 2) pe_int (fun _ _ => rfl)) (pa_cons (pe_ix (kix_tup K) (pv 2) pe_int (fun _ _ => rfl)) pa_nil))))
      (pss_cons (ps_set (i := 9) sc_law.nd rfl (.inl rfl) (pc_n (c_Scheme_init T) hr (by decide) (by rfl) (pa_cons (pe_ix (kix_tup K) (pv 3) pe_int (fun _ _ => rfl)) (pa_cons (pe_ix (kix_tup K) (pv 3) pe_int (fun _ _ => rfl)) pa_nil))))
      (pss_cons (ps_if (pt_not (pt_val (pc_f (c_law_fields T) hr (by decide) (by rfl) (pa_cons (pv 8) (pa_cons (pv 2) (pa_cons (pv 9) (pa_cons (pc_f (c_law_purse T) hr (by decide) (by rfl) (pa_cons (pv 0) (pa_cons pe_int (pa_cons pe_int pa_nil)))) pa_nil))))))) (pss_one (ps_ret pe_bl)) pss_nil)
      (pss_cons (ps_if (pt_not (pt_val (pc_f (c_law_columns T) hr (by decide) (by rfl) (pa_cons (pv 8) (pa_cons (pv 2) (pa_cons (pc_f (c_law_purse T) hr (by decide) (by rfl) (pa_cons (pv 0) (pa_cons pe_int (pa_cons pe_int pa_nil)))) pa_nil)))))) (pss_one (ps_ret pe_bl)) pss_nil)
      (pss_cons (ps_if (pt_not (pt_val (pc_f (c_law_pictures T) hr (by decide) (by rfl) (pa_cons (pv 8) (pa_cons (pv 2) (pa_cons (pv 6) (pa_cons (pc_f (c_law_purse T) hr (by decide) (by rfl) (pa_cons (pv 0) (pa_cons pe_int (pa_cons pe_int pa_nil)))) pa_nil))))))) (pss_one (ps_ret pe_bl)) pss_nil)
      (pss_cons (ps_if (pt_not (pt_val (pc_f (c_law_strips T) hr (by decide) (by rfl) (pa_cons (pv 9) (pa_cons (pv 3) (pa_cons (pv 6) (pa_cons (pc_f (c_law_purse T) hr (by decide) (by rfl) (pa_cons (pv 0) (pa_cons pe_int (pa_cons pe_int pa_nil)))) pa_nil))))))) (pss_one (ps_ret pe_bl)) pss_nil)
      (pss_cons (ps_if (pt_not (pt_val (pc_f (c_law_strips T) hr (by decide) (by rfl) (pa_cons (pv 8) (pa_cons (pv 2) (pa_cons (pv 6) (pa_cons (pc_f (c_law_purse T) hr (by decide) (by rfl) (pa_cons (pv 0) (pa_cons pe_int (pa_cons pe_int pa_nil)))) pa_nil))))))) (pss_one (ps_ret pe_bl)) pss_nil)
      (pss_one (ps_ret (pc_f (c_law_spots T) hr (by decide) (by rfl) (pa_cons (pv 8) (pa_cons (pv 2) (pa_cons (pv 6) (pa_cons (pc_f (c_law_purse T) hr (by decide) (by rfl) (pa_cons (pv 0) (pa_cons pe_int (pa_cons pe_int pa_nil)))) pa_nil)))))))))))))))))))), ?_⟩
    refine ⟨_, rfl, q, ns, 0, _, rfl, hs, hl, by decide, by decide, fun pu o hpu0 hpP => ?_⟩
    have s1 := ex_new (o := o) hpu0
    refine ⟨rfl, fun G2 sq s2 hsq hS => ⟨_, rfl, pu, 5, rfl, pmono hpP s2, by decide, by decide, fun d o2 d0 d1 hp2 => ?_⟩⟩
    obtain ⟨ts, hL, h5, hts⟩ := sizes_list hS
    have nsq := free_ne hsq hpP
    obtain ⟨k, rfl⟩ : ∃ k : Nat, (k : Int) = d := ⟨d.toNat, by omega⟩
    have hk : k < ts.length := by omega
    obtain ⟨r, c, n, ez, szt⟩ := hts k ts[k] (List.getElem?_eq_getElem hk)
    have hix : atI (ts.map V.ref) ((k : Nat) : Int) = some (V.ref ts[k]) := atI_nat (by rw [List.getElem?_map, List.getElem?_eq_getElem hk]; rfl)
    generalize ts[k] = t at szt hix
    have q1 : Pu pu (upd H pu o) (upd G2 pu o2) := same_pu s2 (Pu.draw hp2)
    have mem : (r, c, n) ∈ sizes := List.mem_of_getElem? ez
    have p2d := Pu.draw (H := G2) hp2
    refine ⟨sq, ts.map .ref, k, _, rfl, rfl, seqL_of (p2d.at hL nsq), hix, ?_⟩
    have sz3 := szt.pu (pmono hpP s2) p2d
    -- the second size
    refine ⟨rfl, fun G4 sq2 s4 hsq2 hS2 => ⟨sq2, rfl, ?_⟩⟩
    obtain ⟨ts2, hL2, h52, hts2⟩ := sizes_list hS2
    have sz4 := sz3.mono s4
    have gn := good_n szt.2
    have nsq2 := free_ne hsq2 q1.2
    refine ⟨⟨_, seqL_of hL2⟩, fun D hD => ?_⟩
    have z5 : sizes.length = 5 := rfl
    refine lc_it (walk_list (xs := ts2.map .ref)) (fun i M => Same G4 M ∧ ∃ acc : List Addr, M D = some (.lst (acc.map .ref)) ∧ (∀ u ∈ acc, ∃ r' c' n', SizeAt G4 u r' c' n' ∧ ¬ (r', c', n') = (r, c, n)) ∧ acc.length = (sizes.take i).countP (fun z => !decide (z = (r, c, n)))) ⟨ex_new hD, [], upd_same, nofun, rfl⟩ (fun i M _ h => seqL_of (h.1 _ _ hL2)) ?_ ?_
    · rintro i x M M' hi ⟨s5, acc, hacc, hall, hlen⟩ ⟨rfl, hx⟩
      rw [List.getElem?_map] at hx
      obtain ⟨u, eu, rfl⟩ : ∃ u, ts2[i]? = some u ∧ x = .ref u := by
        cases e : ts2[i]? with
        | none =>
          rw [e] at hx
          cases hx
        | some u =>
          rw [e] at hx
          exact ⟨u, rfl, (Option.some.inj hx).symm⟩
      obtain ⟨r2, c2, n2, ez2, sz2⟩ := hts2 i u eu
      have sz2' := sz2.mono s5
      have szM := sz4.mono s5
      have step : ∀ b : Bool, (sizes.take (i + 1)).countP (fun z => !decide (z = (r, c, n))) = (sizes.take i).countP (fun z => !decide (z = (r, c, n))) + (if (!decide ((r2, c2, n2) = (r, c, n))) = true then 1 else 0) := fun _ => by
        rw [List.take_add_one, ez2, List.countP_append, Option.toList_some, List.countP_cons, List.countP_nil, Nat.zero_add]
      have hi5 : i < 5 := by
        have : i < (ts2.map V.ref).length := hi
        rwa [List.length_map, h52] at this
      refine ⟨rfl, ?_⟩
      refine ⟨_, rfl, _, rfl, .tuple [.int r2, .int c2, .int n2], .tuple [.int r, .int c, .int n], .tup (seqT_of sz2'.1) (.cons (.int _) (.cons (.int _) (.cons (.int _) .nil))), .tup (seqT_of szM.1) (.cons (.int _) (.cons (.int _) (.cons (.int _) .nil))), rfl, rfl, by simp [PyData.depth, PyData.depthAll], _, rfl, ?_⟩
      rw [size_eq]
      have st := step true
      cases e : (!decide ((r2, c2, n2) = (r, c, n))) with
      | true =>
        rw [e, if_pos rfl] at st
        have hne : ¬ (r2, c2, n2) = (r, c, n) := fun q => by
          rw [decide_eq_true q] at e
          cases e
        refine iteT ⟨_, rfl, acc.map .ref, hacc, by rw [List.length_map, hlen]; exact szlt (Nat.lt_of_le_of_lt List.countP_le_length (by rw [List.length_take]; omega)), ex_mut s5 hD, acc ++ [u], ?_, ?_, ?_⟩
        · rw [upd_same, List.map_append]
          rfl
        · intro v hv
          rcases List.mem_append.mp hv with hv | hv
          · exact hall v hv
          · simp at hv
            subst hv
            exact ⟨r2, c2, n2, sz2, hne⟩
        · rw [List.length_append, hlen, st]
          rfl
      | false =>
        rw [e, if_neg (by decide)] at st
        exact iteF ⟨s5, acc, hacc, hall, by rw [hlen, st]; rfl⟩
    rintro M ⟨s5, acc, hacc, hall, hlen⟩
    rw [List.length_map, h52, show sizes.take 5 = sizes from rfl, size_count mem] at hlen
    have q5 : Pu pu (upd H pu o) M := (q1.same s4).same s5
    have nD : D ≠ pu := free_ne hD ((q1.same s4).2)
    refine ⟨_, rfl, pu, 4, rfl, q5.2, by decide, by decide, fun d3 o3 d30 d31 hp3 => ?_⟩
    obtain ⟨k2, rfl⟩ : ∃ k : Nat, (k : Int) = d3 := ⟨d3.toNat, by omega⟩
    have hk2 : k2 < acc.length := by omega
    obtain ⟨r2, c2, n2, szu, hne⟩ := hall acc[k2] (List.getElem_mem _)
    have hix2 : atI (acc.map V.ref) ((k2 : Nat) : Int) = some (V.ref acc[k2]) := atI_nat (by rw [List.getElem?_map, List.getElem?_eq_getElem hk2]; rfl)
    generalize acc[k2] = u at szu hix2
    have p6 := Pu.draw (H := M) hp3
    refine ⟨D, acc.map .ref, k2, _, rfl, rfl, seqL_of (p6.at hacc nD), hix2, ?_⟩
    have q6 := q5.trans p6
    have szT := (sz4.mono s5).pu q5.2 p6
    have szU := (szu.mono s5).pu q5.2 p6
    have hne2 := good_ne szt.2 szu.2 hne
    clear hacc hall hS2 hL2 hts2 hS hL hts hix hix2 sz4 szu
    refine ⟨_, rfl, pu, 9, rfl, q6.2, by decide, by decide, fun d4 o4 d40 d41 hp4 => ?_⟩
    have q7 := Pu.draw (H := upd M pu o3) hp4
    refine ⟨fun σ N => Pu pu (upd M pu o3) N ∧ ∃ m : Nat, m ≤ 40 ∧ σ = [some (.ref q), some (.ref pu), some (.ref t), some (.ref u), none, some (.int (m : Int)), none, none, none, none], ?_, ?_⟩
    · refine ⟨_, rfl, pu, 8, rfl, q7.2, by decide, by decide, fun d5 o5 d50 d51 hp5 => ⟨rfl, _, rfl, ?_⟩⟩
      have q8 := q7.trans (Pu.draw hp5)
      refine ite2 (fun _ => ?_) (fun _ => ?_)
      · refine ⟨_, rfl, pu, 37, rfl, q8.2, by decide, by decide, fun d6 o6 d60 d61 hp6 => ⟨q8.trans (Pu.draw hp6), d6.toNat, by omega, ?_⟩⟩
        rw [show ((d6.toNat : Nat) : Int) = d6 by omega]
        rfl
      · refine ⟨q8, d4.toNat, by omega, ?_⟩
        rw [show ((d4.toNat : Nat) : Int) = d4 by omega]
        rfl
    rintro σ N ⟨q8, m, hm, rfl⟩
    have szN := szT.pu q6.2 q8
    have szUN := szU.pu q6.2 q8
    have gc := good_c szN.2
    have q9 := q6.trans q8
    refine ⟨⟨_, rfl⟩, _, rfl, m, rfl, by omega, by omega, fun D2 hD2 => ?_⟩
    have nD2 := free_ne hD2 q9.2
    refine lc_it (walk_range (lo := 0) (n := ((m : Nat) : Int).toNat)) (fun i M => Pu pu N M ∧ ∃ l : List Nat, M D2 = some (.lst (l.map fun x => tx [x])) ∧ l.length = i ∧ isStrip n l = true) ⟨(Pu.refl q9.2).same (ex_new hD2), [], upd_same, rfl, rfl⟩ (fun _ _ _ _ => True.intro) ?_ ?_
    · rintro i x M7 M8 hi ⟨p7, l, hl7, hlen7, hst⟩ ⟨rfl, rfl⟩
      have hi : i < m := hi
      refine ⟨rfl, ?_⟩
      unfold tYes
      dsimp only
      rw [if_pos rfl]
      refine ⟨_, rfl, _, rfl, t, _, 2, _, rfl, rfl, size_ix (szN.pu q9.2 p7), rfl, pu, n, rfl, p7.2, by omega, by omega, fun d6 o6 d60 d61 hp6 => ?_⟩
      obtain ⟨k3, rfl⟩ : ∃ k : Nat, (k : Int) = d6 := ⟨d6.toNat, by omega⟩
      refine ⟨_, _, 97 + k3, rfl, rfl, by decide +kernel, let_at (by omega), l.map (fun x => tx [x]), (Pu.draw hp6).at hl7 nD2, by rw [List.length_map]; exact szlt (by omega), ?_, l ++ [97 + k3], ?_, ?_, ?_⟩
      · have q := p7.trans (Pu.draw hp6)
        refine ⟨fun b ob e hb => ?_, ?_⟩
        · by_cases eb : b = D2
          · rw [eb, hD2] at e
            cases e
          · rw [upd_ne eb]
            exact q.1 b ob e hb
        · obtain ⟨x1, x2, x3, h1, h2⟩ := q.2
          exact ⟨x1, x2, x3, by rw [upd_ne (Ne.symm nD2)]; exact h1, h2⟩
      · rw [upd_same, List.map_append]
        rfl
      · rw [List.length_append, hlen7]
        rfl
      · unfold isStrip at hst ⊢
        rw [List.all_append, hst, Bool.true_and, List.all_cons, List.all_nil, Bool.and_true]
        unfold inCol
        rw [decide_eq_true_iff]
        omega
    rintro M7 ⟨p7, l, hl7, hlen7, hst⟩
    have hlm : l.length = m := hlen7
    refine ⟨_, _, l.map fun x => S [x], rfl, rfl, .inl (seqL_of (by rw [List.map_map]; exact hl7)), ?_, ?_⟩
    · rw [sum_ones, show Str.ofString "" = S [] from lit_e, S_len]
      show _ + _ * 0 ≤ _
      omega
    rw [show Str.ofString "" = S [] from lit_e, join_ones]
    have sz7 := szN.pu q9.2 p7
    have szU7 := szUN.pu q9.2 p7
    have q10 := q9.trans p7
    have S7 : Same H M7 := same_of_pu hpu0 s1 q10
    refine ⟨_, rfl, t, _, 0, _, rfl, rfl, size_ix sz7, rfl, _, rfl, t, _, 1, _, rfl, rfl, size_ix sz7, rfl, fun y dx hy hdx ne => init_good sz7.2 hy hdx ne fun G8 s8 sch => ?_⟩
    have szU8 := szU7.mono s8
    refine ⟨_, rfl, u, _, 0, _, rfl, rfl, size_ix szU8, rfl, _, rfl, u, _, 1, _, rfl, rfl, size_ix szU8, rfl, fun y2 dx2 hy2 hdx2 ne2 => init_good szU8.2 hy2 hdx2 ne2 fun G9 s9 oth => ?_⟩
    have sch := sch.mono s9
    have szG := (sz7.mono s8).mono s9
    have szUG := szU8.mono s9
    have S9 : Same H G9 := (S7.trans s8).trans s9
    have hs9 := SqLm hs S9
    refine ⟨_, rfl, _, rfl, _, rfl, _, rfl, q, ns, 1, _, rfl, SqLm hs9 (Same.refl G9), hl, by decide, by decide, fun p1 o1 h1 P1 => ?_⟩
    have e1 := ex_new (o := o1) h1
    have a1 := ((Same.refl G9)).trans e1
    refine ⟨y, t, y2, p1, r, c, n, r2, c2, n2, rfl, sch.mono a1, szG.mono a1, oth.mono a1, hne2, P1, fun G10 k1 => ⟨_, rfl, iteF ?_⟩⟩
    have b1 : Same G9 G10 := same_of_pu h1 e1 k1
    refine ⟨_, rfl, _, rfl, _, rfl, q, ns, 2, _, rfl, SqLm hs9 b1, hl, by decide, by decide, fun p2 o2 h2 P2 => ?_⟩
    have e2 := ex_new (o := o2) h2
    have a2 := (b1).trans e2
    refine ⟨y, t, p2, r, c, n, rfl, sch.mono a2, szG.mono a2, P2, fun G11 k2 => ⟨_, rfl, iteF ?_⟩⟩
    have b2 : Same G9 G11 := b1.trans (same_of_pu h2 e2 k2)
    refine ⟨_, rfl, _, rfl, _, rfl, _, rfl, q, ns, 3, _, rfl, SqLm hs9 b2, hl, by decide, by decide, fun p3 o3 h3 P3 => ?_⟩
    have e3 := ex_new (o := o3) h3
    have a3 := (b2).trans e3
    refine ⟨y, t, p3, r, c, n, l, rfl, sch.mono a3, szG.mono a3, P3, by omega, hst, fun G12 k3 => ⟨_, rfl, iteF ?_⟩⟩
    have b3 : Same G9 G12 := b2.trans (same_of_pu h3 e3 k3)
    refine ⟨_, rfl, _, rfl, _, rfl, _, rfl, q, ns, 4, _, rfl, SqLm hs9 b3, hl, by decide, by decide, fun p4 o4 h4 P4 => ?_⟩
    have e4 := ex_new (o := o4) h4
    have a4 := (b3).trans e4
    refine ⟨y2, u, p4, r2, c2, n2, l, rfl, oth.mono a4, szUG.mono a4, P4, by omega, fun G13 k4 => ⟨_, rfl, iteF ?_⟩⟩
    have b4 : Same G9 G13 := b3.trans (same_of_pu h4 e4 k4)
    refine ⟨_, rfl, _, rfl, _, rfl, _, rfl, q, ns, 5, _, rfl, SqLm hs9 b4, hl, by decide, by decide, fun p5 o5 h5 P5 => ?_⟩
    have e5 := ex_new (o := o5) h5
    have a5 := (b4).trans e5
    refine ⟨y, t, p5, r, c, n, l, rfl, sch.mono a5, szG.mono a5, P5, by omega, fun G14 k5 => ⟨_, rfl, iteF ?_⟩⟩
    have b5 : Same G9 G14 := b4.trans (same_of_pu h5 e5 k5)
    refine ⟨_, rfl, _, rfl, _, rfl, _, rfl, q, ns, 6, _, rfl, SqLm hs9 b5, hl, by decide, by decide, fun p6 o6 h6 P6 => ?_⟩
    have e6 := ex_new (o := o6) h6
    have a6 := (b5).trans e6
    refine ⟨y, t, p6, r, c, n, l, rfl, sch.mono a6, szG.mono a6, P6, by omega, fun G15 _ => z _⟩
end
theorem law_F {l : PySem.W.OpenLaw} {w : World} {K : PySem.W.Frag} {mg : Str → Option Value} {fa : Addr} {a : Ad} (T : Txt K mg a) (hfa : mg "law" = some (.ref fa)) :
    ∃ fd : FuncData, (∀ (s : Shared) (v : Value), BindsTo s fd ⟨[v], []⟩ [("script", v)]) ∧ ∀ base : Heap, K.In base → base.Ns mainGlobals mg → FnOk l.prog w K mg base (L2.CX l.prog w) 8 fa fd ["script"] (spLaw K) := by
  obtain ⟨f, fd, F, g⟩ := T.d_law.ex
  have e := hfa.symm.trans g
  cases e
  refine ⟨fd, fun s v => ?_, fun base _ _ => ok_law T F⟩
  obtain ⟨oc, od, kV, doc, pm, an, cdv, ct, osl, rfl, lk, hcd⟩ := F.ex
  exact .of_eq rfl
theorem walk {l : PySem.W.OpenLaw} {q : Program} {loose : List Str} {XP : (Str → Option Value) → Heap → Prop} {YP : World → Heap → Prop} {d : DefRec} {K : Params → PySem.W.Frag} (hn : l.most = some 63) (hdf : d.params.defaults = [])
    (hY : ∀ (w : World) (h : Heap), YP w h → (K w.params).In h) (hd : d.name = "law")
    (F : ∀ (w : World) (mg : Str → Option Value) (h : Heap), (K w.params).In h → h.Ns mainGlobals mg → ∃ a, Txt (K w.params) mg a) :
    PySem.W.WalkO q loose XP YP l.row.toRowW d [] (fun f vs => PySem.call f vs) :=
  L2.walk_of (n := 63) (k := 8) (x := "script") (CX := fun w => L2.CX l.prog w) (sp := fun w => spLaw (K w.params)) hn (by decide) hdf ⟨rfl, by decide, by decide⟩ hY
    (fun w mg fa h KX G hmg => let ⟨a, T⟩ := F w mg h KX G; law_F T (hd ▸ hmg))
    (fun _ _ a ns hl _ hS => ⟨a, ns, rfl, hS, hl, fun _ => rfl⟩) fun _ _ _ _ _ z => by
      obtain ⟨_, _, _, _, _, _, _, _, _, _, _, _, x⟩ := z
      exact x
end K00

end
section
set_option Elab.async false
set_option linter.all false
set_option maxRecDepth 100000
set_option maxHeartbeats 4000000
namespace K00
open PySem PySem.Spec PyProof.Rows L2 Kit
theorem kk_of {K : PySem.W.Frag} {CGalloonError CBadScheme CBadColumn CBadSpots CBadStrip CBadPicture CBadRow CBadIndex CBadColour CScheme : Addr}
    (ic_BadScheme : PySem.W.isClsIn K CBadScheme = true)
    (tc_BadScheme : PySem.W.typeIn K (.ref CBadScheme) = some (.type "type"))
    (ic_BadColumn : PySem.W.isClsIn K CBadColumn = true)
    (tc_BadColumn : PySem.W.typeIn K (.ref CBadColumn) = some (.type "type"))
    (ic_BadSpots : PySem.W.isClsIn K CBadSpots = true)
    (tc_BadSpots : PySem.W.typeIn K (.ref CBadSpots) = some (.type "type"))
    (ic_BadStrip : PySem.W.isClsIn K CBadStrip = true)
    (tc_BadStrip : PySem.W.typeIn K (.ref CBadStrip) = some (.type "type"))
    (ic_BadPicture : PySem.W.isClsIn K CBadPicture = true)
    (tc_BadPicture : PySem.W.typeIn K (.ref CBadPicture) = some (.type "type"))
    (ic_BadRow : PySem.W.isClsIn K CBadRow = true)
    (tc_BadRow : PySem.W.typeIn K (.ref CBadRow) = some (.type "type"))
    (ic_BadIndex : PySem.W.isClsIn K CBadIndex = true)
    (tc_BadIndex : PySem.W.typeIn K (.ref CBadIndex) = some (.type "type"))
    (ic_BadColour : PySem.W.isClsIn K CBadColour = true)
    (tc_BadColour : PySem.W.typeIn K (.ref CBadColour) = some (.type "type"))
    (s_0_1 : PySem.W.subIn K (.ref CBadScheme) (.ref CBadColumn) = some false)
    (ne_0_1 : ((Value.ref CBadScheme) == Value.ref CBadColumn) = false)
    (s_0_2 : PySem.W.subIn K (.ref CBadScheme) (.ref CBadSpots) = some false)
    (ne_0_2 : ((Value.ref CBadScheme) == Value.ref CBadSpots) = false)
    (s_0_3 : PySem.W.subIn K (.ref CBadScheme) (.ref CBadStrip) = some false)
    (ne_0_3 : ((Value.ref CBadScheme) == Value.ref CBadStrip) = false)
    (s_0_4 : PySem.W.subIn K (.ref CBadScheme) (.ref CBadPicture) = some false)
    (ne_0_4 : ((Value.ref CBadScheme) == Value.ref CBadPicture) = false)
    (s_0_5 : PySem.W.subIn K (.ref CBadScheme) (.ref CBadRow) = some false)
    (ne_0_5 : ((Value.ref CBadScheme) == Value.ref CBadRow) = false)
    (s_0_6 : PySem.W.subIn K (.ref CBadScheme) (.ref CBadIndex) = some false)
    (ne_0_6 : ((Value.ref CBadScheme) == Value.ref CBadIndex) = false)
    (s_0_7 : PySem.W.subIn K (.ref CBadScheme) (.ref CBadColour) = some false)
    (ne_0_7 : ((Value.ref CBadScheme) == Value.ref CBadColour) = false)
    (s_1_0 : PySem.W.subIn K (.ref CBadColumn) (.ref CBadScheme) = some false)
    (ne_1_0 : ((Value.ref CBadColumn) == Value.ref CBadScheme) = false)
    (s_1_2 : PySem.W.subIn K (.ref CBadColumn) (.ref CBadSpots) = some false)
    (ne_1_2 : ((Value.ref CBadColumn) == Value.ref CBadSpots) = false)
    (s_1_3 : PySem.W.subIn K (.ref CBadColumn) (.ref CBadStrip) = some false)
    (ne_1_3 : ((Value.ref CBadColumn) == Value.ref CBadStrip) = false)
    (s_1_4 : PySem.W.subIn K (.ref CBadColumn) (.ref CBadPicture) = some false)
    (ne_1_4 : ((Value.ref CBadColumn) == Value.ref CBadPicture) = false)
    (s_1_5 : PySem.W.subIn K (.ref CBadColumn) (.ref CBadRow) = some false)
    (ne_1_5 : ((Value.ref CBadColumn) == Value.ref CBadRow) = false)
    (s_1_6 : PySem.W.subIn K (.ref CBadColumn) (.ref CBadIndex) = some false)
    (ne_1_6 : ((Value.ref CBadColumn) == Value.ref CBadIndex) = false)
    (s_1_7 : PySem.W.subIn K (.ref CBadColumn) (.ref CBadColour) = some false)
    (ne_1_7 : ((Value.ref CBadColumn) == Value.ref CBadColour) = false)
    (s_2_0 : PySem.W.subIn K (.ref CBadSpots) (.ref CBadScheme) = some false)
    (ne_2_0 : ((Value.ref CBadSpots) == Value.ref CBadScheme) = false)
    (s_2_1 : PySem.W.subIn K (.ref CBadSpots) (.ref CBadColumn) = some false)
    (ne_2_1 : ((Value.ref CBadSpots) == Value.ref CBadColumn) = false)
    (s_2_3 : PySem.W.subIn K (.ref CBadSpots) (.ref CBadStrip) = some false)
    (ne_2_3 : ((Value.ref CBadSpots) == Value.ref CBadStrip) = false)
    (s_2_4 : PySem.W.subIn K (.ref CBadSpots) (.ref CBadPicture) = some false)
    (ne_2_4 : ((Value.ref CBadSpots) == Value.ref CBadPicture) = false)
    (s_2_5 : PySem.W.subIn K (.ref CBadSpots) (.ref CBadRow) = some false)
    (ne_2_5 : ((Value.ref CBadSpots) == Value.ref CBadRow) = false)
    (s_2_6 : PySem.W.subIn K (.ref CBadSpots) (.ref CBadIndex) = some false)
    (ne_2_6 : ((Value.ref CBadSpots) == Value.ref CBadIndex) = false)
    (s_2_7 : PySem.W.subIn K (.ref CBadSpots) (.ref CBadColour) = some false)
    (ne_2_7 : ((Value.ref CBadSpots) == Value.ref CBadColour) = false)
    (s_3_0 : PySem.W.subIn K (.ref CBadStrip) (.ref CBadScheme) = some false)
    (ne_3_0 : ((Value.ref CBadStrip) == Value.ref CBadScheme) = false)
    (s_3_1 : PySem.W.subIn K (.ref CBadStrip) (.ref CBadColumn) = some false)
    (ne_3_1 : ((Value.ref CBadStrip) == Value.ref CBadColumn) = false)
    (s_3_2 : PySem.W.subIn K (.ref CBadStrip) (.ref CBadSpots) = some false)
    (ne_3_2 : ((Value.ref CBadStrip) == Value.ref CBadSpots) = false)
    (s_3_4 : PySem.W.subIn K (.ref CBadStrip) (.ref CBadPicture) = some false)
    (ne_3_4 : ((Value.ref CBadStrip) == Value.ref CBadPicture) = false)
    (s_3_5 : PySem.W.subIn K (.ref CBadStrip) (.ref CBadRow) = some false)
    (ne_3_5 : ((Value.ref CBadStrip) == Value.ref CBadRow) = false)
    (s_3_6 : PySem.W.subIn K (.ref CBadStrip) (.ref CBadIndex) = some false)
    (ne_3_6 : ((Value.ref CBadStrip) == Value.ref CBadIndex) = false)
    (s_3_7 : PySem.W.subIn K (.ref CBadStrip) (.ref CBadColour) = some false)
    (ne_3_7 : ((Value.ref CBadStrip) == Value.ref CBadColour) = false)
    (s_4_0 : PySem.W.subIn K (.ref CBadPicture) (.ref CBadScheme) = some false)
    (ne_4_0 : ((Value.ref CBadPicture) == Value.ref CBadScheme) = false)
    (s_4_1 : PySem.W.subIn K (.ref CBadPicture) (.ref CBadColumn) = some false)
    (ne_4_1 : ((Value.ref CBadPicture) == Value.ref CBadColumn) = false)
    (s_4_2 : PySem.W.subIn K (.ref CBadPicture) (.ref CBadSpots) = some false)
    (ne_4_2 : ((Value.ref CBadPicture) == Value.ref CBadSpots) = false)
    (s_4_3 : PySem.W.subIn K (.ref CBadPicture) (.ref CBadStrip) = some false)
    (ne_4_3 : ((Value.ref CBadPicture) == Value.ref CBadStrip) = false)
    (s_4_5 : PySem.W.subIn K (.ref CBadPicture) (.ref CBadRow) = some false)
    (ne_4_5 : ((Value.ref CBadPicture) == Value.ref CBadRow) = false)
    (s_4_6 : PySem.W.subIn K (.ref CBadPicture) (.ref CBadIndex) = some false)
    (ne_4_6 : ((Value.ref CBadPicture) == Value.ref CBadIndex) = false)
    (s_4_7 : PySem.W.subIn K (.ref CBadPicture) (.ref CBadColour) = some false)
    (ne_4_7 : ((Value.ref CBadPicture) == Value.ref CBadColour) = false)
    (s_5_0 : PySem.W.subIn K (.ref CBadRow) (.ref CBadScheme) = some false)
    (ne_5_0 : ((Value.ref CBadRow) == Value.ref CBadScheme) = false)
    (s_5_1 : PySem.W.subIn K (.ref CBadRow) (.ref CBadColumn) = some false)
    (ne_5_1 : ((Value.ref CBadRow) == Value.ref CBadColumn) = false)
    (s_5_2 : PySem.W.subIn K (.ref CBadRow) (.ref CBadSpots) = some false)
    (ne_5_2 : ((Value.ref CBadRow) == Value.ref CBadSpots) = false)
    (s_5_3 : PySem.W.subIn K (.ref CBadRow) (.ref CBadStrip) = some false)
    (ne_5_3 : ((Value.ref CBadRow) == Value.ref CBadStrip) = false)
    (s_5_4 : PySem.W.subIn K (.ref CBadRow) (.ref CBadPicture) = some false)
    (ne_5_4 : ((Value.ref CBadRow) == Value.ref CBadPicture) = false)
    (s_5_6 : PySem.W.subIn K (.ref CBadRow) (.ref CBadIndex) = some false)
    (ne_5_6 : ((Value.ref CBadRow) == Value.ref CBadIndex) = false)
    (s_5_7 : PySem.W.subIn K (.ref CBadRow) (.ref CBadColour) = some false)
    (ne_5_7 : ((Value.ref CBadRow) == Value.ref CBadColour) = false)
    (s_6_0 : PySem.W.subIn K (.ref CBadIndex) (.ref CBadScheme) = some false)
    (ne_6_0 : ((Value.ref CBadIndex) == Value.ref CBadScheme) = false)
    (s_6_1 : PySem.W.subIn K (.ref CBadIndex) (.ref CBadColumn) = some false)
    (ne_6_1 : ((Value.ref CBadIndex) == Value.ref CBadColumn) = false)
    (s_6_2 : PySem.W.subIn K (.ref CBadIndex) (.ref CBadSpots) = some false)
    (ne_6_2 : ((Value.ref CBadIndex) == Value.ref CBadSpots) = false)
    (s_6_3 : PySem.W.subIn K (.ref CBadIndex) (.ref CBadStrip) = some false)
    (ne_6_3 : ((Value.ref CBadIndex) == Value.ref CBadStrip) = false)
    (s_6_4 : PySem.W.subIn K (.ref CBadIndex) (.ref CBadPicture) = some false)
    (ne_6_4 : ((Value.ref CBadIndex) == Value.ref CBadPicture) = false)
    (s_6_5 : PySem.W.subIn K (.ref CBadIndex) (.ref CBadRow) = some false)
    (ne_6_5 : ((Value.ref CBadIndex) == Value.ref CBadRow) = false)
    (s_6_7 : PySem.W.subIn K (.ref CBadIndex) (.ref CBadColour) = some false)
    (ne_6_7 : ((Value.ref CBadIndex) == Value.ref CBadColour) = false)
    (s_7_0 : PySem.W.subIn K (.ref CBadColour) (.ref CBadScheme) = some false)
    (ne_7_0 : ((Value.ref CBadColour) == Value.ref CBadScheme) = false)
    (s_7_1 : PySem.W.subIn K (.ref CBadColour) (.ref CBadColumn) = some false)
    (ne_7_1 : ((Value.ref CBadColour) == Value.ref CBadColumn) = false)
    (s_7_2 : PySem.W.subIn K (.ref CBadColour) (.ref CBadSpots) = some false)
    (ne_7_2 : ((Value.ref CBadColour) == Value.ref CBadSpots) = false)
    (s_7_3 : PySem.W.subIn K (.ref CBadColour) (.ref CBadStrip) = some false)
    (ne_7_3 : ((Value.ref CBadColour) == Value.ref CBadStrip) = false)
    (s_7_4 : PySem.W.subIn K (.ref CBadColour) (.ref CBadPicture) = some false)
    (ne_7_4 : ((Value.ref CBadColour) == Value.ref CBadPicture) = false)
    (s_7_5 : PySem.W.subIn K (.ref CBadColour) (.ref CBadRow) = some false)
    (ne_7_5 : ((Value.ref CBadColour) == Value.ref CBadRow) = false)
    (s_7_6 : PySem.W.subIn K (.ref CBadColour) (.ref CBadIndex) = some false)
    (ne_7_6 : ((Value.ref CBadColour) == Value.ref CBadIndex) = false) : ∀ i < 8, ∀ j < 8, PySem.W.kitOne K (.ref (eAd ⟨CGalloonError, CBadScheme, CBadColumn, CBadSpots, CBadStrip, CBadPicture, CBadRow, CBadIndex, CBadColour, CScheme⟩ i)) (.ref (eAd ⟨CGalloonError, CBadScheme, CBadColumn, CBadSpots, CBadStrip, CBadPicture, CBadRow, CBadIndex, CBadColour, CScheme⟩ j)) = some (decide (i = j)) := by
  intro i hi j hj
  match i, hi, j, hj with
  | 0, _, 0, _ => exact kitS_of
  | 0, _, 1, _ => exact kitR_of ic_BadColumn tc_BadColumn s_0_1 ne_0_1
  | 0, _, 2, _ => exact kitR_of ic_BadSpots tc_BadSpots s_0_2 ne_0_2
  | 0, _, 3, _ => exact kitR_of ic_BadStrip tc_BadStrip s_0_3 ne_0_3
  | 0, _, 4, _ => exact kitR_of ic_BadPicture tc_BadPicture s_0_4 ne_0_4
  | 0, _, 5, _ => exact kitR_of ic_BadRow tc_BadRow s_0_5 ne_0_5
  | 0, _, 6, _ => exact kitR_of ic_BadIndex tc_BadIndex s_0_6 ne_0_6
  | 0, _, 7, _ => exact kitR_of ic_BadColour tc_BadColour s_0_7 ne_0_7
  | 1, _, 0, _ => exact kitR_of ic_BadScheme tc_BadScheme s_1_0 ne_1_0
  | 1, _, 1, _ => exact kitS_of
  | 1, _, 2, _ => exact kitR_of ic_BadSpots tc_BadSpots s_1_2 ne_1_2
  | 1, _, 3, _ => exact kitR_of ic_BadStrip tc_BadStrip s_1_3 ne_1_3
  | 1, _, 4, _ => exact kitR_of ic_BadPicture tc_BadPicture s_1_4 ne_1_4
  | 1, _, 5, _ => exact kitR_of ic_BadRow tc_BadRow s_1_5 ne_1_5
  | 1, _, 6, _ => exact kitR_of ic_BadIndex tc_BadIndex s_1_6 ne_1_6
  | 1, _, 7, _ => exact kitR_of ic_BadColour tc_BadColour s_1_7 ne_1_7
  | 2, _, 0, _ => exact kitR_of ic_BadScheme tc_BadScheme s_2_0 ne_2_0
  | 2, _, 1, _ => exact kitR_of ic_BadColumn tc_BadColumn s_2_1 ne_2_1
  | 2, _, 2, _ => exact kitS_of
  | 2, _, 3, _ => exact kitR_of ic_BadStrip tc_BadStrip s_2_3 ne_2_3
  | 2, _, 4, _ => exact kitR_of ic_BadPicture tc_BadPicture s_2_4 ne_2_4
  | 2, _, 5, _ => exact kitR_of ic_BadRow tc_BadRow s_2_5 ne_2_5
  | 2, _, 6, _ => exact kitR_of ic_BadIndex tc_BadIndex s_2_6 ne_2_6
  | 2, _, 7, _ => exact kitR_of ic_BadColour tc_BadColour s_2_7 ne_2_7
  | 3, _, 0, _ => exact kitR_of ic_BadScheme tc_BadScheme s_3_0 ne_3_0
  | 3, _, 1, _ => exact kitR_of ic_BadColumn tc_BadColumn s_3_1 ne_3_1
  | 3, _, 2, _ => exact kitR_of ic_BadSpots tc_BadSpots s_3_2 ne_3_2
  | 3, _, 3, _ => exact kitS_of
  | 3, _, 4, _ => exact kitR_of ic_BadPicture tc_BadPicture s_3_4 ne_3_4
  | 3, _, 5, _ => exact kitR_of ic_BadRow tc_BadRow s_3_5 ne_3_5
  | 3, _, 6, _ => exact kitR_of ic_BadIndex tc_BadIndex s_3_6 ne_3_6
  | 3, _, 7, _ => exact kitR_of ic_BadColour tc_BadColour s_3_7 ne_3_7
  | 4, _, 0, _ => exact kitR_of ic_BadScheme tc_BadScheme s_4_0 ne_4_0
  | 4, _, 1, _ => exact kitR_of ic_BadColumn tc_BadColumn s_4_1 ne_4_1
  | 4, _, 2, _ => exact kitR_of ic_BadSpots tc_BadSpots s_4_2 ne_4_2
  | 4, _, 3, _ => exact kitR_of ic_BadStrip tc_BadStrip s_4_3 ne_4_3
  | 4, _, 4, _ => exact kitS_of
  | 4, _, 5, _ => exact kitR_of ic_BadRow tc_BadRow s_4_5 ne_4_5
  | 4, _, 6, _ => exact kitR_of ic_BadIndex tc_BadIndex s_4_6 ne_4_6
  | 4, _, 7, _ => exact kitR_of ic_BadColour tc_BadColour s_4_7 ne_4_7
  | 5, _, 0, _ => exact kitR_of ic_BadScheme tc_BadScheme s_5_0 ne_5_0
  | 5, _, 1, _ => exact kitR_of ic_BadColumn tc_BadColumn s_5_1 ne_5_1
  | 5, _, 2, _ => exact kitR_of ic_BadSpots tc_BadSpots s_5_2 ne_5_2
  | 5, _, 3, _ => exact kitR_of ic_BadStrip tc_BadStrip s_5_3 ne_5_3
  | 5, _, 4, _ => exact kitR_of ic_BadPicture tc_BadPicture s_5_4 ne_5_4
  | 5, _, 5, _ => exact kitS_of
  | 5, _, 6, _ => exact kitR_of ic_BadIndex tc_BadIndex s_5_6 ne_5_6
  | 5, _, 7, _ => exact kitR_of ic_BadColour tc_BadColour s_5_7 ne_5_7
  | 6, _, 0, _ => exact kitR_of ic_BadScheme tc_BadScheme s_6_0 ne_6_0
  | 6, _, 1, _ => exact kitR_of ic_BadColumn tc_BadColumn s_6_1 ne_6_1
  | 6, _, 2, _ => exact kitR_of ic_BadSpots tc_BadSpots s_6_2 ne_6_2
  | 6, _, 3, _ => exact kitR_of ic_BadStrip tc_BadStrip s_6_3 ne_6_3
  | 6, _, 4, _ => exact kitR_of ic_BadPicture tc_BadPicture s_6_4 ne_6_4
  | 6, _, 5, _ => exact kitR_of ic_BadRow tc_BadRow s_6_5 ne_6_5
  | 6, _, 6, _ => exact kitS_of
  | 6, _, 7, _ => exact kitR_of ic_BadColour tc_BadColour s_6_7 ne_6_7
  | 7, _, 0, _ => exact kitR_of ic_BadScheme tc_BadScheme s_7_0 ne_7_0
  | 7, _, 1, _ => exact kitR_of ic_BadColumn tc_BadColumn s_7_1 ne_7_1
  | 7, _, 2, _ => exact kitR_of ic_BadSpots tc_BadSpots s_7_2 ne_7_2
  | 7, _, 3, _ => exact kitR_of ic_BadStrip tc_BadStrip s_7_3 ne_7_3
  | 7, _, 4, _ => exact kitR_of ic_BadPicture tc_BadPicture s_7_4 ne_7_4
  | 7, _, 5, _ => exact kitR_of ic_BadRow tc_BadRow s_7_5 ne_7_5
  | 7, _, 6, _ => exact kitR_of ic_BadIndex tc_BadIndex s_7_6 ne_7_6
  | 7, _, 7, _ => exact kitS_of
theorem kv_of {K : PySem.W.Frag} {CGalloonError CBadScheme CBadColumn CBadSpots CBadStrip CBadPicture CBadRow CBadIndex CBadColour CScheme : Addr}
    (sv_0 : PySem.W.subIn K (.ref CBadScheme) (.type "ValueError") = some true)
    (sv_1 : PySem.W.subIn K (.ref CBadColumn) (.type "ValueError") = some true)
    (sv_2 : PySem.W.subIn K (.ref CBadSpots) (.type "ValueError") = some true)
    (sv_3 : PySem.W.subIn K (.ref CBadStrip) (.type "ValueError") = some true)
    (sv_4 : PySem.W.subIn K (.ref CBadPicture) (.type "ValueError") = some true)
    (sv_5 : PySem.W.subIn K (.ref CBadRow) (.type "ValueError") = some true)
    (sv_6 : PySem.W.subIn K (.ref CBadIndex) (.type "ValueError") = some true)
    (sv_7 : PySem.W.subIn K (.ref CBadColour) (.type "ValueError") = some true) : ∀ i < 8, PySem.W.kitOne K (.ref (eAd ⟨CGalloonError, CBadScheme, CBadColumn, CBadSpots, CBadStrip, CBadPicture, CBadRow, CBadIndex, CBadColour, CScheme⟩ i)) (.type "ValueError") = some true := by
  intro i hi
  match i, hi with
  | 0, _ => exact kitT_of (by decide +kernel) sv_0
  | 1, _ => exact kitT_of (by decide +kernel) sv_1
  | 2, _ => exact kitT_of (by decide +kernel) sv_2
  | 3, _ => exact kitT_of (by decide +kernel) sv_3
  | 4, _ => exact kitT_of (by decide +kernel) sv_4
  | 5, _ => exact kitT_of (by decide +kernel) sv_5
  | 6, _ => exact kitT_of (by decide +kernel) sv_6
  | 7, _ => exact kitT_of (by decide +kernel) sv_7
theorem xm_of {K : PySem.W.Frag} {CGalloonError CBadScheme CBadColumn CBadSpots CBadStrip CBadPicture CBadRow CBadIndex CBadColour CScheme : Addr}
    (sB_GalloonError : PySem.W.subIn K (.ref CGalloonError) (.type "BaseException") = some true)
    (ic_GalloonError : PySem.W.isClsIn K CGalloonError = true)
    (tc_GalloonError : PySem.W.typeIn K (.ref CGalloonError) = some (.type "type"))
    (sg_0 : PySem.W.subIn K (.ref CBadScheme) (.ref CGalloonError) = some true)
    (sg_1 : PySem.W.subIn K (.ref CBadColumn) (.ref CGalloonError) = some true)
    (sg_2 : PySem.W.subIn K (.ref CBadSpots) (.ref CGalloonError) = some true)
    (sg_3 : PySem.W.subIn K (.ref CBadStrip) (.ref CGalloonError) = some true)
    (sg_4 : PySem.W.subIn K (.ref CBadPicture) (.ref CGalloonError) = some true)
    (sg_5 : PySem.W.subIn K (.ref CBadRow) (.ref CGalloonError) = some true)
    (sg_6 : PySem.W.subIn K (.ref CBadIndex) (.ref CGalloonError) = some true)
    (sg_7 : PySem.W.subIn K (.ref CBadColour) (.ref CGalloonError) = some true) : ∀ i < 8, PySem.W.exmOne K (.ref (eAd ⟨CGalloonError, CBadScheme, CBadColumn, CBadSpots, CBadStrip, CBadPicture, CBadRow, CBadIndex, CBadColour, CScheme⟩ i)) (.ref CGalloonError) = some true := by
  intro i hi
  match i, hi with
  | 0, _ => exact exm_of sB_GalloonError ic_GalloonError tc_GalloonError sg_0
  | 1, _ => exact exm_of sB_GalloonError ic_GalloonError tc_GalloonError sg_1
  | 2, _ => exact exm_of sB_GalloonError ic_GalloonError tc_GalloonError sg_2
  | 3, _ => exact exm_of sB_GalloonError ic_GalloonError tc_GalloonError sg_3
  | 4, _ => exact exm_of sB_GalloonError ic_GalloonError tc_GalloonError sg_4
  | 5, _ => exact exm_of sB_GalloonError ic_GalloonError tc_GalloonError sg_5
  | 6, _ => exact exm_of sB_GalloonError ic_GalloonError tc_GalloonError sg_6
  | 7, _ => exact exm_of sB_GalloonError ic_GalloonError tc_GalloonError sg_7
theorem mkTxt {K : PySem.W.Frag} {h : Heap} {mg : Str → Option Value} (X : K.In h) (G : h.Ns mainGlobals mg)
    {CGalloonError CBadScheme CBadColumn CBadSpots CBadStrip CBadPicture CBadRow CBadIndex CBadColour CScheme : Addr}
    {tk_DIGITS : Nat}
    {tk_LETTERS : Nat}
    {f1 : Addr} {od1 an1 : Option Addr} {sl1 : Array (Option Value)} {oc1 kV1 dc1 pm1 cd1 ct1 : Value}
    {nm1 qn1 : Str} {N1 : Addr} {bs1 bm1 : List Value} {sn1 : List Str} {sub1 : List Value} {ab1 : Bool} {col1 : Option Bool} {dd1 : Option Addr} {m01 m11 m21 m31 m51 : Option Value}
    {f2 : Addr} {od2 an2 : Option Addr} {sl2 : Array (Option Value)} {oc2 kV2 dc2 pm2 cd2 ct2 : Value}
    {nm2 qn2 : Str} {N2 : Addr} {bs2 bm2 : List Value} {sn2 : List Str} {sub2 : List Value} {ab2 : Bool} {col2 : Option Bool} {dd2 : Option Addr} {m02 m12 m22 m32 m52 : Option Value}
    {f3 : Addr} {od3 an3 : Option Addr} {sl3 : Array (Option Value)} {oc3 kV3 dc3 pm3 cd3 ct3 : Value}
    {nm3 qn3 : Str} {N3 : Addr} {bs3 bm3 : List Value} {sn3 : List Str} {sub3 : List Value} {ab3 : Bool} {col3 : Option Bool} {dd3 : Option Addr} {m03 m13 m23 m33 m53 : Option Value}
    {f4 : Addr} {od4 an4 : Option Addr} {sl4 : Array (Option Value)} {oc4 kV4 dc4 pm4 cd4 ct4 : Value}
    {nm4 qn4 : Str} {N4 : Addr} {bs4 bm4 : List Value} {sn4 : List Str} {sub4 : List Value} {ab4 : Bool} {col4 : Option Bool} {dd4 : Option Addr} {m04 m14 m24 m34 m54 : Option Value}
    {f5 : Addr} {od5 an5 : Option Addr} {sl5 : Array (Option Value)} {oc5 kV5 dc5 pm5 cd5 ct5 : Value}
    {nm5 qn5 : Str} {N5 : Addr} {bs5 bm5 : List Value} {sn5 : List Str} {sub5 : List Value} {ab5 : Bool} {col5 : Option Bool} {dd5 : Option Addr} {m05 m15 m25 m35 m55 : Option Value}
    {f6 : Addr} {od6 an6 : Option Addr} {sl6 : Array (Option Value)} {oc6 kV6 dc6 pm6 cd6 ct6 : Value}
    {nm6 qn6 : Str} {N6 : Addr} {bs6 bm6 : List Value} {sn6 : List Str} {sub6 : List Value} {ab6 : Bool} {col6 : Option Bool} {dd6 : Option Addr} {m06 m16 m26 m36 m56 : Option Value}
    {f7 : Addr} {od7 an7 : Option Addr} {sl7 : Array (Option Value)} {oc7 kV7 dc7 pm7 cd7 ct7 : Value}
    {nm7 qn7 : Str} {N7 : Addr} {bs7 bm7 : List Value} {sn7 : List Str} {sub7 : List Value} {ab7 : Bool} {col7 : Option Bool} {dd7 : Option Addr} {m07 m17 m27 m37 m57 : Option Value}
    {f8 : Addr} {od8 an8 : Option Addr} {sl8 : Array (Option Value)} {oc8 kV8 dc8 pm8 cd8 ct8 : Value}
    {nm8 qn8 : Str} {N8 : Addr} {bs8 bm8 : List Value} {sn8 : List Str} {sub8 : List Value} {ab8 : Bool} {col8 : Option Bool} {dd8 : Option Addr} {m08 m18 m28 m38 m58 : Option Value}
    {f9 : Addr} {od9 an9 : Option Addr} {sl9 : Array (Option Value)} {oc9 kV9 dc9 pm9 cd9 ct9 : Value}
    {f10 : Addr} {od10 an10 : Option Addr} {sl10 : Array (Option Value)} {oc10 kV10 dc10 pm10 cd10 ct10 : Value}
    {f11 : Addr} {od11 an11 : Option Addr} {sl11 : Array (Option Value)} {oc11 kV11 dc11 pm11 cd11 ct11 : Value}
    {f12 : Addr} {od12 an12 : Option Addr} {sl12 : Array (Option Value)} {oc12 kV12 dc12 pm12 cd12 ct12 : Value}
    {f13 : Addr} {od13 an13 : Option Addr} {sl13 : Array (Option Value)} {oc13 kV13 dc13 pm13 cd13 ct13 : Value}
    {f14 : Addr} {od14 an14 : Option Addr} {sl14 : Array (Option Value)} {oc14 kV14 dc14 pm14 cd14 ct14 : Value}
    {f15 : Addr} {od15 an15 : Option Addr} {sl15 : Array (Option Value)} {oc15 kV15 dc15 pm15 cd15 ct15 : Value}
    {f16 : Addr} {od16 an16 : Option Addr} {sl16 : Array (Option Value)} {oc16 kV16 dc16 pm16 cd16 ct16 : Value}
    {f17 : Addr} {od17 an17 : Option Addr} {sl17 : Array (Option Value)} {oc17 kV17 dc17 pm17 cd17 ct17 : Value}
    {f18 : Addr} {od18 an18 : Option Addr} {sl18 : Array (Option Value)} {oc18 kV18 dc18 pm18 cd18 ct18 : Value}
    {f19 : Addr} {od19 an19 : Option Addr} {sl19 : Array (Option Value)} {oc19 kV19 dc19 pm19 cd19 ct19 : Value}
    {f20 : Addr} {od20 an20 : Option Addr} {sl20 : Array (Option Value)} {oc20 kV20 dc20 pm20 cd20 ct20 : Value}
    {f21 : Addr} {od21 an21 : Option Addr} {sl21 : Array (Option Value)} {oc21 kV21 dc21 pm21 cd21 ct21 : Value}
    {f22 : Addr} {od22 an22 : Option Addr} {sl22 : Array (Option Value)} {oc22 kV22 dc22 pm22 cd22 ct22 : Value}
    {f23 : Addr} {od23 an23 : Option Addr} {sl23 : Array (Option Value)} {oc23 kV23 dc23 pm23 cd23 ct23 : Value}
    {f24 : Addr} {od24 an24 : Option Addr} {sl24 : Array (Option Value)} {oc24 kV24 dc24 pm24 cd24 ct24 : Value}
    {f25 : Addr} {od25 an25 : Option Addr} {sl25 : Array (Option Value)} {oc25 kV25 dc25 pm25 cd25 ct25 : Value}
    {f26 : Addr} {od26 an26 : Option Addr} {sl26 : Array (Option Value)} {oc26 kV26 dc26 pm26 cd26 ct26 : Value}
    {f27 : Addr} {od27 an27 : Option Addr} {sl27 : Array (Option Value)} {oc27 kV27 dc27 pm27 cd27 ct27 : Value}
    {f28 : Addr} {od28 an28 : Option Addr} {sl28 : Array (Option Value)} {oc28 kV28 dc28 pm28 cd28 ct28 : Value}
    {f29 : Addr} {od29 an29 : Option Addr} {sl29 : Array (Option Value)} {oc29 kV29 dc29 pm29 cd29 ct29 : Value}
    {f30 : Addr} {od30 an30 : Option Addr} {sl30 : Array (Option Value)} {oc30 kV30 dc30 pm30 cd30 ct30 : Value}
    {f31 : Addr} {od31 an31 : Option Addr} {sl31 : Array (Option Value)} {oc31 kV31 dc31 pm31 cd31 ct31 : Value}
    {f32 : Addr} {od32 an32 : Option Addr} {sl32 : Array (Option Value)} {oc32 kV32 dc32 pm32 cd32 ct32 : Value}
    {f33 : Addr} {od33 an33 : Option Addr} {sl33 : Array (Option Value)} {oc33 kV33 dc33 pm33 cd33 ct33 : Value}
    {f34 : Addr} {od34 an34 : Option Addr} {sl34 : Array (Option Value)} {oc34 kV34 dc34 pm34 cd34 ct34 : Value}
    {f35 : Addr} {od35 an35 : Option Addr} {sl35 : Array (Option Value)} {oc35 kV35 dc35 pm35 cd35 ct35 : Value}
    {f36 : Addr} {od36 an36 : Option Addr} {sl36 : Array (Option Value)} {oc36 kV36 dc36 pm36 cd36 ct36 : Value}
    {f37 : Addr} {od37 an37 : Option Addr} {sl37 : Array (Option Value)} {oc37 kV37 dc37 pm37 cd37 ct37 : Value}
    {f38 : Addr} {od38 an38 : Option Addr} {sl38 : Array (Option Value)} {oc38 kV38 dc38 pm38 cd38 ct38 : Value}
    {f39 : Addr} {od39 an39 : Option Addr} {sl39 : Array (Option Value)} {oc39 kV39 dc39 pm39 cd39 ct39 : Value}
    {f40 : Addr} {od40 an40 : Option Addr} {sl40 : Array (Option Value)} {oc40 kV40 dc40 pm40 cd40 ct40 : Value}
    {f41 : Addr} {od41 an41 : Option Addr} {sl41 : Array (Option Value)} {oc41 kV41 dc41 pm41 cd41 ct41 : Value}
    {f42 : Addr} {od42 an42 : Option Addr} {sl42 : Array (Option Value)} {oc42 kV42 dc42 pm42 cd42 ct42 : Value}
    {f43 : Addr} {od43 an43 : Option Addr} {sl43 : Array (Option Value)} {oc43 kV43 dc43 pm43 cd43 ct43 : Value}
    {f44 : Addr} {od44 an44 : Option Addr} {sl44 : Array (Option Value)} {oc44 kV44 dc44 pm44 cd44 ct44 : Value}
    {f45 : Addr} {od45 an45 : Option Addr} {sl45 : Array (Option Value)} {oc45 kV45 dc45 pm45 cd45 ct45 : Value}
    {f46 : Addr} {od46 an46 : Option Addr} {sl46 : Array (Option Value)} {oc46 kV46 dc46 pm46 cd46 ct46 : Value}
    {f47 : Addr} {od47 an47 : Option Addr} {sl47 : Array (Option Value)} {oc47 kV47 dc47 pm47 cd47 ct47 : Value}
    {f48 : Addr} {od48 an48 : Option Addr} {sl48 : Array (Option Value)} {oc48 kV48 dc48 pm48 cd48 ct48 : Value}
    {tM tB : Nat}
    (a_GalloonError : PySem.W.nsIn K mainGlobals "GalloonError" = some (some (.ref CGalloonError)))
    (a_BadScheme : PySem.W.nsIn K mainGlobals "BadScheme" = some (some (.ref CBadScheme)))
    (a_BadColumn : PySem.W.nsIn K mainGlobals "BadColumn" = some (some (.ref CBadColumn)))
    (a_BadSpots : PySem.W.nsIn K mainGlobals "BadSpots" = some (some (.ref CBadSpots)))
    (a_BadStrip : PySem.W.nsIn K mainGlobals "BadStrip" = some (some (.ref CBadStrip)))
    (a_BadPicture : PySem.W.nsIn K mainGlobals "BadPicture" = some (some (.ref CBadPicture)))
    (a_BadRow : PySem.W.nsIn K mainGlobals "BadRow" = some (some (.ref CBadRow)))
    (a_BadIndex : PySem.W.nsIn K mainGlobals "BadIndex" = some (some (.ref CBadIndex)))
    (a_BadColour : PySem.W.nsIn K mainGlobals "BadColour" = some (some (.ref CBadColour)))
    (a_Scheme : PySem.W.nsIn K mainGlobals "Scheme" = some (some (.ref CScheme)))
    (z_ValueError : PySem.W.nsIn K mainGlobals "ValueError" = some none)
    (z_abs : PySem.W.nsIn K mainGlobals "abs" = some none)
    (z_all : PySem.W.nsIn K mainGlobals "all" = some none)
    (z_bool : PySem.W.nsIn K mainGlobals "bool" = some none)
    (z_enumerate : PySem.W.nsIn K mainGlobals "enumerate" = some none)
    (z_int : PySem.W.nsIn K mainGlobals "int" = some none)
    (z_isinstance : PySem.W.nsIn K mainGlobals "isinstance" = some none)
    (z_len : PySem.W.nsIn K mainGlobals "len" = some none)
    (z_list : PySem.W.nsIn K mainGlobals "list" = some none)
    (z_ord : PySem.W.nsIn K mainGlobals "ord" = some none)
    (z_range : PySem.W.nsIn K mainGlobals "range" = some none)
    (z_str : PySem.W.nsIn K mainGlobals "str" = some none)
    (z_sum : PySem.W.nsIn K mainGlobals "sum" = some none)
    (z_tuple : PySem.W.nsIn K mainGlobals "tuple" = some none)
    (v_DIGITS : PySem.W.nsIn K mainGlobals "DIGITS" = some (some (.str "012" tk_DIGITS)))
    (v_LETTERS : PySem.W.nsIn K mainGlobals "LETTERS" = some (some (.str "abcdefghi" tk_LETTERS)))
    (sB_GalloonError : PySem.W.subIn K (.ref CGalloonError) (.type "BaseException") = some true)
    (ic_GalloonError : PySem.W.isClsIn K CGalloonError = true)
    (tc_GalloonError : PySem.W.typeIn K (.ref CGalloonError) = some (.type "type"))
    (sB_BadScheme : PySem.W.subIn K (.ref CBadScheme) (.type "BaseException") = some true)
    (ic_BadScheme : PySem.W.isClsIn K CBadScheme = true)
    (tc_BadScheme : PySem.W.typeIn K (.ref CBadScheme) = some (.type "type"))
    (sB_BadColumn : PySem.W.subIn K (.ref CBadColumn) (.type "BaseException") = some true)
    (ic_BadColumn : PySem.W.isClsIn K CBadColumn = true)
    (tc_BadColumn : PySem.W.typeIn K (.ref CBadColumn) = some (.type "type"))
    (sB_BadSpots : PySem.W.subIn K (.ref CBadSpots) (.type "BaseException") = some true)
    (ic_BadSpots : PySem.W.isClsIn K CBadSpots = true)
    (tc_BadSpots : PySem.W.typeIn K (.ref CBadSpots) = some (.type "type"))
    (sB_BadStrip : PySem.W.subIn K (.ref CBadStrip) (.type "BaseException") = some true)
    (ic_BadStrip : PySem.W.isClsIn K CBadStrip = true)
    (tc_BadStrip : PySem.W.typeIn K (.ref CBadStrip) = some (.type "type"))
    (sB_BadPicture : PySem.W.subIn K (.ref CBadPicture) (.type "BaseException") = some true)
    (ic_BadPicture : PySem.W.isClsIn K CBadPicture = true)
    (tc_BadPicture : PySem.W.typeIn K (.ref CBadPicture) = some (.type "type"))
    (sB_BadRow : PySem.W.subIn K (.ref CBadRow) (.type "BaseException") = some true)
    (ic_BadRow : PySem.W.isClsIn K CBadRow = true)
    (tc_BadRow : PySem.W.typeIn K (.ref CBadRow) = some (.type "type"))
    (sB_BadIndex : PySem.W.subIn K (.ref CBadIndex) (.type "BaseException") = some true)
    (ic_BadIndex : PySem.W.isClsIn K CBadIndex = true)
    (tc_BadIndex : PySem.W.typeIn K (.ref CBadIndex) = some (.type "type"))
    (sB_BadColour : PySem.W.subIn K (.ref CBadColour) (.type "BaseException") = some true)
    (ic_BadColour : PySem.W.isClsIn K CBadColour = true)
    (tc_BadColour : PySem.W.typeIn K (.ref CBadColour) = some (.type "type"))
    (ic_Scheme : PySem.W.isClsIn K CScheme = true)
    (tc_Scheme : PySem.W.typeIn K (.ref CScheme) = some (.type "type"))
    (x_BadScheme : K.lookup CBadScheme = some (excClassObj nm1 qn1 CBadScheme N1 bs1 bm1 true sn1 sub1 ab1 col1 dd1 m01 m11 m21 m31 m51 "ValueError.__new__"))
    (rf_BadScheme : PySem.HandSPX.refsVE bm1 = true)
    (sa_BadScheme : PySem.W.findIn K (.ref CBadScheme) "__setattr__" = some (some (.builtin "object.__setattr__")))
    (kc_BadScheme : PySem.W.keepIn K (.ref CBadScheme) = true)
    (nb_BadScheme : PySem.W.findIn K (.ref CBadScheme) "part" = some none)
    (ai_BadScheme : PySem.W.findIn K (.ref CBadScheme) "__init__" = some (some (.ref f1)))
    (ti_BadScheme : PySem.W.typeIn K (.ref f1) = some (.type "function"))
    (li_BadScheme : K.lookup f1 = some ⟨oc1, od1, .func (PySem.W.fnOf "__init__" "BadScheme.__init__" (defArgs s_BadScheme___init__) (defBody s_BadScheme___init__) (defScope s_BadScheme___init__) .none kV1 dc1 pm1 an1 cd1 ct1), sl1⟩)
    (ci_BadScheme : PySem.W.codeIn K cd1 "BadScheme.__init__" = true)
    (ki_BadScheme : PySem.W.keepIn K (.ref f1) = true)
    (ga_BadScheme : PySem.W.findIn K (.ref CBadScheme) "__getattribute__" = some (some (.builtin "BaseException.__getattribute__")))
    (gg_BadScheme : PySem.W.findIn K (.ref CBadScheme) "__getattr__" = some none)
    (hd_BadScheme : PySem.W.hasDictIn K CBadScheme = true)
    (ha_BadScheme : PySem.W.findIn K (.ref CBadScheme) "__class__" = some (some (.builtin "object.__class__")))
    (hm_BadScheme : PySem.W.mroIn K CBadScheme (.type "object") = some true)
    (x_BadColumn : K.lookup CBadColumn = some (excClassObj nm2 qn2 CBadColumn N2 bs2 bm2 true sn2 sub2 ab2 col2 dd2 m02 m12 m22 m32 m52 "ValueError.__new__"))
    (rf_BadColumn : PySem.HandSPX.refsVE bm2 = true)
    (sa_BadColumn : PySem.W.findIn K (.ref CBadColumn) "__setattr__" = some (some (.builtin "object.__setattr__")))
    (kc_BadColumn : PySem.W.keepIn K (.ref CBadColumn) = true)
    (nb_BadColumn : PySem.W.findIn K (.ref CBadColumn) "text" = some none)
    (ai_BadColumn : PySem.W.findIn K (.ref CBadColumn) "__init__" = some (some (.ref f2)))
    (ti_BadColumn : PySem.W.typeIn K (.ref f2) = some (.type "function"))
    (li_BadColumn : K.lookup f2 = some ⟨oc2, od2, .func (PySem.W.fnOf "__init__" "BadColumn.__init__" (defArgs s_BadColumn___init__) (defBody s_BadColumn___init__) (defScope s_BadColumn___init__) .none kV2 dc2 pm2 an2 cd2 ct2), sl2⟩)
    (ci_BadColumn : PySem.W.codeIn K cd2 "BadColumn.__init__" = true)
    (ki_BadColumn : PySem.W.keepIn K (.ref f2) = true)
    (ga_BadColumn : PySem.W.findIn K (.ref CBadColumn) "__getattribute__" = some (some (.builtin "BaseException.__getattribute__")))
    (gg_BadColumn : PySem.W.findIn K (.ref CBadColumn) "__getattr__" = some none)
    (hd_BadColumn : PySem.W.hasDictIn K CBadColumn = true)
    (ha_BadColumn : PySem.W.findIn K (.ref CBadColumn) "__class__" = some (some (.builtin "object.__class__")))
    (hm_BadColumn : PySem.W.mroIn K CBadColumn (.type "object") = some true)
    (x_BadSpots : K.lookup CBadSpots = some (excClassObj nm3 qn3 CBadSpots N3 bs3 bm3 true sn3 sub3 ab3 col3 dd3 m03 m13 m23 m33 m53 "ValueError.__new__"))
    (rf_BadSpots : PySem.HandSPX.refsVE bm3 = true)
    (sa_BadSpots : PySem.W.findIn K (.ref CBadSpots) "__setattr__" = some (some (.builtin "object.__setattr__")))
    (kc_BadSpots : PySem.W.keepIn K (.ref CBadSpots) = true)
    (nb_BadSpots : PySem.W.findIn K (.ref CBadSpots) "text" = some none)
    (ai_BadSpots : PySem.W.findIn K (.ref CBadSpots) "__init__" = some (some (.ref f3)))
    (ti_BadSpots : PySem.W.typeIn K (.ref f3) = some (.type "function"))
    (li_BadSpots : K.lookup f3 = some ⟨oc3, od3, .func (PySem.W.fnOf "__init__" "BadSpots.__init__" (defArgs s_BadSpots___init__) (defBody s_BadSpots___init__) (defScope s_BadSpots___init__) .none kV3 dc3 pm3 an3 cd3 ct3), sl3⟩)
    (ci_BadSpots : PySem.W.codeIn K cd3 "BadSpots.__init__" = true)
    (ki_BadSpots : PySem.W.keepIn K (.ref f3) = true)
    (ga_BadSpots : PySem.W.findIn K (.ref CBadSpots) "__getattribute__" = some (some (.builtin "BaseException.__getattribute__")))
    (gg_BadSpots : PySem.W.findIn K (.ref CBadSpots) "__getattr__" = some none)
    (hd_BadSpots : PySem.W.hasDictIn K CBadSpots = true)
    (ha_BadSpots : PySem.W.findIn K (.ref CBadSpots) "__class__" = some (some (.builtin "object.__class__")))
    (hm_BadSpots : PySem.W.mroIn K CBadSpots (.type "object") = some true)
    (x_BadStrip : K.lookup CBadStrip = some (excClassObj nm4 qn4 CBadStrip N4 bs4 bm4 true sn4 sub4 ab4 col4 dd4 m04 m14 m24 m34 m54 "ValueError.__new__"))
    (rf_BadStrip : PySem.HandSPX.refsVE bm4 = true)
    (sa_BadStrip : PySem.W.findIn K (.ref CBadStrip) "__setattr__" = some (some (.builtin "object.__setattr__")))
    (kc_BadStrip : PySem.W.keepIn K (.ref CBadStrip) = true)
    (nb_BadStrip : PySem.W.findIn K (.ref CBadStrip) "text" = some none)
    (ai_BadStrip : PySem.W.findIn K (.ref CBadStrip) "__init__" = some (some (.ref f4)))
    (ti_BadStrip : PySem.W.typeIn K (.ref f4) = some (.type "function"))
    (li_BadStrip : K.lookup f4 = some ⟨oc4, od4, .func (PySem.W.fnOf "__init__" "BadStrip.__init__" (defArgs s_BadStrip___init__) (defBody s_BadStrip___init__) (defScope s_BadStrip___init__) .none kV4 dc4 pm4 an4 cd4 ct4), sl4⟩)
    (ci_BadStrip : PySem.W.codeIn K cd4 "BadStrip.__init__" = true)
    (ki_BadStrip : PySem.W.keepIn K (.ref f4) = true)
    (ga_BadStrip : PySem.W.findIn K (.ref CBadStrip) "__getattribute__" = some (some (.builtin "BaseException.__getattribute__")))
    (gg_BadStrip : PySem.W.findIn K (.ref CBadStrip) "__getattr__" = some none)
    (hd_BadStrip : PySem.W.hasDictIn K CBadStrip = true)
    (ha_BadStrip : PySem.W.findIn K (.ref CBadStrip) "__class__" = some (some (.builtin "object.__class__")))
    (hm_BadStrip : PySem.W.mroIn K CBadStrip (.type "object") = some true)
    (x_BadPicture : K.lookup CBadPicture = some (excClassObj nm5 qn5 CBadPicture N5 bs5 bm5 true sn5 sub5 ab5 col5 dd5 m05 m15 m25 m35 m55 "ValueError.__new__"))
    (rf_BadPicture : PySem.HandSPX.refsVE bm5 = true)
    (sa_BadPicture : PySem.W.findIn K (.ref CBadPicture) "__setattr__" = some (some (.builtin "object.__setattr__")))
    (kc_BadPicture : PySem.W.keepIn K (.ref CBadPicture) = true)
    (nb_BadPicture : PySem.W.findIn K (.ref CBadPicture) "line" = some none)
    (ai_BadPicture : PySem.W.findIn K (.ref CBadPicture) "__init__" = some (some (.ref f5)))
    (ti_BadPicture : PySem.W.typeIn K (.ref f5) = some (.type "function"))
    (li_BadPicture : K.lookup f5 = some ⟨oc5, od5, .func (PySem.W.fnOf "__init__" "BadPicture.__init__" (defArgs s_BadPicture___init__) (defBody s_BadPicture___init__) (defScope s_BadPicture___init__) .none kV5 dc5 pm5 an5 cd5 ct5), sl5⟩)
    (ci_BadPicture : PySem.W.codeIn K cd5 "BadPicture.__init__" = true)
    (ki_BadPicture : PySem.W.keepIn K (.ref f5) = true)
    (ga_BadPicture : PySem.W.findIn K (.ref CBadPicture) "__getattribute__" = some (some (.builtin "BaseException.__getattribute__")))
    (gg_BadPicture : PySem.W.findIn K (.ref CBadPicture) "__getattr__" = some none)
    (hd_BadPicture : PySem.W.hasDictIn K CBadPicture = true)
    (ha_BadPicture : PySem.W.findIn K (.ref CBadPicture) "__class__" = some (some (.builtin "object.__class__")))
    (hm_BadPicture : PySem.W.mroIn K CBadPicture (.type "object") = some true)
    (x_BadRow : K.lookup CBadRow = some (excClassObj nm6 qn6 CBadRow N6 bs6 bm6 true sn6 sub6 ab6 col6 dd6 m06 m16 m26 m36 m56 "ValueError.__new__"))
    (rf_BadRow : PySem.HandSPX.refsVE bm6 = true)
    (sa_BadRow : PySem.W.findIn K (.ref CBadRow) "__setattr__" = some (some (.builtin "object.__setattr__")))
    (kc_BadRow : PySem.W.keepIn K (.ref CBadRow) = true)
    (nb_BadRow : PySem.W.findIn K (.ref CBadRow) "row" = some none)
    (ai_BadRow : PySem.W.findIn K (.ref CBadRow) "__init__" = some (some (.ref f6)))
    (ti_BadRow : PySem.W.typeIn K (.ref f6) = some (.type "function"))
    (li_BadRow : K.lookup f6 = some ⟨oc6, od6, .func (PySem.W.fnOf "__init__" "BadRow.__init__" (defArgs s_BadRow___init__) (defBody s_BadRow___init__) (defScope s_BadRow___init__) .none kV6 dc6 pm6 an6 cd6 ct6), sl6⟩)
    (ci_BadRow : PySem.W.codeIn K cd6 "BadRow.__init__" = true)
    (ki_BadRow : PySem.W.keepIn K (.ref f6) = true)
    (ga_BadRow : PySem.W.findIn K (.ref CBadRow) "__getattribute__" = some (some (.builtin "BaseException.__getattribute__")))
    (gg_BadRow : PySem.W.findIn K (.ref CBadRow) "__getattr__" = some none)
    (hd_BadRow : PySem.W.hasDictIn K CBadRow = true)
    (ha_BadRow : PySem.W.findIn K (.ref CBadRow) "__class__" = some (some (.builtin "object.__class__")))
    (hm_BadRow : PySem.W.mroIn K CBadRow (.type "object") = some true)
    (x_BadIndex : K.lookup CBadIndex = some (excClassObj nm7 qn7 CBadIndex N7 bs7 bm7 true sn7 sub7 ab7 col7 dd7 m07 m17 m27 m37 m57 "ValueError.__new__"))
    (rf_BadIndex : PySem.HandSPX.refsVE bm7 = true)
    (sa_BadIndex : PySem.W.findIn K (.ref CBadIndex) "__setattr__" = some (some (.builtin "object.__setattr__")))
    (kc_BadIndex : PySem.W.keepIn K (.ref CBadIndex) = true)
    (nb_BadIndex : PySem.W.findIn K (.ref CBadIndex) "at" = some none)
    (ai_BadIndex : PySem.W.findIn K (.ref CBadIndex) "__init__" = some (some (.ref f7)))
    (ti_BadIndex : PySem.W.typeIn K (.ref f7) = some (.type "function"))
    (li_BadIndex : K.lookup f7 = some ⟨oc7, od7, .func (PySem.W.fnOf "__init__" "BadIndex.__init__" (defArgs s_BadIndex___init__) (defBody s_BadIndex___init__) (defScope s_BadIndex___init__) .none kV7 dc7 pm7 an7 cd7 ct7), sl7⟩)
    (ci_BadIndex : PySem.W.codeIn K cd7 "BadIndex.__init__" = true)
    (ki_BadIndex : PySem.W.keepIn K (.ref f7) = true)
    (ga_BadIndex : PySem.W.findIn K (.ref CBadIndex) "__getattribute__" = some (some (.builtin "BaseException.__getattribute__")))
    (gg_BadIndex : PySem.W.findIn K (.ref CBadIndex) "__getattr__" = some none)
    (hd_BadIndex : PySem.W.hasDictIn K CBadIndex = true)
    (ha_BadIndex : PySem.W.findIn K (.ref CBadIndex) "__class__" = some (some (.builtin "object.__class__")))
    (hm_BadIndex : PySem.W.mroIn K CBadIndex (.type "object") = some true)
    (x_BadColour : K.lookup CBadColour = some (excClassObj nm8 qn8 CBadColour N8 bs8 bm8 true sn8 sub8 ab8 col8 dd8 m08 m18 m28 m38 m58 "ValueError.__new__"))
    (rf_BadColour : PySem.HandSPX.refsVE bm8 = true)
    (sa_BadColour : PySem.W.findIn K (.ref CBadColour) "__setattr__" = some (some (.builtin "object.__setattr__")))
    (kc_BadColour : PySem.W.keepIn K (.ref CBadColour) = true)
    (nb_BadColour : PySem.W.findIn K (.ref CBadColour) "colour" = some none)
    (ai_BadColour : PySem.W.findIn K (.ref CBadColour) "__init__" = some (some (.ref f8)))
    (ti_BadColour : PySem.W.typeIn K (.ref f8) = some (.type "function"))
    (li_BadColour : K.lookup f8 = some ⟨oc8, od8, .func (PySem.W.fnOf "__init__" "BadColour.__init__" (defArgs s_BadColour___init__) (defBody s_BadColour___init__) (defScope s_BadColour___init__) .none kV8 dc8 pm8 an8 cd8 ct8), sl8⟩)
    (ci_BadColour : PySem.W.codeIn K cd8 "BadColour.__init__" = true)
    (ki_BadColour : PySem.W.keepIn K (.ref f8) = true)
    (ga_BadColour : PySem.W.findIn K (.ref CBadColour) "__getattribute__" = some (some (.builtin "BaseException.__getattribute__")))
    (gg_BadColour : PySem.W.findIn K (.ref CBadColour) "__getattr__" = some none)
    (hd_BadColour : PySem.W.hasDictIn K CBadColour = true)
    (ha_BadColour : PySem.W.findIn K (.ref CBadColour) "__class__" = some (some (.builtin "object.__class__")))
    (hm_BadColour : PySem.W.mroIn K CBadColour (.type "object") = some true)
    (pg_Scheme : PySem.W.plainGet K CScheme Str.empty = true)
    (hd_Scheme : PySem.W.hasDictIn K CScheme = true)
    (po_Scheme : PySem.W.plainOver K CScheme = true)
    (sa_Scheme : PySem.W.findIn K (.ref CScheme) "__setattr__" = some (some (.builtin "object.__setattr__")))
    (mk_Scheme : PySem.W.makesIn K CScheme = true)
    (kc_Scheme : PySem.W.keepIn K (.ref CScheme) = true)
    (am_Scheme___init__ : PySem.W.findIn K (.ref CScheme) "__init__" = some (some (.ref f9)))
    (im_Scheme___init__ : PySem.W.isFn K (.ref f9) = true)
    (lm_Scheme___init__ : K.lookup f9 = some ⟨oc9, od9, .func (PySem.W.fnOf "__init__" "Scheme.__init__" (defArgs s_Scheme___init__) (defBody s_Scheme___init__) (defScope s_Scheme___init__) .none kV9 dc9 pm9 an9 cd9 ct9), sl9⟩)
    (cm_Scheme___init__ : PySem.W.codeIn K cd9 "Scheme.__init__" = true)
    (km_Scheme___init__ : PySem.W.keepIn K (.ref f9) = true)
    (am_Scheme___eq__ : PySem.W.findIn K (.ref CScheme) "__eq__" = some (some (.ref f10)))
    (im_Scheme___eq__ : PySem.W.isFn K (.ref f10) = true)
    (lm_Scheme___eq__ : K.lookup f10 = some ⟨oc10, od10, .func (PySem.W.fnOf "__eq__" "Scheme.__eq__" (defArgs s_Scheme___eq__) (defBody s_Scheme___eq__) (defScope s_Scheme___eq__) .none kV10 dc10 pm10 an10 cd10 ct10), sl10⟩)
    (cm_Scheme___eq__ : PySem.W.codeIn K cd10 "Scheme.__eq__" = true)
    (km_Scheme___eq__ : PySem.W.keepIn K (.ref f10) = true)
    (am_Scheme___len__ : PySem.W.findIn K (.ref CScheme) "__len__" = some (some (.ref f11)))
    (im_Scheme___len__ : PySem.W.isFn K (.ref f11) = true)
    (lm_Scheme___len__ : K.lookup f11 = some ⟨oc11, od11, .func (PySem.W.fnOf "__len__" "Scheme.__len__" (defArgs s_Scheme___len__) (defBody s_Scheme___len__) (defScope s_Scheme___len__) .none kV11 dc11 pm11 an11 cd11 ct11), sl11⟩)
    (cm_Scheme___len__ : PySem.W.codeIn K cd11 "Scheme.__len__" = true)
    (km_Scheme___len__ : PySem.W.keepIn K (.ref f11) = true)
    (am_Scheme_is_column : PySem.W.findIn K (.ref CScheme) "is_column" = some (some (.ref f12)))
    (im_Scheme_is_column : PySem.W.isFn K (.ref f12) = true)
    (lm_Scheme_is_column : K.lookup f12 = some ⟨oc12, od12, .func (PySem.W.fnOf "is_column" "Scheme.is_column" (defArgs s_Scheme_is_column) (defBody s_Scheme_is_column) (defScope s_Scheme_is_column) .none kV12 dc12 pm12 an12 cd12 ct12), sl12⟩)
    (cm_Scheme_is_column : PySem.W.codeIn K cd12 "Scheme.is_column" = true)
    (km_Scheme_is_column : PySem.W.keepIn K (.ref f12) = true)
    (am_Scheme_is_colour : PySem.W.findIn K (.ref CScheme) "is_colour" = some (some (.ref f13)))
    (im_Scheme_is_colour : PySem.W.isFn K (.ref f13) = true)
    (lm_Scheme_is_colour : K.lookup f13 = some ⟨oc13, od13, .func (PySem.W.fnOf "is_colour" "Scheme.is_colour" (defArgs s_Scheme_is_colour) (defBody s_Scheme_is_colour) (defScope s_Scheme_is_colour) .none kV13 dc13 pm13 an13 cd13 ct13), sl13⟩)
    (cm_Scheme_is_colour : PySem.W.codeIn K cd13 "Scheme.is_colour" = true)
    (km_Scheme_is_colour : PySem.W.keepIn K (.ref f13) = true)
    (am_Scheme_is_strip : PySem.W.findIn K (.ref CScheme) "is_strip" = some (some (.ref f14)))
    (im_Scheme_is_strip : PySem.W.isFn K (.ref f14) = true)
    (lm_Scheme_is_strip : K.lookup f14 = some ⟨oc14, od14, .func (PySem.W.fnOf "is_strip" "Scheme.is_strip" (defArgs s_Scheme_is_strip) (defBody s_Scheme_is_strip) (defScope s_Scheme_is_strip) .none kV14 dc14 pm14 an14 cd14 ct14), sl14⟩)
    (cm_Scheme_is_strip : PySem.W.codeIn K cd14 "Scheme.is_strip" = true)
    (km_Scheme_is_strip : PySem.W.keepIn K (.ref f14) = true)
    (am_Scheme_check : PySem.W.findIn K (.ref CScheme) "check" = some (some (.ref f15)))
    (im_Scheme_check : PySem.W.isFn K (.ref f15) = true)
    (lm_Scheme_check : K.lookup f15 = some ⟨oc15, od15, .func (PySem.W.fnOf "check" "Scheme.check" (defArgs s_Scheme_check) (defBody s_Scheme_check) (defScope s_Scheme_check) .none kV15 dc15 pm15 an15 cd15 ct15), sl15⟩)
    (cm_Scheme_check : PySem.W.codeIn K cd15 "Scheme.check" = true)
    (km_Scheme_check : PySem.W.keepIn K (.ref f15) = true)
    (am_Scheme_spots : PySem.W.findIn K (.ref CScheme) "spots" = some (some (.ref f16)))
    (im_Scheme_spots : PySem.W.isFn K (.ref f16) = true)
    (lm_Scheme_spots : K.lookup f16 = some ⟨oc16, od16, .func (PySem.W.fnOf "spots" "Scheme.spots" (defArgs s_Scheme_spots) (defBody s_Scheme_spots) (defScope s_Scheme_spots) .none kV16 dc16 pm16 an16 cd16 ct16), sl16⟩)
    (cm_Scheme_spots : PySem.W.codeIn K cd16 "Scheme.spots" = true)
    (km_Scheme_spots : PySem.W.keepIn K (.ref f16) = true)
    (am_Scheme_column : PySem.W.findIn K (.ref CScheme) "column" = some (some (.ref f17)))
    (im_Scheme_column : PySem.W.isFn K (.ref f17) = true)
    (lm_Scheme_column : K.lookup f17 = some ⟨oc17, od17, .func (PySem.W.fnOf "column" "Scheme.column" (defArgs s_Scheme_column) (defBody s_Scheme_column) (defScope s_Scheme_column) .none kV17 dc17 pm17 an17 cd17 ct17), sl17⟩)
    (cm_Scheme_column : PySem.W.codeIn K cd17 "Scheme.column" = true)
    (km_Scheme_column : PySem.W.keepIn K (.ref f17) = true)
    (am_Scheme_picture : PySem.W.findIn K (.ref CScheme) "picture" = some (some (.ref f18)))
    (im_Scheme_picture : PySem.W.isFn K (.ref f18) = true)
    (lm_Scheme_picture : K.lookup f18 = some ⟨oc18, od18, .func (PySem.W.fnOf "picture" "Scheme.picture" (defArgs s_Scheme_picture) (defBody s_Scheme_picture) (defScope s_Scheme_picture) .none kV18 dc18 pm18 an18 cd18 ct18), sl18⟩)
    (cm_Scheme_picture : PySem.W.codeIn K cd18 "Scheme.picture" = true)
    (km_Scheme_picture : PySem.W.keepIn K (.ref f18) = true)
    (am_Scheme_of_picture : PySem.W.findIn K (.ref CScheme) "of_picture" = some (some (.ref f19)))
    (im_Scheme_of_picture : PySem.W.isFn K (.ref f19) = true)
    (lm_Scheme_of_picture : K.lookup f19 = some ⟨oc19, od19, .func (PySem.W.fnOf "of_picture" "Scheme.of_picture" (defArgs s_Scheme_of_picture) (defBody s_Scheme_of_picture) (defScope s_Scheme_of_picture) .none kV19 dc19 pm19 an19 cd19 ct19), sl19⟩)
    (cm_Scheme_of_picture : PySem.W.codeIn K cd19 "Scheme.of_picture" = true)
    (km_Scheme_of_picture : PySem.W.keepIn K (.ref f19) = true)
    (am_Scheme_colour_at : PySem.W.findIn K (.ref CScheme) "colour_at" = some (some (.ref f20)))
    (im_Scheme_colour_at : PySem.W.isFn K (.ref f20) = true)
    (lm_Scheme_colour_at : K.lookup f20 = some ⟨oc20, od20, .func (PySem.W.fnOf "colour_at" "Scheme.colour_at" (defArgs s_Scheme_colour_at) (defBody s_Scheme_colour_at) (defScope s_Scheme_colour_at) .none kV20 dc20 pm20 an20 cd20 ct20), sl20⟩)
    (cm_Scheme_colour_at : PySem.W.codeIn K cd20 "Scheme.colour_at" = true)
    (km_Scheme_colour_at : PySem.W.keepIn K (.ref f20) = true)
    (am_Scheme_recoloured : PySem.W.findIn K (.ref CScheme) "recoloured" = some (some (.ref f21)))
    (im_Scheme_recoloured : PySem.W.isFn K (.ref f21) = true)
    (lm_Scheme_recoloured : K.lookup f21 = some ⟨oc21, od21, .func (PySem.W.fnOf "recoloured" "Scheme.recoloured" (defArgs s_Scheme_recoloured) (defBody s_Scheme_recoloured) (defScope s_Scheme_recoloured) .none kV21 dc21 pm21 an21 cd21 ct21), sl21⟩)
    (cm_Scheme_recoloured : PySem.W.codeIn K cd21 "Scheme.recoloured" = true)
    (km_Scheme_recoloured : PySem.W.keepIn K (.ref f21) = true)
    (ad_law_purse : PySem.W.nsIn K mainGlobals "_law_purse" = some (some (.ref f22)))
    (ld_law_purse : K.lookup f22 = some ⟨oc22, od22, .func (PySem.W.fnOf "_law_purse" "_law_purse" (defArgs s_law_purse) (defBody s_law_purse) (defScope s_law_purse) .none kV22 dc22 pm22 an22 cd22 ct22), sl22⟩)
    (cd_law_purse : PySem.W.codeIn K cd22 "_law_purse" = true)
    (kd_law_purse : PySem.W.keepIn K (.ref f22) = true)
    (ad_law_draw : PySem.W.nsIn K mainGlobals "_law_draw" = some (some (.ref f23)))
    (ld_law_draw : K.lookup f23 = some ⟨oc23, od23, .func (PySem.W.fnOf "_law_draw" "_law_draw" (defArgs s_law_draw) (defBody s_law_draw) (defScope s_law_draw) .none kV23 dc23 pm23 an23 cd23 ct23), sl23⟩)
    (cd_law_draw : PySem.W.codeIn K cd23 "_law_draw" = true)
    (kd_law_draw : PySem.W.keepIn K (.ref f23) = true)
    (ad_law_alike : PySem.W.nsIn K mainGlobals "_law_alike" = some (some (.ref f24)))
    (ld_law_alike : K.lookup f24 = some ⟨oc24, od24, .func (PySem.W.fnOf "_law_alike" "_law_alike" (defArgs s_law_alike) (defBody s_law_alike) (defScope s_law_alike) .none kV24 dc24 pm24 an24 cd24 ct24), sl24⟩)
    (cd_law_alike : PySem.W.codeIn K cd24 "_law_alike" = true)
    (kd_law_alike : PySem.W.keepIn K (.ref f24) = true)
    (ad_law_sizes : PySem.W.nsIn K mainGlobals "_law_sizes" = some (some (.ref f25)))
    (ld_law_sizes : K.lookup f25 = some ⟨oc25, od25, .func (PySem.W.fnOf "_law_sizes" "_law_sizes" (defArgs s_law_sizes) (defBody s_law_sizes) (defScope s_law_sizes) .none kV25 dc25 pm25 an25 cd25 ct25), sl25⟩)
    (cd_law_sizes : PySem.W.codeIn K cd25 "_law_sizes" = true)
    (kd_law_sizes : PySem.W.keepIn K (.ref f25) = true)
    (ad_law_sign : PySem.W.nsIn K mainGlobals "_law_sign" = some (some (.ref f26)))
    (ld_law_sign : K.lookup f26 = some ⟨oc26, od26, .func (PySem.W.fnOf "_law_sign" "_law_sign" (defArgs s_law_sign) (defBody s_law_sign) (defScope s_law_sign) .none kV26 dc26 pm26 an26 cd26 ct26), sl26⟩)
    (cd_law_sign : PySem.W.codeIn K cd26 "_law_sign" = true)
    (kd_law_sign : PySem.W.keepIn K (.ref f26) = true)
    (ad_law_spoilt : PySem.W.nsIn K mainGlobals "_law_spoilt" = some (some (.ref f27)))
    (ld_law_spoilt : K.lookup f27 = some ⟨oc27, od27, .func (PySem.W.fnOf "_law_spoilt" "_law_spoilt" (defArgs s_law_spoilt) (defBody s_law_spoilt) (defScope s_law_spoilt) .none kV27 dc27 pm27 an27 cd27 ct27), sl27⟩)
    (cd_law_spoilt : PySem.W.codeIn K cd27 "_law_spoilt" = true)
    (kd_law_spoilt : PySem.W.keepIn K (.ref f27) = true)
    (ad_law_far : PySem.W.nsIn K mainGlobals "_law_far" = some (some (.ref f28)))
    (ld_law_far : K.lookup f28 = some ⟨oc28, od28, .func (PySem.W.fnOf "_law_far" "_law_far" (defArgs s_law_far) (defBody s_law_far) (defScope s_law_far) .none kV28 dc28 pm28 an28 cd28 ct28), sl28⟩)
    (cd_law_far : PySem.W.codeIn K cd28 "_law_far" = true)
    (kd_law_far : PySem.W.keepIn K (.ref f28) = true)
    (ad_law_refusal : PySem.W.nsIn K mainGlobals "_law_refusal" = some (some (.ref f29)))
    (ld_law_refusal : K.lookup f29 = some ⟨oc29, od29, .func (PySem.W.fnOf "_law_refusal" "_law_refusal" (defArgs s_law_refusal) (defBody s_law_refusal) (defScope s_law_refusal) .none kV29 dc29 pm29 an29 cd29 ct29), sl29⟩)
    (cd_law_refusal : PySem.W.codeIn K cd29 "_law_refusal" = true)
    (kd_law_refusal : PySem.W.keepIn K (.ref f29) = true)
    (ad_law_made : PySem.W.nsIn K mainGlobals "_law_made" = some (some (.ref f30)))
    (ld_law_made : K.lookup f30 = some ⟨oc30, od30, .func (PySem.W.fnOf "_law_made" "_law_made" (defArgs s_law_made) (defBody s_law_made) (defScope s_law_made) .none kV30 dc30 pm30 an30 cd30 ct30), sl30⟩)
    (cd_law_made : PySem.W.codeIn K cd30 "_law_made" = true)
    (kd_law_made : PySem.W.keepIn K (.ref f30) = true)
    (ad_law_made_due : PySem.W.nsIn K mainGlobals "_law_made_due" = some (some (.ref f31)))
    (ld_law_made_due : K.lookup f31 = some ⟨oc31, od31, .func (PySem.W.fnOf "_law_made_due" "_law_made_due" (defArgs s_law_made_due) (defBody s_law_made_due) (defScope s_law_made_due) .none kV31 dc31 pm31 an31 cd31 ct31), sl31⟩)
    (cd_law_made_due : PySem.W.codeIn K cd31 "_law_made_due" = true)
    (kd_law_made_due : PySem.W.keepIn K (.ref f31) = true)
    (ad_law_answer : PySem.W.nsIn K mainGlobals "_law_answer" = some (some (.ref f32)))
    (ld_law_answer : K.lookup f32 = some ⟨oc32, od32, .func (PySem.W.fnOf "_law_answer" "_law_answer" (defArgs s_law_answer) (defBody s_law_answer) (defScope s_law_answer) .none kV32 dc32 pm32 an32 cd32 ct32), sl32⟩)
    (cd_law_answer : PySem.W.codeIn K cd32 "_law_answer" = true)
    (kd_law_answer : PySem.W.keepIn K (.ref f32) = true)
    (ad_law_seen : PySem.W.nsIn K mainGlobals "_law_seen" = some (some (.ref f33)))
    (ld_law_seen : K.lookup f33 = some ⟨oc33, od33, .func (PySem.W.fnOf "_law_seen" "_law_seen" (defArgs s_law_seen) (defBody s_law_seen) (defScope s_law_seen) .none kV33 dc33 pm33 an33 cd33 ct33), sl33⟩)
    (cd_law_seen : PySem.W.codeIn K cd33 "_law_seen" = true)
    (kd_law_seen : PySem.W.keepIn K (.ref f33) = true)
    (ad_law_digits : PySem.W.nsIn K mainGlobals "_law_digits" = some (some (.ref f34)))
    (ld_law_digits : K.lookup f34 = some ⟨oc34, od34, .func (PySem.W.fnOf "_law_digits" "_law_digits" (defArgs s_law_digits) (defBody s_law_digits) (defScope s_law_digits) .none kV34 dc34 pm34 an34 cd34 ct34), sl34⟩)
    (cd_law_digits : PySem.W.codeIn K cd34 "_law_digits" = true)
    (kd_law_digits : PySem.W.keepIn K (.ref f34) = true)
    (ad_law_letter : PySem.W.nsIn K mainGlobals "_law_letter" = some (some (.ref f35)))
    (ld_law_letter : K.lookup f35 = some ⟨oc35, od35, .func (PySem.W.fnOf "_law_letter" "_law_letter" (defArgs s_law_letter) (defBody s_law_letter) (defScope s_law_letter) .none kV35 dc35 pm35 an35 cd35 ct35), sl35⟩)
    (cd_law_letter : PySem.W.codeIn K cd35 "_law_letter" = true)
    (kd_law_letter : PySem.W.keepIn K (.ref f35) = true)
    (ad_law_only : PySem.W.nsIn K mainGlobals "_law_only" = some (some (.ref f36)))
    (ld_law_only : K.lookup f36 = some ⟨oc36, od36, .func (PySem.W.fnOf "_law_only" "_law_only" (defArgs s_law_only) (defBody s_law_only) (defScope s_law_only) .none kV36 dc36 pm36 an36 cd36 ct36), sl36⟩)
    (cd_law_only : PySem.W.codeIn K cd36 "_law_only" = true)
    (kd_law_only : PySem.W.keepIn K (.ref f36) = true)
    (ad_law_is_strip : PySem.W.nsIn K mainGlobals "_law_is_strip" = some (some (.ref f37)))
    (ld_law_is_strip : K.lookup f37 = some ⟨oc37, od37, .func (PySem.W.fnOf "_law_is_strip" "_law_is_strip" (defArgs s_law_is_strip) (defBody s_law_is_strip) (defScope s_law_is_strip) .none kV37 dc37 pm37 an37 cd37 ct37), sl37⟩)
    (cd_law_is_strip : PySem.W.codeIn K cd37 "_law_is_strip" = true)
    (kd_law_is_strip : PySem.W.keepIn K (.ref f37) = true)
    (ad_law_colours : PySem.W.nsIn K mainGlobals "_law_colours" = some (some (.ref f38)))
    (ld_law_colours : K.lookup f38 = some ⟨oc38, od38, .func (PySem.W.fnOf "_law_colours" "_law_colours" (defArgs s_law_colours) (defBody s_law_colours) (defScope s_law_colours) .none kV38 dc38 pm38 an38 cd38 ct38), sl38⟩)
    (cd_law_colours : PySem.W.codeIn K cd38 "_law_colours" = true)
    (kd_law_colours : PySem.W.keepIn K (.ref f38) = true)
    (ad_law_lines : PySem.W.nsIn K mainGlobals "_law_lines" = some (some (.ref f39)))
    (ld_law_lines : K.lookup f39 = some ⟨oc39, od39, .func (PySem.W.fnOf "_law_lines" "_law_lines" (defArgs s_law_lines) (defBody s_law_lines) (defScope s_law_lines) .none kV39 dc39 pm39 an39 cd39 ct39), sl39⟩)
    (cd_law_lines : PySem.W.codeIn K cd39 "_law_lines" = true)
    (kd_law_lines : PySem.W.keepIn K (.ref f39) = true)
    (ad_law_seen_due : PySem.W.nsIn K mainGlobals "_law_seen_due" = some (some (.ref f40)))
    (ld_law_seen_due : K.lookup f40 = some ⟨oc40, od40, .func (PySem.W.fnOf "_law_seen_due" "_law_seen_due" (defArgs s_law_seen_due) (defBody s_law_seen_due) (defScope s_law_seen_due) .none kV40 dc40 pm40 an40 cd40 ct40), sl40⟩)
    (cd_law_seen_due : PySem.W.codeIn K cd40 "_law_seen_due" = true)
    (kd_law_seen_due : PySem.W.keepIn K (.ref f40) = true)
    (ad_law_spot_due : PySem.W.nsIn K mainGlobals "_law_spot_due" = some (some (.ref f41)))
    (ld_law_spot_due : K.lookup f41 = some ⟨oc41, od41, .func (PySem.W.fnOf "_law_spot_due" "_law_spot_due" (defArgs s_law_spot_due) (defBody s_law_spot_due) (defScope s_law_spot_due) .none kV41 dc41 pm41 an41 cd41 ct41), sl41⟩)
    (cd_law_spot_due : PySem.W.codeIn K cd41 "_law_spot_due" = true)
    (kd_law_spot_due : PySem.W.keepIn K (.ref f41) = true)
    (ad_law_fields : PySem.W.nsIn K mainGlobals "_law_fields" = some (some (.ref f42)))
    (ld_law_fields : K.lookup f42 = some ⟨oc42, od42, .func (PySem.W.fnOf "_law_fields" "_law_fields" (defArgs s_law_fields) (defBody s_law_fields) (defScope s_law_fields) .none kV42 dc42 pm42 an42 cd42 ct42), sl42⟩)
    (cd_law_fields : PySem.W.codeIn K cd42 "_law_fields" = true)
    (kd_law_fields : PySem.W.keepIn K (.ref f42) = true)
    (ad_law_columns : PySem.W.nsIn K mainGlobals "_law_columns" = some (some (.ref f43)))
    (ld_law_columns : K.lookup f43 = some ⟨oc43, od43, .func (PySem.W.fnOf "_law_columns" "_law_columns" (defArgs s_law_columns) (defBody s_law_columns) (defScope s_law_columns) .none kV43 dc43 pm43 an43 cd43 ct43), sl43⟩)
    (cd_law_columns : PySem.W.codeIn K cd43 "_law_columns" = true)
    (kd_law_columns : PySem.W.keepIn K (.ref f43) = true)
    (ad_law_bent : PySem.W.nsIn K mainGlobals "_law_bent" = some (some (.ref f44)))
    (ld_law_bent : K.lookup f44 = some ⟨oc44, od44, .func (PySem.W.fnOf "_law_bent" "_law_bent" (defArgs s_law_bent) (defBody s_law_bent) (defScope s_law_bent) .none kV44 dc44 pm44 an44 cd44 ct44), sl44⟩)
    (cd_law_bent : PySem.W.codeIn K cd44 "_law_bent" = true)
    (kd_law_bent : PySem.W.keepIn K (.ref f44) = true)
    (ad_law_pictures : PySem.W.nsIn K mainGlobals "_law_pictures" = some (some (.ref f45)))
    (ld_law_pictures : K.lookup f45 = some ⟨oc45, od45, .func (PySem.W.fnOf "_law_pictures" "_law_pictures" (defArgs s_law_pictures) (defBody s_law_pictures) (defScope s_law_pictures) .none kV45 dc45 pm45 an45 cd45 ct45), sl45⟩)
    (cd_law_pictures : PySem.W.codeIn K cd45 "_law_pictures" = true)
    (kd_law_pictures : PySem.W.keepIn K (.ref f45) = true)
    (ad_law_spots : PySem.W.nsIn K mainGlobals "_law_spots" = some (some (.ref f46)))
    (ld_law_spots : K.lookup f46 = some ⟨oc46, od46, .func (PySem.W.fnOf "_law_spots" "_law_spots" (defArgs s_law_spots) (defBody s_law_spots) (defScope s_law_spots) .none kV46 dc46 pm46 an46 cd46 ct46), sl46⟩)
    (cd_law_spots : PySem.W.codeIn K cd46 "_law_spots" = true)
    (kd_law_spots : PySem.W.keepIn K (.ref f46) = true)
    (ad_law_strips : PySem.W.nsIn K mainGlobals "_law_strips" = some (some (.ref f47)))
    (ld_law_strips : K.lookup f47 = some ⟨oc47, od47, .func (PySem.W.fnOf "_law_strips" "_law_strips" (defArgs s_law_strips) (defBody s_law_strips) (defScope s_law_strips) .none kV47 dc47 pm47 an47 cd47 ct47), sl47⟩)
    (cd_law_strips : PySem.W.codeIn K cd47 "_law_strips" = true)
    (kd_law_strips : PySem.W.keepIn K (.ref f47) = true)
    (ad_law : PySem.W.nsIn K mainGlobals "law" = some (some (.ref f48)))
    (ld_law : K.lookup f48 = some ⟨oc48, od48, .func (PySem.W.fnOf "law" "law" (defArgs s_law) (defBody s_law) (defScope s_law) .none kV48 dc48 pm48 an48 cd48 ct48), sl48⟩)
    (cd_law : PySem.W.codeIn K cd48 "law" = true)
    (kd_law : PySem.W.keepIn K (.ref f48) = true)
    (nn_rows : PySem.W.findIn K (.ref CScheme) "rows" = some none)
    (nn_colours : PySem.W.findIn K (.ref CScheme) "colours" = some none)
    (nn_columns : PySem.W.findIn K (.ref CScheme) "columns" = some none)
    (fM : PySem.W.findIn K (.ref CScheme) "MOST" = some (some (.int 9 tM)))
    (sM : PySem.W.specialIn K (.int 9 tM) "__get__" = some none)
    (fB : PySem.W.findIn K (.ref CScheme) "BLANK" = some (some (.str "a" tB)))
    (sBl : PySem.W.specialIn K (.str "a" tB) "__get__" = some none)
    (rS : PySem.W.readsIn K CScheme (.type "type") = true)
    (gS : PySem.W.specialIn K (.ref CScheme) "__getattribute__" = some (some (.builtin "type.__getattribute__")))
    (cM : PySem.W.findCls K (.ref CScheme) (.type "type") "MOST" = some (.val (.int 9 tM)))
    (cB : PySem.W.findCls K (.ref CScheme) (.type "type") "BLANK" = some (.val (.str "a" tB)))
    (i_ha : PySem.W.findIn K (.ref CScheme) "__class__" = some (some (.builtin "object.__class__")))
    (i_hn : PySem.W.specialIn K (.builtin "object.__class__") "__get__" = some (some (.builtin "getset_descriptor.__get__")))
    (i_ht : PySem.W.takesIn K (.builtin "object.__class__") = some true)
    (i_hm : PySem.W.mroIn K CScheme (.type "object") = some true)
    (s_int : PySem.W.subIn K (.type "int") (.ref CScheme) = some false)
    (s_str : PySem.W.subIn K (.type "str") (.ref CScheme) = some false)
    (nf_int : PySem.W.notFirst K CScheme (.type "int") = true)
    (nf_str : PySem.W.notFirst K CScheme (.type "str") = true)
    (s_0_1 : PySem.W.subIn K (.ref CBadScheme) (.ref CBadColumn) = some false)
    (ne_0_1 : ((Value.ref CBadScheme) == Value.ref CBadColumn) = false)
    (s_0_2 : PySem.W.subIn K (.ref CBadScheme) (.ref CBadSpots) = some false)
    (ne_0_2 : ((Value.ref CBadScheme) == Value.ref CBadSpots) = false)
    (s_0_3 : PySem.W.subIn K (.ref CBadScheme) (.ref CBadStrip) = some false)
    (ne_0_3 : ((Value.ref CBadScheme) == Value.ref CBadStrip) = false)
    (s_0_4 : PySem.W.subIn K (.ref CBadScheme) (.ref CBadPicture) = some false)
    (ne_0_4 : ((Value.ref CBadScheme) == Value.ref CBadPicture) = false)
    (s_0_5 : PySem.W.subIn K (.ref CBadScheme) (.ref CBadRow) = some false)
    (ne_0_5 : ((Value.ref CBadScheme) == Value.ref CBadRow) = false)
    (s_0_6 : PySem.W.subIn K (.ref CBadScheme) (.ref CBadIndex) = some false)
    (ne_0_6 : ((Value.ref CBadScheme) == Value.ref CBadIndex) = false)
    (s_0_7 : PySem.W.subIn K (.ref CBadScheme) (.ref CBadColour) = some false)
    (ne_0_7 : ((Value.ref CBadScheme) == Value.ref CBadColour) = false)
    (s_1_0 : PySem.W.subIn K (.ref CBadColumn) (.ref CBadScheme) = some false)
    (ne_1_0 : ((Value.ref CBadColumn) == Value.ref CBadScheme) = false)
    (s_1_2 : PySem.W.subIn K (.ref CBadColumn) (.ref CBadSpots) = some false)
    (ne_1_2 : ((Value.ref CBadColumn) == Value.ref CBadSpots) = false)
    (s_1_3 : PySem.W.subIn K (.ref CBadColumn) (.ref CBadStrip) = some false)
    (ne_1_3 : ((Value.ref CBadColumn) == Value.ref CBadStrip) = false)
    (s_1_4 : PySem.W.subIn K (.ref CBadColumn) (.ref CBadPicture) = some false)
    (ne_1_4 : ((Value.ref CBadColumn) == Value.ref CBadPicture) = false)
    (s_1_5 : PySem.W.subIn K (.ref CBadColumn) (.ref CBadRow) = some false)
    (ne_1_5 : ((Value.ref CBadColumn) == Value.ref CBadRow) = false)
    (s_1_6 : PySem.W.subIn K (.ref CBadColumn) (.ref CBadIndex) = some false)
    (ne_1_6 : ((Value.ref CBadColumn) == Value.ref CBadIndex) = false)
    (s_1_7 : PySem.W.subIn K (.ref CBadColumn) (.ref CBadColour) = some false)
    (ne_1_7 : ((Value.ref CBadColumn) == Value.ref CBadColour) = false)
    (s_2_0 : PySem.W.subIn K (.ref CBadSpots) (.ref CBadScheme) = some false)
    (ne_2_0 : ((Value.ref CBadSpots) == Value.ref CBadScheme) = false)
    (s_2_1 : PySem.W.subIn K (.ref CBadSpots) (.ref CBadColumn) = some false)
    (ne_2_1 : ((Value.ref CBadSpots) == Value.ref CBadColumn) = false)
    (s_2_3 : PySem.W.subIn K (.ref CBadSpots) (.ref CBadStrip) = some false)
    (ne_2_3 : ((Value.ref CBadSpots) == Value.ref CBadStrip) = false)
    (s_2_4 : PySem.W.subIn K (.ref CBadSpots) (.ref CBadPicture) = some false)
    (ne_2_4 : ((Value.ref CBadSpots) == Value.ref CBadPicture) = false)
    (s_2_5 : PySem.W.subIn K (.ref CBadSpots) (.ref CBadRow) = some false)
    (ne_2_5 : ((Value.ref CBadSpots) == Value.ref CBadRow) = false)
    (s_2_6 : PySem.W.subIn K (.ref CBadSpots) (.ref CBadIndex) = some false)
    (ne_2_6 : ((Value.ref CBadSpots) == Value.ref CBadIndex) = false)
    (s_2_7 : PySem.W.subIn K (.ref CBadSpots) (.ref CBadColour) = some false)
    (ne_2_7 : ((Value.ref CBadSpots) == Value.ref CBadColour) = false)
    (s_3_0 : PySem.W.subIn K (.ref CBadStrip) (.ref CBadScheme) = some false)
    (ne_3_0 : ((Value.ref CBadStrip) == Value.ref CBadScheme) = false)
    (s_3_1 : PySem.W.subIn K (.ref CBadStrip) (.ref CBadColumn) = some false)
    (ne_3_1 : ((Value.ref CBadStrip) == Value.ref CBadColumn) = false)
    (s_3_2 : PySem.W.subIn K (.ref CBadStrip) (.ref CBadSpots) = some false)
    (ne_3_2 : ((Value.ref CBadStrip) == Value.ref CBadSpots) = false)
    (s_3_4 : PySem.W.subIn K (.ref CBadStrip) (.ref CBadPicture) = some false)
    (ne_3_4 : ((Value.ref CBadStrip) == Value.ref CBadPicture) = false)
    (s_3_5 : PySem.W.subIn K (.ref CBadStrip) (.ref CBadRow) = some false)
    (ne_3_5 : ((Value.ref CBadStrip) == Value.ref CBadRow) = false)
    (s_3_6 : PySem.W.subIn K (.ref CBadStrip) (.ref CBadIndex) = some false)
    (ne_3_6 : ((Value.ref CBadStrip) == Value.ref CBadIndex) = false)
    (s_3_7 : PySem.W.subIn K (.ref CBadStrip) (.ref CBadColour) = some false)
    (ne_3_7 : ((Value.ref CBadStrip) == Value.ref CBadColour) = false)
    (s_4_0 : PySem.W.subIn K (.ref CBadPicture) (.ref CBadScheme) = some false)
    (ne_4_0 : ((Value.ref CBadPicture) == Value.ref CBadScheme) = false)
    (s_4_1 : PySem.W.subIn K (.ref CBadPicture) (.ref CBadColumn) = some false)
    (ne_4_1 : ((Value.ref CBadPicture) == Value.ref CBadColumn) = false)
    (s_4_2 : PySem.W.subIn K (.ref CBadPicture) (.ref CBadSpots) = some false)
    (ne_4_2 : ((Value.ref CBadPicture) == Value.ref CBadSpots) = false)
    (s_4_3 : PySem.W.subIn K (.ref CBadPicture) (.ref CBadStrip) = some false)
    (ne_4_3 : ((Value.ref CBadPicture) == Value.ref CBadStrip) = false)
    (s_4_5 : PySem.W.subIn K (.ref CBadPicture) (.ref CBadRow) = some false)
    (ne_4_5 : ((Value.ref CBadPicture) == Value.ref CBadRow) = false)
    (s_4_6 : PySem.W.subIn K (.ref CBadPicture) (.ref CBadIndex) = some false)
    (ne_4_6 : ((Value.ref CBadPicture) == Value.ref CBadIndex) = false)
    (s_4_7 : PySem.W.subIn K (.ref CBadPicture) (.ref CBadColour) = some false)
    (ne_4_7 : ((Value.ref CBadPicture) == Value.ref CBadColour) = false)
    (s_5_0 : PySem.W.subIn K (.ref CBadRow) (.ref CBadScheme) = some false)
    (ne_5_0 : ((Value.ref CBadRow) == Value.ref CBadScheme) = false)
    (s_5_1 : PySem.W.subIn K (.ref CBadRow) (.ref CBadColumn) = some false)
    (ne_5_1 : ((Value.ref CBadRow) == Value.ref CBadColumn) = false)
    (s_5_2 : PySem.W.subIn K (.ref CBadRow) (.ref CBadSpots) = some false)
    (ne_5_2 : ((Value.ref CBadRow) == Value.ref CBadSpots) = false)
    (s_5_3 : PySem.W.subIn K (.ref CBadRow) (.ref CBadStrip) = some false)
    (ne_5_3 : ((Value.ref CBadRow) == Value.ref CBadStrip) = false)
    (s_5_4 : PySem.W.subIn K (.ref CBadRow) (.ref CBadPicture) = some false)
    (ne_5_4 : ((Value.ref CBadRow) == Value.ref CBadPicture) = false)
    (s_5_6 : PySem.W.subIn K (.ref CBadRow) (.ref CBadIndex) = some false)
    (ne_5_6 : ((Value.ref CBadRow) == Value.ref CBadIndex) = false)
    (s_5_7 : PySem.W.subIn K (.ref CBadRow) (.ref CBadColour) = some false)
    (ne_5_7 : ((Value.ref CBadRow) == Value.ref CBadColour) = false)
    (s_6_0 : PySem.W.subIn K (.ref CBadIndex) (.ref CBadScheme) = some false)
    (ne_6_0 : ((Value.ref CBadIndex) == Value.ref CBadScheme) = false)
    (s_6_1 : PySem.W.subIn K (.ref CBadIndex) (.ref CBadColumn) = some false)
    (ne_6_1 : ((Value.ref CBadIndex) == Value.ref CBadColumn) = false)
    (s_6_2 : PySem.W.subIn K (.ref CBadIndex) (.ref CBadSpots) = some false)
    (ne_6_2 : ((Value.ref CBadIndex) == Value.ref CBadSpots) = false)
    (s_6_3 : PySem.W.subIn K (.ref CBadIndex) (.ref CBadStrip) = some false)
    (ne_6_3 : ((Value.ref CBadIndex) == Value.ref CBadStrip) = false)
    (s_6_4 : PySem.W.subIn K (.ref CBadIndex) (.ref CBadPicture) = some false)
    (ne_6_4 : ((Value.ref CBadIndex) == Value.ref CBadPicture) = false)
    (s_6_5 : PySem.W.subIn K (.ref CBadIndex) (.ref CBadRow) = some false)
    (ne_6_5 : ((Value.ref CBadIndex) == Value.ref CBadRow) = false)
    (s_6_7 : PySem.W.subIn K (.ref CBadIndex) (.ref CBadColour) = some false)
    (ne_6_7 : ((Value.ref CBadIndex) == Value.ref CBadColour) = false)
    (s_7_0 : PySem.W.subIn K (.ref CBadColour) (.ref CBadScheme) = some false)
    (ne_7_0 : ((Value.ref CBadColour) == Value.ref CBadScheme) = false)
    (s_7_1 : PySem.W.subIn K (.ref CBadColour) (.ref CBadColumn) = some false)
    (ne_7_1 : ((Value.ref CBadColour) == Value.ref CBadColumn) = false)
    (s_7_2 : PySem.W.subIn K (.ref CBadColour) (.ref CBadSpots) = some false)
    (ne_7_2 : ((Value.ref CBadColour) == Value.ref CBadSpots) = false)
    (s_7_3 : PySem.W.subIn K (.ref CBadColour) (.ref CBadStrip) = some false)
    (ne_7_3 : ((Value.ref CBadColour) == Value.ref CBadStrip) = false)
    (s_7_4 : PySem.W.subIn K (.ref CBadColour) (.ref CBadPicture) = some false)
    (ne_7_4 : ((Value.ref CBadColour) == Value.ref CBadPicture) = false)
    (s_7_5 : PySem.W.subIn K (.ref CBadColour) (.ref CBadRow) = some false)
    (ne_7_5 : ((Value.ref CBadColour) == Value.ref CBadRow) = false)
    (s_7_6 : PySem.W.subIn K (.ref CBadColour) (.ref CBadIndex) = some false)
    (ne_7_6 : ((Value.ref CBadColour) == Value.ref CBadIndex) = false)
    (sv_0 : PySem.W.subIn K (.ref CBadScheme) (.type "ValueError") = some true)
    (sv_1 : PySem.W.subIn K (.ref CBadColumn) (.type "ValueError") = some true)
    (sv_2 : PySem.W.subIn K (.ref CBadSpots) (.type "ValueError") = some true)
    (sv_3 : PySem.W.subIn K (.ref CBadStrip) (.type "ValueError") = some true)
    (sv_4 : PySem.W.subIn K (.ref CBadPicture) (.type "ValueError") = some true)
    (sv_5 : PySem.W.subIn K (.ref CBadRow) (.type "ValueError") = some true)
    (sv_6 : PySem.W.subIn K (.ref CBadIndex) (.type "ValueError") = some true)
    (sv_7 : PySem.W.subIn K (.ref CBadColour) (.type "ValueError") = some true)
    (sg_0 : PySem.W.subIn K (.ref CBadScheme) (.ref CGalloonError) = some true)
    (sg_1 : PySem.W.subIn K (.ref CBadColumn) (.ref CGalloonError) = some true)
    (sg_2 : PySem.W.subIn K (.ref CBadSpots) (.ref CGalloonError) = some true)
    (sg_3 : PySem.W.subIn K (.ref CBadStrip) (.ref CGalloonError) = some true)
    (sg_4 : PySem.W.subIn K (.ref CBadPicture) (.ref CGalloonError) = some true)
    (sg_5 : PySem.W.subIn K (.ref CBadRow) (.ref CGalloonError) = some true)
    (sg_6 : PySem.W.subIn K (.ref CBadIndex) (.ref CGalloonError) = some true)
    (sg_7 : PySem.W.subIn K (.ref CBadColour) (.ref CGalloonError) = some true) :
    Txt K mg ⟨CGalloonError, CBadScheme, CBadColumn, CBadSpots, CBadStrip, CBadPicture, CBadRow, CBadIndex, CBadColour, CScheme⟩ :=
  { b_ValueError := PySem.W.mg_none_of X G z_ValueError
    b_abs := PySem.W.mg_none_of X G z_abs
    b_all := PySem.W.mg_none_of X G z_all
    b_bool := PySem.W.mg_none_of X G z_bool
    b_enumerate := PySem.W.mg_none_of X G z_enumerate
    b_int := PySem.W.mg_none_of X G z_int
    b_isinstance := PySem.W.mg_none_of X G z_isinstance
    b_len := PySem.W.mg_none_of X G z_len
    b_list := PySem.W.mg_none_of X G z_list
    b_ord := PySem.W.mg_none_of X G z_ord
    b_range := PySem.W.mg_none_of X G z_range
    b_str := PySem.W.mg_none_of X G z_str
    b_sum := PySem.W.mg_none_of X G z_sum
    b_tuple := PySem.W.mg_none_of X G z_tuple
    g_DIGITS := gval_of X G v_DIGITS ⟨_, rfl⟩
    g_LETTERS := gval_of X G v_LETTERS ⟨_, rfl⟩
    g_GalloonError := PySem.W.mg_of X G a_GalloonError
    e_BadScheme := errT_of X G a_BadScheme x_BadScheme rf_BadScheme sa_BadScheme sB_BadScheme tc_BadScheme kc_BadScheme nb_BadScheme ai_BadScheme ti_BadScheme li_BadScheme ci_BadScheme ki_BadScheme
    x_BadScheme := errC_of ga_BadScheme gg_BadScheme sB_BadScheme hd_BadScheme ha_BadScheme i_hn i_ht hm_BadScheme ic_BadScheme
    e_BadColumn := errT_of X G a_BadColumn x_BadColumn rf_BadColumn sa_BadColumn sB_BadColumn tc_BadColumn kc_BadColumn nb_BadColumn ai_BadColumn ti_BadColumn li_BadColumn ci_BadColumn ki_BadColumn
    x_BadColumn := errC_of ga_BadColumn gg_BadColumn sB_BadColumn hd_BadColumn ha_BadColumn i_hn i_ht hm_BadColumn ic_BadColumn
    e_BadSpots := errT_of X G a_BadSpots x_BadSpots rf_BadSpots sa_BadSpots sB_BadSpots tc_BadSpots kc_BadSpots nb_BadSpots ai_BadSpots ti_BadSpots li_BadSpots ci_BadSpots ki_BadSpots
    x_BadSpots := errC_of ga_BadSpots gg_BadSpots sB_BadSpots hd_BadSpots ha_BadSpots i_hn i_ht hm_BadSpots ic_BadSpots
    e_BadStrip := errT_of X G a_BadStrip x_BadStrip rf_BadStrip sa_BadStrip sB_BadStrip tc_BadStrip kc_BadStrip nb_BadStrip ai_BadStrip ti_BadStrip li_BadStrip ci_BadStrip ki_BadStrip
    x_BadStrip := errC_of ga_BadStrip gg_BadStrip sB_BadStrip hd_BadStrip ha_BadStrip i_hn i_ht hm_BadStrip ic_BadStrip
    e_BadPicture := errT_of X G a_BadPicture x_BadPicture rf_BadPicture sa_BadPicture sB_BadPicture tc_BadPicture kc_BadPicture nb_BadPicture ai_BadPicture ti_BadPicture li_BadPicture ci_BadPicture ki_BadPicture
    x_BadPicture := errC_of ga_BadPicture gg_BadPicture sB_BadPicture hd_BadPicture ha_BadPicture i_hn i_ht hm_BadPicture ic_BadPicture
    e_BadRow := errT_of X G a_BadRow x_BadRow rf_BadRow sa_BadRow sB_BadRow tc_BadRow kc_BadRow nb_BadRow ai_BadRow ti_BadRow li_BadRow ci_BadRow ki_BadRow
    x_BadRow := errC_of ga_BadRow gg_BadRow sB_BadRow hd_BadRow ha_BadRow i_hn i_ht hm_BadRow ic_BadRow
    e_BadIndex := errT_of X G a_BadIndex x_BadIndex rf_BadIndex sa_BadIndex sB_BadIndex tc_BadIndex kc_BadIndex nb_BadIndex ai_BadIndex ti_BadIndex li_BadIndex ci_BadIndex ki_BadIndex
    x_BadIndex := errC_of ga_BadIndex gg_BadIndex sB_BadIndex hd_BadIndex ha_BadIndex i_hn i_ht hm_BadIndex ic_BadIndex
    e_BadColour := errT_of X G a_BadColour x_BadColour rf_BadColour sa_BadColour sB_BadColour tc_BadColour kc_BadColour nb_BadColour ai_BadColour ti_BadColour li_BadColour ci_BadColour ki_BadColour
    x_BadColour := errC_of ga_BadColour gg_BadColour sB_BadColour hd_BadColour ha_BadColour i_hn i_ht hm_BadColour ic_BadColour
    c_Scheme := clsT_of X G a_Scheme pg_Scheme hd_Scheme po_Scheme sa_Scheme mk_Scheme kc_Scheme
    m_Scheme___init__ := metT_of am_Scheme___init__ im_Scheme___init__ lm_Scheme___init__ cm_Scheme___init__ km_Scheme___init__
    m_Scheme___eq__ := metT_of am_Scheme___eq__ im_Scheme___eq__ lm_Scheme___eq__ cm_Scheme___eq__ km_Scheme___eq__
    m_Scheme___len__ := metT_of am_Scheme___len__ im_Scheme___len__ lm_Scheme___len__ cm_Scheme___len__ km_Scheme___len__
    m_Scheme_is_column := metT_of am_Scheme_is_column im_Scheme_is_column lm_Scheme_is_column cm_Scheme_is_column km_Scheme_is_column
    m_Scheme_is_colour := metT_of am_Scheme_is_colour im_Scheme_is_colour lm_Scheme_is_colour cm_Scheme_is_colour km_Scheme_is_colour
    m_Scheme_is_strip := metT_of am_Scheme_is_strip im_Scheme_is_strip lm_Scheme_is_strip cm_Scheme_is_strip km_Scheme_is_strip
    m_Scheme_check := metT_of am_Scheme_check im_Scheme_check lm_Scheme_check cm_Scheme_check km_Scheme_check
    m_Scheme_spots := metT_of am_Scheme_spots im_Scheme_spots lm_Scheme_spots cm_Scheme_spots km_Scheme_spots
    m_Scheme_column := metT_of am_Scheme_column im_Scheme_column lm_Scheme_column cm_Scheme_column km_Scheme_column
    m_Scheme_picture := metT_of am_Scheme_picture im_Scheme_picture lm_Scheme_picture cm_Scheme_picture km_Scheme_picture
    m_Scheme_of_picture := metT_of am_Scheme_of_picture im_Scheme_of_picture lm_Scheme_of_picture cm_Scheme_of_picture km_Scheme_of_picture
    m_Scheme_colour_at := metT_of am_Scheme_colour_at im_Scheme_colour_at lm_Scheme_colour_at cm_Scheme_colour_at km_Scheme_colour_at
    m_Scheme_recoloured := metT_of am_Scheme_recoloured im_Scheme_recoloured lm_Scheme_recoloured cm_Scheme_recoloured km_Scheme_recoloured
    d_law_purse := defT_of X G ad_law_purse ld_law_purse cd_law_purse kd_law_purse
    d_law_draw := defT_of X G ad_law_draw ld_law_draw cd_law_draw kd_law_draw
    d_law_alike := defT_of X G ad_law_alike ld_law_alike cd_law_alike kd_law_alike
    d_law_sizes := defT_of X G ad_law_sizes ld_law_sizes cd_law_sizes kd_law_sizes
    d_law_sign := defT_of X G ad_law_sign ld_law_sign cd_law_sign kd_law_sign
    d_law_spoilt := defT_of X G ad_law_spoilt ld_law_spoilt cd_law_spoilt kd_law_spoilt
    d_law_far := defT_of X G ad_law_far ld_law_far cd_law_far kd_law_far
    d_law_refusal := defT_of X G ad_law_refusal ld_law_refusal cd_law_refusal kd_law_refusal
    d_law_made := defT_of X G ad_law_made ld_law_made cd_law_made kd_law_made
    d_law_made_due := defT_of X G ad_law_made_due ld_law_made_due cd_law_made_due kd_law_made_due
    d_law_answer := defT_of X G ad_law_answer ld_law_answer cd_law_answer kd_law_answer
    d_law_seen := defT_of X G ad_law_seen ld_law_seen cd_law_seen kd_law_seen
    d_law_digits := defT_of X G ad_law_digits ld_law_digits cd_law_digits kd_law_digits
    d_law_letter := defT_of X G ad_law_letter ld_law_letter cd_law_letter kd_law_letter
    d_law_only := defT_of X G ad_law_only ld_law_only cd_law_only kd_law_only
    d_law_is_strip := defT_of X G ad_law_is_strip ld_law_is_strip cd_law_is_strip kd_law_is_strip
    d_law_colours := defT_of X G ad_law_colours ld_law_colours cd_law_colours kd_law_colours
    d_law_lines := defT_of X G ad_law_lines ld_law_lines cd_law_lines kd_law_lines
    d_law_seen_due := defT_of X G ad_law_seen_due ld_law_seen_due cd_law_seen_due kd_law_seen_due
    d_law_spot_due := defT_of X G ad_law_spot_due ld_law_spot_due cd_law_spot_due kd_law_spot_due
    d_law_fields := defT_of X G ad_law_fields ld_law_fields cd_law_fields kd_law_fields
    d_law_columns := defT_of X G ad_law_columns ld_law_columns cd_law_columns kd_law_columns
    d_law_bent := defT_of X G ad_law_bent ld_law_bent cd_law_bent kd_law_bent
    d_law_pictures := defT_of X G ad_law_pictures ld_law_pictures cd_law_pictures kd_law_pictures
    d_law_spots := defT_of X G ad_law_spots ld_law_spots cd_law_spots kd_law_spots
    d_law_strips := defT_of X G ad_law_strips ld_law_strips cd_law_strips kd_law_strips
    d_law := defT_of X G ad_law ld_law cd_law kd_law
    n_rows := nn_rows
    n_colours := nn_colours
    n_columns := nn_columns
    k_MOST := ⟨_, fM, ⟨_, rfl⟩, sM, by decide +kernel⟩
    k_BLANK := ⟨_, fB, ⟨_, rfl⟩, sBl, by decide +kernel⟩
    r_Scheme := ⟨.type "type", ⟨rS, gS⟩, ⟨_, cM, ⟨_, rfl⟩⟩, _, cB, ⟨_, rfl⟩⟩
    i_ha := i_ha
    i_hn := i_hn
    i_ht := i_ht
    i_hm := i_hm
    i_own := kitS_of
    i_int := kitR_of ic_Scheme tc_Scheme s_int rfl
    i_str := kitR_of ic_Scheme tc_Scheme s_str rfl
    i_ni := nf_int
    i_ns := nf_str
    kk_e := kk_of ic_BadScheme tc_BadScheme ic_BadColumn tc_BadColumn ic_BadSpots tc_BadSpots ic_BadStrip tc_BadStrip ic_BadPicture tc_BadPicture ic_BadRow tc_BadRow ic_BadIndex tc_BadIndex ic_BadColour tc_BadColour s_0_1 ne_0_1 s_0_2 ne_0_2 s_0_3 ne_0_3 s_0_4 ne_0_4 s_0_5 ne_0_5 s_0_6 ne_0_6 s_0_7 ne_0_7 s_1_0 ne_1_0 s_1_2 ne_1_2 s_1_3 ne_1_3 s_1_4 ne_1_4 s_1_5 ne_1_5 s_1_6 ne_1_6 s_1_7 ne_1_7 s_2_0 ne_2_0 s_2_1 ne_2_1 s_2_3 ne_2_3 s_2_4 ne_2_4 s_2_5 ne_2_5 s_2_6 ne_2_6 s_2_7 ne_2_7 s_3_0 ne_3_0 s_3_1 ne_3_1 s_3_2 ne_3_2 s_3_4 ne_3_4 s_3_5 ne_3_5 s_3_6 ne_3_6 s_3_7 ne_3_7 s_4_0 ne_4_0 s_4_1 ne_4_1 s_4_2 ne_4_2 s_4_3 ne_4_3 s_4_5 ne_4_5 s_4_6 ne_4_6 s_4_7 ne_4_7 s_5_0 ne_5_0 s_5_1 ne_5_1 s_5_2 ne_5_2 s_5_3 ne_5_3 s_5_4 ne_5_4 s_5_6 ne_5_6 s_5_7 ne_5_7 s_6_0 ne_6_0 s_6_1 ne_6_1 s_6_2 ne_6_2 s_6_3 ne_6_3 s_6_4 ne_6_4 s_6_5 ne_6_5 s_6_7 ne_6_7 s_7_0 ne_7_0 s_7_1 ne_7_1 s_7_2 ne_7_2 s_7_3 ne_7_3 s_7_4 ne_7_4 s_7_5 ne_7_5 s_7_6 ne_7_6
    kv_e := kv_of sv_0 sv_1 sv_2 sv_3 sv_4 sv_5 sv_6 sv_7
    xm_e := xm_of sB_GalloonError ic_GalloonError tc_GalloonError sg_0 sg_1 sg_2 sg_3 sg_4 sg_5 sg_6 sg_7 }
end K00

end
set_option Elab.async false
set_option maxRecDepth 100000
open PySem PySem.W PyProof.Rows
set_option maxRecDepth 100000 in
set_option maxHeartbeats 0 in
theorem PySem.Challenge.cw_galloon_k00_columns_and_pictures_holds : PySem.Challenge.rw_galloon_k00_columns_and_pictures.Holds := by
  w_on; o_law; k_head; (case hw => w_witness2)
  k_fill
  refine K00.walk (l := PySem.Challenge.rw_galloon_k00_columns_and_pictures) rfl rfl (fun w h Y => PySem.W.kIn_of Y) rfl ?F
  case F =>
    intro w mg h KX G
    refine' ⟨_, K00.mkTxt KX G ?a_GalloonError ?a_BadScheme ?a_BadColumn ?a_BadSpots ?a_BadStrip ?a_BadPicture ?a_BadRow ?a_BadIndex ?a_BadColour ?a_Scheme ?z_ValueError ?z_abs ?z_all ?z_bool ?z_enumerate ?z_int ?z_isinstance ?z_len ?z_list ?z_ord ?z_range ?z_str ?z_sum ?z_tuple ?v_DIGITS ?v_LETTERS ?sB_GalloonError ?ic_GalloonError ?tc_GalloonError ?sB_BadScheme ?ic_BadScheme ?tc_BadScheme ?sB_BadColumn ?ic_BadColumn ?tc_BadColumn ?sB_BadSpots ?ic_BadSpots ?tc_BadSpots ?sB_BadStrip ?ic_BadStrip ?tc_BadStrip ?sB_BadPicture ?ic_BadPicture ?tc_BadPicture ?sB_BadRow ?ic_BadRow ?tc_BadRow ?sB_BadIndex ?ic_BadIndex ?tc_BadIndex ?sB_BadColour ?ic_BadColour ?tc_BadColour ?ic_Scheme ?tc_Scheme ?x_BadScheme ?rf_BadScheme ?sa_BadScheme ?kc_BadScheme ?nb_BadScheme ?ai_BadScheme ?ti_BadScheme ?li_BadScheme ?ci_BadScheme ?ki_BadScheme ?ga_BadScheme ?gg_BadScheme ?hd_BadScheme ?ha_BadScheme ?hm_BadScheme ?x_BadColumn ?rf_BadColumn ?sa_BadColumn ?kc_BadColumn ?nb_BadColumn ?ai_BadColumn ?ti_BadColumn ?li_BadColumn ?ci_BadColumn ?ki_BadColumn ?ga_BadColumn ?gg_BadColumn ?hd_BadColumn ?ha_BadColumn ?hm_BadColumn ?x_BadSpots ?rf_BadSpots ?sa_BadSpots ?kc_BadSpots ?nb_BadSpots ?ai_BadSpots ?ti_BadSpots ?li_BadSpots ?ci_BadSpots ?ki_BadSpots ?ga_BadSpots ?gg_BadSpots ?hd_BadSpots ?ha_BadSpots ?hm_BadSpots ?x_BadStrip ?rf_BadStrip ?sa_BadStrip ?kc_BadStrip ?nb_BadStrip ?ai_BadStrip ?ti_BadStrip ?li_BadStrip ?ci_BadStrip ?ki_BadStrip ?ga_BadStrip ?gg_BadStrip ?hd_BadStrip ?ha_BadStrip ?hm_BadStrip ?x_BadPicture ?rf_BadPicture ?sa_BadPicture ?kc_BadPicture ?nb_BadPicture ?ai_BadPicture ?ti_BadPicture ?li_BadPicture ?ci_BadPicture ?ki_BadPicture ?ga_BadPicture ?gg_BadPicture ?hd_BadPicture ?ha_BadPicture ?hm_BadPicture ?x_BadRow ?rf_BadRow ?sa_BadRow ?kc_BadRow ?nb_BadRow ?ai_BadRow ?ti_BadRow ?li_BadRow ?ci_BadRow ?ki_BadRow ?ga_BadRow ?gg_BadRow ?hd_BadRow ?ha_BadRow ?hm_BadRow ?x_BadIndex ?rf_BadIndex ?sa_BadIndex ?kc_BadIndex ?nb_BadIndex ?ai_BadIndex ?ti_BadIndex ?li_BadIndex ?ci_BadIndex ?ki_BadIndex ?ga_BadIndex ?gg_BadIndex ?hd_BadIndex ?ha_BadIndex ?hm_BadIndex ?x_BadColour ?rf_BadColour ?sa_BadColour ?kc_BadColour ?nb_BadColour ?ai_BadColour ?ti_BadColour ?li_BadColour ?ci_BadColour ?ki_BadColour ?ga_BadColour ?gg_BadColour ?hd_BadColour ?ha_BadColour ?hm_BadColour ?pg_Scheme ?hd_Scheme ?po_Scheme ?sa_Scheme ?mk_Scheme ?kc_Scheme ?am_Scheme___init__ ?im_Scheme___init__ ?lm_Scheme___init__ ?cm_Scheme___init__ ?km_Scheme___init__ ?am_Scheme___eq__ ?im_Scheme___eq__ ?lm_Scheme___eq__ ?cm_Scheme___eq__ ?km_Scheme___eq__ ?am_Scheme___len__ ?im_Scheme___len__ ?lm_Scheme___len__ ?cm_Scheme___len__ ?km_Scheme___len__ ?am_Scheme_is_column ?im_Scheme_is_column ?lm_Scheme_is_column ?cm_Scheme_is_column ?km_Scheme_is_column ?am_Scheme_is_colour ?im_Scheme_is_colour ?lm_Scheme_is_colour ?cm_Scheme_is_colour ?km_Scheme_is_colour ?am_Scheme_is_strip ?im_Scheme_is_strip ?lm_Scheme_is_strip ?cm_Scheme_is_strip ?km_Scheme_is_strip ?am_Scheme_check ?im_Scheme_check ?lm_Scheme_check ?cm_Scheme_check ?km_Scheme_check ?am_Scheme_spots ?im_Scheme_spots ?lm_Scheme_spots ?cm_Scheme_spots ?km_Scheme_spots ?am_Scheme_column ?im_Scheme_column ?lm_Scheme_column ?cm_Scheme_column ?km_Scheme_column ?am_Scheme_picture ?im_Scheme_picture ?lm_Scheme_picture ?cm_Scheme_picture ?km_Scheme_picture ?am_Scheme_of_picture ?im_Scheme_of_picture ?lm_Scheme_of_picture ?cm_Scheme_of_picture ?km_Scheme_of_picture ?am_Scheme_colour_at ?im_Scheme_colour_at ?lm_Scheme_colour_at ?cm_Scheme_colour_at ?km_Scheme_colour_at ?am_Scheme_recoloured ?im_Scheme_recoloured ?lm_Scheme_recoloured ?cm_Scheme_recoloured ?km_Scheme_recoloured ?ad_law_purse ?ld_law_purse ?cd_law_purse ?kd_law_purse ?ad_law_draw ?ld_law_draw ?cd_law_draw ?kd_law_draw ?ad_law_alike ?ld_law_alike ?cd_law_alike ?kd_law_alike ?ad_law_sizes ?ld_law_sizes ?cd_law_sizes ?kd_law_sizes ?ad_law_sign ?ld_law_sign ?cd_law_sign ?kd_law_sign ?ad_law_spoilt ?ld_law_spoilt ?cd_law_spoilt ?kd_law_spoilt ?ad_law_far ?ld_law_far ?cd_law_far ?kd_law_far ?ad_law_refusal ?ld_law_refusal ?cd_law_refusal ?kd_law_refusal ?ad_law_made ?ld_law_made ?cd_law_made ?kd_law_made ?ad_law_made_due ?ld_law_made_due ?cd_law_made_due ?kd_law_made_due ?ad_law_answer ?ld_law_answer ?cd_law_answer ?kd_law_answer ?ad_law_seen ?ld_law_seen ?cd_law_seen ?kd_law_seen ?ad_law_digits ?ld_law_digits ?cd_law_digits ?kd_law_digits ?ad_law_letter ?ld_law_letter ?cd_law_letter ?kd_law_letter ?ad_law_only ?ld_law_only ?cd_law_only ?kd_law_only ?ad_law_is_strip ?ld_law_is_strip ?cd_law_is_strip ?kd_law_is_strip ?ad_law_colours ?ld_law_colours ?cd_law_colours ?kd_law_colours ?ad_law_lines ?ld_law_lines ?cd_law_lines ?kd_law_lines ?ad_law_seen_due ?ld_law_seen_due ?cd_law_seen_due ?kd_law_seen_due ?ad_law_spot_due ?ld_law_spot_due ?cd_law_spot_due ?kd_law_spot_due ?ad_law_fields ?ld_law_fields ?cd_law_fields ?kd_law_fields ?ad_law_columns ?ld_law_columns ?cd_law_columns ?kd_law_columns ?ad_law_bent ?ld_law_bent ?cd_law_bent ?kd_law_bent ?ad_law_pictures ?ld_law_pictures ?cd_law_pictures ?kd_law_pictures ?ad_law_spots ?ld_law_spots ?cd_law_spots ?kd_law_spots ?ad_law_strips ?ld_law_strips ?cd_law_strips ?kd_law_strips ?ad_law ?ld_law ?cd_law ?kd_law ?nn_rows ?nn_colours ?nn_columns ?fM ?sM ?fB ?sBl ?rS ?gS ?cM ?cB ?i_ha ?i_hn ?i_ht ?i_hm ?s_int ?s_str ?nf_int ?nf_str ?s_0_1 ?ne_0_1 ?s_0_2 ?ne_0_2 ?s_0_3 ?ne_0_3 ?s_0_4 ?ne_0_4 ?s_0_5 ?ne_0_5 ?s_0_6 ?ne_0_6 ?s_0_7 ?ne_0_7 ?s_1_0 ?ne_1_0 ?s_1_2 ?ne_1_2 ?s_1_3 ?ne_1_3 ?s_1_4 ?ne_1_4 ?s_1_5 ?ne_1_5 ?s_1_6 ?ne_1_6 ?s_1_7 ?ne_1_7 ?s_2_0 ?ne_2_0 ?s_2_1 ?ne_2_1 ?s_2_3 ?ne_2_3 ?s_2_4 ?ne_2_4 ?s_2_5 ?ne_2_5 ?s_2_6 ?ne_2_6 ?s_2_7 ?ne_2_7 ?s_3_0 ?ne_3_0 ?s_3_1 ?ne_3_1 ?s_3_2 ?ne_3_2 ?s_3_4 ?ne_3_4 ?s_3_5 ?ne_3_5 ?s_3_6 ?ne_3_6 ?s_3_7 ?ne_3_7 ?s_4_0 ?ne_4_0 ?s_4_1 ?ne_4_1 ?s_4_2 ?ne_4_2 ?s_4_3 ?ne_4_3 ?s_4_5 ?ne_4_5 ?s_4_6 ?ne_4_6 ?s_4_7 ?ne_4_7 ?s_5_0 ?ne_5_0 ?s_5_1 ?ne_5_1 ?s_5_2 ?ne_5_2 ?s_5_3 ?ne_5_3 ?s_5_4 ?ne_5_4 ?s_5_6 ?ne_5_6 ?s_5_7 ?ne_5_7 ?s_6_0 ?ne_6_0 ?s_6_1 ?ne_6_1 ?s_6_2 ?ne_6_2 ?s_6_3 ?ne_6_3 ?s_6_4 ?ne_6_4 ?s_6_5 ?ne_6_5 ?s_6_7 ?ne_6_7 ?s_7_0 ?ne_7_0 ?s_7_1 ?ne_7_1 ?s_7_2 ?ne_7_2 ?s_7_3 ?ne_7_3 ?s_7_4 ?ne_7_4 ?s_7_5 ?ne_7_5 ?s_7_6 ?ne_7_6 ?sv_0 ?sv_1 ?sv_2 ?sv_3 ?sv_4 ?sv_5 ?sv_6 ?sv_7 ?sg_0 ?sg_1 ?sg_2 ?sg_3 ?sg_4 ?sg_5 ?sg_6 ?sg_7⟩
    (case a_GalloonError => k_is)
    (case a_BadScheme => k_is)
    (case a_BadColumn => k_is)
    (case a_BadSpots => k_is)
    (case a_BadStrip => k_is)
    (case a_BadPicture => k_is)
    (case a_BadRow => k_is)
    (case a_BadIndex => k_is)
    (case a_BadColour => k_is)
    (case a_Scheme => k_is)
    (case z_ValueError => k_is)
    (case z_abs => k_is)
    (case z_all => k_is)
    (case z_bool => k_is)
    (case z_enumerate => k_is)
    (case z_int => k_is)
    (case z_isinstance => k_is)
    (case z_len => k_is)
    (case z_list => k_is)
    (case z_ord => k_is)
    (case z_range => k_is)
    (case z_str => k_is)
    (case z_sum => k_is)
    (case z_tuple => k_is)
    (case v_DIGITS => k_is)
    (case v_LETTERS => k_is)
    (case sB_GalloonError => k_is)
    (case ic_GalloonError => k_is)
    (case tc_GalloonError => k_is)
    (case sB_BadScheme => k_is)
    (case ic_BadScheme => k_is)
    (case tc_BadScheme => k_is)
    (case sB_BadColumn => k_is)
    (case ic_BadColumn => k_is)
    (case tc_BadColumn => k_is)
    (case sB_BadSpots => k_is)
    (case ic_BadSpots => k_is)
    (case tc_BadSpots => k_is)
    (case sB_BadStrip => k_is)
    (case ic_BadStrip => k_is)
    (case tc_BadStrip => k_is)
    (case sB_BadPicture => k_is)
    (case ic_BadPicture => k_is)
    (case tc_BadPicture => k_is)
    (case sB_BadRow => k_is)
    (case ic_BadRow => k_is)
    (case tc_BadRow => k_is)
    (case sB_BadIndex => k_is)
    (case ic_BadIndex => k_is)
    (case tc_BadIndex => k_is)
    (case sB_BadColour => k_is)
    (case ic_BadColour => k_is)
    (case tc_BadColour => k_is)
    (case ic_Scheme => k_is)
    (case tc_Scheme => k_is)
    (case x_BadScheme => k_is)
    (case rf_BadScheme => decide +kernel)
    (case sa_BadScheme => k_is)
    (case kc_BadScheme => k_is)
    (case nb_BadScheme => k_is)
    (case ai_BadScheme => k_is)
    (case ti_BadScheme => k_is)
    (case li_BadScheme => k_is)
    (case ci_BadScheme => k_is)
    (case ki_BadScheme => k_is)
    (case ga_BadScheme => k_is)
    (case gg_BadScheme => k_is)
    (case hd_BadScheme => k_is)
    (case ha_BadScheme => k_is)
    (case hm_BadScheme => k_is)
    (case x_BadColumn => k_is)
    (case rf_BadColumn => decide +kernel)
    (case sa_BadColumn => k_is)
    (case kc_BadColumn => k_is)
    (case nb_BadColumn => k_is)
    (case ai_BadColumn => k_is)
    (case ti_BadColumn => k_is)
    (case li_BadColumn => k_is)
    (case ci_BadColumn => k_is)
    (case ki_BadColumn => k_is)
    (case ga_BadColumn => k_is)
    (case gg_BadColumn => k_is)
    (case hd_BadColumn => k_is)
    (case ha_BadColumn => k_is)
    (case hm_BadColumn => k_is)
    (case x_BadSpots => k_is)
    (case rf_BadSpots => decide +kernel)
    (case sa_BadSpots => k_is)
    (case kc_BadSpots => k_is)
    (case nb_BadSpots => k_is)
    (case ai_BadSpots => k_is)
    (case ti_BadSpots => k_is)
    (case li_BadSpots => k_is)
    (case ci_BadSpots => k_is)
    (case ki_BadSpots => k_is)
    (case ga_BadSpots => k_is)
    (case gg_BadSpots => k_is)
    (case hd_BadSpots => k_is)
    (case ha_BadSpots => k_is)
    (case hm_BadSpots => k_is)
    (case x_BadStrip => k_is)
    (case rf_BadStrip => decide +kernel)
    (case sa_BadStrip => k_is)
    (case kc_BadStrip => k_is)
    (case nb_BadStrip => k_is)
    (case ai_BadStrip => k_is)
    (case ti_BadStrip => k_is)
    (case li_BadStrip => k_is)
    (case ci_BadStrip => k_is)
    (case ki_BadStrip => k_is)
    (case ga_BadStrip => k_is)
    (case gg_BadStrip => k_is)
    (case hd_BadStrip => k_is)
    (case ha_BadStrip => k_is)
    (case hm_BadStrip => k_is)
    (case x_BadPicture => k_is)
    (case rf_BadPicture => decide +kernel)
    (case sa_BadPicture => k_is)
    (case kc_BadPicture => k_is)
    (case nb_BadPicture => k_is)
    (case ai_BadPicture => k_is)
    (case ti_BadPicture => k_is)
    (case li_BadPicture => k_is)
    (case ci_BadPicture => k_is)
    (case ki_BadPicture => k_is)
    (case ga_BadPicture => k_is)
    (case gg_BadPicture => k_is)
    (case hd_BadPicture => k_is)
    (case ha_BadPicture => k_is)
    (case hm_BadPicture => k_is)
    (case x_BadRow => k_is)
    (case rf_BadRow => decide +kernel)
    (case sa_BadRow => k_is)
    (case kc_BadRow => k_is)
    (case nb_BadRow => k_is)
    (case ai_BadRow => k_is)
    (case ti_BadRow => k_is)
    (case li_BadRow => k_is)
    (case ci_BadRow => k_is)
    (case ki_BadRow => k_is)
    (case ga_BadRow => k_is)
    (case gg_BadRow => k_is)
    (case hd_BadRow => k_is)
    (case ha_BadRow => k_is)
    (case hm_BadRow => k_is)
    (case x_BadIndex => k_is)
    (case rf_BadIndex => decide +kernel)
    (case sa_BadIndex => k_is)
    (case kc_BadIndex => k_is)
    (case nb_BadIndex => k_is)
    (case ai_BadIndex => k_is)
    (case ti_BadIndex => k_is)
    (case li_BadIndex => k_is)
    (case ci_BadIndex => k_is)
    (case ki_BadIndex => k_is)
    (case ga_BadIndex => k_is)
    (case gg_BadIndex => k_is)
    (case hd_BadIndex => k_is)
    (case ha_BadIndex => k_is)
    (case hm_BadIndex => k_is)
    (case x_BadColour => k_is)
    (case rf_BadColour => decide +kernel)
    (case sa_BadColour => k_is)
    (case kc_BadColour => k_is)
    (case nb_BadColour => k_is)
    (case ai_BadColour => k_is)
    (case ti_BadColour => k_is)
    (case li_BadColour => k_is)
    (case ci_BadColour => k_is)
    (case ki_BadColour => k_is)
    (case ga_BadColour => k_is)
    (case gg_BadColour => k_is)
    (case hd_BadColour => k_is)
    (case ha_BadColour => k_is)
    (case hm_BadColour => k_is)
    (case pg_Scheme => k_is)
    (case hd_Scheme => k_is)
    (case po_Scheme => k_is)
    (case sa_Scheme => k_is)
    (case mk_Scheme => k_is)
    (case kc_Scheme => k_is)
    (case am_Scheme___init__ => k_is)
    (case im_Scheme___init__ => k_is)
    (case lm_Scheme___init__ => k_is)
    (case cm_Scheme___init__ => k_is)
    (case km_Scheme___init__ => k_is)
    (case am_Scheme___eq__ => k_is)
    (case im_Scheme___eq__ => k_is)
    (case lm_Scheme___eq__ => k_is)
    (case cm_Scheme___eq__ => k_is)
    (case km_Scheme___eq__ => k_is)
    (case am_Scheme___len__ => k_is)
    (case im_Scheme___len__ => k_is)
    (case lm_Scheme___len__ => k_is)
    (case cm_Scheme___len__ => k_is)
    (case km_Scheme___len__ => k_is)
    (case am_Scheme_is_column => k_is)
    (case im_Scheme_is_column => k_is)
    (case lm_Scheme_is_column => k_is)
    (case cm_Scheme_is_column => k_is)
    (case km_Scheme_is_column => k_is)
    (case am_Scheme_is_colour => k_is)
    (case im_Scheme_is_colour => k_is)
    (case lm_Scheme_is_colour => k_is)
    (case cm_Scheme_is_colour => k_is)
    (case km_Scheme_is_colour => k_is)
    (case am_Scheme_is_strip => k_is)
    (case im_Scheme_is_strip => k_is)
    (case lm_Scheme_is_strip => k_is)
    (case cm_Scheme_is_strip => k_is)
    (case km_Scheme_is_strip => k_is)
    (case am_Scheme_check => k_is)
    (case im_Scheme_check => k_is)
    (case lm_Scheme_check => k_is)
    (case cm_Scheme_check => k_is)
    (case km_Scheme_check => k_is)
    (case am_Scheme_spots => k_is)
    (case im_Scheme_spots => k_is)
    (case lm_Scheme_spots => k_is)
    (case cm_Scheme_spots => k_is)
    (case km_Scheme_spots => k_is)
    (case am_Scheme_column => k_is)
    (case im_Scheme_column => k_is)
    (case lm_Scheme_column => k_is)
    (case cm_Scheme_column => k_is)
    (case km_Scheme_column => k_is)
    (case am_Scheme_picture => k_is)
    (case im_Scheme_picture => k_is)
    (case lm_Scheme_picture => k_is)
    (case cm_Scheme_picture => k_is)
    (case km_Scheme_picture => k_is)
    (case am_Scheme_of_picture => k_is)
    (case im_Scheme_of_picture => k_is)
    (case lm_Scheme_of_picture => k_is)
    (case cm_Scheme_of_picture => k_is)
    (case km_Scheme_of_picture => k_is)
    (case am_Scheme_colour_at => k_is)
    (case im_Scheme_colour_at => k_is)
    (case lm_Scheme_colour_at => k_is)
    (case cm_Scheme_colour_at => k_is)
    (case km_Scheme_colour_at => k_is)
    (case am_Scheme_recoloured => k_is)
    (case im_Scheme_recoloured => k_is)
    (case lm_Scheme_recoloured => k_is)
    (case cm_Scheme_recoloured => k_is)
    (case km_Scheme_recoloured => k_is)
    (case ad_law_purse => k_is)
    (case ld_law_purse => k_is)
    (case cd_law_purse => k_is)
    (case kd_law_purse => k_is)
    (case ad_law_draw => k_is)
    (case ld_law_draw => k_is)
    (case cd_law_draw => k_is)
    (case kd_law_draw => k_is)
    (case ad_law_alike => k_is)
    (case ld_law_alike => k_is)
    (case cd_law_alike => k_is)
    (case kd_law_alike => k_is)
    (case ad_law_sizes => k_is)
    (case ld_law_sizes => k_is)
    (case cd_law_sizes => k_is)
    (case kd_law_sizes => k_is)
    (case ad_law_sign => k_is)
    (case ld_law_sign => k_is)
    (case cd_law_sign => k_is)
    (case kd_law_sign => k_is)
    (case ad_law_spoilt => k_is)
    (case ld_law_spoilt => k_is)
    (case cd_law_spoilt => k_is)
    (case kd_law_spoilt => k_is)
    (case ad_law_far => k_is)
    (case ld_law_far => k_is)
    (case cd_law_far => k_is)
    (case kd_law_far => k_is)
    (case ad_law_refusal => k_is)
    (case ld_law_refusal => k_is)
    (case cd_law_refusal => k_is)
    (case kd_law_refusal => k_is)
    (case ad_law_made => k_is)
    (case ld_law_made => k_is)
    (case cd_law_made => k_is)
    (case kd_law_made => k_is)
    (case ad_law_made_due => k_is)
    (case ld_law_made_due => k_is)
    (case cd_law_made_due => k_is)
    (case kd_law_made_due => k_is)
    (case ad_law_answer => k_is)
    (case ld_law_answer => k_is)
    (case cd_law_answer => k_is)
    (case kd_law_answer => k_is)
    (case ad_law_seen => k_is)
    (case ld_law_seen => k_is)
    (case cd_law_seen => k_is)
    (case kd_law_seen => k_is)
    (case ad_law_digits => k_is)
    (case ld_law_digits => k_is)
    (case cd_law_digits => k_is)
    (case kd_law_digits => k_is)
    (case ad_law_letter => k_is)
    (case ld_law_letter => k_is)
    (case cd_law_letter => k_is)
    (case kd_law_letter => k_is)
    (case ad_law_only => k_is)
    (case ld_law_only => k_is)
    (case cd_law_only => k_is)
    (case kd_law_only => k_is)
    (case ad_law_is_strip => k_is)
    (case ld_law_is_strip => k_is)
    (case cd_law_is_strip => k_is)
    (case kd_law_is_strip => k_is)
    (case ad_law_colours => k_is)
    (case ld_law_colours => k_is)
    (case cd_law_colours => k_is)
    (case kd_law_colours => k_is)
    (case ad_law_lines => k_is)
    (case ld_law_lines => k_is)
    (case cd_law_lines => k_is)
    (case kd_law_lines => k_is)
    (case ad_law_seen_due => k_is)
    (case ld_law_seen_due => k_is)
    (case cd_law_seen_due => k_is)
    (case kd_law_seen_due => k_is)
    (case ad_law_spot_due => k_is)
    (case ld_law_spot_due => k_is)
    (case cd_law_spot_due => k_is)
    (case kd_law_spot_due => k_is)
    (case ad_law_fields => k_is)
    (case ld_law_fields => k_is)
    (case cd_law_fields => k_is)
    (case kd_law_fields => k_is)
    (case ad_law_columns => k_is)
    (case ld_law_columns => k_is)
    (case cd_law_columns => k_is)
    (case kd_law_columns => k_is)
    (case ad_law_bent => k_is)
    (case ld_law_bent => k_is)
    (case cd_law_bent => k_is)
    (case kd_law_bent => k_is)
    (case ad_law_pictures => k_is)
    (case ld_law_pictures => k_is)
    (case cd_law_pictures => k_is)
    (case kd_law_pictures => k_is)
    (case ad_law_spots => k_is)
    (case ld_law_spots => k_is)
    (case cd_law_spots => k_is)
    (case kd_law_spots => k_is)
    (case ad_law_strips => k_is)
    (case ld_law_strips => k_is)
    (case cd_law_strips => k_is)
    (case kd_law_strips => k_is)
    (case ad_law => k_is)
    (case ld_law => k_is)
    (case cd_law => k_is)
    (case kd_law => k_is)
    (case nn_rows => k_is)
    (case nn_colours => k_is)
    (case nn_columns => k_is)
    (case fM => k_is)
    (case sM => k_is)
    (case fB => k_is)
    (case sBl => k_is)
    (case rS => k_is)
    (case gS => k_is)
    (case cM => k_is)
    (case cB => k_is)
    (case i_ha => k_is)
    (case i_hn => k_is)
    (case i_ht => k_is)
    (case i_hm => k_is)
    (case s_int => k_is)
    (case s_str => k_is)
    (case nf_int => k_is)
    (case nf_str => k_is)
    (case s_0_1 => k_is)
    (case ne_0_1 => first | rfl | decide)
    (case s_0_2 => k_is)
    (case ne_0_2 => first | rfl | decide)
    (case s_0_3 => k_is)
    (case ne_0_3 => first | rfl | decide)
    (case s_0_4 => k_is)
    (case ne_0_4 => first | rfl | decide)
    (case s_0_5 => k_is)
    (case ne_0_5 => first | rfl | decide)
    (case s_0_6 => k_is)
    (case ne_0_6 => first | rfl | decide)
    (case s_0_7 => k_is)
    (case ne_0_7 => first | rfl | decide)
    (case s_1_0 => k_is)
    (case ne_1_0 => first | rfl | decide)
    (case s_1_2 => k_is)
    (case ne_1_2 => first | rfl | decide)
    (case s_1_3 => k_is)
    (case ne_1_3 => first | rfl | decide)
    (case s_1_4 => k_is)
    (case ne_1_4 => first | rfl | decide)
    (case s_1_5 => k_is)
    (case ne_1_5 => first | rfl | decide)
    (case s_1_6 => k_is)
    (case ne_1_6 => first | rfl | decide)
    (case s_1_7 => k_is)
    (case ne_1_7 => first | rfl | decide)
    (case s_2_0 => k_is)
    (case ne_2_0 => first | rfl | decide)
    (case s_2_1 => k_is)
    (case ne_2_1 => first | rfl | decide)
    (case s_2_3 => k_is)
    (case ne_2_3 => first | rfl | decide)
    (case s_2_4 => k_is)
    (case ne_2_4 => first | rfl | decide)
    (case s_2_5 => k_is)
    (case ne_2_5 => first | rfl | decide)
    (case s_2_6 => k_is)
    (case ne_2_6 => first | rfl | decide)
    (case s_2_7 => k_is)
    (case ne_2_7 => first | rfl | decide)
    (case s_3_0 => k_is)
    (case ne_3_0 => first | rfl | decide)
    (case s_3_1 => k_is)
    (case ne_3_1 => first | rfl | decide)
    (case s_3_2 => k_is)
    (case ne_3_2 => first | rfl | decide)
    (case s_3_4 => k_is)
    (case ne_3_4 => first | rfl | decide)
    (case s_3_5 => k_is)
    (case ne_3_5 => first | rfl | decide)
    (case s_3_6 => k_is)
    (case ne_3_6 => first | rfl | decide)
    (case s_3_7 => k_is)
    (case ne_3_7 => first | rfl | decide)
    (case s_4_0 => k_is)
    (case ne_4_0 => first | rfl | decide)
    (case s_4_1 => k_is)
    (case ne_4_1 => first | rfl | decide)
    (case s_4_2 => k_is)
    (case ne_4_2 => first | rfl | decide)
    (case s_4_3 => k_is)
    (case ne_4_3 => first | rfl | decide)
    (case s_4_5 => k_is)
    (case ne_4_5 => first | rfl | decide)
    (case s_4_6 => k_is)
    (case ne_4_6 => first | rfl | decide)
    (case s_4_7 => k_is)
    (case ne_4_7 => first | rfl | decide)
    (case s_5_0 => k_is)
    (case ne_5_0 => first | rfl | decide)
    (case s_5_1 => k_is)
    (case ne_5_1 => first | rfl | decide)
    (case s_5_2 => k_is)
    (case ne_5_2 => first | rfl | decide)
    (case s_5_3 => k_is)
    (case ne_5_3 => first | rfl | decide)
    (case s_5_4 => k_is)
    (case ne_5_4 => first | rfl | decide)
    (case s_5_6 => k_is)
    (case ne_5_6 => first | rfl | decide)
    (case s_5_7 => k_is)
    (case ne_5_7 => first | rfl | decide)
    (case s_6_0 => k_is)
    (case ne_6_0 => first | rfl | decide)
    (case s_6_1 => k_is)
    (case ne_6_1 => first | rfl | decide)
    (case s_6_2 => k_is)
    (case ne_6_2 => first | rfl | decide)
    (case s_6_3 => k_is)
    (case ne_6_3 => first | rfl | decide)
    (case s_6_4 => k_is)
    (case ne_6_4 => first | rfl | decide)
    (case s_6_5 => k_is)
    (case ne_6_5 => first | rfl | decide)
    (case s_6_7 => k_is)
    (case ne_6_7 => first | rfl | decide)
    (case s_7_0 => k_is)
    (case ne_7_0 => first | rfl | decide)
    (case s_7_1 => k_is)
    (case ne_7_1 => first | rfl | decide)
    (case s_7_2 => k_is)
    (case ne_7_2 => first | rfl | decide)
    (case s_7_3 => k_is)
    (case ne_7_3 => first | rfl | decide)
    (case s_7_4 => k_is)
    (case ne_7_4 => first | rfl | decide)
    (case s_7_5 => k_is)
    (case ne_7_5 => first | rfl | decide)
    (case s_7_6 => k_is)
    (case ne_7_6 => first | rfl | decide)
    (case sv_0 => k_is)
    (case sv_1 => k_is)
    (case sv_2 => k_is)
    (case sv_3 => k_is)
    (case sv_4 => k_is)
    (case sv_5 => k_is)
    (case sv_6 => k_is)
    (case sv_7 => k_is)
    (case sg_0 => k_is)
    (case sg_1 => k_is)
    (case sg_2 => k_is)
    (case sg_3 => k_is)
    (case sg_4 => k_is)
    (case sg_5 => k_is)
    (case sg_6 => k_is)
    (case sg_7 => k_is)

