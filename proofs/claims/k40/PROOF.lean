import PyProof.Rows.All
import Wide.All
import OpenK.AllK
import Wide.FinOn
import HandS.ForMost
import HandS.Exc
import HandS.TryOnly
import HandS.ExcOwn
import HandS.WordsExc
import HandS.ExcInit
import HandS.ExcField
import HandS.ExcIs
import HandS.HotCalls
import HandS.IsInst
import HandS.ClsMeth
import HandS.More
import KE.KExcIs
import HandS.StrMore
import HandS.Walk
import HandS.Codes
import KE.GoesEnumKw
import KE.GoesMore
import PyProof.ListStr
import KE.KCallOwn
import HandS.Star
import PyProof.CollectStr
import HandS.Strs
import KE.GoesZip
import HandS.Zip
import HandS.Small
import HandS.DictComp
import KE.DataEq
import PyProof.Rows.StrCountLaw
import KE.KDictZip
import KE.GoesEnum
import HandS.MakeKwOnly
import PyProof.StrBlock2
import HandS.Gcd
import KE.KOpsOwn
import HandS.Conv
import HandS.Style
import HandS.FStr
import PySem.Challenge.RW_galloon_k40_endless_strips_and_moves
set_option Elab.async false
set_option linter.all false
set_option maxRecDepth 100000
section
set_option Elab.async false
set_option maxRecDepth 100000
set_option maxHeartbeats 4000000
namespace Kit
open PySem PySem.Spec PyProof.Rows L2
abbrev St := L2.St

/-! ### defs as they stand in the text, and what they promise -/
structure DefT (K : PySem.W.Frag) (mg : Str → Option Value) (x : Str) (st : Stmt) : Prop where
  ex : ∃ (f : Addr) (fd : FuncData), Fun K x x st f fd ∧ mg x = some (.ref f)
structure MetT (K : PySem.W.Frag) (C : Addr) (m q : Str) (st : Stmt) : Prop where
  ex : ∃ (f : Addr) (fd : FuncData), Fun K m q st f fd ∧ Meth K C m f
structure ClsT (K : PySem.W.Frag) (mg : Str → Option Value) (C : Addr) (x : Str) : Prop where
  cl : Cls K C
  gC : mg x = some (.ref C)
  mak : PySem.W.makesIn K C = true
  kp : PySem.W.keepIn K (.ref C) = true
section
variable (P : Program) (w : World) (K : PySem.W.Frag) (mg : Str → Option Value) (base : Heap)
structure Can (k : Nat) (x : Str) (sp : Sp) : Prop where
  ex : ∃ (f : Addr) (fd : FuncData) (ps : List Str), FnOk P w K mg base (L2.CX P w) k f fd ps sp ∧ mg x = some (.ref f) ∧ PySem.W.keepIn K (.ref f) = true ∧ Binds K fd ps []
structure CanM (k : Nat) (C : Addr) (m : Str) (sp : Sp) : Prop where
  ex : ∃ (f : Addr) (fd : FuncData) (ps : List Str), FnOk P w K mg base (L2.CX P w) k f fd ps sp ∧ Cls K C ∧ Meth K C m f ∧ Binds K fd ps []
structure CanN (k : Nat) (C : Addr) (x : Str) (sp : Sp) : Prop where
  ex : ∃ (f : Addr) (fd : FuncData) (ps : List Str), FnOk P w K mg base (L2.CX P w) k f fd ps sp ∧ Mk K C f ∧ mg x = some (.ref C) ∧ Binds K fd ps []
end
/-- how n plain parameters bind -/
def BindsPlain (st : Stmt) (x q : Str) (ps : List Str) : Prop := ∀ (kV doc pm : Value) (an : Option Addr) (cdv ct : Value) (us : List Value), us.length = ps.length →
  bindArgs (PySem.W.fnOf x q (defArgs st) (defBody st) (defScope st) .none kV doc pm an cdv ct) ⟨us, []⟩ = pure (ps.zip us)
section
variable {P : Program} {w : World} {K : PySem.W.Frag} {mg : Str → Option Value} {base : Heap}
theorem can_of {x : Str} {st : Stmt} {N ps : List Str} {k : Nat} {sp : Sp} (D : DefT K mg x st) (S : FnScope N ps (defScope st)) (hb : BindsPlain st x x ps) (len : ∀ vs H Q E, sp vs H Q E → vs.length = ps.length)
    (body : ∀ (f : Addr) (cdv : Value) (A : Around) (outer : List Env) (s : Shared) (H : Hp) (vs : List V) (Q : VK) (E : XK), Room k (A.deeper (envOfC x (defScope st) s.heap.objs.size f cdv)) → sp vs H Q E →
      ∃ t, PSs (cxOf (L2.CX P w) P w K mg base N x (defScope st) f cdv A outer s H E) (defBody st) t ∧ t { nx := fun _ H' => Q .non H', rt := Q } (start N vs) H) : Can P w K mg base (k + 1) x sp := by
  obtain ⟨f, fd, F, g⟩ := D.ex
  exact ⟨f, fd, ps, F.okX S len (body f), g, F.kp, F.binds hb⟩
theorem canM_of {m q : Str} {C : Addr} {st : Stmt} {N ps : List Str} {k : Nat} {sp : Sp} (c : Cls K C) (D : MetT K C m q st) (S : FnScope N ps (defScope st)) (hb : BindsPlain st m q ps) (len : ∀ vs H Q E, sp vs H Q E → vs.length = ps.length)
    (body : ∀ (f : Addr) (cdv : Value) (A : Around) (outer : List Env) (s : Shared) (H : Hp) (vs : List V) (Q : VK) (E : XK), Room k (A.deeper (envOfC q (defScope st) s.heap.objs.size f cdv)) → sp vs H Q E →
      ∃ t, PSs (cxOf (L2.CX P w) P w K mg base N q (defScope st) f cdv A outer s H E) (defBody st) t ∧ t { nx := fun _ H' => Q .non H', rt := Q } (start N vs) H) : CanM P w K mg base (k + 1) C m sp := by
  obtain ⟨f, fd, F, g⟩ := D.ex
  exact ⟨f, fd, ps, F.okX S len (body f), c, g, F.binds hb⟩
theorem canN_of {x q : Str} {C : Addr} {st : Stmt} {N ps : List Str} {k : Nat} {sp : Sp} (c : ClsT K mg C x) (D : MetT K C "__init__" q st) (S : FnScope N ps (defScope st)) (hb : BindsPlain st "__init__" q ps) (len : ∀ vs H Q E, sp vs H Q E → vs.length = ps.length)
    (body : ∀ (f : Addr) (cdv : Value) (A : Around) (outer : List Env) (s : Shared) (H : Hp) (vs : List V) (Q : VK) (E : XK), Room k (A.deeper (envOfC q (defScope st) s.heap.objs.size f cdv)) → sp vs H Q E →
      ∃ t, PSs (cxOf (L2.CX P w) P w K mg base N q (defScope st) f cdv A outer s H E) (defBody st) t ∧ t { nx := fun _ H' => Q .non H', rt := Q } (start N vs) H) : CanN P w K mg base (k + 1) C x sp := by
  obtain ⟨f, fd, F, g⟩ := D.ex
  exact ⟨f, fd, ps, F.okX S len (body f), ⟨c.mak, g.at_, g.fn, c.kp⟩, c.gC, F.binds hb⟩
end

/-! ### calls: E0 where nothing is raised; a wish at the slots where something may be -/
section
variable {X : Cx} {k j : Nat} {C : Addr} {x m : Str} {sp : Sp} {W : WX} {p pos apos : Pos} {e o : Expr} {es : List Expr} {ta : TE} {t : TA}
theorem pc_f (c : Can X.prog X.w X.K X.mg X.base k x sp) (hr : Room j X.A) (hk : k ≤ j) (hg : Gl X x) (ha : PA X (e :: es) t)
    (hdb : (x == ("__debug__" : Str)) = false := by decide) (he : starEach (e :: es) X.env = (false, eval e X.env) :: starEach es X.env := by rfl) (hpl : (backTo pos (starEach es X.env)).any (·.1) = false := by rfl) :
    PE X (.Call (.Name x p) (e :: es) [] pos) (tCall sp [] E0 t) := by
  obtain ⟨f, fd, ps, F, hm, kp, b⟩ := c.ex
  exact pe_call F (hr.mono hk) hg hm kp b .nil passL ha hdb he hpl
theorem pc_f0 (c : Can X.prog X.w X.K X.mg X.base k x sp) (hr : Room j X.A) (hk : k ≤ j) (hg : Gl X x)
    (hdb : (x == ("__debug__" : Str)) = false := by decide) : PE X (.Call (.Name x p) [] [] pos) (tCall sp [] E0 tNil) := by
  obtain ⟨f, fd, ps, F, hm, kp, b⟩ := c.ex
  exact pe_call0 F (hr.mono hk) hg hm kp b .nil passL hdb
theorem pc_fS (c : Can X.prog X.w X.K X.mg X.base k x sp) (tk : Takes X W) (hr : Room j X.A) (hk : k ≤ j) (hg : Gl X x) (ha : PA X (e :: es) t)
    (hdb : (x == ("__debug__" : Str)) = false := by decide) (he : starEach (e :: es) X.env = (false, eval e X.env) :: starEach es X.env := by rfl) (hpl : (backTo pos (starEach es X.env)).any (·.1) = false := by rfl) :
    PE X (.Call (.Name x p) (e :: es) [] pos) (tCallS sp (WE W) t) := by
  obtain ⟨f, fd, ps, F, hm, kp, b⟩ := c.ex
  exact pe_callS F (hr.mono hk) hg hm kp b (passAt tk) ha hdb he hpl
theorem pc_m {pl : Sem Bool} (c : CanM X.prog X.w X.K X.mg X.base k C m sp) (hr : Room j X.A) (hk : k ≤ j) (he : PE X o ta) (ha : PA X (e :: es) t)
    (hst : starEach (e :: es) X.env = (false, eval e X.env) :: starEach es X.env := by rfl) (hpl : (backTo pos (starEach es X.env)).any (·.1) = false := by rfl)
    (ht : eval (.Call (.Attribute o m apos) (e :: es) [] pos) X.env = (do
      let v ← eval o X.env
      standAt apos.atName
      let (f, first) ← holding [v] (getMethod v m pl)
      callWith pos f first (backTo pos (starEach (e :: es) X.env)) (backToKw pos (keywordEach [] X.env))) := by rfl) :
    PE X (.Call (.Attribute o m apos) (e :: es) [] pos) (tMeth C m sp [] E0 ta t) := by
  obtain ⟨f, fd, ps, F, hc, hm, b⟩ := c.ex
  exact pe_meth (pl := pl) he hc hm F (hr.mono hk) b .nil passL ha hst hpl ht
/-- o.m(e, ..) that may raise, the wish at the slots -/
def tMethS (C : Addr) (m : Str) (sp : Sp) (W : WX) (ta : TE) (t : TA) : TE := fun σ H Q => ta σ H fun y G => ∃ a dx fs, y = .ref a ∧ G a = some (.ins C dx fs) ∧ fs.lookup m = none ∧ t σ G fun vs G' => sp (y :: vs) G' Q (WE W σ)
theorem pc_mS {pl : Sem Bool} (c : CanM X.prog X.w X.K X.mg X.base k C m sp) (tk : Takes X W) (hr : Room j X.A) (hk : k ≤ j) (he : PE X o ta) (ha : PA X (e :: es) t)
    (hst : starEach (e :: es) X.env = (false, eval e X.env) :: starEach es X.env := by rfl) (hpl : (backTo pos (starEach es X.env)).any (·.1) = false := by rfl)
    (ht : eval (.Call (.Attribute o m apos) (e :: es) [] pos) X.env = (do
      let v ← eval o X.env
      standAt apos.atName
      let (f, first) ← holding [v] (getMethod v m pl)
      callWith pos f first (backTo pos (starEach (e :: es) X.env)) (backToKw pos (keywordEach [] X.env))) := by rfl) :
    PE X (.Call (.Attribute o m apos) (e :: es) [] pos) (tMethS C m sp W ta t) := by
  obtain ⟨f, fd, ps, F, hc, hm, b⟩ := c.ex
  constructor
  intro pins s σ H Q I h
  refine PySem.W.methodCall_KW (pl := pl) (thn (he.run pins s σ H _ I h) ?_) ht
  rintro u s1 ⟨y, G, I1, ry, a, dx, fs, rfl, ga, l, q⟩
  cases ry
  refine getmeth_ok I1 ga hc hm l ?_
  refine PySem.W.callWith_K (first := [.ref a]) (h₀ := X.base) I.ok.mod.kin hm.kp (thn (ha.run pos pins s1 σ G _ I1 q) ?_) hst hpl
  rintro us s2 ⟨vs, G', I2, r, q2⟩
  exact ⟨I2.kIn, run_fnS (us := .ref a :: us) (vs := .ref a :: vs) F (hr.mono hk) b (passAt tk σ) I2 (.cons rfl r) q2⟩
theorem pc_n (c : CanN X.prog X.w X.K X.mg X.base k C x sp) (hr : Room j X.A) (hk : k + 1 ≤ j) (hg : Gl X x) (ha : PA X (e :: es) t)
    (hdb : (x == ("__debug__" : Str)) = false := by decide) (he : starEach (e :: es) X.env = (false, eval e X.env) :: starEach es X.env := by rfl) (hpl : (backTo pos (starEach es X.env)).any (·.1) = false := by rfl) :
    PE X (.Call (.Name x p) (e :: es) [] pos) (tMake C sp [] E0 t) := by
  obtain ⟨f, fd, ps, F, M, hm, b⟩ := c.ex
  exact pe_make M F (hr.mono hk) hg hm b .nil passL ha hdb he hpl
def tMakeS (C : Addr) (sp : Sp) (W : WX) (t : TA) : TE := fun σ H Q => t σ H fun vs G => ∀ y dx, G y = none → G dx = none → dx ≠ y →
  sp (.ref y :: vs) (upd (upd G dx (.own y)) y (.ins C dx [])) (fun v G' => v = .non ∧ Q (.ref y) G') (WE W σ)
end
end Kit

end
section
set_option Elab.async false
set_option maxRecDepth 100000
set_option maxHeartbeats 4000000
namespace Kit
open PySem PySem.Spec PyProof.Rows L2

/-! ### a class made, whose __init__ may raise -/
section
variable {X : Cx} {k j : Nat} {C : Addr} {x : Str} {sp : Sp} {W : WX} {p pos : Pos} {e : Expr} {es : List Expr} {t : TA}
theorem pc_nS (c : CanN X.prog X.w X.K X.mg X.base k C x sp) (tk : Takes X W) (hr : Room j X.A) (hk : k + 1 ≤ j) (hg : Gl X x) (ha : PA X (e :: es) t)
    (hdb : (x == ("__debug__" : Str)) = false := by decide) (he : starEach (e :: es) X.env = (false, eval e X.env) :: starEach es X.env := by rfl) (hpl : (backTo pos (starEach es X.env)).any (·.1) = false := by rfl) :
    PE X (.Call (.Name x p) (e :: es) [] pos) (tMakeS C sp W t) := by
  obtain ⟨f, fd, ps, F, M, hm, b⟩ := c.ex
  have hr := hr.mono hk
  constructor
  intro pins s σ H Q I h
  refine wpAny_Call_Name_kw (ld_glob I hg hm ?_ hdb)
  refine PySem.W.callWith_K (h₀ := X.base) I.ok.mod.kin M.kp (thn (ha.run pos pins s σ H _ I h) ?_) he hpl
  rintro us s1 ⟨vs, G, I1, r, q⟩
  refine ⟨I1.kIn, ?_⟩
  have hq := q (s1.heap.objs.size + 1) s1.heap.objs.size (I1.hok.fresh (Nat.le_succ _)) (I1.hok.fresh (Nat.le_refl _)) (Nat.ne_of_lt (Nat.lt_succ_self _))
  have J := Inv.made (C := C) I1
  have r2 : Vals (V.ref (s1.heap.objs.size + 1) :: vs) (Value.ref (s1.heap.objs.size + 1) :: us) := .cons rfl r
  have hl : (Value.ref (s1.heap.objs.size + 1) :: us ++ []).length = ps.length := by
    have z := r2.length
    rw [F.len _ _ _ _ hq] at z
    rw [List.append_nil]
    exact z.symm
  have bb := b _ (Value.ref (s1.heap.objs.size + 1) :: us) J.kIn hl
  rw [List.append_nil] at bb
  refine wpAny_call (make_map (f := f) I1.kIn M.makes M.init (beq_iff_eq.mp M.fn) (codeAny_mono (F.run _ X.stack _ _ ⟨Value.ref (s1.heap.objs.size + 1) :: us, []⟩ (Value.ref (s1.heap.objs.size + 1) :: us) _ _ (WE W σ) (hr.make C us []) (J.env0.make C us []) bb r2 hq) ?_))
  intro r s' z
  cases r with
  | error er => exact passAt tk σ pins _ _ er s' J z
  | ok fl =>
    cases fl with
    | ret u =>
      obtain ⟨v, H', I3, rv, ev, q3⟩ := J.after z
      subst ev
      exact ⟨rv, V.ref (s1.heap.objs.size + 1), H', I3, rfl, q3⟩
    | next => exact z.elim
    | brk => exact z.elim
    | cont => exact z.elim
end

/-! ### own errors with one field -/
structure ErrT (K : PySem.W.Frag) (mg : Str → Option Value) (C : Addr) (x q fld : Str) (st : Stmt) : Prop where
  gC : mg x = some (.ref C)
  oex : OexC K C
  noF : PySem.W.findIn K (.ref C) fld = some none
  ini : ∃ (f : Addr) (fd : FuncData), Fun K "__init__" q st f fd ∧ PySem.W.findIn K (.ref C) "__init__" = some (some (.ref f)) ∧ PySem.W.typeIn K (.ref f) = some (.type "function")
/-- what isinstance and the reading of a field ask of an error's class -/
structure ErrC (K : PySem.W.Frag) (C : Addr) : Prop where
  xf : XfC K C
  ha : PySem.W.findIn K (.ref C) "__class__" = some (some (.builtin "object.__class__"))
  hn : PySem.W.specialIn K (.builtin "object.__class__") "__get__" = some (some (.builtin "getset_descriptor.__get__"))
  ht : PySem.W.takesIn K (.builtin "object.__class__") = some true
  hm : PySem.W.mroIn K C (.type "object") = some true
  hc : (PySem.W.clsIn K C).isSome = true
def spErr (C : Addr) (fld : Str) : Sp := fun vs H Q _ => ∃ (a : Addr) (y : V), vs = [.ref a, y] ∧ H a = some (exo a C none) ∧ ∀ dx, H dx = none → dx ≠ a → Q .non (upd (upd H dx (exd dx [(fld, y)])) a (exo a C (some dx)))
section
variable (P : Program) (w : World) (K : PySem.W.Frag) (mg : Str → Option Value) (base : Heap)
structure CanE (C : Addr) (x fld : Str) : Prop where
  gC : mg x = some (.ref C)
  oex : OexC K C
  ex : ∃ (f : Addr) (fd : FuncData) (ps : List Str), FnOk P w K mg base (L2.CX P w) 1 f fd ps (spErr C fld) ∧ PySem.W.findIn K (.ref C) "__init__" = some (some (.ref f)) ∧ PySem.W.typeIn K (.ref f) = some (.type "function") ∧ Binds K fd ps []
end
section
variable {P : Program} {w : World} {K : PySem.W.Frag} {mg : Str → Option Value} {base : Heap}
theorem canE_of {C : Addr} {x q fld : Str} {st : Stmt} {N ps : List Str} (D : ErrT K mg C x q fld st) (S : FnScope N ps (defScope st)) (hb : BindsPlain st "__init__" q ps) (hl : ps.length = 2)
    (body : ∀ (f : Addr) (cdv : Value) (A : Around) (outer : List Env) (s : Shared) (H : Hp) (E : XK),
      PSs (cxOf (L2.CX P w) P w K mg base N q (defScope st) f cdv A outer s H E) (defBody st) (tOst K fld (tVar 0) (tVar 1))) (hN : N.length = 2) : CanE P w K mg base C x fld := by
  obtain ⟨f, fd, F, g, ty⟩ := D.ini
  refine ⟨D.gC, D.oex, f, fd, ps, F.okX S (fun vs H Q E h => ?_) (fun cdv A outer s H vs Q E _ h => ?_), g, ty, F.binds hb⟩
  · obtain ⟨a, y, rfl, _⟩ := h
    rw [hl]
    rfl
  · obtain ⟨a, y, rfl, ha, z⟩ := h
    refine ⟨_, body f cdv A outer s H E, ?_⟩
    match N, hN with
    | [n0, n1], _ => exact ⟨y, rfl, .ref a, rfl, a, C, rfl, D.oex, D.noF, .inl ⟨ha, fun dx n ne => z dx n ne⟩⟩
end
section
variable {X : Cx} {C : Addr} {x fld : Str} {W : WX} {p pos pos2 : Pos} {e : Expr} {te : TE} {j : Nat}
/-- raise X(e) -/
theorem pr_err (c : CanE X.prog X.w X.K X.mg X.base C x fld) (tk : Takes X W) (hcalm : X.calm = true) (hr : Room j X.A) (hk : 2 ≤ j) (hg : Gl X x) (ha : PE X e te)
    (he : starEach [e] X.env = (false, eval e X.env) :: starEach [] X.env := by rfl) (hpl : (backTo pos (starEach [] X.env)).any (·.1) = false := by rfl) (hdb : (x == ("__debug__" : Str)) = false := by decide) :
    PS X (.Raise (some (.Call (.Name x p) [e] [] pos)) none pos2) (fun _ σ H => tMkO C (spErr C fld) [] (tCons te tNil) σ H fun cls d H' => W cls d σ H') := by
  obtain ⟨f, fd, ps, F, g, ty, b⟩ := c.ex
  exact L2.ps_raise hcalm tk (pmk_oex c.oex g ty F (hr.mono hk) b .nil passL hg c.gC (pa_cons ha pa_nil (hs := he)) hdb he hpl)
/-- the reading behind the value of e -/
theorem mkE {H : Hp} {y : V} {Q : XK} (h : ∀ d, H d = none → Q (.ref C) (some d) (upd H d (.xd [(fld, y)]))) : [y].length ≤ 1000 ∧ ∀ a, H a = none → spErr C fld (.ref a :: ([y] ++ [])) (upd H a (exo a C none))
    (fun v G => v = .non ∧ ∃ (d : Addr) (fs : List (Str × V)), G a = some (exo a C (some d)) ∧ G d = some (exd d fs) ∧ H d = none ∧ Q (.ref C) (some d) (upd (L2.del G a) d (.xd fs))) (fun _ _ _ => False) := by
  refine ⟨by show 1 ≤ 1000; decide, fun a na => ⟨a, y, rfl, upd_same, fun dx n ne => ⟨rfl, dx, [(fld, y)], upd_same, ?_, ?_, ?_⟩⟩⟩
  · rw [upd_ne ne, upd_same]
  · rw [upd_ne ne] at n
    exact n
  · rw [upd_ne ne] at n
    have z : upd (L2.del (upd (upd (upd H a (exo a C none)) dx (exd dx [(fld, y)])) a (exo a C (some dx))) a) dx (.xd [(fld, y)]) = upd H dx (.xd [(fld, y)]) := by
      funext b
      by_cases hb : b = dx
      · rw [hb, upd_same, upd_same]
      · rw [upd_ne hb, upd_ne hb]
        by_cases hc : b = a
        · rw [hc, L2.del_same, na]
        · rw [L2.del_ne hc, upd_ne hc, upd_ne hb, upd_ne hc]
    rw [z]
    exact h dx n
end

/-! ### a def called in an except suite, the caught error handed to it -/
abbrev SpE := Addr → Value → Option Addr → Sp
structure FnE (P : Program) (w : World) (K : PySem.W.Frag) (mg : Str → Option Value) (base : Heap) (k : Nat) (f : Addr) (fd : FuncData) (ps : List Str) (sp : SpE) : Prop where
  len : ∀ a cls d vs H Q E, sp a cls d vs H Q E → vs.length = ps.length
  run : ∀ (A : Around) (outer : List Env) (s : Shared) (H : Hp) (args : Args) (us : List Value) (vs : List V) (Q : VK) (E : XK) (p : Addr × Obj) (cls : Value) (d : Option Addr), L2H.RoomH k A → L2H.PinOk outer H s p → Zc cls d p.2 → (∃ z, p.2.data = .fields z) →
    Env0 P w K mg base A outer s H → BindsTo s fd args (ps.zip us) → Vals vs us → sp p.1 cls d vs H Q E → codeAny (model P w) A (.call (.ref f) args) (CR (L2.CX P w) outer P w H s Q E) s
abbrev cxE (P : Program) (w : World) (K : PySem.W.Frag) (mg : Str → Option Value) (base : Heap) (N : List Str) (x : Str) (st : Stmt) (f : Addr) (cdv : Value) (A : Around) (outer : List Env) (s : Shared) (H : Hp) (E : XK) (p : Addr × Obj) : Cx :=
  L2H.cxH (L2.CX P w) P w K mg base N x (defScope st) f cdv A outer s H E p
structure CanS (P : Program) (w : World) (K : PySem.W.Frag) (mg : Str → Option Value) (base : Heap) (k : Nat) (x : Str) (sp : SpE) : Prop where
  ex : ∃ (f : Addr) (fd : FuncData) (ps : List Str), FnE P w K mg base k f fd ps sp ∧ mg x = some (.ref f) ∧ PySem.W.keepIn K (.ref f) = true ∧ Binds K fd ps []
section
variable {P : Program} {w : World} {K : PySem.W.Frag} {mg : Str → Option Value} {base : Heap}
theorem canS_of {x : Str} {st : Stmt} {N ps : List Str} {k : Nat} {sp : SpE} (D : DefT K mg x st) (S : FnScope N ps (defScope st)) (hb : BindsPlain st x x ps) (len : ∀ a cls d vs H Q E, sp a cls d vs H Q E → vs.length = ps.length)
    (body : ∀ (f : Addr) (cdv : Value) (A : Around) (outer : List Env) (s : Shared) (H : Hp) (vs : List V) (Q : VK) (E : XK) (p : Addr × Obj) (cls : Value) (d : Option Addr), L2H.RoomH k (A.deeper (envOfC x (defScope st) s.heap.objs.size f cdv)) → Zc cls d p.2 → (∃ z, p.2.data = .fields z) → sp p.1 cls d vs H Q E →
      ∃ t, PSs (cxE P w K mg base N x st f cdv A outer s H E p) (defBody st) t ∧ t { nx := fun _ H' => Q .non H', rt := Q } (start N vs) H) : CanS P w K mg base (k + 1) x sp := by
  obtain ⟨f, fd, F, g⟩ := D.ex
  refine ⟨f, fd, ps, ⟨len, ?_⟩, g, F.kp, F.binds hb⟩
  obtain ⟨oc, od, kV, doc, pm, an, cdv, ct, osl, rfl, lk, hcd⟩ := F.ex
  intro A outer s H args us vs Q E p cls d hr hpin hz hf e0 hbt r hsp
  have hl := len _ _ _ _ _ _ _ hsp
  have KX : K.In s.heap := e0.mod.kin.keeps fun b o e => (e0.bs b o e).1
  have lim : s.heap.NoLimit := e0.mod.nolimit.keeps fun b o e => (e0.bs b o e).1
  have hkind : ∀ y ∈ ps.zip us, (defScope st).names.lookup y.1 = some .local ∨ ((defScope st).names.lookup y.1 = some .cell ∧ ((cellsFrom (s.heap.objs.size + 1) (defScope st).names []).lookup y.1).isSome = true) := by
    rintro ⟨n, v⟩ hy
    rcases S.par n (List.of_mem_zip hy).1 with q | q
    · exact .inl q
    · exact .inr ⟨q, PySem.W.cellsFrom_some _ _ _ (.inl q)⟩
  refine codeAny_call_function hr.depth (KX _ _ lk) rfl S.co S.gen rfl (PySem.W.codeRec_of KX hcd) (hbt _ _ _ _ ?_)
  refine wpAny_newFunctionEnv_cells S.kind hkind ?_
  intro env he s1 y
  subst he
  refine ⟨lim.keeps y.toInCall.keep, codeAny_func ?_⟩
  obtain ⟨t, ht, hq⟩ := body f cdv A outer s H vs Q E p cls d (hr.deeper _) hz hf hsp
  have I : Inv (cxE P w K mg base N x st f cdv A outer s H E p) [] (start N vs) H s1 := L2H.inv_startH S hpin e0 hl r y
  refine wpAny_mono (ht.run [] s1 (start N vs) H _ I hq) ?_ fun e s' hs => hs
  intro fl s' hs
  cases fl with
  | ret u =>
    obtain ⟨v, σ', H', J, rv, q⟩ := hs
    exact ⟨v, H', J.os, J.bare, J.base, J.hok, rv, q⟩
  | next =>
    obtain ⟨σ', H', J, q⟩ := hs
    exact ⟨V.non, H', J.os, J.bare, J.base, J.hok, rfl, q⟩
  | brk =>
    obtain ⟨_, _, _, q⟩ := hs
    exact q.elim
  | cont =>
    obtain ⟨_, _, _, q⟩ := hs
    exact q.elim
end
/-- f(e, ..) in a suite that holds the error at a -/
def tCallE (sp : SpE) (a : Addr) (cls : Value) (d : Option Addr) (t : TA) : TE := fun σ H Q => t σ H fun vs G => sp a cls d vs G Q E0
section
variable {X : Cx} {k j : Nat} {x : Str} {sp : SpE} {a : Addr} {oe : Obj} {pn : List (Addr × Obj)} {cls : Value} {d : Option Addr} {p pos : Pos} {e : Expr} {es : List Expr} {t : TA}
theorem pc_E (c : CanS X.prog X.w X.K X.mg X.base k x sp) (hz : Zc cls d oe) (hf : ∃ z, oe.data = .fields z) (hr : Room j X.A) (hk : k ≤ j) (hg : Gl X x) (ha : PA (X.suite a ((a, oe) :: pn)) (e :: es) t)
    (hdb : (x == ("__debug__" : Str)) = false := by decide) (he : starEach (e :: es) X.env = (false, eval e X.env) :: starEach es X.env := by rfl) (hpl : (backTo pos (starEach es X.env)).any (·.1) = false := by rfl) :
    PE (X.suite a ((a, oe) :: pn)) (.Call (.Name x p) (e :: es) [] pos) (tCallE sp a cls d t) := by
  obtain ⟨f, fd, ps, F, hm, kp, hb⟩ := c.ex
  constructor
  intro pins s σ H Q I h
  refine wpAny_Call_Name_kw (ld_glob I hg hm ?_ hdb)
  refine PySem.W.callWith_K (h₀ := X.base) I.ok.mod.kin kp (thn (ha.run pos pins s σ H _ I h) ?_) he hpl
  rintro us s1 ⟨vs, G, I1, r, q⟩
  refine ⟨I1.kIn, ?_⟩
  have hl : us.length = ps.length := by
    rw [← r.length]
    exact F.len _ _ _ _ _ _ _ q
  have b := hb s1 us I1.kIn (by rw [List.append_nil]; exact hl)
  rw [List.append_nil] at b
  have P1 := I1.pin (a, oe) (List.mem_append_left _ List.mem_cons_self)
  have hpin : L2H.PinOk (X.suite a ((a, oe) :: pn)).stack G s1 (a, oe) := ⟨P1.1, P1.2.1, fun hm => (List.mem_cons.mp (I1.stkSub a hm)).elim P1.2.2.1 P1.2.2.2.1, P1.2.2.2.2⟩
  refine wpAny_call (codeAny_mono (F.run _ _ s1 G ⟨us, []⟩ us vs Q E0 (a, oe) cls d ?_ hpin hz hf I1.env0 b r q) ?_)
  · exact ⟨(hr.mono hk).dp, (hr.mono hk).un⟩
  · intro z s' hq
    cases z with
    | error er =>
      obtain ⟨_, _, _, _, _, _, _, _, _, _, _, _, y⟩ := hq
      exact y.elim
    | ok fl =>
      cases fl with
      | ret u => exact I1.after hq
      | next => exact hq.elim
      | brk => exact hq.elim
      | cont => exact hq.elim
end
/-! ### what such a def asks of the error: isinstance, a field -/
/-- the error's own dict, where it has one, is tracked -/
def XdOk (d : Option Addr) (H : Hp) : Prop := ∀ dd, d = some dd → ∃ fs, H dd = some (.xd fs)
section
variable {X : Cx} {a : Addr} {oe : Obj} {cls : Value} {d : Option Addr} {e : Expr} {te : TE} {fld : Str} {pos : Pos}
theorem pin_at (hp : (a, oe) ∈ X.pn) (hz : Zc cls d oe) (hf : ∃ z, oe.data = .fields z) {pins : List (Addr × Obj)} {σ : St} {H : Hp} {s : Shared} (I : Inv X pins σ H s) (hd : XdOk d H) {D : Addr} (hD : cls = .ref D) : ∃ od, PySem.W.InstAt s.heap a oe D od := by
  obtain ⟨hget, _⟩ := I.pin (a, oe) (List.mem_append_left _ hp)
  obtain ⟨vs, hv⟩ := hf
  subst hD
  cases hd0 : d with
  | none => exact ⟨none, hget, hz.1, by unfold PySem.W.notCls; rw [hv] <;> rfl, by rw [hz.2, hd0] <;> trivial⟩
  | some dd =>
    obtain ⟨fs, hfs⟩ := hd dd hd0
    have z : ObjOk X.prog X.w H s.heap dd (.xd fs) := I.hok dd _ hfs
    obtain ⟨mA, ⟨od, es, ep, ho, _⟩, _⟩ := z
    exact ⟨some od, hget, hz.1, by unfold PySem.W.notCls; rw [hv] <;> rfl, by rw [hz.2, hd0]; exact ho⟩
/-- isinstance(e, c), e the pinned error at a -/
def rIsP (K : PySem.W.Frag) (a : Addr) (cls : Value) (d : Option Addr) : List V → Hp → VK → Prop := fun xs H Q => ∃ (D : Addr) (c : V) (cv : Value) (b : Bool), cls = .ref D ∧ ErrC K D ∧ XdOk d H ∧ xs = [.ref a, c] ∧ (∀ u, RelV c u → u = cv) ∧ PySem.W.kitOne K (.ref D) cv = some b ∧ Q (.bl b) H
theorem call_isP (hp : (a, oe) ∈ X.pn) (hz : Zc cls d oe) (hf : ∃ z, oe.data = .fields z) : CallR X (.builtin "isinstance") (rIsP X.K a cls d) := by
  intro pins s σ H xs us Q I r h
  obtain ⟨D, c, cv, b, hD, C, hdd, rfl, hcv, e, q⟩ := h
  cases r with
  | cons rx rr =>
    cases rr with
    | cons rt rr =>
      cases rr
      cases rx
      have ec := hcv _ rt
      subst ec
      obtain ⟨od, J⟩ := pin_at hp hz hf I hdd hD
      exact PySem.W.kia_one (PySem.W.kitx_exc C.hc C.xf.ga C.xf.gg C.xf.exC C.ha C.hn C.ht C.hm) I.kIn J e (fun z => nomatch z) fun tk => ⟨.bl b, H, I.kept (t' := tk) fun _ _ z => z, rfl, q⟩
/-- e.fld, e the pinned error at a -/
def tXP (K : PySem.W.Frag) (a : Addr) (cls : Value) (d : Option Addr) (fld : Str) (te : TE) : TE := fun σ H Q => te σ H fun x G => ∃ (D dd : Addr) (fs : List (Str × V)) (v : V), x = .ref a ∧ cls = .ref D ∧ XfC K D ∧ PySem.W.findIn K (.ref D) fld = some none ∧ d = some dd ∧ G dd = some (.xd fs) ∧ fs.lookup fld = some v ∧ Q v G
theorem pe_xp (hp : (a, oe) ∈ X.pn) (hz : Zc cls d oe) (hf : ∃ z, oe.data = .fields z) (he : PE X e te) (hb : attributeBase e fld X.env (eval e X.env) = eval e X.env := by rfl) : PE X (.Attribute e fld pos) (tXP X.K a cls d fld te) := by
  constructor
  intro pins s σ H Q I h
  refine attr_of hb (thn (he.run pins s σ H _ I h) ?_)
  rintro u s1 ⟨x, G, I1, rx, D, dd, fs, v, rfl, hD, T, hno, ed, ea, l, q⟩
  cases rx
  subst ed
  obtain ⟨hget, _⟩ := I1.pin (a, oe) (List.mem_append_left _ hp)
  obtain ⟨vs, hv⟩ := hf
  have hx : ObjOk X.prog X.w G s1.heap dd (.xd fs) := I1.hok dd _ ea
  obtain ⟨mA, hns, hrel⟩ := hx
  obtain ⟨od, ho, hl⟩ := lookIn_ns hns
  obtain ⟨u, hu, ru⟩ := RelO.some_of (v := v) (o := mA fld) (by rw [← l]; exact hrel fld)
  have J : PySem.W.InstAt s1.heap a oe D (some od) := ⟨hget, hz.1.trans hD, by unfold PySem.W.notCls; rw [hv] <;> rfl, by rw [hz.2]; exact ho⟩
  exact HandSPX.exc_get I1.kIn J T.ga T.gg T.exC (PySem.W.findObj_own T.hdC hno rfl (by rw [hl, hu])) (handed_of ru) ⟨v, G, I1.tok _, ru, q⟩
/-- list.count of flat items -/
def rCntF (K : PySem.W.Frag) : V → List V → Hp → VK → Prop := fun x xs H Q => ∃ (p : Addr) (ys : List V) (y : V), x = .ref p ∧ xs = [y] ∧ SqL K H p ys ∧ flatV y = true ∧ ys.all flatV = true ∧ Q (.int (ys.countP fun z => eqV z y : Nat)) H
theorem countU {y : V} : ∀ {ys : List V} {us : List Value}, Vals ys us → ys.all flatV = true → us.countP (eqU y) = ys.countP fun z => eqV z y
  | _, _, .nil, _ => rfl
  | z :: zs, u :: us, .cons r t, f => by
    rw [List.all_cons, Bool.and_eq_true] at f
    rw [List.countP_cons, List.countP_cons, countU t f.2, eqU_of r f.1]
theorem mt_countF : MtR X "list.count" (rCntF X.K) := by
  intro pins s σ H x xs v us Q I rx rxs h
  obtain ⟨p, ys, y, rfl, rfl, hs, fy, fys, q⟩ := h
  cases rx
  cases rxs with
  | cons ry rt =>
    rename_i uy ut
    cases rt
    obtain ⟨its, rv, ⟨⟨cls, dd, data, sl⟩, n, ho, hc, hdn, hd⟩, hlen⟩ := I.list hs
    simp only at hc hd
    subst hc hd
    refine call_meets PySem.F.slot_list_count ⟨_, ho, rfl⟩ PySem.F.entry_list_count (PySem.F.args_list_count_2 _ _)
      (SeqAt.list_countAt p its.toArray n dd sl uy (eqU y)) ⟨ho, fun u hu => mem_eqAt ry fy rv fys u (by simpa using hu), ?_⟩
    have ec : its.toArray.toList.countP (eqU y) = ys.countP fun z => eqV z y := countU rv fys
    refine ⟨.int (ys.countP fun z => eqV z y : Nat), H, I.tok _, ⟨s.toks, ?_⟩, q⟩
    show Value.int ((its.toArray.toList.countP (eqU y) : Nat) : Int) s.toks = _
    rw [ec]
end
end Kit

end
section
set_option Elab.async false
set_option maxRecDepth 100000
set_option maxHeartbeats 4000000
namespace Kit
open PySem PySem.Spec PyProof.Rows L2

/-! ### texts as lists of codes -/
def S (l : List Nat) : Str := ⟨l.toArray⟩
abbrev tx (l : List Nat) : V := .str (S l)
theorem S_len (l : List Nat) : (S l).length = l.length := by
  show l.toArray.size = l.length
  exact List.size_toArray
theorem S_cps (l : List Nat) : (S l).cps.toList = l := rfl
theorem S_app (l m : List Nat) : S l ++ S m = S (l ++ m) := by
  show (⟨l.toArray ++ m.toArray⟩ : Str) = ⟨(l ++ m).toArray⟩
  rw [List.append_toArray]
theorem S_inj {l m : List Nat} (h : S l = S m) : l = m := by
  have z := congrArg (fun s => s.cps.toList) h
  exact z
theorem S_eq {l m : List Nat} : S l = S m ↔ l = m := ⟨S_inj, fun h => by rw [h]⟩
theorem S_of (s : Str) : ∃ l, s = S l := ⟨s.cps.toList, by cases s; rfl⟩
theorem S_one (c : Nat) : (⟨#[c]⟩ : Str) = S [c] := rfl
theorem cut_S (l : List Nat) (lo hi : Option Int) : cutS (S l) lo hi = S ((l.drop (HT.sIx l.length 0 lo)).take (HT.sIx l.length l.length hi - HT.sIx l.length 0 lo)) := by
  unfold cutS
  rw [S_len]
  rfl
/-- what was tracked stays -/
abbrev Ex := @Same
theorem ex_new {H : Hp} {p : Addr} {o : HO} (h : H p = none) : Same H (upd H p o) := fun b u e => by
  rw [upd_ne (ne_of_none e h)]
  exact e
/-- an object that H does not know may change -/
theorem ex_mut {H G : Hp} {p : Addr} {o : HO} (e : Same H G) (h : H p = none) : Same H (upd G p o) := fun b u hb => by
  rw [upd_ne (ne_of_none hb h)]
  exact e b u hb
theorem szl {n : Nat} (h : n ≤ 100000) : n ≤ sizeLine := Nat.le_trans h (by decide)
theorem szlt {n : Nat} (h : n < 100000) : n < sizeLine := Nat.lt_of_lt_of_le h (by decide)
theorem seqL_of {K : PySem.W.Frag} {H : Hp} {a : Addr} {xs : List V} (h : H a = some (.lst xs)) : SqL K H a xs := .inl (.inl h)
theorem seqT_of {K : PySem.W.Frag} {H : Hp} {a : Addr} {xs : List V} (h : H a = some (.tup xs)) : SqT K H a xs := .inl (.inl h)

/-! ### data: what laws compare -/
inductive D where
  | non | bl (b : Bool) | int (i : Int) | txt (l : List Nat) | lst (xs : List D) | tup (xs : List D)
mutual
def Rp (H : Hp) : D → V → Prop
  | .non, v => v = .non
  | .bl b, v => v = .bl b
  | .int i, v => v = .int i
  | .txt l, v => v = tx l
  | .lst ds, v => ∃ p vs, v = .ref p ∧ H p = some (.lst vs) ∧ Rps H ds vs
  | .tup ds, v => ∃ p vs, v = .ref p ∧ H p = some (.tup vs) ∧ Rps H ds vs
def Rps (H : Hp) : List D → List V → Prop
  | [], vs => vs = []
  | d :: ds, vs => ∃ v r, vs = v :: r ∧ Rp H d v ∧ Rps H ds r
end
mutual
theorem Rp.mono {H G : Hp} (e : Same H G) : ∀ (d : D) (v : V), Rp H d v → Rp G d v
  | .non, _, h => h
  | .bl _, _, h => h
  | .int _, _, h => h
  | .txt _, _, h => h
  | .lst ds, _, ⟨p, vs, hv, hp, r⟩ => ⟨p, vs, hv, e _ _ hp, Rps.mono e ds vs r⟩
  | .tup ds, _, ⟨p, vs, hv, hp, r⟩ => ⟨p, vs, hv, e _ _ hp, Rps.mono e ds vs r⟩
theorem Rps.mono {H G : Hp} (e : Same H G) : ∀ (ds : List D) (vs : List V), Rps H ds vs → Rps G ds vs
  | [], _, h => h
  | d :: ds, _, ⟨v, r, hv, h1, h2⟩ => ⟨v, r, hv, Rp.mono e d v h1, Rps.mono e ds r h2⟩
end
theorem Rps.len {H : Hp} : ∀ {ds : List D} {vs : List V}, Rps H ds vs → vs.length = ds.length
  | [], _, h => by
    cases h
    rfl
  | d :: ds, _, ⟨v, r, hv, _, h2⟩ => by
    rw [hv, List.length_cons, List.length_cons, Rps.len h2]
theorem Rps.at {H : Hp} : ∀ {ds : List D} {vs : List V} (i : Nat) (d : D), Rps H ds vs → ds[i]? = some d → ∃ v, vs[i]? = some v ∧ Rp H d v
  | [], _, _, _, _, e => by simp at e
  | d :: ds, _, 0, d', ⟨v, r, hv, h1, _⟩, e => by
    rw [hv]
    simp at e
    subst e
    exact ⟨v, rfl, h1⟩
  | d :: ds, _, i + 1, d', ⟨v, r, hv, _, h2⟩, e => by
    rw [hv]
    exact Rps.at i d' h2 (by simpa using e)
theorem Rps.txts {H : Hp} : ∀ (ls : List (List Nat)), Rps H (ls.map .txt) (ls.map tx)
  | [] => rfl
  | l :: ls => ⟨tx l, ls.map tx, rfl, rfl, Rps.txts ls⟩
theorem Rps.txts_eq {H : Hp} : ∀ {ls : List (List Nat)} {vs : List V}, Rps H (ls.map .txt) vs → vs = ls.map tx
  | [], _, h => h
  | l :: ls, _, ⟨v, r, hv, h1, h2⟩ => by
    rw [hv, Rps.txts_eq h2, show v = tx l from h1]
    rfl

/-! ### purses -/
def PurseAt (H : Hp) (p : Addr) : Prop := ∃ x y z : Int, H p = some (.lst [.int x, .int y, .int z]) ∧ 0 ≤ x
def spDraw : Sp := fun vs H Q _ => ∃ (p : Addr) (n : Int), vs = [.ref p, .int n] ∧ PurseAt H p ∧ 0 < n ∧ n < 1000000000 ∧ ∀ (d : Int) (o : HO), 0 ≤ d → d < n → PurseAt (upd H p o) p → Q (.int d) (upd H p o)
def spPurse (K : PySem.W.Frag) : Sp := fun vs H Q _ => ∃ (a : Addr) (ns : List Int) (k s : Int), vs = [.ref a, .int k, .int s] ∧ SqL K H a (ns.map V.int) ∧ ns.length ≤ 63 ∧ 0 ≤ k ∧ k ≤ 63 ∧ ∀ (q : Addr) (o : HO), H q = none → PurseAt (upd H q o) q → Q (.ref q) (upd H q o)
end Kit

end
section
set_option Elab.async false
set_option maxRecDepth 100000
set_option maxHeartbeats 4000000
namespace Kit
open PySem PySem.Spec PyProof.Rows L2

/-! ### comprehensions without a test, one name -/
section
variable {J : It} {n : Nat} {G : Hp → Prop} {Y : Nat → Hp → V → Hp → Prop} {te : TE} {σ : St} {H1 : Hp} {D : Addr} {Qd : Hp → Prop}
theorem wipe1 (j : Nat) (x : Option V) : wipe ((wipe σ [j]).set j x) [j] = wipe σ [j] := by
  show ((wipe σ [j]).set j x).set j none = σ.set j none
  rw [List.set_set]
  show (σ.set j none).set j none = σ.set j none
  rw [List.set_set]
theorem set1 (j : Nat) (x : Option V) : (wipe σ [j]).set j x = σ.set j x := by
  show (σ.set j none).set j x = _
  rw [List.set_set]
theorem lc_one (w : Walk J n G Y) {j : Nat} (out : List V) (hn : out.length = n) (hsz : n ≤ 100000) (hD : H1 D = none) (hG : ∀ H, Same H1 H → G H)
    (hs : ∀ i x H H' v, i < n → Same H1 H → Y i H x H' → out[i]? = some v → Same H H' ∧ ∀ Q : VK, (∀ M, Same H' M → Q v M) → te (σ.set j (some x)) H' Q)
    (hd : ∀ H, Same H1 H → H D = some (.lst out) → Qd H) :
    ∃ W : Nat → Nat → Hp → Prop, (∃ m, W 0 m (upd H1 D (.lst []))) ∧ ∀ i m H, W i m H →
      (J.stop i H ∧ Qd H) ∨ (J.go i H ∧ ∃ Nx : Hp → Prop, (∀ H', Nx H' → ∃ m', m' < m ∧ W (i + 1) m' H') ∧ ∀ x H', J.yld i H x H' → gName j x (wipe σ [j]) H' fun σ2 H2 => wipe σ2 [j] = wipe σ [j] ∧ tYes σ2 H2 fun b H3 =>
        if b = true then te σ2 H3 fun y H4 => ∃ acc, H4 D = some (.lst acc) ∧ acc.length < sizeLine ∧ Nx (upd H4 D (.lst (acc ++ [y]))) else Nx H3) := by
  refine lc_it w (fun i H => Same H1 H ∧ H D = some (.lst (out.take i))) ⟨ex_new hD, upd_same⟩ (fun i H _ h => hG H h.1) ?_ ?_
  · rintro i x H H' hi ⟨s1, hHD⟩ y
    have hv : out[i]? = some (out[i]'(by omega)) := List.getElem?_eq_getElem _
    obtain ⟨s2, ht⟩ := hs i x H H' _ hi s1 y hv
    show wipe ((wipe σ [j]).set j (some x)) [j] = _ ∧ _
    refine ⟨wipe1 j _, ?_⟩
    unfold tYes
    dsimp only
    rw [if_pos rfl]
    rw [set1]
    refine ht _ fun M s3 => ⟨out.take i, s3 _ _ (s2 _ _ hHD), by rw [List.length_take]; exact szlt (by omega), ?_⟩
    refine ⟨ex_mut ((s1.trans s2).trans s3) hD, ?_⟩
    rw [upd_same, List.take_add_one, hv]
    rfl
  · rintro H ⟨s1, hHD⟩
    refine hd H s1 ?_
    rw [hHD, List.take_of_length_le (by omega)]
end

/-! ### what a def may let out -/
def Ra (E : XK) (C : Addr) (fld : Str) (y : V) (H : Hp) : Prop := ∀ d M, Same H M → M d = some (.xd [(fld, y)]) → E (.ref C) (some d) M
theorem Ra.mono {E : XK} {C : Addr} {fld : Str} {y : V} {H G : Hp} (h : Ra E C fld y H) (e : Same H G) : Ra E C fld y G := fun d M s => h d M (e.trans s)
theorem Ra.now {E : XK} {C : Addr} {fld : Str} {y : V} {H : Hp} (h : Ra E C fld y H) : [y].length ≤ 1000 ∧ ∀ a, H a = none → spErr C fld (.ref a :: ([y] ++ [])) (upd H a (exo a C none))
    (fun v G => v = .non ∧ ∃ (d : Addr) (fs : List (Str × V)), G a = some (exo a C (some d)) ∧ G d = some (exd d fs) ∧ H d = none ∧ E (.ref C) (some d) (upd (L2.del G a) d (.xd fs))) (fun _ _ _ => False) :=
  mkE fun d hd => h d _ (ex_new hd) upd_same

/-! ### columns of a scheme: plain facts -/
def cols (n : Nat) : List Nat := (List.range n).map (97 + ·)
def inCol (n x : Nat) : Bool := decide (97 ≤ x ∧ x < 97 + n)
def inDig (c x : Nat) : Bool := decide (48 ≤ x ∧ x < 48 + c)
def isCol (n : Nat) (l : List Nat) : Bool := decide (l.length = 1) && l.all (inCol n)
def isStrip (n : Nat) (l : List Nat) : Bool := l.all (inCol n)
def isColour (c : Nat) (l : List Nat) : Bool := decide (l.length = 1) && l.all (inDig c)
def isDigs (r c : Nat) (l : List Nat) : Bool := decide (l.length = r) && l.all (inDig c)
def dig : Nat → Nat → Nat → List Nat
  | 0, _, _ => []
  | r + 1, c, k => (48 + (k / c ^ r) % c) :: dig r c k
def num (c : Nat) (l : List Nat) : Nat := l.foldl (fun acc d => acc * c + (d - 48)) 0
def Good (r c n : Nat) : Prop := (r, c, n) ∈ [(1, 2, 2), (1, 3, 3), (2, 2, 4), (2, 3, 9), (3, 2, 8)]
instance : Decidable (Good r c n) := by unfold Good; infer_instance
theorem mem_cols {n x : Nat} : x ∈ cols n ↔ inCol n x = true := by
  unfold cols inCol
  rw [List.mem_map, decide_eq_true_iff]
  constructor
  · rintro ⟨k, hk, rfl⟩
    have := List.mem_range.mp hk
    omega
  · intro h
    exact ⟨x - 97, List.mem_range.mpr (by omega), by omega⟩
theorem Good.cases {r c n : Nat} (h : Good r c n) : (r = 1 ∧ c = 2 ∧ n = 2) ∨ (r = 1 ∧ c = 3 ∧ n = 3) ∨ (r = 2 ∧ c = 2 ∧ n = 4) ∨ (r = 2 ∧ c = 3 ∧ n = 9) ∨ (r = 3 ∧ c = 2 ∧ n = 8) := by
  simpa [Good] using h
theorem cols_len (n : Nat) : (cols n).length = n := by simp [cols]
theorem dig_len (r c k : Nat) : (dig r c k).length = r := by
  induction r with
  | zero => rfl
  | succ r ih => rw [dig, List.length_cons, ih]
theorem dig_in {r c k : Nat} (hc : 0 < c) : (dig r c k).all (inDig c) = true := by
  induction r with
  | zero => rfl
  | succ r ih =>
    rw [dig, List.all_cons, ih, Bool.and_true]
    unfold inDig
    have := Nat.mod_lt (k / c ^ r) hc
    rw [decide_eq_true_iff]
    omega
theorem dig_digs {r c k : Nat} (hc : 0 < c) : isDigs r c (dig r c k) = true := by
  unfold isDigs
  rw [dig_len, dig_in hc]
  simp
/-- a list of digits is one of finitely many -/
def digLists : Nat → Nat → List (List Nat)
  | 0, _ => [[]]
  | r + 1, c => (List.range c).flatMap fun d => (digLists r c).map ((48 + d) :: ·)
theorem mem_digLists {r c : Nat} : ∀ {l : List Nat}, isDigs r c l = true → l ∈ digLists r c := by
  induction r with
  | zero =>
    intro l h
    unfold isDigs at h
    rw [Bool.and_eq_true, decide_eq_true_iff] at h
    rw [List.length_eq_zero_iff.mp h.1]
    exact List.mem_singleton.mpr rfl
  | succ r ih =>
    intro l h
    unfold isDigs at h
    rw [Bool.and_eq_true, decide_eq_true_iff] at h
    match l, h with
    | x :: l, ⟨h1, h2⟩ =>
      rw [List.all_cons, Bool.and_eq_true] at h2
      have hx := h2.1
      unfold inDig at hx
      rw [decide_eq_true_iff] at hx
      rw [digLists, List.mem_flatMap]
      refine ⟨x - 48, List.mem_range.mpr (by omega), List.mem_map.mpr ⟨l, ih ?_, ?_⟩⟩
      · unfold isDigs
        rw [Bool.and_eq_true, decide_eq_true_iff]
        exact ⟨by simpa using h1, h2.2⟩
      · rw [show 48 + (x - 48) = x by omega]
theorem num_lt {r c n : Nat} (h : Good r c n) {l : List Nat} (hl : isDigs r c l = true) : num c l < n := by
  suffices z : ∀ l ∈ digLists r c, num c l < n from z l (mem_digLists hl)
  clear hl
  rcases h.cases with ⟨rfl, rfl, rfl⟩ | ⟨rfl, rfl, rfl⟩ | ⟨rfl, rfl, rfl⟩ | ⟨rfl, rfl, rfl⟩ | ⟨rfl, rfl, rfl⟩ <;> decide +kernel
theorem dig_num {r c n : Nat} (h : Good r c n) {l : List Nat} (hl : isDigs r c l = true) : dig r c (num c l) = l := by
  suffices z : ∀ l ∈ digLists r c, dig r c (num c l) = l from z l (mem_digLists hl)
  clear hl
  rcases h.cases with ⟨rfl, rfl, rfl⟩ | ⟨rfl, rfl, rfl⟩ | ⟨rfl, rfl, rfl⟩ | ⟨rfl, rfl, rfl⟩ | ⟨rfl, rfl, rfl⟩ <;> decide +kernel
theorem num_dig {r c n k : Nat} (h : Good r c n) (hk : k < n) : num c (dig r c k) = k := by
  suffices z : ∀ k < n, num c (dig r c k) = k from z k hk
  clear hk
  rcases h.cases with ⟨rfl, rfl, rfl⟩ | ⟨rfl, rfl, rfl⟩ | ⟨rfl, rfl, rfl⟩ | ⟨rfl, rfl, rfl⟩ | ⟨rfl, rfl, rfl⟩ <;> decide +kernel
end Kit

end
section
set_option Elab.async false
set_option maxRecDepth 100000
set_option maxHeartbeats 4000000
namespace Kit
open PySem PySem.Spec PyProof.Rows L2
/-! ### rules whose reading names the written part: it is given -/
section
variable {X : Cx} {e e2 : Expr} {es : List Expr} {ta tb : TE} {t : TA} {f : Str} {pos p apos cpos : Pos} {tg : Expr}
theorem kfld (K : PySem.W.Frag) (he : PE X e ta) (hK : X.K = K := by rfl) (hb : attributeBase e f X.env (eval e X.env) = eval e X.env := by rfl) : PE X (.Attribute e f pos) (tFld K ta f) := hK ▸ pe_fld he hb
theorem kcon (K : PySem.W.Frag) (he : PE X e ta) (hK : X.K = K := by rfl) (hb : attributeBase e f X.env (eval e X.env) = eval e X.env := by rfl) : PE X (.Attribute e f pos) (tCon K ta f) := hK ▸ pe_con he hb
theorem kix_list (K : PySem.W.Frag) (hK : X.K = K := by rfl) : IxR X (rIxL K) := hK ▸ ix_list
theorem kix_tup (K : PySem.W.Frag) (hK : X.K = K := by rfl) : IxR X (rIxT K) := hK ▸ ix_tup
theorem kix_seq (K : PySem.W.Frag) (hK : X.K = K := by rfl) : IxR X (rIx K) := hK ▸ ix_seq
theorem kpi_list (K : PySem.W.Frag) (hl : PE X e ta) (hK : X.K = K := by rfl) : PI X tg e (iList K ta) := hK ▸ pi_list hl
theorem kpi_tup (K : PySem.W.Frag) (hl : PE X e ta) (hK : X.K = K := by rfl) : PI X tg e (iTup K ta) := hK ▸ pi_tup hl
theorem kisi (K : PySem.W.Frag) (hK : X.K = K := by rfl) : CallR X (.builtin "isinstance") (rIsi K) := hK ▸ call_isi
theorem klen_seq (K : PySem.W.Frag) (hK : X.K = K := by rfl) : CallR X (.builtin "len") (fun xs H Q => ∃ p ys, xs = [.ref p] ∧ (SqL K H p ys ∨ SqT K H p ys) ∧ Q (.int ys.length) H) := hK ▸ call_len_seq
theorem klen (K : PySem.W.Frag) (hK : X.K = K := by rfl) : CallR X (.builtin "len") (fun xs H Q => ∃ x n, xs = [x] ∧ LenV K x H n ∧ Q (.int n) H) := hK ▸ call_len
theorem ksum (K : PySem.W.Frag) (hc : X.calm = true) (hK : X.K = K := by rfl) : CallR X (.builtin "sum") (rSum K) := hK ▸ cr_sum hc
theorem kall (K : PySem.W.Frag) (hc : X.calm = true) (hK : X.K = K := by rfl) : CallR X (.builtin "all") (rAll K) := hK ▸ cr_all hc
theorem kin (K : PySem.W.Frag) (hK : X.K = K := by rfl) : OpR X (compareOp .In) (rIn K false) := hK ▸ op_in_seq
theorem knotin (K : PySem.W.Frag) (hK : X.K = K := by rfl) : OpR X (compareOp .NotIn) (rIn K true) := hK ▸ op_notIn_seq
theorem keqD (K : PySem.W.Frag) (hu : X.A.units + 64 < cLine) (hK : X.K = K := by rfl) : OpR X (compareOp .Eq) (rEqD K) := hK ▸ op_eqD hu
theorem kneD (K : PySem.W.Frag) (hu : X.A.units + 64 < cLine) (hK : X.K = K := by rfl) : OpR X (compareOp .NotEq) (rNeD K) := hK ▸ op_neD hu
theorem klist_of (K : PySem.W.Frag) (hK : X.K = K := by rfl) : CallR X (.type "list") (fun xs H Q => ∃ p ys, xs = [.ref p] ∧ (SqL K H p ys ∨ SqT K H p ys) ∧ ∀ l, H l = none → Q (.ref l) (upd H l (.lst ys))) := hK ▸ call_list_of
theorem ksl_list (K : PySem.W.Frag) (hK : X.K = K := by rfl) : SlR X (rSlL K) := hK ▸ sl_list
theorem kjoin (K : PySem.W.Frag) {o : Expr} {to te : TE} (ho : PE X o to) (he : PE X e te) (hK : X.K = K := by rfl) (hs : starEach [e] X.env = [(false, eval e X.env)] := by rfl) (hbase : attributeBase o "join" X.env (eval o X.env) = eval o X.env := by rfl) (hline : (apos.endLine == cpos.line) = true := by rfl) :
    PE X (.Call (.Attribute o "join" apos) [e] [] cpos) (tM1 (fun x xs H Q => ∃ a p, ∃ ys : List Str, x = .str a ∧ xs = [.ref p] ∧ (SqL K H p (ys.map V.str) ∨ SqT K H p (ys.map V.str)) ∧ (ys.map (·.length)).sum + ys.length * a.length ≤ 16777216 ∧ Q (.str (Txt.join a ys)) H) to te) := hK ▸ pe_join ho he hs hbase hline
end
end Kit

end
section
set_option Elab.async false
set_option linter.all false
set_option maxRecDepth 100000
set_option maxHeartbeats 4000000
namespace Kit
open PySem PySem.Spec PyProof.Rows L2
/-! ### an own == : what its def promises, of any other thing whose type does not come first -/
section
variable {X : Cx} {C : Addr} {k j : Nat} {sp : Sp}
/-- what the type of the other thing must be -/
def OtherOk (K : PySem.W.Frag) (C : Addr) (H : Hp) (y : V) : Prop := (∃ i, y = .int i) ∨ (∃ z, y = .str z) ∨ ∃ b dx fs, y = .ref b ∧ H b = some (.ins C dx fs)
def rEqO (K : PySem.W.Frag) (C : Addr) (sp : Sp) : R2 := fun x y H Q => ∃ a dx fs, x = .ref a ∧ H a = some (.ins C dx fs) ∧ OtherOk K C H y ∧ sp [x, y] H (fun v G => ∃ b, v = .bl b ∧ Q (.bl b) G) E0
theorem eqO (K : PySem.W.Frag) (c : CanM X.prog X.w X.K X.mg X.base k C "__eq__" sp) (hr : Room j X.A) (hk : k ≤ j) (hni : PySem.W.notFirst K C (.type "int") = true) (hns : PySem.W.notFirst K C (.type "str") = true) (hK : X.K = K := by rfl) : OpR X (compareOp .Eq) (rEqO K C sp) := by
  subst hK
  obtain ⟨f, fd, ps, F, hc, hm, b⟩ := c.ex
  intro pins s σ H x y v u Q I rx ry hq
  obtain ⟨a, dx, fs, rfl, ha, ho, h⟩ := hq
  cases rx
  show wpAny (model X.prog X.w) X.A (richCompare .Eq (.ref a) u) (EP X pins σ Q) X.xe s
  obtain ⟨mA, J, _⟩ := ins_get I.hok ha
  obtain ⟨od, J, _⟩ := J.look
  obtain ⟨m, hF⟩ := I.fr
  have tb : ∃ tb, PySem.W.Looks (model X.prog X.w) s.heap (typeOf u) tb ∧ PySem.W.notFirst X.K C tb = true := by
    rcases ho with ⟨i, rfl⟩ | ⟨z, rfl⟩ | ⟨b', dy, gs, rfl, hb'⟩
    · obtain ⟨t, rfl⟩ := ry
      exact ⟨.type "int", .now, hni⟩
    · obtain ⟨t, rfl⟩ := ry
      exact ⟨.type "str", .now, hns⟩
    · cases ry
      obtain ⟨mB, J', _⟩ := ins_get I.hok hb'
      obtain ⟨od', J', _⟩ := J'.look
      exact ⟨.ref C, J'.type, by simp [PySem.W.notFirst]⟩
  obtain ⟨tb, htb, hnf⟩ := tb
  refine PySem.W.cmp_K (op := .Eq) (tb := tb) (hr.mono hk).units0 hF I.ok.mod.kin J htb hnf hm.at_ hm.fn ?_
  refine wpAny_mono (run_fn (us := [.ref a, u]) (vs := [.ref a, y]) (dvs := []) (ds := []) F (hr.mono hk) b .nil passL I (.cons rfl (.cons ry .nil)) h) (fun r s' z => ?_) fun _ _ x => x
  obtain ⟨v, H', I', rv, bb, rfl, q⟩ := z
  cases rv
  exact ⟨.bl bb, H', I', rfl, q⟩
/-- len(o) by an own __len__ -/
def rLenO (C : Addr) (sp : Sp) : List V → Hp → VK → Prop := fun xs H Q => ∃ a dx fs, xs = [.ref a] ∧ H a = some (.ins C dx fs) ∧ sp [.ref a] H (fun v G => ∃ n : Int, v = .int n ∧ 0 ≤ n ∧ n < 2 ^ 63 ∧ Q (.int n) G) E0
theorem lenO (c : CanM X.prog X.w X.K X.mg X.base k C "__len__" sp) (hr : Room j X.A) (hk : k + 1 ≤ j) : CallR X (.builtin "len") (rLenO C sp) := by
  obtain ⟨f, fd, ps, F, hc, hm, b⟩ := c.ex
  intro pins s σ H xs us Q I r h
  obtain ⟨a, dx, fs, rfl, ha, h⟩ := h
  rw [Vals.ref1 r]
  obtain ⟨mA, J, _⟩ := ins_get I.hok ha
  obtain ⟨od, J, _⟩ := J.look
  obtain ⟨m, hF⟩ := I.fr
  refine PySem.W.len_K hF I.ok.mod.kin J hm.at_ hm.fn ?_
  have hr1 : Room k X.A.in1 := (hr.mono hk).in1
  have e0 : Env0 X.prog X.w X.K X.mg X.base X.A.in1 X.stack s H := by
    have e := I.env0
    exact ⟨e.frames, e.mod, e.bs, e.bsz, e.funs, e.frf, e.hok, e.bare⟩
  have hl := F.len _ _ _ _ h
  have bb := b s [.ref a] I.kIn (by simpa using hl)
  refine wpAny_call (codeAny_mono (F.run X.A.in1 X.stack s H ⟨[.ref a], []⟩ [.ref a] [.ref a] _ E0 hr1 e0 (by simpa using bb) (.cons rfl .nil) h) ?_)
  intro z s' hq
  cases z with
  | error e =>
    obtain ⟨_, _, _, _, _, _, _, _, _, _, _, _, y⟩ := hq
    exact y.elim
  | ok fl =>
    cases fl with
    | ret w =>
      obtain ⟨v, H', I', rz, n, rfl, h0, h1, q⟩ := I.after hq
      obtain ⟨t, rfl⟩ := rz
      exact ⟨⟨h0, h1⟩, .int n, H', I'.tok _, ⟨_, rfl⟩, q⟩
    | next => exact hq.elim
    | brk => exact hq.elim
    | cont => exact hq.elim
theorem vals_get : ∀ {xs : List V} {us : List Value}, xs.length = us.length → (∀ (i : Nat) x u, xs[i]? = some x → us[i]? = some u → RelV x u) → Vals xs us
  | [], [], _, _ => .nil
  | x :: xs, u :: us, h, f => .cons (f 0 x u rfl rfl) (vals_get (by simpa using h) fun i y v h1 h2 => f (i + 1) y v (by simpa using h1) (by simpa using h2))
/-- list(text) -/
theorem listS (hc : X.calm = true) : CallR X (.type "list") (fun xs H Q => ∃ l : List Nat, xs = [tx l] ∧ l.length ≤ 100000 ∧ ∀ p, H p = none → Q (.ref p) (upd H p (.lst (l.map fun x => tx [x])))) := by
  intro pins s σ H xs us Q I r h
  obtain ⟨l, rfl, hl, q⟩ := h
  cases r with
  | cons rx rr =>
    cases rr
    obtain ⟨t, rfl⟩ := rx
    refine call_list_str (I.ok.hd hc) (S l) t (hn := by show (S l).length ≤ _; rw [S_len]; exact szl hl) ?_
    intro h' tk acc c' hk hS hit
    refine ⟨.ref s.heap.objs.size, _, I.laid (t' := tk) (o := .lst (l.map fun x => tx [x])) hk (Nat.le_refl _) ?_, rfl, q _ (I.hok.fresh (Nat.le_refl _))⟩
    have hn : acc.toList.length = l.length := by
      rw [Array.length_toList, hit.1]
      exact S_len l
    refine ⟨szl (by rw [List.length_map]; exact hl), acc.toList, c', vals_get (by rw [List.length_map, hn]) ?_, hS⟩
    intro i v u hv hu
    obtain ⟨ch, t', h1, rfl⟩ := hit.2 i u (by rw [← Array.getElem?_toList]; exact hu)
    have h1 : l[i]? = some ch := by
      have z : (S l).cps[i]? = l[i]? := List.getElem?_toArray ..
      rw [← z]
      exact h1
    rw [List.getElem?_map, h1] at hv
    cases hv
    exact ⟨t', rfl⟩
end

/-! ### enumerate(xs, start=k) -/
def ItS (a : Addr) (k : Int) : It :=
  ⟨fun i G => ∃ (xs : List V) (x : V), G a = some (.lst xs) ∧ xs[i]? = some x, fun i G v G' => ∃ T x, v = .ref T ∧ G T = none ∧ G' = upd G T (.tup [.int (k + (i : Nat)), x]) ∧ ∀ xs, G a = some (.lst xs) → xs[i]? = some x, fun i G => ∃ xs : List V, G a = some (.lst xs) ∧ xs.length = i⟩
theorem turn_S {P : Program} {w : World} {K : PySem.W.Frag} {elts : List Expr} {kk : Nat} {tpos : Pos} (a e it : Addr) (k : Int) :
    Turn P w K (.Tuple elts kk tpos) (ItS a k) [e, it] e (fun i h => (∃ old, IsEnum h e it (k + ((i : Nat) : Int)) old) ∧ h.IsListIter it a i ∧ e ≠ it) where
  mem := by simp
  obj := by
    rintro i h ⟨⟨old, he⟩, ⟨o, ho, hc, hd⟩, _⟩ b hb
    have z : b = e ∨ b = it := by simpa using hb
    rcases z with rfl | rfl
    · exact ⟨_, he, fun v q => nomatch q⟩
    · exact ⟨o, ho, fun v q => by rw [hd] at q; cases q⟩
  keep := by
    rintro i h h' ⟨⟨old, he⟩, hi, hne⟩ k
    exact ⟨⟨old, k e (by simp) _ he⟩, hi.at fun o q => k it (by simp) o q, hne⟩
  item := by
    intro X hP hw hK hc i pins s σ H E I hf st hg
    subst hP hw hK
    obtain ⟨⟨old, he⟩, hit, hne⟩ := st
    obtain ⟨xs, x, hq, hx⟩ := hg
    obtain ⟨hzz, its, nn, rv, hl0⟩ := (show ObjOk X.prog X.w H s.heap a (.lst xs) from I.hok a _ hq)
    have hL : s.heap.IsList a its.toArray := ⟨_, hl0, rfl, nn, rfl⟩
    obtain ⟨u, hu, ru⟩ := rv.get hx
    have nai : a ≠ it := fun z => by
      have := (hf it (by simp)).1
      rw [← z, hq] at this
      cases this
    have nae : a ≠ e := fun z => by
      have := (hf e (by simp)).1
      rw [← z, hq] at this
      cases this
    have hlen : i < its.toArray.size := by
      have z := (List.getElem?_eq_some_iff.mp hx).1
      have y := rv.length
      rw [List.size_toArray]
      omega
    have le : e < s.heap.objs.size := Heap.lt_size he
    have li : it < s.heap.objs.size := by
      obtain ⟨_, q, _⟩ := hit
      exact Heap.lt_size q
    refine wpAny_pyNext_enum_itemC (Draws.list (A := X.A.in1) (show X.A.in1.handled = none from I.ok.hd hc) it a nai its.toArray) he ⟨hit, hL⟩ hlen hne (by simp [hne, Ne.symm nae]) ?_
    intro u' h' tk hu' ho hit' hT hsz hk
    obtain rfl : u' = u := by
      have z : its[i]? = some u' := by simpa using hu'
      rw [hu] at z
      exact (Option.some.inj z).symm
    refine ⟨_, rfl, wpAny_letOwnedTupleGo_enum (s := { s with heap := h', toks := tk + 1 }) ho ?_⟩
    intro h'' he' sb
    have hT2 : h''.get? s.heap.objs.size = some { cls := .type "tuple", data := .seq #[.int (k + (i : Nat)) tk, u'] } := (sb.2 _ (Nat.ne_of_gt le)).trans hT
    have new : ObjOk X.prog X.w (upd H s.heap.objs.size (.tup [.int (k + (i : Nat)), x])) h'' s.heap.objs.size (.tup [.int (k + (i : Nat)), x]) :=
      ⟨by show 2 ≤ sizeLine; decide, [.int (k + (i : Nat)) tk, u'], .cons ⟨_, rfl⟩ (.cons ru .nil), ⟨_, hT2, rfl, _, rfl⟩⟩
    have J : Inv X pins σ (upd H s.heap.objs.size (.tup [.int (k + (i : Nat)), x])) { s with heap := h'', toks := tk + 1 } :=
      I.turnedNew (ch := [e, it]) (fun b ob hb q => (sb.2 b (fun z => hb (by simp [z]))).trans (hk b ob (fun z => hb (by simp [z])) (fun z => hb (by simp [z])) q)) hf (Nat.le_refl _) new
    refine ⟨.ref s.heap.objs.size, _, J, rfl, ⟨_, x, rfl, I.hok.fresh (Nat.le_refl _), rfl, fun ys hy => by rw [hq] at hy; cases hy; exact hx⟩, ⟨⟨u', ?_⟩, hit'.1.at fun o q => (sb.2 it (Ne.symm hne)).trans q, hne⟩, ?_⟩
    · rw [show k + ((i + 1 : Nat) : Int) = k + (i : Int) + 1 by omega]
      exact he'
    · intro b hb
      have hb' : b < s.heap.objs.size := by
        have z : b = e ∨ b = it := by simpa using hb
        rcases z with rfl | rfl
        · exact le
        · exact li
      rw [upd_ne (Nat.ne_of_lt hb')]
      exact (hf b hb).1
  done := by
    intro X hP hw hK hc i pins s σ H E I hf st hg
    subst hP hw hK
    obtain ⟨⟨old, he⟩, hit, hne⟩ := st
    obtain ⟨xs, hq, hx⟩ := hg
    obtain ⟨hzz, its, nn, rv, hl0⟩ := (show ObjOk X.prog X.w H s.heap a (.lst xs) from I.hok a _ hq)
    have hL : s.heap.IsList a its.toArray := ⟨_, hl0, rfl, nn, rfl⟩
    obtain ⟨f0, f1, f2, f3, f4, f5⟩ := hf it (by simp)
    have hl := rv.length
    have nai : a ≠ it := fun z => by
      rw [← z, hq] at f0
      cases f0
    have nae : a ≠ e := fun z => by
      have := (hf e (by simp)).1
      rw [← z, hq] at this
      cases this
    have hz : its.toArray.size = i := by
      rw [List.size_toArray]
      omega
    subst hz
    exact wpAny_pyNext_enum_endD (Draws.list (A := X.A.in1) (show X.A.in1.handled = none from I.ok.hd hc) it a nai its.toArray) he ⟨hit, hL⟩ fun h' eb => ⟨rfl, I.turned (t' := s.toks) (fun b o hb q => eb b o hb q) f0 f1 f3 f4 f5⟩
  self := by
    rintro A i s Q E ⟨⟨_, he⟩, _⟩ h
    exact wpAny_pyIter_enum he h
theorem walk_S {a : Addr} {k : Int} {xs : List V} : Walk (ItS a k) xs.length (fun G => G a = some (.lst xs)) (YPair (fun i => some (.int (k + (i : Nat)))) (fun i => xs[i]?)) := by
  refine ⟨fun i G hi q => ⟨xs, xs[i], q, List.getElem?_eq_getElem hi⟩, fun G q => ⟨xs, q, rfl⟩, ?_⟩
  rintro i G v G' hi q ⟨T, x, rfl, hT, rfl, hx⟩
  exact ⟨T, _, x, rfl, hT, rfl, rfl, hx xs q⟩
def iEnumS (K : PySem.W.Frag) (t tk : TA) : TI := fun σ H R => t σ H fun vs G => tk σ G fun zs G' => ∃ a xs k, vs = [.ref a] ∧ zs = [.int k] ∧ -(2 ^ 63) ≤ k ∧ k < 2 ^ 63 ∧ G' a = some (.lst xs) ∧ R (ItS a k) G'
theorem kws_type {M : Model} {A : Around} {E : Value → Shared → Prop} {s : Shared} {pos : Pos} {T : String} {args : List (Bool × Sem Value)} {keywords : List (Option Str × Sem Value)} {Q : Value → Shared → Prop}
    (hplain : args.any (·.1) = false) (hkw : keywords.any (·.1.isNone) = false) (h : wpAny M A (evalArgs (.type T) true args keywords) (fun a s₁ => wpAny M A (call (.type T) a.pos a.kw) Q E s₁) E s) : wpAny M A (callWith pos (.type T) [] args keywords) Q E s := by
  unfold callWith
  refine wpAny_bind (wpAny_holding (wpAny_mono h ?_ fun _ _ x => x))
  intro a s₁ h₁
  refine wpAny_bind (wpAny_standAt ?_)
  simp only [hplain, hkw, Bool.or_false]
  refine wpAny_bind (wpAny_pure ?_)
  exact wpAny_bind (wpAny_mono h₁ (fun r s₂ hr => wpAny_bind (wpAny_holding (wpAny_point (wpAny_pure hr)))) fun _ _ x => x)
theorem pi_enumS {X : Cx} {e : Expr} {t tk : TA} {p pos tpos kp : Pos} {elts : List Expr} {kk : Nat} {kv : Expr} (hg : Gl X "enumerate") (hm : X.mg "enumerate" = none) (ha : PA X [e] t) (hk : PK X [⟨some "start", kv, kp⟩] tk)
    (he : backTo pos (starEach [e] X.env) = (false, eval e X.env) :: backTo pos (starEach [] X.env) := by rfl) (hpl : (backTo pos (starEach [e] X.env)).any (·.1) = false := by rfl)
    (hall : (backToKw pos (keywordEach [⟨some "start", kv, kp⟩] X.env)).all (·.1.isSome) = true := by rfl) (hnone : (backToKw pos (keywordEach [⟨some "start", kv, kp⟩] X.env)).any (·.1.isNone) = false := by rfl)
    (hks : (backToKw pos (keywordEach [⟨some "start", kv, kp⟩] X.env)).filterMap (·.1) = [("start" : Str)] := by rfl) :
    PI X (.Tuple elts kk tpos) (.Call (.Name "enumerate" p) [e] [⟨some "start", kv, kp⟩] pos) (iEnumS X.K t tk) := by
  constructor
  intro pins s σ H R I h
  refine wpAny_Call_Name_kw (ld_blt I hg hm boot_enumerate ?_ (by decide) (by decide))
  refine kws_type hpl hnone ?_
  have run := thn (ha.run pos pins s σ H _ I h) fun us s1 (z : AP X pins σ _ us s1) => (show wpAny (model X.prog X.w) X.A (evalAll ((backToKw pos (keywordEach [⟨some "start", kv, kp⟩] X.env)).map (·.2))) (fun ws s2 => wpAny (model X.prog X.w) X.A (call (.type "enumerate") us ([("start" : Str)].zip ws))
      (fun v s1 => wpAny (model X.prog X.w) X.A (pyIter v) (PIE X pins σ (.Tuple elts kk tpos) R) X.xe s1) X.xe s2) X.xe s1 from by
    obtain ⟨vs, G, I1, r1, q1⟩ := z
    refine thn (hk.run pos pins s1 σ G _ I1 q1) ?_
    rintro ws s2 ⟨zs, G', I2, r2, a, xs, k, rfl, rfl, hk0, hk1, hq, q⟩
    cases r1 with
    | cons ra rr =>
      cases rr
      cases ra
      cases r2 with
      | cons rk rr =>
        cases rr
        obtain ⟨tk', rfl⟩ := rk
        obtain ⟨hzz, its, nn, rv, hl0⟩ := (show ObjOk X.prog X.w G' s2.heap a (.lst xs) from I2.hok a _ hq)
        have hL : s2.heap.IsList a its.toArray := ⟨_, hl0, rfl, nn, rfl⟩
        refine enum_begins_start (begins_list a its.toArray) hL hk0 hk1 ?_
        intro h' hen hit hsz hkeep
        refine wpAny_pyIter_enum hen ?_
        have J : Inv X pins σ G' { s2 with heap := h' } := I2.kept (t' := s2.toks) hkeep
        refine ⟨s2.heap.objs.size + 1, [s2.heap.objs.size + 1, s2.heap.objs.size], _, _, G', rfl, J, turn_S a (s2.heap.objs.size + 1) s2.heap.objs.size k, ⟨⟨.none, by simpa using hen⟩, ⟨_, hit, rfl, rfl⟩, Nat.succ_ne_self _⟩, ?_, q⟩
        intro b hb
        have z : b = s2.heap.objs.size + 1 ∨ b = s2.heap.objs.size := by simpa using hb
        have hle : s2.heap.objs.size ≤ b := by
          rcases z with z | z
          · rw [z]
            exact Nat.le_succ _
          · rw [z]
            exact Nat.le_refl _
        exact I2.fpOk hle (I2.hok.fresh hle))
  rw [he] at run ⊢
  refine PyProof.Rows.evalArgs_kwB hall ?_
  rw [hks]
  exact run
end Kit

end
section
set_option Elab.async false
set_option linter.all false
set_option maxRecDepth 100000
set_option maxHeartbeats 4000000
namespace Kit
open PySem PySem.Spec PyProof.Rows L2
/-! ### own two-place operators, str(o), o(..), classmethods, a class in a name -/
section
variable {X : Cx} {C : Addr} {k j : Nat} {sp : Sp} {m : Str}
def rOpO (C : Addr) (sp : Sp) : R2 := fun x y H Q => ∃ a dx fs b dy gs, x = .ref a ∧ H a = some (.ins C dx fs) ∧ y = .ref b ∧ H b = some (.ins C dy gs) ∧ sp [x, y] H (fun v G => (∃ p, v = .ref p) ∧ Q v G) E0
theorem opO {op : Operator} (c : CanM X.prog X.w X.K X.mg X.base k C m sp) (hr : Room j X.A) (hk : k ≤ j) (hc : PySem.W.selfFirst X.K C = true) (hd : PySem.dunder op.info.2 = m := by decide +kernel) : OpR X (binaryOp op) (rOpO C sp) := by
  obtain ⟨f, fd, ps, F, hcl, hm, b⟩ := c.ex
  subst hd
  intro pins s σ H x y v u Q I rx ry hq
  obtain ⟨a, dx, fs, b', dy, gs, rfl, ha, rfl, hb, h⟩ := hq
  cases rx
  cases ry
  obtain ⟨mA, J, _⟩ := ins_get I.hok ha
  obtain ⟨od, J, _⟩ := J.look
  obtain ⟨mB, J', _⟩ := ins_get I.hok hb
  obtain ⟨od', J', _⟩ := J'.look
  obtain ⟨mm, hF⟩ := I.fr
  refine PySem.W.binop_K hF I.ok.mod.kin J J'.type hc hm.at_ hm.fn ?_
  refine wpAny_mono (run_fn (us := [.ref a, .ref b']) (vs := [.ref a, .ref b']) (dvs := []) (ds := []) F (hr.mono hk) b .nil passL I (.cons rfl (.cons rfl .nil)) h) (fun r s' z => ?_) fun _ _ x => x
  obtain ⟨v, H', I', rv, ⟨p, rfl⟩, q⟩ := z
  cases rv
  exact ⟨.ref p, H', I', rfl, q⟩
/-- .. that may raise, the wish at the slots -/
def tOpS (C : Addr) (sp : Sp) (W : WX) (ta tb : TE) : TE := fun σ H Q => ta σ H fun x H1 => tb σ H1 fun y H2 => ∃ a dx fs b dy gs, x = .ref a ∧ H2 a = some (.ins C dx fs) ∧ y = .ref b ∧ H2 b = some (.ins C dy gs) ∧ sp [x, y] H2 (fun v G => (∃ p, v = .ref p) ∧ Q v G) (WE W σ)
theorem pe_opS {op : Operator} {W : WX} {a b : Expr} {ta tb : TE} {pos : Pos} (c : CanM X.prog X.w X.K X.mg X.base k C m sp) (tk : Takes X W) (hr : Room j X.A) (hk : k ≤ j) (hc : PySem.W.selfFirst X.K C = true) (ha : PE X a ta) (hb : PE X b tb)
    (hd : PySem.dunder op.info.2 = m := by decide +kernel) : PE X (.BinOp a op b pos) (tOpS C sp W ta tb) := by
  obtain ⟨f, fd, ps, F, hcl, hm, b⟩ := c.ex
  subst hd
  refine ⟨fun pins s σ H Q I h => ?_⟩
  refine wpAny_BinOp (binT ha hb I h fun v u s2 x y H2 I2 rx ry q => ?_)
  obtain ⟨a, dx, fs, b', dy, gs, rfl, ha, rfl, hb, h⟩ := q
  cases rx
  cases ry
  obtain ⟨mA, J, _⟩ := ins_get I2.hok ha
  obtain ⟨od, J, _⟩ := J.look
  obtain ⟨mB, J', _⟩ := ins_get I2.hok hb
  obtain ⟨od', J', _⟩ := J'.look
  obtain ⟨mm, hF⟩ := I2.fr
  refine PySem.W.binop_K hF I2.ok.mod.kin J J'.type hc hm.at_ hm.fn ?_
  refine wpAny_mono (run_fnS (us := [.ref a, .ref b']) (vs := [.ref a, .ref b']) F (hr.mono hk) b (passAt tk σ) I2 (.cons rfl (.cons rfl .nil)) h) (fun r s' z => ?_) fun _ _ x => x
  obtain ⟨v, H', I', rv, ⟨p, rfl⟩, q⟩ := z
  cases rv
  exact ⟨.ref p, H', I', rfl, q⟩
/-- str(o) by an own __str__ -/
def rStrO (C : Addr) (sp : Sp) : List V → Hp → VK → Prop := fun xs H Q => ∃ a dx fs, xs = [.ref a] ∧ H a = some (.ins C dx fs) ∧ sp [.ref a] H (fun v G => ∃ z : Str, v = .str z ∧ Q (.str z) G) E0
theorem strO (c : CanM X.prog X.w X.K X.mg X.base k C "__str__" sp) (hr : Room j X.A) (hk : k + 2 ≤ j) : CallR X (.type "str") (rStrO C sp) := by
  obtain ⟨f, fd, ps, F, hc, hm, b⟩ := c.ex
  intro pins s σ H xs us Q I r h
  obtain ⟨a, dx, fs, rfl, ha, h⟩ := h
  rw [Vals.ref1 r]
  obtain ⟨mA, J, _⟩ := ins_get I.hok ha
  obtain ⟨od, J, _⟩ := J.look
  have hr1 : Room k X.A.in1.in1 := (hr.mono hk).in1.in1
  refine PySem.W.kso_call hr1.units0 I.kIn J hm.at_ hm.fn ?_
  have e0 : Env0 X.prog X.w X.K X.mg X.base X.A.in1.in1 X.stack s H := by
    have e := I.env0
    exact ⟨e.frames, e.mod, e.bs, e.bsz, e.funs, e.frf, e.hok, e.bare⟩
  have hl := F.len _ _ _ _ h
  have bb := b s [.ref a] I.kIn (by simpa using hl)
  refine wpAny_call (codeAny_mono (F.run X.A.in1.in1 X.stack s H ⟨[.ref a], []⟩ [.ref a] [.ref a] _ E0 hr1 e0 (by simpa using bb) (.cons rfl .nil) h) ?_)
  intro z s' hq
  cases z with
  | error e =>
    obtain ⟨_, _, _, _, _, _, _, _, _, _, _, _, y⟩ := hq
    exact y.elim
  | ok fl =>
    cases fl with
    | ret w =>
      obtain ⟨v, H', I', rz, z, rfl, q⟩ := I.after hq
      obtain ⟨t, rfl⟩ := rz
      exact ⟨.str z, H', I', ⟨_, rfl⟩, q⟩
    | next => exact hq.elim
    | brk => exact hq.elim
    | cont => exact hq.elim
end
section
variable (P : Program) (w : World) (K : PySem.W.Frag) (mg : Str → Option Value) (base : Heap)
structure CanF (k : Nat) (C : Addr) (m : Str) (sp : Sp) : Prop where
  ex : ∃ (f : Addr) (fd : FuncData) (ps : List Str), FnOk P w K mg base (L2.CX P w) k f fd ps sp ∧ Cls K C ∧ Meth K C m f ∧ Binds K fd ps [] ∧ PySem.W.fnIn K f = true
structure CanC (k : Nat) (C : Addr) (m : Str) (sp : Sp) : Prop where
  ex : ∃ (mc : Value) (p g : Addr) (fd : FuncData) (ps : List Str), FnOk P w K mg base (L2.CX P w) k g fd ps sp ∧ ClX.CRead K C mc ∧ ClX.CMet K C mc m p g ∧ Binds K fd ps []
end
/-- a classmethod as it stands in the text -/
structure CmT (K : PySem.W.Frag) (C : Addr) (m q : Str) (st : Stmt) : Prop where
  ex : ∃ (mc : Value) (p g : Addr) (fd : FuncData), Fun K m q st g fd ∧ ClX.CRead K C mc ∧ ClX.CMet K C mc m p g
section
variable {P : Program} {w : World} {K : PySem.W.Frag} {mg : Str → Option Value} {base : Heap}
theorem fnIn_of {x q : Str} {st : Stmt} {f : Addr} {fd : FuncData} (F : Fun K x q st f fd) : PySem.W.fnIn K f = true := by
  obtain ⟨oc, od, kV, doc, pm, an, cdv, ct, osl, rfl, lk, hcd⟩ := F.ex
  unfold PySem.W.fnIn
  rw [lk]
theorem canF_of {m q : Str} {C : Addr} {st : Stmt} {N ps : List Str} {k : Nat} {sp : Sp} (c : Cls K C) (D : MetT K C m q st) (S : FnScope N ps (defScope st)) (hb : BindsPlain st m q ps) (len : ∀ vs H Q E, sp vs H Q E → vs.length = ps.length)
    (body : ∀ (f : Addr) (cdv : Value) (A : Around) (outer : List Env) (s : Shared) (H : Hp) (vs : List V) (Q : VK) (E : XK), Room k (A.deeper (envOfC q (defScope st) s.heap.objs.size f cdv)) → sp vs H Q E →
      ∃ t, PSs (cxOf (L2.CX P w) P w K mg base N q (defScope st) f cdv A outer s H E) (defBody st) t ∧ t { nx := fun _ H' => Q .non H', rt := Q } (start N vs) H) : CanF P w K mg base (k + 1) C m sp := by
  obtain ⟨f, fd, F, g⟩ := D.ex
  exact ⟨f, fd, ps, F.okX S len (body f), c, g, F.binds hb, fnIn_of F⟩
theorem canC_of {m q : Str} {C : Addr} {st : Stmt} {N ps : List Str} {k : Nat} {sp : Sp} (D : CmT K C m q st) (S : FnScope N ps (defScope st)) (hb : BindsPlain st m q ps) (len : ∀ vs H Q E, sp vs H Q E → vs.length = ps.length)
    (body : ∀ (f : Addr) (cdv : Value) (A : Around) (outer : List Env) (s : Shared) (H : Hp) (vs : List V) (Q : VK) (E : XK), Room k (A.deeper (envOfC q (defScope st) s.heap.objs.size f cdv)) → sp vs H Q E →
      ∃ t, PSs (cxOf (L2.CX P w) P w K mg base N q (defScope st) f cdv A outer s H E) (defBody st) t ∧ t { nx := fun _ H' => Q .non H', rt := Q } (start N vs) H) : CanC P w K mg base (k + 1) C m sp := by
  obtain ⟨mc, p, g, fd, F, r, c⟩ := D.ex
  exact ⟨mc, p, g, fd, ps, F.okX S len (body g), r, c, F.binds hb⟩
end
section
variable {X : Cx} {k j i : Nat} {C : Addr} {x m : Str} {sp : Sp} {W : WX} {p pos apos : Pos} {e o fe : Expr} {es : List Expr} {ta tf : TE} {t : TA}
theorem codeS {f : Addr} {fd : FuncData} {ps : List Str} {pins : List (Addr × Obj)} {σ : St} {H : Hp} {s : Shared} {Q : VK} {us : List Value} {vs : List V} (F : FnOk X.prog X.w X.K X.mg X.base (L2.CX X.prog X.w) k f fd ps sp) (hr : Room k X.A) (hb : Binds X.K fd ps []) (tk : Takes X W)
    (I : Inv X pins σ H s) (r : Vals vs us) (h : sp vs H Q (WE W σ)) : codeAny (model X.prog X.w) X.A (.call (.ref f) ⟨us, []⟩) (fun r s' => match r with | .ok (.ret v) => EP X pins σ Q v s' | .ok _ => False | .error e => X.xe e s') s := by
  have hl : us.length = ps.length := by rw [← r.length]; exact F.len _ _ _ _ h
  have b := hb s us I.kIn (by rw [List.append_nil]; exact hl)
  rw [List.append_nil] at b
  refine codeAny_mono (F.run X.A X.stack s H ⟨us, []⟩ us vs Q (WE W σ) hr I.env0 b r h) fun r s' hq => ?_
  cases r with
  | error e => exact passAt tk σ pins H s e s' I hq
  | ok fl =>
    cases fl with
    | ret v => exact I.after hq
    | next => exact hq.elim
    | brk => exact hq.elim
    | cont => exact hq.elim
/-- o(e, ..) by an own __call__ -/
def tCallOS (X : Cx) (C : Addr) (sp : Sp) (W : WX) (tf : TE) (t : TA) : TE := fun σ H Q => tf σ H fun y H1 => ∃ a, y = V.ref a ∧ t σ H1 fun vs H2 => (∃ dx fs, H2 a = some (.ins C dx fs)) ∧ sp (V.ref a :: vs) H2 Q (WE W σ)
theorem pc_cS (c : CanF X.prog X.w X.K X.mg X.base k C "__call__" sp) (tk : Takes X W) (hr : Room j X.A) (hk : k ≤ j) (hf : PE X fe tf) (ha : PA X (e :: es) t)
    (ht : eval (.Call fe (e :: es) [] pos) X.env = (do callWith pos (← eval fe X.env) [] (backTo pos (starEach (e :: es) X.env)) (backToKw pos (keywordEach [] X.env))) := by rfl)
    (he : starEach (e :: es) X.env = (false, eval e X.env) :: starEach es X.env := by rfl) (hpl : (backTo pos (starEach es X.env)).any (·.1) = false := by rfl) : PE X (.Call fe (e :: es) [] pos) (tCallOS X C sp W tf t) := by
  obtain ⟨f, fd, ps, F, hcl, hm, b, hfn⟩ := c.ex
  refine ⟨fun pins s σ H Q I h => ?_⟩
  refine Call_ (thn (hf.run pins s σ H _ I h) fun u s1 ⟨y, H1, I1, ry, a, ey, q⟩ => ?_) ht
  subst ey
  obtain rfl : u = Value.ref a := ry
  refine StX.callO_with (thn (ha.run pos pins s1 σ H1 _ I1 q) fun us s2 ⟨vs, H2, I2, r, hi, q2⟩ => ?_) he hpl
  have hi2 : StX.InsC X H2 a C := .inr hi
  obtain ⟨ox, od, J, hd⟩ := StX.insC_at I2 hi2
  exact ⟨⟨C, ox, od, J, hd⟩, wpAny_call (PySem.W.kco_code I2.kIn J hd hm.at_ hm.fn hfn (codeS (us := .ref a :: us) (vs := .ref a :: vs) F (hr.mono hk) b tk I2 (.cons rfl r) q2))⟩
def tCallO0 (X : Cx) (C : Addr) (sp : Sp) (tf : TE) (t : TA) : TE := fun σ H Q => tf σ H fun y H1 => ∃ a, y = V.ref a ∧ t σ H1 fun vs H2 => (∃ dx fs, H2 a = some (.ins C dx fs)) ∧ sp (V.ref a :: vs) H2 Q E0
theorem pc_c (c : CanF X.prog X.w X.K X.mg X.base k C "__call__" sp) (hr : Room j X.A) (hk : k ≤ j) (hf : PE X fe tf) (ha : PA X (e :: es) t)
    (ht : eval (.Call fe (e :: es) [] pos) X.env = (do callWith pos (← eval fe X.env) [] (backTo pos (starEach (e :: es) X.env)) (backToKw pos (keywordEach [] X.env))) := by rfl)
    (he : starEach (e :: es) X.env = (false, eval e X.env) :: starEach es X.env := by rfl) (hpl : (backTo pos (starEach es X.env)).any (·.1) = false := by rfl) : PE X (.Call fe (e :: es) [] pos) (tCallO0 X C sp tf t) := by
  obtain ⟨f, fd, ps, F, hcl, hm, b, hfn⟩ := c.ex
  refine ⟨fun pins s σ H Q I h => ?_⟩
  refine Call_ (thn (hf.run pins s σ H _ I h) fun u s1 ⟨y, H1, I1, ry, a, ey, q⟩ => ?_) ht
  subst ey
  obtain rfl : u = Value.ref a := ry
  refine StX.callO_with (thn (ha.run pos pins s1 σ H1 _ I1 q) fun us s2 ⟨vs, H2, I2, r, hi, q2⟩ => ?_) he hpl
  have hi2 : StX.InsC X H2 a C := .inr hi
  obtain ⟨ox, od, J, hd⟩ := StX.insC_at I2 hi2
  have F' : FnR X.prog X.w X.K X.mg X.base (L2.CX X.prog X.w) k f (fun vs H Q E => sp (vs ++ []) H Q E) := F.raw b .nil
  exact ⟨⟨C, ox, od, J, hd⟩, wpAny_call (PySem.W.kco_code I2.kIn J hd hm.at_ hm.fn hfn (run_fnR (us := .ref a :: us) (vs := .ref a :: vs) F' (hr.mono hk) passL I2 (.cons rfl r) (by rw [List.append_nil]; exact q2)))⟩
/-- C.m(e, ..), m a classmethod -/
def tCmS (C : Addr) (sp : Sp) (W : WX) (ta : TE) (t : TA) : TE := fun σ H Q => ta σ H fun x H1 => x = .ref C ∧ t σ H1 fun vs H2 => sp (.ref C :: vs) H2 Q (WE W σ)
theorem pc_cmS {pl : Sem Bool} (c : CanC X.prog X.w X.K X.mg X.base k C m sp) (tk : Takes X W) (hr : Room j X.A) (hk : k ≤ j) (he : PE X o ta) (ha : PA X (e :: es) t)
    (hst : starEach (e :: es) X.env = (false, eval e X.env) :: starEach es X.env := by rfl) (hpl : (backTo pos (starEach es X.env)).any (·.1) = false := by rfl)
    (ht : eval (.Call (.Attribute o m apos) (e :: es) [] pos) X.env = (do
      let ov ← eval o X.env
      standAt apos.atName
      let (f, first) ← holding [ov] (getMethod ov m pl)
      callWith pos f first (backTo pos (starEach (e :: es) X.env)) (backToKw pos (keywordEach [] X.env))) := by rfl) :
    PE X (.Call (.Attribute o m apos) (e :: es) [] pos) (tCmS C sp W ta t) := by
  obtain ⟨mc, pp, g, fd, ps, F, r, cm, b⟩ := c.ex
  refine ⟨fun pins s σ H Q I h => ?_⟩
  refine PySem.W.methodCall_KW (pl := pl) (thn (he.run pins s σ H _ I h) fun u s1 ⟨x, H1, I1, rx, ex, q⟩ => ?_) ht
  subst ex
  obtain rfl : u = Value.ref C := rx
  refine ClX.getmethcm_ok I1 r cm fun s2 I2 => ?_
  refine ClX.callwith_cm I2 (ClX.base_none I1 (Nat.le_refl _)) cm.fi (thn (ha.run pos _ s2 σ H1 _ I2 q) fun us s3 ⟨vs, H3, I3, r3, q3⟩ => ?_) hst hpl
  refine ⟨⟨ClX.pin_at I3, I3.kIn⟩, ?_⟩
  have z : wpAny (model X.prog X.w) X.A (call (.ref s1.heap.objs.size) us) (EP X ((s1.heap.objs.size, PySem.W.methodObj (.ref g) (.ref C)) :: pins) σ Q) X.xe s3 :=
    wpAny_call (PySem.W.method_call (ClX.pin_at I3) (codeS (us := .ref C :: us) (vs := .ref C :: vs) F (hr.mono hk) b tk I3 (.cons rfl r3) q3))
  exact thn z fun _ _ y => ClX.unpinE y
def tCm0 (C : Addr) (sp : Sp) (ta : TE) (t : TA) : TE := ClX.tCMeth C (fun vs H Q E => sp (vs ++ []) H Q E) E0 ta t
theorem pc_cm {pl : Sem Bool} (c : CanC X.prog X.w X.K X.mg X.base k C m sp) (hr : Room j X.A) (hk : k ≤ j) (he : PE X o ta) (ha : PA X (e :: es) t)
    (hst : starEach (e :: es) X.env = (false, eval e X.env) :: starEach es X.env := by rfl) (hpl : (backTo pos (starEach es X.env)).any (·.1) = false := by rfl)
    (ht : eval (.Call (.Attribute o m apos) (e :: es) [] pos) X.env = (do
      let ov ← eval o X.env
      standAt apos.atName
      let (f, first) ← holding [ov] (getMethod ov m pl)
      callWith pos f first (backTo pos (starEach (e :: es) X.env)) (backToKw pos (keywordEach [] X.env))) := by rfl) :
    PE X (.Call (.Attribute o m apos) (e :: es) [] pos) (tCm0 C sp ta t) := by
  obtain ⟨mc, pp, g, fd, ps, F, r, cm, b⟩ := c.ex
  exact ClX.pe_cmeth (pl := pl) he r cm (F.raw b .nil) (hr.mono hk) passL ha hst hpl ht
/-- cls(e, ..), the class at C in the slot i -/
def tMakeV (i : Nat) (C : Addr) (sp : Sp) (W : WX) (t : TA) : TE := fun σ H Q => σ[i]? = some (some (.ref C)) ∧ tMakeS C sp W t σ H Q
theorem pc_nV {n : Str} (c : CanN X.prog X.w X.K X.mg X.base k C n sp) (tk : Takes X W) (hr : Room j X.A) (hk : k + 1 ≤ j) (hN : X.N[i]? = some x) (hv : Vis X.env.scope x) (ha : PA X (e :: es) t)
    (hdb : (x == ("__debug__" : Str)) = false := by decide) (hcd : (x == ("__classdict__" : Str)) = false := by decide) (he : starEach (e :: es) X.env = (false, eval e X.env) :: starEach es X.env := by rfl) (hpl : (backTo pos (starEach es X.env)).any (·.1) = false := by rfl) :
    PE X (.Call (.Name x p) (e :: es) [] pos) (tMakeV i C sp W t) := by
  obtain ⟨f, fd, ps, F, M, hm, b⟩ := c.ex
  have hr := hr.mono hk
  constructor
  intro pins s σ H Q I h
  obtain ⟨hs, h⟩ := h
  refine wpAny_Call_Name_kw (thn ((pe_var (pos := p) hN hv hdb hcd).run pins s σ H (fun v H1 => v = .ref C ∧ H1 = H) I ⟨.ref C, hs, rfl, rfl⟩) fun u s0 ⟨v, H1, I0, r1, q1⟩ => ?_)
  obtain ⟨rfl, rfl⟩ := q1
  cases r1
  refine PySem.W.callWith_K (h₀ := X.base) I0.ok.mod.kin M.kp (thn (ha.run pos pins s0 σ _ _ I0 h) ?_) he hpl
  rintro us s1 ⟨vs, G, I1, r, q⟩
  refine ⟨I1.kIn, ?_⟩
  have hq := q (s1.heap.objs.size + 1) s1.heap.objs.size (I1.hok.fresh (Nat.le_succ _)) (I1.hok.fresh (Nat.le_refl _)) (Nat.ne_of_lt (Nat.lt_succ_self _))
  have J := Inv.made (C := C) I1
  have r2 : Vals (V.ref (s1.heap.objs.size + 1) :: vs) (Value.ref (s1.heap.objs.size + 1) :: us) := .cons rfl r
  have hl : (Value.ref (s1.heap.objs.size + 1) :: us ++ []).length = ps.length := by
    have z := r2.length
    rw [F.len _ _ _ _ hq] at z
    rw [List.append_nil]
    exact z.symm
  have bb := b _ (Value.ref (s1.heap.objs.size + 1) :: us) J.kIn hl
  rw [List.append_nil] at bb
  refine wpAny_call (make_map (f := f) I1.kIn M.makes M.init (beq_iff_eq.mp M.fn) (codeAny_mono (F.run _ X.stack _ _ ⟨Value.ref (s1.heap.objs.size + 1) :: us, []⟩ (Value.ref (s1.heap.objs.size + 1) :: us) _ _ (WE W σ) (hr.make C us []) (J.env0.make C us []) bb r2 hq) ?_))
  intro r s' z
  cases r with
  | error er => exact passAt tk σ pins _ _ er s' J z
  | ok fl =>
    cases fl with
    | ret u =>
      obtain ⟨v, H', I3, rv, ev, q3⟩ := J.after z
      subst ev
      exact ⟨rv, V.ref (s1.heap.objs.size + 1), H', I3, rfl, q3⟩
    | next => exact z.elim
    | brk => exact z.elim
    | cont => exact z.elim
end
end Kit

end
section
set_option Elab.async false
set_option linter.all false
set_option maxRecDepth 100000
set_option maxHeartbeats 4000000
namespace Kit
open PySem PySem.Spec PyProof.Rows L2
/-! ### sorted(text) -/
section
variable {X : Cx}
theorem sortT (hcalm : X.calm = true) : CallR X (.builtin "sorted") (fun xs H Q => ∃ l : List Nat, xs = [tx l] ∧ l.length < 64 ∧ ∀ (ys : List Str) (p : Addr), ys.Perm (l.map fun x => S [x]) → sortedS ys = true → H p = none → Q (.ref p) (upd H p (.lst (ys.map V.str)))) := by
  intro pins s σ H xs us Q I r q
  obtain ⟨l, rfl, h64, q⟩ := q
  obtain ⟨u, rfl, t, rfl⟩ := vals1 r
  refine Calls.call_function_entry PyProof.Rows.kind_sorted PyProof.Rows.plain_sorted PyProof.Rows.entry_sorted (PyProof.Rows.args_sorted1 _) ?_
  unfold Builtin.«sorted»
  refine wpAny_bind (m := checkCount "sorted" 1 1 _) (wpAny_pure ?_)
  have hsz : (S l).cps.size = l.length := S_len l
  refine wpAny_bind (wpAny_collect_str (A := X.A.in1) (I.ok.hd hcalm) (S l) t (hn := by rw [hsz, sizeLine_eq]; omega) fun s' acc hk hg hdr hos hacc => ?_)
  have hal : acc.toList.length = l.length := by rw [Array.length_toList, hacc.1, hsz]
  have hS : StrsAre acc.toList (l.map fun x => S [x]) := strs_at (by rw [hal, List.length_map]) fun j v e => by
    obtain ⟨c, tk, e1, rfl⟩ := hacc.2 j v (by rw [← Array.getElem?_toList]; exact e)
    refine ⟨S [c], tk, ?_, rfl⟩
    have e1' : l[j]? = some c := by
      rw [← Array.getElem?_toList] at e1
      exact e1
    rw [List.getElem?_map, e1']
    rfl
  obtain ⟨h', g', d', tk', os'⟩ := s'
  have eg : g' = s.gens := hg
  have ed : d' = s.drawn := hdr
  have eo : os' = s.os := hos
  subst eg; subst ed; subst eo
  have I1 : Inv X pins σ H { s with heap := h', toks := tk' } := I.kept hk
  refine wpAny_bind (wpAny_newList ?_ (by rw [hal, sizeLine_eq]; omega))
  have hoL : (h'.push (seqObj "list" acc.toList.toArray 0)).get? h'.objs.size = some (seqObj "list" acc.toList.toArray 0) := Heap.get?_push_size _ rfl
  show wpAny _ _ _ _ _ { s with heap := h'.push (seqObj "list" acc.toList.toArray 0), toks := tk' }
  refine wpAny_bind (wpAny_holding (wpAny_call_entry PyProof.Rows.slot_list_sort ⟨_, hoL, rfl⟩ PyProof.Rows.entry_list_sort
    (list_sort_treeK strKind_oneLt (s := { s with heap := h'.push (seqObj "list" acc.toList.toArray 0), toks := tk' }) hoL hS.keysOf (fun v₁ v₂ rest e => keyKind_strs (by rw [← e]; exact hS)) (by rw [hal]; exact h64) fun st' hp hs => ⟨_, rfl, ?_⟩)
    (PyProof.Rows.args_list_sort _)))
  obtain ⟨ys, g1, g2, g3⟩ := sorted_out_str hS hp hs
  obtain ⟨e', he'⟩ := PyProof.Rows.sortedHeap_at (vs := acc.toList) (out := (arrOf st').map (·.2)) hoL
  have hlen : (ys.map V.str).length ≤ sizeLine := by
    rw [List.length_map, g2.length_eq, List.length_map]
    exact Nat.le_trans (Nat.le_of_lt h64) (by decide)
  refine wpAny_pure ⟨_, rfl, .ref h'.objs.size, upd H h'.objs.size (.lst (ys.map V.str)), I1.laid (t' := tk') (fun b u e => ?_) (Nat.le_refl _)
    (show ObjOk X.prog X.w _ _ _ (.lst (ys.map V.str)) from ⟨hlen, ((arrOf st').map (·.2)).toList, e', vals_of_strs g1, by rw [Array.toArray_toList]; exact he'⟩), rfl, q ys _ g2 g3 (I1.hok.fresh (Nat.le_refl _))⟩
  have hb : b < h'.objs.size := Heap.lt_size e
  rw [PyProof.Rows.sortedHeap_old (Nat.ne_of_lt hb) (by rw [size_push']; exact Nat.lt_succ_of_lt hb)]
  exact Heap.get?_push_of_some _ e
end
/-! ### len(set(text)) -/
section
variable {prog : Program} {w : World} {A : Around} {R : Result → Shared → Prop} {I : Addr} {fp wr : List Addr} {G : Array GenState → Array GenState → Prop} {n : Nat} {x : Str} {St : Nat → Shared → Prop}
def one1 (c : Nat) : Str := ⟨#[c]⟩
theorem one1_inj {c d : Nat} (h : one1 c = one1 d) : c = d := by
  have q : [c] = [d] := congrArg (fun y : Str => y.cps.toList) h
  exact (List.cons.inj q).1
theorem mem_one1 {acc : List Nat} {c : Nat} : decide (one1 c ∈ acc.map one1) = decide (c ∈ acc) := by
  by_cases h : c ∈ acc
  · rw [decide_eq_true h, decide_eq_true (List.mem_map_of_mem h)]
  · rw [decide_eq_false h, decide_eq_false]
    intro q
    obtain ⟨d, hd, e⟩ := List.mem_map.mp q
    exact h (one1_inj e ▸ hd)
theorem loopTx (W : WalksS prog w A.in1 I fp wr G n (SignAt x) St) (P : Addr) (hPf : P ∉ fp) (hsz : x.cps.size = n) (hn1 : n ≤ 1000) :
    ∀ (k i : Nat) (s : Shared) (acc : List Nat), n - i = k → i ≤ n → St i s → acc.Nodup → (∀ c, c ∈ acc ↔ c ∈ x.cps.toList.take i) → acc.length ≤ i →
      s.heap.SetOf (PySem.strKind prog w) P (fun k' => decide (k' ∈ acc.map one1)) acc.length →
      (∀ (s' : Shared) (acc' : List Nat), Moved (P :: wr) G s s' → acc'.Nodup → (∀ c, c ∈ acc' ↔ c ∈ x.cps.toList) → acc'.length ≤ n → s'.heap.SetOf (PySem.strKind prog w) P (fun k' => decide (k' ∈ acc'.map one1)) acc'.length → R (.ok (.ret .none)) s') →
      codeAny (model prog w) A (.builtin "set.update.loop" ⟨[.ref P, .ref I], []⟩) R s := by
  have hPw : P ∉ wr := fun h => hPf (W.sub _ h)
  have hsub : ∀ b ∈ wr, b ∈ P :: wr := fun b hb => List.mem_cons_of_mem _ hb
  intro k
  induction k with
  | zero =>
    intro i s acc hk hi hst hnd hmem hle hS hR
    have hin : i = n := by omega
    subst hin
    refine codeAny_builtin PyProof.Rows.F.entry_set_update_loop ?_
    rw [Around.under_plainId PyProof.Rows.F.plain_set_update_loop _]
    show wpAny _ A.in1 (pyNext (.ref I) >>= _) _ _ s
    refine wpAny_bind (W.done s _ _ hst fun s' hm => ?_)
    show wpAny _ A.in1 (ret Value.none) _ _ s'
    refine wpAny_pure (hR s' acc (hm.mono hsub) hnd (fun c => ?_) hle (by
      obtain ⟨o, es, ep, t, ho, rest⟩ := hS
      exact ⟨o, es, ep, t, hm.heap P _ hPw ho, rest⟩))
    rw [hmem c, List.take_of_length_le (by rw [Array.length_toList]; omega)]
  | succ k ih =>
    intro i s acc hk hi hst hnd hmem hle hS hR
    have hlt : i < n := by omega
    refine codeAny_builtin PyProof.Rows.F.entry_set_update_loop ?_
    rw [Around.under_plainId PyProof.Rows.F.plain_set_update_loop _]
    show wpAny _ A.in1 (pyNext (.ref I) >>= _) _ _ s
    refine wpAny_bind (W.item i s _ _ hlt hst fun v s' hP hst' hm => ?_)
    obtain ⟨c, t, hc, rfl⟩ := hP
    have hS' : s'.heap.SetOf (PySem.strKind prog w) P (fun k' => decide (k' ∈ acc.map one1)) acc.length := by
      obtain ⟨o, es, ep, tb, ho, rest⟩ := hS
      exact ⟨o, es, ep, tb, hm.heap P _ hPw ho, rest⟩
    have htk : x.cps.toList.take (i + 1) = x.cps.toList.take i ++ [c] := by
      rw [List.take_add_one, Array.getElem?_toList, hc]
      rfl
    show wpAny _ A.in1 (holding [Value.str (one1 c) t] (setAdd P (.str (one1 c) t)) >>= _) _ _ s'
    refine wpAny_bind (wpAny_holding ?_)
    unfold setAdd
    refine wpAny_holding ?_
    refine wpAny_bind ((PySem.strKind prog w).pyHash (k := one1 c) (strKind_is _ _ _ _) ?_)
    refine wpAny_setAddHashed_of (knd := PySem.strKind prog w) (s := { s' with toks := s'.toks + 1 }) (strKind_is _ _ _ _) rfl hS' (by unfold scanBound; omega) fun h' hsb hS2 => ?_
    have step : ∃ acc2 : List Nat, acc2.Nodup ∧ (∀ d, d ∈ acc2 ↔ d ∈ x.cps.toList.take (i + 1)) ∧ acc2.length ≤ i + 1 ∧ h'.SetOf (PySem.strKind prog w) P (fun k' => decide (k' ∈ acc2.map one1)) acc2.length := by
      by_cases hin : c ∈ acc
      · refine ⟨acc, hnd, fun d => ?_, by omega, SetOf_congr hS2 (fun k' => ?_) ?_⟩
        · rw [htk, List.mem_append, ← hmem d, List.mem_singleton]
          exact ⟨.inl, fun q => q.elim id fun e => e ▸ hin⟩
        · show (decide (k' ∈ acc.map one1) || decide (k' = one1 c)) = decide (k' ∈ acc.map one1)
          by_cases e : k' = one1 c
          · subst e
            rw [mem_one1, decide_eq_true hin, Bool.true_or]
          · rw [decide_eq_false e, Bool.or_false]
        · rw [mem_one1, if_pos (decide_eq_true hin)]
      · refine ⟨c :: acc, List.nodup_cons.mpr ⟨hin, hnd⟩, fun d => ?_, by simp; omega, SetOf_congr hS2 (fun k' => ?_) ?_⟩
        · rw [htk, List.mem_append, ← hmem d, List.mem_singleton, List.mem_cons]
          exact Or.comm
        · show (decide (k' ∈ acc.map one1) || decide (k' = one1 c)) = decide (k' ∈ (c :: acc).map one1)
          rw [List.map_cons]
          by_cases e : k' = one1 c
          · subst e
            rw [decide_eq_true (List.mem_cons_self ..), decide_eq_true rfl, Bool.or_true]
          · rw [decide_eq_false e, Bool.or_false]
            by_cases q : k' ∈ acc.map one1
            · rw [decide_eq_true q, decide_eq_true (List.mem_cons_of_mem _ q)]
            · rw [decide_eq_false q, decide_eq_false (fun z => (List.mem_cons.mp z).elim e q)]
        · rw [mem_one1, if_neg (by rw [decide_eq_false hin]; exact Bool.false_ne_true)]
          rfl
    obtain ⟨acc2, n2, m2, l2, S2⟩ := step
    refine wpAny_pure ⟨plainId_quiet PyProof.Rows.F.plain_set_update_loop _, ih (i + 1) _ acc2 (by omega) hlt (W.frame _ s' _ _ hst' (Nat.le_succ _) fun b hb o e => ?_) n2 m2 l2 S2 fun s'' acc' hm'' a1 a2 a3 a4 => ?_⟩
    · rw [hsb.2 b (fun h : b = P => hPf (by rw [← h]; exact hb))]; exact e
    · refine hR s'' acc' (Moved.trans W.gtrans ((hm.mono hsub).then_heap (Nat.le_succ _) fun b o hb e => ?_) hm'') a1 a2 a3 a4
      rw [hsb.2 b (fun h : b = P => hb (by rw [h]; exact List.mem_cons_self))]; exact e
end
theorem sub_str_set : isSubtype (.type "str") (.type "set") = pure false := by rw [isSubtype_type]; kernel_rfl
theorem sub_str_frozenset : isSubtype (.type "str") (.type "frozenset") = pure false := by rw [isSubtype_type]; kernel_rfl
section
variable {prog : Program} {w : World} {A : Around} {E : Value → Shared → Prop} {s : Shared}
set_option maxHeartbeats 3200000 in
theorem call_set_tx {x : Str} {u : Tok} {Q : Value → Shared → Prop} (hh : A.handled = none) (hn1 : x.cps.size ≤ 1000)
    (h : ∀ (h' : Heap) (tk : Nat) (acc : List Nat), acc.Nodup → (∀ c, c ∈ acc ↔ c ∈ x.cps.toList) → acc.length ≤ x.cps.size → h'.SetOf (PySem.strKind prog w) s.heap.objs.size (fun k' => decide (k' ∈ acc.map one1)) acc.length →
      (∀ b o, b < s.heap.objs.size → s.heap.get? b = some o → h'.get? b = some o) → Q (.ref s.heap.objs.size) { s with heap := h', toks := tk }) :
    wpAny (model prog w) A (call (.type "set") [.str x u]) Q E s := by
  obtain ⟨c, tl, hmro⟩ := PySem.F.called_set.mro
  have hmade := PySem.F.called_set.made
  have hsub := PySem.F.called_set.sub
  refine wpAny_call (codeAny_of_tree ?_)
  show wpAny _ _ (callAny (.type "set") _) _ _ _
  refine wpAny_pure ⟨Code.quiet_builtin _ (by decide +kernel), codeAny_builtin PySem.F.entry_type_call ?_⟩
  rw [Around.under_plain (weight_type_call_type "set" [.str x u] []) rfl]
  have h1 := PySem.F.called_set.notType
  have h2 := PySem.F.called_set.canCreate
  have hct := PySem.F.typeCall_set_1 (.str x u)
  repeat (any_goals (first | assumption | wp_step))

  refine codeAny_mono (code_set_new_1 (.str x u) (E := E) (Q₁ := fun obj s₁ => ∃ led : Bool, obj = .ref s.heap.objs.size ∧ s₁ = { s with heap := s.heap.push { cls := .type "set", dict := none, data := .set #[] 0 (.fresh 0 0 led) } }) fun led => ⟨led, rfl, rfl⟩) fun r s₁ hr => ?_
  cases r with
  | error e => exact hr
  | ok fl =>
    cases fl with
    | ret obj =>
      obtain ⟨led, rfl, rfl⟩ := hr
      have hS : (s.heap.push { cls := .type "set", dict := none, data := .set #[] 0 (.fresh 0 0 led) }).get? s.heap.objs.size = some { cls := .type "set", dict := none, data := .set #[] 0 (.fresh 0 0 led) } := Heap.get?_push_size _ rfl
      have hT : Shared.TypeIs { s with heap := s.heap.push { cls := .type "set", dict := none, data := .set #[] 0 (.fresh 0 0 led) } } (.ref s.heap.objs.size) "set" := ⟨_, hS, rfl⟩
      have hli := PySem.F.called_set.init.lookup
      have hbi := PySem.F.called_set.init.bind (.ref s.heap.objs.size)
      repeat (any_goals (first | assumption | wp_step))

      refine codeAny_mono (codeAny_call_builtin (R := wants (fun r s₂ => r = .none ∧ ∃ (h' : Heap) (tk : Nat) (acc : List Nat), s₂ = { s with heap := h', toks := tk } ∧ acc.Nodup ∧ (∀ c, c ∈ acc ↔ c ∈ x.cps.toList) ∧ acc.length ≤ x.cps.size ∧
          h'.SetOf (PySem.strKind prog w) s.heap.objs.size (fun k' => decide (k' ∈ acc.map one1)) acc.length ∧
          (∀ b o, b < s.heap.objs.size → s.heap.get? b = some o → h'.get? b = some o)) E) PySem.F.called_set.init.plain PySem.F.entry_set_init (check_set_init_1 hT ?_)) fun r₂ s₂ hr₂ => ?_
      · have hty : typeOf (.str x u) = pure (.type "str") := rfl
        have hsls := sub_str_set
        have hslf := sub_str_frozenset
        have hne : (Value.type "str" == Value.type "dict") = false := by decide
        unfold Builtin.«set.__init__» noKeywords Builtin.Frozenset.updateFrom
        generalize hPI : pyIter = PI
        wp_walk
        subst hPI
        refine wpAny_pyIter_str fun o St W hst => ?_
        refine wpAny_bind (wpAny_runValue ?_)
        have hh3 : A.in1.in1.in1.handled = none := by simp [hh]
        have hSf : s.heap.objs.size ∉ [(s.heap.push { cls := .type "set", dict := none, data := .set #[] 0 (.fresh 0 0 led) }).objs.size] := by
          rw [Heap.size_push]
          intro q
          exact Nat.ne_of_lt (Nat.lt_succ_self _) (List.mem_singleton.mp q)
        refine loopTx ((W _ hh3).toS) s.heap.objs.size hSf rfl hn1 (x.cps.size - 0) 0 _ [] (by omega) (Nat.zero_le _) hst List.nodup_nil (fun c => by simp) (Nat.le_refl _) ?hS0 ?hR
        case hS0 =>
          have hget : ((s.heap.push { cls := .type "set", dict := none, data := .set #[] 0 (.fresh 0 0 led) }).push o).get? s.heap.objs.size
              = some { cls := .type "set", dict := none, data := .set #[] 0 (.fresh 0 0 led) } := Heap.get?_push_of_some _ hS
          exact PyProof.Rows.SetOf_congr ((PyProof.Rows.setObjOf_fresh (knd := PySem.strKind prog w) led).setOf hget (by unfold scanBound; omega)) (fun _ => by simp) rfl
        case hR =>
          intro s' acc' hm a1 a2 a3 hS'
          obtain ⟨h', g', d', tk', os'⟩ := s'
          have eg : g' = s.gens := hm.gens
          have ed : d' = s.drawn := hm.drawn
          have eo : os' = s.os := hm.os
          subst eg; subst ed; subst eo
          show wpAny _ _ _ _ _ _
          refine wpAny_pure ?_
          show wpAny _ _ (ret Value.none) _ _ _
          refine wpAny_pure ⟨rfl, h', tk', acc', rfl, a1, a2, a3, hS', fun b o hb e => ?_⟩
          have hb1 : b ≠ s.heap.objs.size := Nat.ne_of_lt hb
          have hb2 : b ≠ (s.heap.push { cls := .type "set", dict := none, data := .set #[] 0 (.fresh 0 0 led) }).objs.size := by
            rw [Heap.size_push]; exact Nat.ne_of_lt (Nat.lt_succ_of_lt hb)
          exact hm.heap b o (by simp only [List.mem_cons, List.mem_singleton, List.not_mem_nil, or_false, not_or]; exact ⟨hb1, hb2⟩) (Heap.get?_push_of_some _ (Heap.get?_push_of_some _ e))
      · cases r₂ with
        | error e => exact hr₂
        | ok fl₂ =>
          cases fl₂ with
          | ret r =>
            obtain ⟨rfl, h', tk, acc, rfl, a1, a2, a3, hS', hk'⟩ := hr₂
            repeat (any_goals (first | assumption | wp_step))
            exact h _ _ acc a1 a2 a3 hS' hk'
          | _ => exact hr₂.elim
    | _ => exact hr.elim
end
/-- len(set(text)) -/
def tLenSetT (ta : TE) : TE := fun σ H Q => ta σ H fun x H1 => ∃ l : List Nat, x = tx l ∧ l.length ≤ 1000 ∧ ∀ acc : List Nat, acc.Nodup → (∀ c, c ∈ acc ↔ c ∈ l) → Q (.int acc.length) H1
section
variable {X : Cx}
theorem pe_lenSetT {a : Expr} {ta : TE} {p p2 q pos : Pos} (hc : X.calm = true) (hg : Gl X "len") (hm : X.mg "len" = none) (hg2 : Gl X "set") (hm2 : X.mg "set" = none) (ha : PE X a ta)
    (na : starEach [a] X.env = (false, eval a X.env) :: starEach [] X.env := by rfl) : PE X (.Call (.Name "len" p) [.Call (.Name "set" p2) [a] [] q] [] pos) (tLenSetT ta) := by
  refine ⟨fun pins s σ H Q I h => ?_⟩
  refine Call_ (ld_blt I hg hm boot_len ?_)
  refine PyProof.Rows.callWith_builtin1 (PyProof.Rows.args_cons ?_ rfl) rfl rfl
  refine Call_ (ld_blt I hg2 hm2 boot_set ?_)
  refine PyProof.Rows.callWith_type1 (PyProof.Rows.args_cons (thn (ha.run pins s σ H _ I h) fun v s1 ⟨x, H1, I1, r1, q1⟩ => PyProof.Rows.args_nil ?_) na) na rfl
  obtain ⟨l, rfl, hl, q1⟩ := q1
  obtain ⟨t, rfl⟩ := r1
  refine call_set_tx (I1.ok.hd hc) (by show (S l).length ≤ 1000; rw [S_len]; exact hl) fun h' tk acc a1 a2 a3 hS hk => PyProof.Rows.args_nil ?_
  have a3' : acc.length ≤ 1000 := by
    have e : (S l).cps.size = l.length := S_len l
    rw [e] at a3
    omega
  obtain ⟨o, es, ep, t2, ho, hex, hd, _, _, _, hf, hn⟩ := hS
  have I2 : Inv X pins σ H1 { s1 with heap := h', toks := tk } := I1.kept fun b o e => hk b o (Heap.lt_size e) e
  refine call_len_set ho hex hd hf (by rw [hn] <;> omega) ⟨.int acc.length, H1, I2.tok _, ⟨_, by rw [hn]⟩, q1 acc a1 fun c => ?_⟩
  rw [a2 c, S_cps]
end
end Kit

end
section
set_option Elab.async false
set_option linter.all false
set_option maxRecDepth 100000
set_option maxHeartbeats 4000000
namespace Kit
open PySem PySem.Spec PyProof.Rows L2
/-! ### zip over lists and texts -/
inductive Sd where
  | L (a : Addr)
  | T (x : Str)
def signs (x : Str) : List V := x.cps.toList.map fun c => .str ⟨#[c]⟩
def Sd.at (H : Hp) : Sd → List V → Prop
  | .L a, xs => H a = some (.lst xs)
  | .T x, xs => xs = signs x
def Sd.st (h : Heap) (it : Addr) (i : Nat) : Sd → Prop
  | .L a => h.IsListIter it a i
  | .T x => ∃ t, h.IsStrIter it (strIterType x) x t i
theorem Sd.live {h : Heap} {it : Addr} {i : Nat} {sd : Sd} (st : sd.st h it i) : ∃ o, h.get? it = some o ∧ ∀ v, o.data ≠ .cell v := by
  cases sd with
  | L a =>
    obtain ⟨o, ho, hc, hd⟩ := st
    exact ⟨o, ho, fun v q => by rw [hd] at q; cases q⟩
  | T x =>
    obtain ⟨t, o, ho, hc, hd⟩ := st
    exact ⟨o, ho, fun v q => by rw [hd] at q; cases q⟩
theorem Sd.keep {h h' : Heap} {it : Addr} {i : Nat} {sd : Sd} (st : sd.st h it i) (k : ∀ o, h.get? it = some o → h'.get? it = some o) : sd.st h' it i := by
  cases sd with
  | L a =>
    obtain ⟨o, ho, r⟩ := st
    exact ⟨o, k _ ho, r⟩
  | T x =>
    obtain ⟨t, o, ho, r⟩ := st
    exact ⟨t, o, k _ ho, r⟩
structure Dr (X : Cx) (H : Hp) (h : Heap) (sd : Sd) (it : Addr) (i : Nat) (xs : List V) : Prop where
  ex : ∃ (fp : List Addr) (P : Nat → Value → Prop) (St : Nat → Heap → Prop), Draws X.prog X.w X.A.in1 it fp xs.length P St ∧ St i h ∧ it ∈ fp ∧ (∀ c ∈ fp, c = it ∨ H c ≠ none) ∧ (∀ j h', St j h' → sd.st h' it j) ∧ (∀ x u, P i u → xs[i]? = some x → RelV x u)
theorem dr_of {X : Cx} {pins : List (Addr × Obj)} {σ : St} {H : Hp} {s : Shared} {sd : Sd} {it : Addr} {i : Nat} {xs : List V} (hc : X.calm = true) (I : Inv X pins σ H s) (hn : H it = none) (hat : sd.at H xs) (st : sd.st s.heap it i) : Dr X H s.heap sd it i xs := by
  cases sd with
  | L a =>
    have hat : H a = some (.lst xs) := hat
    obtain ⟨hzz, its, nn, rv, hl0⟩ := (show ObjOk X.prog X.w H s.heap a (.lst xs) from I.hok a _ hat)
    have hL : s.heap.IsList a its.toArray := ⟨_, hl0, rfl, nn, rfl⟩
    have hne : a ≠ it := fun q => by rw [q, hn] at hat; cases hat
    have hl : its.toArray.size = xs.length := by rw [List.size_toArray, rv.length]
    refine ⟨[it, a], _, _, hl ▸ Draws.list (A := X.A.in1) (show X.A.in1.handled = none from I.ok.hd hc) it a hne its.toArray, ⟨st, hL⟩, by simp, fun c hcm => ?_, fun j h' q => q.1, fun x u hu hx => ?_⟩
    · have e : c = it ∨ c = a := by simpa using hcm
      rcases e with e | e
      · exact .inl e
      · refine .inr ?_
        rw [e, hat]
        simp
    · obtain ⟨u', hu', ru⟩ := rv.get hx
      have z : its[i]? = some u := by simpa using hu
      rw [hu'] at z
      cases z
      exact ru
  | T x =>
    obtain ⟨t, st⟩ := st
    have hat : xs = signs x := hat
    have hl : x.cps.size = xs.length := by rw [hat, signs, List.length_map, Array.length_toList]
    refine ⟨[it], _, _, hl ▸ Draws.text (A := X.A.in1) (show X.A.in1.handled = none from I.ok.hd hc) it x t, st, by simp, fun c hcm => .inl (by simpa using hcm), fun j h' q => ⟨t, q⟩, fun y u hu hx => ?_⟩
    obtain ⟨c, tk, hc', rfl⟩ := hu
    rw [hat, signs, List.getElem?_map, Array.getElem?_toList, hc'] at hx
    cases hx
    exact ⟨tk, rfl⟩
structure Cells (z TI TO i1 i2 : Addr) : Prop where
  a1 : TI ≠ z
  a2 : TO ≠ z
  a3 : TI ≠ TO
  a4 : TI ≠ i1
  a5 : TI ≠ i2
  a6 : TO ≠ i1
  a7 : TO ≠ i2
  a8 : z ≠ i1
  a9 : z ≠ i2
  a10 : i1 ≠ i2
theorem sep_of {H : Hp} {z TI TO i1 i2 : Addr} {f1 f2 : List Addr} (C : Cells z TI TO i1 i2) (hn : ∀ b ∈ [z, TI, TO, i1, i2], H b = none) (m1 : i1 ∈ f1) (m2 : i2 ∈ f2) (h1 : ∀ c ∈ f1, c = i1 ∨ H c ≠ none) (h2 : ∀ c ∈ f2, c = i2 ∨ H c ≠ none) :
    ZipSep2 z TI TO i1 i2 f1 f2 where
  TIz := C.a1
  TOz := C.a2
  TITO := C.a3
  TIi1 := C.a4
  mem1 := m1
  zf1 := fun q => (h1 _ q).elim C.a8 fun k => k (hn _ (by simp))
  Tf1 := fun q => (h1 _ q).elim C.a6 fun k => k (hn _ (by simp))
  TIi2 := C.a5
  mem2 := m2
  zf2 := fun q => (h2 _ q).elim C.a9 fun k => k (hn _ (by simp))
  Tf2 := fun q => (h2 _ q).elim C.a7 fun k => k (hn _ (by simp))
  sep1_2 := fun q => (h2 _ q).elim C.a10 fun k => k (hn _ (by simp))
  sep2_1 := fun q => (h1 _ q).elim (Ne.symm C.a10) fun k => k (hn _ (by simp))
def ItZ (d1 d2 : Sd) : It :=
  ⟨fun i G => ∃ (xs ys : List V) (x y : V), d1.at G xs ∧ d2.at G ys ∧ xs[i]? = some x ∧ ys[i]? = some y,
    fun i G v G' => ∃ T x y, v = .ref T ∧ G T = none ∧ G' = upd G T (.tup [x, y]) ∧ (∀ xs, d1.at G xs → xs[i]? = some x) ∧ ∀ ys, d2.at G ys → ys[i]? = some y,
    fun i G => ∃ xs ys : List V, d1.at G xs ∧ d2.at G ys ∧ i ≤ xs.length ∧ i ≤ ys.length ∧ (i = xs.length ∨ i = ys.length)⟩
theorem Sd.inj {H : Hp} {sd : Sd} {xs ys : List V} (h1 : sd.at H xs) (h2 : sd.at H ys) : xs = ys := by
  cases sd with
  | L a =>
    have h1 : H a = some (.lst xs) := h1
    have h2 : H a = some (.lst ys) := h2
    rw [h1] at h2
    cases h2
    rfl
  | T x => exact Eq.trans h1 (Eq.symm h2)
theorem turn_Z {P : Program} {w : World} {K : PySem.W.Frag} {elts : List Expr} {kk : Nat} {tpos : Pos} (d1 d2 : Sd) {z TI TO i1 i2 : Addr} (C : Cells z TI TO i1 i2) :
    Turn P w K (.Tuple elts kk tpos) (ItZ d1 d2) [z, TI, TO, i1, i2] z (fun i h => IsZip h z TI TO .none ∧ IsTupOf2 h TI (.ref i1) (.ref i2) ∧ (∃ x y, IsTupOf2 h TO x y) ∧ d1.st h i1 i ∧ d2.st h i2 i) where
  mem := by simp
  obj := fun i h st c hc => by
    obtain ⟨hz, hTI, ⟨x, y, hTO⟩, s1, s2⟩ := st
    have e' : c = z ∨ c = TI ∨ c = TO ∨ c = i1 ∨ c = i2 := by simpa using hc
    rcases e' with q | q | q | q | q
    · rw [q]; exact ⟨_, hz, fun v q => nomatch q⟩
    · rw [q]; exact ⟨_, hTI, fun v q => nomatch q⟩
    · rw [q]; exact ⟨_, hTO, fun v q => nomatch q⟩
    · rw [q]; exact Sd.live s1
    · rw [q]; exact Sd.live s2
  keep := fun i h h' st k => by
    obtain ⟨hz, hTI, ⟨x, y, hTO⟩, s1, s2⟩ := st
    exact ⟨k z (by simp) _ hz, k TI (by simp) _ hTI, ⟨x, y, k TO (by simp) _ hTO⟩, Sd.keep s1 fun o q => k i1 (by simp) o q, Sd.keep s2 fun o q => k i2 (by simp) o q⟩
  item := by
    intro X hP hw hK hc i pins s σ H E I hf st hg
    subst hP hw hK
    obtain ⟨hz, hTI, ⟨x0, y0, hTO⟩, s1, s2⟩ := st
    obtain ⟨xs, ys, x, y, hqx, hqy, hx, hy⟩ := hg
    obtain ⟨f1, P1, St1, D1, t1, m1, u1, b1, r1⟩ := (dr_of hc I (hf i1 (by simp)).1 hqx s1).ex
    obtain ⟨f2, P2, St2, D2, t2, m2, u2, b2, r2⟩ := (dr_of hc I (hf i2 (by simp)).1 hqy s2).ex
    have SS := sep_of C (fun b hb => (hf b hb).1) m1 m2 u1 u2
    have hl1 := (List.getElem?_eq_some_iff.mp hx).1
    have hl2 := (List.getElem?_eq_some_iff.mp hy).1
    have hzl : z < s.heap.objs.size := Heap.lt_size hz
    refine wpAny_pyNext_zipD2_item SS D1 D2 hz hTI hTO t1 t2 hl1 hl2 fun v1 v2 h' tk p1 p2 z' TO' t1' t2' hT hsz hk => ?_
    refine ⟨_, rfl, wpAny_letOwnedTupleGo_zip (s := { s with heap := h', toks := tk }) z' fun h'' z'' sb => ?_⟩
    have ru := r1 x v1 p1 hx
    have ru2 := r2 y v2 p2 hy
    have hT2 : h''.get? s.heap.objs.size = some { cls := .type "tuple", data := .seq #[v1, v2] } := (sb.2 _ (Nat.ne_of_gt hzl)).trans hT
    have new : ObjOk X.prog X.w (upd H s.heap.objs.size (.tup [x, y])) h'' s.heap.objs.size (.tup [x, y]) :=
      ⟨by show 2 ≤ sizeLine; decide, [v1, v2], .cons ru (.cons ru2 .nil), ⟨_, hT2, rfl, _, rfl⟩⟩
    have I1 : Inv X pins σ (upd H s.heap.objs.size (.tup [x, y])) { s with heap := h'', toks := tk } :=
      I.turnedNew (ch := [z, TI, TO, i1, i2]) (fun c o hb q => (sb.2 c (fun q' => hb (by simp [q']))).trans (hk c o (fun q' => hb (by simp [q'])) (fun q' => hb (by simp [q'])) (fun q' => hb (by simp [q'])) (fun q' => hb (by simp [q'])) q)) hf (Nat.le_refl _) new
    refine ⟨.ref s.heap.objs.size, _, I1, rfl, ⟨_, x, y, rfl, I.hok.fresh (Nat.le_refl _), rfl, fun l hl => by rw [Sd.inj hl hqx]; exact hx, fun l hl => by rw [Sd.inj hl hqy]; exact hy⟩, ⟨z'', ?_, ⟨v1, v2, ?_⟩, ?_, ?_⟩, fun c hcm => ?_⟩
    · exact (sb.2 _ C.a1).trans (hk _ _ C.a1 C.a3 C.a4 C.a5 hTI)
    · exact (sb.2 _ C.a2).trans TO'
    · exact Sd.keep (b1 _ _ t1') fun o q => (sb.2 _ (Ne.symm C.a8)).trans q
    · exact Sd.keep (b2 _ _ t2') fun o q => (sb.2 _ (Ne.symm C.a9)).trans q
    · have hlt : c < s.heap.objs.size := by
        have e' : c = z ∨ c = TI ∨ c = TO ∨ c = i1 ∨ c = i2 := by simpa using hcm
        rcases e' with q | q | q | q | q
        · rw [q]; exact hzl
        · rw [q]; exact Heap.lt_size hTI
        · rw [q]; exact Heap.lt_size hTO
        · rw [q]; obtain ⟨_, e1, _⟩ := Sd.live s1; exact Heap.lt_size e1
        · rw [q]; obtain ⟨_, e2, _⟩ := Sd.live s2; exact Heap.lt_size e2
      rw [upd_ne (Nat.ne_of_lt hlt)]
      exact (hf c hcm).1
  done := by
    intro X hP hw hK hc i pins s σ H E I hf st hg
    subst hP hw hK
    obtain ⟨hz, hTI, ⟨x0, y0, hTO⟩, s1, s2⟩ := st
    obtain ⟨xs, ys, hqx, hqy, hi1, hi2, hend⟩ := hg
    obtain ⟨f1, P1, St1, D1, t1, m1, u1, b1, r1⟩ := (dr_of hc I (hf i1 (by simp)).1 hqx s1).ex
    obtain ⟨f2, P2, St2, D2, t2, m2, u2, b2, r2⟩ := (dr_of hc I (hf i2 (by simp)).1 hqy s2).ex
    have SS := sep_of C (fun b hb => (hf b hb).1) m1 m2 u1 u2
    exact wpAny_pyNext_zipD2_end SS D1 D2 hz hTI hTO t1 t2 hi1 hi2 hend fun h' tk hk => ⟨rfl, I.turnedL (t' := tk) (ch := [z, TI, TO, i1, i2]) (fun c o hb q =>
      hk c o (fun q' => hb (by simp [q'])) (fun q' => hb (by simp [q'])) (fun q' => hb (by simp [q'])) (fun q' => hb (by simp [q'])) q) hf⟩
  self := fun A i s Q E st h => wpAny_pyIter_zip st.1 h
theorem walk_Z {d1 d2 : Sd} {xs ys : List V} {n : Nat} (hn : n = min xs.length ys.length) : Walk (ItZ d1 d2) n (fun G => d1.at G xs ∧ d2.at G ys) (YPair (fun i => xs[i]?) (fun i => ys[i]?)) := by
  subst hn
  refine ⟨fun i G hi q => ⟨xs, ys, xs[i], ys[i], q.1, q.2, List.getElem?_eq_getElem (by omega), List.getElem?_eq_getElem (by omega)⟩, fun G q => ⟨xs, ys, q.1, q.2, by omega, by omega, by omega⟩, ?_⟩
  rintro i G v G' hi q ⟨T, x, y, rfl, hT, rfl, hx, hy⟩
  exact ⟨T, x, y, rfl, hT, rfl, hx xs q.1, hy ys q.2⟩
def Sd.v : Sd → V
  | .L a => .ref a
  | .T x => .str x
def iZipZ (ta : TA) : TI := fun σ H R => ta σ H fun vs H1 => ∃ d1 d2 xs ys, vs = [Sd.v d1, Sd.v d2] ∧ d1.at H1 xs ∧ d2.at H1 ys ∧ R (ItZ d1 d2) H1
theorem bg_of {X : Cx} {pins : List (Addr × Obj)} {σ : St} {H : Hp} {s : Shared} {sd : Sd} {u : Value} {xs : List V} (I : Inv X pins σ H s) (r : RelV sd.v u) (hat : sd.at H xs) :
    ∃ (o : Obj) (HH : Heap → Prop), Begins u o HH ∧ HH s.heap ∧ ∀ (h' : Heap) (it : Addr), h'.get? it = some o → sd.st h' it 0 := by
  cases sd with
  | L a =>
    cases r
    obtain ⟨hzz, its, nn, rv, hl0⟩ := (show ObjOk X.prog X.w H s.heap a (.lst xs) from I.hok a _ hat)
    have hL : s.heap.IsList a its.toArray := ⟨_, hl0, rfl, nn, rfl⟩
    exact ⟨_, _, begins_list a its.toArray, hL, fun h' it e => ⟨_, e, rfl, rfl⟩⟩
  | T x =>
    obtain ⟨t, rfl⟩ := r
    exact ⟨_, _, begins_text x t, True.intro, fun h' it e => ⟨t, _, e, rfl, rfl⟩⟩
theorem cells_of (n : Nat) : Cells (n + 4) (n + 2) (n + 3) n (n + 1) where
  a1 := fun e : n + 2 = n + 4 => by omega
  a2 := fun e : n + 3 = n + 4 => by omega
  a3 := fun e : n + 2 = n + 3 => by omega
  a4 := fun e : n + 2 = n => by omega
  a5 := fun e : n + 2 = n + 1 => by omega
  a6 := fun e : n + 3 = n => by omega
  a7 := fun e : n + 3 = n + 1 => by omega
  a8 := fun e : n + 4 = n => by omega
  a9 := fun e : n + 4 = n + 1 => by omega
  a10 := fun e : n = n + 1 => by omega
theorem pi_zipZ {X : Cx} {e e2 : Expr} {ta : TA} {p pos tpos : Pos} {elts : List Expr} {kk : Nat} (hg : Gl X "zip") (hm : X.mg "zip" = none) (ha : PA X [e, e2] ta)
    (hs : starEach [e, e2] X.env = (false, eval e X.env) :: starEach [e2] X.env := by rfl) (hpl : (backTo pos (starEach [e2] X.env)).any (·.1) = false := by rfl) :
    PI X (.Tuple elts kk tpos) (.Call (.Name "zip" p) [e, e2] [] pos) (iZipZ ta) := by
  refine ⟨fun pins s σ H R I h => ?_⟩
  refine Call_ (ld_blt I hg hm PyProof.Rows.boot_zip (PyProof.Rows.callWith_type1 (thn (ha.run pos pins s σ H _ I h) fun us s1 ⟨vs, H1, I1, r1, q1⟩ => ?_) hs hpl))
  obtain ⟨d1, d2, xs, ys, ex, hqx, hqy, q⟩ := q1
  subst ex
  cases r1 with
  | cons r rr =>
    cases rr with
    | cons r' rr =>
      cases rr
      obtain ⟨o1, H1', B1, k1, c1⟩ := bg_of I1 r hqx
      obtain ⟨o2, H2', B2, k2, c2⟩ := bg_of I1 r' hqy
      refine zip_begins2 B1 B2 k1 k2 fun h' hz hTI hTO h1 h2 hsz hk => wpAny_pyIter_zip hz ?_
      have I2 : Inv X pins σ H1 { s1 with heap := h' } := I1.kept (t' := s1.toks) hk
      refine ⟨s1.heap.objs.size + 4, [s1.heap.objs.size + 4, s1.heap.objs.size + 2, s1.heap.objs.size + 3, s1.heap.objs.size, s1.heap.objs.size + 1], _, _, H1, rfl, I2, turn_Z d1 d2 (cells_of _), ⟨hz, hTI, ⟨_, _, hTO⟩, c1 _ _ h1, c2 _ _ h2⟩, fun c hcm => ?_, q⟩
      have e' : c = s1.heap.objs.size + 4 ∨ c = s1.heap.objs.size + 2 ∨ c = s1.heap.objs.size + 3 ∨ c = s1.heap.objs.size ∨ c = s1.heap.objs.size + 1 := by simpa using hcm
      have hle : s1.heap.objs.size ≤ c := by
        rcases e' with z | z | z | z | z
        · rw [z]; exact Nat.le_add_right _ _
        · rw [z]; exact Nat.le_add_right _ _
        · rw [z]; exact Nat.le_add_right _ _
        · rw [z]; exact Nat.le_refl _
        · rw [z]; exact Nat.le_add_right _ _
      exact I1.fpOk hle (I1.hok.fresh hle)
end Kit

end
section
set_option Elab.async false
set_option linter.all false
set_option maxRecDepth 100000
set_option maxHeartbeats 4000000
namespace Kit
open PySem PySem.Spec PyProof.Rows L2
/-! ### raise X(), X an own error without __init__ -/
abbrev veB : List Value := [.type "ValueError", .type "Exception", .type "BaseException", .type "object"]
structure ErrZ (K : PySem.W.Frag) (mg : Str → Option Value) (C : Addr) (x : Str) : Prop where
  gC : mg x = some (.ref C)
  ex : PySem.W.excIn K C veB "ValueError.__new__" = true
  kC : PySem.W.keepIn K (.ref C) = true
  sB : PySem.W.subIn K (.ref C) (.type "BaseException") = some true
  tC : PySem.W.typeIn K (.ref C) = some (.type "type")
section
variable {X : Cx} {C : Addr} {x : Str} {W : WX} {p pos pos2 : Pos}
theorem pr_own0 (c : ErrZ X.K X.mg C x) (tk : Takes X W) (hcalm : X.calm = true) (hg : Gl X x) (hdb : (x == ("__debug__" : Str)) = false := by decide) :
    PS X (.Raise (some (.Call (.Name x p) [] [] pos)) none pos2) (fun _ σ H => W (.ref C) none σ H) := by
  refine L2.ps_raise hcalm tk (t := fun σ H Q => Q (.ref C) none H) ?_
  intro pins s σ H Q I h
  refine wpAny_Call_Name_kw (ld_glob I hg c.gC ?_ hdb)
  refine PySem.W.callWith_K0 I.kIn c.kC ?_
  show wpAny _ _ (call (.ref C) []) _ _ _
  obtain ⟨bm, N, nm, qn, bs, hdct, sn, sub, ab, col, dd, k0, k1, k2, k3, k5, mN, hC, hN, hni, T⟩ := exc_obj I.kIn c.ex
  obtain ⟨hp, g, dr, tk', os⟩ := s
  refine wpAny_call_exc_subT PySem.F.excBase_ValueError T hC hN hni (fun h' e hm => ?_) (by show 0 ≤ sizeLine; exact Nat.zero_le _)
  exact mk_of I hm (raises_own c.sB c.tC) h (I.hok.gone hm.new)
end
/-! ### own == with any thing whose type does not come first -/
section
variable {X : Cx} {C : Addr} {k j : Nat} {sp : Sp}
def OtherOk2 (K : PySem.W.Frag) (C : Addr) (H : Hp) (y : V) : Prop := (∃ i, y = .int i) ∨ (∃ z, y = .str z) ∨ (∃ b dx fs, y = .ref b ∧ H b = some (.ins C dx fs)) ∨ ∃ b xs, y = .ref b ∧ H b = some (.lst xs)
def rEqO2 (K : PySem.W.Frag) (C : Addr) (sp : Sp) : R2 := fun x y H Q => ∃ a dx fs, x = .ref a ∧ H a = some (.ins C dx fs) ∧ OtherOk2 K C H y ∧ sp [x, y] H (fun v G => ∃ b, v = .bl b ∧ Q (.bl b) G) E0
theorem eqO2 (K : PySem.W.Frag) (c : CanM X.prog X.w X.K X.mg X.base k C "__eq__" sp) (hr : Room j X.A) (hk : k ≤ j) (hni : PySem.W.notFirst K C (.type "int") = true) (hns : PySem.W.notFirst K C (.type "str") = true) (hnl : PySem.W.notFirst K C (.type "list") = true) (hK : X.K = K := by rfl) : OpR X (compareOp .Eq) (rEqO2 K C sp) := by
  subst hK
  obtain ⟨f, fd, ps, F, hc, hm, b⟩ := c.ex
  intro pins s σ H x y v u Q I rx ry hq
  obtain ⟨a, dx, fs, rfl, ha, ho, h⟩ := hq
  cases rx
  show wpAny (model X.prog X.w) X.A (richCompare .Eq (.ref a) u) (EP X pins σ Q) X.xe s
  obtain ⟨mA, J, _⟩ := ins_get I.hok ha
  obtain ⟨od, J, _⟩ := J.look
  obtain ⟨m, hF⟩ := I.fr
  have tb : ∃ tb, PySem.W.Looks (model X.prog X.w) s.heap (typeOf u) tb ∧ PySem.W.notFirst X.K C tb = true := by
    rcases ho with ⟨i, rfl⟩ | ⟨z, rfl⟩ | ⟨b', dy, gs, rfl, hb'⟩ | ⟨b', xs, rfl, hb'⟩
    · obtain ⟨t, rfl⟩ := ry
      exact ⟨.type "int", .now, hni⟩
    · obtain ⟨t, rfl⟩ := ry
      exact ⟨.type "str", .now, hns⟩
    · cases ry
      obtain ⟨mB, J', _⟩ := ins_get I.hok hb'
      obtain ⟨od', J', _⟩ := J'.look
      exact ⟨.ref C, J'.type, by simp [PySem.W.notFirst]⟩
    · cases ry
      obtain ⟨hzz, its, nn, rv, hl0⟩ := (show ObjOk X.prog X.w H s.heap b' (.lst xs) from I.hok b' _ hb')
      exact ⟨.type "list", PySem.W.Looks.ld hl0 |>.andThen .now, hnl⟩
  obtain ⟨tb, htb, hnf⟩ := tb
  refine PySem.W.cmp_K (op := .Eq) (tb := tb) (hr.mono hk).units0 hF I.ok.mod.kin J htb hnf hm.at_ hm.fn ?_
  refine wpAny_mono (run_fn (us := [.ref a, u]) (vs := [.ref a, y]) (dvs := []) (ds := []) F (hr.mono hk) b .nil passL I (.cons rfl (.cons ry .nil)) h) (fun r s' z => ?_) fun _ _ x => x
  obtain ⟨v, H', I', rv, bb, rfl, q⟩ := z
  cases rv
  exact ⟨.bl bb, H', I', rfl, q⟩
end
end Kit
namespace Kit
open PySem PySem.Spec PyProof.Rows L2
/-! ### own != by an own == -/
section
variable {M : Model} {A : Around} {E : Value → Shared → Prop} {s : Shared} {K : PySem.W.Frag} {x C : Addr} {ox : Obj} {od : Option Obj} {b : Value}
theorem ifNe {Q : Option Value → Shared → Prop} (X : K.In s.heap) (I : PySem.W.InstAt s.heap x ox C od) (hs : PySem.W.findIn K (.ref C) "__ne__" = some (some (.builtin "object.__ne__")))
    (h : wpAny M A (call (.builtin "object.__ne__") [.ref x, b]) (fun v => Q (some v)) E s) : wpAny M A (callSpecialIfBound? (.ref x) "__ne__" [b]) Q E s := by
  have hb : bindSpecial (.builtin "object.__ne__") (.ref x) = pure (.builtin "object.__ne__", [.ref x]) := PySem.F.slot_object_ne.bind (.ref x)
  simp only [callSpecialIfBound?, bindSpecialIfBound?]
  refine wpAny_holding (wpAny_bind (wpAny_bind (wpAny_bind (I.type.here ((PySem.W.looks_findIn X hs).here ?_)))))
  refine wpAny_bind (wpAny_askSetting (wpAny_ite ?_))
  have fin : wpAny M A (call (.builtin "object.__ne__") ([.ref x] ++ [b]) >>= fun v => pure (some v)) Q E s := wpAny_bind (wpAny_mono h (fun v s' h' => wpAny_pure h') fun _ _ h' => h')
  split
  · rw [hb]
    exact wpAny_bind (wpAny_pure (wpAny_pure fin))
  · rw [hb]
    exact wpAny_tryCatch (wpAny_bind (wpAny_pure (wpAny_pure fin)))
theorem objNe {prog : Program} {w : World} {f : Addr} {Q : Value → Shared → Prop} (hu : A.in1.units < cLine) (X : K.In s.heap) (I : PySem.W.InstAt s.heap x ox C od) (hm : PySem.W.mroIn K C (.type "object") = some true)
    (he : PySem.W.findIn K (.ref C) "__eq__" = some (some (.ref f))) (hf : PySem.W.isFn K (.ref f) = true) (h : wpAny (model prog w) A.in1 (call (.ref f) [.ref x, b]) (fun v s' => ∃ c, v = .bool c ∧ Q (.bool (!c)) s') E s) :
    wpAny (model prog w) A (call (.builtin "object.__ne__") [.ref x, b]) Q E s := by
  refine wpAny_call (codeAny_call_builtin PySem.F.slot_object_ne.plain PySem.F.cmpEntry_ne (PySem.W.check_slot PySem.F.cmpKind_ne PySem.F.cmpSplit_ne (I.type.andThen (PySem.W.looks_mroIn X hm)) (PySem.F.cmpArgs_ne _ _) ?_))
  unfold Builtin.«object.__ne__»
  refine wpAny_bind (wpAny_pure ?_)
  refine wpAny_bind (wpAny_cRoomFor hu ?_)
  refine wpAny_bind (PySem.W.ifBound_K X I he hf (wpAny_mono h (fun v s' hv => ?_) fun _ _ e => e))
  obtain ⟨c, rfl, q⟩ := hv
  refine wpAny_bind (m := truthy (.bool c)) (wpAny_truthy_bool ?_)
  exact wpAny_pure q
end
section
variable {X : Cx} {C : Addr} {k j : Nat} {sp : Sp}
/-- what a class has that takes != from its == -/
structure NeT (K : PySem.W.Frag) (C : Addr) : Prop where
  ne : PySem.W.findIn K (.ref C) "__ne__" = some (some (.builtin "object.__ne__"))
  hm : PySem.W.mroIn K C (.type "object") = some true
def rNeO (C : Addr) (sp : Sp) : R2 := fun x y H Q => ∃ a dx fs b dy gs, x = .ref a ∧ H a = some (.ins C dx fs) ∧ y = .ref b ∧ H b = some (.ins C dy gs) ∧ sp [x, y] H (fun v G => ∃ c, v = .bl c ∧ Q (.bl (!c)) G) E0
theorem neO (K : PySem.W.Frag) (c : CanM X.prog X.w X.K X.mg X.base k C "__eq__" sp) (hr : Room j X.A) (hk : k + 1 ≤ j) (N : NeT K C) (hK : X.K = K := by rfl) : OpR X (compareOp .NotEq) (rNeO C sp) := by
  subst hK
  obtain ⟨f, fd, ps, F, hc, hm, b⟩ := c.ex
  intro pins s σ H x y v u Q I rx ry hq
  obtain ⟨a, dx, fs, b', dy, gs, rfl, ha, rfl, hb', h⟩ := hq
  cases rx
  cases ry
  show wpAny (model X.prog X.w) X.A (richCompare .NotEq (.ref a) (.ref b')) (EP X pins σ Q) X.xe s
  obtain ⟨mA, J, _⟩ := ins_get I.hok ha
  obtain ⟨od, J, _⟩ := J.look
  obtain ⟨mB, J', _⟩ := ins_get I.hok hb'
  obtain ⟨od', J', _⟩ := J'.look
  have hr1 : Room k X.A.in1 := (hr.mono hk).in1
  have e0 : Env0 X.prog X.w X.K X.mg X.base X.A.in1 X.stack s H := by
    have e := I.env0
    exact ⟨e.frames, e.mod, e.bs, e.bsz, e.funs, e.frf, e.hok, e.bare⟩
  have hl := F.len _ _ _ _ h
  have bb := b s [.ref a, .ref b'] I.kIn (by simpa using hl)
  unfold richCompare
  simp only [oneThing_ref]
  refine wpAny_holding (wpAny_bind (wpAny_cRoomFor (hr.mono hk).units0 ?_))
  refine wpAny_bind (J.type.here (wpAny_bind (J'.type.here ?_)))
  rw [show (Value.ref C != Value.ref C) = false from by simp]
  simp only [Bool.false_eq_true, if_false]
  refine wpAny_bind (wpAny_pure ?_)
  simp only [Bool.false_eq_true, if_false]
  have one : wpAny (model X.prog X.w) X.A (tryCompare (.ref a) "__ne__" (.ref b')) (fun r s' => ∃ v, r = some v ∧ EP X pins σ Q v s') X.xe s := by
    unfold tryCompare
    refine wpAny_bind (ifNe I.kIn J N.ne (objNe hr1.units0 I.kIn J N.hm hm.at_ hm.fn (wpAny_call (codeAny_mono (F.run X.A.in1 X.stack s H ⟨[.ref a, .ref b'], []⟩ [.ref a, .ref b'] [.ref a, .ref b'] _ E0 hr1 e0 (by simpa using bb) (.cons rfl (.cons rfl .nil)) h) ?_))))
    intro z s' hq
    cases z with
    | error e =>
      obtain ⟨_, _, _, _, _, _, _, _, _, _, _, _, y⟩ := hq
      exact y.elim
    | ok fl =>
      cases fl with
      | ret w =>
        obtain ⟨v, H', I', rz, c, rfl, q⟩ := I.after hq
        cases rz
        exact ⟨c, rfl, wpAny_pure ⟨_, rfl, .bl (!c), H', I', rfl, q⟩⟩
      | next => exact hq.elim
      | brk => exact hq.elim
      | cont => exact hq.elim
  refine wpAny_bind (wpAny_mono one (fun r s' z => ?_) fun _ _ e => e)
  obtain ⟨v, rfl, hq⟩ := z
  exact wpAny_pure hq
end
end Kit
namespace Kit
open PySem PySem.Spec PyProof.Rows L2
theorem units1 {k : Nat} {A : Around} (r : Room k A) : A.units + 1 < cLine := by
  have := r.un
  omega
end Kit

end
section
set_option Elab.async false
set_option linter.all false
set_option maxRecDepth 100000
set_option maxHeartbeats 4000000
namespace Kit
open PySem PySem.Spec PyProof.Rows L2
/-! ### comprehensions over pairs; dict comprehensions -/
section
variable {J : It} {n : Nat} {G : Hp → Prop} {Y : Nat → Hp → V → Hp → Prop} {te tk tv : TE} {σ : St} {H1 : Hp} {D : Addr} {Qd : Hp → Prop} {K : PySem.W.Frag} {xs ys : Nat → Option V}
theorem lc_two (w : Walk J n G (YPair xs ys)) {i j : Nat} (out : List V) (hn : out.length = n) (hsz : n ≤ 100000) (hD : H1 D = none) (hG : ∀ H, Same H1 H → G H) (hw : ∀ x y, wipe (((wipe σ [i, j]).set i (some x)).set j (some y)) [i, j] = wipe σ [i, j])
    (hs : ∀ k x y H v, k < n → Same H1 H → xs k = some x → ys k = some y → out[k]? = some v → ∀ Q : VK, (∀ M, Same H M → Q v M) → te (((wipe σ [i, j]).set i (some x)).set j (some y)) H Q)
    (hd : ∀ H, Same H1 H → H D = some (.lst out) → Qd H) :
    ∃ W : Nat → Nat → Hp → Prop, (∃ m, W 0 m (upd H1 D (.lst []))) ∧ ∀ k m H, W k m H →
      (J.stop k H ∧ Qd H) ∨ (J.go k H ∧ ∃ Nx : Hp → Prop, (∀ H', Nx H' → ∃ m', m' < m ∧ W (k + 1) m' H') ∧ ∀ x H', J.yld k H x H' → gTup K 2 (gCons (gName i) (gCons (gName j) gNil)) x (wipe σ [i, j]) H' fun σ2 H2 => wipe σ2 [i, j] = wipe σ [i, j] ∧ tYes σ2 H2 fun b H3 =>
        if b = true then te σ2 H3 fun y H4 => ∃ acc, H4 D = some (.lst acc) ∧ acc.length < sizeLine ∧ Nx (upd H4 D (.lst (acc ++ [y]))) else Nx H3) := by
  refine lc_it w (fun i H => Same H1 H ∧ H D = some (.lst (out.take i))) ⟨ex_new hD, upd_same⟩ (fun i H _ h => hG H h.1) ?_ ?_
  · rintro k v H H' hi ⟨s1, hHD⟩ ⟨T, x, y, rfl, hT, rfl, hx, hy⟩
    have hv : out[k]? = some (out[k]'(by omega)) := List.getElem?_eq_getElem _
    have s2 := s1.trans (ex_new (o := .tup [x, y]) hT)
    refine ⟨T, [x, y], rfl, seqT_of upd_same, rfl, x, [y], rfl, y, [], rfl, rfl, hw x y, ?_⟩
    unfold tYes
    dsimp only
    rw [if_pos rfl]
    refine hs k x y _ _ hi s2 hx hy hv _ fun M s3 => ⟨out.take k, s3 _ _ (ex_new hT _ _ hHD), by rw [List.length_take]; exact szlt (by omega), ?_⟩
    refine ⟨ex_mut (s2.trans s3) hD, ?_⟩
    rw [upd_same, List.take_add_one, hv]
    rfl
  · rintro H ⟨s1, hHD⟩
    refine hd H s1 ?_
    rw [hHD, List.take_of_length_le (by omega)]
/-- the dict's reading, as lc_it -/
theorem dc_it (w : Walk J n G Y) {g : TG} {tt : TT} {vs : List Nat} (Pv : Nat → Hp → Prop) (h0 : Pv 0 (upd H1 D (.dK []))) (hG : ∀ i H, i ≤ n → Pv i H → G H)
    (hs : ∀ i x H H', i < n → Pv i H → Y i H x H' → g x (wipe σ vs) H' fun σ2 H2 => wipe σ2 vs = wipe σ vs ∧ tt σ2 H2 fun b H3 =>
      if b = true then tk σ2 H3 fun y H4 => tv σ2 H4 fun z H5 => ∃ kvs k, y = kV k ∧ H5 D = some (.dK kvs) ∧ kvs.length < sizeLine ∧ Pv (i + 1) (upd H5 D (.dK (putK kvs k z))) else Pv (i + 1) H3) (hd : ∀ H, Pv n H → Qd H) :
    ∃ W : Nat → Nat → Hp → Prop, (∃ m, W 0 m (upd H1 D (.dK []))) ∧ ∀ i m H, W i m H →
      (J.stop i H ∧ Qd H) ∨ (J.go i H ∧ ∃ Nx : Hp → Prop, (∀ H', Nx H' → ∃ m', m' < m ∧ W (i + 1) m' H') ∧ ∀ x H', J.yld i H x H' → g x (wipe σ vs) H' fun σ2 H2 => wipe σ2 vs = wipe σ vs ∧ tt σ2 H2 fun b H3 =>
        if b = true then tk σ2 H3 fun y H4 => tv σ2 H4 fun z H5 => ∃ kvs k, y = kV k ∧ H5 D = some (.dK kvs) ∧ kvs.length < sizeLine ∧ Nx (upd H5 D (.dK (putK kvs k z))) else Nx H3) := by
  refine ⟨fun i m H => m = n - i ∧ i ≤ n ∧ Pv i H, ⟨n, by simp, Nat.zero_le _, h0⟩, ?_⟩
  rintro i m H ⟨rfl, hi, p⟩
  have q := hG i H hi p
  by_cases hlt : i < n
  · refine .inr ⟨w.goes i H hlt q, Pv (i + 1), fun H' p' => ⟨n - (i + 1), by omega, rfl, hlt, p'⟩, fun x H' y => hs i x H H' hlt p (w.yields i H x H' hlt q y)⟩
  · have e : i = n := by omega
    subst e
    exact .inl ⟨w.stops H q, hd H p⟩
theorem put_take {ks : List Key} {out : List V} (hle : ks.length ≤ out.length) (hnd : ks.Nodup) {i : Nat} {k : Key} {v : V} (hk : ks[i]? = some k) (hv : out[i]? = some v) : putK ((ks.zip out).take i) k v = (ks.zip out).take (i + 1) := by
  have hz : (ks.zip out)[i]? = some (k, v) := by
    rw [List.getElem?_zip_eq_some]
    exact ⟨hk, hv⟩
  rw [putK_new, List.take_add_one, hz]
  · rfl
  · cases e : valV ((ks.zip out).take i) k with
    | none => rfl
    | some u =>
      exfalso
      have h1 := valV_in e
      rw [List.map_take, List.map_fst_zip hle] at h1
      obtain ⟨j, hj⟩ := List.mem_iff_getElem?.mp h1
      rw [List.getElem?_take] at hj
      split at hj
      · rename_i hlt
        have hlt2 : j < i := by omega
        have hjl := (List.getElem?_eq_some_iff.mp hj).1
        have := (List.getElem?_inj hjl hnd).mp (hj.trans hk.symm)
        omega
      · cases hj
theorem dc_one (w : Walk J n G Y) {j : Nat} (ks : List Key) (out : List V) (hk : ks.length = n) (hn : out.length = n) (hnd : ks.Nodup) (hsz : n ≤ 100000) (hD : H1 D = none) (hG : ∀ H, Same H1 H → G H)
    (hs : ∀ i x H H' k v, i < n → Same H1 H → Y i H x H' → ks[i]? = some k → out[i]? = some v → Same H H' ∧ ∀ Q : V → V → Hp → Prop, (∀ M, Same H' M → Q (kV k) v M) → tk (σ.set j (some x)) H' fun y H4 => tv (σ.set j (some x)) H4 fun z H5 => Q y z H5)
    (hd : ∀ H, Same H1 H → H D = some (.dK (ks.zip out)) → Qd H) :
    ∃ W : Nat → Nat → Hp → Prop, (∃ m, W 0 m (upd H1 D (.dK []))) ∧ ∀ i m H, W i m H →
      (J.stop i H ∧ Qd H) ∨ (J.go i H ∧ ∃ Nx : Hp → Prop, (∀ H', Nx H' → ∃ m', m' < m ∧ W (i + 1) m' H') ∧ ∀ x H', J.yld i H x H' → gName j x (wipe σ [j]) H' fun σ2 H2 => wipe σ2 [j] = wipe σ [j] ∧ tYes σ2 H2 fun b H3 =>
        if b = true then tk σ2 H3 fun y H4 => tv σ2 H4 fun z H5 => ∃ kvs k, y = kV k ∧ H5 D = some (.dK kvs) ∧ kvs.length < sizeLine ∧ Nx (upd H5 D (.dK (putK kvs k z))) else Nx H3) := by
  refine dc_it w (fun i H => Same H1 H ∧ H D = some (.dK ((ks.zip out).take i))) ⟨ex_new hD, upd_same⟩ (fun i H _ h => hG H h.1) ?_ ?_
  · rintro i x H H' hi ⟨s1, hHD⟩ y
    have hv : out[i]? = some (out[i]'(by omega)) := List.getElem?_eq_getElem _
    have hkk : ks[i]? = some (ks[i]'(by omega)) := List.getElem?_eq_getElem _
    obtain ⟨s2, ht⟩ := hs i x H H' _ _ hi s1 y hkk hv
    refine ⟨wipe1 j _, ?_⟩
    unfold tYes
    dsimp only
    rw [if_pos rfl, set1]
    refine ht _ fun M s3 => ⟨(ks.zip out).take i, _, rfl, s3 _ _ (s2 _ _ hHD), by rw [List.length_take]; exact szlt (by omega), ?_⟩
    refine ⟨ex_mut ((s1.trans s2).trans s3) hD, ?_⟩
    rw [upd_same, put_take (by omega) hnd hkk hv]
  · rintro H ⟨s1, hHD⟩
    refine hd H s1 ?_
    rw [hHD, List.take_of_length_le (by rw [List.length_zip]; omega)]
theorem dc_two (w : Walk J n G (YPair xs ys)) {i j : Nat} (ks : List Key) (out : List V) (hk : ks.length = n) (hn : out.length = n) (hnd : ks.Nodup) (hsz : n ≤ 100000) (hD : H1 D = none) (hG : ∀ H, Same H1 H → G H) (hw : ∀ x y, wipe (((wipe σ [i, j]).set i (some x)).set j (some y)) [i, j] = wipe σ [i, j])
    (hs : ∀ l x y H k v, l < n → Same H1 H → xs l = some x → ys l = some y → ks[l]? = some k → out[l]? = some v → ∀ Q : V → V → Hp → Prop, (∀ M, Same H M → Q (kV k) v M) → tk (((wipe σ [i, j]).set i (some x)).set j (some y)) H fun y' H4 => tv (((wipe σ [i, j]).set i (some x)).set j (some y)) H4 fun z H5 => Q y' z H5)
    (hd : ∀ H, Same H1 H → H D = some (.dK (ks.zip out)) → Qd H) :
    ∃ W : Nat → Nat → Hp → Prop, (∃ m, W 0 m (upd H1 D (.dK []))) ∧ ∀ l m H, W l m H →
      (J.stop l H ∧ Qd H) ∨ (J.go l H ∧ ∃ Nx : Hp → Prop, (∀ H', Nx H' → ∃ m', m' < m ∧ W (l + 1) m' H') ∧ ∀ x H', J.yld l H x H' → gTup K 2 (gCons (gName i) (gCons (gName j) gNil)) x (wipe σ [i, j]) H' fun σ2 H2 => wipe σ2 [i, j] = wipe σ [i, j] ∧ tYes σ2 H2 fun b H3 =>
        if b = true then tk σ2 H3 fun y H4 => tv σ2 H4 fun z H5 => ∃ kvs k, y = kV k ∧ H5 D = some (.dK kvs) ∧ kvs.length < sizeLine ∧ Nx (upd H5 D (.dK (putK kvs k z))) else Nx H3) := by
  refine dc_it w (fun i H => Same H1 H ∧ H D = some (.dK ((ks.zip out).take i))) ⟨ex_new hD, upd_same⟩ (fun i H _ h => hG H h.1) ?_ ?_
  · rintro l v H H' hi ⟨s1, hHD⟩ ⟨T, x, y, rfl, hT, rfl, hx, hy⟩
    have hv : out[l]? = some (out[l]'(by omega)) := List.getElem?_eq_getElem _
    have hkk : ks[l]? = some (ks[l]'(by omega)) := List.getElem?_eq_getElem _
    have s2 := s1.trans (ex_new (o := .tup [x, y]) hT)
    refine ⟨T, [x, y], rfl, seqT_of upd_same, rfl, x, [y], rfl, y, [], rfl, rfl, hw x y, ?_⟩
    unfold tYes
    dsimp only
    rw [if_pos rfl]
    refine hs l x y _ _ _ hi s2 hx hy hkk hv _ fun M s3 => ⟨(ks.zip out).take l, _, rfl, s3 _ _ (ex_new hT _ _ hHD), by rw [List.length_take]; exact szlt (by omega), ?_⟩
    refine ⟨ex_mut (s2.trans s3) hD, ?_⟩
    rw [upd_same, put_take (by omega) hnd hkk hv]
  · rintro H ⟨s1, hHD⟩
    refine hd H s1 ?_
    rw [hHD, List.take_of_length_le (by rw [List.length_zip]; omega)]
theorem zip_get {ks : List Key} {out : List V} (hle : ks.length ≤ out.length) (hnd : ks.Nodup) {i : Nat} {k : Key} {v : V} (hk : ks[i]? = some k) (hv : out[i]? = some v) : valV (ks.zip out) k = some v := by
  have hz : (ks.zip out)[i]? = some (k, v) := by
    rw [List.getElem?_zip_eq_some]
    exact ⟨hk, hv⟩
  have hm : (k, v) ∈ ks.zip out := List.mem_of_getElem? hz
  have hn : ((ks.zip out).map (·.1)).Nodup := by
    rw [List.map_fst_zip hle]
    exact hnd
  exact val_nodup hn _ hm
end
/-! ### an error without fields -/
def RaZ (E : XK) (C : Addr) (H : Hp) : Prop := ∀ M, Same H M → E (.ref C) none M
theorem RaZ.mono {E : XK} {C : Addr} {H G : Hp} (h : RaZ E C H) (e : Same H G) : RaZ E C G := fun M s => h M (e.trans s)
end Kit
namespace Kit
open PySem PySem.Spec PyProof.Rows L2
/-! ### the caught error in its own suite -/
section
variable {X : Cx} {a : Addr} {oe : Obj} {pn : List (Addr × Obj)} {cls : Value} {d : Option Addr} {e : Expr} {te : TE} {fld : Str} {pos : Pos}
theorem call_isU (hz : Zc cls d oe) (hf : ∃ z, oe.data = .fields z) : CallR (X.suite a ((a, oe) :: pn)) (.builtin "isinstance") (rIsP X.K a cls d) := call_isP (X := X.suite a ((a, oe) :: pn)) (List.mem_cons_self ..) hz hf
theorem pe_xu (hz : Zc cls d oe) (hf : ∃ z, oe.data = .fields z) (he : PE (X.suite a ((a, oe) :: pn)) e te) (hb : attributeBase e fld (X.suite a ((a, oe) :: pn)).env (eval e (X.suite a ((a, oe) :: pn)).env) = eval e (X.suite a ((a, oe) :: pn)).env := by rfl) : PE (X.suite a ((a, oe) :: pn)) (.Attribute e fld pos) (tXP X.K a cls d fld te) := pe_xp (List.mem_cons_self ..) hz hf he hb
end
end Kit
namespace Kit
open PySem PySem.Spec PyProof.Rows L2
section
variable {X : Cx} {k j : Nat} {C : Addr} {m : Str} {sp : Sp} {pos apos : Pos} {o : Expr} {ta : TE}
theorem pc_m0 {pl : Sem Bool} (c : CanM X.prog X.w X.K X.mg X.base k C m sp) (hr : Room j X.A) (hk : k ≤ j) (he : PE X o ta)
    (ht : eval (.Call (.Attribute o m apos) [] [] pos) X.env = (do
      let v ← eval o X.env
      standAt apos.atName
      let (f, first) ← holding [v] (getMethod v m pl)
      callWith pos f first (backTo pos (starEach [] X.env)) (backToKw pos (keywordEach [] X.env))) := by rfl) :
    PE X (.Call (.Attribute o m apos) [] [] pos) (tMeth C m sp [] E0 ta tNil) := by
  obtain ⟨f, fd, ps, F, hc, hm, b⟩ := c.ex
  exact pe_meth0 (pl := pl) he hc hm F (hr.mono hk) b .nil passL ht
end
end Kit

end
section
set_option Elab.async false
set_option linter.all false
set_option maxRecDepth 100000
set_option maxHeartbeats 4000000
namespace Kit
open PySem PySem.Spec PyProof.Rows L2
/-! ### == and != of data without dicts, any texts -/
section
variable {X : Cx}
def rEqP (K : PySem.W.Frag) : R2 := fun x y H Q => ∃ d e, Dp K H x d ∧ Dp K H y e ∧ d.plain = true ∧ e.plain = true ∧ d.depth ≤ 64 ∧ Q (.bl (PyData.eqv d e)) H
def rNeP (K : PySem.W.Frag) : R2 := fun x y H Q => ∃ d e, Dp K H x d ∧ Dp K H y e ∧ d.plain = true ∧ e.plain = true ∧ d.depth ≤ 64 ∧ Q (.bl (!PyData.eqv d e)) H
theorem keqP (K : PySem.W.Frag) (hu : X.A.units + 64 < cLine) (hK : X.K = K := by rfl) : OpR X (compareOp .Eq) (rEqP K) := by
  subst hK
  intro pins s σ H x y v u Q I rx ry h
  obtain ⟨d, e, hd, he, sd, se, dd, q⟩ := h
  obtain ⟨as, r1⟩ := Dp.reads I d x v hd rx
  obtain ⟨bs, r2⟩ := Dp.reads I e y u he ry
  exact SeqAt.eq_plain r1 r2 sd se (by omega) ⟨.bl _, H, I, rfl, q⟩
theorem kneP (K : PySem.W.Frag) (hu : X.A.units + 64 < cLine) (hK : X.K = K := by rfl) : OpR X (compareOp .NotEq) (rNeP K) := by
  subst hK
  intro pins s σ H x y v u Q I rx ry h
  obtain ⟨d, e, hd, he, sd, se, dd, q⟩ := h
  obtain ⟨as, r1⟩ := Dp.reads I d x v hd rx
  obtain ⟨bs, r2⟩ := Dp.reads I e y u he ry
  exact SeqAt.ne_plain r1 r2 sd se (by omega) ⟨.bl _, H, I, rfl, q⟩
end
/-- lists of texts as such data -/
def pdL (ls : List (List Nat)) : PyData := .list (ls.map fun l => .str (S l))
theorem dpAll_txt {K : PySem.W.Frag} {H : Hp} : ∀ ls : List (List Nat), DpAll K H (ls.map tx) (ls.map fun l => .str (S l))
  | [] => .nil
  | l :: ls => .cons (.str _) (dpAll_txt ls)
theorem dp_txt {K : PySem.W.Frag} {H : Hp} {p : Addr} {ls : List (List Nat)} (h : H p = some (.lst (ls.map tx))) : Dp K H (.ref p) (pdL ls) := .lst (seqL_of h) (dpAll_txt ls)
theorem plainL (ls : List (List Nat)) : (pdL ls).plain = true := by
  unfold pdL PyData.plain
  induction ls with
  | nil => rfl
  | cons l ls ih =>
    rw [List.map_cons]
    unfold PyData.plainAll
    rw [ih]
    rfl
theorem depthAllL (ls : List (List Nat)) : PyData.depthAll (ls.map fun l => .str (S l)) ≤ 1 := by
  induction ls with
  | nil => simp [PyData.depthAll]
  | cons l ls ih =>
    rw [List.map_cons]
    unfold PyData.depthAll
    unfold PyData.depth
    omega
theorem depthL (ls : List (List Nat)) : (pdL ls).depth ≤ 64 := by
  unfold pdL PyData.depth
  have := depthAllL ls
  omega
end Kit

end
section
set_option Elab.async false
set_option linter.all false
set_option maxRecDepth 100000
set_option maxHeartbeats 4000000
namespace Kit
open PySem PySem.Spec PyProof.Rows L2
/-! ### [.. for .. for ..]: the two walks -/
section
variable {J J1 : It} {n n1 : Nat} {G G1 : Hp → Prop} {Y Y1 : Nat → Hp → V → Hp → Prop} {g1 : TG} {tt1 : TT} {te : TE} {vs1 : List Nat} {σ2 : St} {H4 : Hp} {D : Addr}
/-- the inner walk -/
theorem lc_in (w : Walk J1 n1 G1 Y1) (Pw : Nat → Hp → Prop) {Nx : Hp → Prop} (h0 : Pw 0 H4) (hG : ∀ i H, i ≤ n1 → Pw i H → G1 H)
    (hs : ∀ i x H H', i < n1 → Pw i H → Y1 i H x H' → g1 x (wipe σ2 vs1) H' fun σ3 H5 => wipe σ3 vs1 = wipe σ2 vs1 ∧ tt1 σ3 H5 fun b H6 =>
      if b = true then te σ3 H6 fun y H7 => ∃ acc, H7 D = some (.lst acc) ∧ acc.length < sizeLine ∧ Pw (i + 1) (upd H7 D (.lst (acc ++ [y]))) else Pw (i + 1) H6) (hd : ∀ H, Pw n1 H → Nx H) :
    ∃ W1 : Nat → Nat → Hp → Prop, (∃ m, W1 0 m H4) ∧ ∀ j k H, W1 j k H →
      (J1.stop j H ∧ Nx H) ∨ (J1.go j H ∧ ∃ Nx1 : Hp → Prop, (∀ H', Nx1 H' → ∃ k', k' < k ∧ W1 (j + 1) k' H') ∧ ∀ x H', J1.yld j H x H' → g1 x (wipe σ2 vs1) H' fun σ3 H5 => wipe σ3 vs1 = wipe σ2 vs1 ∧ tt1 σ3 H5 fun b H6 =>
        if b = true then te σ3 H6 fun y H7 => ∃ acc, H7 D = some (.lst acc) ∧ acc.length < sizeLine ∧ Nx1 (upd H7 D (.lst (acc ++ [y]))) else Nx1 H6) := by
  refine ⟨fun i m H => m = n1 - i ∧ i ≤ n1 ∧ Pw i H, ⟨n1, by simp, Nat.zero_le _, h0⟩, ?_⟩
  rintro i m H ⟨rfl, hi, p⟩
  have q := hG i H hi p
  by_cases hlt : i < n1
  · refine .inr ⟨w.goes i H hlt q, Pw (i + 1), fun H' p' => ⟨n1 - (i + 1), by omega, rfl, hlt, p'⟩, fun x H' y => hs i x H H' hlt p (w.yields i H x H' hlt q y)⟩
  · have e : i = n1 := by omega
    subst e
    exact .inl ⟨w.stops H q, hd H p⟩
/-- the outer one: A asks of an item what its own loop does, up to what comes next -/
theorem lc_out {H1 : Hp} {Qd : Hp → Prop} (w : Walk J n G Y) (A : V → Hp → (Hp → Prop) → Prop) (Pv : Nat → Hp → Prop) (h0 : Pv 0 (upd H1 D (.lst []))) (hG : ∀ i H, i ≤ n → Pv i H → G H)
    (hs : ∀ i x H H', i < n → Pv i H → Y i H x H' → A x H' (Pv (i + 1))) (hd : ∀ H, Pv n H → Qd H) :
    ∃ W : Nat → Nat → Hp → Prop, (∃ m, W 0 m (upd H1 D (.lst []))) ∧ ∀ i m H, W i m H →
      (J.stop i H ∧ Qd H) ∨ (J.go i H ∧ ∃ Nx : Hp → Prop, (∀ H', Nx H' → ∃ m', m' < m ∧ W (i + 1) m' H') ∧ ∀ x H', J.yld i H x H' → A x H' Nx) := by
  refine ⟨fun i m H => m = n - i ∧ i ≤ n ∧ Pv i H, ⟨n, by simp, Nat.zero_le _, h0⟩, ?_⟩
  rintro i m H ⟨rfl, hi, p⟩
  have q := hG i H hi p
  by_cases hlt : i < n
  · refine .inr ⟨w.goes i H hlt q, Pv (i + 1), fun H' p' => ⟨n - (i + 1), by omega, rfl, hlt, p'⟩, fun x H' y => hs i x H H' hlt p (w.yields i H x H' hlt q y)⟩
  · have e : i = n := by omega
    subst e
    exact .inl ⟨w.stops H q, hd H p⟩
end
theorem yesT {σ : St} {H : Hp} {A : Bool → Hp → Prop} (h : A true H) : tYes σ H A := h
end Kit

end
section
set_option Elab.async false
set_option linter.all false
set_option maxRecDepth 100000
set_option maxHeartbeats 4000000
namespace Kit
open PySem PySem.Spec PyProof.Rows L2
theorem itP {c : Prop} [Decidable c] {A B : Prop} (h : c) (x : A) : if c then A else B := by
  rw [if_pos h]
  exact x
/-! ### texts cut at one sign -/
/-- the pieces of l between the signs c -/
def cutc (c : Nat) : List Nat → List Nat → List (List Nat)
  | acc, [] => [acc]
  | acc, d :: r => if d = c then acc :: cutc c [] r else cutc c (acc ++ [d]) r
theorem spl_cutc (c : Nat) : ∀ l acc, TL.spl [c] 0 acc l = cutc c acc l
  | [], acc => TL.spl_nil _ _ _
  | d :: r, acc => by
    have e : TL.pre [c] (d :: r) = decide (d = c) := by
      unfold TL.pre
      show ([d] == [c]) = _
      by_cases h : d = c
      · rw [h, decide_eq_true rfl]; exact beq_self_eq_true _
      · rw [decide_eq_false h]
        exact beq_eq_false_iff_ne.mpr fun q => h (List.head_eq_of_cons_eq q)
    by_cases h : d = c
    · rw [TL.spl_hit (by rw [e, decide_eq_true h])]
      show acc :: TL.spl [c] 0 [] r = _
      rw [spl_cutc c r []]
      show _ = if d = c then _ else _
      rw [if_pos h]
    · rw [TL.spl_miss (by rw [e, decide_eq_false h]), spl_cutc c r _]
      show _ = if d = c then _ else _
      rw [if_neg h]
theorem split1 (l : List Nat) {c : Nat} (hc : c < 256) : Txt.split (S l) (S [c]) = (cutc c [] l).map S := by
  refine TL.map_tl_inj ?_
  rw [TL.split_spl _ _ (show [c] ≠ [] from nofun) (TL.kind_ok (by show (#[c]).all (· < 256) = true; simp [hc])), List.map_map]
  show TL.spl [c] 0 [] l = _
  rw [spl_cutc]
  have : (TL.tl ∘ S) = id := funext fun x => rfl
  rw [this, List.map_id]
theorem cutc_none {c : Nat} : ∀ {l acc : List Nat}, c ∉ l → cutc c acc l = [acc ++ l]
  | [], acc, _ => by rw [List.append_nil]; rfl
  | d :: r, acc, h => by
    have h1 : d ≠ c := fun e => h (by rw [e]; exact List.mem_cons_self)
    show (if d = c then _ else _) = _
    rw [if_neg h1, cutc_none fun m => h (List.mem_cons_of_mem _ m), List.append_assoc]
    rfl
theorem cutc_at {c : Nat} : ∀ {u acc v : List Nat}, c ∉ u → cutc c acc (u ++ c :: v) = (acc ++ u) :: cutc c [] v
  | [], acc, v, _ => by
    show (if c = c then _ else _) = _
    rw [if_pos rfl, List.append_nil]
  | d :: r, acc, v, h => by
    have h1 : d ≠ c := fun e => h (by rw [e]; exact List.mem_cons_self)
    show (if d = c then _ else _) = _
    rw [if_neg h1]
    show cutc c (acc ++ [d]) (r ++ c :: v) = _
    rw [cutc_at fun m => h (List.mem_cons_of_mem _ m), List.append_assoc]
    rfl
theorem cutc_len {c : Nat} : ∀ (l acc : List Nat), (cutc c acc l).length = l.count c + 1
  | [], acc => rfl
  | d :: r, acc => by
    show (if d = c then acc :: cutc c [] r else cutc c (acc ++ [d]) r).length = _
    by_cases h : d = c
    · rw [if_pos h, List.length_cons, cutc_len r, h, List.count_cons_self]
    · rw [if_neg h, cutc_len r, List.count_cons_of_ne (Ne.symm (Ne.symm h))]
theorem count1 (l : List Nat) (c : Nat) : Txt.count (S l) (S [c]) = (l.count c : Int) := by
  have e : Txt.count (S l) (S [c]) = cnt c l := count_is (S l) c
  rw [e]
  induction l with
  | nil => rfl
  | cons d r ih =>
    rw [cnt_cons, ih (by exact count_is (S r) c)]
    by_cases h : d = c
    · rw [if_pos h, h, List.count_cons_self]; omega
    · rw [if_neg h, List.count_cons_of_ne (Ne.symm (Ne.symm h))]; omega
/-- a list with c in it, cut at the first one -/
theorem first_cut {c : Nat} : ∀ {l : List Nat}, c ∈ l → ∃ u v, l = u ++ c :: v ∧ c ∉ u
  | d :: r, h => by
    by_cases e : d = c
    · exact ⟨[], r, by rw [e]; rfl, nofun⟩
    · rcases List.mem_cons.mp h with q | q
      · exact absurd q.symm e
      · obtain ⟨u, v, rfl, hu⟩ := first_cut q
        exact ⟨d :: u, v, rfl, fun m => (List.mem_cons.mp m).elim (fun z => e z.symm) hu⟩
theorem count_zero {c : Nat} {l : List Nat} : l.count c = 0 ↔ c ∉ l := List.count_eq_zero
/-- just one c -/
theorem one_cut {c : Nat} {l : List Nat} (h : l.count c = 1) : ∃ u v, l = u ++ c :: v ∧ c ∉ u ∧ c ∉ v := by
  obtain ⟨u, v, rfl, hu⟩ := first_cut (show c ∈ l from List.count_pos_iff.mp (by omega))
  refine ⟨u, v, rfl, hu, ?_⟩
  rw [List.count_append, List.count_cons_self, count_zero.mpr hu] at h
  exact count_zero.mp (by omega)
theorem ends1 (l : List Nat) (c : Nat) : Txt.endswith (S l) (S [c]) = decide (l.drop (l.length - 1) = [c]) := by
  unfold Txt.endswith
  rw [S_len, S_len]
  show (decide (0 + 1 ≤ l.length) && PySem.Builtin.Str.subAt (S l) (S [c]) (l.length - 1)) = _
  by_cases z : 1 ≤ l.length
  · rw [decide_eq_true (by omega), Bool.true_and]
    have e := StrLaws.subAt_one (S l) c (l.length - 1)
    have k : ((S l).cps.toList[l.length - 1]? = some c) ↔ l.drop (l.length - 1) = [c] := by
      show l[l.length - 1]? = some c ↔ _
      have dl : (l.drop (l.length - 1)).length = 1 := by rw [List.length_drop]; omega
      have d0 : (l.drop (l.length - 1))[0]? = l[l.length - 1]? := by rw [List.getElem?_drop, Nat.add_zero]
      rw [← d0]
      match l.drop (l.length - 1), dl with
      | [x], _ =>
        constructor
        · intro h; cases h; rfl
        · intro h; cases h; rfl
    have g : (PySem.Builtin.Str.subAt (S l) (S [c]) (l.length - 1) = true) ↔ l.drop (l.length - 1) = [c] :=
      ⟨fun h => k.mp (e.mp ⟨by rw [S_len]; show l.length - 1 + 1 ≤ _; omega, h⟩), fun h => (e.mpr (k.mpr h)).2⟩
    by_cases q : l.drop (l.length - 1) = [c]
    · rw [decide_eq_true q]
      exact g.mpr q
    · rw [decide_eq_false q]
      exact Bool.eq_false_iff.mpr fun h => q (g.mp h)
  · rw [decide_eq_false (by omega), Bool.false_and, decide_eq_false]
    intro q
    have := congrArg List.length q
    rw [List.length_drop] at this
    simp at this
    omega
theorem sIx_m1 (n d : Nat) : HT.sIx n d (some (-1)) = n - 1 := by
  show (if (-1 : Int) < 0 then ((-1 : Int) + (n : Int)).toNat else min (-1 : Int).toNat n) = n - 1
  rw [if_pos (by decide)]
  omega
/-- l[-1:] -/
theorem cut_end (l : List Nat) : cutS (S l) (some (-1)) none = S (l.drop (l.length - 1)) := by
  rw [cut_S, sIx_m1]
  show S ((l.drop (l.length - 1)).take (l.length - (l.length - 1))) = _
  rw [List.take_of_length_le (by rw [List.length_drop]; omega)]
/-- l[:-1] -/
theorem cut_init (l : List Nat) : cutS (S l) none (some (-1)) = S (l.take (l.length - 1)) := by
  rw [cut_S, sIx_m1]
  show S ((l.drop 0).take (l.length - 1 - 0)) = _
  rw [List.drop_zero, Nat.sub_zero]
/-- l[i:-1] -/
theorem cut_in (l : List Nat) (i : Nat) : cutS (S l) (some (i : Int)) (some (-1)) = S ((l.take (l.length - 1)).drop i) := by
  rw [cut_S, sIx_m1, HT.sIx_nat, List.drop_take]
  by_cases h : i ≤ l.length
  · rw [Nat.min_eq_left h]
  · rw [Nat.min_eq_right (by omega), List.drop_eq_nil_of_le (Nat.le_refl _), List.drop_eq_nil_of_le (by omega)]
    simp
end Kit

end
section
set_option Elab.async false
set_option linter.all false
set_option maxRecDepth 100000
set_option maxHeartbeats 4000000
namespace Kit
open PySem PySem.Spec PyProof.Rows L2
section
variable {X : Cx} {k j : Nat} {C : Addr} {m : Str} {sp : Sp} {o : Expr} {pos apos : Pos} {ta : TE}
/-- C.m(), m a classmethod -/
theorem pc_cm0 {pl : Sem Bool} (c : CanC X.prog X.w X.K X.mg X.base k C m sp) (hr : Room j X.A) (hk : k ≤ j) (he : PE X o ta)
    (ht : eval (.Call (.Attribute o m apos) [] [] pos) X.env = (do
      let ov ← eval o X.env
      standAt apos.atName
      let (f, first) ← holding [ov] (getMethod ov m pl)
      callWith pos f first (backTo pos (starEach [] X.env)) (backToKw pos (keywordEach [] X.env))) := by rfl) :
    PE X (.Call (.Attribute o m apos) [] [] pos) (tCm0 C sp ta tNil) := by
  obtain ⟨mc, pp, g, fd, ps, F, r, cm, b⟩ := c.ex
  refine ⟨fun pins s σ H Q I h => ?_⟩
  refine PySem.W.methodCall_KW (pl := pl) (thn (he.run pins s σ H _ I h) fun u s1 ⟨x, H1, I1, rx, ex, q⟩ => ?_) ht
  subst ex
  obtain rfl : u = Value.ref C := rx
  refine ClX.getmethcm_ok I1 r cm fun s2 I2 => ?_
  exact PySem.W.callWith_M0 (first := []) ⟨ClX.pin_at I2, I2.kIn⟩ cm.fi (ClX.run_cm (us := []) (vs := []) (F.raw b .nil) (hr.mono hk) passL I2 .nil q)
end
end Kit

end
section
set_option Elab.async false
set_option linter.all false
set_option maxRecDepth 100000
set_option maxHeartbeats 4000000
namespace Kit
open PySem PySem.Spec PyProof.Rows L2
/-! ### enumerate(zip(..)): the zip's own tuple may be out, alive or not -/
abbrev IsZ (h : Heap) (z TI TO : Addr) (v : Value) (f : Bool) : Prop := h.get? z = some { cls := .type "zip", dict := none, data := .fields #[v, .bool f, .bool false, .ref TI, .ref TO], slots := #[] }
def OutV (v : Value) : Prop := v = .none ∨ ∃ T : Addr, v = rawInt T
section
variable {prog : Program} {w : World} {A : Around} {E : Value → Shared → Prop} {s : Shared} {z TI TO i1 i2 : Addr} {fp1 fp2 : List Addr} {n1 n2 i : Nat} {P1 P2 : Nat → Value → Prop} {St1 St2 : Nat → Heap → Prop} {v : Value} {f : Bool}
theorem alive_any {a : Addr} {Q : Option Obj → Shared → Prop} (h : Q (s.heap.get? a) s) : wpAny (model prog w) A (loadIfAlive a) Q E s := fun _ _ _ => h
theorem free_zip {Q : Bool → Shared → Prop} (hz : IsZ s.heap z TI TO v f) (hv : OutV v) (h : ∀ b h' f', IsZ h' z TI TO v f' → Heap.SameBut z s.heap h' → Q b { s with heap := h' }) :
    wpAny (model prog w) A (Builtin.SmallTypes.ownedTupleIsFree (.ref z)) Q E s := by
  unfold Builtin.SmallTypes.ownedTupleIsFree
  refine wpAny_bind (wpAny_field hz rfl (x := v) rfl ?_)
  rcases hv with rfl | ⟨T, rfl⟩
  · exact wpAny_pure (h true s.heap f hz (Heap.SameBut.refl _ _))
  · refine wpAny_bind (show wpAny _ _ (loadIfAlive ((T : Int).toNat)) _ _ _ from alive_any ?_)
    generalize s.heap.get? (T : Int).toNat = o?
    cases o? with
    | none => exact wpAny_pure (h true s.heap f hz (Heap.SameBut.refl _ _))
    | some o =>
      simp only [Option.isNone_some, Bool.false_eq_true, if_false]
      refine wpAny_bind (wpAny_field hz rfl (x := .bool f) rfl ?_)
      cases f with
      | true =>
        rw [if_neg (show ¬ ((Value.bool true != Value.bool true) = true) from Bool.false_ne_true)]
        exact wpAny_pure (h false s.heap true hz (Heap.SameBut.refl _ _))
      | false =>
        rw [if_pos (show (Value.bool false != Value.bool true) = true from rfl)]
        exact wpAny_bind (wpAny_setField_rec hz (by simp) fun h₁ hz₁ hs₁ => wpAny_pure (h false h₁ true hz₁ hs₁))
/-- the record after one of its writes -/
theorem set0 {Q : Unit → Shared → Prop} {v2 : Value} (hz : IsZ s.heap z TI TO v f) (h : ∀ h', IsZ h' z TI TO v2 f → Heap.SameBut z s.heap h' → Q () { s with heap := h' }) : wpAny (model prog w) A (setField (.ref z) 0 v2) Q E s :=
  wpAny_setField_rec hz (by simp) fun h' hz' hs' => h h' hz' hs'
theorem zipZ_item {Q : Value → Shared → Prop} (S : ZipSep2 z TI TO i1 i2 fp1 fp2) (D1 : Draws prog w A i1 fp1 n1 P1 St1) (D2 : Draws prog w A i2 fp2 n2 P2 St2)
    (hz : IsZ s.heap z TI TO v f) (hv : OutV v) (hTI : IsTupOf2 s.heap TI (.ref i1) (.ref i2)) (hTO : ∃ a1 a2, IsTupOf2 s.heap TO a1 a2) (st1 : St1 i s.heap) (st2 : St2 i s.heap) (l1 : i < n1) (l2 : i < n2)
    (hQ : ∀ x1 x2 h' tk, P1 i x1 → P2 i x2 → (∃ v' f', IsZ h' z TI TO v' f' ∧ OutV v') → (∃ a1 a2, IsTupOf2 h' TO a1 a2) → St1 (i + 1) h' → St2 (i + 1) h' → IsTupOf2 h' s.heap.objs.size x1 x2 → h'.objs.size = s.heap.objs.size + 1 →
      (∀ c o, c ≠ z → c ≠ TO → c ≠ i1 → c ≠ i2 → s.heap.get? c = some o → h'.get? c = some o) → Q (.ref s.heap.objs.size) { s with heap := h', toks := tk }) :
    wpAny (model prog w) A (Builtin.«zip.__next__» ⟨[.ref z], []⟩) (fun fin s' => ∃ v, fin = .done (.ret v) ∧ Q v s') E s := by
  obtain ⟨hp, g, d, tk0, os⟩ := s
  obtain ⟨a1, a2, hTO⟩ := hTO
  show wpAny _ _ (field (.ref z) 2 >>= _) _ _ _
  refine wpAny_bind (wpAny_field hz rfl (x := .bool false) rfl ?_)
  show wpAny _ _ (field (.ref z) 3 >>= _) _ _ _
  refine wpAny_bind (wpAny_field hz rfl (x := .ref TI) rfl (wpAny_bind (wpAny_seqItems hTI rfl ?_)))
  show wpAny _ _ (Builtin.SmallTypes.ownedTupleIsFree (.ref z) >>= _) _ _ _
  refine wpAny_bind (free_zip hz hv fun b g0 f0 hz0 hs0 => ?_)
  replace hs0 : Heap.SameBut z hp g0 := hs0
  cases b with
  | true =>
    simp only [if_true]
    refine wpAny_bind (wpAny_rule (wpAny_bind (wpAny_field hz0 rfl (x := .ref TO) rfl (wpAny_bind (set0 hz0 fun g1 hz1 hs1 => ?_)))))
    replace hs1 : Heap.SameBut z g0 g1 := hs1
    have k01 : ∀ c o, c ≠ z → hp.get? c = some o → g1.get? c = some o := fun c o n e => hs1.extBut _ _ n (hs0.extBut _ _ n e)
    refine wpAny_bind ?_
    simp only [List.zipIdx_cons, List.zipIdx_nil, List.forIn_cons, List.forIn_nil]
    refine wpAny_bind (wpAny_bind (wpAny_onRaise ?_))
    show wpAny _ _ (Builtin.SmallTypes.nextOf (.ref i1) >>= _) _ _ ⟨g1, g, d, tk0, os⟩
    refine wpAny_bind (D1.item i _ _ _ l1 (D1.over (D1.over st1 hs0 S.zf1) hs1 S.zf1) fun x1 p1 tk1 hx1 sn1 hp1 => wpAny_pure ?_)
    replace hp1 : Heap.SameBut i1 g1 p1 := hp1
    have hU1 : IsTupOf2 p1 TO a1 a2 := hp1.extBut _ _ S.Ti1 (k01 _ _ S.TOz hTO)
    refine wpAny_bind (wpAny_seqItems (s := ⟨p1, g, d, tk1, os⟩) hU1 rfl (wpAny_bind (updateSeq_IsTupOf2 (s := ⟨p1, g, d, tk1, os⟩) hU1 fun q1 hT1 hs2 => ?_)))
    replace hT1 : IsTupOf2 q1 TO x1 a2 := hT1
    replace hs2 : Heap.SameBut TO p1 q1 := hs2
    refine wpAny_bind (wpAny_letGo (wpAny_pure (wpAny_bind (wpAny_bind (wpAny_onRaise ?_)))))
    show wpAny _ _ (Builtin.SmallTypes.nextOf (.ref i2) >>= _) _ _ ⟨q1, g, d, tk1, os⟩
    refine wpAny_bind (D2.item i _ _ _ l2 (D2.over (D2.over (D2.over (D2.over st2 hs0 S.zf2) hs1 S.zf2) hp1 S.sep1_2) hs2 S.Tf2) fun x2 p2 tk2 hx2 sn2 hp2 => wpAny_pure ?_)
    replace hp2 : Heap.SameBut i2 q1 p2 := hp2
    have hU2 : IsTupOf2 p2 TO x1 a2 := hp2.extBut _ _ S.Ti2 hT1
    refine wpAny_bind (wpAny_seqItems (s := ⟨p2, g, d, tk2, os⟩) hU2 rfl (wpAny_bind (updateSeq_IsTupOf2 (s := ⟨p2, g, d, tk2, os⟩) hU2 fun q2 hT2 hs3 => ?_)))
    replace hT2 : IsTupOf2 q2 TO x1 x2 := hT2
    replace hs3 : Heap.SameBut TO p2 q2 := hs3
    refine wpAny_bind (wpAny_letGo (wpAny_pure (wpAny_pure ?_)))
    refine wpAny_bind (wpAny_seqItems (s := ⟨q2, g, d, tk2, os⟩) hT2 rfl (wpAny_bind (wpAny_newTuple ?_)))
    have hsz : q2.objs.size = hp.objs.size := by rw [hs3.1, hp2.1, hs2.1, hp1.1, hs1.1, hs0.1]
    have hzz : IsZ q2 z TI TO .ellipsis f0 := hs3.extBut _ _ S.TOz.symm (hp2.extBut _ _ S.zi2 (hs2.extBut _ _ S.TOz.symm (hp1.extBut _ _ S.zi1 hz1)))
    have hkk : ∀ c o, c ≠ z → c ≠ TO → c ≠ i1 → c ≠ i2 → hp.get? c = some o → q2.get? c = some o := fun c o cz cT c1 c2 e =>
      hs3.extBut _ _ cT (hp2.extBut _ _ c2 (hs2.extBut _ _ cT (hp1.extBut _ _ c1 (k01 _ _ cz e))))
    have hj1 : St1 (i + 1) q2 := D1.over (D1.over (D1.over sn1 hs2 S.Tf1) hp2 S.sep2_1) hs3 S.Tf1
    have hj2 : St2 (i + 1) q2 := D2.over sn2 hs3 S.Tf2
    have hzlt : z < q2.objs.size := Heap.lt_size hzz
    show wpAny _ _ (Builtin.SmallTypes.ownedTupleHandOut (.ref z) (.ref q2.objs.size) >>= _) _ _ ⟨q2.push { cls := .type "tuple", data := .seq #[x1, x2] }, g, d, tk2, os⟩
    refine wpAny_bind ?_
    unfold Builtin.SmallTypes.ownedTupleHandOut
    refine wpAny_bind (set0 (f := f0) (Heap.get?_push_of_some _ hzz) fun h₇ hz₇ hs₇ => ?_)
    replace hz₇ : IsZ h₇ z TI TO (rawInt q2.objs.size) f0 := hz₇
    refine wpAny_setField_rec hz₇ (by simp) fun h₈ hz₈ hs₈ => ?_
    replace hz₈ : IsZ h₈ z TI TO (rawInt q2.objs.size) false := hz₈
    replace hs₇ : Heap.SameBut z (q2.push { cls := .type "tuple", data := .seq #[x1, x2] }) h₇ := hs₇
    replace hs₈ : Heap.SameBut z h₇ h₈ := hs₈
    have up : ∀ c o, c ≠ z → q2.get? c = some o → h₈.get? c = some o := fun c o c1 e => hs₈.extBut _ _ c1 (hs₇.extBut _ _ c1 (Heap.get?_push_of_some _ e))
    have hT₈ : IsTupOf2 h₈ q2.objs.size x1 x2 := hs₈.extBut _ _ (Nat.ne_of_gt hzlt) (hs₇.extBut _ _ (Nat.ne_of_gt hzlt) (Heap.get?_push_size _ rfl))
    have hz8 : h₈.objs.size = q2.objs.size + 1 := by rw [hs₈.1, hs₇.1, Heap.size_push]
    rw [hsz] at hz₈ hT₈ hz8
    refine wpAny_pure ⟨_, rfl, ?_⟩
    show Q (.ref q2.objs.size) ⟨h₈, g, d, tk2, os⟩
    rw [hsz]
    exact hQ x1 x2 h₈ tk2 hx1 hx2 ⟨_, _, hz₈, .inr ⟨_, rfl⟩⟩ ⟨_, _, up _ _ S.TOz hT2⟩ (D1.frame _ _ _ hj1 fun b hb o e => up b o (fun q => S.zf1 (q ▸ hb)) e) (D2.frame _ _ _ hj2 fun b hb o e => up b o (fun q => S.zf2 (q ▸ hb)) e) hT₈ hz8
      fun c o cz cT c1 c2 e => up c o cz (hkk c o cz cT c1 c2 e)
  | false =>
    simp only [Bool.false_eq_true, if_false]
    refine wpAny_bind ?_
    rw [← Array.forIn_toList]
    simp only [List.forIn_cons, List.forIn_nil]
    refine wpAny_bind (wpAny_bind (wpAny_holding ?_))
    show wpAny _ _ (Builtin.SmallTypes.nextOf (.ref i1) >>= _) _ _ ⟨g0, g, d, tk0, os⟩
    refine wpAny_bind (D1.item i _ _ _ l1 (D1.over st1 hs0 S.zf1) fun x1 p1 tk1 hx1 sn1 hp1 => wpAny_pure (wpAny_pure ?_))
    replace hp1 : Heap.SameBut i1 g0 p1 := hp1
    refine wpAny_bind (wpAny_bind (wpAny_holding ?_))
    show wpAny _ _ (Builtin.SmallTypes.nextOf (.ref i2) >>= _) _ _ ⟨p1, g, d, tk1, os⟩
    refine wpAny_bind (D2.item i _ _ _ l2 (D2.over (D2.over st2 hs0 S.zf2) hp1 S.sep1_2) fun x2 p2 tk2 hx2 sn2 hp2 => wpAny_pure (wpAny_pure (wpAny_pure ?_)))
    replace hp2 : Heap.SameBut i2 p1 p2 := hp2
    show wpAny _ _ (newTuple [x1, x2] >>= _) _ _ ⟨p2, g, d, tk2, os⟩
    refine wpAny_bind (wpAny_newTuple ?_)
    have hsz : p2.objs.size = hp.objs.size := by rw [hp2.1, hp1.1, hs0.1]
    have hk : ∀ c o, c ≠ z → c ≠ i1 → c ≠ i2 → hp.get? c = some o → p2.get? c = some o := fun c o c1 c2 c3 e => hp2.extBut _ _ c3 (hp1.extBut _ _ c2 (hs0.extBut _ _ c1 e))
    have hz3 : IsZ p2 z TI TO v f0 := hp2.extBut _ _ S.zi2 (hp1.extBut _ _ S.zi1 hz0)
    have hp3 : IsTupOf2 (p2.push { cls := .type "tuple", data := .seq #[x1, x2] }) p2.objs.size x1 x2 := Heap.get?_push_size _ rfl
    have hz4 : (p2.push { cls := .type "tuple", data := .seq #[x1, x2] }).objs.size = p2.objs.size + 1 := Heap.size_push ..
    refine wpAny_pure ⟨_, rfl, ?_⟩
    show Q (.ref p2.objs.size) _
    rw [hsz] at hp3 hz4 ⊢
    exact hQ x1 x2 _ tk2 hx1 hx2 ⟨_, _, Heap.get?_push_of_some _ hz3, hv⟩ ⟨_, _, Heap.get?_push_of_some _ (hk _ _ S.TOz S.Ti1 S.Ti2 hTO)⟩ (D1.frame _ _ _ (D1.over sn1 hp2 S.sep2_1) fun b hb o e => Heap.get?_push_of_some _ e) (D2.frame _ _ _ sn2 fun b hb o e => Heap.get?_push_of_some _ e) hp3 hz4
      fun c o cz cT c1 c2 e => Heap.get?_push_of_some _ (hk c o cz c1 c2 e)
theorem zipZ_end {Q : Fin → Shared → Prop} (S : ZipSep2 z TI TO i1 i2 fp1 fp2) (D1 : Draws prog w A i1 fp1 n1 P1 St1) (D2 : Draws prog w A i2 fp2 n2 P2 St2)
    (hz : IsZ s.heap z TI TO v f) (hv : OutV v) (hTI : IsTupOf2 s.heap TI (.ref i1) (.ref i2)) (hTO : ∃ a1 a2, IsTupOf2 s.heap TO a1 a2) (st1 : St1 i s.heap) (st2 : St2 i s.heap) (l1 : i ≤ n1) (l2 : i ≤ n2) (hend : i = n1 ∨ i = n2)
    (hE : ∀ h' tk e, (∀ c o, c ≠ z → c ≠ TO → c ≠ i1 → c ≠ i2 → s.heap.get? c = some o → h'.get? c = some o) → (∃ o, h'.get? e = some o ∧ o.cls = .type "StopIteration") → E (.ref e) { s with heap := h', toks := tk }) :
    wpAny (model prog w) A (Builtin.«zip.__next__» ⟨[.ref z], []⟩) Q E s := by
  obtain ⟨hp, g, d, tk0, os⟩ := s
  obtain ⟨a1, a2, hTO⟩ := hTO
  show wpAny _ _ (field (.ref z) 2 >>= _) _ _ _
  refine wpAny_bind (wpAny_field hz rfl (x := .bool false) rfl ?_)
  show wpAny _ _ (field (.ref z) 3 >>= _) _ _ _
  refine wpAny_bind (wpAny_field hz rfl (x := .ref TI) rfl (wpAny_bind (wpAny_seqItems hTI rfl ?_)))
  show wpAny _ _ (Builtin.SmallTypes.ownedTupleIsFree (.ref z) >>= _) _ _ _
  refine wpAny_bind (free_zip hz hv fun b g0 f0 hz0 hs0 => ?_)
  replace hs0 : Heap.SameBut z hp g0 := hs0
  cases b with
  | true =>
    simp only [if_true]
    refine wpAny_bind (wpAny_rule (wpAny_bind (wpAny_field hz0 rfl (x := .ref TO) rfl (wpAny_bind (set0 hz0 fun g1 hz1 hs1 => ?_)))))
    replace hs1 : Heap.SameBut z g0 g1 := hs1
    replace hz1 : IsZ g1 z TI TO .ellipsis f0 := hz1
    have k01 : ∀ c o, c ≠ z → hp.get? c = some o → g1.get? c = some o := fun c o n e => hs1.extBut _ _ n (hs0.extBut _ _ n e)
    have fin : ∀ (q : Heap) (tk : Tok) (e : Addr), IsZ q z TI TO .ellipsis f0 → (∀ c o, c ≠ z → c ≠ TO → c ≠ i1 → c ≠ i2 → hp.get? c = some o → q.get? c = some o) → (∃ o, q.get? e = some o ∧ o.cls = .type "StopIteration") →
        wpAny (model prog w) A (setField (.ref z) 0 .none) (fun _ s' => E (.ref e) s') E ⟨q, g, d, tk, os⟩ := fun q tk e hzq hk he => by
      obtain ⟨oe, hoe, hce⟩ := he
      have hez : e ≠ z := fun x => by subst x; rw [hzq] at hoe; cases hoe; simp at hce
      refine set0 (s := ⟨q, g, d, tk, os⟩) hzq fun q' _ hq' => ?_
      replace hq' : Heap.SameBut z q q' := hq'
      exact hE q' tk e (fun c o cz cT c1 c2 x => hq'.extBut _ _ cz (hk c o cz cT c1 c2 x)) ⟨oe, hq'.extBut _ _ hez hoe, hce⟩
    refine wpAny_bind ?_
    simp only [List.zipIdx_cons, List.zipIdx_nil, List.forIn_cons, List.forIn_nil]
    refine wpAny_bind (wpAny_bind (wpAny_onRaise ?_))
    show wpAny _ _ (Builtin.SmallTypes.nextOf (.ref i1) >>= _) _ _ ⟨g1, g, d, tk0, os⟩
    by_cases hlt1 : i < n1
    · refine wpAny_bind (D1.item i _ _ _ hlt1 (D1.over (D1.over st1 hs0 S.zf1) hs1 S.zf1) fun x1 p1 tk1 hx1 sn1 hp1 => wpAny_pure ?_)
      replace hp1 : Heap.SameBut i1 g1 p1 := hp1
      have hU1 : IsTupOf2 p1 TO a1 a2 := hp1.extBut _ _ S.Ti1 (k01 _ _ S.TOz hTO)
      refine wpAny_bind (wpAny_seqItems (s := ⟨p1, g, d, tk1, os⟩) hU1 rfl (wpAny_bind (updateSeq_IsTupOf2 (s := ⟨p1, g, d, tk1, os⟩) hU1 fun q1 hT1 hs2 => ?_)))
      replace hs2 : Heap.SameBut TO p1 q1 := hs2
      refine wpAny_bind (wpAny_letGo (wpAny_pure (wpAny_bind (wpAny_bind (wpAny_onRaise ?_)))))
      show wpAny _ _ (Builtin.SmallTypes.nextOf (.ref i2) >>= _) _ _ ⟨q1, g, d, tk1, os⟩
      have hi2 : i = n2 := by omega
      refine wpAny_bind (D2.done ⟨q1, g, d, tk1, os⟩ _ _ (by rw [← hi2]; exact D2.over (D2.over (D2.over (D2.over st2 hs0 S.zf2) hs1 S.zf2) hp1 S.sep1_2) hs2 S.Tf2) fun q e hq he => ?_)
      replace hq : Heap.ExtBut i2 q1 q := hq
      exact fin q tk1 e (hq _ _ S.zi2 (hs2.extBut _ _ S.TOz.symm (hp1.extBut _ _ S.zi1 hz1))) (fun c o cz cT c1 c2 x => hq _ _ c2 (hs2.extBut _ _ cT (hp1.extBut _ _ c1 (k01 _ _ cz x)))) he
    · have hi1 : i = n1 := by omega
      refine wpAny_bind (D1.done ⟨g1, g, d, tk0, os⟩ _ _ (by rw [← hi1]; exact D1.over (D1.over st1 hs0 S.zf1) hs1 S.zf1) fun q e hq he => ?_)
      replace hq : Heap.ExtBut i1 g1 q := hq
      exact fin q tk0 e (hq _ _ S.zi1 hz1) (fun c o cz cT c1 c2 x => hq _ _ c1 (k01 _ _ cz x)) he
  | false =>
    simp only [Bool.false_eq_true, if_false]
    refine wpAny_bind ?_
    rw [← Array.forIn_toList]
    simp only [List.forIn_cons, List.forIn_nil]
    refine wpAny_bind (wpAny_bind (wpAny_holding ?_))
    show wpAny _ _ (Builtin.SmallTypes.nextOf (.ref i1) >>= _) _ _ ⟨g0, g, d, tk0, os⟩
    by_cases hlt1 : i < n1
    · refine wpAny_bind (D1.item i _ _ _ hlt1 (D1.over st1 hs0 S.zf1) fun x1 p1 tk1 hx1 sn1 hp1 => wpAny_pure (wpAny_pure ?_))
      replace hp1 : Heap.SameBut i1 g0 p1 := hp1
      refine wpAny_bind (wpAny_bind (wpAny_holding ?_))
      show wpAny _ _ (Builtin.SmallTypes.nextOf (.ref i2) >>= _) _ _ ⟨p1, g, d, tk1, os⟩
      have hi2 : i = n2 := by omega
      refine wpAny_bind (D2.done ⟨p1, g, d, tk1, os⟩ _ _ (by rw [← hi2]; exact D2.over (D2.over st2 hs0 S.zf2) hp1 S.sep1_2) fun q e hq he => ?_)
      replace hq : Heap.ExtBut i2 p1 q := hq
      exact hE q tk1 e (fun c o cz _ c1 c2 x => hq _ _ c2 (hp1.extBut _ _ c1 (hs0.extBut _ _ cz x))) he
    · have hi1 : i = n1 := by omega
      refine wpAny_bind (D1.done ⟨g0, g, d, tk0, os⟩ _ _ (by rw [← hi1]; exact D1.over st1 hs0 S.zf1) fun q e hq he => ?_)
      replace hq : Heap.ExtBut i1 g0 q := hq
      exact hE q tk0 e (fun c o cz _ c1 _ x => hq _ _ c1 (hs0.extBut _ _ cz x)) he
/-- as an iterator within another one asks it -/
theorem nextZ_item {Q : Value → Shared → Prop} (S : ZipSep2 z TI TO i1 i2 fp1 fp2) (D1 : Draws prog w A.in1 i1 fp1 n1 P1 St1) (D2 : Draws prog w A.in1 i2 fp2 n2 P2 St2)
    (hz : IsZ s.heap z TI TO v f) (hv : OutV v) (hTI : IsTupOf2 s.heap TI (.ref i1) (.ref i2)) (hTO : ∃ a1 a2, IsTupOf2 s.heap TO a1 a2) (st1 : St1 i s.heap) (st2 : St2 i s.heap) (l1 : i < n1) (l2 : i < n2)
    (hQ : ∀ x1 x2 h' tk, P1 i x1 → P2 i x2 → (∃ v' f', IsZ h' z TI TO v' f' ∧ OutV v') → (∃ a1 a2, IsTupOf2 h' TO a1 a2) → St1 (i + 1) h' → St2 (i + 1) h' → IsTupOf2 h' s.heap.objs.size x1 x2 → h'.objs.size = s.heap.objs.size + 1 →
      (∀ c o, c ≠ z → c ≠ TO → c ≠ i1 → c ≠ i2 → s.heap.get? c = some o → h'.get? c = some o) → Q (.ref s.heap.objs.size) { s with heap := h', toks := tk }) :
    wpAny (model prog w) A (Builtin.SmallTypes.nextOf (.ref z)) Q E s := by
  have hT : s.TypeIs (.ref z) "zip" := ⟨_, hz, rfl⟩
  unfold Builtin.SmallTypes.nextOf
  exact wpAny_bind (wpAny_callSpecial?_slot (name := Str.ofString "__next__") hT F.slot_zip_next (wpAny_call_entry F.slot_zip_next hT F.entry_zip_next
    (zipZ_item S D1 D2 hz hv hTI hTO st1 st2 l1 l2 fun x1 x2 h' tk b1 b2 b3 b4 b5 b6 b7 b8 b9 => wpAny_pure (hQ x1 x2 h' tk b1 b2 b3 b4 b5 b6 b7 b8 b9)) (F.args_zip_next_1 _)))
theorem nextZ_end {Q : Value → Shared → Prop} (S : ZipSep2 z TI TO i1 i2 fp1 fp2) (D1 : Draws prog w A.in1 i1 fp1 n1 P1 St1) (D2 : Draws prog w A.in1 i2 fp2 n2 P2 St2)
    (hz : IsZ s.heap z TI TO v f) (hv : OutV v) (hTI : IsTupOf2 s.heap TI (.ref i1) (.ref i2)) (hTO : ∃ a1 a2, IsTupOf2 s.heap TO a1 a2) (st1 : St1 i s.heap) (st2 : St2 i s.heap) (l1 : i ≤ n1) (l2 : i ≤ n2) (hend : i = n1 ∨ i = n2)
    (hE : ∀ h' tk e, (∀ c o, c ≠ z → c ≠ TO → c ≠ i1 → c ≠ i2 → s.heap.get? c = some o → h'.get? c = some o) → (∃ o, h'.get? e = some o ∧ o.cls = .type "StopIteration") → E (.ref e) { s with heap := h', toks := tk }) :
    wpAny (model prog w) A (Builtin.SmallTypes.nextOf (.ref z)) Q E s := by
  have hT : s.TypeIs (.ref z) "zip" := ⟨_, hz, rfl⟩
  unfold Builtin.SmallTypes.nextOf
  exact wpAny_bind (wpAny_callSpecial?_slot (name := Str.ofString "__next__") hT F.slot_zip_next (wpAny_call_entry F.slot_zip_next hT F.entry_zip_next
    (zipZ_end S D1 D2 hz hv hTI hTO st1 st2 l1 l2 hend hE) (F.args_zip_next_1 _)))
structure EnumSep (e z TI TO i1 i2 : Addr) (fp1 fp2 : List Addr) : Prop extends ZipSep2 z TI TO i1 i2 fp1 fp2 where
  ez : e ≠ z
  eTI : e ≠ TI
  eTO : e ≠ TO
  e1 : e ∉ fp1
  e2 : e ∉ fp2
theorem EnumSep.ei1 {e : Addr} (S : EnumSep e z TI TO i1 i2 fp1 fp2) : e ≠ i1 := fun q => S.e1 (q ▸ S.mem1)
theorem EnumSep.ei2 {e : Addr} (S : EnumSep e z TI TO i1 i2 fp1 fp2) : e ≠ i2 := fun q => S.e2 (q ▸ S.mem2)
theorem enumZ_item {e : Addr} {c : Int} {old : Value} {Q : Value → Shared → Prop} (S : EnumSep e z TI TO i1 i2 fp1 fp2) (D1 : Draws prog w A.in1 i1 fp1 n1 P1 St1) (D2 : Draws prog w A.in1 i2 fp2 n2 P2 St2) (he : IsEnum s.heap e z c old)
    (hz : IsZ s.heap z TI TO v f) (hv : OutV v) (hTI : IsTupOf2 s.heap TI (.ref i1) (.ref i2)) (hTO : ∃ a1 a2, IsTupOf2 s.heap TO a1 a2) (st1 : St1 i s.heap) (st2 : St2 i s.heap) (l1 : i < n1) (l2 : i < n2)
    (hQ : ∀ x1 x2 h' tk, P1 i x1 → P2 i x2 → IsEnumOut h' e z (c + 1) (.ref s.heap.objs.size) (s.heap.objs.size + 1) → (∃ v' f', IsZ h' z TI TO v' f' ∧ OutV v') → (∃ a1 a2, IsTupOf2 h' TO a1 a2) → St1 (i + 1) h' → St2 (i + 1) h' →
      IsTupOf2 h' s.heap.objs.size x1 x2 → IsTupOf2 h' (s.heap.objs.size + 1) (.int c tk) (.ref s.heap.objs.size) → h'.objs.size = s.heap.objs.size + 2 →
      (∀ b o, b ≠ e → b ≠ z → b ≠ TO → b ≠ i1 → b ≠ i2 → s.heap.get? b = some o → h'.get? b = some o) → Q (.ref (s.heap.objs.size + 1)) { s with heap := h', toks := tk + 1 }) :
    wpAny (model prog w) A (Builtin.«enumerate.__next__» ⟨[.ref e], []⟩) (fun fin s' => ∃ v, fin = .done (.ret v) ∧ Q v s') E s := by
  obtain ⟨hp, g, d, tk₀, os⟩ := s
  show wpAny _ _ (field (.ref e) 2 >>= _) _ _ _
  refine wpAny_bind (wpAny_field he rfl (x := .ref z) rfl (wpAny_bind (nextZ_item S.toZipSep2 D1 D2 hz hv hTI hTO st1 st2 l1 l2 fun x1 x2 h₁ tk p1 p2 hz1 hO1 q1 q2 hP hsz hk => ?_)))
  have hel : e < hp.objs.size := Heap.lt_size he
  have he₁ : IsEnum h₁ e z c old := hk _ _ S.ez S.eTO S.ei1 S.ei2 he
  show wpAny _ _ (field (.ref e) 3 >>= _) _ _ ⟨h₁, g, d, tk, os⟩
  refine wpAny_bind (wpAny_field he₁ rfl (x := rawInt c) rfl ?_)
  show wpAny _ _ (field (.ref e) 4 >>= _) _ _ ⟨h₁, g, d, tk, os⟩
  refine wpAny_bind (wpAny_field he₁ rfl (x := .none) rfl ?_)
  show wpAny _ _ (mkInt c >>= _) _ _ ⟨h₁, g, d, tk, os⟩
  refine wpAny_bind (wpAny_mkInt ?_)
  show wpAny _ _ (setField (.ref e) 3 (rawInt (c + 1)) >>= _) _ _ ⟨h₁, g, d, tk + 1, os⟩
  refine wpAny_bind (wpAny_setField_rec he₁ (by simp) fun h₂ he₂ hs₂ => ?_)
  replace hs₂ : Heap.SameBut e h₁ h₂ := hs₂
  replace he₂ : IsEnum h₂ e z (c + 1) old := he₂
  show wpAny _ _ (setField (.ref e) 4 .none >>= _) _ _ ⟨h₂, g, d, tk + 1, os⟩
  refine wpAny_bind (wpAny_setField_rec he₂ (by simp) fun h₃ he₃ hs₃ => ?_)
  replace hs₃ : Heap.SameBut e h₂ h₃ := hs₃
  replace he₃ : IsEnum h₃ e z (c + 1) old := he₃
  show wpAny _ _ (newTuple [.int c tk, .ref hp.objs.size] >>= _) _ _ ⟨h₃, g, d, tk + 1, os⟩
  refine wpAny_bind (wpAny_newTuple ?_)
  have n₃ : h₃.objs.size = hp.objs.size + 1 := by rw [hs₃.1, hs₂.1, hsz]
  have up₃ : ∀ b o, b ≠ e → h₁.get? b = some o → h₃.get? b = some o := fun b o n x => hs₃.extBut _ _ n (hs₂.extBut _ _ n x)
  have he₄ : IsEnum (h₃.push { cls := .type "tuple", data := .seq #[.int c tk, .ref hp.objs.size] }) e z (c + 1) old := Heap.get?_push_of_some _ he₃
  have hT₄ : IsTupOf2 (h₃.push { cls := .type "tuple", data := .seq #[.int c tk, .ref hp.objs.size] }) (hp.objs.size + 1) (.int c tk) (.ref hp.objs.size) := by rw [← n₃]; exact Heap.get?_push_size _ rfl
  have n₄ : (h₃.push { cls := .type "tuple", data := .seq #[.int c tk, .ref hp.objs.size] }).objs.size = hp.objs.size + 2 := by rw [Heap.size_push, n₃]
  have up₄ : ∀ b o, b ≠ e → h₁.get? b = some o → (h₃.push { cls := .type "tuple", data := .seq #[.int c tk, .ref hp.objs.size] }).get? b = some o := fun b o n x => Heap.get?_push_of_some _ (up₃ b o n x)
  generalize h₃.push { cls := .type "tuple", data := .seq #[.int c tk, .ref hp.objs.size] } = h₄ at he₄ hT₄ n₄ up₄ ⊢
  show wpAny _ _ (Builtin.SmallTypes.ownedTupleIsFree (.ref e) >>= _) _ _ ⟨h₄, g, d, tk + 1, os⟩
  rw [n₃]
  refine wpAny_bind ?_
  unfold Builtin.SmallTypes.ownedTupleIsFree
  refine wpAny_bind (wpAny_field he₄ rfl (x := .none) rfl (wpAny_pure ?_))
  simp only [if_true]
  refine wpAny_bind (wpAny_rule (wpAny_bind (wpAny_field he₄ rfl (x := old) rfl (wpAny_bind (wpAny_setField_rec he₄ (by simp) fun h₅ he₅ hs₅ => ?_)))))
  replace hs₅ : Heap.SameBut e h₄ h₅ := hs₅
  replace he₅ : IsEnum h₅ e z (c + 1) (.ref hp.objs.size) := he₅
  show wpAny _ _ (Builtin.SmallTypes.ownedTupleHandOut (.ref e) (.ref (hp.objs.size + 1)) >>= _) _ _ ⟨h₅, g, d, tk + 1, os⟩
  refine wpAny_bind ?_
  unfold Builtin.SmallTypes.ownedTupleHandOut
  refine wpAny_bind (wpAny_setField_rec he₅ (by simp) fun h₆ he₆ hs₆ => ?_)
  replace hs₆ : Heap.SameBut e h₅ h₆ := hs₆
  replace he₆ : IsEnumOut h₆ e z (c + 1) (.ref hp.objs.size) (hp.objs.size + 1) := he₆
  refine wpAny_setField_rec he₆ (by simp) fun h₇ he₇ hs₇ => ?_
  replace hs₇ : Heap.SameBut e h₆ h₇ := hs₇
  replace he₇ : IsEnumOut h₇ e z (c + 1) (.ref hp.objs.size) (hp.objs.size + 1) := he₇
  have n₇ : h₇.objs.size = hp.objs.size + 2 := by rw [hs₇.1, hs₆.1, hs₅.1, n₄]
  have up : ∀ b o, b ≠ e → h₄.get? b = some o → h₇.get? b = some o := fun b o n x => hs₇.extBut _ _ n (hs₆.extBut _ _ n (hs₅.extBut _ _ n x))
  have all : ∀ b o, b ≠ e → h₁.get? b = some o → h₇.get? b = some o := fun b o n x => up b o n (up₄ b o n x)
  obtain ⟨v', f', hz1, hv1⟩ := hz1
  obtain ⟨a1, a2, hO1⟩ := hO1
  exact wpAny_bind (wpAny_letGo (wpAny_pure ⟨_, rfl, hQ x1 x2 h₇ tk p1 p2 he₇ ⟨v', f', all _ _ (Ne.symm S.ez) hz1, hv1⟩ ⟨a1, a2, all _ _ (Ne.symm S.eTO) hO1⟩
    (D1.frame _ _ _ q1 fun b hb o x => all b o (fun q => S.e1 (q ▸ hb)) x) (D2.frame _ _ _ q2 fun b hb o x => all b o (fun q => S.e2 (q ▸ hb)) x) (all _ _ (Nat.ne_of_gt hel) hP) (up _ _ (Nat.ne_of_gt (Nat.lt_succ_of_lt hel)) hT₄) n₇
    fun b o n1 n2 n3 n4 n5 x => all b o n1 (hk b o n2 n3 n4 n5 x)⟩))
theorem enumZ_end {e : Addr} {c : Int} {old : Value} {Q : Option Value → Shared → Prop} (S : EnumSep e z TI TO i1 i2 fp1 fp2) (D1 : Draws prog w A.in1.in1 i1 fp1 n1 P1 St1) (D2 : Draws prog w A.in1.in1 i2 fp2 n2 P2 St2) (he : IsEnum s.heap e z c old)
    (hz : IsZ s.heap z TI TO v f) (hv : OutV v) (hTI : IsTupOf2 s.heap TI (.ref i1) (.ref i2)) (hTO : ∃ a1 a2, IsTupOf2 s.heap TO a1 a2) (st1 : St1 i s.heap) (st2 : St2 i s.heap) (l1 : i ≤ n1) (l2 : i ≤ n2) (hend : i = n1 ∨ i = n2)
    (hQ : ∀ h' tk, (∀ c o, c ≠ z → c ≠ TO → c ≠ i1 → c ≠ i2 → s.heap.get? c = some o → h'.get? c = some o) → Q none { s with heap := h', toks := tk }) : wpAny (model prog w) A (pyNext (.ref e)) Q E s := by
  have hT : s.TypeIs (.ref e) "enumerate" := ⟨_, he, rfl⟩
  unfold pyNext
  refine wpAny_bind (wpAny_attempt (wpAny_callSpecial?_slot (name := Str.ofString "__next__") hT F.slot_enumerate_next (wpAny_call_entry F.slot_enumerate_next hT F.entry_enumerate_next ?_ (F.args_enumerate_next_1 _))))
  show wpAny _ _ (field (.ref e) 2 >>= _) _ _ _
  refine wpAny_bind (wpAny_field he rfl (x := .ref z) rfl (wpAny_bind (nextZ_end S.toZipSep2 D1 D2 hz hv hTI hTO st1 st2 l1 l2 hend fun h' tk x hk hx => ?_)))
  obtain ⟨o, ho, hc⟩ := hx
  exact wpAny_bind (wpAny_isInstance (T := "StopIteration") (b := true) ⟨o, ho, hc⟩ isSubtype_stop (wpAny_pure (hQ _ _ hk)))
theorem enumZ_next {e : Addr} {c : Int} {old : Value} {Q : Option Value → Shared → Prop} (S : EnumSep e z TI TO i1 i2 fp1 fp2) (D1 : Draws prog w A.in1.in1 i1 fp1 n1 P1 St1) (D2 : Draws prog w A.in1.in1 i2 fp2 n2 P2 St2) (he : IsEnum s.heap e z c old)
    (hz : IsZ s.heap z TI TO v f) (hv : OutV v) (hTI : IsTupOf2 s.heap TI (.ref i1) (.ref i2)) (hTO : ∃ a1 a2, IsTupOf2 s.heap TO a1 a2) (st1 : St1 i s.heap) (st2 : St2 i s.heap) (l1 : i < n1) (l2 : i < n2)
    (hQ : ∀ x1 x2 h' tk, P1 i x1 → P2 i x2 → IsEnumOut h' e z (c + 1) (.ref s.heap.objs.size) (s.heap.objs.size + 1) → (∃ v' f', IsZ h' z TI TO v' f' ∧ OutV v') → (∃ a1 a2, IsTupOf2 h' TO a1 a2) → St1 (i + 1) h' → St2 (i + 1) h' →
      IsTupOf2 h' s.heap.objs.size x1 x2 → IsTupOf2 h' (s.heap.objs.size + 1) (.int c tk) (.ref s.heap.objs.size) → h'.objs.size = s.heap.objs.size + 2 →
      (∀ b o, b ≠ e → b ≠ z → b ≠ TO → b ≠ i1 → b ≠ i2 → s.heap.get? b = some o → h'.get? b = some o) → Q (some (.ref (s.heap.objs.size + 1))) { s with heap := h', toks := tk + 1 }) :
    wpAny (model prog w) A (pyNext (.ref e)) Q E s := by
  have hT : s.TypeIs (.ref e) "enumerate" := ⟨_, he, rfl⟩
  unfold pyNext
  exact wpAny_bind (wpAny_attempt (wpAny_callSpecial?_slot (name := Str.ofString "__next__") hT F.slot_enumerate_next (wpAny_call_entry F.slot_enumerate_next hT F.entry_enumerate_next
    (enumZ_item S D1 D2 he hz hv hTI hTO st1 st2 l1 l2 fun x1 x2 h' tk b1 b2 b3 b4 b5 b6 b7 b8 b9 b10 b11 => wpAny_pure (hQ x1 x2 h' tk b1 b2 b3 b4 b5 b6 b7 b8 b9 b10 b11)) (F.args_enumerate_next_1 _))))
end
set_option maxHeartbeats 1000000 in
theorem meets_enumZ (z TI TO : Addr) :
    Meets (Builtin.«enumerate.__new__» ⟨[.type "enumerate", .ref z], []⟩) (fun _ R s => IsZip s.heap z TI TO .none ∧
      R (.ok (.ret (.ref s.heap.objs.size))) { s with heap := s.heap.push { cls := .type "enumerate", data := .fields #[.none, .bool false, .ref z, rawInt 0, .none, .none] } }) :=
  .of_wp fun prog w A R s h => by
    obtain ⟨hp, g, d, tk, os⟩ := s
    obtain ⟨h1, h⟩ := h
    have hsub := sub_enumerate
    have q1 : ∀ {A' : Around} {E : Value → Shared → Prop} {Q : Value → Shared → Prop}, Q (.ref z) ⟨hp, g, d, tk, os⟩ → wpAny (model prog w) A' (pyIter (.ref z)) Q E ⟨hp, g, d, tk, os⟩ :=
      fun q => wpAny_pyIter_zip (s := ⟨hp, g, d, tk, os⟩) h1 q
    wp_walk using q1
    refine wpAny_stack_any fun st => wpAny_pure ?_
    split
    · rename_i c _ _ _ _ _
      cases (c == Value.type "enumerate")
      · wp_walk using q1
        exact ⟨_, rfl, h⟩
      · wp_walk using q1
        exact ⟨_, rfl, h⟩
    · wp_walk using q1
      exact ⟨_, rfl, h⟩
theorem call_enumZ {prog : Program} {w : World} {A : Around} {E : Value → Shared → Prop} {s : Shared} {z TI TO : Addr} {Q : Value → Shared → Prop} (hz : IsZip s.heap z TI TO .none)
    (h : ∀ h', IsEnum h' s.heap.objs.size z 0 .none → h'.objs.size = s.heap.objs.size + 1 → (∀ b o, s.heap.get? b = some o → h'.get? b = some o) → Q (.ref s.heap.objs.size) { s with heap := h' }) :
    wpAny (model prog w) A (call (.type "enumerate") [.ref z]) Q E s := by
  refine callType_new F.called_enumerate (by decide) (F.typeCall_enumerate_1 _) (F.newCall_enumerate_1 _) (fun obj => F.args_object_init_2 obj _) F.entry_enumerate_new (meets_enumZ z TI TO) ⟨hz, ?_⟩
  have he : IsEnum (s.heap.push { cls := .type "enumerate", data := .fields #[.none, .bool false, .ref z, rawInt 0, .none, .none] }) s.heap.objs.size z 0 .none := Heap.get?_push_size _ rfl
  exact ⟨⟨_, he, rfl⟩, h _ he (Heap.size_push ..) fun b o x => Heap.get?_push_of_some _ x⟩
end Kit

end
section
set_option Elab.async false
set_option linter.all false
set_option maxRecDepth 100000
set_option maxHeartbeats 4000000
namespace Kit
open PySem PySem.Spec PyProof.Rows L2
/-! ### for i, (a, b) in enumerate(zip(x, y)) -/
structure Dq (X : Cx) (H : Hp) (h : Heap) (sd : Sd) (it : Addr) (i : Nat) (xs : List V) : Prop where
  ex : ∃ (fp : List Addr) (P : Nat → Value → Prop) (St : Nat → Heap → Prop), Draws X.prog X.w X.A.in1.in1 it fp xs.length P St ∧ St i h ∧ it ∈ fp ∧ (∀ c ∈ fp, c = it ∨ H c ≠ none) ∧ (∀ j h', St j h' → sd.st h' it j) ∧ (∀ x u, P i u → xs[i]? = some x → RelV x u)
theorem dq_of {X : Cx} {pins : List (Addr × Obj)} {σ : St} {H : Hp} {s : Shared} {sd : Sd} {it : Addr} {i : Nat} {xs : List V} (hc : X.calm = true) (I : Inv X pins σ H s) (hn : H it = none) (hat : sd.at H xs) (st : sd.st s.heap it i) : Dq X H s.heap sd it i xs := by
  constructor
  cases sd with
  | L a =>
    have hat : H a = some (.lst xs) := hat
    obtain ⟨hzz, its, nn, rv, hl0⟩ := (show ObjOk X.prog X.w H s.heap a (.lst xs) from I.hok a _ hat)
    have hL : s.heap.IsList a its.toArray := ⟨_, hl0, rfl, nn, rfl⟩
    have hne : a ≠ it := fun q => by rw [q, hn] at hat; cases hat
    have hl : its.toArray.size = xs.length := by rw [List.size_toArray, rv.length]
    refine ⟨[it, a], _, _, hl ▸ Draws.list (A := X.A.in1.in1) (show X.A.in1.in1.handled = none from I.ok.hd hc) it a hne its.toArray, ⟨st, hL⟩, by simp, fun c hcm => ?_, fun j h' q => q.1, fun x u hu hx => ?_⟩
    · have e : c = it ∨ c = a := by simpa using hcm
      rcases e with e | e
      · exact .inl e
      · refine .inr ?_
        rw [e, hat]
        simp
    · obtain ⟨u', hu', ru⟩ := rv.get hx
      have z : its[i]? = some u := by simpa using hu
      rw [hu'] at z
      cases z
      exact ru
  | T x =>
    obtain ⟨t, st⟩ := st
    have hat : xs = signs x := hat
    have hl : x.cps.size = xs.length := by rw [hat, signs, List.length_map, Array.length_toList]
    refine ⟨[it], _, _, hl ▸ Draws.text (A := X.A.in1.in1) (show X.A.in1.in1.handled = none from I.ok.hd hc) it x t, st, by simp, fun c hcm => .inl (by simpa using hcm), fun j h' q => ⟨t, q⟩, fun y u hu hx => ?_⟩
    obtain ⟨c, tk, hc', rfl⟩ := hu
    rw [hat, signs, List.getElem?_map, Array.getElem?_toList, hc'] at hx
    cases hx
    exact ⟨tk, rfl⟩
structure Cells6 (e z TI TO i1 i2 : Addr) : Prop extends Cells z TI TO i1 i2 where
  ez : e ≠ z
  eTI : e ≠ TI
  eTO : e ≠ TO
  ei1 : e ≠ i1
  ei2 : e ≠ i2
theorem sep6 {H : Hp} {e z TI TO i1 i2 : Addr} {f1 f2 : List Addr} (C : Cells6 e z TI TO i1 i2) (hn : ∀ b ∈ [e, z, TI, TO, i1, i2], H b = none) (m1 : i1 ∈ f1) (m2 : i2 ∈ f2) (h1 : ∀ c ∈ f1, c = i1 ∨ H c ≠ none) (h2 : ∀ c ∈ f2, c = i2 ∨ H c ≠ none) :
    EnumSep e z TI TO i1 i2 f1 f2 where
  toZipSep2 := sep_of C.toCells (fun b hb => hn b (List.mem_cons_of_mem _ hb)) m1 m2 h1 h2
  ez := C.ez
  eTI := C.eTI
  eTO := C.eTO
  e1 := fun q => (h1 _ q).elim C.ei1 fun k => k (hn _ (by simp))
  e2 := fun q => (h2 _ q).elim C.ei2 fun k => k (hn _ (by simp))
/-- the pairs of both sides, each with its number, in two new tuples -/
def ItEZ (d1 d2 : Sd) : It :=
  ⟨fun i G => ∃ (xs ys : List V) (x y : V), d1.at G xs ∧ d2.at G ys ∧ xs[i]? = some x ∧ ys[i]? = some y,
    fun i G v G' => ∃ T U x y, v = .ref U ∧ G T = none ∧ G U = none ∧ T ≠ U ∧ G' = upd (upd G T (.tup [x, y])) U (.tup [.int (i : Nat), .ref T]) ∧ (∀ xs, d1.at G xs → xs[i]? = some x) ∧ ∀ ys, d2.at G ys → ys[i]? = some y,
    fun i G => ∃ xs ys : List V, d1.at G xs ∧ d2.at G ys ∧ i ≤ xs.length ∧ i ≤ ys.length ∧ (i = xs.length ∨ i = ys.length)⟩
theorem turn_EZ {P : Program} {w : World} {K : PySem.W.Frag} {elts : List Expr} {kk : Nat} {tpos : Pos} (d1 d2 : Sd) {e z TI TO i1 i2 : Addr} (C : Cells6 e z TI TO i1 i2) :
    Turn P w K (.Tuple elts kk tpos) (ItEZ d1 d2) [e, z, TI, TO, i1, i2] e (fun i h => (∃ old, IsEnum h e z ((i : Nat) : Int) old) ∧ (∃ v f, IsZ h z TI TO v f ∧ OutV v) ∧ IsTupOf2 h TI (.ref i1) (.ref i2) ∧ (∃ x y, IsTupOf2 h TO x y) ∧ d1.st h i1 i ∧ d2.st h i2 i) where
  mem := by simp
  obj := fun i h st c hc => by
    obtain ⟨⟨old, he⟩, ⟨v, f, hz, _⟩, hTI, ⟨x, y, hTO⟩, s1, s2⟩ := st
    have e' : c = e ∨ c = z ∨ c = TI ∨ c = TO ∨ c = i1 ∨ c = i2 := by simpa using hc
    rcases e' with q | q | q | q | q | q
    · rw [q]; exact ⟨_, he, fun v q => nomatch q⟩
    · rw [q]; exact ⟨_, hz, fun v q => nomatch q⟩
    · rw [q]; exact ⟨_, hTI, fun v q => nomatch q⟩
    · rw [q]; exact ⟨_, hTO, fun v q => nomatch q⟩
    · rw [q]; exact Sd.live s1
    · rw [q]; exact Sd.live s2
  keep := fun i h h' st k => by
    obtain ⟨⟨old, he⟩, ⟨v, f, hz, hv⟩, hTI, ⟨x, y, hTO⟩, s1, s2⟩ := st
    exact ⟨⟨old, k e (by simp) _ he⟩, ⟨v, f, k z (by simp) _ hz, hv⟩, k TI (by simp) _ hTI, ⟨x, y, k TO (by simp) _ hTO⟩, Sd.keep s1 fun o q => k i1 (by simp) o q, Sd.keep s2 fun o q => k i2 (by simp) o q⟩
  item := by
    intro X hP hw hK hc i pins s σ H E I hf st hg
    subst hP hw hK
    obtain ⟨⟨old, he⟩, ⟨v, f, hz, hv⟩, hTI, hTO, s1, s2⟩ := st
    obtain ⟨xs, ys, x, y, hqx, hqy, hx, hy⟩ := hg
    obtain ⟨f1, P1, St1, D1, t1, m1, u1, b1, r1⟩ := (dq_of hc I (hf i1 (by simp)).1 hqx s1).ex
    obtain ⟨f2, P2, St2, D2, t2, m2, u2, b2, r2⟩ := (dq_of hc I (hf i2 (by simp)).1 hqy s2).ex
    have SS := sep6 C (fun b hb => (hf b hb).1) m1 m2 u1 u2
    have hl1 := (List.getElem?_eq_some_iff.mp hx).1
    have hl2 := (List.getElem?_eq_some_iff.mp hy).1
    have lt : ∀ c ∈ [e, z, TI, TO, i1, i2], c < s.heap.objs.size := fun c hcm => by
      have e' : c = e ∨ c = z ∨ c = TI ∨ c = TO ∨ c = i1 ∨ c = i2 := by simpa using hcm
      obtain ⟨a1, a2, hTO⟩ := hTO
      rcases e' with q | q | q | q | q | q
      · rw [q]; exact Heap.lt_size he
      · rw [q]; exact Heap.lt_size hz
      · rw [q]; exact Heap.lt_size hTI
      · rw [q]; exact Heap.lt_size hTO
      · rw [q]; obtain ⟨_, e1, _⟩ := Sd.live s1; exact Heap.lt_size e1
      · rw [q]; obtain ⟨_, e2, _⟩ := Sd.live s2; exact Heap.lt_size e2
    refine enumZ_next SS D1 D2 he hz hv hTI hTO t1 t2 hl1 hl2 fun v1 v2 h' tk p1 p2 eo z' TO' t1' t2' hT hU hsz hk => ?_
    refine ⟨_, rfl, wpAny_letOwnedTupleGo_enum (s := { s with heap := h', toks := tk + 1 }) eo fun h'' e'' sb => ?_⟩
    have hel : e < s.heap.objs.size := lt e (by simp)
    have k2 : ∀ c o, c ∉ [e, z, TI, TO, i1, i2] → s.heap.get? c = some o → h''.get? c = some o := fun c o hb q =>
      (sb.2 c (fun q' => hb (by simp [q']))).trans (hk c o (fun q' => hb (by simp [q'])) (fun q' => hb (by simp [q'])) (fun q' => hb (by simp [q'])) (fun q' => hb (by simp [q'])) (fun q' => hb (by simp [q'])) q)
    have ru := r1 x v1 p1 hx
    have ru2 := r2 y v2 p2 hy
    have hT2 : IsTupOf2 h'' s.heap.objs.size v1 v2 := (sb.2 _ (Nat.ne_of_gt hel)).trans hT
    have hU2 : IsTupOf2 h'' (s.heap.objs.size + 1) (.int ((i : Nat) : Int) tk) (.ref s.heap.objs.size) := (sb.2 _ (Nat.ne_of_gt (Nat.lt_succ_of_lt hel))).trans hU
    have fT : H s.heap.objs.size = none := I.hok.fresh (Nat.le_refl _)
    have fU : H (s.heap.objs.size + 1) = none := I.hok.fresh (Nat.le_succ _)
    have nTU : s.heap.objs.size ≠ s.heap.objs.size + 1 := Nat.ne_of_lt (Nat.lt_succ_self _)
    -- the inner tuple first, in a heap of its own
    have hp1 : (s.heap.push { cls := .type "tuple", data := .seq #[v1, v2] }).get? s.heap.objs.size = some { cls := .type "tuple", data := .seq #[v1, v2] } := Heap.get?_push_size _ rfl
    have I1 : Inv X pins σ (upd H s.heap.objs.size (.tup [x, y])) { s with heap := s.heap.push { cls := .type "tuple", data := .seq #[v1, v2] }, toks := tk + 1 } :=
      I.laid (t' := tk + 1) (fun b o q => Heap.get?_push_of_some _ q) (Nat.le_refl _) ⟨by show 2 ≤ sizeLine; decide, [v1, v2], .cons ru (.cons ru2 .nil), ⟨_, hp1, rfl, _, rfl⟩⟩
    have hf1 : ∀ b ∈ [e, z, TI, TO, i1, i2], FpOk X pins (upd H s.heap.objs.size (.tup [x, y])) b := fun b hb => by
      obtain ⟨q0, q1, q2, q3, q4, q5⟩ := hf b hb
      exact ⟨by rw [upd_ne (Nat.ne_of_lt (lt b hb))]; exact q0, q1, q2, q3, q4, q5⟩
    have I2 : Inv X pins σ (upd (upd H s.heap.objs.size (.tup [x, y])) (s.heap.objs.size + 1) (.tup [.int (i : Nat), .ref s.heap.objs.size])) { s with heap := h'', toks := tk + 1 } := by
      refine I1.turnedNew (ch := [e, z, TI, TO, i1, i2]) (fun c o hb q => ?_) hf1 (by show (s.heap.push _).objs.size ≤ _; rw [Heap.size_push]; exact Nat.le_refl _) ⟨by show 2 ≤ sizeLine; decide, [.int ((i : Nat) : Int) tk, .ref s.heap.objs.size], .cons ⟨_, rfl⟩ (.cons rfl .nil), ⟨_, hU2, rfl, _, rfl⟩⟩
      by_cases hcT : c = s.heap.objs.size
      · subst hcT
        have q : (s.heap.push { cls := .type "tuple", data := .seq #[v1, v2] }).get? s.heap.objs.size = some o := q
        rw [hp1] at q
        cases q
        exact hT2
      · refine k2 c o hb ?_
        have q : (s.heap.push { cls := .type "tuple", data := .seq #[v1, v2] }).get? c = some o := q
        rw [Heap.get?_push_ne _ _ _ hcT] at q
        exact q
    refine ⟨.ref (s.heap.objs.size + 1), _, I2, rfl, ⟨_, _, x, y, rfl, fT, fU, nTU, rfl, fun l hl => by rw [Sd.inj hl hqx]; exact hx, fun l hl => by rw [Sd.inj hl hqy]; exact hy⟩, ⟨⟨.ref s.heap.objs.size, ?_⟩, ?_, ?_, ?_, ?_, ?_⟩, fun c hcm => ?_⟩
    · have e1 : ((i + 1 : Nat) : Int) = (i : Int) + 1 := by omega
      rw [e1]
      exact e''
    · obtain ⟨v', f', hz', hv'⟩ := z'
      exact ⟨v', f', (sb.2 _ (Ne.symm C.ez)).trans hz', hv'⟩
    · exact (sb.2 _ (Ne.symm C.eTI)).trans (hk _ _ (Ne.symm C.eTI) C.a1 C.a3 C.a4 C.a5 hTI)
    · obtain ⟨a1, a2, hO⟩ := TO'
      exact ⟨a1, a2, (sb.2 _ (Ne.symm C.eTO)).trans hO⟩
    · exact Sd.keep (b1 _ _ t1') fun o q => (sb.2 _ (Ne.symm C.ei1)).trans q
    · exact Sd.keep (b2 _ _ t2') fun o q => (sb.2 _ (Ne.symm C.ei2)).trans q
    · have := lt c hcm
      rw [upd_ne (Nat.ne_of_lt (Nat.lt_succ_of_lt this)), upd_ne (Nat.ne_of_lt this)]
      exact (hf c hcm).1
  done := by
    intro X hP hw hK hc i pins s σ H E I hf st hg
    subst hP hw hK
    obtain ⟨⟨old, he⟩, ⟨v, f, hz, hv⟩, hTI, hTO, s1, s2⟩ := st
    obtain ⟨xs, ys, hqx, hqy, hi1, hi2, hend⟩ := hg
    obtain ⟨f1, P1, St1, D1, t1, m1, u1, b1, r1⟩ := (dq_of hc I (hf i1 (by simp)).1 hqx s1).ex
    obtain ⟨f2, P2, St2, D2, t2, m2, u2, b2, r2⟩ := (dq_of hc I (hf i2 (by simp)).1 hqy s2).ex
    have SS := sep6 C (fun b hb => (hf b hb).1) m1 m2 u1 u2
    exact enumZ_end SS D1 D2 he hz hv hTI hTO t1 t2 hi1 hi2 hend fun h' tk hk => ⟨rfl, I.turnedL (t' := tk) (ch := [e, z, TI, TO, i1, i2]) (fun c o hb q =>
      hk c o (fun q' => hb (by simp [q'])) (fun q' => hb (by simp [q'])) (fun q' => hb (by simp [q'])) (fun q' => hb (by simp [q'])) q) hf⟩
  self := fun A i s Q E st h => let ⟨⟨_, he⟩, _⟩ := st; wpAny_pyIter_enum he h
/-- what such a turn gives -/
def YEZ (xs ys : List V) (i : Nat) (G : Hp) (v : V) (G' : Hp) : Prop := ∃ T U x y, v = .ref U ∧ G T = none ∧ G U = none ∧ T ≠ U ∧ G' = upd (upd G T (.tup [x, y])) U (.tup [.int (i : Nat), .ref T]) ∧ xs[i]? = some x ∧ ys[i]? = some y
theorem walk_EZ {d1 d2 : Sd} {xs ys : List V} {n : Nat} (hn : n = min xs.length ys.length) : Walk (ItEZ d1 d2) n (fun G => d1.at G xs ∧ d2.at G ys) (YEZ xs ys) := by
  subst hn
  refine ⟨fun i G hi q => ⟨xs, ys, xs[i], ys[i], q.1, q.2, List.getElem?_eq_getElem (by omega), List.getElem?_eq_getElem (by omega)⟩, fun G q => ⟨xs, ys, q.1, q.2, by omega, by omega, by omega⟩, ?_⟩
  rintro i G v G' hi q ⟨T, U, x, y, rfl, hT, hU, ne, rfl, hx, hy⟩
  exact ⟨T, U, x, y, rfl, hT, hU, ne, rfl, hx xs q.1, hy ys q.2⟩
theorem cells6_of (n : Nat) : Cells6 (n + 5) (n + 4) (n + 2) (n + 3) n (n + 1) where
  toCells := cells_of n
  ez := fun e : n + 5 = n + 4 => by omega
  eTI := fun e : n + 5 = n + 2 => by omega
  eTO := fun e : n + 5 = n + 3 => by omega
  ei1 := fun e : n + 5 = n => by omega
  ei2 := fun e : n + 5 = n + 1 => by omega
def iEnumZ (ta : TA) : TI := fun σ H R => ta σ H fun vs H1 => ∃ d1 d2 xs ys, vs = [Sd.v d1, Sd.v d2] ∧ d1.at H1 xs ∧ d2.at H1 ys ∧ R (ItEZ d1 d2) H1
theorem pi_enumZ {X : Cx} {e e2 : Expr} {ta : TA} {p pos p2 pos2 tpos : Pos} {elts : List Expr} {kk : Nat} (hg : Gl X "enumerate") (hm : X.mg "enumerate" = none) (hg2 : Gl X "zip") (hm2 : X.mg "zip" = none) (ha : PA X [e, e2] ta)
    (hs : starEach [e, e2] X.env = (false, eval e X.env) :: starEach [e2] X.env := by rfl) (hpl : (backTo pos2 (starEach [e2] X.env)).any (·.1) = false := by rfl)
    (hs0 : starEach [.Call (.Name "zip" p2) [e, e2] [] pos2] X.env = [(false, eval (.Call (.Name "zip" p2) [e, e2] [] pos2) X.env)] := by rfl) :
    PI X (.Tuple elts kk tpos) (.Call (.Name "enumerate" p) [.Call (.Name "zip" p2) [e, e2] [] pos2] [] pos) (iEnumZ ta) := by
  refine ⟨fun pins s σ H R I h => ?_⟩
  refine Call_ (ld_blt I hg hm boot_enumerate (PyProof.Rows.callWith_type1 ?_ (by rw [hs0]; rfl) rfl))
  rw [hs0]
  show wpAny _ _ (spliced [(false, eval (.Call (.Name "zip" p2) [e, e2] [] pos2) X.env)]) _ _ _
  refine Calls.spliced_cons ?_
  refine Call_ (ld_blt I hg2 hm2 PyProof.Rows.boot_zip (PyProof.Rows.callWith_type1 (thn (ha.run pos2 pins s σ H _ I h) fun us s1 ⟨vs, H1, I1, r1, q1⟩ => ?_) hs hpl))
  obtain ⟨d1, d2, xs, ys, ex, hqx, hqy, q⟩ := q1
  subst ex
  cases r1 with
  | cons r rr =>
    cases rr with
    | cons r' rr =>
      cases rr
      obtain ⟨o1, H1', B1, k1, c1⟩ := bg_of I1 r hqx
      obtain ⟨o2, H2', B2, k2, c2⟩ := bg_of I1 r' hqy
      refine zip_begins2 B1 B2 k1 k2 fun h' hz hTI hTO h1 h2 hsz hk => Calls.spliced_nil ?_
      refine call_enumZ (s := { s1 with heap := h' }) hz fun h3 he hsz3 hk3 => wpAny_pyIter_enum he ?_
      have I2 : Inv X pins σ H1 { s1 with heap := h3 } := I1.kept (t' := s1.toks) fun b o x => hk3 _ _ (hk _ _ x)
      have he : IsEnum h3 (s1.heap.objs.size + 5) (s1.heap.objs.size + 4) 0 .none := by rw [← hsz]; exact he
      have k3 : ∀ b o, h'.get? b = some o → h3.get? b = some o := hk3
      show PIE X pins σ _ R (.ref h'.objs.size) { s1 with heap := h3 }
      rw [hsz]
      refine ⟨s1.heap.objs.size + 5, [s1.heap.objs.size + 5, s1.heap.objs.size + 4, s1.heap.objs.size + 2, s1.heap.objs.size + 3, s1.heap.objs.size, s1.heap.objs.size + 1], _, _, H1, rfl, I2, turn_EZ d1 d2 (cells6_of _), ⟨⟨_, he⟩, ⟨_, _, k3 _ _ hz, .inl rfl⟩, k3 _ _ hTI, ⟨_, _, k3 _ _ hTO⟩, c1 _ _ (k3 _ _ h1), c2 _ _ (k3 _ _ h2)⟩, fun c hcm => ?_, q⟩
      have e' : c = s1.heap.objs.size + 5 ∨ c = s1.heap.objs.size + 4 ∨ c = s1.heap.objs.size + 2 ∨ c = s1.heap.objs.size + 3 ∨ c = s1.heap.objs.size ∨ c = s1.heap.objs.size + 1 := by simpa using hcm
      have hle : s1.heap.objs.size ≤ c := by
        rcases e' with z | z | z | z | z | z
        · rw [z]; exact Nat.le_add_right _ _
        · rw [z]; exact Nat.le_add_right _ _
        · rw [z]; exact Nat.le_add_right _ _
        · rw [z]; exact Nat.le_add_right _ _
        · rw [z]; exact Nat.le_refl _
        · rw [z]; exact Nat.le_add_right _ _
      exact I1.fpOk hle (I1.hok.fresh hle)
end Kit

end
section
set_option Elab.async false
set_option linter.all false
set_option maxRecDepth 100000
set_option maxHeartbeats 4000000
namespace Kit
open PySem PySem.Spec PyProof.Rows L2
/-! ### a class whose __init__ has keyword-only parameters with defaults: C(e, ..) and C(e, .., k = v, ..), all of them given -/
structure InitK (K : PySem.W.Frag) (C : Addr) (q : Str) (st : Stmt) (kws : List (Str × V)) : Prop where
  ex : ∃ (f : Addr) (fd : FuncData), FunD K "__init__" q (defArgs st) (defBody st) (defScope st) [] kws f fd ∧ Meth K C "__init__" f
section
variable (P : Program) (w : World) (K : PySem.W.Frag) (mg : Str → Option Value) (base : Heap)
structure CanNK (k : Nat) (C : Addr) (x : Str) (n : Nat) (kws : List (Str × V)) (sp : Sp) : Prop where
  ex : ∃ (f : Addr) (fd : FuncData) (ps : List Str) (ds : List Value) (g : List Value → List Value → List Value), FnOk P w K mg base (L2.CX P w) k f fd ps sp ∧ Mk K C f ∧ mg x = some (.ref C) ∧ Vals (kws.map (·.2)) ds ∧ Binds K fd ps ds ∧ KBn K fd ps (n + 1) (kws.map (·.1)) g (fun vs zs => vs ++ zs)
end
/-- how n plain parameters and the keyword-only ones bind -/
structure BindsKw (st : Stmt) (q : Str) (ps : List Str) (n : Nat) (kws : List (Str × V)) : Prop where
  off : ∀ (D : Addr) (doc pm : Value) (an : Option Addr) (cdv ct : Value) (us ks : List Value), us.length = n → ks.length = kws.length → KwChain D ((kws.map (·.1)).zip ks) (bindArgs (PySem.W.fnOf "__init__" q (defArgs st) (defBody st) (defScope st) .none (.ref D) doc pm an cdv ct) ⟨us, []⟩) (ps.zip (us ++ ks))
  on : ∀ (D : Addr) (doc pm : Value) (an : Option Addr) (cdv ct : Value) (us ws : List Value), us.length = n → ws.length = (kws.map (·.1)).length → bindArgs (PySem.W.fnOf "__init__" q (defArgs st) (defBody st) (defScope st) .none (.ref D) doc pm an cdv ct) ⟨us, (kws.map (·.1)).zip ws⟩ = pure (ps.zip (us ++ ws))
section
variable {P : Program} {w : World} {K : PySem.W.Frag} {mg : Str → Option Value} {base : Heap}
theorem canNK_of {x q : Str} {C : Addr} {st : Stmt} {N ps : List Str} {k n : Nat} {kws : List (Str × V)} {sp : Sp} (c : ClsT K mg C x) (D : InitK K C q st kws) (S : FnScope N ps (defScope st)) (hk : kws ≠ []) (hn : n + 1 + kws.length = ps.length) (hb : BindsKw st q ps (n + 1) kws) (len : ∀ vs H Q E, sp vs H Q E → vs.length = ps.length)
    (body : ∀ (f : Addr) (cdv : Value) (A : Around) (outer : List Env) (s : Shared) (H : Hp) (vs : List V) (Q : VK) (E : XK), Room k (A.deeper (envOfC q (defScope st) s.heap.objs.size f cdv)) → sp vs H Q E →
      ∃ t, PSs (cxOf (L2.CX P w) P w K mg base N q (defScope st) f cdv A outer s H E) (defBody st) t ∧ t { nx := fun _ H' => Q .non H', rt := Q } (start N vs) H) : CanNK P w K mg base (k + 1) C x n kws sp := by
  obtain ⟨f, fd, F, g⟩ := D.ex
  obtain ⟨ds, vd, bd⟩ := F.binds0 (ps := ps) (n + 1) hk hn hb.off
  obtain ⟨mv, kb⟩ := F.kbinds0 (ps := ps) (n + 1) (kws.map (·.1)) [] (fun us _ ws => us ++ ws) hk (fun q hq => by cases hq) (fun r1 _ r2 => r1.append r2) fun D doc pm an cdv ct us mv ws l1 _ l3 => hb.on D doc pm an cdv ct us ws l1 l3
  exact ⟨f, fd, ps, ds, _, F.ok S len fun cdv A outer s H vs Q E hr h => body f cdv A outer s H vs Q E hr h, ⟨c.mak, g.at_, g.fn, c.kp⟩, c.gC, vd, bd, kb⟩
end
section
variable {X : Cx} {k j n : Nat} {C : Addr} {x : Str} {kws : List (Str × V)} {sp : Sp} {W : WX} {p pos : Pos} {e : Expr} {es : List Expr} {kk : List Keyword} {t tk : TA}
theorem pc_nD (c : CanNK X.prog X.w X.K X.mg X.base k C x n kws sp) (hr : Room j X.A) (hk : k + 1 ≤ j) (hg : Gl X x) (ha : PA X (e :: es) t)
    (hdb : (x == ("__debug__" : Str)) = false := by decide) (he : starEach (e :: es) X.env = (false, eval e X.env) :: starEach es X.env := by rfl) (hpl : (backTo pos (starEach es X.env)).any (·.1) = false := by rfl) :
    PE X (.Call (.Name x p) (e :: es) [] pos) (tMake C sp (kws.map (·.2)) E0 t) := by
  obtain ⟨f, fd, ps, ds, g, F, M, hm, vd, b, _⟩ := c.ex
  exact pe_make M F (hr.mono hk) hg hm b vd passL ha hdb he hpl
theorem pc_nK (c : CanNK X.prog X.w X.K X.mg X.base k C x n kws sp) (hr : Room j X.A) (hk : k + 1 ≤ j) (hg : Gl X x) (ha : PA X (e :: es) t) (hkw : PK X kk tk)
    (hall : (backToKw pos (keywordEach kk X.env)).all (·.1.isSome) = true := by rfl) (hks : (backToKw pos (keywordEach kk X.env)).filterMap (·.1) = kws.map (·.1) := by rfl) (hdb : (x == ("__debug__" : Str)) = false := by decide)
    (he : starEach (e :: es) X.env = (false, eval e X.env) :: starEach es X.env := by rfl) (hpl : ((backTo pos (starEach (e :: es) X.env)).any (·.1) || (backToKw pos (keywordEach kk X.env)).any (·.1.isNone)) = false := by rfl) :
    PE X (.Call (.Name x p) (e :: es) kk pos) (tMakeK C n (kws.map (·.1)).length sp (fun vs zs => vs ++ zs) E0 t tk) := by
  obtain ⟨f, fd, ps, ds, g, F, M, hm, _, _, kb⟩ := c.ex
  exact pe_makeK M F (hr.mono hk) hg hm kb passL ha hkw hall hks hdb he hpl
/-- .. where it may raise -/
def tMakeKS (C : Addr) (n m : Nat) (sp : Sp) (W : WX) (t tk : TA) : TE := fun σ H Q => t σ H fun vs H1 => tk σ H1 fun zs H2 => vs.length = n ∧ zs.length = m ∧ ∀ y dx, H2 y = none → H2 dx = none → dx ≠ y →
  sp (.ref y :: vs ++ zs) (upd (upd H2 dx (.own y)) y (.ins C dx [])) (fun v H3 => v = .non ∧ Q (.ref y) H3) (WE W σ)
theorem pc_nKS (c : CanNK X.prog X.w X.K X.mg X.base k C x n kws sp) (tk' : Takes X W) (hr : Room j X.A) (hk : k + 1 ≤ j) (hg : Gl X x) (ha : PA X (e :: es) t) (hkw : PK X kk tk)
    (hall : (backToKw pos (keywordEach kk X.env)).all (·.1.isSome) = true := by rfl) (hks : (backToKw pos (keywordEach kk X.env)).filterMap (·.1) = kws.map (·.1) := by rfl) (hdb : (x == ("__debug__" : Str)) = false := by decide)
    (he : starEach (e :: es) X.env = (false, eval e X.env) :: starEach es X.env := by rfl) (hpl : ((backTo pos (starEach (e :: es) X.env)).any (·.1) || (backToKw pos (keywordEach kk X.env)).any (·.1.isNone)) = false := by rfl) :
    PE X (.Call (.Name x p) (e :: es) kk pos) (tMakeKS C n (kws.map (·.1)).length sp W t tk) := by
  obtain ⟨f, fd, ps, ds, g, F, M, hm, _, _, kb⟩ := c.ex
  have hr := hr.mono hk
  refine ⟨fun pins s σ H Q I h => ?_⟩
  refine wpAny_Call_Name_kw (ld_glob I hg hm ?_ hdb)
  refine PySem.W.callWith_KW (h₀ := X.base) I.ok.mod.kin M.kp hall (thn (ha.run pos pins s σ H _ I h) fun us s1 ⟨vs, H1, I1, r, q⟩ => ?_) hpl he
  refine thn (hkw.run pos pins s1 σ H1 _ I1 q) fun ws s2 ⟨zs, H2, I2, rz, l1, l2, q2⟩ => ⟨I2.kIn, ?_⟩
  rw [hks]
  have hq := q2 (s2.heap.objs.size + 1) s2.heap.objs.size (I2.hok.fresh (Nat.le_succ _)) (I2.hok.fresh (Nat.le_refl _)) (Nat.ne_of_lt (Nat.lt_succ_self _))
  have J := Inv.made (C := C) I2
  have r1 : Vals (V.ref (s2.heap.objs.size + 1) :: vs) (Value.ref (s2.heap.objs.size + 1) :: us) := .cons rfl r
  have n1 : (Value.ref (s2.heap.objs.size + 1) :: us).length = n + 1 := by rw [List.length_cons, ← r.length, l1]
  refine wpAny_call (make_map (f := f) I2.kIn M.makes M.init (beq_iff_eq.mp M.fn) (codeAny_mono (F.run _ X.stack _ _ ⟨Value.ref (s2.heap.objs.size + 1) :: us, (kws.map (·.1)).zip ws⟩ (g (Value.ref (s2.heap.objs.size + 1) :: us) ws) _ _ (WE W σ)
    (hr.make C us ((kws.map (·.1)).zip ws)) (J.env0.make C us ((kws.map (·.1)).zip ws)) (kb.to _ (Value.ref (s2.heap.objs.size + 1) :: us) ws J.kIn n1 (rz.length.symm.trans l2)) (kb.rel r1 rz) hq) fun a s' hq' => ?_))
  cases a with
  | error e => exact passAt tk' σ pins _ _ e s' J hq'
  | ok fl =>
    cases fl with
    | ret u =>
      obtain ⟨v, H', I3, rv, ev, q3⟩ := J.after hq'
      subst ev
      exact ⟨rv, ⟨V.ref (s2.heap.objs.size + 1), H', I3, rfl, q3⟩⟩
    | next => exact hq'.elim
    | brk => exact hq'.elim
    | cont => exact hq'.elim
end
section
variable {K : PySem.W.Frag}
theorem ks_nil {D : Addr} : ∀ q ∈ ([] : List (Str × V)), ∃ u, PySem.W.nsIn K D q.1 = some (some u) ∧ RelV q.2 u := fun q hq => by cases hq
theorem ks_cons {D : Addr} {x : Str} {v : V} {u : Value} {kws : List (Str × V)} (h : PySem.W.nsIn K D x = some (some u)) (r : RelV v u) (t : ∀ q ∈ kws, ∃ u, PySem.W.nsIn K D q.1 = some (some u) ∧ RelV q.2 u) : ∀ q ∈ (x, v) :: kws, ∃ u, PySem.W.nsIn K D q.1 = some (some u) ∧ RelV q.2 u := fun q hq => by
  rcases List.mem_cons.mp hq with rfl | hq
  · exact ⟨u, h, r⟩
  · exact t q hq
theorem initK_of {C D : Addr} {q : Str} {st : Stmt} {kws : List (Str × V)} {f : Addr} {od an : Option Addr} {sl : Array (Option Value)} {oc dc pm cd ct : Value} (a1 : PySem.W.findIn K (.ref C) "__init__" = some (some (.ref f))) (i1 : PySem.W.isFn K (.ref f) = true)
    (l1 : K.lookup f = some ⟨oc, od, .func (PySem.W.fnOf "__init__" q (defArgs st) (defBody st) (defScope st) .none (.ref D) dc pm an cd ct), sl⟩) (c1 : PySem.W.codeIn K cd q = true) (k1 : PySem.W.keepIn K (.ref f) = true)
    (ks : ∀ q ∈ kws, ∃ u, PySem.W.nsIn K D q.1 = some (some u) ∧ RelV q.2 u) : InitK K C q st kws := ⟨f, _, ⟨⟨_, _, _, _, _, _, _, _, _, _, rfl, l1, c1, .inl ⟨rfl, rfl⟩, .inr ⟨D, rfl, ks⟩⟩, k1⟩, ⟨a1, i1, k1⟩⟩
end
end Kit

end
section
set_option Elab.async false
set_option linter.all false
set_option maxRecDepth 100000
set_option maxHeartbeats 4000000
namespace Kit
open PySem PySem.Spec PyProof.Rows L2
/-! ### text * whole number -/
section
variable {X : Cx}
theorem op_repS : OpR X (binaryOp .Mult) (fun x y H Q => ∃ z n, x = .str z ∧ y = .int n ∧ MulOk z n ∧ Q (.str (Txt.mul z n)) H) := by
  intro pins s σ H x y v u Q I rx ry h
  obtain ⟨z, n, rfl, rfl, hz, q⟩ := h
  obtain ⟨t, rfl⟩ := rx
  obtain ⟨t', rfl⟩ := ry
  exact SB.mul hz fun t' k => ⟨.str (Txt.mul z n), H, I.tok _, ⟨_, rfl⟩, q⟩
end
theorem foldl_repN (its : List Nat) : ∀ (k : Nat) (acc : List Nat),
    List.foldl (fun x1 x2 => x1 ++ x2) acc.toArray (List.replicate k its.toArray) = (acc ++ (List.replicate k its).flatten).toArray
  | 0, acc => by simp
  | k + 1, acc => by
    have e : acc.toArray ++ its.toArray = (acc ++ its).toArray := by simp
    have e2 : (acc ++ its) ++ (List.replicate k its).flatten = acc ++ (List.replicate (k + 1) its).flatten := by
      rw [List.replicate_succ, List.flatten_cons, List.append_assoc]
    rw [List.replicate_succ, List.foldl_cons, e, foldl_repN its k (acc ++ its), e2]
theorem mul_S (l : List Nat) (k : Nat) : Txt.mul (S l) (k : Int) = S (List.replicate k l).flatten := by
  have f0 : List.foldl (fun x1 x2 => x1 ++ x2) #[] (List.replicate k l.toArray) = (List.replicate k l).flatten.toArray := by
    have := foldl_repN l k []
    rw [List.nil_append] at this
    exact this
  unfold Txt.mul
  by_cases h1 : (k : Int) < 1
  · have : k = 0 := by omega
    subst this
    rw [if_pos h1]
    rfl
  · rw [if_neg h1]
    by_cases h2 : ((k : Int) == 1 || (S l).length == 0) = true
    · rw [if_pos h2]
      rw [Bool.or_eq_true, beq_iff_eq, beq_iff_eq] at h2
      rcases h2 with h2 | h2
      · have : k = 1 := by omega
        subst this
        rw [List.replicate_one, List.flatten_cons, List.flatten_nil, List.append_nil]
      · rw [S_len] at h2
        have : l = [] := List.length_eq_zero_iff.mp h2
        subst this
        congr 1
        induction k with
        | zero => rfl
        | succ k ih => rw [List.replicate_succ, List.flatten_cons, List.nil_append]; exact (by simp : [] = (List.replicate k ([] : List Nat)).flatten)
    · rw [if_neg h2]
      show (⟨_⟩ : Str) = ⟨_⟩
      congr 1
end Kit

end
section
set_option Elab.async false
set_option linter.all false
set_option maxRecDepth 100000
set_option maxHeartbeats 4000000
namespace Kit
open PySem PySem.Spec PyProof.Rows L2
/-! ### math.lcm; ~ of an own class -/
section
variable {X : Cx}
def rLcm : List V → Hp → VK → Prop := fun vs H Q => ∃ a b : Nat, vs = [.int a, .int b] ∧ a ≤ 1000000 ∧ b ≤ 1000000 ∧ Q (.int ((Nat.lcm a b : Nat) : Int)) H
theorem cr_lcm : CallR X (.builtin "math.lcm") rLcm := by
  intro pins s σ H vs us Q I r h
  obtain ⟨a, b, rfl, ha, hb, q⟩ := h
  obtain ⟨t, u, rfl⟩ := Vals.int2 r
  have e : (((Nat.lcm 1 (a : Int).natAbs).lcm (b : Int).natAbs : Nat) : Int) = ((Nat.lcm a b : Nat) : Int) := by
    rw [Int.natAbs_natCast, Int.natAbs_natCast, Nat.lcm_one_left]
  have le : Nat.lcm a b ≤ 1000000 * 1000000 := Nat.le_trans (by rw [Nat.lcm]; exact Nat.div_le_self _ _) (Nat.mul_le_mul ha hb)
  refine PySem.W.mg_lcm_v (by rw [Int.natAbs_natCast]; omega) (by rw [Int.natAbs_natCast]; omega) e ?_ ⟨.int _, H, I.tok _, ⟨_, rfl⟩, q⟩
  rw [Int.natAbs_natCast]
  by_cases z : Nat.lcm a b = 0
  · rw [z]
    decide
  · have := (Nat.log2_lt z (k := 41)).mpr (by omega)
    exact Nat.lt_trans this (by decide)
variable {C : Addr} {k j : Nat} {sp : Sp}
def rInvO (C : Addr) (sp : Sp) : V → Hp → VK → Prop := fun x H Q => ∃ a dx fs, x = .ref a ∧ H a = some (.ins C dx fs) ∧ sp [x] H (fun v G => (∃ p, v = .ref p) ∧ Q v G) E0
theorem invO (c : CanM X.prog X.w X.K X.mg X.base k C "__invert__" sp) (hr : Room j X.A) (hk : k ≤ j) : UnR X (unaryOp .Invert) (rInvO C sp) := by
  obtain ⟨f, fd, ps, F, hcl, hm, b⟩ := c.ex
  intro pins s σ H x v Q I rx hq
  obtain ⟨a, dx, fs, rfl, ha, h⟩ := hq
  cases rx
  obtain ⟨mA, J, _⟩ := ins_get I.hok ha
  obtain ⟨od, J, _⟩ := J.look
  obtain ⟨mm, hF⟩ := I.fr
  refine PySem.W.ksp_inv hF I.ok.mod.kin J hm.at_ hm.fn ?_
  refine wpAny_mono (run_fn (us := [.ref a]) (vs := [.ref a]) (dvs := []) (ds := []) F (hr.mono hk) b .nil passL I (.cons rfl .nil) h) (fun r s' z => ?_) fun _ _ x => x
  obtain ⟨v, H', I', rv, ⟨p, rfl⟩, q⟩ := z
  cases rv
  exact ⟨.ref p, H', I', rfl, q⟩
end
end Kit

end
section
set_option Elab.async false
set_option maxRecDepth 100000
set_option maxHeartbeats 4000000
namespace K40
open PySem PySem.Spec PyProof.Rows L2 Kit
def top (i : Nat) : Stmt := PySem.Challenge.pw_galloon_k40_endless_strips_and_moves.main.body.getD i (.Pass ⟨0, 0, 0, 0⟩)
abbrev s_BadScheme___init__ : Stmt := (inClass (top 5) 0)
abbrev N_BadScheme___init__ : List Str := ["self", "part"]
abbrev P_BadScheme___init__ : List Str := ["self", "part"]
theorem sc_BadScheme___init__ : FnScope N_BadScheme___init__ P_BadScheme___init__ (defScope s_BadScheme___init__) := ⟨rfl, rfl, rfl, by decide +kernel, rfl, by decide +kernel, by decide +kernel⟩
theorem bd_BadScheme___init__ : BindsPlain s_BadScheme___init__ "__init__" "BadScheme.__init__" P_BadScheme___init__ := fun _ _ _ _ _ _ us hl => match us, hl with | [_, _], _ => rfl
abbrev s_BadColumn___init__ : Stmt := (inClass (top 6) 0)
abbrev N_BadColumn___init__ : List Str := ["self", "text"]
abbrev P_BadColumn___init__ : List Str := ["self", "text"]
theorem sc_BadColumn___init__ : FnScope N_BadColumn___init__ P_BadColumn___init__ (defScope s_BadColumn___init__) := ⟨rfl, rfl, rfl, by decide +kernel, rfl, by decide +kernel, by decide +kernel⟩
theorem bd_BadColumn___init__ : BindsPlain s_BadColumn___init__ "__init__" "BadColumn.__init__" P_BadColumn___init__ := fun _ _ _ _ _ _ us hl => match us, hl with | [_, _], _ => rfl
abbrev s_BadSpots___init__ : Stmt := (inClass (top 7) 0)
abbrev N_BadSpots___init__ : List Str := ["self", "text"]
abbrev P_BadSpots___init__ : List Str := ["self", "text"]
theorem sc_BadSpots___init__ : FnScope N_BadSpots___init__ P_BadSpots___init__ (defScope s_BadSpots___init__) := ⟨rfl, rfl, rfl, by decide +kernel, rfl, by decide +kernel, by decide +kernel⟩
theorem bd_BadSpots___init__ : BindsPlain s_BadSpots___init__ "__init__" "BadSpots.__init__" P_BadSpots___init__ := fun _ _ _ _ _ _ us hl => match us, hl with | [_, _], _ => rfl
abbrev s_BadStrip___init__ : Stmt := (inClass (top 8) 0)
abbrev N_BadStrip___init__ : List Str := ["self", "text"]
abbrev P_BadStrip___init__ : List Str := ["self", "text"]
theorem sc_BadStrip___init__ : FnScope N_BadStrip___init__ P_BadStrip___init__ (defScope s_BadStrip___init__) := ⟨rfl, rfl, rfl, by decide +kernel, rfl, by decide +kernel, by decide +kernel⟩
theorem bd_BadStrip___init__ : BindsPlain s_BadStrip___init__ "__init__" "BadStrip.__init__" P_BadStrip___init__ := fun _ _ _ _ _ _ us hl => match us, hl with | [_, _], _ => rfl
abbrev s_BadEndless___init__ : Stmt := (inClass (top 9) 0)
abbrev N_BadEndless___init__ : List Str := ["self", "part"]
abbrev P_BadEndless___init__ : List Str := ["self", "part"]
theorem sc_BadEndless___init__ : FnScope N_BadEndless___init__ P_BadEndless___init__ (defScope s_BadEndless___init__) := ⟨rfl, rfl, rfl, by decide +kernel, rfl, by decide +kernel, by decide +kernel⟩
theorem bd_BadEndless___init__ : BindsPlain s_BadEndless___init__ "__init__" "BadEndless.__init__" P_BadEndless___init__ := fun _ _ _ _ _ _ us hl => match us, hl with | [_, _], _ => rfl
abbrev s_Scheme___init__ : Stmt := (inClass (top 13) 2)
abbrev N_Scheme___init__ : List Str := ["self", "rows", "colours", "many", "_"]
abbrev P_Scheme___init__ : List Str := ["self", "rows", "colours"]
theorem sc_Scheme___init__ : FnScope N_Scheme___init__ P_Scheme___init__ (defScope s_Scheme___init__) := ⟨rfl, rfl, rfl, by decide +kernel, rfl, by decide +kernel, by decide +kernel⟩
theorem bd_Scheme___init__ : BindsPlain s_Scheme___init__ "__init__" "Scheme.__init__" P_Scheme___init__ := fun _ _ _ _ _ _ us hl => match us, hl with | [_, _, _], _ => rfl
abbrev s_Scheme___eq__ : Stmt := (inClass (top 13) 3)
abbrev N_Scheme___eq__ : List Str := ["self", "other"]
abbrev P_Scheme___eq__ : List Str := ["self", "other"]
theorem sc_Scheme___eq__ : FnScope N_Scheme___eq__ P_Scheme___eq__ (defScope s_Scheme___eq__) := ⟨rfl, rfl, rfl, by decide +kernel, rfl, by decide +kernel, by decide +kernel⟩
theorem bd_Scheme___eq__ : BindsPlain s_Scheme___eq__ "__eq__" "Scheme.__eq__" P_Scheme___eq__ := fun _ _ _ _ _ _ us hl => match us, hl with | [_, _], _ => rfl
abbrev s_Scheme___len__ : Stmt := (inClass (top 13) 4)
abbrev N_Scheme___len__ : List Str := ["self"]
abbrev P_Scheme___len__ : List Str := ["self"]
theorem sc_Scheme___len__ : FnScope N_Scheme___len__ P_Scheme___len__ (defScope s_Scheme___len__) := ⟨rfl, rfl, rfl, by decide +kernel, rfl, by decide +kernel, by decide +kernel⟩
theorem bd_Scheme___len__ : BindsPlain s_Scheme___len__ "__len__" "Scheme.__len__" P_Scheme___len__ := fun _ _ _ _ _ _ us hl => match us, hl with | [_], _ => rfl
abbrev s_Scheme_is_column : Stmt := (inClass (top 13) 5)
abbrev N_Scheme_is_column : List Str := ["self", "text"]
abbrev P_Scheme_is_column : List Str := ["self", "text"]
theorem sc_Scheme_is_column : FnScope N_Scheme_is_column P_Scheme_is_column (defScope s_Scheme_is_column) := ⟨rfl, rfl, rfl, by decide +kernel, rfl, by decide +kernel, by decide +kernel⟩
theorem bd_Scheme_is_column : BindsPlain s_Scheme_is_column "is_column" "Scheme.is_column" P_Scheme_is_column := fun _ _ _ _ _ _ us hl => match us, hl with | [_, _], _ => rfl
abbrev s_Scheme_is_colour : Stmt := (inClass (top 13) 6)
abbrev N_Scheme_is_colour : List Str := ["self", "text"]
abbrev P_Scheme_is_colour : List Str := ["self", "text"]
theorem sc_Scheme_is_colour : FnScope N_Scheme_is_colour P_Scheme_is_colour (defScope s_Scheme_is_colour) := ⟨rfl, rfl, rfl, by decide +kernel, rfl, by decide +kernel, by decide +kernel⟩
theorem bd_Scheme_is_colour : BindsPlain s_Scheme_is_colour "is_colour" "Scheme.is_colour" P_Scheme_is_colour := fun _ _ _ _ _ _ us hl => match us, hl with | [_, _], _ => rfl
abbrev s_Scheme_is_strip : Stmt := (inClass (top 13) 7)
abbrev N_Scheme_is_strip : List Str := ["self", "text", "column"]
abbrev P_Scheme_is_strip : List Str := ["self", "text"]
theorem sc_Scheme_is_strip : FnScope N_Scheme_is_strip P_Scheme_is_strip (defScope s_Scheme_is_strip) := ⟨rfl, rfl, rfl, by decide +kernel, rfl, by decide +kernel, by decide +kernel⟩
theorem bd_Scheme_is_strip : BindsPlain s_Scheme_is_strip "is_strip" "Scheme.is_strip" P_Scheme_is_strip := fun _ _ _ _ _ _ us hl => match us, hl with | [_, _], _ => rfl
abbrev s_Scheme_spots : Stmt := (inClass (top 13) 9)
abbrev N_Scheme_spots : List Str := ["self", "column", "number", "spots", "_"]
abbrev P_Scheme_spots : List Str := ["self", "column"]
theorem sc_Scheme_spots : FnScope N_Scheme_spots P_Scheme_spots (defScope s_Scheme_spots) := ⟨rfl, rfl, rfl, by decide +kernel, rfl, by decide +kernel, by decide +kernel⟩
theorem bd_Scheme_spots : BindsPlain s_Scheme_spots "spots" "Scheme.spots" P_Scheme_spots := fun _ _ _ _ _ _ us hl => match us, hl with | [_, _], _ => rfl
abbrev s_Scheme_column : Stmt := (inClass (top 13) 10)
abbrev N_Scheme_column : List Str := ["self", "spots", "spot", "number"]
abbrev P_Scheme_column : List Str := ["self", "spots"]
theorem sc_Scheme_column : FnScope N_Scheme_column P_Scheme_column (defScope s_Scheme_column) := ⟨rfl, rfl, rfl, by decide +kernel, rfl, by decide +kernel, by decide +kernel⟩
theorem bd_Scheme_column : BindsPlain s_Scheme_column "column" "Scheme.column" P_Scheme_column := fun _ _ _ _ _ _ us hl => match us, hl with | [_, _], _ => rfl
abbrev s_check_alike : Stmt := (top 14)
abbrev N_check_alike : List Str := ["one", "other"]
abbrev P_check_alike : List Str := ["one", "other"]
theorem sc_check_alike : FnScope N_check_alike P_check_alike (defScope s_check_alike) := ⟨rfl, rfl, rfl, by decide +kernel, rfl, by decide +kernel, by decide +kernel⟩
theorem bd_check_alike : BindsPlain s_check_alike "check_alike" "check_alike" P_check_alike := fun _ _ _ _ _ _ us hl => match us, hl with | [_, _], _ => rfl
abbrev s_Endless___init__ : Stmt := (inClass (top 17) 0)
abbrev N_Endless___init__ : List Str := ["self", "scheme", "left", "middle", "right", "start"]
abbrev P_Endless___init__ : List Str := ["self", "scheme", "left", "middle", "right", "start"]
theorem sc_Endless___init__ : FnScope N_Endless___init__ P_Endless___init__ (defScope s_Endless___init__) := ⟨rfl, rfl, rfl, by decide +kernel, rfl, by decide +kernel, by decide +kernel⟩
abbrev kw_Endless___init__ : List (Str × V) := [("start", .int 0)]
theorem bk_Endless___init__ : BindsKw s_Endless___init__ "Endless.__init__" P_Endless___init__ 5 kw_Endless___init__ := ⟨fun _ _ _ _ _ _ us ks h1 h2 => match us, ks, h1, h2 with | [_, _, _, _, _], [_], _, _ => ⟨_, _, _, _, _, _, rfl, rfl, rfl⟩, fun _ _ _ _ _ _ us ks h1 h2 => match us, ks, h1, h2 with | [_, _, _, _, _], [_], _, _ => rfl⟩
abbrev s_Endless___eq__ : Stmt := (inClass (top 17) 1)
abbrev N_Endless___eq__ : List Str := ["self", "other"]
abbrev P_Endless___eq__ : List Str := ["self", "other"]
theorem sc_Endless___eq__ : FnScope N_Endless___eq__ P_Endless___eq__ (defScope s_Endless___eq__) := ⟨rfl, rfl, rfl, by decide +kernel, rfl, by decide +kernel, by decide +kernel⟩
theorem bd_Endless___eq__ : BindsPlain s_Endless___eq__ "__eq__" "Endless.__eq__" P_Endless___eq__ := fun _ _ _ _ _ _ us hl => match us, hl with | [_, _], _ => rfl
abbrev s_Endless_column_at : Stmt := (inClass (top 17) 2)
abbrev N_Endless_column_at : List Str := ["self", "index", "at"]
abbrev P_Endless_column_at : List Str := ["self", "index"]
theorem sc_Endless_column_at : FnScope N_Endless_column_at P_Endless_column_at (defScope s_Endless_column_at) := ⟨rfl, rfl, rfl, by decide +kernel, rfl, by decide +kernel, by decide +kernel⟩
theorem bd_Endless_column_at : BindsPlain s_Endless_column_at "column_at" "Endless.column_at" P_Endless_column_at := fun _ _ _ _ _ _ us hl => match us, hl with | [_, _], _ => rfl
abbrev s_Endless_window : Stmt := (inClass (top 17) 3)
abbrev N_Endless_window : List Str := ["self", "begin", "stop", "index"]
abbrev P_Endless_window : List Str := ["self", "begin", "stop"]
theorem sc_Endless_window : FnScope N_Endless_window P_Endless_window (defScope s_Endless_window) := ⟨rfl, rfl, rfl, by decide +kernel, rfl, by decide +kernel, by decide +kernel⟩
theorem bd_Endless_window : BindsPlain s_Endless_window "window" "Endless.window" P_Endless_window := fun _ _ _ _ _ _ us hl => match us, hl with | [_, _, _], _ => rfl
abbrev s_Endless_moved : Stmt := (inClass (top 17) 4)
abbrev N_Endless_moved : List Str := ["self", "by"]
abbrev P_Endless_moved : List Str := ["self", "by"]
theorem sc_Endless_moved : FnScope N_Endless_moved P_Endless_moved (defScope s_Endless_moved) := ⟨rfl, rfl, rfl, by decide +kernel, rfl, by decide +kernel, by decide +kernel⟩
theorem bd_Endless_moved : BindsPlain s_Endless_moved "moved" "Endless.moved" P_Endless_moved := fun _ _ _ _ _ _ us hl => match us, hl with | [_, _], _ => rfl
abbrev s_endless_apart : Stmt := (top 18)
abbrev N_endless_apart : List Str := ["first", "second"]
abbrev P_endless_apart : List Str := ["first", "second"]
theorem sc_endless_apart : FnScope N_endless_apart P_endless_apart (defScope s_endless_apart) := ⟨rfl, rfl, rfl, by decide +kernel, rfl, by decide +kernel, by decide +kernel⟩
theorem bd_endless_apart : BindsPlain s_endless_apart "endless_apart" "endless_apart" P_endless_apart := fun _ _ _ _ _ _ us hl => match us, hl with | [_, _], _ => rfl
abbrev s_is_loop : Stmt := (top 19)
abbrev N_is_loop : List Str := ["scheme", "text"]
abbrev P_is_loop : List Str := ["scheme", "text"]
theorem sc_is_loop : FnScope N_is_loop P_is_loop (defScope s_is_loop) := ⟨rfl, rfl, rfl, by decide +kernel, rfl, by decide +kernel, by decide +kernel⟩
theorem bd_is_loop : BindsPlain s_is_loop "_is_loop" "_is_loop" P_is_loop := fun _ _ _ _ _ _ us hl => match us, hl with | [_, _], _ => rfl
abbrev s_apart : Stmt := (top 20)
abbrev N_apart : List Str := ["first", "second", "begin", "stop", "before", "behind", "found", "at", "one", "other", "index"]
abbrev P_apart : List Str := ["first", "second"]
theorem sc_apart : FnScope N_apart P_apart (defScope s_apart) := ⟨rfl, rfl, rfl, by decide +kernel, rfl, by decide +kernel, by decide +kernel⟩
theorem bd_apart : BindsPlain s_apart "_apart" "_apart" P_apart := fun _ _ _ _ _ _ us hl => match us, hl with | [_, _], _ => rfl
abbrev s_law_source : Stmt := (top 22)
abbrev N_law_source : List Str := ["script"]
abbrev P_law_source : List Str := ["script"]
theorem sc_law_source : FnScope N_law_source P_law_source (defScope s_law_source) := ⟨rfl, rfl, rfl, by decide +kernel, rfl, by decide +kernel, by decide +kernel⟩
theorem bd_law_source : BindsPlain s_law_source "_law_source" "_law_source" P_law_source := fun _ _ _ _ _ _ us hl => match us, hl with | [_], _ => rfl
abbrev s_law_draw : Stmt := (top 23)
abbrev N_law_draw : List Str := ["source", "size", "cells", "cell", "value", "first", "second", "third"]
abbrev P_law_draw : List Str := ["source", "size"]
theorem sc_law_draw : FnScope N_law_draw P_law_draw (defScope s_law_draw) := ⟨rfl, rfl, rfl, by decide +kernel, rfl, by decide +kernel, by decide +kernel⟩
theorem bd_law_draw : BindsPlain s_law_draw "_law_draw" "_law_draw" P_law_draw := fun _ _ _ _ _ _ us hl => match us, hl with | [_, _], _ => rfl
abbrev s_law_strip : Stmt := (top 24)
abbrev N_law_strip : List Str := ["source", "columns", "size", "k"]
abbrev P_law_strip : List Str := ["source", "columns", "size"]
theorem sc_law_strip : FnScope N_law_strip P_law_strip (defScope s_law_strip) := ⟨rfl, rfl, rfl, by decide +kernel, rfl, by decide +kernel, by decide +kernel⟩
theorem bd_law_strip : BindsPlain s_law_strip "_law_strip" "_law_strip" P_law_strip := fun _ _ _ _ _ _ us hl => match us, hl with | [_, _, _], _ => rfl
abbrev s_law_shape : Stmt := (top 25)
abbrev N_law_shape : List Str := ["source", "pick"]
abbrev P_law_shape : List Str := ["source"]
theorem sc_law_shape : FnScope N_law_shape P_law_shape (defScope s_law_shape) := ⟨rfl, rfl, rfl, by decide +kernel, rfl, by decide +kernel, by decide +kernel⟩
theorem bd_law_shape : BindsPlain s_law_shape "_law_shape" "_law_shape" P_law_shape := fun _ _ _ _ _ _ us hl => match us, hl with | [_], _ => rfl
abbrev s_law_column : Stmt := (top 26)
abbrev N_law_column : List Str := ["parts", "index", "left", "middle", "right", "begin", "place"]
abbrev P_law_column : List Str := ["parts", "index"]
theorem sc_law_column : FnScope N_law_column P_law_column (defScope s_law_column) := ⟨rfl, rfl, rfl, by decide +kernel, rfl, by decide +kernel, by decide +kernel⟩
theorem bd_law_column : BindsPlain s_law_column "_law_column" "_law_column" P_law_column := fun _ _ _ _ _ _ us hl => match us, hl with | [_, _], _ => rfl
abbrev s_law_text : Stmt := (top 27)
abbrev N_law_text : List Str := ["parts", "begin", "stop", "index"]
abbrev P_law_text : List Str := ["parts", "begin", "stop"]
theorem sc_law_text : FnScope N_law_text P_law_text (defScope s_law_text) := ⟨rfl, rfl, rfl, by decide +kernel, rfl, by decide +kernel, by decide +kernel⟩
theorem bd_law_text : BindsPlain s_law_text "_law_text" "_law_text" P_law_text := fun _ _ _ _ _ _ us hl => match us, hl with | [_, _, _], _ => rfl
abbrev s_law_made : Stmt := (top 28)
abbrev N_law_made : List Str := ["scheme", "parts"]
abbrev P_law_made : List Str := ["scheme", "parts"]
theorem sc_law_made : FnScope N_law_made P_law_made (defScope s_law_made) := ⟨rfl, rfl, rfl, by decide +kernel, rfl, by decide +kernel, by decide +kernel⟩
theorem bd_law_made : BindsPlain s_law_made "_law_made" "_law_made" P_law_made := fun _ _ _ _ _ _ us hl => match us, hl with | [_, _], _ => rfl
abbrev s_law_parts : Stmt := (top 29)
abbrev N_law_parts : List Str := ["source", "columns", "size", "begin", "left", "middle", "right"]
abbrev P_law_parts : List Str := ["source", "columns"]
theorem sc_law_parts : FnScope N_law_parts P_law_parts (defScope s_law_parts) := ⟨rfl, rfl, rfl, by decide +kernel, rfl, by decide +kernel, by decide +kernel⟩
theorem bd_law_parts : BindsPlain s_law_parts "_law_parts" "_law_parts" P_law_parts := fun _ _ _ _ _ _ us hl => match us, hl with | [_, _], _ => rfl
abbrev s_law_rewritten : Stmt := (top 30)
abbrev N_law_rewritten : List Str := ["source", "parts", "left", "middle", "right", "begin", "low", "high", "before", "behind"]
abbrev P_law_rewritten : List Str := ["source", "parts"]
theorem sc_law_rewritten : FnScope N_law_rewritten P_law_rewritten (defScope s_law_rewritten) := ⟨rfl, rfl, rfl, by decide +kernel, rfl, by decide +kernel, by decide +kernel⟩
theorem bd_law_rewritten : BindsPlain s_law_rewritten "_law_rewritten" "_law_rewritten" P_law_rewritten := fun _ _ _ _ _ _ us hl => match us, hl with | [_, _], _ => rfl
abbrev s_law_changed : Stmt := (top 31)
abbrev N_law_changed : List Str := ["source", "columns", "text", "at", "step", "column"]
abbrev P_law_changed : List Str := ["source", "columns", "text"]
theorem sc_law_changed : FnScope N_law_changed P_law_changed (defScope s_law_changed) := ⟨rfl, rfl, rfl, by decide +kernel, rfl, by decide +kernel, by decide +kernel⟩
theorem bd_law_changed : BindsPlain s_law_changed "_law_changed" "_law_changed" P_law_changed := fun _ _ _ _ _ _ us hl => match us, hl with | [_, _, _], _ => rfl
abbrev s_law_other : Stmt := (top 32)
abbrev N_law_other : List Str := ["source", "columns", "parts", "pick", "left", "middle", "right", "begin"]
abbrev P_law_other : List Str := ["source", "columns", "parts"]
theorem sc_law_other : FnScope N_law_other P_law_other (defScope s_law_other) := ⟨rfl, rfl, rfl, by decide +kernel, rfl, by decide +kernel, by decide +kernel⟩
theorem bd_law_other : BindsPlain s_law_other "_law_other" "_law_other" P_law_other := fun _ _ _ _ _ _ us hl => match us, hl with | [_, _, _], _ => rfl
abbrev s_law_gaps : Stmt := (top 33)
abbrev N_law_gaps : List Str := ["one", "other", "low", "high", "front", "back", "index"]
abbrev P_law_gaps : List Str := ["one", "other"]
theorem sc_law_gaps : FnScope N_law_gaps P_law_gaps (defScope s_law_gaps) := ⟨rfl, rfl, rfl, by decide +kernel, rfl, by decide +kernel, by decide +kernel⟩
theorem bd_law_gaps : BindsPlain s_law_gaps "_law_gaps" "_law_gaps" P_law_gaps := fun _ _ _ _ _ _ us hl => match us, hl with | [_, _], _ => rfl
abbrev s_law_columns_hold : Stmt := (top 34)
abbrev N_law_columns_hold : List Str := ["made", "parts", "places", "index", "told"]
abbrev P_law_columns_hold : List Str := ["made", "parts"]
theorem sc_law_columns_hold : FnScope N_law_columns_hold P_law_columns_hold (defScope s_law_columns_hold) := ⟨rfl, rfl, rfl, by decide +kernel, rfl, by decide +kernel, by decide +kernel⟩
theorem bd_law_columns_hold : BindsPlain s_law_columns_hold "_law_columns_hold" "_law_columns_hold" P_law_columns_hold := fun _ _ _ _ _ _ us hl => match us, hl with | [_, _], _ => rfl
abbrev s_law_windows_hold : Stmt := (top 35)
abbrev N_law_windows_hold : List Str := ["source", "made", "parts", "pairs", "k", "low", "high", "told"]
abbrev P_law_windows_hold : List Str := ["source", "made", "parts"]
theorem sc_law_windows_hold : FnScope N_law_windows_hold P_law_windows_hold (defScope s_law_windows_hold) := ⟨rfl, rfl, rfl, by decide +kernel, rfl, by decide +kernel, by decide +kernel⟩
theorem bd_law_windows_hold : BindsPlain s_law_windows_hold "_law_windows_hold" "_law_windows_hold" P_law_windows_hold := fun _ _ _ _ _ _ us hl => match us, hl with | [_, _, _], _ => rfl
abbrev s_law_gaps_hold : Stmt := (top 36)
abbrev N_law_gaps_hold : List Str := ["one", "other", "gaps", "same", "turn", "told", "k"]
abbrev P_law_gaps_hold : List Str := ["one", "other", "gaps"]
theorem sc_law_gaps_hold : FnScope N_law_gaps_hold P_law_gaps_hold (defScope s_law_gaps_hold) := ⟨rfl, rfl, rfl, by decide +kernel, rfl, by decide +kernel, by decide +kernel⟩
theorem bd_law_gaps_hold : BindsPlain s_law_gaps_hold "_law_gaps_hold" "_law_gaps_hold" P_law_gaps_hold := fun _ _ _ _ _ _ us hl => match us, hl with | [_, _, _], _ => rfl
abbrev s_law_moves_hold : Stmt := (top 37)
abbrev N_law_moves_hold : List Str := ["source", "scheme", "made", "parts", "by", "gone", "there"]
abbrev P_law_moves_hold : List Str := ["source", "scheme", "made", "parts"]
theorem sc_law_moves_hold : FnScope N_law_moves_hold P_law_moves_hold (defScope s_law_moves_hold) := ⟨rfl, rfl, rfl, by decide +kernel, rfl, by decide +kernel, by decide +kernel⟩
theorem bd_law_moves_hold : BindsPlain s_law_moves_hold "_law_moves_hold" "_law_moves_hold" P_law_moves_hold := fun _ _ _ _ _ _ us hl => match us, hl with | [_, _, _, _], _ => rfl
abbrev s_law_spoilt : Stmt := (top 38)
abbrev N_law_spoilt : List Str := ["source", "columns", "text", "ends", "sign", "at"]
abbrev P_law_spoilt : List Str := ["source", "columns", "text", "ends"]
theorem sc_law_spoilt : FnScope N_law_spoilt P_law_spoilt (defScope s_law_spoilt) := ⟨rfl, rfl, rfl, by decide +kernel, rfl, by decide +kernel, by decide +kernel⟩
theorem bd_law_spoilt : BindsPlain s_law_spoilt "_law_spoilt" "_law_spoilt" P_law_spoilt := fun _ _ _ _ _ _ us hl => match us, hl with | [_, _, _, _], _ => rfl
abbrev s_law_refusal : Stmt := (top 39)
abbrev N_law_refusal : List Str := ["scheme", "parts", "e"]
abbrev P_law_refusal : List Str := ["scheme", "parts"]
theorem sc_law_refusal : FnScope N_law_refusal P_law_refusal (defScope s_law_refusal) := ⟨rfl, rfl, rfl, by decide +kernel, rfl, by decide +kernel, by decide +kernel⟩
theorem bd_law_refusal : BindsPlain s_law_refusal "_law_refusal" "_law_refusal" P_law_refusal := fun _ _ _ _ _ _ us hl => match us, hl with | [_, _], _ => rfl
abbrev s_law_refusals_hold : Stmt := (top 40)
abbrev N_law_refusals_hold : List Str := ["source", "scheme", "columns", "parts", "left", "middle", "right", "begin", "marks", "due"]
abbrev P_law_refusals_hold : List Str := ["source", "scheme", "columns", "parts"]
theorem sc_law_refusals_hold : FnScope N_law_refusals_hold P_law_refusals_hold (defScope s_law_refusals_hold) := ⟨rfl, rfl, rfl, by decide +kernel, rfl, by decide +kernel, by decide +kernel⟩
theorem bd_law_refusals_hold : BindsPlain s_law_refusals_hold "_law_refusals_hold" "_law_refusals_hold" P_law_refusals_hold := fun _ _ _ _ _ _ us hl => match us, hl with | [_, _, _, _], _ => rfl
abbrev s_law_unlike : Stmt := (top 41)
abbrev N_law_unlike : List Str := ["one", "other", "e"]
abbrev P_law_unlike : List Str := ["one", "other"]
theorem sc_law_unlike : FnScope N_law_unlike P_law_unlike (defScope s_law_unlike) := ⟨rfl, rfl, rfl, by decide +kernel, rfl, by decide +kernel, by decide +kernel⟩
theorem bd_law_unlike : BindsPlain s_law_unlike "_law_unlike" "_law_unlike" P_law_unlike := fun _ _ _ _ _ _ us hl => match us, hl with | [_, _], _ => rfl
abbrev s_law_kinds_hold : Stmt := (top 42)
abbrev N_law_kinds_hold : List Str := ["scheme", "columns", "strange", "plain", "same"]
abbrev P_law_kinds_hold : List Str := ["scheme", "columns"]
theorem sc_law_kinds_hold : FnScope N_law_kinds_hold P_law_kinds_hold (defScope s_law_kinds_hold) := ⟨rfl, rfl, rfl, by decide +kernel, rfl, by decide +kernel, by decide +kernel⟩
theorem bd_law_kinds_hold : BindsPlain s_law_kinds_hold "_law_kinds_hold" "_law_kinds_hold" P_law_kinds_hold := fun _ _ _ _ _ _ us hl => match us, hl with | [_, _], _ => rfl
abbrev s_law : Stmt := (top 43)
abbrev N_law : List Str := ["script", "source", "rows", "colours", "columns", "scheme", "parts", "made", "plain", "other"]
abbrev P_law : List Str := ["script"]
theorem sc_law : FnScope N_law P_law (defScope s_law) := ⟨rfl, rfl, rfl, by decide +kernel, rfl, by decide +kernel, by decide +kernel⟩
theorem bd_law : BindsPlain s_law "law" "law" P_law := fun _ _ _ _ _ _ us hl => match us, hl with | [_], _ => rfl
structure Ad where
  GalloonError : Addr
  UnlikeSchemes : Addr
  BadScheme : Addr
  BadColumn : Addr
  BadSpots : Addr
  BadStrip : Addr
  BadEndless : Addr
  Scheme : Addr
  Endless : Addr
def eAd (a : Ad) : Nat → Addr
  | 0 => a.BadScheme
  | 1 => a.BadColumn
  | 2 => a.BadSpots
  | 3 => a.BadStrip
  | 4 => a.BadEndless
  | _ => a.UnlikeSchemes
structure Txt (K : PySem.W.Frag) (mg : Str → Option Value) (a : Ad) : Prop where
  b_ValueError : mg "ValueError" = none
  b_abs : mg "abs" = none
  b_all : mg "all" = none
  b_bool : mg "bool" = none
  b_enumerate : mg "enumerate" = none
  b_int : mg "int" = none
  b_isinstance : mg "isinstance" = none
  b_len : mg "len" = none
  b_list : mg "list" = none
  b_max : mg "max" = none
  b_min : mg "min" = none
  b_ord : mg "ord" = none
  b_range : mg "range" = none
  b_str : mg "str" = none
  b_zip : mg "zip" = none
  g_DIGITS : ∃ u, mg "DIGITS" = some u ∧ RelV (.str "012") u
  g_LETTERS : ∃ u, mg "LETTERS" = some u ∧ RelV (.str "abcdefghi") u
  g_MOST_LOOP : ∃ u, mg "MOST_LOOP" = some u ∧ RelV (.int 6) u
  g_GalloonError : mg "GalloonError" = some (.ref a.GalloonError)
  z_UnlikeSchemes : ErrZ K mg a.UnlikeSchemes "UnlikeSchemes"
  x_UnlikeSchemes : ErrC K a.UnlikeSchemes
  e_BadScheme : ErrT K mg a.BadScheme "BadScheme" "BadScheme.__init__" "part" s_BadScheme___init__
  x_BadScheme : ErrC K a.BadScheme
  e_BadColumn : ErrT K mg a.BadColumn "BadColumn" "BadColumn.__init__" "text" s_BadColumn___init__
  x_BadColumn : ErrC K a.BadColumn
  e_BadSpots : ErrT K mg a.BadSpots "BadSpots" "BadSpots.__init__" "text" s_BadSpots___init__
  x_BadSpots : ErrC K a.BadSpots
  e_BadStrip : ErrT K mg a.BadStrip "BadStrip" "BadStrip.__init__" "text" s_BadStrip___init__
  x_BadStrip : ErrC K a.BadStrip
  e_BadEndless : ErrT K mg a.BadEndless "BadEndless" "BadEndless.__init__" "part" s_BadEndless___init__
  x_BadEndless : ErrC K a.BadEndless
  c_Scheme : ClsT K mg a.Scheme "Scheme"
  m_Scheme___init__ : MetT K a.Scheme "__init__" "Scheme.__init__" s_Scheme___init__
  m_Scheme___eq__ : MetT K a.Scheme "__eq__" "Scheme.__eq__" s_Scheme___eq__
  m_Scheme___len__ : MetT K a.Scheme "__len__" "Scheme.__len__" s_Scheme___len__
  m_Scheme_is_column : MetT K a.Scheme "is_column" "Scheme.is_column" s_Scheme_is_column
  m_Scheme_is_colour : MetT K a.Scheme "is_colour" "Scheme.is_colour" s_Scheme_is_colour
  m_Scheme_is_strip : MetT K a.Scheme "is_strip" "Scheme.is_strip" s_Scheme_is_strip
  m_Scheme_spots : MetT K a.Scheme "spots" "Scheme.spots" s_Scheme_spots
  m_Scheme_column : MetT K a.Scheme "column" "Scheme.column" s_Scheme_column
  c_Endless : ClsT K mg a.Endless "Endless"
  m_Endless___init__ : InitK K a.Endless "Endless.__init__" s_Endless___init__ kw_Endless___init__
  m_Endless___eq__ : MetT K a.Endless "__eq__" "Endless.__eq__" s_Endless___eq__
  m_Endless_column_at : MetT K a.Endless "column_at" "Endless.column_at" s_Endless_column_at
  m_Endless_window : MetT K a.Endless "window" "Endless.window" s_Endless_window
  m_Endless_moved : MetT K a.Endless "moved" "Endless.moved" s_Endless_moved
  d_check_alike : DefT K mg "check_alike" s_check_alike
  d_endless_apart : DefT K mg "endless_apart" s_endless_apart
  d_is_loop : DefT K mg "_is_loop" s_is_loop
  d_apart : DefT K mg "_apart" s_apart
  d_law_source : DefT K mg "_law_source" s_law_source
  d_law_draw : DefT K mg "_law_draw" s_law_draw
  d_law_strip : DefT K mg "_law_strip" s_law_strip
  d_law_shape : DefT K mg "_law_shape" s_law_shape
  d_law_column : DefT K mg "_law_column" s_law_column
  d_law_text : DefT K mg "_law_text" s_law_text
  d_law_made : DefT K mg "_law_made" s_law_made
  d_law_parts : DefT K mg "_law_parts" s_law_parts
  d_law_rewritten : DefT K mg "_law_rewritten" s_law_rewritten
  d_law_changed : DefT K mg "_law_changed" s_law_changed
  d_law_other : DefT K mg "_law_other" s_law_other
  d_law_gaps : DefT K mg "_law_gaps" s_law_gaps
  d_law_columns_hold : DefT K mg "_law_columns_hold" s_law_columns_hold
  d_law_windows_hold : DefT K mg "_law_windows_hold" s_law_windows_hold
  d_law_gaps_hold : DefT K mg "_law_gaps_hold" s_law_gaps_hold
  d_law_moves_hold : DefT K mg "_law_moves_hold" s_law_moves_hold
  d_law_spoilt : DefT K mg "_law_spoilt" s_law_spoilt
  d_law_refusal : DefT K mg "_law_refusal" s_law_refusal
  d_law_refusals_hold : DefT K mg "_law_refusals_hold" s_law_refusals_hold
  d_law_unlike : DefT K mg "_law_unlike" s_law_unlike
  d_law_kinds_hold : DefT K mg "_law_kinds_hold" s_law_kinds_hold
  d_law : DefT K mg "law" s_law
  n_rows : NoAttr K a.Scheme "rows"
  n_colours : NoAttr K a.Scheme "colours"
  n_columns : NoAttr K a.Scheme "columns"
  n_scheme : NoAttr K a.Endless "scheme"
  n_left : NoAttr K a.Endless "left"
  n_middle : NoAttr K a.Endless "middle"
  n_right : NoAttr K a.Endless "right"
  n_start : NoAttr K a.Endless "start"
  k_MOST : ∃ u, Con K a.Scheme "MOST" (.int 9) u
  k_BLANK : ∃ u, Con K a.Scheme "BLANK" (.str "a") u
  i_ha : PySem.W.findIn K (.ref a.Scheme) "__class__" = some (some (.builtin "object.__class__"))
  i_hn : PySem.W.specialIn K (.builtin "object.__class__") "__get__" = some (some (.builtin "getset_descriptor.__get__"))
  i_ht : PySem.W.takesIn K (.builtin "object.__class__") = some true
  i_hm : PySem.W.mroIn K a.Scheme (.type "object") = some true
  p_ha : PySem.W.findIn K (.ref a.Endless) "__class__" = some (some (.builtin "object.__class__"))
  p_hm : PySem.W.mroIn K a.Endless (.type "object") = some true
  i_own : PySem.W.kitOne K (.ref a.Scheme) (.ref a.Scheme) = some true
  p_own : PySem.W.kitOne K (.ref a.Endless) (.ref a.Endless) = some true
  p_str : PySem.W.kitOne K (.type "str") (.ref a.Endless) = some false
  i_int : PySem.W.kitOne K (.type "int") (.ref a.Scheme) = some false
  i_str : PySem.W.kitOne K (.type "str") (.ref a.Scheme) = some false
  i_ni : PySem.W.notFirst K a.Scheme (.type "int") = true
  i_ns : PySem.W.notFirst K a.Scheme (.type "str") = true
  p_ni : PySem.W.notFirst K a.Endless (.type "int") = true
  p_ns : PySem.W.notFirst K a.Endless (.type "str") = true
  n_Scheme : NeT K a.Scheme
  m_lcm : mg "lcm" = some (.builtin "math.lcm")
  kk_e : ∀ i < 6, ∀ j < 6, PySem.W.kitOne K (.ref (eAd a i)) (.ref (eAd a j)) = some (decide (i = j))
  kg_e : ∀ i < 6, PySem.W.kitOne K (.ref (eAd a i)) (.ref a.GalloonError) = some true
  kv_e : ∀ i < 6, PySem.W.kitOne K (.ref (eAd a i)) (.type "ValueError") = some true
  xm_e : ∀ i < 6, PySem.W.exmOne K (.ref (eAd a i)) (.ref a.GalloonError) = some true
  xo_e : ∀ i < 6, ∀ j < 6, PySem.W.exmOne K (.ref (eAd a i)) (.ref (eAd a j)) = some (decide (i = j))
section
variable {P : Program} {w : World} {K : PySem.W.Frag} {mg : Str → Option Value} {base : Heap} {a : Ad}
theorem c_BadScheme (T : Txt K mg a) : CanE P w K mg base a.BadScheme "BadScheme" "part" := canE_of T.e_BadScheme sc_BadScheme___init__ bd_BadScheme___init__ rfl (fun _ _ _ _ _ _ _ => pss_one (ps_ost (pv 0) (pv 1))) rfl
theorem c_BadColumn (T : Txt K mg a) : CanE P w K mg base a.BadColumn "BadColumn" "text" := canE_of T.e_BadColumn sc_BadColumn___init__ bd_BadColumn___init__ rfl (fun _ _ _ _ _ _ _ => pss_one (ps_ost (pv 0) (pv 1))) rfl
theorem c_BadSpots (T : Txt K mg a) : CanE P w K mg base a.BadSpots "BadSpots" "text" := canE_of T.e_BadSpots sc_BadSpots___init__ bd_BadSpots___init__ rfl (fun _ _ _ _ _ _ _ => pss_one (ps_ost (pv 0) (pv 1))) rfl
theorem c_BadStrip (T : Txt K mg a) : CanE P w K mg base a.BadStrip "BadStrip" "text" := canE_of T.e_BadStrip sc_BadStrip___init__ bd_BadStrip___init__ rfl (fun _ _ _ _ _ _ _ => pss_one (ps_ost (pv 0) (pv 1))) rfl
theorem c_BadEndless (T : Txt K mg a) : CanE P w K mg base a.BadEndless "BadEndless" "part" := canE_of T.e_BadEndless sc_BadEndless___init__ bd_BadEndless___init__ rfl (fun _ _ _ _ _ _ _ => pss_one (ps_ost (pv 0) (pv 1))) rfl
end
end K40

end
section
set_option Elab.async false
set_option linter.all false
set_option maxRecDepth 100000
set_option maxHeartbeats 4000000
namespace K40
open PySem PySem.Spec PyProof.Rows L2 Kit
section
variable {P : Program} {w : World} {K : PySem.W.Frag} {mg : Str → Option Value} {base : Heap} {a : Ad}
local macro_rules | `(tactic| walk_at "rd") => `(tactic| repeat (first | refine ⟨_, rfl, ?_⟩ | refine ⟨_, _, rfl, rfl, ?_⟩ | refine ⟨rfl, ?_⟩))
/-! ### a scheme -/
def fl (r c n : Nat) : List (Str × V) := [("rows", .int r), ("colours", .int c), ("columns", tx (cols n))]
def SchemeAt (C : Addr) (H : Hp) (p : Addr) (r c n : Nat) : Prop := (∃ dx, H p = some (.ins C dx (fl r c n))) ∧ Good r c n
theorem SchemeAt.mono {C p : Addr} {H G : Hp} {r c n : Nat} (h : SchemeAt C H p r c n) (e : Same H G) : SchemeAt C G p r c n := ⟨let ⟨dx, z⟩ := h.1; ⟨dx, e _ _ z⟩, h.2⟩
theorem fm (x c : Nat) : ((x : Nat) : Int).fmod ((c : Nat) : Int) = ((x % c : Nat) : Int) := by
  rw [Int.fmod_eq_emod_of_nonneg _ (by omega)]
  exact (Int.natCast_emod x c).symm
theorem fd (x c : Nat) : ((x : Nat) : Int).fdiv ((c : Nat) : Int) = ((x / c : Nat) : Int) := by
  rw [Int.fdiv_eq_ediv_of_nonneg _ (by omega)]
  exact (Int.natCast_ediv x c).symm
theorem k1 : (("colours" : Str) == ("rows" : Str)) = false := by decide +kernel
theorem k2 : (("columns" : Str) == ("rows" : Str)) = false := by decide +kernel
theorem k3 : (("columns" : Str) == ("colours" : Str)) = false := by decide +kernel
theorem fl_rows (r c n : Nat) : (fl r c n).lookup ("rows" : Str) = some (.int r) := by
  unfold fl
  rw [List.lookup_cons, beq_self_eq_true]
theorem fl_colours (r c n : Nat) : (fl r c n).lookup ("colours" : Str) = some (.int c) := by
  unfold fl
  rw [List.lookup_cons, k1, List.lookup_cons, beq_self_eq_true]
theorem fl_columns (r c n : Nat) : (fl r c n).lookup ("columns" : Str) = some (tx (cols n)) := by
  unfold fl
  rw [List.lookup_cons, k2, List.lookup_cons, k3, List.lookup_cons, beq_self_eq_true]
theorem fl_no (r c n : Nat) {m : Str} (h1 : (m == ("rows" : Str)) = false) (h2 : (m == ("colours" : Str)) = false) (h3 : (m == ("columns" : Str)) = false) : (fl r c n).lookup m = none := by
  unfold fl
  rw [List.lookup_cons, h1, List.lookup_cons, h2, List.lookup_cons, h3, List.lookup_nil]
theorem lit_dig : (Str.ofString "012") = S [48, 49, 50] := by decide +kernel
theorem lit_let : (Str.ofString "abcdefghi") = S (cols 9) := by decide +kernel
theorem lit_e : (Str.ofString "") = S [] := by decide +kernel
/-- what follows of a field's reading: C, the class's facts, the fields -/
local macro_rules | `(tactic| walk_at "rd") => `(tactic| repeat (first | refine ⟨_, rfl, ?_⟩ | refine ⟨_, _, rfl, rfl, ?_⟩ | refine ⟨rfl, ?_⟩))
def spIsCol (C : Addr) : Sp := fun vs H Q _ => ∃ (p : Addr) (r c n : Nat) (l : List Nat), vs = [.ref p, tx l] ∧ SchemeAt C H p r c n ∧ l.length ≤ 100000 ∧ Q (.bl (isCol n l)) H
theorem one_in {l : List Nat} (h : l.length = 1) : ∃ x, l = [x] := by
  match l, h with
  | [x], _ => exact ⟨x, rfl⟩
theorem c_Scheme_is_column (T : Txt K mg a) : CanM P w K mg base 1 a.Scheme "is_column" (spIsCol a.Scheme) := by
  refine canM_of T.c_Scheme.cl T.m_Scheme_is_column sc_Scheme_is_column bd_Scheme_is_column (fun vs H Q E h => ?_) (fun f cdv A outer s H vs Q E hr h => ?_)
  · obtain ⟨p, r, c, n, l, rfl, _⟩ := h
    rfl
  · obtain ⟨p, r, c, n, l, rfl, ⟨⟨dx, hp⟩, gd⟩, hl, z⟩ := h
    refine ⟨_, (pss_one (ps_ret (pe_and (pe_cmpR op_eq (pe_callB call_len_str (by rfl) T.b_len (by decide +kernel) (pa_cons (pv 1) pa_nil)) pe_int (nomark _)) (pe_one (pe_cmpR op_in_sign (pv 1) (kfld K (pv 0)) (by rfl)))))), ?_⟩
    refine ⟨_, rfl, _, rfl, szl (by rw [S_len]; exact hl), rfl, _, rfl, ?_⟩
    rw [S_len]
    refine ite2 (fun h1 => ?_) (fun h1 => ?_)
    · have h1 : l.length = 1 := by
        have := V.int.inj (of_decide_eq_true h1)
        omega
      obtain ⟨x, rfl⟩ := one_in h1
      refine ⟨_, rfl, _, rfl, p, _, dx, _, _, rfl, hp, T.c_Scheme.cl, T.n_columns, fl_columns r c n, x, _, rfl, rfl, ?_⟩
      have e : isCol n [x] = decide (x ∈ (S (cols n)).cps.toList) := by
        rw [S_cps, isCol, List.all_cons, List.all_nil, Bool.and_true]
        by_cases hx : inCol n x = true
        · rw [hx, decide_eq_true (mem_cols.mpr hx)]
          rfl
        · rw [decide_eq_false (fun q => hx (mem_cols.mp q)), Bool.eq_false_iff.mpr hx]
          rfl
      rw [← e]
      exact z
    · have h1 : ¬ l.length = 1 := fun q => h1 (decide_eq_true (by rw [q]; rfl))
      have e : isCol n l = false := by
        rw [isCol, decide_eq_false h1]
        rfl
      rw [e] at z
      exact z
def spIsColour (C : Addr) : Sp := fun vs H Q _ => ∃ (p : Addr) (r c n : Nat) (l : List Nat), vs = [.ref p, tx l] ∧ SchemeAt C H p r c n ∧ l.length ≤ 100000 ∧ Q (.bl (isColour c l)) H
theorem cut_dig {c : Nat} (h : c = 2 ∨ c = 3) : cutS (Str.ofString "012") none (some (c : Int)) = S ((List.range c).map (48 + ·)) := by
  rcases h with rfl | rfl <;> decide +kernel
theorem mem_digs {c x : Nat} : x ∈ (List.range c).map (48 + ·) ↔ inDig c x = true := by
  unfold inDig
  rw [List.mem_map, decide_eq_true_iff]
  constructor
  · rintro ⟨k, hk, rfl⟩
    have := List.mem_range.mp hk
    omega
  · intro h
    exact ⟨x - 48, List.mem_range.mpr (by omega), by omega⟩
theorem good_c {r c n : Nat} (h : Good r c n) : c = 2 ∨ c = 3 := by
  rcases h.cases with h | h | h | h | h <;> omega
theorem c_Scheme_is_colour (T : Txt K mg a) : CanM P w K mg base 1 a.Scheme "is_colour" (spIsColour a.Scheme) := by
  refine canM_of T.c_Scheme.cl T.m_Scheme_is_colour sc_Scheme_is_colour bd_Scheme_is_colour (fun vs H Q E h => ?_) (fun f cdv A outer s H vs Q E hr h => ?_)
  · obtain ⟨p, r, c, n, l, rfl, _⟩ := h
    rfl
  · obtain ⟨p, r, c, n, l, rfl, ⟨⟨dx, hp⟩, gd⟩, hl, z⟩ := h
    refine ⟨_, (pss_one (ps_ret (pe_and (pe_cmpR op_eq (pe_callB call_len_str (by rfl) T.b_len (by decide +kernel) (pa_cons (pv 1) pa_nil)) pe_int (nomark _)) (pe_one (pe_cmpR op_in_sign (pv 1) (pe_slice sl_str (C8.pe_gc (by rfl) T.g_DIGITS) po_none (po_some (kfld K (pv 0)))) (by rfl)))))), ?_⟩
    refine ⟨_, rfl, _, rfl, szl (by rw [S_len]; exact hl), rfl, _, rfl, ?_⟩
    rw [S_len]
    refine ite2 (fun h1 => ?_) (fun h1 => ?_)
    · have h1 : l.length = 1 := by
        have := V.int.inj (of_decide_eq_true h1)
        omega
      obtain ⟨x, rfl⟩ := one_in h1
      refine ⟨_, rfl, _, rfl, p, _, dx, _, _, rfl, hp, T.c_Scheme.cl, T.n_colours, fl_colours r c n, _, rfl, _, rfl, (by decide +kernel), x, _, rfl, rfl, ?_⟩
      rw [cut_dig (good_c gd)]
      have e : isColour c [x] = decide (x ∈ (S ((List.range c).map (48 + ·))).cps.toList) := by
        rw [S_cps, isColour, List.all_cons, List.all_nil, Bool.and_true]
        by_cases hx : inDig c x = true
        · rw [hx, decide_eq_true (mem_digs.mpr hx)]
          rfl
        · rw [decide_eq_false (fun q => hx (mem_digs.mp q)), Bool.eq_false_iff.mpr hx]
          rfl
      rw [← e]
      exact z
    · have h1 : ¬ l.length = 1 := fun q => h1 (decide_eq_true (by rw [q]; rfl))
      have e : isColour c l = false := by
        rw [isColour, decide_eq_false h1]
        rfl
      rw [e] at z
      exact z
theorem at_S {l : List Nat} {i c : Nat} (h : (S l).cps[i]? = some c) : l[i]? = some c := by
  have z : (S l).cps[i]? = l[i]? := List.getElem?_toArray ..
  rw [← z]
  exact h
theorem beq_col (n x : Nat) : decide (x ∈ (S (cols n)).cps.toList) = inCol n x := by
  rw [S_cps]
  by_cases h : inCol n x = true
  · rw [h, decide_eq_true (mem_cols.mpr h)]
  · rw [decide_eq_false (fun q => h (mem_cols.mp q)), Bool.eq_false_iff.mpr h]
theorem all_map {l : List Nat} {f : Nat → Bool} : (l.map f).all id = l.all f := by
  rw [List.all_map]
  rfl
def spIsStrip (C : Addr) : Sp := fun vs H Q _ => ∃ (p : Addr) (r c n : Nat) (l : List Nat), vs = [.ref p, tx l] ∧ SchemeAt C H p r c n ∧ l.length ≤ 100000 ∧ ∀ G, Same H G → Q (.bl (isStrip n l)) G
theorem c_Scheme_is_strip (T : Txt K mg a) : CanM P w K mg base 1 a.Scheme "is_strip" (spIsStrip a.Scheme) := by
  refine canM_of T.c_Scheme.cl T.m_Scheme_is_strip sc_Scheme_is_strip bd_Scheme_is_strip (fun vs H Q E h => ?_) (fun f cdv A outer s H vs Q E hr h => ?_)
  · obtain ⟨p, r, c, n, l, rfl, _⟩ := h
    rfl
  · obtain ⟨p, r, c, n, l, rfl, sch, hl, z⟩ := h
    refine ⟨_, (pss_one (ps_ret (pe_callB (kall K (by rfl)) (by rfl) T.b_all (by decide +kernel) (pa_cons (pe_lc (own := [("column", 2)]) (g := gName 2) (tt := tYes) (by rfl) sc_Scheme_is_strip.nd (pi_str (pv 1)) (blkOk_by (N := N_Scheme_is_strip) (sc := defScope s_Scheme_is_strip) (by decide +kernel)) (fun _ _ _ _ _ => (pg_name (i := 2) sc_Scheme_is_strip.nd rfl (.inl rfl))) (fun _ _ _ _ _ => pts_nil) (fun _ _ _ _ _ => (pe_cmpR op_in_sign (pv 2) (kfld K (pv 0)) (by rfl)))) pa_nil)))), ?_⟩
    refine ⟨_, rfl, _, rfl, fun D hD => lc_one walk_str (l.map fun x => V.bl (inCol n x)) (by rw [List.length_map]; exact (S_len l).symm) (by show (S l).length ≤ _; rw [S_len]; exact hl) hD (fun _ _ => True.intro) ?_ ?_⟩
    · rintro i x G G' v hi s1 ⟨rfl, c', hc, rfl⟩ hv
      have hc := at_S hc
      rw [List.getElem?_map, hc] at hv
      cases hv
      obtain ⟨⟨dx, hp⟩, _⟩ := sch.mono s1
      refine ⟨.refl _, fun Q' q => ⟨_, rfl, _, rfl, p, _, dx, _, _, rfl, hp, T.c_Scheme.cl, T.n_columns, fl_columns r c n, c', _, rfl, rfl, ?_⟩⟩
      rw [beq_col]
      exact q _ (.refl _)
    · intro G s1 hG
      refine ⟨D, l.map (inCol n), rfl, seqL_of (by rw [List.map_map]; exact hG), ?_⟩
      rw [all_map]
      exact z G s1
def spCheck (a : Ad) : Sp := fun vs H Q E => ∃ (p : Addr) (r c n : Nat) (l : List Nat), vs = [.ref p, tx l] ∧ SchemeAt a.Scheme H p r c n ∧ l.length ≤ 100000 ∧ (isStrip n l = true → ∀ G, Same H G → Q .non G) ∧ (isStrip n l = false → Ra E a.BadStrip "text" (tx l) H)
def col0 (l : List Nat) : Nat := l.headD 0 - 97
theorem idx_col {n x : Nat} (hn : n ≤ 9) (h : inCol n x = true) : Txt.index0 (S (cols n)) (S [x]) = some (x - 97) := by
  unfold inCol at h
  rw [decide_eq_true_iff] at h
  have z : ∀ n ≤ 9, ∀ k < n, Txt.index0 (S (cols n)) (S [97 + k]) = some k := by decide +kernel
  have y := z n hn (x - 97) (by omega)
  rw [show 97 + (x - 97) = x by omega] at y
  exact y
theorem good_n {r c n : Nat} (h : Good r c n) : n ≤ 9 ∧ 0 < r ∧ r ≤ 3 ∧ 0 < n ∧ 2 ≤ n := by
  rcases h.cases with h | h | h | h | h <;> omega
theorem atI_S {l : List Nat} {i x : Nat} (h : l[i]? = some x) : atI (S l).cps.toList ((i : Nat) : Int) = some x := by
  rw [S_cps]
  exact atI_nat h
theorem lit_at {k : Nat} (h : k < 3) : atI (Str.ofString "012").cps.toList ((k : Nat) : Int) = some (48 + k) := by
  rw [lit_dig]
  refine atI_S ?_
  have z : ∀ k < 3, [48, 49, 50][k]? = some (48 + k) := by decide
  exact z k h
def spSpots (a : Ad) : Sp := fun vs H Q E => ∃ (p : Addr) (r c n : Nat) (l : List Nat), vs = [.ref p, tx l] ∧ SchemeAt a.Scheme H p r c n ∧ l.length ≤ 100000 ∧ (isCol n l = true → Q (tx (dig r c (col0 l))) H) ∧ (isCol n l = false → Ra E a.BadColumn "text" (tx l) H)
theorem isCol_one {n : Nat} {l : List Nat} (h : isCol n l = true) : ∃ x, l = [x] ∧ inCol n x = true := by
  unfold isCol at h
  rw [Bool.and_eq_true, decide_eq_true_iff] at h
  obtain ⟨x, rfl⟩ := one_in h.1
  exact ⟨x, rfl, by simpa using h.2⟩
theorem ord_ab {n x : Nat} (h : inCol n x = true) : (((S [x]).cps.getD 0 0 : Nat) : Int) - (((Str.ofString "a").cps.getD 0 0 : Nat) : Int) = ((x - 97 : Nat) : Int) := by
  have e1 : (S [x]).cps.getD 0 0 = x := rfl
  have e2 : (Str.ofString "a").cps.getD 0 0 = 97 := by decide +kernel
  rw [e1, e2]
  unfold inCol at h
  rw [decide_eq_true_iff] at h
  omega
theorem c_Scheme_spots (T : Txt K mg a) : CanM P w K mg base 3 a.Scheme "spots" (spSpots a) := by
  refine canM_of T.c_Scheme.cl T.m_Scheme_spots sc_Scheme_spots bd_Scheme_spots (fun vs H Q E h => ?_) (fun f cdv A outer s H vs Q E hr h => ?_)
  · obtain ⟨p, r, c, n, l, rfl, _⟩ := h
    rfl
  · obtain ⟨p, r, c, n, l, rfl, sch, hl, z, y⟩ := h
    refine ⟨_, (pss_cons (ps_if (pt_not (pt_val (pc_m (c_Scheme_is_column T) hr (by decide) (pv 0) (pa_cons (pv 1) pa_nil)))) (pss_one (pr_err (c_BadColumn T) (takes_of rfl rfl rfl rfl) (by rfl) hr (by decide) (by rfl) (pv 1))) pss_nil)
      (pss_cons (ps_set (i := 2) sc_Scheme_spots.nd rfl (.inl rfl) (pe_op op_sub (pe_callB call_ord (by rfl) T.b_ord (by decide +kernel) (pa_cons (pv 1) pa_nil)) (pe_callB call_ord (by rfl) T.b_ord (by decide +kernel) (pa_cons (kcon K (pv 0)) pa_nil))))
      (pss_cons (ps_set (i := 3) sc_Scheme_spots.nd rfl (.inl rfl) pe_str)
      (pss_cons (ps_for (passes_of rfl) (by rfl) (pi_range1 (by rfl) T.b_range (pa_cons (kfld K (pv 0)) pa_nil)) (pg_name (i := 4) sc_Scheme_spots.nd rfl (.inl rfl)) (pss_cons (ps_set (i := 3) sc_Scheme_spots.nd rfl (.inl rfl) (pe_op op_add_str (pe_ix ix_str (C8.pe_gc (by rfl) T.g_DIGITS) (pe_op op_modN (pv 2) (kfld K (pv 0))) (fun _ _ => rfl)) (pv 3)))
      (pss_one (ps_set (i := 2) sc_Scheme_spots.nd rfl (.inl rfl) (pe_op op_fdivN (pv 2) (kfld K (pv 0)))))))
      (pss_one (ps_ret (pv 3))))))), ?_⟩
    obtain ⟨dx, hp⟩ := sch.1
    have gn := good_n sch.2
    have gc := good_c sch.2
    refine ⟨_, rfl, p, dx, _, rfl, hp, fl_no _ _ _ (by decide +kernel) (by decide +kernel) (by decide +kernel), _, rfl, p, r, c, n, l, rfl, sch, hl, _, rfl, ?_⟩
    cases e : isCol n l with
    | false => exact iteT ⟨_, rfl, (y e).now⟩
    | true =>
      refine iteF ?_
      obtain ⟨x, rfl, hx⟩ := isCol_one e
      obtain ⟨u9, k9⟩ := T.k_BLANK
      refine ⟨_, rfl, S [x], rfl, rfl, _, rfl, p, _, dx, _, _, _, rfl, hp, T.c_Scheme.cl, k9, rfl, Str.ofString "a", rfl, rfl, _, _, rfl, rfl, ?_⟩
      · have e9 := ord_ab hx
        dsimp only
        rw [e9]
        refine ⟨_, rfl, p, _, dx, _, _, rfl, hp, T.c_Scheme.cl, T.n_rows, fl_rows r c n, r, rfl, by omega, by omega, ?_⟩
        refine for_it (walk_range (lo := 0) (n := ((r : Nat) : Int).toNat)) (fun i σ G => G = H ∧ ∃ v : Option V, σ = [some (.ref p), some (tx [x]), some (.int (((x - 97) / c ^ i : Nat) : Int)), some (tx (dig i c (x - 97))), v]) ⟨rfl, none, ?_⟩ (fun _ _ _ _ _ => True.intro) ?_ ?_
        · show [_, _, some (V.int ((x - 97 : Nat) : Int)), some (V.str (Str.ofString "")), none] = [_, _, some (V.int (((x - 97) / c ^ 0 : Nat) : Int)), some (tx []), _]
          rw [Nat.pow_zero, Nat.div_one, lit_e]
        · rintro i u σ G G' hi ⟨rfl, v, rfl⟩ ⟨rfl, rfl⟩
          have g2 := gc
          have hm : (x - 97) / c ^ i % c < 3 := by
            have := Nat.mod_lt ((x - 97) / c ^ i) (show 0 < c by omega)
            omega
          refine ⟨_, rfl, _, rfl, p, _, dx, _, _, rfl, hp, T.c_Scheme.cl, T.n_colours, fl_colours r c n, _, _, rfl, rfl, by show (c : Int) ≠ 0; omega, _, _, 48 + (x - 97) / c ^ i % c, rfl, rfl, by decide +kernel, by rw [fm]; exact lit_at hm, _, rfl, S [48 + (x - 97) / c ^ i % c], _, rfl, rfl, ?_, ?_⟩
          · rw [S_len, S_len, dig_len]
            exact szl (by show 1 + i ≤ 100000; omega)
          · refine ⟨_, rfl, _, rfl, p, _, dx, _, _, rfl, hp, T.c_Scheme.cl, T.n_colours, fl_colours r c n, _, _, rfl, rfl, ⟨by omega, by omega⟩, rfl, some (.int (0 + (i : Nat))), ?_⟩
            show [some (V.ref p), some (tx [x]), some (V.int (Int.fdiv (((x - 97) / c ^ i : Nat) : Int) (c : Int))), some (V.str (S [48 + (x - 97) / c ^ i % c] ++ S (dig i c (x - 97)))), _] = _
            rw [fd, S_app, Nat.div_div_eq_div_mul, ← Nat.pow_succ]
            rfl
        · rintro σ G ⟨rfl, v, rfl⟩
          exact ⟨_, rfl, z e⟩
theorem idx_dig {x : Nat} (h : inDig 3 x = true) : Txt.index0 (Str.ofString "012") (S [x]) = some (x - 48) := by
  unfold inDig at h
  rw [decide_eq_true_iff] at h
  have z : ∀ k < 3, Txt.index0 (Str.ofString "012") (S [48 + k]) = some k := by decide +kernel
  have y := z (x - 48) (by omega)
  rw [show 48 + (x - 48) = x by omega] at y
  exact y
theorem int_dig {x : Nat} (h : inDig 3 x = true) : PySem.intText? (S [x]) = some ((x - 48 : Nat) : Int) := by
  unfold inDig at h
  rw [decide_eq_true_iff] at h
  have z : ∀ k < 3, PySem.intText? (S [48 + k]) = some ((k : Nat) : Int) := by decide +kernel
  have y := z (x - 48) (by omega)
  rw [show 48 + (x - 48) = x by omega] at y
  exact y
theorem inDig3 {c x : Nat} (hc : c ≤ 3) (h : inDig c x = true) : inDig 3 x = true := by
  unfold inDig at h ⊢
  rw [decide_eq_true_iff] at h ⊢
  omega
theorem isColour_one (c x : Nat) : isColour c [x] = inDig c x := by
  rw [isColour, List.all_cons, List.all_nil, Bool.and_true]
  rfl
theorem num_take {c : Nat} {l : List Nat} {i x : Nat} (h : l[i]? = some x) : num c (l.take (i + 1)) = num c (l.take i) * c + (x - 48) := by
  unfold num
  rw [List.take_add_one, h, List.foldl_append]
  rfl
theorem all_at {l : List Nat} {f : Nat → Bool} (h : l.all f = true) {i x : Nat} (hx : l[i]? = some x) : f x = true := List.all_eq_true.mp h x (List.mem_of_getElem? hx)
theorem cols_at {n k : Nat} (h : k < n) : atI (S (cols n)).cps.toList ((k : Nat) : Int) = some (97 + k) := by
  refine atI_S ?_
  unfold cols
  rw [List.getElem?_map, List.getElem?_range h]
  rfl
def spCol (a : Ad) : Sp := fun vs H Q E => ∃ (p : Addr) (r c n : Nat) (l : List Nat), vs = [.ref p, tx l] ∧ SchemeAt a.Scheme H p r c n ∧ l.length ≤ 100000 ∧ (isDigs r c l = true → ∀ G, Same H G → Q (tx [97 + num c l]) G) ∧ (isDigs r c l = false → Ra E a.BadSpots "text" (tx l) H)
theorem c_Scheme_column (T : Txt K mg a) : CanM P w K mg base 3 a.Scheme "column" (spCol a) := by
  refine canM_of T.c_Scheme.cl T.m_Scheme_column sc_Scheme_column bd_Scheme_column (fun vs H Q E h => ?_) (fun f cdv A outer s H vs Q E hr h => ?_)
  · obtain ⟨p, r, c, n, l, rfl, _⟩ := h
    rfl
  · obtain ⟨p, r, c, n, l, rfl, sch, hl, z, y⟩ := h
    refine ⟨_, (pss_cons (ps_if (PW.pt (pw_or (pt_cmpR op_ne (pe_callB call_len_str (by rfl) T.b_len (by decide +kernel) (pa_cons (pv 1) pa_nil)) (kfld K (pv 0)) (nomark _)) (pw_or1 (pt_not (pt_truth (pe_callB (kall K (by rfl)) (by rfl) T.b_all (by decide +kernel) (pa_cons (pe_lc (own := [("spot", 2)]) (g := gName 2) (tt := tYes) (by rfl) sc_Scheme_column.nd (pi_str (pv 1)) (blkOk_by (N := N_Scheme_column) (sc := defScope s_Scheme_column) (by decide +kernel)) (fun _ _ _ _ _ => (pg_name (i := 2) sc_Scheme_column.nd rfl (.inl rfl))) (fun _ _ _ _ _ => pts_nil) (fun _ _ _ _ _ => (pc_m (c_Scheme_is_colour T) hr (by decide) (pv 0) (pa_cons (pv 2) pa_nil)))) pa_nil)) (by intro _; rfl)))))) (pss_one (pr_err (c_BadSpots T) (takes_of rfl rfl rfl rfl) (by rfl) hr (by decide) (by rfl) (pv 1))) pss_nil)
      (pss_cons (ps_set (i := 3) sc_Scheme_column.nd rfl (.inl rfl) pe_int)
      (pss_cons (ps_for (passes_of rfl) (by rfl) (pi_str (pv 1)) (pg_name (i := 2) sc_Scheme_column.nd rfl (.inl rfl)) (pss_one (ps_set (i := 3) sc_Scheme_column.nd rfl (.inl rfl) (pe_op op_add (pe_op op_mul (pv 3) (kfld K (pv 0))) (pe_callTy call_int_str (by rfl) T.b_int (by decide +kernel) (pa_cons (pv 2) pa_nil))))))
      (pss_one (ps_ret (pe_ix ix_str (kfld K (pv 0)) (pv 3) (fun _ _ => rfl))))))), ?_⟩
    obtain ⟨dx, hp⟩ := sch.1
    have gn := good_n sch.2
    have gc := good_c sch.2
    refine ⟨_, rfl, _, rfl, szl (by rw [S_len]; exact hl), _, rfl, p, _, dx, _, _, rfl, hp, T.c_Scheme.cl, T.n_rows, fl_rows r c n, rfl, _, rfl, ?_⟩
    rw [S_len]
    refine ite2 (fun h1 => ?_) (fun h1 => ?_)
    · refine iteT ⟨_, rfl, (y ?_).now⟩
      unfold isDigs
      rw [Bool.and_eq_false_iff]
      refine .inl (decide_eq_false fun q => ?_)
      rw [q] at h1
      exact absurd h1 (by simp)
    · refine ⟨_, rfl, _, rfl, fun D hD => lc_one walk_str (l.map fun x => V.bl (inDig c x)) (by rw [List.length_map]; exact (S_len l).symm) (by show (S l).length ≤ _; rw [S_len]; exact hl) hD (fun _ _ => True.intro) ?_ ?_⟩
      · rintro i x G G' v hi s1 ⟨rfl, c', hc, rfl⟩ hv
        have hc := at_S hc
        rw [List.getElem?_map, hc] at hv
        cases hv
        obtain ⟨dx, hp⟩ := (sch.mono s1).1
        refine ⟨.refl _, fun Q' q => ⟨_, rfl, p, dx, _, rfl, hp, fl_no _ _ _ (by decide +kernel) (by decide +kernel) (by decide +kernel), _, rfl, p, r, c, n, [c'], rfl, sch.mono s1, by show 1 ≤ 100000; decide, ?_⟩⟩
        rw [isColour_one]
        exact q _ (.refl _)
      · intro G s1 hG
        refine ⟨D, l.map (inDig c), rfl, seqL_of (by rw [List.map_map]; exact hG), ?_⟩
        rw [all_map]
        have hlr : l.length = r := by
          by_cases q : (l.length : Int) = (r : Int)
          · omega
          · exact absurd (by simpa using q) h1
        refine ⟨_, rfl, ?_⟩
        cases e : l.all (inDig c) with
        | false =>
          refine iteT ⟨_, rfl, ((y ?_).mono s1).now⟩
          unfold isDigs
          rw [e, Bool.and_false]
        | true =>
          have hd : isDigs r c l = true := by
            unfold isDigs
            rw [e, Bool.and_true, decide_eq_true hlr]
          refine iteF ?_
          refine ⟨_, rfl, _, rfl, for_it walk_str (fun i σ M => M = G ∧ ∃ v : Option V, σ = [some (.ref p), some (tx l), v, some (.int ((num c (l.take i) : Nat) : Int))]) ⟨rfl, none, rfl⟩ (fun _ _ _ _ _ => True.intro) ?_ ?_⟩
          · rintro i u σ M M' hi ⟨rfl, v, rfl⟩ ⟨rfl, x, hx, rfl⟩
            have hx := at_S hx
            have dx3 := inDig3 (by omega) (all_at e hx)
            obtain ⟨dx, hp⟩ := (sch.mono s1).1
            refine ⟨_, rfl, _, rfl, p, _, dx, _, _, rfl, hp, T.c_Scheme.cl, T.n_colours, fl_colours r c n, _, _, rfl, rfl, .inr ⟨by omega, by omega⟩, _, rfl, S [x], ((x - 48 : Nat) : Int), by rw [S_one], int_dig dx3, by show 1 ≤ 640; decide, ?_⟩
            refine ⟨_, _, rfl, rfl, rfl, some (tx [x]), ?_⟩
            rw [num_take hx]
            show [some (V.ref p), some (tx l), _, some (V.int (((num c (l.take i) : Nat) : Int) * (c : Int) + ((x - 48 : Nat) : Int)))] = [some (V.ref p), some (tx l), _, some (V.int ((num c (l.take i) * c + (x - 48) : Nat) : Int))]
            rw [Int.natCast_add, Int.natCast_mul]
            rfl
          · rintro σ M ⟨rfl, v, rfl⟩
            obtain ⟨dx, hp⟩ := (sch.mono s1).1
            rw [show (S l).cps.size = l.length from S_len l, List.take_of_length_le (Nat.le_refl _)]
            refine ⟨_, rfl, p, _, dx, _, _, rfl, hp, T.c_Scheme.cl, T.n_columns, fl_columns r c n, _, rfl, _, _, 97 + num c l, rfl, rfl, ?_, ?_, z hd _ s1⟩
            · rw [S_len, cols_len]
              exact szl (by omega)
            · exact cols_at (num_lt sch.2 hd)

/-! ### Scheme(rows, colours) -/
theorem put_fl (x y : V) (n : Nat) (r c : Nat) : putF "columns" (tx (cols n)) (putF "colours" (.int c) (putF "rows" (.int r) [])) = fl r c n := by
  have e1 : ¬ (("rows" : Str) = "colours") := by decide +kernel
  have e2 : ¬ (("rows" : Str) = "columns") := by decide +kernel
  have e3 : ¬ (("colours" : Str) = "columns") := by decide +kernel
  show putF "columns" _ (if ("rows" : Str) = "colours" then _ else _) = _
  rw [if_neg e1]
  show (if ("rows" : Str) = "columns" then _ else (("rows" : Str), V.int r) :: (if ("colours" : Str) = "columns" then _ else _)) = _
  rw [if_neg e2, if_neg e3]
  rfl
def sizeOf (r c : Int) : Option Nat := if r = 1 ∧ c = 2 then some 2 else if r = 1 ∧ c = 3 then some 3 else if r = 2 ∧ c = 2 then some 4 else if r = 2 ∧ c = 3 then some 9 else if r = 3 ∧ c = 2 then some 8 else none
/-- the first wrong part -/
def badPart (r c : Int) : Option (List Nat) := if ¬ (r = 1 ∨ r = 2 ∨ r = 3) then some [114, 111, 119, 115] else if ¬ (c = 2 ∨ c = 3) then some [99, 111, 108, 111, 117, 114, 115] else if r = 3 ∧ c = 3 then some [115, 105, 122, 101] else none
def spInit (a : Ad) : Sp := fun vs H Q E => ∃ (p dx : Addr) (r c : Int), vs = [.ref p, .int r, .int c] ∧ H p = some (.ins a.Scheme dx []) ∧ (∀ l, badPart r c = some l → Ra E a.BadScheme "part" (tx l) H) ∧
  (badPart r c = none → ∀ G, (∀ b o, H b = some o → b ≠ p → G b = some o) → (∃ r' c' n : Nat, (r' : Int) = r ∧ (c' : Int) = c ∧ SchemeAt a.Scheme G p r' c' n) → Q .non G)
theorem c_Scheme_init (T : Txt K mg a) : CanN P w K mg base 3 a.Scheme "Scheme" (spInit a) := by
  refine canN_of T.c_Scheme T.m_Scheme___init__ sc_Scheme___init__ bd_Scheme___init__ (fun vs H Q E h => ?_) (fun f cdv A outer s H vs Q E hr h => ?_)
  · obtain ⟨p, dx, r, c, rfl, _⟩ := h
    rfl
  · obtain ⟨p, dx, r, c, rfl, hp, y, z⟩ := h
    refine ⟨_, (pss_cons (ps_if (pt_cmpR (knotin K) (pv 1) (pe_tup (pa_cons pe_int (pa_cons pe_int (pa_cons pe_int pa_nil)))) (by rfl)) (pss_one (pr_err (c_BadScheme T) (takes_of rfl rfl rfl rfl) (by rfl) hr (by decide) (by rfl) pe_str)) pss_nil)
      (pss_cons (ps_if (pt_cmpR (knotin K) (pv 2) (pe_tup (pa_cons pe_int (pa_cons pe_int pa_nil))) (by rfl)) (pss_one (pr_err (c_BadScheme T) (takes_of rfl rfl rfl rfl) (by rfl) hr (by decide) (by rfl) pe_str)) pss_nil)
      (pss_cons (ps_set (i := 3) sc_Scheme___init__.nd rfl (.inl rfl) pe_int)
      (pss_cons (ps_for (passes_of rfl) (by rfl) (pi_range1 (by rfl) T.b_range (pa_cons (pv 1) pa_nil)) (pg_name (i := 4) sc_Scheme___init__.nd rfl (.inl rfl)) (pss_one (ps_set (i := 3) sc_Scheme___init__.nd rfl (.inl rfl) (pe_op op_mul (pv 3) (pv 2)))))
      (pss_cons (ps_if (pt_cmpR op_gt (pv 3) (kcon K (pv 0)) (nomark _)) (pss_one (pr_err (c_BadScheme T) (takes_of rfl rfl rfl rfl) (by rfl) hr (by decide) (by rfl) pe_str)) pss_nil)
      (pss_cons (ps_fld (pv 0) (pv 1) rfl)
      (pss_cons (ps_fld (pv 0) (pv 2) rfl)
      (pss_one (ps_fld (pv 0) (pe_slice sl_str (C8.pe_gc (by rfl) T.g_LETTERS) po_none (po_some (pv 3))) rfl))))))))), ?_⟩
    have nlit : ∀ s : String, (V.str (Str.ofString s)) = tx (Str.ofString s).cps.toList := fun s => rfl
    have bad : ∀ (l : List Nat) (G : Hp), Same H G → badPart r c = some l → Ra E a.BadScheme "part" (tx l) G := fun l G s e => (y l e).mono s
    refine ⟨_, rfl, by show 3 ≤ sizeLine; decide, fun t ht => ⟨t, _, rfl, .inr (seqT_of upd_same), rfl, rfl, _, rfl, ?_⟩⟩
    have s1 : Same H (upd H t (.tup [.int 1, .int 2, .int 3])) := ex_new ht
    have inr3 : inV (.int r) [.int 1, .int 2, .int 3] = decide (r = 1 ∨ r = 2 ∨ r = 3) := by
      show ((1 : Int) == r || ((2 : Int) == r || ((3 : Int) == r || false))) = _
      by_cases h1 : r = 1
      · subst h1; rfl
      · by_cases h2 : r = 2
        · subst h2; rfl
        · by_cases h3 : r = 3
          · subst h3; rfl
          · simp [h1, h2, h3, Ne.symm h1, Ne.symm h2, Ne.symm h3]
    have inc2 : inV (.int c) [.int 2, .int 3] = decide (c = 2 ∨ c = 3) := by
      show ((2 : Int) == c || ((3 : Int) == c || false)) = _
      by_cases h2 : c = 2
      · subst h2; rfl
      · by_cases h3 : c = 3
        · subst h3; rfl
        · simp [h2, h3, Ne.symm h2, Ne.symm h3]
    rw [inr3]
    by_cases hr3 : r = 1 ∨ r = 2 ∨ r = 3
    · rw [decide_eq_true hr3]
      refine iteF ⟨_, rfl, by show 2 ≤ sizeLine; decide, fun u hu => ⟨u, _, rfl, .inr (seqT_of upd_same), rfl, rfl, _, rfl, ?_⟩⟩
      have s2 := s1.trans (ex_new (o := .tup [.int 2, .int 3]) hu)
      rw [inc2]
      by_cases hc2 : c = 2 ∨ c = 3
      · rw [decide_eq_true hc2]
        obtain ⟨r', rfl⟩ : ∃ r' : Nat, (r' : Int) = r := ⟨r.toNat, by omega⟩
        obtain ⟨c', rfl⟩ : ∃ c' : Nat, (c' : Int) = c := ⟨c.toNat, by omega⟩
        have hr' : r' = 1 ∨ r' = 2 ∨ r' = 3 := by omega
        have hc' : c' = 2 ∨ c' = 3 := by omega
        have pw : ∀ i ≤ 3, (-(2 ^ 64) : Int) < ((c' ^ i : Nat) : Int) ∧ ((c' ^ i : Nat) : Int) < 2 ^ 64 := by
          rcases hc' with rfl | rfl <;> decide
        refine iteF ⟨_, rfl, r', rfl, by omega, by omega, ?_⟩
        refine for_it (walk_range (lo := 0) (n := ((r' : Nat) : Int).toNat)) (fun i σ M => M = upd (upd H t _) u _ ∧ ∃ v : Option V, σ = [some (.ref p), some (.int r'), some (.int c'), some (.int ((c' ^ i : Nat) : Int)), v]) ⟨rfl, none, rfl⟩ (fun _ _ _ _ _ => True.intro) ?_ ?_
        · rintro i x σ M M' hi ⟨rfl, v, rfl⟩ ⟨rfl, rfl⟩
          refine ⟨_, rfl, _, rfl, _, _, rfl, rfl, .inl (pw i (by omega)), rfl, some (.int (0 + (i : Nat))), ?_⟩
          show [_, _, _, some (V.int (((c' ^ i : Nat) : Int) * (c' : Int))), _] = [_, _, _, some (V.int ((c' ^ (i + 1) : Nat) : Int)), _]
          rw [Nat.pow_succ, Int.natCast_mul]
        · rintro σ M ⟨rfl, v, rfl⟩
          have hpM := s2 _ _ hp
          obtain ⟨u9, k9⟩ := T.k_MOST
          refine ⟨_, rfl, _, rfl, p, _, dx, _, _, _, rfl, hpM, T.c_Scheme.cl, k9, rfl, _, _, rfl, rfl, _, rfl, ?_⟩
          rw [show ((r' : Nat) : Int).toNat = r' from rfl]
          by_cases h33 : r' = 3 ∧ c' = 3
          · obtain ⟨rfl, rfl⟩ := h33
            refine iteT (Ra.now ?_)
            rw [show V.str (Str.ofString "size") = tx [115, 105, 122, 101] from congrArg V.str (by decide +kernel)]
            exact bad _ _ s2 rfl
          · have hn : ¬ ((9 : Int) < ((c' ^ r' : Nat) : Int)) := by
              rcases hr' with rfl | rfl | rfl <;> rcases hc' with rfl | rfl <;> first | decide | exact absurd ⟨rfl, rfl⟩ h33
            rw [decide_eq_false hn]
            refine iteF ?_
            refine ⟨_, rfl, _, rfl, p, _, dx, [], rfl, hpM, T.c_Scheme.cl, T.n_rows, by show 0 < 1000; decide, _, rfl, _, rfl, p, _, dx, _, rfl, upd_same, T.c_Scheme.cl, T.n_colours, by show 1 < 1000; decide, _, rfl, _, rfl, _, rfl, by decide +kernel, _, rfl, p, _, dx, _, rfl, upd_same, T.c_Scheme.cl, T.n_columns, by show 2 < 1000; decide, ?_⟩
            have gd : Kit.Good r' c' (c' ^ r') := by
              rcases hr' with rfl | rfl | rfl <;> rcases hc' with rfl | rfl <;> first | decide | exact absurd ⟨rfl, rfl⟩ h33
            have ecut : cutS (Str.ofString "abcdefghi") none (some ((c' ^ r' : Nat) : Int)) = S (cols (c' ^ r')) := by
              rcases hr' with rfl | rfl | rfl <;> rcases hc' with rfl | rfl <;> first | decide +kernel | exact absurd ⟨rfl, rfl⟩ h33
            rw [ecut]
            refine z ?_ _ (fun b o e hb => ?_) ⟨r', c', c' ^ r', rfl, rfl, ⟨dx, ?_⟩, gd⟩
            · unfold badPart
              rw [if_neg (fun q => q hr3), if_neg (fun q => q hc2), if_neg (by omega)]
            · rw [upd_ne hb, upd_ne hb, upd_ne hb]
              exact s2 _ _ e
            · exact upd_same.trans (congrArg (fun l => some (HO.ins a.Scheme dx l)) (put_fl .non .non _ _ _))
      · rw [decide_eq_false hc2]
        refine iteT (Ra.now ?_)
        rw [show V.str (Str.ofString "colours") = tx [99, 111, 108, 111, 117, 114, 115] from congrArg V.str (by decide +kernel)]
        refine bad _ _ s2 ?_
        unfold badPart
        rw [if_neg (fun q => q hr3), if_pos hc2]
    · rw [decide_eq_false hr3]
      refine iteT (Ra.now ?_)
      rw [show V.str (Str.ofString "rows") = tx [114, 111, 119, 115] from congrArg V.str (by decide +kernel)]
      refine bad _ _ s1 ?_
      unfold badPart
      rw [if_pos hr3]
def rowsOf (r c : Nat) (l : List Nat) : List (List Nat) := (List.range r).map fun j => l.map fun x => (dig r c (x - 97)).getD j 0
theorem rowsOf_len (r c : Nat) (l : List Nat) : (rowsOf r c l).length = r := by simp [rowsOf]
theorem strip_at {n : Nat} {l : List Nat} (h : isStrip n l = true) {i x : Nat} (hx : l[i]? = some x) : inCol n x = true := all_at h hx
theorem isCol_mk {n x : Nat} (h : inCol n x = true) : isCol n [x] = true := by
  rw [isCol, List.all_cons, h]
  rfl
theorem join_eq (s : Str) (l : List Str) : Txt.join s l = Str.join s l := StrLaws.glued_eq_join s l
/-- join of texts of one sign, the empty text between them -/
theorem join_ones : ∀ l : List Nat, Txt.join (S []) (l.map fun x => S [x]) = S l
  | [] => rfl
  | [x] => rfl
  | x :: y :: l => by
    have e := join_ones (y :: l)
    have z : Txt.join (S []) ((x :: y :: l).map fun x => S [x]) = S [x] ++ S [] ++ Txt.join (S []) ((y :: l).map fun x => S [x]) := by
      rw [join_eq, join_eq]
      rfl
    rw [z, e, S_app, S_app]
    rfl
theorem sum_ones (l : List Nat) : ((l.map fun x => S [x]).map (·.length)).sum = l.length := by
  induction l with
  | nil => rfl
  | cons x l ih =>
    rw [List.map_cons, List.map_cons, List.sum_cons, ih, List.length_cons]
    show 1 + l.length = _
    omega
def spPic (a : Ad) : Sp := fun vs H Q E => ∃ (p : Addr) (r c n : Nat) (l : List Nat), vs = [.ref p, tx l] ∧ SchemeAt a.Scheme H p r c n ∧ l.length ≤ 1000 ∧
  (isStrip n l = true → ∀ G q, Same H G → H q = none → G q = some (.lst ((rowsOf r c l).map tx)) → Q (.ref q) G) ∧ (isStrip n l = false → Ra E a.BadStrip "text" (tx l) H)
theorem sIx_some (n d k : Nat) : HT.sIx n d (some (k : Int)) = min k n := by
  show (if (k : Int) < 0 then ((k : Int) + (n : Int)).toNat else min (k : Int).toNat n) = _
  rw [if_neg (by omega)]
  rfl
theorem sIx_none (n d : Nat) : HT.sIx n d none = d := rfl
theorem cut_take (l : List Nat) (k : Nat) : cutS (S l) none (some (k : Int)) = S (l.take k) := by
  rw [cut_S, sIx_some, sIx_none, List.drop_zero, Nat.sub_zero]
  congr 1
  by_cases h : k ≤ l.length
  · rw [Nat.min_eq_left h]
  · rw [Nat.min_eq_right (by omega), List.take_length, List.take_of_length_le (by omega)]
theorem cut_drop (l : List Nat) (k : Nat) : cutS (S l) (some (k : Int)) none = S (l.drop k) := by
  rw [cut_S, sIx_some, sIx_none]
  congr 1
  by_cases h : k ≤ l.length
  · rw [Nat.min_eq_left h, List.take_of_length_le (by simp)]
  · rw [Nat.min_eq_right (by omega), List.drop_length, List.drop_of_length_le (by omega), List.take_nil]
def spotAt (r c : Nat) (l : List Nat) (row at_ : Nat) : Nat := (dig r c (l.getD at_ 0 - 97)).getD row 0
theorem getD_at {l : List Nat} {i : Nat} (h : i < l.length) : l[i]? = some (l.getD i 0) := by
  rw [List.getD_eq_getElem?_getD, List.getElem?_eq_getElem h]
  rfl
def recol (r c : Nat) (l : List Nat) (row at_ : Nat) (col : List Nat) : List Nat :=
  l.take at_ ++ [97 + num c ((dig r c (l.getD at_ 0 - 97)).take row ++ col ++ (dig r c (l.getD at_ 0 - 97)).drop (row + 1))] ++ l.drop (at_ + 1)
theorem digs_put {r c : Nat} {d col : List Nat} {row : Nat} (h : isDigs r c d = true) (hr : row < r) (hc : isColour c col = true) : isDigs r c (d.take row ++ col ++ d.drop (row + 1)) = true := by
  unfold isDigs at h ⊢
  unfold isColour at hc
  rw [Bool.and_eq_true, decide_eq_true_iff] at h hc ⊢
  obtain ⟨h1, h2⟩ := h
  obtain ⟨h3, h4⟩ := hc
  refine ⟨by simp; omega, ?_⟩
  rw [List.all_append, List.all_append, h4, Bool.and_true, Bool.and_eq_true]
  exact ⟨List.all_eq_true.mpr fun x hx => List.all_eq_true.mp h2 x (List.mem_of_mem_take hx), List.all_eq_true.mpr fun x hx => List.all_eq_true.mp h2 x (List.mem_of_mem_drop hx)⟩
def spLenS (C : Addr) : Sp := fun vs H Q _ => ∃ (p : Addr) (r c n : Nat), vs = [.ref p] ∧ SchemeAt C H p r c n ∧ Q (.int n) H
theorem c_Scheme_len (T : Txt K mg a) : CanM P w K mg base 1 a.Scheme "__len__" (spLenS a.Scheme) := by
  refine canM_of T.c_Scheme.cl T.m_Scheme___len__ sc_Scheme___len__ bd_Scheme___len__ (fun vs H Q E h => ?_) (fun f cdv A outer s H vs Q E hr h => ?_)
  · obtain ⟨p, r, c, n, rfl, _⟩ := h
    rfl
  · obtain ⟨p, r, c, n, rfl, ⟨⟨dx, hp⟩, gd⟩, z⟩ := h
    refine ⟨_, (pss_one (ps_ret (pe_callB call_len_str (by rfl) T.b_len (by decide +kernel) (pa_cons (kfld K (pv 0)) pa_nil)))), ?_⟩
    have gn := good_n gd
    refine ⟨_, rfl, p, _, dx, _, _, rfl, hp, T.c_Scheme.cl, T.n_columns, fl_columns r c n, _, rfl, szl (by rw [S_len, cols_len]; omega), ?_⟩
    rw [S_len, cols_len]
    exact z
/-- == with another thing: another scheme, an int, a text -/
def spEqS (C : Addr) : Sp := fun vs H Q _ => ∃ (p : Addr) (r c n : Nat) (y : V), vs = [.ref p, y] ∧ SchemeAt C H p r c n ∧
  ((∃ i, y = .int i ∧ Q (.bl false) H) ∨ (∃ t, y = .str t ∧ Q (.bl false) H) ∨ ∃ q r2 c2 n2, y = .ref q ∧ SchemeAt C H q r2 c2 n2 ∧ Q (.bl (decide (r = r2) && decide (c = c2))) H)
theorem c_Scheme_eq (T : Txt K mg a) : CanM P w K mg base 1 a.Scheme "__eq__" (spEqS a.Scheme) := by
  refine canM_of T.c_Scheme.cl T.m_Scheme___eq__ sc_Scheme___eq__ bd_Scheme___eq__ (fun vs H Q E h => ?_) (fun f cdv A outer s H vs Q E hr h => ?_)
  · obtain ⟨p, r, c, n, y, rfl, _⟩ := h
    rfl
  · obtain ⟨p, r, c, n, y, rfl, ⟨⟨dx, hp⟩, gd⟩, z⟩ := h
    refine ⟨_, (pss_one (ps_ret (pe_and (pe_callB (kisi K) (by rfl) T.b_isinstance (by decide +kernel) (pa_cons (pv 1) (pa_cons (pe_glob (v := .ref a.Scheme) (by rfl) T.c_Scheme.gC rfl) pa_nil))) (pe_and (pe_cmpR op_eq (kfld K (pv 0)) (kfld K (pv 1)) (nomark _)) (pe_one (pe_cmpR op_eq (kfld K (pv 0)) (kfld K (pv 1)) (nomark _))))))), ?_⟩
    rcases z with ⟨i, rfl, z⟩ | ⟨t, rfl, z⟩ | ⟨q, r2, c2, n2, rfl, ⟨⟨dy, hq⟩, gd2⟩, z⟩
    · exact ⟨_, rfl, _, _, _, _, false, rfl, .own _, .base (.int i), T.i_int, _, rfl, iteF z⟩
    · exact ⟨_, rfl, _, _, _, _, false, rfl, .own _, .base (.str t), T.i_str, _, rfl, iteF z⟩
    · refine ⟨_, rfl, _, _, _, _, true, rfl, .own _, .base (.ins hq T.c_Scheme.cl T.i_ha T.i_hn T.i_ht T.i_hm), T.i_own, _, rfl, iteT ?_⟩
      refine ⟨_, rfl, p, _, dx, _, _, rfl, hp, T.c_Scheme.cl, T.n_rows, fl_rows r c n, _, rfl, q, _, dy, _, _, rfl, hq, T.c_Scheme.cl, T.n_rows, fl_rows r2 c2 n2, rfl, _, rfl, ?_⟩
      refine ite2 (fun h1 => ?_) (fun h1 => ?_)
      · have h1 : r = r2 := by
          have := V.int.inj (of_decide_eq_true h1)
          omega
        subst h1
        refine ⟨_, rfl, p, _, dx, _, _, rfl, hp, T.c_Scheme.cl, T.n_colours, fl_colours r c n, _, rfl, q, _, dy, _, _, rfl, hq, T.c_Scheme.cl, T.n_colours, fl_colours r c2 n2, rfl, ?_⟩
        have e : decide ((V.int (c : Int)) = V.int (c2 : Int)) = (decide (r = r) && decide (c = c2)) := by
          rw [decide_eq_true (rfl : r = r), Bool.true_and]
          by_cases h : c = c2
          · subst h
            rw [decide_eq_true rfl, decide_eq_true rfl]
          · rw [decide_eq_false h, decide_eq_false fun q => h (by have := V.int.inj q; omega)]
        rw [e]
        exact z
      · have h1 : ¬ r = r2 := fun q => h1 (decide_eq_true (by rw [q]))
        rw [decide_eq_false h1] at z
        exact z
/-! ### of_picture -/
def badAt (r c : Nat) (ls : List (List Nat)) (k : Nat) : Bool := decide (r ≤ k) || decide ((ls.getD k []).length ≠ (ls.getD 0 []).length) || !(ls.getD k []).all (inDig c)
def firstBad (r c : Nat) (ls : List (List Nat)) : Option Nat := (List.range ls.length).find? (badAt r c ls)
theorem first_some {r c i : Nat} {ls : List (List Nat)} (h : ∀ k < i, badAt r c ls k = false) (hb : badAt r c ls i = true) (hi : i < ls.length) : firstBad r c ls = some i := by
  unfold firstBad
  rw [List.find?_range_eq_some]
  exact ⟨hb, List.mem_range.mpr hi, fun k hk => by rw [h k hk]; rfl⟩
theorem first_none {r c : Nat} {ls : List (List Nat)} (h : ∀ k < ls.length, badAt r c ls k = false) : firstBad r c ls = none := by
  unfold firstBad
  rw [List.find?_eq_none]
  intro k hk
  rw [h k (List.mem_range.mp hk)]
  decide
def ofPic (c : Nat) (ls : List (List Nat)) : List Nat := (List.range (ls.getD 0 []).length).map fun t => 97 + num c (ls.map fun l => l.getD t 0)
theorem getD_lst {ls : List (List Nat)} {i : Nat} {l : List Nat} (h : ls[i]? = some l) : ls.getD i [] = l := by
  rw [List.getD_eq_getElem?_getD, h]
  rfl
theorem good_digs {r c : Nat} {ls : List (List Nat)} (h : ∀ k < ls.length, badAt r c ls k = false) (hr : r ≤ ls.length) {t : Nat} (ht : t < (ls.getD 0 []).length) : isDigs r c (ls.map fun l => l.getD t 0) = true ∧ ls.length = r := by
  have hlen : ls.length = r := by
    by_cases q : r < ls.length
    · have := h r q
      unfold badAt at this
      simp at this
    · omega
  refine ⟨?_, hlen⟩
  unfold isDigs
  rw [List.length_map, decide_eq_true hlen, Bool.true_and, List.all_map, List.all_eq_true]
  intro l hl
  obtain ⟨k, hk, rfl⟩ := List.mem_iff_getElem.mp hl
  have e : ls.getD k [] = ls[k] := getD_lst (List.getElem?_eq_getElem hk)
  have hb := h k hk
  unfold badAt at hb
  rw [e] at hb
  simp only [Bool.or_eq_false_iff, decide_eq_false_iff_not, Bool.not_eq_false'] at hb
  obtain ⟨⟨_, h2⟩, h3⟩ := hb
  have h2 : ls[k].length = (ls.getD 0 []).length := by
    by_cases q : ls[k].length = (ls.getD 0 []).length
    · exact q
    · exact absurd q h2
  exact all_at h3 (getD_at (by omega))
/-- all but the purse as before -/
def Pu (p : Addr) (H G : Hp) : Prop := (∀ b o, H b = some o → b ≠ p → G b = some o) ∧ PurseAt G p
theorem pmono {H G : Hp} {p : Addr} (h : PurseAt H p) (e : Same H G) : PurseAt G p := let ⟨x, y, z, q, r⟩ := h; ⟨x, y, z, e _ _ q, r⟩
theorem Pu.refl {p : Addr} {H : Hp} (h : PurseAt H p) : Pu p H H := ⟨fun _ _ e _ => e, h⟩
theorem Pu.draw {p : Addr} {H : Hp} {o : HO} (h : PurseAt (upd H p o) p) : Pu p H (upd H p o) := ⟨fun b u e hb => by rw [upd_ne hb]; exact e, h⟩
theorem Pu.trans {p : Addr} {H G M : Hp} (h : Pu p H G) (k : Pu p G M) : Pu p H M := ⟨fun b o e hb => k.1 b o (h.1 b o e hb) hb, k.2⟩
theorem Pu.same {p : Addr} {H G M : Hp} (h : Pu p H G) (k : Same G M) : Pu p H M := ⟨fun b o e hb => k b o (h.1 b o e hb), pmono h.2 k⟩
theorem same_pu {p : Addr} {H G M : Hp} (h : Same H G) (k : Pu p G M) : Pu p H M := ⟨fun b o e hb => k.1 b o (h b o e) hb, k.2⟩
def SizeAt (H : Hp) (s : Addr) (r c n : Nat) : Prop := H s = some (.tup [.int r, .int c, .int n]) ∧ Good r c n
theorem SizeAt.mono {H G : Hp} {s : Addr} {r c n : Nat} (h : SizeAt H s r c n) (e : Same H G) : SizeAt G s r c n := ⟨e _ _ h.1, h.2⟩
theorem SizeAt.pu {H G : Hp} {s p : Addr} {r c n : Nat} (h : SizeAt H s r c n) (hp : PurseAt H p) (e : Pu p H G) : SizeAt G s r c n := by
  obtain ⟨x, y, z, q, _⟩ := hp
  exact ⟨e.1 _ _ h.1 (ne_of h.1 q (by intro z; cases z)), h.2⟩
theorem SchemeAt.pu {C : Addr} {H G : Hp} {q p : Addr} {r c n : Nat} (h : SchemeAt C H q r c n) (hp : PurseAt H p) (e : Pu p H G) : SchemeAt C G q r c n := by
  obtain ⟨x, y, z, k, _⟩ := hp
  obtain ⟨⟨dx, h1⟩, h2⟩ := h
  exact ⟨⟨dx, e.1 _ _ h1 (ne_of h1 k (by intro z; cases z))⟩, h2⟩
/-! ### signs, spoilt texts, numbers far off -/
theorem at_of_lt {l : List Nat} {d : Int} (h0 : 0 ≤ d) (h1 : d < l.length) : ∃ x, atI (S l).cps.toList d = some x := by
  have e := atI_S (getD_at (l := l) (i := d.toNat) (by omega))
  rw [show ((d.toNat : Nat) : Int) = d by omega] at e
  exact ⟨_, e⟩
theorem str_at {s : String} {n : Nat} (hs : (Str.ofString s).length = n) {d : Int} (h0 : 0 ≤ d) (h1 : d < n) : ∃ x, atI (Str.ofString s).cps.toList d = some x := by
  obtain ⟨l, hl⟩ := S_of (Str.ofString s)
  rw [hl] at hs ⊢
  rw [S_len] at hs
  exact at_of_lt h0 (by omega)
end
end K40

end
section
set_option Elab.async false
set_option linter.all false
set_option maxRecDepth 100000
namespace K40
/-! ### endless words: what stands at an index, and where two of them differ -/
def col (l m r : List Nat) (d : Int) : Nat :=
  if d < 0 then l.getD (d % (l.length : Int)).toNat 0 else if d < (m.length : Int) then m.getD d.toNat 0 else r.getD ((d - (m.length : Int)) % (r.length : Int)).toNat 0
def wd (l m r : List Nat) (t i : Int) : Nat := col l m r (i - t)
theorem wd_left {l m r : List Nat} {t i : Int} (k : Nat) (h : i < t) : wd l m r t (i - (k * l.length : Nat)) = wd l m r t i := by
  unfold wd col
  rw [if_pos (by omega), if_pos (by omega)]
  have e : (i - ((k * l.length : Nat) : Int) - t) % (l.length : Int) = (i - t) % (l.length : Int) := by
    rw [show i - ((k * l.length : Nat) : Int) - t = (i - t) + (l.length : Int) * (-(k : Int)) by
      rw [Int.natCast_mul, Int.mul_neg, Int.mul_comm (l.length : Int)]; omega]
    exact Int.add_mul_emod_self_left _ _ _
  rw [e]
theorem wd_right {l m r : List Nat} {t i : Int} (k : Nat) (h : t + m.length ≤ i) : wd l m r t (i + (k * r.length : Nat)) = wd l m r t i := by
  unfold wd col
  rw [if_neg (by omega), if_neg (by omega), if_neg (by omega), if_neg (by omega)]
  have e : (i + ((k * r.length : Nat) : Int) - t - (m.length : Int)) % (r.length : Int) = (i - t - (m.length : Int)) % (r.length : Int) := by
    rw [show i + ((k * r.length : Nat) : Int) - t - (m.length : Int) = (i - t - (m.length : Int)) + (r.length : Int) * (k : Int) by
      rw [Int.natCast_mul, Int.mul_comm (r.length : Int)]; omega]
    exact Int.add_mul_emod_self_left _ _ _
  rw [e]
/-- a difference somewhere to the left is one within a common period -/
theorem near_left {w v : Int → Nat} {lo : Int} {L : Nat} (L0 : 0 < L) (hw : ∀ i, i < lo → w (i - L) = w i) (hv : ∀ i, i < lo → v (i - L) = v i) : (∃ i, i < lo ∧ w i ≠ v i) ↔ ∃ i, lo - L ≤ i ∧ i < lo ∧ w i ≠ v i := by
  constructor
  · rintro ⟨i, hi, h⟩
    have key : ∀ n : Nat, ∀ i : Int, i < lo → (lo - i).toNat ≤ n → w i ≠ v i → ∃ i, lo - L ≤ i ∧ i < lo ∧ w i ≠ v i := by
      intro n
      induction n with
      | zero => intro i hi hn; omega
      | succ n ih =>
        intro i hi hn h
        by_cases c : lo - L ≤ i
        · exact ⟨i, c, hi, h⟩
        · have e1 := hw (i + L) (by omega)
          have e2 := hv (i + L) (by omega)
          rw [show i + (L : Int) - L = i by omega] at e1 e2
          exact ih (i + L) (by omega) (by omega) (by rw [← e1, ← e2]; exact h)
    exact key _ i hi (Nat.le_refl _) h
  · rintro ⟨i, _, hi, h⟩
    exact ⟨i, hi, h⟩
theorem near_right {w v : Int → Nat} {hi : Int} {L : Nat} (L0 : 0 < L) (hw : ∀ i, hi ≤ i → w (i + L) = w i) (hv : ∀ i, hi ≤ i → v (i + L) = v i) : (∃ i, hi ≤ i ∧ w i ≠ v i) ↔ ∃ i, hi ≤ i ∧ i < hi + L ∧ w i ≠ v i := by
  constructor
  · rintro ⟨i, hl, h⟩
    have key : ∀ n : Nat, ∀ i : Int, hi ≤ i → (i - hi).toNat ≤ n → w i ≠ v i → ∃ i, hi ≤ i ∧ i < hi + L ∧ w i ≠ v i := by
      intro n
      induction n with
      | zero => intro i hl hn h; exact ⟨i, hl, by omega, h⟩
      | succ n ih =>
        intro i hl hn h
        by_cases c : i < hi + L
        · exact ⟨i, hl, c, h⟩
        · have e1 := hw (i - L) (by omega)
          have e2 := hv (i - L) (by omega)
          rw [show i - (L : Int) + L = i by omega] at e1 e2
          exact ih (i - L) (by omega) (by omega) (by rw [← e1, ← e2]; exact h)
    exact key _ i hl (Nat.le_refl _) h
  · rintro ⟨i, hl, _, h⟩
    exact ⟨i, hl, h⟩
/-- a difference outside of lo .. hi -/
def Far (w v : Int → Nat) (lo hi : Int) : Prop := (∃ i, i < lo ∧ w i ≠ v i) ∨ ∃ i, hi ≤ i ∧ w i ≠ v i
def difs (w v : Int → Nat) (lo : Int) (n : Nat) : List Int := ((List.range n).map fun k : Nat => lo + (k : Int)).filter fun i => w i != v i
theorem difs_succ (w v : Int → Nat) (lo : Int) (n : Nat) : difs w v lo (n + 1) = difs w v lo n ++ if w (lo + n) = v (lo + n) then [] else [lo + (n : Int)] := by
  unfold difs
  rw [List.range_succ, List.map_append, List.filter_append]
  congr 1
  by_cases h : w (lo + n) = v (lo + n)
  · rw [if_pos h]
    simp [h]
  · rw [if_neg h]
    simp [h]
theorem difs_mem {w v : Int → Nat} {lo : Int} {n : Nat} {i : Int} : i ∈ difs w v lo n ↔ lo ≤ i ∧ i < lo + n ∧ w i ≠ v i := by
  unfold difs
  rw [List.mem_filter, List.mem_map]
  constructor
  · rintro ⟨⟨k, hk, rfl⟩, h⟩
    have := List.mem_range.mp hk
    exact ⟨by omega, by omega, by simpa using h⟩
  · rintro ⟨h1, h2, h⟩
    exact ⟨⟨(i - lo).toNat, List.mem_range.mpr (by omega), by omega⟩, by simpa using h⟩
theorem difs_len (w v : Int → Nat) (lo : Int) (n : Nat) : (difs w v lo n).length ≤ n := by
  unfold difs
  refine Nat.le_trans (List.length_filter_le _ _) ?_
  rw [List.length_map, List.length_range]
  exact Nat.le_refl _
theorem difs_comm (w v : Int → Nat) (lo : Int) (n : Nat) : difs w v lo n = difs v w lo n := by
  unfold difs
  congr 1
  funext i
  exact bne_comm
theorem far_comm {w v : Int → Nat} {lo hi : Int} : Far w v lo hi ↔ Far v w lo hi := by
  unfold Far
  constructor
  · rintro (⟨i, h, e⟩ | ⟨i, h, e⟩)
    · exact .inl ⟨i, h, Ne.symm e⟩
    · exact .inr ⟨i, h, Ne.symm e⟩
  · rintro (⟨i, h, e⟩ | ⟨i, h, e⟩)
    · exact .inl ⟨i, h, Ne.symm e⟩
    · exact .inr ⟨i, h, Ne.symm e⟩
theorem same_iff {w v : Int → Nat} {lo hi : Int} (h : lo ≤ hi) : (∀ i, w i = v i) ↔ ¬ Far w v lo hi ∧ difs w v lo (hi - lo).toNat = [] := by
  constructor
  · intro e
    refine ⟨?_, ?_⟩
    · rintro (⟨i, _, h⟩ | ⟨i, _, h⟩) <;> exact h (e i)
    · refine List.eq_nil_iff_forall_not_mem.mpr fun i hi => (difs_mem.mp hi).2.2 (e i)
  · rintro ⟨f, d⟩ i
    by_cases c : w i = v i
    · exact c
    · exfalso
      by_cases c1 : i < lo
      · exact f (.inl ⟨i, c1, c⟩)
      · by_cases c2 : hi ≤ i
        · exact f (.inr ⟨i, c2, c⟩)
        · have : i ∈ difs w v lo (hi - lo).toNat := difs_mem.mpr ⟨by omega, by omega, c⟩
          rw [d] at this
          cases this
def win (w : Int → Nat) (b : Int) (n : Nat) : List Nat := (List.range n).map fun k : Nat => w (b + (k : Int))
theorem win_len (w : Int → Nat) (b : Int) (n : Nat) : (win w b n).length = n := by unfold win; rw [List.length_map, List.length_range]
theorem win_at {w : Int → Nat} {b : Int} {n k : Nat} (h : k < n) : (win w b n)[k]? = some (w (b + k)) := by
  unfold win
  rw [List.getElem?_map, List.getElem?_range h]
  rfl
theorem win_eq {w v : Int → Nat} {b : Int} {n : Nat} : win w b n = win v b n ↔ ∀ i, b ≤ i → i < b + n → w i = v i := by
  constructor
  · intro e i h1 h2
    have e1 := win_at (w := w) (b := b) (n := n) (k := (i - b).toNat) (by omega)
    have e2 := win_at (w := v) (b := b) (n := n) (k := (i - b).toNat) (by omega)
    rw [e, e2, show b + (((i - b).toNat : Nat) : Int) = i by omega] at e1
    exact (Option.some.inj e1).symm
  · intro e
    refine List.ext_getElem? fun k => ?_
    by_cases c : k < n
    · rw [win_at c, win_at c, e _ (by omega) (by omega)]
    · rw [List.getElem?_eq_none (by rw [win_len]; omega), List.getElem?_eq_none (by rw [win_len]; omega)]
end K40

end
section
set_option Elab.async false
set_option linter.all false
set_option maxRecDepth 100000
set_option maxHeartbeats 4000000
namespace K40
open PySem PySem.Spec PyProof.Rows L2 Kit
theorem itN {c : Prop} [Decidable c] {A B : Prop} (h : ¬ c) (x : B) : if c then A else B := by
  rw [if_neg h]
  exact x
theorem neT {x : V} {A B : Prop} (h : B) : if (!decide (x = x)) = true then A else B := itN (by rw [decide_eq_true rfl]; decide) h
section
variable {P : Program} {w : World} {K : PySem.W.Frag} {mg : Str → Option Value} {base : Heap} {a : Ad}
def fe (s : Addr) (l m r : List Nat) (t : Int) : List (Str × V) := [("scheme", .ref s), ("left", tx l), ("middle", tx m), ("right", tx r), ("start", .int t)]
theorem ke : (("left" : Str) == ("scheme" : Str)) = false ∧ (("middle" : Str) == ("scheme" : Str)) = false ∧ (("middle" : Str) == ("left" : Str)) = false ∧ (("right" : Str) == ("scheme" : Str)) = false ∧ (("right" : Str) == ("left" : Str)) = false ∧ (("right" : Str) == ("middle" : Str)) = false ∧
  (("start" : Str) == ("scheme" : Str)) = false ∧ (("start" : Str) == ("left" : Str)) = false ∧ (("start" : Str) == ("middle" : Str)) = false ∧ (("start" : Str) == ("right" : Str)) = false := by decide +kernel
theorem fe_scheme (s : Addr) (l m r : List Nat) (t : Int) : (fe s l m r t).lookup ("scheme" : Str) = some (.ref s) := by
  unfold fe
  rw [List.lookup_cons, beq_self_eq_true]
theorem fe_left (s : Addr) (l m r : List Nat) (t : Int) : (fe s l m r t).lookup ("left" : Str) = some (tx l) := by
  unfold fe
  rw [List.lookup_cons, ke.1, List.lookup_cons, beq_self_eq_true]
theorem fe_middle (s : Addr) (l m r : List Nat) (t : Int) : (fe s l m r t).lookup ("middle" : Str) = some (tx m) := by
  unfold fe
  rw [List.lookup_cons, ke.2.1, List.lookup_cons, ke.2.2.1, List.lookup_cons, beq_self_eq_true]
theorem fe_right (s : Addr) (l m r : List Nat) (t : Int) : (fe s l m r t).lookup ("right" : Str) = some (tx r) := by
  unfold fe
  rw [List.lookup_cons, ke.2.2.2.1, List.lookup_cons, ke.2.2.2.2.1, List.lookup_cons, ke.2.2.2.2.2.1, List.lookup_cons, beq_self_eq_true]
theorem fe_start (s : Addr) (l m r : List Nat) (t : Int) : (fe s l m r t).lookup ("start" : Str) = some (.int t) := by
  unfold fe
  rw [List.lookup_cons, ke.2.2.2.2.2.2.1, List.lookup_cons, ke.2.2.2.2.2.2.2.1, List.lookup_cons, ke.2.2.2.2.2.2.2.2.1, List.lookup_cons, ke.2.2.2.2.2.2.2.2.2, List.lookup_cons, beq_self_eq_true]
theorem fe_no (s : Addr) (l m r : List Nat) (t : Int) {x : Str} (h : (x == ("scheme" : Str)) = false ∧ (x == ("left" : Str)) = false ∧ (x == ("middle" : Str)) = false ∧ (x == ("right" : Str)) = false ∧ (x == ("start" : Str)) = false) : (fe s l m r t).lookup x = none := by
  unfold fe
  rw [List.lookup_cons, h.1, List.lookup_cons, h.2.1, List.lookup_cons, h.2.2.1, List.lookup_cons, h.2.2.2.1, List.lookup_cons, h.2.2.2.2, List.lookup_nil]
theorem put_fe (s : Addr) (l m r : List Nat) (t : Int) : putF "start" (.int t) (putF "right" (tx r) (putF "middle" (tx m) (putF "left" (tx l) (putF "scheme" (.ref s) [])))) = fe s l m r t := by
  have h := ke
  unfold fe
  simp only [putF, h.1, h.2.1, h.2.2.1, h.2.2.2.1, h.2.2.2.2.1, h.2.2.2.2.2.1, h.2.2.2.2.2.2.1, h.2.2.2.2.2.2.2.1, h.2.2.2.2.2.2.2.2.1, h.2.2.2.2.2.2.2.2.2]
  rfl
def isLoop (n : Nat) (x : List Nat) : Bool := isStrip n x && decide (1 ≤ x.length ∧ x.length ≤ 6)
structure PartOk (n : Nat) (l m r : List Nat) (t : Int) : Prop where
  sl : isStrip n l = true
  sm : isStrip n m = true
  sr : isStrip n r = true
  l0 : 1 ≤ l.length
  l6 : l.length ≤ 6
  r0 : 1 ≤ r.length
  r6 : r.length ≤ 6
  m1 : m.length ≤ 100
  t1 : -5000 ≤ t
  t2 : t ≤ 5000
structure EndAt (a : Ad) (H : Hp) (p s : Addr) (R C n : Nat) (l m r : List Nat) (t : Int) : Prop where
  ob : ∃ dx, H p = some (.ins a.Endless dx (fe s l m r t))
  sch : SchemeAt a.Scheme H s R C n
  ok : PartOk n l m r t
theorem EndAt.mono {a : Ad} {H G : Hp} {p s : Addr} {R C n : Nat} {l m r : List Nat} {t : Int} (h : EndAt a H p s R C n l m r t) (e : Same H G) : EndAt a G p s R C n l m r t := ⟨let ⟨dx, z⟩ := h.ob; ⟨dx, e _ _ z⟩, h.sch.mono e, h.ok⟩
def spIsLoop (a : Ad) : Sp := fun vs H Q _ => ∃ (s : Addr) (R C n : Nat) (x : List Nat), vs = [.ref s, tx x] ∧ SchemeAt a.Scheme H s R C n ∧ x.length ≤ 1000 ∧ ∀ G, Same H G → Q (.bl (isLoop n x)) G
theorem c_is_loop (T : Txt K mg a) : Can P w K mg base 2 "_is_loop" (spIsLoop a) := by
  refine can_of T.d_is_loop sc_is_loop bd_is_loop (fun vs H Q E h => ?_) (fun f cdv A outer s0 H vs Q E hr h => ?_)
  · obtain ⟨s, R, C, n, x, rfl, _⟩ := h
    rfl
  · obtain ⟨s, R, C, n, x, rfl, sch, hx, z⟩ := h
    refine ⟨_, (pss_one (ps_ret (pe_and (pc_m (c_Scheme_is_strip T) hr (by decide) (pv 0) (pa_cons (pv 1) pa_nil)) (pe_one (pe_chain op_le op_le pe_int (pe_callB call_len_str (by rfl) T.b_len (by decide +kernel) (pa_cons (pv 1) pa_nil)) (C8.pe_gc (by rfl) T.g_MOST_LOOP)))))), ?_⟩
    obtain ⟨ds, hs⟩ := sch.1
    refine ⟨_, rfl, s, ds, _, rfl, hs, fl_no R C n (by decide +kernel) (by decide +kernel) (by decide +kernel), _, rfl, s, R, C, n, x, rfl, sch, by omega, fun G k => ?_⟩
    unfold isLoop at z
    cases e : isStrip n x with
    | false =>
      have z := z G k
      rw [e, Bool.false_and] at z
      exact ⟨_, rfl, iteF z⟩
    | true =>
      have z := z G k
      rw [e, Bool.true_and] at z
      refine ⟨_, rfl, iteT ?_⟩
      refine ⟨_, rfl, _, rfl, by rw [S_len]; exact szl (by omega), _, _, rfl, rfl, _, rfl, ?_⟩
      rw [S_len]
      by_cases c1 : 1 ≤ x.length
      · refine itP (decide_eq_true (by omega)) ⟨_, _, rfl, rfl, ?_⟩
        show Q (V.bl (decide ((x.length : Int) ≤ 6))) G
        rw [show decide ((x.length : Int) ≤ 6) = decide (1 ≤ x.length ∧ x.length ≤ 6) from decide_eq_decide.mpr (by omega)]
        exact z
      · refine itN (by rw [decide_eq_false (by omega)]; decide) ?_
        rw [decide_eq_false (by omega)] at z
        exact z
def wrongE (n : Nat) (l m r : List Nat) : Option (List Nat) := if isLoop n l = false then some [108, 101, 102, 116] else if isStrip n m = false then some [109, 105, 100, 100, 108, 101] else if isLoop n r = false then some [114, 105, 103, 104, 116] else none
theorem lit_left : Str.ofString "left" = S [108, 101, 102, 116] := by decide +kernel
theorem lit_middle : Str.ofString "middle" = S [109, 105, 100, 100, 108, 101] := by decide +kernel
theorem lit_right : Str.ofString "right" = S [114, 105, 103, 104, 116] := by decide +kernel
def spEInit (a : Ad) : Sp := fun vs H Q E => ∃ (p dx s : Addr) (R C n : Nat) (l m r : List Nat) (t : Int), vs = [.ref p, .ref s, tx l, tx m, tx r, .int t] ∧ H p = some (.ins a.Endless dx []) ∧ SchemeAt a.Scheme H s R C n ∧ l.length ≤ 1000 ∧ m.length ≤ 1000 ∧ r.length ≤ 1000 ∧
  (∀ y, wrongE n l m r = some y → Ra E a.BadEndless "part" (tx y) H) ∧ (wrongE n l m r = none → ∀ G, (∀ b o, H b = some o → b ≠ p → G b = some o) → G p = some (.ins a.Endless dx (fe s l m r t)) → Q .non G)
theorem c_Endless_init (T : Txt K mg a) : CanNK P w K mg base 3 a.Endless "Endless" 4 kw_Endless___init__ (spEInit a) := by
  refine canNK_of T.c_Endless T.m_Endless___init__ sc_Endless___init__ (by decide) rfl bk_Endless___init__ (fun vs H Q E h => ?_) (fun f cdv A outer s0 H vs Q E hr h => ?_)
  · obtain ⟨p, dx, s, R, C, n, l, m, r, t, rfl, _⟩ := h
    rfl
  · obtain ⟨p, dx, s, R, C, n, l, m, r, t, rfl, hp, sch, nl, nm, nr, y, z⟩ := h
    refine ⟨_, (pss_cons (ps_if (pt_not (pt_val (pc_f (c_is_loop T) hr (by decide) (by rfl) (pa_cons (pv 1) (pa_cons (pv 2) pa_nil))))) (pss_one (pr_err (c_BadEndless T) (takes_of rfl rfl rfl rfl) (by rfl) hr (by decide) (by rfl) pe_str)) pss_nil)
      (pss_cons (ps_if (pt_not (pt_val (pc_m (c_Scheme_is_strip T) hr (by decide) (pv 1) (pa_cons (pv 3) pa_nil)))) (pss_one (pr_err (c_BadEndless T) (takes_of rfl rfl rfl rfl) (by rfl) hr (by decide) (by rfl) pe_str)) pss_nil)
      (pss_cons (ps_if (pt_not (pt_val (pc_f (c_is_loop T) hr (by decide) (by rfl) (pa_cons (pv 1) (pa_cons (pv 4) pa_nil))))) (pss_one (pr_err (c_BadEndless T) (takes_of rfl rfl rfl rfl) (by rfl) hr (by decide) (by rfl) pe_str)) pss_nil)
      (pss_cons (ps_fld (pv 0) (pv 1) rfl)
      (pss_cons (ps_fld (pv 0) (pv 2) rfl)
      (pss_cons (ps_fld (pv 0) (pv 3) rfl)
      (pss_cons (ps_fld (pv 0) (pv 4) rfl)
      (pss_one (ps_fld (pv 0) (pv 5) rfl))))))))), ?_⟩
    rw [lit_left, lit_middle, lit_right]
    refine ⟨_, rfl, _, rfl, s, R, C, n, l, rfl, sch, nl, fun G1 k1 => ?_⟩
    cases e1 : isLoop n l with
    | false => exact ⟨_, rfl, iteT (((y _ (if_pos e1)).mono k1).now)⟩
    | true =>
      refine ⟨_, rfl, iteF ?_⟩
      have sch1 := sch.mono k1
      obtain ⟨ds, hs⟩ := sch1.1
      refine ⟨_, rfl, s, ds, _, rfl, hs, fl_no R C n (by decide +kernel) (by decide +kernel) (by decide +kernel), _, rfl, s, R, C, n, m, rfl, sch1, by omega, fun G2 k2 => ?_⟩
      have k12 := k1.trans k2
      cases e2 : isStrip n m with
      | false => exact ⟨_, rfl, iteT (((y _ (by unfold wrongE; rw [if_neg (by rw [e1]; decide), if_pos e2])).mono k12).now)⟩
      | true =>
        refine ⟨_, rfl, iteF ?_⟩
        refine ⟨_, rfl, _, rfl, s, R, C, n, r, rfl, sch.mono k12, nr, fun G3 k3 => ?_⟩
        have k13 := k12.trans k3
        cases e3 : isLoop n r with
        | false => exact ⟨_, rfl, iteT (((y _ (by unfold wrongE; rw [if_neg (by rw [e1]; decide), if_neg (by rw [e2]; decide), if_pos e3])).mono k13).now)⟩
        | true =>
          refine ⟨_, rfl, iteF ?_⟩
          refine ⟨_, rfl, _, rfl, p, _, dx, [], rfl, k13 _ _ hp, T.c_Endless.cl, T.n_scheme, by show 0 < 1000; decide, ?_⟩
          refine ⟨_, rfl, _, rfl, p, _, dx, _, rfl, upd_same, T.c_Endless.cl, T.n_left, by show 1 < 1000; decide, ?_⟩
          refine ⟨_, rfl, _, rfl, p, _, dx, _, rfl, upd_same, T.c_Endless.cl, T.n_middle, by show 2 < 1000; decide, ?_⟩
          refine ⟨_, rfl, _, rfl, p, _, dx, _, rfl, upd_same, T.c_Endless.cl, T.n_right, by show 3 < 1000; decide, ?_⟩
          refine ⟨_, rfl, _, rfl, p, _, dx, _, rfl, upd_same, T.c_Endless.cl, T.n_start, by show 4 < 1000; decide, ?_⟩
          refine z (by unfold wrongE; rw [if_neg (by rw [e1]; decide), if_neg (by rw [e2]; decide), if_neg (by rw [e3]; decide)]) _ (fun b o e hb => ?_) ?_
          · rw [upd_ne hb, upd_ne hb, upd_ne hb, upd_ne hb, upd_ne hb]
            exact k13 _ _ e
          · exact upd_same.trans (congrArg (fun l => some (HO.ins a.Endless dx l)) (put_fe s l m r t))
end
end K40

end
section
set_option Elab.async false
set_option linter.all false
set_option maxRecDepth 100000
set_option maxHeartbeats 4000000
namespace K40
open PySem PySem.Spec PyProof.Rows L2 Kit
theorem mod_at {l : List Nat} (h : 1 ≤ l.length) (d : Int) : atI (S l).cps.toList (d.fmod ((l.length : Nat) : Int)) = some (l.getD (d % (l.length : Int)).toNat 0) := by
  have e : d.fmod ((l.length : Nat) : Int) = d % (l.length : Int) := Int.fmod_eq_emod_of_nonneg _ (by omega)
  have p := Int.emod_nonneg d (show (l.length : Int) ≠ 0 by omega)
  have q := Int.emod_lt_of_pos d (show (0 : Int) < l.length by omega)
  rw [e]
  have c : (d % (l.length : Int)).toNat < l.length := by omega
  have := atI_nat (xs := l) (j := (d % (l.length : Int)).toNat) (v := l.getD (d % (l.length : Int)).toNat 0) (by rw [List.getD_eq_getElem?_getD, List.getElem?_eq_getElem c]; rfl)
  rw [show (((d % (l.length : Int)).toNat : Nat) : Int) = d % (l.length : Int) by omega] at this
  exact this
theorem col_neg {l m r : List Nat} {d : Int} (h : d < 0) : col l m r d = l.getD (d % (l.length : Int)).toNat 0 := if_pos h
theorem col_mid {l m r : List Nat} {d : Int} (h : ¬ d < 0) (g : d < (m.length : Int)) : atI (S m).cps.toList d = some (col l m r d) := by
  unfold col
  rw [if_neg h, if_pos g]
  have c : d.toNat < m.length := by omega
  have := atI_nat (xs := m) (j := d.toNat) (v := m.getD d.toNat 0) (by rw [List.getD_eq_getElem?_getD, List.getElem?_eq_getElem c]; rfl)
  rw [show ((d.toNat : Nat) : Int) = d by omega] at this
  exact this
theorem col_pos {l m r : List Nat} {d : Int} (h : ¬ d < 0) (g : ¬ d < (m.length : Int)) : col l m r d = r.getD ((d - (m.length : Int)) % (r.length : Int)).toNat 0 := by
  unfold col
  rw [if_neg h, if_neg g]
theorem getD_in {n : Nat} {l : List Nat} (h : isStrip n l = true) {i : Nat} (hi : i < l.length) : inCol n (l.getD i 0) = true := by
  rw [List.getD_eq_getElem?_getD, List.getElem?_eq_getElem hi]
  exact List.all_eq_true.mp h _ (List.getElem_mem hi)
theorem wd_in {n : Nat} {l m r : List Nat} {t : Int} (h : PartOk n l m r t) (i : Int) : inCol n (wd l m r t i) = true := by
  have h1 := h.l0
  have h2 := h.r0
  have e1 := Int.emod_nonneg (i - t) (show (l.length : Int) ≠ 0 by omega)
  have e2 := Int.emod_lt_of_pos (i - t) (show (0 : Int) < l.length by omega)
  have e3 := Int.emod_nonneg (i - t - m.length) (show (r.length : Int) ≠ 0 by omega)
  have e4 := Int.emod_lt_of_pos (i - t - m.length) (show (0 : Int) < r.length by omega)
  unfold wd col
  by_cases c1 : i - t < 0
  · rw [if_pos c1]
    exact getD_in h.sl (by omega)
  · rw [if_neg c1]
    by_cases c2 : i - t < (m.length : Int)
    · rw [if_pos c2]
      exact getD_in h.sm (by omega)
    · rw [if_neg c2]
      exact getD_in h.sr (by omega)
theorem win_strip {n : Nat} {l m r : List Nat} {t : Int} (h : PartOk n l m r t) (b : Int) (k : Nat) : isStrip n (win (wd l m r t) b k) = true := by
  refine List.all_eq_true.mpr fun x hx => ?_
  obtain ⟨j, _, rfl⟩ := List.mem_map.mp hx
  exact wd_in h _
section
variable {P : Program} {w : World} {K : PySem.W.Frag} {mg : Str → Option Value} {base : Heap} {a : Ad}
def spColAt (a : Ad) : Sp := fun vs H Q _ => ∃ (p s : Addr) (R C n : Nat) (l m r : List Nat) (t i : Int), vs = [.ref p, .int i] ∧ EndAt a H p s R C n l m r t ∧ Q (tx [wd l m r t i]) H
theorem c_Endless_column_at (T : Txt K mg a) : CanM P w K mg base 1 a.Endless "column_at" (spColAt a) := by
  refine canM_of T.c_Endless.cl T.m_Endless_column_at sc_Endless_column_at bd_Endless_column_at (fun vs H Q E h => ?_) (fun f cdv A outer s0 H vs Q E hr h => ?_)
  · obtain ⟨p, s, R, C, n, l, m, r, t, i, rfl, _⟩ := h
    rfl
  · obtain ⟨p, s, R, C, n, l, m, r, t, i, rfl, e1, z⟩ := h
    refine ⟨_, (pss_cons (ps_set (i := 2) sc_Endless_column_at.nd rfl (.inl rfl) (pe_op op_sub (pv 1) (kfld K (pv 0))))
      (pss_cons (ps_if (pt_cmpR op_lt (pv 2) pe_int (nomark _)) (pss_one (ps_ret (pe_ix ix_str (kfld K (pv 0)) (pe_op op_modN (pv 2) (pe_callB call_len_str (by rfl) T.b_len (by decide +kernel) (pa_cons (kfld K (pv 0)) pa_nil))) (fun _ _ => rfl)))) pss_nil)
      (pss_cons (ps_if (pt_cmpR op_lt (pv 2) (pe_callB call_len_str (by rfl) T.b_len (by decide +kernel) (pa_cons (kfld K (pv 0)) pa_nil)) (nomark _)) (pss_one (ps_ret (pe_ix ix_str (kfld K (pv 0)) (pv 2) (fun _ _ => rfl)))) pss_nil)
      (pss_one (ps_ret (pe_ix ix_str (kfld K (pv 0)) (pe_op op_modN (pe_op op_sub (pv 2) (pe_callB call_len_str (by rfl) T.b_len (by decide +kernel) (pa_cons (kfld K (pv 0)) pa_nil))) (pe_callB call_len_str (by rfl) T.b_len (by decide +kernel) (pa_cons (kfld K (pv 0)) pa_nil))) (fun _ _ => rfl))))))), ?_⟩
    obtain ⟨dx, hp⟩ := e1.ob
    have ok := e1.ok
    have l0 := ok.l0
    have l6 := ok.l6
    have r0 := ok.r0
    have r6 := ok.r6
    have m1 := ok.m1
    have sz : ∀ {x : List Nat}, x.length ≤ 1000 → (S x).length ≤ sizeLine := fun h => by rw [S_len]; exact szl (by omega)
    refine ⟨_, rfl, _, rfl, p, _, dx, _, _, rfl, hp, T.c_Endless.cl, T.n_start, fe_start s l m r t, _, _, rfl, rfl, _, rfl, _, _, rfl, rfl, _, rfl, ?_⟩
    by_cases c1 : i - t < 0
    · rw [decide_eq_true c1]
      refine iteT ⟨_, rfl, p, _, dx, _, _, rfl, hp, T.c_Endless.cl, T.n_left, fe_left s l m r t, _, rfl, _, rfl, p, _, dx, _, _, rfl, hp, T.c_Endless.cl, T.n_left, fe_left s l m r t, _, rfl, sz (by omega), _, _, rfl, rfl, by rw [S_len]; omega, ?_⟩
      rw [S_len]
      refine ⟨_, _, wd l m r t i, rfl, rfl, sz (by omega), ?_, z⟩
      rw [mod_at l0]
      unfold wd
      rw [col_neg c1]
    · rw [decide_eq_false c1]
      refine iteF ⟨_, rfl, _, rfl, p, _, dx, _, _, rfl, hp, T.c_Endless.cl, T.n_middle, fe_middle s l m r t, _, rfl, sz (by omega), _, _, rfl, rfl, _, rfl, ?_⟩
      rw [S_len]
      by_cases c2 : i - t < (m.length : Int)
      · rw [decide_eq_true c2]
        exact iteT ⟨_, rfl, p, _, dx, _, _, rfl, hp, T.c_Endless.cl, T.n_middle, fe_middle s l m r t, _, rfl, _, _, wd l m r t i, rfl, rfl, sz (by omega), col_mid c1 c2, z⟩
      · rw [decide_eq_false c2]
        refine iteF ⟨_, rfl, p, _, dx, _, _, rfl, hp, T.c_Endless.cl, T.n_right, fe_right s l m r t, _, rfl, _, rfl, p, _, dx, _, _, rfl, hp, T.c_Endless.cl, T.n_middle, fe_middle s l m r t, _, rfl, sz (by omega), _, _, rfl, rfl, ?_⟩
        refine ⟨_, rfl, p, _, dx, _, _, rfl, hp, T.c_Endless.cl, T.n_right, fe_right s l m r t, _, rfl, sz (by omega), _, _, rfl, rfl, by show ((S r).length : Int) ≠ 0; rw [S_len]; omega, ?_⟩
        rw [S_len, S_len]
        refine ⟨_, _, wd l m r t i, rfl, rfl, sz (by omega), ?_, z⟩
        rw [mod_at r0]
        unfold wd
        rw [col_pos c1 c2]
theorem join_win (ls : List Nat) : Txt.join (Str.ofString "") (ls.map fun x => S [x]) = S ls := by rw [lit_e, join_ones]
def spWin (a : Ad) : Sp := fun vs H Q _ => ∃ (p s : Addr) (R C n : Nat) (l m r : List Nat) (t b e : Int), vs = [.ref p, .int b, .int e] ∧ EndAt a H p s R C n l m r t ∧ -20000 ≤ b ∧ b ≤ 20000 ∧ -20000 ≤ e ∧ e ≤ 20000 ∧ ∀ G, Same H G → Q (tx (win (wd l m r t) b (e - b).toNat)) G
theorem c_Endless_window (T : Txt K mg a) : CanM P w K mg base 2 a.Endless "window" (spWin a) := by
  refine canM_of T.c_Endless.cl T.m_Endless_window sc_Endless_window bd_Endless_window (fun vs H Q E h => ?_) (fun f cdv A outer s0 H vs Q E hr h => ?_)
  · obtain ⟨p, s, R, C, n, l, m, r, t, b, e, rfl, _⟩ := h
    rfl
  · obtain ⟨p, s, R, C, n, l, m, r, t, b, e, rfl, e1, b1, b2, b3, b4, z⟩ := h
    refine ⟨_, (pss_one (ps_ret (kjoin K pe_str (pe_lc (own := [("index", 3)]) (g := gName 3) (tt := tYes) (by rfl) sc_Endless_window.nd (pi_range2 (by rfl) T.b_range (pa_cons (pv 1) (pa_cons (pv 2) pa_nil))) (blkOk_by (N := N_Endless_window) (sc := defScope s_Endless_window) (by decide +kernel)) (fun _ _ _ _ _ => (pg_name (i := 3) sc_Endless_window.nd rfl (.inl rfl))) (fun _ _ _ _ _ => pts_nil) (fun _ _ _ _ _ => (pc_m (c_Endless_column_at T) hr (by decide) (pv 0) (pa_cons (pv 3) pa_nil))))))), ?_⟩
    refine ⟨⟨_, rfl⟩, _, rfl, _, rfl, b, e, rfl, by omega, fun D hD => ?_⟩
    refine lc_one (walk_range (lo := b) (n := (e - b).toNat)) ((win (wd l m r t) b (e - b).toNat).map fun x => tx [x]) (by rw [List.length_map, win_len]) (by omega) hD (fun _ _ => True.intro) ?_ ?_
    · rintro i x G G' v hi s1 ⟨rfl, rfl⟩ hv
      rw [List.getElem?_map, win_at hi] at hv
      cases hv
      obtain ⟨dx, hp⟩ := (e1.mono s1).ob
      refine ⟨.refl _, fun Q' q => ⟨_, rfl, p, dx, _, rfl, hp, fe_no s l m r t (by decide +kernel), _, rfl, p, s, R, C, n, l, m, r, t, _, rfl, e1.mono s1, ?_⟩⟩
      exact q _ (.refl _)
    · intro G s1 hG
      refine ⟨_, _, (win (wd l m r t) b (e - b).toNat).map fun y => S [y], rfl, rfl, .inl (seqL_of (by rw [List.map_map]; exact hG)), ?_, ?_⟩
      · rw [sum_ones, win_len, lit_e, S_len, List.length_map, win_len]
        exact szl (by show _ + _ * 0 ≤ _; omega)
      · rw [join_win]
        exact z G s1
end
end K40

end
section
set_option Elab.async false
set_option linter.all false
set_option maxRecDepth 100000
set_option maxHeartbeats 4000000
namespace K40
open PySem PySem.Spec PyProof.Rows L2 Kit
theorem signs_S (l : List Nat) : Kit.signs (S l) = l.map fun x => tx [x] := rfl
def mn (a b : Int) : Int := if b < a then b else a
def mx (a b : Int) : Int := if b > a then b else a
theorem one_ne (c d : Nat) : (!decide (tx [c] = tx [d])) = (c != d) := by
  by_cases h : c = d
  · subst h
    rw [decide_eq_true (p := tx [c] = tx [c]) rfl]
    simp
  · rw [decide_eq_false (p := tx [c] = tx [d]) fun e => h (by have := S_inj (V.str.inj e); simpa using this)]
    simp [h]
theorem cnt_eq {w v : Int → Nat} {lo hi : Int} {L i : Nat} (h : w (lo - L + i) = v (lo - L + i)) : difs w v lo (min (lo - L + ((i + 1 : Nat) : Int) - lo).toNat (hi - lo).toNat) = difs w v lo (min (lo - L + (i : Int) - lo).toNat (hi - lo).toNat) := by
  by_cases c : min (lo - L + ((i + 1 : Nat) : Int) - lo).toNat (hi - lo).toNat = min (lo - L + (i : Int) - lo).toNat (hi - lo).toNat
  · rw [c]
  · have e : min (lo - L + ((i + 1 : Nat) : Int) - lo).toNat (hi - lo).toNat = min (lo - L + (i : Int) - lo).toNat (hi - lo).toNat + 1 := by omega
    have e2 : lo + ((min (lo - L + (i : Int) - lo).toNat (hi - lo).toNat : Nat) : Int) = lo - L + i := by omega
    rw [e, difs_succ, e2, if_pos h, List.append_nil]
theorem cnt_ne {w v : Int → Nat} {lo hi : Int} {L i : Nat} (h : ¬ w (lo - L + i) = v (lo - L + i)) (h1 : lo ≤ lo - L + (i : Int)) (h2 : lo - L + (i : Int) < hi) : difs w v lo (min (lo - L + ((i + 1 : Nat) : Int) - lo).toNat (hi - lo).toNat) = difs w v lo (min (lo - L + (i : Int) - lo).toNat (hi - lo).toNat) ++ [lo - L + (i : Int)] := by
  have e : min (lo - L + ((i + 1 : Nat) : Int) - lo).toNat (hi - lo).toNat = min (lo - L + (i : Int) - lo).toNat (hi - lo).toNat + 1 := by omega
  have e2 : lo + ((min (lo - L + (i : Int) - lo).toNat (hi - lo).toNat : Nat) : Int) = lo - L + i := by omega
  rw [e, difs_succ, e2, if_neg h]
section
variable {P : Program} {w : World} {K : PySem.W.Frag} {mg : Str → Option Value} {base : Heap} {a : Ad}
/-- how far the words of two endless strips must be compared -/
theorem far_near {l m r l2 m2 r2 : List Nat} {t t2 : Int} {n n2 : Nat} (h : PartOk n l m r t) (g : PartOk n2 l2 m2 r2 t2) {L R : Nat} (L0 : 0 < L) (R0 : 0 < R) (d1 : l.length ∣ L) (d2 : l2.length ∣ L) (d3 : r.length ∣ R) (d4 : r2.length ∣ R) {lo hi : Int} (h1 : lo ≤ t) (h2 : lo ≤ t2) (h3 : t + m.length ≤ hi) (h4 : t2 + m2.length ≤ hi) :
    Far (wd l m r t) (wd l2 m2 r2 t2) lo hi ↔ (∃ i, lo - L ≤ i ∧ i < lo ∧ wd l m r t i ≠ wd l2 m2 r2 t2 i) ∨ ∃ i, hi ≤ i ∧ i < hi + R ∧ wd l m r t i ≠ wd l2 m2 r2 t2 i := by
  obtain ⟨k1, rfl⟩ := d1
  obtain ⟨k2, e2⟩ := d2
  obtain ⟨k3, rfl⟩ := d3
  obtain ⟨k4, e4⟩ := d4
  unfold Far
  rw [near_left L0 (fun i hi => by have := wd_left (l := l) (m := m) (r := r) k1 (show i < t by omega); rw [Nat.mul_comm] at this; exact this) (fun i hi => by have := wd_left (l := l2) (m := m2) (r := r2) k2 (show i < t2 by omega); rw [Nat.mul_comm, ← e2] at this; exact this),
    near_right R0 (fun i hi => by have := wd_right (l := l) (m := m) (r := r) k3 (show t + m.length ≤ i by omega); rw [Nat.mul_comm] at this; exact this) (fun i hi => by have := wd_right (l := l2) (m := m2) (r := r2) k4 (show t2 + m2.length ≤ i by omega); rw [Nat.mul_comm, ← e4] at this; exact this)]
def spApart (a : Ad) : Sp := fun vs H Q _ => ∃ (p s p2 s2 : Addr) (R C n R2 C2 n2 : Nat) (l m r l2 m2 r2 : List Nat) (t t2 : Int), vs = [.ref p, .ref p2] ∧ EndAt a H p s R C n l m r t ∧ EndAt a H p2 s2 R2 C2 n2 l2 m2 r2 t2 ∧
  (Far (wd l m r t) (wd l2 m2 r2 t2) (mn t t2) (mx (t + m.length) (t2 + m2.length)) → ∀ G, Same H G → Q .non G) ∧
  (¬ Far (wd l m r t) (wd l2 m2 r2 t2) (mn t t2) (mx (t + m.length) (t2 + m2.length)) → ∀ G q, Same H G → H q = none → G q = some (.lst ((difs (wd l m r t) (wd l2 m2 r2 t2) (mn t t2) (mx (t + m.length) (t2 + m2.length) - mn t t2).toNat).map V.int)) → Q (.ref q) G)
theorem c_apart (T : Txt K mg a) : Can P w K mg base 3 "_apart" (spApart a) := by
  refine can_of T.d_apart sc_apart bd_apart (fun vs H Q E h => ?_) (fun f cdv A outer s0 H vs Q E hr h => ?_)
  · obtain ⟨p, s, p2, s2, R, C, n, R2, C2, n2, l, m, r, l2, m2, r2, t, t2, rfl, _⟩ := h
    rfl
  · obtain ⟨p, s, p2, s2, R, C, n, R2, C2, n2, l, m, r, l2, m2, r2, t, t2, rfl, e1, e2, z1, z2⟩ := h
    refine ⟨_, (pss_cons (ps_set (i := 2) sc_apart.nd rfl (.inl rfl) (pe_callB (call_min2 (by rfl)) (by rfl) T.b_min (by decide +kernel) (pa_cons (kfld K (pv 0)) (pa_cons (kfld K (pv 1)) pa_nil))))
      (pss_cons (ps_set (i := 3) sc_apart.nd rfl (.inl rfl) (pe_callB (call_max2 (by rfl)) (by rfl) T.b_max (by decide +kernel) (pa_cons (pe_op op_add (kfld K (pv 0)) (pe_callB call_len_str (by rfl) T.b_len (by decide +kernel) (pa_cons (kfld K (pv 0)) pa_nil))) (pa_cons (pe_op op_add (kfld K (pv 1)) (pe_callB call_len_str (by rfl) T.b_len (by decide +kernel) (pa_cons (kfld K (pv 1)) pa_nil))) pa_nil))))
      (pss_cons (ps_set (i := 4) sc_apart.nd rfl (.inl rfl) (pe_op op_sub (pv 2) (pe_callBfun cr_lcm (by rfl) T.m_lcm (pa_cons (pe_callB call_len_str (by rfl) T.b_len (by decide +kernel) (pa_cons (kfld K (pv 0)) pa_nil)) (pa_cons (pe_callB call_len_str (by rfl) T.b_len (by decide +kernel) (pa_cons (kfld K (pv 1)) pa_nil)) pa_nil)))))
      (pss_cons (ps_set (i := 5) sc_apart.nd rfl (.inl rfl) (pe_op op_add (pv 3) (pe_callBfun cr_lcm (by rfl) T.m_lcm (pa_cons (pe_callB call_len_str (by rfl) T.b_len (by decide +kernel) (pa_cons (kfld K (pv 0)) pa_nil)) (pa_cons (pe_callB call_len_str (by rfl) T.b_len (by decide +kernel) (pa_cons (kfld K (pv 1)) pa_nil)) pa_nil)))))
      (pss_cons (ps_set (i := 6) sc_apart.nd rfl (.inl rfl) (pe_lst pa_nil))
      (pss_cons (ps_for (passes_of rfl) (by rfl) (pi_enumZ (by rfl) T.b_enumerate (by rfl) T.b_zip (pa_cons (pc_m (c_Endless_window T) hr (by decide) (pv 0) (pa_cons (pv 4) (pa_cons (pv 5) pa_nil))) (pa_cons (pc_m (c_Endless_window T) hr (by decide) (pv 1) (pa_cons (pv 4) (pa_cons (pv 5) pa_nil))) pa_nil))) (pg_tup rfl (pgs_cons (pg_name (i := 7) sc_apart.nd rfl (.inl rfl)) (pgs_cons (pg_tup rfl (pgs_cons (pg_name (i := 8) sc_apart.nd rfl (.inl rfl)) (pgs_cons (pg_name (i := 9) sc_apart.nd rfl (.inl rfl)) pgs_nil))) pgs_nil))) (pss_one (ps_if (pt_cmpR op_ne (pv 8) (pv 9) (nomark _)) (pss_cons (ps_set (i := 10) sc_apart.nd rfl (.inl rfl) (pe_op op_add (pv 4) (pv 7)))
      (pss_cons (ps_if (PW.pt (pw_or (pt_cmpR op_lt (pv 10) (pv 2) (nomark _)) (pw_or1 (pt_cmpR op_ge (pv 10) (pv 3) (nomark _))))) (pss_one (ps_ret pe_non)) pss_nil)
      (pss_one (ps_expr (pe_bm PySem.F.plainAttrs_list PySem.F.slot_list_append PySem.F.type_list_append mt_append (pv 6) (pa_cons (pv 10) pa_nil)))))) pss_nil)))
      (pss_one (ps_ret (pv 6))))))))), ?_⟩
    obtain ⟨dx, hp⟩ := e1.ob
    obtain ⟨dx2, hp2⟩ := e2.ob
    have ok := e1.ok
    have ok2 := e2.ok
    obtain ⟨_, _, _, l0, l6, r0, r6, m1, t1, t1'⟩ := e1.ok
    obtain ⟨_, _, _, l20, l26, r20, r26, m21, t21, t21'⟩ := e2.ok
    have sz : ∀ {x : List Nat}, x.length ≤ 1000 → (S x).length ≤ sizeLine := fun h => by rw [S_len]; exact szl (by omega)
    refine ⟨_, rfl, p, _, dx, _, _, rfl, hp, T.c_Endless.cl, T.n_start, fe_start s l m r t, _, rfl, p2, _, dx2, _, _, rfl, hp2, T.c_Endless.cl, T.n_start, fe_start s2 l2 m2 r2 t2, t, t2, rfl, ?_⟩
    change gName 2 (.int (mn t t2)) _ _ _
    refine ⟨_, rfl, p, _, dx, _, _, rfl, hp, T.c_Endless.cl, T.n_start, fe_start s l m r t, _, rfl, p, _, dx, _, _, rfl, hp, T.c_Endless.cl, T.n_middle, fe_middle s l m r t, _, rfl, sz (by omega), _, _, rfl, rfl, ?_⟩
    refine ⟨_, rfl, p2, _, dx2, _, _, rfl, hp2, T.c_Endless.cl, T.n_start, fe_start s2 l2 m2 r2 t2, _, rfl, p2, _, dx2, _, _, rfl, hp2, T.c_Endless.cl, T.n_middle, fe_middle s2 l2 m2 r2 t2, _, rfl, sz (by omega), _, _, rfl, rfl, t + ((S m).length : Int), t2 + ((S m2).length : Int), rfl, ?_⟩
    rw [S_len, S_len]
    change gName 3 (.int (mx (t + m.length) (t2 + m2.length))) _ _ _
    have b1 : mn t t2 ≤ t ∧ mn t t2 ≤ t2 ∧ (mn t t2 = t ∨ mn t t2 = t2) := by unfold mn; split <;> omega
    have b2 : t + m.length ≤ mx (t + m.length) (t2 + m2.length) ∧ t2 + m2.length ≤ mx (t + m.length) (t2 + m2.length) ∧ (mx (t + m.length) (t2 + m2.length) = t + m.length ∨ mx (t + m.length) (t2 + m2.length) = t2 + m2.length) := by unfold mx; split <;> omega
    generalize mn t t2 = lo at b1 z1 z2 ⊢
    generalize mx (t + m.length) (t2 + m2.length) = hi at b2 z1 z2 ⊢
    have L0 : 0 < Nat.lcm l.length l2.length := Nat.lcm_pos (by omega) (by omega)
    have R0 : 0 < Nat.lcm r.length r2.length := Nat.lcm_pos (by omega) (by omega)
    have LL : Nat.lcm l.length l2.length ≤ 36 := Nat.le_trans (Nat.le_of_dvd (Nat.mul_pos (by omega) (by omega)) (Nat.lcm_dvd_mul _ _)) (Nat.mul_le_mul l6 l26)
    have RR : Nat.lcm r.length r2.length ≤ 36 := Nat.le_trans (Nat.le_of_dvd (Nat.mul_pos (by omega) (by omega)) (Nat.lcm_dvd_mul _ _)) (Nat.mul_le_mul r6 r26)
    have far := far_near ok ok2 L0 R0 (Nat.dvd_lcm_left _ _) (Nat.dvd_lcm_right _ _) (Nat.dvd_lcm_left _ _) (Nat.dvd_lcm_right _ _) b1.1 b1.2.1 b2.1 b2.2.1
    refine ⟨_, rfl, _, rfl, p, _, dx, _, _, rfl, hp, T.c_Endless.cl, T.n_left, fe_left s l m r t, _, rfl, sz (by omega), _, rfl, p2, _, dx2, _, _, rfl, hp2, T.c_Endless.cl, T.n_left, fe_left s2 l2 m2 r2 t2, _, rfl, sz (by omega), (S l).length, (S l2).length, rfl, by rw [S_len]; omega, by rw [S_len]; omega, _, _, rfl, rfl, ?_⟩
    refine ⟨_, rfl, _, rfl, p, _, dx, _, _, rfl, hp, T.c_Endless.cl, T.n_right, fe_right s l m r t, _, rfl, sz (by omega), _, rfl, p2, _, dx2, _, _, rfl, hp2, T.c_Endless.cl, T.n_right, fe_right s2 l2 m2 r2 t2, _, rfl, sz (by omega), (S r).length, (S r2).length, rfl, by rw [S_len]; omega, by rw [S_len]; omega, _, _, rfl, rfl, ?_⟩
    rw [S_len, S_len, S_len, S_len]
    generalize hL : Nat.lcm l.length l2.length = L at *
    generalize hR : Nat.lcm r.length r2.length = Rr at *
    refine ⟨by show 0 ≤ sizeLine; decide, fun qf hqf => ?_⟩
    have k0 := ex_new (o := .lst []) hqf
    refine ⟨_, rfl, p, dx, _, rfl, k0 _ _ hp, fe_no s l m r t (by decide +kernel), _, rfl, _, rfl, p, s, R, C, n, l, m, r, t, _, _, rfl, e1.mono k0, by omega, by omega, by omega, by omega, fun G1 k1 => ?_⟩
    refine ⟨_, rfl, p2, dx2, _, rfl, k1 _ _ (k0 _ _ hp2), fe_no s2 l2 m2 r2 t2 (by decide +kernel), _, rfl, _, rfl, p2, s2, R2, C2, n2, l2, m2, r2, t2, _, _, rfl, (e2.mono k0).mono k1, by omega, by omega, by omega, by omega, fun G2 k2 => ?_⟩
    generalize hN : (hi + (Rr : Int) - (lo - (L : Int))).toNat = N
    have hN2 : (N : Int) = hi + Rr - (lo - L) := by omega
    have kk := (k0.trans k1).trans k2
    refine ⟨.T (S (win (wd l m r t) (lo - L) N)), .T (S (win (wd l2 m2 r2 t2) (lo - L) N)), _, _, rfl, rfl, rfl, ?_⟩
    have hb : (hi - lo).toNat ≤ 20000 := by omega
    refine for_it (walk_EZ (n := N) (by rw [signs_S, signs_S, List.length_map, List.length_map, win_len, win_len, Nat.min_self])) (fun i σ G => Same H G ∧ G qf = some (.lst ((difs (wd l m r t) (wd l2 m2 r2 t2) lo (min (lo - L + i - lo).toNat (hi - lo).toNat)).map V.int)) ∧
      (∀ j, lo - L ≤ j → j < lo - L + i → (j < lo ∨ hi ≤ j) → wd l m r t j = wd l2 m2 r2 t2 j) ∧ ∃ x y z u, σ = [some (.ref p), some (.ref p2), some (.int lo), some (.int hi), some (.int (lo - L)), some (.int (hi + Rr)), some (.ref qf), x, y, z, u])
      ⟨kk, ?_, fun j h1 h2 => by omega, none, none, none, none, rfl⟩ (fun i σ G _ h => ⟨rfl, rfl⟩) ?_ ?_
    · have e : min (lo - L + ((0 : Nat) : Int) - lo).toNat (hi - lo).toNat = 0 := by omega
      rw [e]
      exact k2 _ _ (k1 _ _ upd_same)
    · rintro i x σ G G' hi' ⟨k3, hG, eq, x0, y0, z0, u0, rfl⟩ ⟨Tt, U, c, d, rfl, hT, hU, ne, rfl, hc, hd⟩
      rw [signs_S, List.getElem?_map, win_at hi'] at hc hd
      cases hc
      cases hd
      have nTq : Tt ≠ qf := fun q => by rw [q, hG] at hT; cases hT
      have nUq : U ≠ qf := fun q => by rw [q, hG] at hU; cases hU
      have k4 : Same G (upd (upd G Tt (.tup [tx [wd l m r t (lo - L + i)], tx [wd l2 m2 r2 t2 (lo - L + i)]])) U (.tup [.int (i : Nat), .ref Tt])) := (ex_new hT).trans (ex_new (by rw [upd_ne (Ne.symm ne)]; exact hU))
      refine ⟨U, _, rfl, seqT_of upd_same, rfl, _, _, rfl, _, _, rfl, Tt, _, rfl, seqT_of (by rw [upd_ne ne]; exact upd_same), rfl, _, _, rfl, _, _, rfl, rfl, rfl, ?_⟩
      refine ⟨_, rfl, _, rfl, rfl, _, rfl, ?_⟩
      rw [one_ne]
      by_cases cw : wd l m r t (lo - L + i) = wd l2 m2 r2 t2 (lo - L + i)
      · refine itN (by rw [cw]; simp) ⟨k3.trans k4, ?_, fun j h1 h2 h3 => ?_, _, _, _, _, rfl⟩
        · rw [cnt_eq cw]
          exact k4 _ _ hG
        · by_cases q : j = lo - L + i
          · rw [q]
            exact cw
          · exact eq j h1 (by omega) h3
      · refine itP (by simp [cw]) ?_
        refine ⟨_, rfl, _, rfl, _, _, rfl, rfl, ?_⟩
        by_cases c1 : lo - L + (i : Int) < lo
        · exact ⟨_, rfl, _, rfl, _, _, rfl, rfl, _, rfl, itP (decide_eq_true c1) (iteT (z1 (.inl ⟨_, c1, cw⟩) _ (k3.trans k4)))⟩
        · refine ⟨_, rfl, _, rfl, _, _, rfl, rfl, _, rfl, itN (by rw [decide_eq_false c1]; decide) ?_⟩
          by_cases c2 : hi ≤ lo - L + (i : Int)
          · exact ⟨_, rfl, _, rfl, _, _, rfl, rfl, _, rfl, itP (decide_eq_true c2) (z1 (.inr ⟨_, c2, cw⟩) _ (k3.trans k4))⟩
          · refine ⟨_, rfl, _, rfl, _, _, rfl, rfl, _, rfl, itN (by rw [show decide (lo - L + (i : Int) ≥ hi) = false from decide_eq_false c2]; decide) ?_⟩
            have hG4 := k4 _ _ hG
            have fq : H qf = none := hqf
            have len : (difs (wd l m r t) (wd l2 m2 r2 t2) lo (min (lo - L + i - lo).toNat (hi - lo).toNat)).length ≤ 20000 := Nat.le_trans (difs_len _ _ _ _) (Nat.le_trans (Nat.min_le_right _ _) hb)
            refine ⟨_, rfl, .inl ⟨rfl, _, seqL_of hG4⟩, _, rfl, qf, _, _, rfl, rfl, hG4, by rw [List.length_map]; exact szlt (by omega), ?_⟩
            refine ⟨ex_mut (k3.trans k4) fq, ?_, fun j h1 h2 h3 => ?_, _, _, _, _, rfl⟩
            · rw [upd_same, cnt_ne cw (by omega) (by omega), List.map_append]
              rfl
            · exact eq j h1 (by omega) h3
    · rintro σ G ⟨k3, hG, eq, x0, y0, z0, u0, rfl⟩
      have nf : ¬ Far (wd l m r t) (wd l2 m2 r2 t2) lo hi := fun f => by
        rcases far.mp f with ⟨i, h1, h2, h3⟩ | ⟨i, h1, h2, h3⟩
        · exact h3 (eq i h1 (by omega) (.inl h2))
        · exact h3 (eq i (by omega) (by omega) (.inr h1))
      rw [show min (lo - (L : Int) + (N : Int) - lo).toNat (hi - lo).toNat = (hi - lo).toNat by omega] at hG
      exact ⟨_, rfl, z2 nf G qf k3 hqf hG⟩
end
end K40

end
section
set_option Elab.async false
set_option linter.all false
set_option maxRecDepth 100000
set_option maxHeartbeats 4000000
namespace K40
open PySem PySem.Spec PyProof.Rows L2 Kit
def pdI (xs : List Int) : PyData := .list (xs.map PyData.int)
theorem dpAll_int {K : PySem.W.Frag} {H : Hp} : ∀ xs : List Int, DpAll K H (xs.map V.int) (xs.map PyData.int)
  | [] => .nil
  | x :: xs => .cons (.int x) (dpAll_int xs)
theorem dp_int {K : PySem.W.Frag} {H : Hp} {p : Addr} {xs : List Int} (h : H p = some (.lst (xs.map V.int))) : Dp K H (.ref p) (pdI xs) := .lst (seqL_of h) (dpAll_int xs)
theorem plainI (xs : List Int) : (pdI xs).plain = true := by
  unfold pdI PyData.plain
  induction xs with
  | nil => rfl
  | cons l ls ih =>
    rw [List.map_cons]
    unfold PyData.plainAll
    rw [ih]
    rfl
theorem depthAllI (xs : List Int) : PyData.depthAll (xs.map PyData.int) ≤ 1 := by
  induction xs with
  | nil => simp [PyData.depthAll]
  | cons l ls ih =>
    rw [List.map_cons]
    unfold PyData.depthAll
    unfold PyData.depth
    omega
theorem depthI (xs : List Int) : (pdI xs).depth ≤ 64 := by
  unfold pdI PyData.depth
  have := depthAllI xs
  omega
theorem pdI_nil (xs : List Int) : PyData.eqv (pdI xs) (pdI []) = decide (xs = []) := by
  cases xs with
  | nil => rfl
  | cons x xs => rw [decide_eq_false (by intro q; cases q)]; rfl
theorem pdN_nil : PyData.eqv .none (pdI []) = false := rfl
section
variable {P : Program} {w : World} {K : PySem.W.Frag} {mg : Str → Option Value} {base : Heap} {a : Ad}
/-! ### ==, moved, endless_apart -/
theorem mn_mx (t t2 : Int) (m m2 : List Nat) : mn t t2 ≤ mx (t + m.length) (t2 + m2.length) := by unfold mn mx; split <;> split <;> omega
def spEEq (a : Ad) : Sp := fun vs H Q _ => ∃ (p s : Addr) (R C n : Nat) (l m r : List Nat) (t : Int) (y : V), vs = [.ref p, y] ∧ EndAt a H p s R C n l m r t ∧
  ((∃ x, y = .str x ∧ ∀ G, Same H G → Q (.bl false) G) ∨ ∃ (p2 s2 : Addr) (R2 C2 n2 : Nat) (l2 m2 r2 : List Nat) (t2 : Int), y = .ref p2 ∧ EndAt a H p2 s2 R2 C2 n2 l2 m2 r2 t2 ∧
    (¬ (R = R2 ∧ C = C2) → ∀ G, Same H G → Q (.bl false) G) ∧ ((R = R2 ∧ C = C2) → ∀ b, (b = true ↔ ∀ i, wd l m r t i = wd l2 m2 r2 t2 i) → ∀ G, Same H G → Q (.bl b) G))
theorem c_Endless_eq (T : Txt K mg a) : CanM P w K mg base 4 a.Endless "__eq__" (spEEq a) := by
  refine canM_of T.c_Endless.cl T.m_Endless___eq__ sc_Endless___eq__ bd_Endless___eq__ (fun vs H Q E h => ?_) (fun f cdv A outer s0 H vs Q E hr h => ?_)
  · obtain ⟨p, s, R, C, n, l, m, r, t, y, rfl, _⟩ := h
    rfl
  · obtain ⟨p, s, R, C, n, l, m, r, t, y, rfl, e1, z⟩ := h
    refine ⟨_, (pss_one (ps_ret (pe_and (pe_callB (kisi K) (by rfl) T.b_isinstance (by decide +kernel) (pa_cons (pv 1) (pa_cons (pe_glob (v := .ref a.Endless) (by rfl) T.c_Endless.gC rfl) pa_nil))) (pe_and (pe_cmpR (eqO K (c_Scheme_eq T) hr (by decide) T.i_ni T.i_ns) (kfld K (pv 0)) (kfld K (pv 1)) (nomark _)) (pe_one (pe_cmpR (keqP K hr.units) (pc_f (c_apart T) hr (by decide) (by rfl) (pa_cons (pv 0) (pa_cons (pv 1) pa_nil))) (pe_lst pa_nil) (nomark _))))))), ?_⟩
    obtain ⟨dx, hp⟩ := e1.ob
    obtain ⟨sx, hs⟩ := e1.sch.1
    rcases z with ⟨x, rfl, z⟩ | ⟨p2, s2, R2, C2, n2, l2, m2, r2, t2, rfl, e2, z1, z2⟩
    · exact ⟨_, rfl, _, _, _, _, false, rfl, .own _, .base (.str x), T.p_str, _, rfl, iteF (z _ (.refl _))⟩
    · obtain ⟨dx2, hp2⟩ := e2.ob
      obtain ⟨sx2, hs2⟩ := e2.sch.1
      refine ⟨_, rfl, _, _, _, _, true, rfl, .own _, .base (.ins hp2 T.c_Endless.cl T.p_ha T.i_hn T.i_ht T.p_hm), T.p_own, _, rfl, iteT ?_⟩
      refine ⟨_, rfl, p, _, dx, _, _, rfl, hp, T.c_Endless.cl, T.n_scheme, fe_scheme s l m r t, _, rfl, p2, _, dx2, _, _, rfl, hp2, T.c_Endless.cl, T.n_scheme, fe_scheme s2 l2 m2 r2 t2, s, _, _, rfl, hs, .inr (.inr ⟨s2, _, _, rfl, hs2⟩), s, R, C, n, _, rfl, e1.sch, .inr (.inr ⟨s2, R2, C2, n2, rfl, e2.sch, _, rfl, _, rfl, ?_⟩)⟩
      by_cases c : R = R2 ∧ C = C2
      · rw [decide_eq_true c.1, decide_eq_true c.2]
        refine iteT ⟨_, rfl, _, rfl, p, s, p2, s2, R, C, n, R2, C2, n2, l, m, r, l2, m2, r2, t, t2, rfl, e1, e2, fun far G k => ⟨by show 0 ≤ sizeLine; decide, fun b hb => ?_⟩, fun far G q k hq hG => ⟨by show 0 ≤ sizeLine; decide, fun b hb => ?_⟩⟩
        · refine ⟨.none, pdI [], .non, dp_int (xs := []) upd_same, rfl, plainI [], by decide, ?_⟩
          rw [pdN_nil]
          exact z2 c false ⟨nofun, fun h => absurd ((same_iff (mn_mx t t2 m m2)).mp h).1 (fun q => q far)⟩ _ (k.trans (ex_new hb))
        · refine ⟨pdI _, pdI [], dp_int (ex_new hb _ _ hG), dp_int (xs := []) upd_same, plainI _, plainI [], depthI _, ?_⟩
          rw [pdI_nil]
          refine z2 c _ ?_ _ (k.trans (ex_new hb))
          rw [decide_eq_true_iff, same_iff (mn_mx t t2 m m2)]
          exact ⟨fun q => ⟨far, q⟩, fun q => q.2⟩
      · have e : (decide (R = R2) && decide (C = C2)) = false := by
          rw [Bool.and_eq_false_iff]
          by_cases k : R = R2
          · exact .inr (decide_eq_false fun q => c ⟨k, q⟩)
          · exact .inl (decide_eq_false k)
        rw [e]
        exact iteF (z1 c _ (.refl _))
def spAlk (a : Ad) : Sp := fun vs H Q E => ∃ (p s p2 s2 : Addr) (R C n R2 C2 n2 : Nat) (l m r l2 m2 r2 : List Nat) (t t2 : Int), vs = [.ref p, .ref p2] ∧ EndAt a H p s R C n l m r t ∧ EndAt a H p2 s2 R2 C2 n2 l2 m2 r2 t2 ∧
  ((R = R2 ∧ C = C2) → Q .non H) ∧ (¬ (R = R2 ∧ C = C2) → RaZ E a.UnlikeSchemes H)
theorem c_check_alike (T : Txt K mg a) : Can P w K mg base 3 "check_alike" (spAlk a) := by
  refine can_of T.d_check_alike sc_check_alike bd_check_alike (fun vs H Q E h => ?_) (fun f cdv A outer s0 H vs Q E hr h => ?_)
  · obtain ⟨p, s, p2, s2, R, C, n, R2, C2, n2, l, m, r, l2, m2, r2, t, t2, rfl, _⟩ := h
    rfl
  · obtain ⟨p, s, p2, s2, R, C, n, R2, C2, n2, l, m, r, l2, m2, r2, t, t2, rfl, e1, e2, z, y⟩ := h
    refine ⟨_, (pss_one (ps_if (pt_cmpR (neO K (c_Scheme_eq T) hr (by decide) T.n_Scheme) (kfld K (pv 0)) (kfld K (pv 1)) (nomark _)) (pss_one (pr_own0 T.z_UnlikeSchemes (takes_of rfl rfl rfl rfl) (by rfl) (by rfl))) pss_nil)), ?_⟩
    obtain ⟨dx, hp⟩ := e1.ob
    obtain ⟨dx2, hp2⟩ := e2.ob
    obtain ⟨sx, hs⟩ := e1.sch.1
    obtain ⟨sx2, hs2⟩ := e2.sch.1
    refine ⟨_, rfl, p, _, dx, _, _, rfl, hp, T.c_Endless.cl, T.n_scheme, fe_scheme s l m r t, _, rfl, p2, _, dx2, _, _, rfl, hp2, T.c_Endless.cl, T.n_scheme, fe_scheme s2 l2 m2 r2 t2,
      s, _, _, s2, _, _, rfl, hs, rfl, hs2, s, R, C, n, _, rfl, e1.sch, .inr (.inr ⟨s2, R2, C2, n2, rfl, e2.sch, _, rfl, ?_⟩)⟩
    refine ⟨_, rfl, ?_⟩
    by_cases e : R = R2 ∧ C = C2
    · rw [decide_eq_true e.1, decide_eq_true e.2]
      exact iteF (z e)
    · have e1 : (decide (R = R2) && decide (C = C2)) = false := by
        rw [Bool.and_eq_false_iff]
        by_cases k : R = R2
        · exact .inr (decide_eq_false fun q => e ⟨k, q⟩)
        · exact .inl (decide_eq_false k)
      rw [e1]
      exact iteT (y e H (.refl _))
def spEApart (a : Ad) : Sp := fun vs H Q E => ∃ (p s p2 s2 : Addr) (R C n R2 C2 n2 : Nat) (l m r l2 m2 r2 : List Nat) (t t2 : Int), vs = [.ref p, .ref p2] ∧ EndAt a H p s R C n l m r t ∧ EndAt a H p2 s2 R2 C2 n2 l2 m2 r2 t2 ∧
  (¬ (R = R2 ∧ C = C2) → RaZ E a.UnlikeSchemes H) ∧
  ((R = R2 ∧ C = C2) → Far (wd l m r t) (wd l2 m2 r2 t2) (mn t t2) (mx (t + m.length) (t2 + m2.length)) → ∀ G, Same H G → Q .non G) ∧
  ((R = R2 ∧ C = C2) → ¬ Far (wd l m r t) (wd l2 m2 r2 t2) (mn t t2) (mx (t + m.length) (t2 + m2.length)) → ∀ G q, Same H G → H q = none → G q = some (.lst ((difs (wd l m r t) (wd l2 m2 r2 t2) (mn t t2) (mx (t + m.length) (t2 + m2.length) - mn t t2).toNat).map V.int)) → Q (.ref q) G)
theorem c_endless_apart (T : Txt K mg a) : Can P w K mg base 4 "endless_apart" (spEApart a) := by
  refine can_of T.d_endless_apart sc_endless_apart bd_endless_apart (fun vs H Q E h => ?_) (fun f cdv A outer s0 H vs Q E hr h => ?_)
  · obtain ⟨p, s, p2, s2, R, C, n, R2, C2, n2, l, m, r, l2, m2, r2, t, t2, rfl, _⟩ := h
    rfl
  · obtain ⟨p, s, p2, s2, R, C, n, R2, C2, n2, l, m, r, l2, m2, r2, t, t2, rfl, e1, e2, y, z1, z2⟩ := h
    refine ⟨_, (pss_cons (ps_expr (pc_fS (c_check_alike T) (takes_of rfl rfl rfl rfl) hr (by decide) (by rfl) (pa_cons (pv 0) (pa_cons (pv 1) pa_nil))))
      (pss_one (ps_ret (pc_f (c_apart T) hr (by decide) (by rfl) (pa_cons (pv 0) (pa_cons (pv 1) pa_nil)))))), ?_⟩
    refine ⟨_, rfl, _, rfl, p, s, p2, s2, R, C, n, R2, C2, n2, l, m, r, l2, m2, r2, t, t2, rfl, e1, e2, fun c => ?_, fun c => y c⟩
    exact ⟨_, rfl, _, rfl, p, s, p2, s2, R, C, n, R2, C2, n2, l, m, r, l2, m2, r2, t, t2, rfl, e1, e2, z1 c, z2 c⟩
/-- what the constructor asks of its caller, where the parts are good -/
theorem wrongE_ok {n : Nat} {l m r : List Nat} {t : Int} (h : PartOk n l m r t) : wrongE n l m r = none := by
  have il : isLoop n l = true := by unfold isLoop; rw [h.sl, decide_eq_true ⟨h.l0, h.l6⟩]; rfl
  have ir : isLoop n r = true := by unfold isLoop; rw [h.sr, decide_eq_true ⟨h.r0, h.r6⟩]; rfl
  unfold wrongE
  rw [if_neg (by rw [il]; decide), if_neg (by rw [h.sm]; decide), if_neg (by rw [ir]; decide)]
theorem init_end {a : Ad} {H : Hp} {y dx s : Addr} {R C n : Nat} {l m r : List Nat} {t : Int} {Q : V → Hp → Prop} {E : XK} (sch : SchemeAt a.Scheme H s R C n) (ok : PartOk n l m r t) (hy : H y = none) (hdx : H dx = none) (ne : dx ≠ y) (k : ∀ G, Same H G → EndAt a G y s R C n l m r t → Q (.ref y) G) :
    spEInit a (.ref y :: [.ref s, tx l, tx m, tx r] ++ [.int t]) (upd (upd H dx (.own y)) y (.ins a.Endless dx [])) (fun v G => v = .non ∧ Q (.ref y) G) E := by
  have hy2 : upd H dx (.own y) y = none := by rw [upd_ne (Ne.symm ne)]; exact hy
  have s2 : Same H (upd (upd H dx (.own y)) y (.ins a.Endless dx [])) := (ex_new hdx).trans (ex_new hy2)
  have b1 := ok.l6
  have b2 := ok.m1
  have b3 := ok.r6
  refine ⟨y, dx, s, R, C, n, l, m, r, t, rfl, upd_same, sch.mono s2, by omega, by omega, by omega, fun x h => absurd (h.symm.trans (wrongE_ok ok)) nofun, fun _ G hk hG => ⟨rfl, ?_⟩⟩
  have sG : Same H G := fun b o e => hk b o (s2 _ _ e) (ne_of_none e hy)
  exact k G sG ⟨⟨dx, hG⟩, sch.mono sG, ok⟩
def spMoved (a : Ad) : Sp := fun vs H Q _ => ∃ (p s : Addr) (R C n : Nat) (l m r : List Nat) (t b : Int), vs = [.ref p, .int b] ∧ EndAt a H p s R C n l m r t ∧ PartOk n l m r (t - b) ∧ ∀ G q, Same H G → EndAt a G q s R C n l m r (t - b) → Q (.ref q) G
theorem c_Endless_moved (T : Txt K mg a) : CanM P w K mg base 5 a.Endless "moved" (spMoved a) := by
  refine canM_of T.c_Endless.cl T.m_Endless_moved sc_Endless_moved bd_Endless_moved (fun vs H Q E h => ?_) (fun f cdv A outer s0 H vs Q E hr h => ?_)
  · obtain ⟨p, s, R, C, n, l, m, r, t, b, rfl, _⟩ := h
    rfl
  · obtain ⟨p, s, R, C, n, l, m, r, t, b, rfl, e1, ok, z⟩ := h
    refine ⟨_, (pss_one (ps_ret (pc_nK (c_Endless_init T) hr (by decide) (by rfl) (pa_cons (kfld K (pv 0)) (pa_cons (kfld K (pv 0)) (pa_cons (kfld K (pv 0)) (pa_cons (kfld K (pv 0)) pa_nil)))) (pk_cons (pe_op op_sub (kfld K (pv 0)) (pv 1)) pk_nil)))), ?_⟩
    obtain ⟨dx, hp⟩ := e1.ob
    refine ⟨_, rfl, p, _, dx, _, _, rfl, hp, T.c_Endless.cl, T.n_scheme, fe_scheme s l m r t, _, rfl, p, _, dx, _, _, rfl, hp, T.c_Endless.cl, T.n_left, fe_left s l m r t, _, rfl, p, _, dx, _, _, rfl, hp, T.c_Endless.cl, T.n_middle, fe_middle s l m r t, _, rfl, p, _, dx, _, _, rfl, hp, T.c_Endless.cl, T.n_right, fe_right s l m r t, ?_⟩
    refine ⟨_, rfl, p, _, dx, _, _, rfl, hp, T.c_Endless.cl, T.n_start, fe_start s l m r t, _, rfl, t, b, rfl, rfl, rfl, rfl, fun y d hy hd ne => init_end e1.sch ok hy hd ne fun G k e => z G y k e⟩
end
end K40

end
section
set_option Elab.async false
set_option linter.all false
set_option maxRecDepth 100000
set_option maxHeartbeats 4000000
namespace K40
open PySem PySem.Spec PyProof.Rows L2 Kit
/-! ### the source: n more draws -/
theorem free_same {H G : Hp} {q : Addr} (s : Same H G) (h : G q = none) : H q = none := by
  cases e : H q with
  | none => rfl
  | some o =>
    rw [s _ _ e] at h
    cases h
abbrev bx (q : Addr) (i x y z : Int) : HO := .lst [.ref q, .int i, .int x, .int y, .int z]
def BoxAt (n : Nat) (H : Hp) (p : Addr) : Prop := ∃ (q : Addr) (ns : List Int) (i x y z : Int), H p = some (bx q i x y z) ∧ H q = some (.lst (ns.map V.int)) ∧ q ≠ p ∧ 0 ≤ i ∧ 0 ≤ x ∧ 0 ≤ z ∧ z + n ≤ 100000
def Bu (n : Nat) (p : Addr) (H G : Hp) : Prop := (∀ b o, H b = some o → b ≠ p → G b = some o) ∧ BoxAt n G p ∧ ∀ q r, H p = some (.lst (.ref q :: r)) → ∃ r', G p = some (.lst (.ref q :: r'))
theorem BoxAt.mono {n : Nat} {H G : Hp} {p : Addr} (h : BoxAt n H p) (e : Same H G) : BoxAt n G p := let ⟨q, ns, i, x, y, z, h1, h2, r⟩ := h; ⟨q, ns, i, x, y, z, e _ _ h1, e _ _ h2, r⟩
theorem BoxAt.le {n m : Nat} {H : Hp} {p : Addr} (h : BoxAt n H p) (e : m ≤ n) : BoxAt m H p := let ⟨q, ns, i, x, y, z, h1, h2, h3, h4, h5, h6, h7⟩ := h; ⟨q, ns, i, x, y, z, h1, h2, h3, h4, h5, h6, by omega⟩
theorem Bu.trans {n m : Nat} {p : Addr} {H G M : Hp} (h : Bu n p H G) (k : Bu m p G M) : Bu m p H M := ⟨fun b o e hb => k.1 b o (h.1 b o e hb) hb, k.2.1, fun q r e => let ⟨r', e'⟩ := h.2.2 q r e; k.2.2 q r' e'⟩
theorem Bu.same {n : Nat} {p : Addr} {H G M : Hp} (h : Bu n p H G) (k : Same G M) : Bu n p H M := ⟨fun b o e hb => k b o (h.1 b o e hb), h.2.1.mono k, fun q r e => let ⟨r', e'⟩ := h.2.2 q r e; ⟨r', k _ _ e'⟩⟩
theorem same_bu {n : Nat} {p : Addr} {H G M : Hp} (h : Same H G) (k : Bu n p G M) : Bu n p H M := ⟨fun b o e hb => k.1 b o (h b o e) hb, k.2.1, fun q r e => k.2.2 q r (h _ _ e)⟩
theorem Bu.refl {n : Nat} {p : Addr} {H : Hp} (h : BoxAt n H p) : Bu n p H H := ⟨fun _ _ e _ => e, h, fun _ r e => ⟨r, e⟩⟩
theorem Bu.le {n m : Nat} {p : Addr} {H G : Hp} (h : Bu n p H G) (e : m ≤ n) : Bu m p H G := ⟨h.1, h.2.1.le e, h.2.2⟩
theorem Bu.box {n : Nat} {p : Addr} {H G : Hp} (h : Bu n p H G) : BoxAt n G p := h.2.1
theorem box_ne {n : Nat} {p D : Addr} {H : Hp} (h : BoxAt n H p) (hD : H D = none) : D ≠ p := by
  obtain ⟨q, ns, i, x, y, z, hp, _⟩ := h
  intro e
  rw [e, hp] at hD
  cases hD
theorem Bu.put {n k : Nat} {p D : Addr} {H G : Hp} {o : HO} (h : Bu n p H G) (hb : BoxAt k H p) (hD : H D = none) : Bu n p H (upd G D o) := by
  have ne := box_ne hb hD
  obtain ⟨q0, ns0, i0, x0, y0, z0, h0, h1, _⟩ := hb
  obtain ⟨r', e'⟩ := h.2.2 q0 _ h0
  obtain ⟨q, ns, i, x, y, z, hp, hq, r⟩ := h.2.1
  have eq : q = q0 := by
    rw [hp] at e'
    cases e'
    rfl
  have nq : q ≠ D := fun e => by rw [← eq, e, hD] at h1; cases h1
  refine ⟨fun b u e hb => ?_, ⟨q, ns, i, x, y, z, by rw [upd_ne (Ne.symm ne)]; exact hp, by rw [upd_ne nq]; exact hq, r⟩, fun q2 r2 e2 => ?_⟩
  · have nb : b ≠ D := fun q => by rw [q, hD] at e; cases e
    rw [upd_ne nb]
    exact h.1 b u e hb
  · obtain ⟨r3, e3⟩ := h.2.2 q2 r2 e2
    exact ⟨r3, by rw [upd_ne (Ne.symm ne)]; exact e3⟩
theorem same_of_bu {n : Nat} {p : Addr} {H M G : Hp} (h0 : H p = none) (s : Same H M) (h : Bu n p M G) : Same H G := fun b o e => h.1 b o (s b o e) (ne_of_none e h0)
theorem bu_free {n : Nat} {p D : Addr} {H G : Hp} (h : Bu n p H G) (hD : G D = none) : H D = none := by
  cases e : H D with
  | none => rfl
  | some o =>
    by_cases ne : D = p
    · obtain ⟨q, ns, i, x, y, z, hp, _⟩ := h.2.1
      rw [← ne, hD] at hp
      cases hp
    · have := h.1 D o e ne
      rw [hD] at this
      cases this
theorem EndAt.bu {a : Ad} {p s b : Addr} {H G : Hp} {R C n k m' : Nat} {l m r : List Nat} {t : Int} (h : EndAt a H p s R C n l m r t) (hb : BoxAt k H b) (e : Bu m' b H G) : EndAt a G p s R C n l m r t := by
  obtain ⟨q, ns, i, x, y, z, hp, _⟩ := hb
  obtain ⟨dx, ho⟩ := h.ob
  obtain ⟨ds, hs⟩ := h.sch.1
  have n1 : p ≠ b := fun q => by rw [q, hp] at ho; cases ho
  have n2 : s ≠ b := fun q => by rw [q, hp] at hs; cases hs
  exact ⟨⟨dx, e.1 _ _ ho n1⟩, ⟨⟨ds, e.1 _ _ hs n2⟩, h.sch.2⟩, h.ok⟩
theorem SchemeAt.bu {C p s : Addr} {H G : Hp} {r c n k m : Nat} (h : SchemeAt C H s r c n) (hb : BoxAt k H p) (e : Bu m p H G) : SchemeAt C G s r c n := by
  obtain ⟨q, ns, i, x, y, z, hp, _⟩ := hb
  obtain ⟨⟨ds, hs⟩, g⟩ := h
  exact ⟨⟨ds, e.1 _ _ hs (fun q => by rw [q, hp] at hs; cases hs)⟩, g⟩
theorem tup_bu {p q : Addr} {H G : Hp} {xs : List V} {k m : Nat} (h : H q = some (.tup xs)) (hb : BoxAt k H p) (e : Bu m p H G) : G q = some (.tup xs) := by
  obtain ⟨q', ns, i, x, y, z, hp, _⟩ := hb
  exact e.1 _ _ h fun q => by rw [q, hp] at h; cases h
section
variable {P : Program} {w : World} {K : PySem.W.Frag} {mg : Str → Option Value} {base : Heap} {a : Ad}
def spSource (K : PySem.W.Frag) : Sp := fun vs H Q _ => ∃ (b : Addr) (ns : List Int), vs = [.ref b] ∧ SqL K H b (ns.map V.int) ∧ ∀ (q : Addr) (G : Hp), Same H G → H q = none → BoxAt 100000 G q → Q (.ref q) G
theorem c_law_source (T : Txt K mg a) : Can P w K mg base 1 "_law_source" (spSource K) := by
  refine can_of T.d_law_source sc_law_source bd_law_source (fun vs H Q E h => ?_) (fun f cdv A outer s H vs Q E hr h => ?_)
  · obtain ⟨b, ns, rfl, _⟩ := h
    rfl
  · obtain ⟨b, ns, rfl, hs, z⟩ := h
    refine ⟨_, (pss_one (ps_ret (pe_lst (pa_cons (pe_callTy (klist_of K) (by rfl) T.b_list (by decide +kernel) (pa_cons (pv 0) pa_nil)) (pa_cons pe_int (pa_cons pe_int (pa_cons pe_int (pa_cons pe_int pa_nil)))))))), ?_⟩
    refine ⟨_, rfl, b, _, rfl, .inl hs, fun q hq => ⟨by show 5 ≤ sizeLine; decide, fun p hp => ?_⟩⟩
    have ne : q ≠ p := fun e => by rw [← e, upd_same] at hp; cases hp
    refine z p _ ((ex_new hq).trans (ex_new hp)) (free_same (ex_new hq) hp) ⟨q, ns, 0, 0, 0, 0, upd_same, by rw [upd_ne ne]; exact upd_same, ne, by decide, by decide, by decide, by decide⟩
def spDraw : Sp := fun vs H Q _ => ∃ (p : Addr) (m : Int) (n : Nat), vs = [.ref p, .int m] ∧ BoxAt (n + 1) H p ∧ 0 < m ∧ m < 1000000000 ∧ ∀ (d : Int) (G : Hp), 0 ≤ d → d < m → Bu n p H G → Q (.int d) G
theorem c_law_draw (T : Txt K mg a) : Can P w K mg base 1 "_law_draw" spDraw := by
  refine can_of T.d_law_draw sc_law_draw bd_law_draw (fun vs H Q E h => ?_) (fun f cdv A outer s H vs Q E hr h => ?_)
  · obtain ⟨p, m, n, rfl, _⟩ := h
    rfl
  · obtain ⟨p, m, n, rfl, ⟨q, ns, i, x, y, z, hp, hq, nqp, hi, hx, hz, hzn⟩, h0, h1, k⟩ := h
    refine ⟨_, (pss_cons (ps_set (i := 2) sc_law_draw.nd rfl (.inl rfl) (pe_ix (kix_list K) (pv 0) pe_int (fun _ _ => rfl)))
      (C8.pss_cut (ps_if (PW.pt (pw_and (pt_cmpR op_eq (pe_ix (kix_list K) (pv 0) pe_int (fun _ _ => rfl)) pe_int (nomark _)) (pw_and1 (pt_cmpR op_lt (pe_ix (kix_list K) (pv 0) pe_int (fun _ _ => rfl)) (pe_callB (klen_seq K) (by rfl) T.b_len (by decide +kernel) (pa_cons (pv 2) pa_nil)) (nomark _))))) (pss_cons (ps_set (i := 3) sc_law_draw.nd rfl (.inl rfl) (pe_callB call_abs (by rfl) T.b_abs (by decide +kernel) (pa_cons (pe_ix (kix_list K) (pv 2) (pe_ix (kix_list K) (pv 0) pe_int (fun _ _ => rfl)) (fun _ _ => rfl)) pa_nil)))
      (pss_cons (ps_asg (pe_op op_add (pe_ix (kix_list K) (pv 0) pe_int (fun _ _ => rfl)) pe_int) (pg_sub (pv 0) pe_int set_list))
      (pss_cons (ps_asg (pe_op op_modN (pe_callTy call_int1 (by rfl) T.b_int (by decide +kernel) (pa_cons (pe_op op_add (pe_op op_mul (pe_ix (kix_list K) (pv 0) pe_int (fun _ _ => rfl)) pe_int) (pe_op op_mul (pe_op op_modN (pe_callTy call_int1 (by rfl) T.b_int (by decide +kernel) (pa_cons (pv 3) pa_nil)) pe_int) pe_int)) pa_nil)) pe_int) (pg_sub (pv 0) pe_int set_list))
      (pss_one (ps_if (pt_cmpR op_ge (pv 3) (pe_op op_pow pe_int pe_int) (nomark _)) (pss_one (ps_asg (pv 3) (pg_sub (pv 0) pe_int set_list))) pss_nil))))) pss_nil)
      (pss_cons (ps_if (pt_cmpR op_gt (pe_ix (kix_list K) (pv 0) pe_int (fun _ _ => rfl)) pe_int (nomark _)) (pss_cons (ps_set (i := 4) sc_law_draw.nd rfl (.inl rfl) (pe_op op_modN (pe_callTy call_int1 (by rfl) T.b_int (by decide +kernel) (pa_cons (pe_ix (kix_list K) (pv 0) pe_int (fun _ _ => rfl)) pa_nil)) (pv 1)))
      (pss_cons (ps_asg (pe_op op_fdivN (pe_ix (kix_list K) (pv 0) pe_int (fun _ _ => rfl)) (pv 1)) (pg_sub (pv 0) pe_int set_list))
      (pss_one (ps_ret (pv 4))))) pss_nil)
      (pss_cons (ps_asg (pe_op op_add (pe_ix (kix_list K) (pv 0) pe_int (fun _ _ => rfl)) pe_int) (pg_sub (pv 0) pe_int set_list))
      (pss_cons (ps_set (i := 5) sc_law_draw.nd rfl (.inl rfl) (pe_op op_modN (pe_callTy call_int1 (by rfl) T.b_int (by decide +kernel) (pa_cons (pe_op op_mul (pe_ix (kix_list K) (pv 0) pe_int (fun _ _ => rfl)) (pe_op op_add (pe_ix (kix_list K) (pv 0) pe_int (fun _ _ => rfl)) pe_int)) pa_nil)) pe_int))
      (pss_cons (ps_set (i := 6) sc_law_draw.nd rfl (.inl rfl) (pe_op op_modN (pe_callTy call_int1 (by rfl) T.b_int (by decide +kernel) (pa_cons (pe_op op_mul (pv 5) (pv 5)) pa_nil)) pe_int))
      (pss_cons (ps_set (i := 7) sc_law_draw.nd rfl (.inl rfl) (pe_op op_modN (pe_callTy call_int1 (by rfl) T.b_int (by decide +kernel) (pa_cons (pe_op op_add (pe_op op_mul (pv 6) pe_int) (pe_op op_mul (pv 5) (pe_ix (kix_list K) (pv 0) pe_int (fun _ _ => rfl)))) pa_nil)) pe_int))
      (pss_one (ps_ret (pe_op op_modN (pe_callTy call_int1 (by rfl) T.b_int (by decide +kernel) (pa_cons (pe_op op_add (pe_op op_fdivN (pv 7) pe_int) (pe_op op_fdivN (pe_op op_mul (pe_ix (kix_list K) (pv 0) pe_int (fun _ _ => rfl)) (pe_ix (kix_list K) (pv 0) pe_int (fun _ _ => rfl))) pe_int)) pa_nil)) (pv 1))))))))))), ?_⟩
    have e0 : ∀ i x y z : Int, atI [V.ref q, .int i, .int x, .int y, .int z] 0 = some (.ref q) := fun _ _ _ _ => rfl
    have e1 : ∀ i x y z : Int, atI [V.ref q, .int i, .int x, .int y, .int z] 1 = some (.int i) := fun _ _ _ _ => rfl
    have e2 : ∀ i x y z : Int, atI [V.ref q, .int i, .int x, .int y, .int z] 2 = some (.int x) := fun _ _ _ _ => rfl
    have e3 : ∀ i x y z : Int, atI [V.ref q, .int i, .int x, .int y, .int z] 3 = some (.int y) := fun _ _ _ _ => rfl
    have e4 : ∀ i x y z : Int, atI [V.ref q, .int i, .int x, .int y, .int z] 4 = some (.int z) := fun _ _ _ _ => rfl
    have m1 : ∀ u : Int, -(2 ^ 64) < u.fmod 2147483647 ∧ u.fmod 2147483647 < 2 ^ 64 := fun u => ⟨by have := Int.fmod_nonneg_of_pos u (show (0 : Int) < 2147483647 by decide); omega, by have := Int.fmod_lt_of_pos u (show (0 : Int) < 2147483647 by decide); omega⟩
    have lenE : (ns.map V.int).length = ns.length := List.length_map ..
    refine ⟨_, rfl, p, _, 0, _, rfl, rfl, seqL_of hp, e0 _ _ _ _, ?_⟩
    refine ⟨fun σ G => ∃ (i x y : Int) (c : Option V), (∀ b o, H b = some o → b ≠ p → G b = some o) ∧ G p = some (bx q i x y z) ∧ 0 ≤ i ∧ 0 ≤ x ∧ σ = [some (.ref p), some (.int m), some (.ref q), c, none, none, none, none], ?_, ?_⟩
    · refine ⟨_, rfl, p, _, 2, _, rfl, rfl, seqL_of hp, e2 _ _ _ _, rfl, _, rfl, ?_⟩
      refine ite2 (fun c1 => ?_) (fun c1 => ?_)
      · refine ⟨_, rfl, p, _, 1, _, rfl, rfl, seqL_of hp, e1 _ _ _ _, _, rfl, q, _, rfl, .inl (seqL_of hq), _, _, rfl, rfl, _, rfl, ?_⟩
        rw [lenE]
        refine ite2 (fun c2 => ?_) (fun c2 => ?_)
        · have c2 := of_decide_eq_true c2
          have hk' : i.toNat < ns.length := by omega
          have hix : atI (ns.map V.int) i = some (.int ns[i.toNat]) := by
            have e := atI_nat (xs := ns.map V.int) (j := i.toNat) (v := .int ns[i.toNat]) (by rw [List.getElem?_map, List.getElem?_eq_getElem hk']; rfl)
            rwa [show ((i.toNat : Nat) : Int) = i by omega] at e
          refine ⟨_, rfl, _, rfl, p, _, 1, _, rfl, rfl, seqL_of hp, e1 _ _ _ _, q, _, _, _, rfl, rfl, seqL_of hq, hix, ns[i.toNat], rfl, ?_⟩
          have hc0 : 0 ≤ (if ns[i.toNat] < 0 then -ns[i.toNat] else ns[i.toNat]) := by split <;> omega
          generalize (if ns[i.toNat] < 0 then -ns[i.toNat] else ns[i.toNat]) = c at hc0 ⊢
          refine ⟨_, rfl, p, _, 1, _, rfl, rfl, seqL_of hp, e1 _ _ _ _, i, 1, rfl, rfl, _, rfl, p, _, 1, 1, rfl, rfl, hp, rfl, ?_⟩
          have hp2 : upd H p (bx q (i + 1) x y z) p = some (bx q (i + 1) x y z) := upd_same
          refine ⟨_, rfl, p, _, 3, _, rfl, rfl, seqL_of hp2, e3 _ _ _ _, _, _, rfl, rfl, .inr (by decide), _, rfl, .inl ⟨_, rfl, _, _, rfl, rfl, (by decide : (2147483647 : Int) ≠ 0), _, _, rfl, rfl, .inr (by decide), ?_⟩⟩
          refine ⟨_, _, rfl, rfl, .inl ⟨_, rfl, _, _, rfl, rfl, (by decide : (2147483647 : Int) ≠ 0), _, rfl, p, _, 3, 3, rfl, rfl, hp2, rfl, ?_⟩⟩
          refine ⟨_, rfl, _, _, rfl, rfl, ⟨by decide, by decide, by decide⟩, _, _, rfl, rfl, _, rfl, ?_⟩
          have keep : ∀ x' y' : Int, ∀ b o, H b = some o → b ≠ p → (upd (upd (upd H p (bx q (i + 1) x y z)) p (bx q (i + 1) x y' z)) p (bx q (i + 1) x' y' z)) b = some o := fun x' y' b o e hb => by rw [upd_ne hb, upd_ne hb, upd_ne hb]; exact e
          refine ite2 (fun c3 => ?_) (fun c3 => ?_)
          · refine ⟨_, rfl, _, rfl, p, _, 2, 2, rfl, rfl, upd_same, rfl, ?_⟩
            exact ⟨i + 1, c, _, _, keep _ _, upd_same, by omega, hc0, rfl⟩
          · exact ⟨i + 1, x, _, _, fun b o e hb => by rw [upd_ne hb, upd_ne hb]; exact e, upd_same, by omega, hx, rfl⟩
        · exact ⟨i, x, y, _, fun _ _ e _ => e, hp, hi, hx, rfl⟩
      · exact ⟨i, x, y, _, fun _ _ e _ => e, hp, hi, hx, rfl⟩
    · rintro σ G ⟨i, x, y, c, kp, hG, hi, hx, rfl⟩
      have fin : ∀ (i x y z' d : Int) (G' : Hp), (∀ b o, G b = some o → b ≠ p → G' b = some o) → G' p = some (bx q i x y z') → 0 ≤ i → 0 ≤ x → 0 ≤ z' → z' ≤ z + 1 → 0 ≤ d → d < m → Q (.int d) G' := fun i x y z' d G' k' hG' g1 g2 g3 g4 g5 g6 =>
        k d G' g5 g6 ⟨fun b o e hb => k' b o (kp b o e hb) hb, ⟨q, ns, i, x, y, z', hG', k' _ _ (kp _ _ hq nqp) nqp, nqp, g1, g2, g3, by omega⟩, fun q2 r2 e2 => by rw [hp] at e2; cases e2; exact ⟨_, hG'⟩⟩
      refine ⟨_, rfl, p, _, 2, _, rfl, rfl, seqL_of hG, e2 _ _ _ _, _, _, rfl, rfl, _, rfl, ?_⟩
      refine ite2 (fun hx0 => ?_) (fun hx0 => ?_)
      · refine ⟨_, rfl, p, _, 2, _, rfl, rfl, seqL_of hG, e2 _ _ _ _, .inl ⟨_, rfl, _, rfl, _, m, rfl, rfl, by omega, ?_⟩⟩
        refine ⟨_, rfl, p, _, 2, _, rfl, rfl, seqL_of hG, e2 _ _ _ _, _, rfl, x, m, rfl, rfl, ⟨by omega, by omega⟩, _, rfl, p, _, 2, 2, rfl, rfl, hG, rfl, ?_⟩
        exact ⟨_, rfl, fin i (x.fdiv m) y z _ _ (fun b o e hb => by rw [upd_ne hb]; exact e) upd_same hi (Int.fdiv_nonneg hx (by omega)) hz (by omega) (Int.fmod_nonneg_of_pos _ h0) (Int.fmod_lt_of_pos _ h0)⟩
      · refine ⟨_, rfl, p, _, 4, _, rfl, rfl, seqL_of hG, e4 _ _ _ _, z, 1, rfl, rfl, _, rfl, p, _, 4, 4, rfl, rfl, hG, rfl, ?_⟩
        have hp2 : upd G p (bx q i x y (z + 1)) p = some (bx q i x y (z + 1)) := upd_same
        refine ⟨_, rfl, p, _, 3, _, rfl, rfl, seqL_of hp2, e3 _ _ _ _, _, rfl, p, _, 4, _, rfl, rfl, seqL_of hp2, e4 _ _ _ _, _, _, rfl, rfl, _, _, rfl, rfl, .inr ⟨by omega, by omega⟩, .inl ⟨_, rfl, _, _, rfl, rfl, (by decide : (2147483647 : Int) ≠ 0), ?_⟩⟩
        have m2 : ∀ u : Int, -(2 ^ 64) < u.fmod 2147483629 ∧ u.fmod 2147483629 < 2 ^ 64 := fun u => ⟨by have := Int.fmod_nonneg_of_pos u (show (0 : Int) < 2147483629 by decide); omega, by have := Int.fmod_lt_of_pos u (show (0 : Int) < 2147483629 by decide); omega⟩
        refine ⟨_, rfl, _, rfl, _, _, rfl, rfl, .inl (m1 _), .inl ⟨_, rfl, _, _, rfl, rfl, (by decide : (2147483629 : Int) ≠ 0), ?_⟩⟩
        refine ⟨_, rfl, _, _, rfl, rfl, .inr ⟨by decide, by decide⟩, _, rfl, _, rfl, p, _, 4, _, rfl, rfl, seqL_of hp2, e4 _ _ _ _, _, _, rfl, rfl, .inl (m1 _), _, _, rfl, rfl, .inl ⟨_, rfl, _, _, rfl, rfl, (by decide : (2147483587 : Int) ≠ 0), ?_⟩⟩
        refine ⟨_, rfl, _, _, rfl, rfl, ⟨by decide, by decide⟩, _, rfl, p, _, 4, _, rfl, rfl, seqL_of hp2, e4 _ _ _ _, _, rfl, p, _, 4, _, rfl, rfl, seqL_of hp2, e4 _ _ _ _, _, _, rfl, rfl, .inl ⟨by omega, by omega⟩, _, _, rfl, rfl, ⟨by decide, by decide⟩, _, _, rfl, rfl, .inl ⟨_, rfl, _, rfl, _, m, rfl, rfl, by omega, ?_⟩⟩
        exact fin i x y (z + 1) _ _ (fun b o e hb => by rw [upd_ne hb]; exact e) upd_same hi hx (by omega) (by omega) (Int.fmod_nonneg_of_pos _ h0) (Int.fmod_lt_of_pos _ h0)
end
end K40

end
section
set_option Elab.async false
set_option linter.all false
set_option maxRecDepth 100000
set_option maxHeartbeats 4000000
namespace K40
open PySem PySem.Spec PyProof.Rows L2 Kit
theorem lit_c2 : Str.ofString "ab" = S (cols 2) := by decide +kernel
theorem lit_c3 : Str.ofString "abc" = S (cols 3) := by decide +kernel
theorem lit_c4 : Str.ofString "abcd" = S (cols 4) := by decide +kernel
theorem lit_c8 : Str.ofString "abcdefgh" = S (cols 8) := by decide +kernel
theorem lit_c9 : Str.ofString "abcdefghi" = S (cols 9) := by decide +kernel
theorem cols_in {n k : Nat} (h : k < n) : inCol n (97 + k) = true := by
  rw [← beq_col]
  refine decide_eq_true (List.mem_map.mpr ⟨k, List.mem_range.mpr h, rfl⟩)
theorem cols_ln (n : Nat) : (S (cols n)).length = n := by rw [S_len, cols_len]
theorem pick12 {d : Int} (h0 : 0 ≤ d) (h1 : d < 12) : ∃ k : Nat, k < 5 ∧ atI [V.int 0, .int 0, .int 0, .int 0, .int 0, .int 0, .int 1, .int 1, .int 2, .int 2, .int 3, .int 4] d = some (.int k) := by
  obtain ⟨j, rfl⟩ := Int.eq_ofNat_of_zero_le h0
  have hj : j < 12 := by omega
  match j, hj with
  | 0, _ => exact ⟨0, by decide, rfl⟩
  | 1, _ => exact ⟨0, by decide, rfl⟩
  | 2, _ => exact ⟨0, by decide, rfl⟩
  | 3, _ => exact ⟨0, by decide, rfl⟩
  | 4, _ => exact ⟨0, by decide, rfl⟩
  | 5, _ => exact ⟨0, by decide, rfl⟩
  | 6, _ => exact ⟨1, by decide, rfl⟩
  | 7, _ => exact ⟨1, by decide, rfl⟩
  | 8, _ => exact ⟨2, by decide, rfl⟩
  | 9, _ => exact ⟨2, by decide, rfl⟩
  | 10, _ => exact ⟨3, by decide, rfl⟩
  | 11, _ => exact ⟨4, by decide, rfl⟩
section
variable {P : Program} {w : World} {K : PySem.W.Frag} {mg : Str → Option Value} {base : Heap} {a : Ad}
def spStrip : Sp := fun vs H Q _ => ∃ (p : Addr) (N m k : Nat), vs = [.ref p, tx (cols N), .int m] ∧ BoxAt (k + m) H p ∧ m ≤ 100 ∧ 2 ≤ N ∧ N ≤ 9 ∧ ∀ G l, Bu k p H G → l.length = m → isStrip N l = true → Q (tx l) G
theorem c_law_strip (T : Txt K mg a) : Can P w K mg base 2 "_law_strip" spStrip := by
  refine can_of T.d_law_strip sc_law_strip bd_law_strip (fun vs H Q E h => ?_) (fun f cdv A outer s H vs Q E hr h => ?_)
  · obtain ⟨p, N, m, k, rfl, _⟩ := h
    rfl
  · obtain ⟨p, N, m, k, rfl, hb, hm, N2, N9, z⟩ := h
    refine ⟨_, (pss_one (ps_ret (kjoin K pe_str (pe_lc (own := [("k", 3)]) (g := gName 3) (tt := tYes) (by rfl) sc_law_strip.nd (pi_range1 (by rfl) T.b_range (pa_cons (pv 2) pa_nil)) (blkOk_by (N := N_law_strip) (sc := defScope s_law_strip) (by decide +kernel)) (fun _ _ _ _ _ => (pg_name (i := 3) sc_law_strip.nd rfl (.inl rfl))) (fun _ _ _ _ _ => pts_nil) (fun _ _ _ _ _ => (pe_ix ix_str (pv 1) (pc_f (c_law_draw T) hr (by decide) (by rfl) (pa_cons (pv 0) (pa_cons (pe_callB call_len_str (by rfl) T.b_len (by decide +kernel) (pa_cons (pv 1) pa_nil)) pa_nil))) (fun _ _ => rfl))))))), ?_⟩
    refine ⟨⟨_, rfl⟩, _, rfl, m, rfl, by omega, by omega, fun D hD => ?_⟩
    refine lc_it (walk_range (lo := 0) (n := ((m : Nat) : Int).toNat)) (fun i G => ∃ l : List Nat, l.length = i ∧ isStrip N l = true ∧ G D = some (.lst (l.map fun x => tx [x])) ∧ Bu (k + (m - i)) p H G) ⟨[], rfl, rfl, upd_same, (Bu.refl hb).put hb hD⟩ (fun _ _ _ _ => True.intro) ?_ ?_
    · rintro i x G G' hi ⟨l, hl, hst, hGD, bu⟩ ⟨rfl, rfl⟩
      have hi : i < m := hi
      refine ⟨rfl, ?_⟩
      unfold tYes
      dsimp only
      rw [if_pos rfl]
      refine ⟨_, rfl, _, rfl, _, rfl, _, rfl, by rw [cols_ln]; exact szl (by omega), p, _, k + (m - (i + 1)), rfl, bu.box.le (by omega), by rw [cols_ln]; omega, by rw [cols_ln]; omega, fun d G2 d0 d1 bu2 => ?_⟩
      rw [cols_ln] at d1
      have hGD2 := bu2.1 D _ hGD (box_ne hb hD)
      have hc : atI (S (cols N)).cps.toList d = some (97 + d.toNat) := by
        have := cols_at (n := N) (k := d.toNat) (by omega)
        rwa [show ((d.toNat : Nat) : Int) = d by omega] at this
      refine ⟨_, _, 97 + d.toNat, rfl, rfl, by rw [cols_ln]; exact szl (by omega), hc, ?_⟩
      refine ⟨_, hGD2, by rw [List.length_map]; exact szlt (by omega), l ++ [97 + d.toNat], by rw [List.length_append, hl]; rfl, ?_, ?_, (bu.trans bu2).put hb hD⟩
      · unfold isStrip at hst ⊢
        rw [List.all_append, hst, Bool.true_and, List.all_cons, List.all_nil, Bool.and_true]
        exact cols_in (by omega)
      · rw [upd_same, List.map_append]
        rfl
    · rintro G ⟨l, hl, hst, hGD, bu⟩
      have hl : l.length = m := hl
      refine ⟨_, _, l.map fun y => S [y], rfl, rfl, .inl (seqL_of (by rw [List.map_map]; exact hGD)), ?_, ?_⟩
      · rw [sum_ones, lit_e, S_len, List.length_map, hl]
        exact szl (by show _ + _ * 0 ≤ _; omega)
      · rw [join_win]
        exact z G l (bu.le (by omega)) hl hst
def spShape : Sp := fun vs H Q _ => ∃ (p : Addr) (n : Nat), vs = [.ref p] ∧ BoxAt (n + 1) H p ∧ ∀ (G : Hp) (q : Addr) (R C N : Nat), Bu n p H G → G q = some (.tup [.int (R : Nat), .int (C : Nat), tx (cols N)]) → Good R C N → Q (.ref q) G
theorem c_law_shape (T : Txt K mg a) : Can P w K mg base 2 "_law_shape" spShape := by
  refine can_of T.d_law_shape sc_law_shape bd_law_shape (fun vs H Q E h => ?_) (fun f cdv A outer s H vs Q E hr h => ?_)
  · obtain ⟨p, n, rfl, _⟩ := h
    rfl
  · obtain ⟨p, n, rfl, hb, z⟩ := h
    refine ⟨_, (pss_cons (ps_set (i := 1) sc_law_shape.nd rfl (.inl rfl) (pe_ix (kix_list K) (pe_lst (pa_cons pe_int (pa_cons pe_int (pa_cons pe_int (pa_cons pe_int (pa_cons pe_int (pa_cons pe_int (pa_cons pe_int (pa_cons pe_int (pa_cons pe_int (pa_cons pe_int (pa_cons pe_int (pa_cons pe_int pa_nil))))))))))))) (pc_f (c_law_draw T) hr (by decide) (by rfl) (pa_cons (pv 0) (pa_cons pe_int pa_nil))) (fun _ _ => rfl)))
      (pss_one (ps_ret (pe_ix (kix_list K) (pe_lst (pa_cons (pe_tup (pa_cons pe_int (pa_cons pe_int (pa_cons pe_str pa_nil)))) (pa_cons (pe_tup (pa_cons pe_int (pa_cons pe_int (pa_cons pe_str pa_nil)))) (pa_cons (pe_tup (pa_cons pe_int (pa_cons pe_int (pa_cons pe_str pa_nil)))) (pa_cons (pe_tup (pa_cons pe_int (pa_cons pe_int (pa_cons pe_str pa_nil)))) (pa_cons (pe_tup (pa_cons pe_int (pa_cons pe_int (pa_cons pe_str pa_nil)))) pa_nil)))))) (pv 1) (fun _ _ => rfl))))), ?_⟩
    rw [lit_c2, lit_c3, lit_c4, lit_c8, lit_c9]
    refine ⟨by show 12 ≤ sizeLine; decide, fun q hq => ?_⟩
    have b0 := (Bu.refl hb).put hb hq (o := .lst [V.int 0, .int 0, .int 0, .int 0, .int 0, .int 0, .int 1, .int 1, .int 2, .int 2, .int 3, .int 4])
    refine ⟨_, rfl, p, 12, n, rfl, b0.box, by decide, by decide, fun d G d0 d1 b1 => ?_⟩
    obtain ⟨k, hk, hix⟩ := pick12 d0 d1
    refine ⟨q, _, d, _, rfl, rfl, seqL_of (b1.1 _ _ upd_same (box_ne hb hq)), hix, ?_⟩
    have b2 := b0.trans b1
    refine ⟨by show 3 ≤ sizeLine; decide, fun t0 h0 => ?_⟩
    have u0 := b2.put hb (bu_free b2 h0) (o := .tup [.int 1, .int 2, tx (cols 2)])
    refine ⟨by show 3 ≤ sizeLine; decide, fun t1 h1 => ?_⟩
    have u1 := u0.put hb (bu_free u0 h1) (o := .tup [.int 1, .int 3, tx (cols 3)])
    refine ⟨by show 3 ≤ sizeLine; decide, fun t2 h2 => ?_⟩
    have u2 := u1.put hb (bu_free u1 h2) (o := .tup [.int 2, .int 2, tx (cols 4)])
    refine ⟨by show 3 ≤ sizeLine; decide, fun t3 h3 => ?_⟩
    have u3 := u2.put hb (bu_free u2 h3) (o := .tup [.int 3, .int 2, tx (cols 8)])
    refine ⟨by show 3 ≤ sizeLine; decide, fun t4 h4 => ?_⟩
    have u4 := u3.put hb (bu_free u3 h4) (o := .tup [.int 2, .int 3, tx (cols 9)])
    refine ⟨by show 5 ≤ sizeLine; decide, fun t5 h5 => ?_⟩
    have u5 := u4.put hb (bu_free u4 h5) (o := .lst [.ref t0, .ref t1, .ref t2, .ref t3, .ref t4])
    have e5 := ex_new h5 (o := .lst [.ref t0, .ref t1, .ref t2, .ref t3, .ref t4])
    have e4 := ex_new h4 (o := .tup [.int 2, .int 3, tx (cols 9)])
    have e3 := ex_new h3 (o := .tup [.int 3, .int 2, tx (cols 8)])
    have e2 := ex_new h2 (o := .tup [.int 2, .int 2, tx (cols 4)])
    have e1 := ex_new h1 (o := .tup [.int 1, .int 3, tx (cols 3)])
    match k, hk with
    | 0, _ => exact ⟨_, rfl, t5, _, 0, _, rfl, rfl, seqL_of upd_same, rfl, z _ t0 1 2 2 u5 (e5 _ _ (e4 _ _ (e3 _ _ (e2 _ _ (e1 _ _ upd_same))))) (by decide)⟩
    | 1, _ => exact ⟨_, rfl, t5, _, 1, _, rfl, rfl, seqL_of upd_same, rfl, z _ t1 1 3 3 u5 (e5 _ _ (e4 _ _ (e3 _ _ (e2 _ _ upd_same)))) (by decide)⟩
    | 2, _ => exact ⟨_, rfl, t5, _, 2, _, rfl, rfl, seqL_of upd_same, rfl, z _ t2 2 2 4 u5 (e5 _ _ (e4 _ _ (e3 _ _ upd_same))) (by decide)⟩
    | 3, _ => exact ⟨_, rfl, t5, _, 3, _, rfl, rfl, seqL_of upd_same, rfl, z _ t3 3 2 8 u5 (e5 _ _ (e4 _ _ upd_same)) (by decide)⟩
    | 4, _ => exact ⟨_, rfl, t5, _, 4, _, rfl, rfl, seqL_of upd_same, rfl, z _ t4 2 3 9 u5 (e5 _ _ upd_same) (by decide)⟩
abbrev tpl (l m r : List Nat) (t : Int) : HO := .tup [tx l, tx m, tx r, .int t]
def spLCol : Sp := fun vs H Q _ => ∃ (q : Addr) (n : Nat) (l m r : List Nat) (t i : Int), vs = [.ref q, .int i] ∧ H q = some (tpl l m r t) ∧ PartOk n l m r t ∧ Q (tx [wd l m r t i]) H
theorem c_law_column (T : Txt K mg a) : Can P w K mg base 1 "_law_column" spLCol := by
  refine can_of T.d_law_column sc_law_column bd_law_column (fun vs H Q E h => ?_) (fun f cdv A outer s0 H vs Q E hr h => ?_)
  · obtain ⟨q, n, l, m, r, t, i, rfl, _⟩ := h
    rfl
  · obtain ⟨q, n, l, m, r, t, i, rfl, hq, ok, z⟩ := h
    refine ⟨_, (pss_cons (ps_asg (pv 0) (pg_tup rfl (pgs_cons (pg_name (i := 2) sc_law_column.nd rfl (.inl rfl)) (pgs_cons (pg_name (i := 3) sc_law_column.nd rfl (.inl rfl)) (pgs_cons (pg_name (i := 4) sc_law_column.nd rfl (.inl rfl)) (pgs_cons (pg_name (i := 5) sc_law_column.nd rfl (.inl rfl)) pgs_nil))))))
      (pss_cons (ps_set (i := 6) sc_law_column.nd rfl (.inl rfl) (pe_op op_sub (pv 1) (pv 5)))
      (pss_cons (ps_if (pt_cmpR op_lt (pv 6) pe_int (nomark _)) (pss_one (ps_ret (pe_ix ix_str (pv 2) (pe_op op_modN (pe_callTy call_int1 (by rfl) T.b_int (by decide +kernel) (pa_cons (pv 6) pa_nil)) (pe_callB call_len_str (by rfl) T.b_len (by decide +kernel) (pa_cons (pv 2) pa_nil))) (fun _ _ => rfl)))) pss_nil)
      (pss_cons (ps_if (pt_cmpR op_lt (pv 6) (pe_callB call_len_str (by rfl) T.b_len (by decide +kernel) (pa_cons (pv 3) pa_nil)) (nomark _)) (pss_one (ps_ret (pe_ix ix_str (pv 3) (pv 6) (fun _ _ => rfl)))) pss_nil)
      (pss_one (ps_ret (pe_ix ix_str (pv 4) (pe_op op_modN (pe_callTy call_int1 (by rfl) T.b_int (by decide +kernel) (pa_cons (pe_op op_sub (pv 6) (pe_callB call_len_str (by rfl) T.b_len (by decide +kernel) (pa_cons (pv 3) pa_nil))) pa_nil)) (pe_callB call_len_str (by rfl) T.b_len (by decide +kernel) (pa_cons (pv 4) pa_nil))) (fun _ _ => rfl)))))))), ?_⟩
    have l0 := ok.l0
    have l6 := ok.l6
    have r0 := ok.r0
    have r6 := ok.r6
    have m1 := ok.m1
    have sz : ∀ {x : List Nat}, x.length ≤ 1000 → (S x).length ≤ sizeLine := fun h => by rw [S_len]; exact szl (by omega)
    refine ⟨_, rfl, q, _, rfl, seqT_of hq, rfl, _, _, rfl, _, _, rfl, _, _, rfl, _, _, rfl, rfl, ?_⟩
    refine ⟨_, rfl, _, rfl, _, _, rfl, rfl, _, rfl, _, _, rfl, rfl, _, rfl, ?_⟩
    by_cases c1 : i - t < 0
    · rw [decide_eq_true c1]
      refine iteT ⟨_, rfl, _, rfl, .inl ⟨_, rfl, _, rfl, _, rfl, sz (by omega), _, _, rfl, rfl, by rw [S_len]; omega, ?_⟩⟩
      rw [S_len]
      refine ⟨_, _, wd l m r t i, rfl, rfl, sz (by omega), ?_, z⟩
      rw [mod_at l0]
      unfold wd
      rw [col_neg c1]
    · rw [decide_eq_false c1]
      refine iteF ⟨_, rfl, _, rfl, _, rfl, sz (by omega), _, _, rfl, rfl, _, rfl, ?_⟩
      rw [S_len]
      by_cases c2 : i - t < (m.length : Int)
      · rw [decide_eq_true c2]
        exact iteT ⟨_, rfl, _, rfl, _, _, wd l m r t i, rfl, rfl, sz (by omega), col_mid c1 c2, z⟩
      · rw [decide_eq_false c2]
        refine iteF ⟨_, rfl, _, rfl, _, rfl, _, rfl, sz (by omega), _, _, rfl, rfl, .inl ⟨_, rfl, _, rfl, _, rfl, sz (by omega), _, _, rfl, rfl, by show ((S r).length : Int) ≠ 0; rw [S_len]; omega, ?_⟩⟩
        rw [S_len, S_len]
        refine ⟨_, _, wd l m r t i, rfl, rfl, sz (by omega), ?_, z⟩
        rw [mod_at r0]
        unfold wd
        rw [col_pos c1 c2]
def spLText : Sp := fun vs H Q _ => ∃ (q : Addr) (n : Nat) (l m r : List Nat) (t b e : Int), vs = [.ref q, .int b, .int e] ∧ H q = some (tpl l m r t) ∧ PartOk n l m r t ∧ -20000 ≤ b ∧ b ≤ 20000 ∧ -20000 ≤ e ∧ e ≤ 20000 ∧ ∀ G, Same H G → Q (tx (win (wd l m r t) b (e - b).toNat)) G
theorem c_law_text (T : Txt K mg a) : Can P w K mg base 2 "_law_text" spLText := by
  refine can_of T.d_law_text sc_law_text bd_law_text (fun vs H Q E h => ?_) (fun f cdv A outer s0 H vs Q E hr h => ?_)
  · obtain ⟨q, n, l, m, r, t, b, e, rfl, _⟩ := h
    rfl
  · obtain ⟨q, n, l, m, r, t, b, e, rfl, hq, ok, b1, b2, b3, b4, z⟩ := h
    refine ⟨_, (pss_one (ps_ret (kjoin K pe_str (pe_lc (own := [("index", 3)]) (g := gName 3) (tt := tYes) (by rfl) sc_law_text.nd (pi_range2 (by rfl) T.b_range (pa_cons (pv 1) (pa_cons (pv 2) pa_nil))) (blkOk_by (N := N_law_text) (sc := defScope s_law_text) (by decide +kernel)) (fun _ _ _ _ _ => (pg_name (i := 3) sc_law_text.nd rfl (.inl rfl))) (fun _ _ _ _ _ => pts_nil) (fun _ _ _ _ _ => (pc_f (c_law_column T) hr (by decide) (by rfl) (pa_cons (pv 0) (pa_cons (pv 3) pa_nil)))))))), ?_⟩
    refine ⟨⟨_, rfl⟩, _, rfl, _, rfl, b, e, rfl, by omega, fun D hD => ?_⟩
    refine lc_one (walk_range (lo := b) (n := (e - b).toNat)) ((win (wd l m r t) b (e - b).toNat).map fun x => tx [x]) (by rw [List.length_map, win_len]) (by omega) hD (fun _ _ => True.intro) ?_ ?_
    · rintro i x G G' v hi s1 ⟨rfl, rfl⟩ hv
      rw [List.getElem?_map, win_at hi] at hv
      cases hv
      exact ⟨.refl _, fun Q' k => ⟨_, rfl, _, rfl, q, n, l, m, r, t, _, rfl, s1 _ _ hq, ok, k _ (.refl _)⟩⟩
    · intro G s1 hG
      refine ⟨_, _, (win (wd l m r t) b (e - b).toNat).map fun y => S [y], rfl, rfl, .inl (seqL_of (by rw [List.map_map]; exact hG)), ?_, ?_⟩
      · rw [sum_ones, win_len, lit_e, S_len, List.length_map, win_len]
        exact szl (by show _ + _ * 0 ≤ _; omega)
      · rw [join_win]
        exact z G s1
def spLMade (a : Ad) : Sp := fun vs H Q _ => ∃ (s q : Addr) (R C n : Nat) (l m r : List Nat) (t : Int), vs = [.ref s, .ref q] ∧ SchemeAt a.Scheme H s R C n ∧ H q = some (tpl l m r t) ∧ PartOk n l m r t ∧ ∀ G y, Same H G → EndAt a G y s R C n l m r t → Q (.ref y) G
theorem c_law_made (T : Txt K mg a) : Can P w K mg base 5 "_law_made" (spLMade a) := by
  refine can_of T.d_law_made sc_law_made bd_law_made (fun vs H Q E h => ?_) (fun f cdv A outer s0 H vs Q E hr h => ?_)
  · obtain ⟨s, q, R, C, n, l, m, r, t, rfl, _⟩ := h
    rfl
  · obtain ⟨s, q, R, C, n, l, m, r, t, rfl, sch, hq, ok, z⟩ := h
    refine ⟨_, (pss_one (ps_ret (pc_nK (c_Endless_init T) hr (by decide) (by rfl) (pa_cons (pv 0) (pa_cons (pe_ix (kix_tup K) (pv 1) pe_int (fun _ _ => rfl)) (pa_cons (pe_ix (kix_tup K) (pv 1) pe_int (fun _ _ => rfl)) (pa_cons (pe_ix (kix_tup K) (pv 1) pe_int (fun _ _ => rfl)) pa_nil)))) (pk_cons (pe_ix (kix_tup K) (pv 1) pe_int (fun _ _ => rfl)) pk_nil)))), ?_⟩
    exact ⟨_, rfl, _, rfl, q, _, 0, _, rfl, rfl, seqT_of hq, rfl, _, rfl, q, _, 1, _, rfl, rfl, seqT_of hq, rfl, _, rfl, q, _, 2, _, rfl, rfl, seqT_of hq, rfl, _, rfl, q, _, 3, _, rfl, rfl, seqT_of hq, rfl, rfl, rfl, fun y d hy hd ne => init_end sch ok hy hd ne fun G k e => z G y k e⟩
end
end K40

end
section
set_option Elab.async false
set_option linter.all false
set_option maxRecDepth 100000
set_option maxHeartbeats 4000000
namespace K40
open PySem PySem.Spec PyProof.Rows L2 Kit
section
variable {P : Program} {w : World} {K : PySem.W.Frag} {mg : Str → Option Value} {base : Heap} {a : Ad}
def spParts : Sp := fun vs H Q _ => ∃ (p : Addr) (N n : Nat), vs = [.ref p, tx (cols N)] ∧ BoxAt (n + 60) H p ∧ 2 ≤ N ∧ N ≤ 9 ∧ ∀ (G : Hp) (q : Addr) (l m r : List Nat) (t : Int), Bu n p H G → G q = some (tpl l m r t) → PartOk N l m r t → m.length ≤ 40 → -310 ≤ t → t ≤ 310 → Q (.ref q) G
theorem c_law_parts (T : Txt K mg a) : Can P w K mg base 3 "_law_parts" spParts := by
  refine can_of T.d_law_parts sc_law_parts bd_law_parts (fun vs H Q E h => ?_) (fun f cdv A outer s H vs Q E hr h => ?_)
  · obtain ⟨p, N, n, rfl, _⟩ := h
    rfl
  · obtain ⟨p, N, n, rfl, hb, N2, N9, z⟩ := h
    refine ⟨_, (pss_cons (ps_set (i := 2) sc_law_parts.nd rfl (.inl rfl) (pc_f (c_law_draw T) hr (by decide) (by rfl) (pa_cons (pv 0) (pa_cons pe_int pa_nil))))
      (C8.pss_cut (ps_if (pt_cmpR op_eq (pc_f (c_law_draw T) hr (by decide) (by rfl) (pa_cons (pv 0) (pa_cons pe_int pa_nil))) pe_int (nomark _)) (pss_one (ps_set (i := 2) sc_law_parts.nd rfl (.inl rfl) (pc_f (c_law_draw T) hr (by decide) (by rfl) (pa_cons (pv 0) (pa_cons pe_int pa_nil))))) pss_nil)
      (pss_cons (ps_set (i := 3) sc_law_parts.nd rfl (.inl rfl) (pe_op op_sub (pc_f (c_law_draw T) hr (by decide) (by rfl) (pa_cons (pv 0) (pa_cons pe_int pa_nil))) pe_int))
      (C8.pss_cut (ps_if (pt_cmpR op_eq (pc_f (c_law_draw T) hr (by decide) (by rfl) (pa_cons (pv 0) (pa_cons pe_int pa_nil))) pe_int (nomark _)) (pss_one (ps_set (i := 3) sc_law_parts.nd rfl (.inl rfl) (pe_op op_sub (pc_f (c_law_draw T) hr (by decide) (by rfl) (pa_cons (pv 0) (pa_cons pe_int pa_nil))) pe_int))) pss_nil)
      (pss_cons (ps_set (i := 4) sc_law_parts.nd rfl (.inl rfl) (pc_f (c_law_strip T) hr (by decide) (by rfl) (pa_cons (pv 0) (pa_cons (pv 1) (pa_cons (pe_op op_add pe_int (pc_f (c_law_draw T) hr (by decide) (by rfl) (pa_cons (pv 0) (pa_cons pe_int pa_nil)))) pa_nil)))))
      (pss_cons (ps_set (i := 5) sc_law_parts.nd rfl (.inl rfl) (pc_f (c_law_strip T) hr (by decide) (by rfl) (pa_cons (pv 0) (pa_cons (pv 1) (pa_cons (pv 2) pa_nil)))))
      (pss_cons (ps_set (i := 6) sc_law_parts.nd rfl (.inl rfl) (pc_f (c_law_strip T) hr (by decide) (by rfl) (pa_cons (pv 0) (pa_cons (pv 1) (pa_cons (pe_op op_add pe_int (pc_f (c_law_draw T) hr (by decide) (by rfl) (pa_cons (pv 0) (pa_cons pe_int pa_nil)))) pa_nil)))))
      (pss_one (ps_ret (pe_tup (pa_cons (pv 4) (pa_cons (pv 5) (pa_cons (pv 6) (pa_cons (pv 3) pa_nil)))))))))))))), ?_⟩
    refine ⟨_, rfl, p, 10, n + 59, rfl, hb, by decide, by decide, fun d1 G1 a1 a2 u1 => ?_⟩
    refine ⟨fun σ G => ∃ (d : Int), 0 ≤ d ∧ d ≤ 34 ∧ Bu (n + 57) p H G ∧ σ = [some (.ref p), some (tx (cols N)), some (.int d), none, none, none, none], ?_, ?_⟩
    · refine ⟨_, rfl, p, 8, n + 58, rfl, u1.box, by decide, by decide, fun d2 G2 _ _ u2 => ⟨rfl, _, rfl, ite2 (fun _ => ?_) (fun _ => ?_)⟩⟩
      · exact ⟨_, rfl, p, 35, n + 57, rfl, u2.box, by decide, by decide, fun d3 G3 b1 b2 u3 => ⟨d3, b1, by omega, (u1.trans u2).trans u3, rfl⟩⟩
      · exact ⟨d1, a1, by omega, (u1.trans u2).le (by omega), rfl⟩
    · rintro _ G2 ⟨d, h0, h34, u2, rfl⟩
      refine ⟨_, rfl, p, 19, n + 56, rfl, u2.box, by decide, by decide, fun d3 G3 b1 b2 u3 => ⟨d3, 9, rfl, rfl, ?_⟩⟩
      have u23 := u2.trans u3
      refine ⟨fun σ G => ∃ (t : Int), -310 ≤ t ∧ t ≤ 310 ∧ Bu (n + 54) p H G ∧ σ = [some (.ref p), some (tx (cols N)), some (.int d), some (.int t), none, none, none], ?_, ?_⟩
      · refine ⟨_, rfl, p, 4, n + 55, rfl, u3.box, by decide, by decide, fun d2 G2 _ _ u2 => ⟨rfl, _, rfl, ite2 (fun _ => ?_) (fun _ => ?_)⟩⟩
        · exact ⟨_, rfl, p, 601, n + 54, rfl, u2.box, by decide, by decide, fun d4 G4 c1 c2 u4 => ⟨d4, 300, rfl, rfl, ⟨d4 - 300, by omega, by omega, (u23.trans u2).trans u4, rfl⟩⟩⟩
        · exact ⟨d3 - 9, by omega, by omega, (u23.trans u2).le (by omega), rfl⟩
      · rintro _ G4 ⟨t, t1, t2, u4, rfl⟩
        refine ⟨_, rfl, _, rfl, _, rfl, p, 6, n + 53, rfl, u4.box, by decide, by decide, fun d5 G5 c1 c2 u5 => ⟨1, d5, rfl, rfl, p, N, (1 + d5).toNat, n + 47, by rw [show (((1 + d5).toNat : Nat) : Int) = 1 + d5 by omega]; rfl, u5.box.le (by omega), by omega, N2, N9, fun G6 l u6 ll sl => ?_⟩⟩
        refine ⟨_, rfl, _, rfl, _, rfl, p, N, d.toNat, n + 7, by rw [show ((d.toNat : Nat) : Int) = d by omega]; rfl, u6.box.le (by omega), by omega, N2, N9, fun G7 m u7 lm sm => ?_⟩
        refine ⟨_, rfl, _, rfl, _, rfl, p, 6, n + 6, rfl, u7.box, by decide, by decide, fun d8 G8 e1 e2 u8 => ⟨1, d8, rfl, rfl, p, N, (1 + d8).toNat, n, by rw [show (((1 + d8).toNat : Nat) : Int) = 1 + d8 by omega]; rfl, u8.box.le (by omega), by omega, N2, N9, fun G9 r u9 lr sr => ?_⟩⟩
        have u := ((((u4.trans u5).trans u6).trans u7).trans u8).trans u9
        refine ⟨_, rfl, _, rfl, _, rfl, _, rfl, by show 4 ≤ sizeLine; decide, fun q hq => ?_⟩
        exact z _ q l m r t (u.put hb (bu_free u hq)) upd_same ⟨sl, sm, sr, by omega, by omega, by omega, by omega, by omega, by omega, by omega⟩ (by omega) t1 t2
/-- the same word, written otherwise -/
def spRewritten : Sp := fun vs H Q _ => ∃ (p q : Addr) (N n : Nat) (l m r : List Nat) (t : Int), vs = [.ref p, .ref q] ∧ BoxAt (n + 4) H p ∧ H q = some (tpl l m r t) ∧ PartOk N l m r t ∧ m.length ≤ 40 ∧ -310 ≤ t ∧ t ≤ 310 ∧ ∀ (G : Hp) (q2 : Addr) (l2 m2 r2 : List Nat) (t2 : Int), Bu n p H G → G q2 = some (tpl l2 m2 r2 t2) → PartOk N l2 m2 r2 t2 → m2.length ≤ 50 → -320 ≤ t2 → t2 ≤ 320 → Q (.ref q2) G
theorem le_mul_l {a b : Int} (h : 0 ≤ b) (g : 1 ≤ a) : b ≤ a * b := by
  have := Int.mul_le_mul_of_nonneg_right g h
  omega
theorem le_mul_r {a b : Int} (h : 0 ≤ b) (g : 1 ≤ a) : b ≤ b * a := by rw [Int.mul_comm]; exact le_mul_l h g
theorem fdiv6 {k : Nat} (h0 : 1 ≤ k) (h6 : k ≤ 6) : 1 ≤ (6 : Int).fdiv (k : Int) ∧ (k : Int) * (6 : Int).fdiv (k : Int) ≤ 6 := by
  rw [show (6 : Int) = ((6 : Nat) : Int) from rfl, fd]
  have h1 : 1 ≤ 6 / k := (Nat.one_le_div_iff (by omega)).mpr h6
  have h2 : k * (6 / k) ≤ 6 := Nat.mul_div_le 6 k
  constructor
  · omega
  · rw [← Int.natCast_mul]
    omega
theorem c_law_rewritten (T : Txt K mg a) : Can P w K mg base 3 "_law_rewritten" spRewritten := by
  refine can_of T.d_law_rewritten sc_law_rewritten bd_law_rewritten (fun vs H Q E h => ?_) (fun f cdv A outer s H vs Q E hr h => ?_)
  · obtain ⟨p, q, N, n, l, m, r, t, rfl, _⟩ := h
    rfl
  · obtain ⟨p, q, N, n, l, m, r, t, rfl, hb, hq, ok, hm, t1, t2, z⟩ := h
    refine ⟨_, (pss_cons (ps_asg (pv 1) (pg_tup rfl (pgs_cons (pg_name (i := 2) sc_law_rewritten.nd rfl (.inl rfl)) (pgs_cons (pg_name (i := 3) sc_law_rewritten.nd rfl (.inl rfl)) (pgs_cons (pg_name (i := 4) sc_law_rewritten.nd rfl (.inl rfl)) (pgs_cons (pg_name (i := 5) sc_law_rewritten.nd rfl (.inl rfl)) pgs_nil))))))
      (pss_cons (ps_set (i := 6) sc_law_rewritten.nd rfl (.inl rfl) (pe_op op_sub (pv 5) (pc_f (c_law_draw T) hr (by decide) (by rfl) (pa_cons (pv 0) (pa_cons pe_int pa_nil)))))
      (pss_cons (ps_set (i := 7) sc_law_rewritten.nd rfl (.inl rfl) (pe_op op_add (pe_op op_add (pv 5) (pe_callB call_len_str (by rfl) T.b_len (by decide +kernel) (pa_cons (pv 3) pa_nil))) (pc_f (c_law_draw T) hr (by decide) (by rfl) (pa_cons (pv 0) (pa_cons pe_int pa_nil)))))
      (pss_cons (ps_set (i := 8) sc_law_rewritten.nd rfl (.inl rfl) (pe_op op_sub (pv 6) (pe_op op_mul (pe_callB call_len_str (by rfl) T.b_len (by decide +kernel) (pa_cons (pv 2) pa_nil)) (pe_op op_add pe_int (pc_f (c_law_draw T) hr (by decide) (by rfl) (pa_cons (pv 0) (pa_cons (pe_op op_fdivN pe_int (pe_callB call_len_str (by rfl) T.b_len (by decide +kernel) (pa_cons (pv 2) pa_nil))) pa_nil)))))))
      (pss_cons (ps_set (i := 9) sc_law_rewritten.nd rfl (.inl rfl) (pe_op op_add (pv 7) (pe_op op_mul (pe_callB call_len_str (by rfl) T.b_len (by decide +kernel) (pa_cons (pv 4) pa_nil)) (pe_op op_add pe_int (pc_f (c_law_draw T) hr (by decide) (by rfl) (pa_cons (pv 0) (pa_cons (pe_op op_fdivN pe_int (pe_callB call_len_str (by rfl) T.b_len (by decide +kernel) (pa_cons (pv 4) pa_nil))) pa_nil)))))))
      (pss_one (ps_ret (pe_tup (pa_cons (pc_f (c_law_text T) hr (by decide) (by rfl) (pa_cons (pv 1) (pa_cons (pv 8) (pa_cons (pv 6) pa_nil)))) (pa_cons (pc_f (c_law_text T) hr (by decide) (by rfl) (pa_cons (pv 1) (pa_cons (pv 6) (pa_cons (pv 7) pa_nil)))) (pa_cons (pc_f (c_law_text T) hr (by decide) (by rfl) (pa_cons (pv 1) (pa_cons (pv 7) (pa_cons (pv 9) pa_nil)))) (pa_cons (pv 6) pa_nil)))))))))))), ?_⟩
    have l0 := ok.l0
    have l6 := ok.l6
    have r0 := ok.r0
    have r6 := ok.r6
    have sz : ∀ {x : List Nat}, x.length ≤ 1000 → (S x).length ≤ sizeLine := fun h => by rw [S_len]; exact szl (by omega)
    refine ⟨_, rfl, q, _, rfl, seqT_of hq, rfl, _, _, rfl, _, _, rfl, _, _, rfl, _, _, rfl, rfl, ?_⟩
    refine ⟨_, rfl, _, rfl, p, 4, n + 3, rfl, hb, by decide, by decide, fun d1 G1 a1 a2 u1 => ⟨t, d1, rfl, rfl, ?_⟩⟩
    refine ⟨_, rfl, _, rfl, _, rfl, sz (by omega), _, _, rfl, rfl, _, rfl, p, 4, n + 2, rfl, u1.box, by decide, by decide, fun d2 G2 b1 b2 u2 => ⟨_, d2, rfl, rfl, ?_⟩⟩
    rw [S_len]
    have f1 := fdiv6 l0 l6
    have f2 := fdiv6 r0 r6
    refine ⟨_, rfl, _, rfl, _, rfl, sz (by omega), _, rfl, _, rfl, _, rfl, sz (by omega), 6, ((S l).length : Nat), rfl, rfl, ⟨by rw [S_len]; omega, by rw [S_len]; omega⟩, p, _, n + 1, rfl, u2.box, by rw [S_len]; omega, by rw [S_len]; have := f1.2; have : (6 : Int).fdiv (l.length : Int) ≤ 6 := Int.le_trans (le_mul_l (by omega) (by omega)) this; omega, fun d3 G3 c1 c2 u3 => ?_⟩
    rw [S_len] at c2 ⊢
    refine ⟨1, d3, rfl, rfl, (l.length : Int), 1 + d3, rfl, rfl, .inl ⟨by omega, by omega⟩, _, _, rfl, rfl, ?_⟩
    refine ⟨_, rfl, _, rfl, _, rfl, sz (by omega), _, rfl, _, rfl, _, rfl, sz (by omega), 6, ((S r).length : Nat), rfl, rfl, ⟨by rw [S_len]; omega, by rw [S_len]; omega⟩, p, _, n, rfl, u3.box, by rw [S_len]; omega, by rw [S_len]; have := f2.2; have : (6 : Int).fdiv (r.length : Int) ≤ 6 := Int.le_trans (le_mul_l (by omega) (by omega)) this; omega, fun d4 G4 e1 e2 u4 => ?_⟩
    rw [S_len] at e2 ⊢
    refine ⟨1, d4, rfl, rfl, (r.length : Int), 1 + d4, rfl, rfl, .inl ⟨by omega, by omega⟩, _, _, rfl, rfl, ?_⟩
    have u := ((u1.trans u2).trans u3).trans u4
    have hq4 := tup_bu hq hb u
    have g1 : (l.length : Int) ≤ l.length * (1 + d3) ∧ (l.length : Int) * (1 + d3) ≤ 6 := ⟨le_mul_r (by omega) (by omega), Int.le_trans (Int.mul_le_mul_of_nonneg_left (by omega) (by omega)) f1.2⟩
    have g2 : (r.length : Int) ≤ r.length * (1 + d4) ∧ (r.length : Int) * (1 + d4) ≤ 6 := ⟨le_mul_r (by omega) (by omega), Int.le_trans (Int.mul_le_mul_of_nonneg_left (by omega) (by omega)) f2.2⟩
    generalize (l.length : Int) * (1 + d3) = x1 at g1 ⊢
    generalize (r.length : Int) * (1 + d4) = x2 at g2 ⊢
    refine ⟨_, rfl, _, rfl, _, rfl, q, N, l, m, r, t, _, _, rfl, hq4, ok, by omega, by omega, by omega, by omega, fun G5 k5 => ?_⟩
    refine ⟨_, rfl, _, rfl, _, rfl, q, N, l, m, r, t, _, _, rfl, k5 _ _ hq4, ok, by omega, by omega, by omega, by omega, fun G6 k6 => ?_⟩
    refine ⟨_, rfl, _, rfl, _, rfl, q, N, l, m, r, t, _, _, rfl, k6 _ _ (k5 _ _ hq4), ok, by omega, by omega, by omega, by omega, fun G7 k7 => ?_⟩
    refine ⟨_, rfl, by show 4 ≤ sizeLine; decide, fun y hy => ?_⟩
    refine z _ y _ _ _ _ (u.same (((k5.trans k6).trans k7).trans (ex_new hy))) upd_same ⟨win_strip ok _ _, win_strip ok _ _, win_strip ok _ _, ?_, ?_, ?_, ?_, ?_, by omega, by omega⟩ ?_ (by omega) (by omega)
    all_goals (rw [win_len]; omega)
end
end K40

end
section
set_option Elab.async false
set_option linter.all false
set_option maxRecDepth 100000
set_option maxHeartbeats 4000000
namespace K40
open PySem PySem.Spec PyProof.Rows L2 Kit
theorem strip_take {n k : Nat} {x : List Nat} (h : isStrip n x = true) : isStrip n (x.take k) = true := List.all_eq_true.mpr fun c hc => List.all_eq_true.mp h c (List.mem_of_mem_take hc)
theorem strip_drop {n k : Nat} {x : List Nat} (h : isStrip n x = true) : isStrip n (x.drop k) = true := List.all_eq_true.mpr fun c hc => List.all_eq_true.mp h c (List.mem_of_mem_drop hc)
theorem strip_app {n : Nat} {x y : List Nat} (h : isStrip n x = true) (g : isStrip n y = true) : isStrip n (x ++ y) = true := by
  unfold isStrip at h g ⊢
  rw [List.all_append, h, g]
  rfl
theorem strip_one {n c : Nat} (h : inCol n c = true) : isStrip n [c] = true := by
  unfold isStrip
  rw [List.all_cons, h]
  rfl
section
variable {P : Program} {w : World} {K : PySem.W.Frag} {mg : Str → Option Value} {base : Heap} {a : Ad}
def spChanged : Sp := fun vs H Q _ => ∃ (p : Addr) (N n : Nat) (x : List Nat), vs = [.ref p, tx (cols N), tx x] ∧ BoxAt (n + 2) H p ∧ 2 ≤ N ∧ N ≤ 9 ∧ isStrip N x = true ∧ x.length ≤ 100 ∧ ∀ (G : Hp) (y : List Nat), Bu n p H G → isStrip N y = true → y.length = x.length → Q (tx y) G
theorem c_law_changed (T : Txt K mg a) : Can P w K mg base 2 "_law_changed" spChanged := by
  refine can_of T.d_law_changed sc_law_changed bd_law_changed (fun vs H Q E h => ?_) (fun f cdv A outer s H vs Q E hr h => ?_)
  · obtain ⟨p, N, n, x, rfl, _⟩ := h
    rfl
  · obtain ⟨p, N, n, x, rfl, hb, N2, N9, sx, lx, z⟩ := h
    refine ⟨_, (pss_cons (ps_if (pt_cmpR op_eq (pv 2) pe_str (nomark _)) (pss_one (ps_ret (pv 2))) pss_nil)
      (pss_cons (ps_set (i := 3) sc_law_changed.nd rfl (.inl rfl) (pc_f (c_law_draw T) hr (by decide) (by rfl) (pa_cons (pv 0) (pa_cons (pe_callB call_len_str (by rfl) T.b_len (by decide +kernel) (pa_cons (pv 2) pa_nil)) pa_nil))))
      (pss_cons (ps_set (i := 4) sc_law_changed.nd rfl (.inl rfl) (pe_op op_add pe_int (pc_f (c_law_draw T) hr (by decide) (by rfl) (pa_cons (pv 0) (pa_cons (pe_op op_sub (pe_callB call_len_str (by rfl) T.b_len (by decide +kernel) (pa_cons (pv 1) pa_nil)) pe_int) pa_nil)))))
      (pss_cons (ps_set (i := 5) sc_law_changed.nd rfl (.inl rfl) (pe_ix ix_str (pv 1) (pe_op op_modN (pe_callTy call_int1 (by rfl) T.b_int (by decide +kernel) (pa_cons (pe_op op_add (pe_m1 PySem.F.slot_str_find PySem.F.type_str_find mt_find (pv 1) (pe_ix ix_str (pv 2) (pv 3) (fun _ _ => rfl))) (pv 4)) pa_nil)) (pe_callB call_len_str (by rfl) T.b_len (by decide +kernel) (pa_cons (pv 1) pa_nil))) (fun _ _ => rfl)))
      (pss_one (ps_ret (pe_op op_add_str (pe_op op_add_str (pe_slice sl_str (pv 2) po_none (po_some (pv 3))) (pv 5)) (pe_slice sl_str (pv 2) (po_some (pe_op op_add (pv 3) pe_int)) po_none)))))))), ?_⟩
    have sz : ∀ {x : List Nat}, x.length ≤ 1000 → (S x).length ≤ sizeLine := fun h => by rw [S_len]; exact szl (by omega)
    rw [lit_e]
    refine ⟨_, rfl, rfl, _, rfl, ite2 (fun _ => ?_) (fun c => ?_)⟩
    · exact ⟨_, rfl, z H x ((Bu.refl hb).le (by omega)) sx rfl⟩
    · have l0 : 0 < x.length := by
        cases x with
        | nil => exact absurd (decide_eq_true rfl) c
        | cons y x => exact Nat.succ_pos _
      refine ⟨_, rfl, _, rfl, _, rfl, sz (by omega), p, _, n + 1, rfl, hb, by rw [S_len]; omega, by rw [S_len]; omega, fun d G1 a1 a2 u1 => ?_⟩
      rw [S_len] at a2
      refine ⟨_, rfl, _, rfl, _, rfl, sz (by rw [cols_len]; omega), _, 1, rfl, rfl, p, _, n, rfl, u1.box, by rw [cols_ln]; omega, by rw [cols_ln]; omega, fun d2 G2 b1 b2 u2 => ⟨1, d2, rfl, rfl, ?_⟩⟩
      have hx : atI (S x).cps.toList d = some (x.getD d.toNat 0) := by
        have := atI_nat (xs := x) (j := d.toNat) (v := x.getD d.toNat 0) (by rw [List.getD_eq_getElem?_getD, List.getElem?_eq_getElem (by omega)]; rfl)
        rwa [show ((d.toNat : Nat) : Int) = d by omega] at this
      refine ⟨_, rfl, _, rfl, ⟨_, rfl⟩, _, rfl, _, rfl, _, _, _, rfl, rfl, sz (by omega), hx, S (cols N), _, rfl, rfl, _, rfl, _, _, rfl, rfl, .inl ⟨_, rfl, _, rfl, _, rfl, sz (by rw [cols_len]; omega), ?_⟩⟩
      have hf : ∀ e : Int, ∃ k, k < N ∧ atI (S (cols N)).cps.toList (e.fmod (N : Int)) = some (97 + k) := fun e => by
        have e1 := Int.fmod_nonneg_of_pos e (show (0 : Int) < N by omega)
        have e2 := Int.fmod_lt_of_pos e (show (0 : Int) < N by omega)
        refine ⟨(e.fmod (N : Int)).toNat, by omega, ?_⟩
        have := cols_at (n := N) (k := (e.fmod (N : Int)).toNat) (by omega)
        rwa [show (((e.fmod (N : Int)).toNat : Nat) : Int) = e.fmod (N : Int) by omega] at this
      refine ⟨_, _, rfl, rfl, by show ((S (cols N)).length : Int) ≠ 0; rw [cols_ln]; omega, ?_⟩
      rw [cols_ln]
      obtain ⟨k, hk, hc⟩ := hf (Txt.find (S (cols N)) (S [x.getD d.toNat 0]) + (1 + d2))
      refine ⟨_, _, _, rfl, rfl, sz (by rw [cols_len]; omega), hc, ?_⟩
      obtain ⟨d, rfl⟩ := Int.eq_ofNat_of_zero_le a1
      refine ⟨_, rfl, _, rfl, _, rfl, _, rfl, sz (by omega), ?_⟩
      have hx := cut_take x d
      rw [show cutS (S x) none (some ((d : Nat) : Int)) = S (x.take d) from hx]
      refine ⟨_, rfl, S (x.take d), S [97 + k], rfl, rfl, by rw [S_len, S_len]; exact szl (by rw [List.length_take]; show min _ _ + 1 ≤ _; omega), ?_⟩
      refine ⟨_, rfl, _, rfl, _, 1, rfl, rfl, _, rfl, _, rfl, sz (by omega), ?_⟩
      have hy := cut_drop x (d + 1)
      rw [S_app, show cutS (S x) (some (((d : Nat) : Int) + 1)) none = S (x.drop (d + 1)) from hy]
      refine ⟨_, _, rfl, rfl, by rw [S_len, S_len]; exact szl (by rw [List.length_append, List.length_take, List.length_drop]; show min _ _ + 1 + _ ≤ _; omega), ?_⟩
      rw [S_app]
      refine z _ _ (u1.trans u2) (strip_app (strip_app (strip_take sx) (strip_one (cols_in hk))) (strip_drop sx)) ?_
      rw [List.length_append, List.length_append, List.length_take, List.length_drop]
      show min _ _ + 1 + _ = _
      omega
end
end K40

end
section
set_option Elab.async false
set_option linter.all false
set_option maxRecDepth 100000
set_option maxHeartbeats 4000000
namespace K40
open PySem PySem.Spec PyProof.Rows L2 Kit
theorem PartOk.m2 {n : Nat} {l m r : List Nat} {t : Int} (h : PartOk n l m r t) {y : List Nat} (hy : isStrip n y = true) (e : y.length = m.length) : PartOk n l y r t := { h with sm := hy, m1 := by rw [e]; exact h.m1 }
theorem PartOk.l2 {n : Nat} {l m r : List Nat} {t : Int} (h : PartOk n l m r t) {y : List Nat} (hy : isStrip n y = true) (e : y.length = l.length) : PartOk n y m r t := { h with sl := hy, l0 := by rw [e]; exact h.l0, l6 := by rw [e]; exact h.l6 }
theorem PartOk.r2 {n : Nat} {l m r : List Nat} {t : Int} (h : PartOk n l m r t) {y : List Nat} (hy : isStrip n y = true) (e : y.length = r.length) : PartOk n l m y t := { h with sr := hy, r0 := by rw [e]; exact h.r0, r6 := by rw [e]; exact h.r6 }
section
variable {P : Program} {w : World} {K : PySem.W.Frag} {mg : Str → Option Value} {base : Heap} {a : Ad}
def spOther : Sp := fun vs H Q _ => ∃ (p q : Addr) (N n : Nat) (l m r : List Nat) (t : Int), vs = [.ref p, tx (cols N), .ref q] ∧ BoxAt (n + 61) H p ∧ 2 ≤ N ∧ N ≤ 9 ∧ H q = some (tpl l m r t) ∧ PartOk N l m r t ∧ m.length ≤ 40 ∧ -310 ≤ t ∧ t ≤ 310 ∧ ∀ (G : Hp) (q2 : Addr) (l2 m2 r2 : List Nat) (t2 : Int), Bu n p H G → G q2 = some (tpl l2 m2 r2 t2) → PartOk N l2 m2 r2 t2 → m2.length ≤ 50 → -320 ≤ t2 → t2 ≤ 320 → Q (.ref q2) G
theorem c_law_other (T : Txt K mg a) : Can P w K mg base 4 "_law_other" spOther := by
  refine can_of T.d_law_other sc_law_other bd_law_other (fun vs H Q E h => ?_) (fun f cdv A outer s H vs Q E hr h => ?_)
  · obtain ⟨p, q, N, n, l, m, r, t, rfl, _⟩ := h
    rfl
  · obtain ⟨p, q, N, n, l, m, r, t, rfl, hb, N2, N9, hq, ok, hm, t1, t2, z⟩ := h
    refine ⟨_, (pss_cons (ps_set (i := 3) sc_law_other.nd rfl (.inl rfl) (pc_f (c_law_draw T) hr (by decide) (by rfl) (pa_cons (pv 0) (pa_cons pe_int pa_nil))))
      (pss_cons (ps_if (pt_cmpR op_eq (pv 3) pe_int (nomark _)) (pss_one (ps_ret (pc_f (c_law_parts T) hr (by decide) (by rfl) (pa_cons (pv 0) (pa_cons (pv 1) pa_nil))))) pss_nil)
      (pss_cons (ps_asg (pc_f (c_law_rewritten T) hr (by decide) (by rfl) (pa_cons (pv 0) (pa_cons (pv 2) pa_nil))) (pg_tup rfl (pgs_cons (pg_name (i := 4) sc_law_other.nd rfl (.inl rfl)) (pgs_cons (pg_name (i := 5) sc_law_other.nd rfl (.inl rfl)) (pgs_cons (pg_name (i := 6) sc_law_other.nd rfl (.inl rfl)) (pgs_cons (pg_name (i := 7) sc_law_other.nd rfl (.inl rfl)) pgs_nil))))))
      (C8.pss_cut (ps_if (PW.pt (pw_or (pt_cmpR op_eq (pv 3) pe_int (nomark _)) (pw_or1 (pt_cmpR op_eq (pv 3) pe_int (nomark _))))) (pss_one (ps_set (i := 5) sc_law_other.nd rfl (.inl rfl) (pc_f (c_law_changed T) hr (by decide) (by rfl) (pa_cons (pv 0) (pa_cons (pv 1) (pa_cons (pv 5) pa_nil)))))) pss_nil)
      (C8.pss_cut (ps_if (pt_cmpR op_eq (pv 3) pe_int (nomark _)) (pss_one (ps_set (i := 5) sc_law_other.nd rfl (.inl rfl) (pc_f (c_law_changed T) hr (by decide) (by rfl) (pa_cons (pv 0) (pa_cons (pv 1) (pa_cons (pv 5) pa_nil)))))) pss_nil)
      (C8.pss_cut (ps_if (pt_cmpR op_eq (pv 3) pe_int (nomark _)) (pss_one (ps_set (i := 4) sc_law_other.nd rfl (.inl rfl) (pc_f (c_law_changed T) hr (by decide) (by rfl) (pa_cons (pv 0) (pa_cons (pv 1) (pa_cons (pv 4) pa_nil)))))) pss_nil)
      (C8.pss_cut (ps_if (pt_cmpR op_eq (pv 3) pe_int (nomark _)) (pss_one (ps_set (i := 6) sc_law_other.nd rfl (.inl rfl) (pc_f (c_law_changed T) hr (by decide) (by rfl) (pa_cons (pv 0) (pa_cons (pv 1) (pa_cons (pv 6) pa_nil)))))) pss_nil)
      (pss_one (ps_ret (pe_tup (pa_cons (pv 4) (pa_cons (pv 5) (pa_cons (pv 6) (pa_cons (pv 7) pa_nil)))))))))))))), ?_⟩
    refine ⟨_, rfl, p, 8, n + 60, rfl, hb, by decide, by decide, fun d G1 a1 a2 u1 => ?_⟩
    refine ⟨_, rfl, rfl, _, rfl, ite2 (fun _ => ?_) (fun _ => ?_)⟩
    · exact ⟨_, rfl, _, rfl, p, N, n, rfl, u1.box, N2, N9, fun G q2 l2 m2 r2 t3 u2 h2 ok2 g1 g2 g3 => z G q2 l2 m2 r2 t3 (u1.trans u2) h2 ok2 (by omega) (by omega) (by omega)⟩
    · refine ⟨_, rfl, _, rfl, p, q, N, n + 8, l, m, r, t, rfl, u1.box.le (by omega), tup_bu hq hb u1, ok, hm, t1, t2, fun G2 q2 l2 m2 r2 t3 u2 h2 ok2 g1 g2 g3 => ?_⟩
      have u12 := u1.trans u2
      refine ⟨q2, _, rfl, seqT_of h2, rfl, _, _, rfl, _, _, rfl, _, _, rfl, _, _, rfl, rfl, ?_⟩
      refine ⟨fun σ G => ∃ (l m r : List Nat), Bu (n + 6) p H G ∧ PartOk N l m r t3 ∧ m.length ≤ 50 ∧ σ = [some (.ref p), some (tx (cols N)), some (.ref q), some (.int d), some (tx l), some (tx m), some (tx r), some (.int t3)], ?_, ?_⟩
      · refine ⟨_, rfl, rfl, _, rfl, ite2 (fun _ => ?_) (fun _ => ⟨_, rfl, rfl, _, rfl, ite2 (fun _ => ?_) (fun _ => ?_)⟩)⟩
        · exact ⟨_, rfl, _, rfl, _, rfl, p, N, n + 6, m2, rfl, u2.box, N2, N9, ok2.sm, ok2.m1, fun G y u3 sy ly => ⟨l2, y, r2, u12.trans u3, ok2.m2 sy ly, by rw [ly]; exact g1, rfl⟩⟩
        · exact ⟨_, rfl, _, rfl, _, rfl, p, N, n + 6, m2, rfl, u2.box, N2, N9, ok2.sm, ok2.m1, fun G y u3 sy ly => ⟨l2, y, r2, u12.trans u3, ok2.m2 sy ly, by rw [ly]; exact g1, rfl⟩⟩
        · exact ⟨l2, m2, r2, u12.le (by omega), ok2, g1, rfl⟩
      · rintro _ G3 ⟨l3, m3, r3, u3, ok3, b3, rfl⟩
        refine ⟨fun σ G => ∃ (l m r : List Nat), Bu (n + 4) p H G ∧ PartOk N l m r t3 ∧ m.length ≤ 50 ∧ σ = [some (.ref p), some (tx (cols N)), some (.ref q), some (.int d), some (tx l), some (tx m), some (tx r), some (.int t3)], ?_, ?_⟩
        · refine ⟨_, rfl, rfl, _, rfl, ite2 (fun _ => ?_) (fun _ => ?_)⟩
          · exact ⟨_, rfl, _, rfl, _, rfl, p, N, n + 4, m3, rfl, u3.box, N2, N9, ok3.sm, ok3.m1, fun G y u4 sy ly => ⟨l3, y, r3, u3.trans u4, ok3.m2 sy ly, by rw [ly]; exact b3, rfl⟩⟩
          · exact ⟨l3, m3, r3, u3.le (by omega), ok3, b3, rfl⟩
        · rintro _ G4 ⟨l4, m4, r4, u4, ok4, b4, rfl⟩
          refine ⟨fun σ G => ∃ (l m r : List Nat), Bu (n + 2) p H G ∧ PartOk N l m r t3 ∧ m.length ≤ 50 ∧ σ = [some (.ref p), some (tx (cols N)), some (.ref q), some (.int d), some (tx l), some (tx m), some (tx r), some (.int t3)], ?_, ?_⟩
          · refine ⟨_, rfl, rfl, _, rfl, ite2 (fun _ => ?_) (fun _ => ?_)⟩
            · exact ⟨_, rfl, _, rfl, _, rfl, p, N, n + 2, l4, rfl, u4.box, N2, N9, ok4.sl, Nat.le_trans ok4.l6 (by decide), fun G y u5 sy ly => ⟨y, m4, r4, u4.trans u5, ok4.l2 sy ly, b4, rfl⟩⟩
            · exact ⟨l4, m4, r4, u4.le (by omega), ok4, b4, rfl⟩
          · rintro _ G5 ⟨l5, m5, r5, u5, ok5, b5, rfl⟩
            refine ⟨fun σ G => ∃ (l m r : List Nat), Bu n p H G ∧ PartOk N l m r t3 ∧ m.length ≤ 50 ∧ σ = [some (.ref p), some (tx (cols N)), some (.ref q), some (.int d), some (tx l), some (tx m), some (tx r), some (.int t3)], ?_, ?_⟩
            · refine ⟨_, rfl, rfl, _, rfl, ite2 (fun _ => ?_) (fun _ => ?_)⟩
              · exact ⟨_, rfl, _, rfl, _, rfl, p, N, n, r5, rfl, u5.box, N2, N9, ok5.sr, Nat.le_trans ok5.r6 (by decide), fun G y u6 sy ly => ⟨l5, m5, y, u5.trans u6, ok5.r2 sy ly, b5, rfl⟩⟩
              · exact ⟨l5, m5, r5, u5.le (by omega), ok5, b5, rfl⟩
            · rintro _ G6 ⟨l6, m6, r6, u6, ok6, b6, rfl⟩
              exact ⟨_, rfl, _, rfl, _, rfl, _, rfl, by show 4 ≤ sizeLine; decide, fun y hy => z _ y l6 m6 r6 t3 (u6.put hb (bu_free u6 hy)) upd_same ok6 b6 (by omega) (by omega)⟩
end
end K40

end
section
set_option Elab.async false
set_option linter.all false
set_option maxRecDepth 100000
set_option maxHeartbeats 4000000
namespace K40
open PySem PySem.Spec PyProof.Rows L2 Kit
section
variable {P : Program} {w : World} {K : PySem.W.Frag} {mg : Str → Option Value} {base : Heap} {a : Ad}
def spGaps : Sp := fun vs H Q _ => ∃ (q q2 : Addr) (n n2 : Nat) (l m r l2 m2 r2 : List Nat) (t t2 : Int), vs = [.ref q, .ref q2] ∧ H q = some (tpl l m r t) ∧ H q2 = some (tpl l2 m2 r2 t2) ∧ PartOk n l m r t ∧ PartOk n2 l2 m2 r2 t2 ∧
  (Far (wd l m r t) (wd l2 m2 r2 t2) (mn t t2) (mx (t + m.length) (t2 + m2.length)) → ∀ G, Same H G → Q .non G) ∧
  (¬ Far (wd l m r t) (wd l2 m2 r2 t2) (mn t t2) (mx (t + m.length) (t2 + m2.length)) → ∀ G q, Same H G → H q = none → G q = some (.lst ((difs (wd l m r t) (wd l2 m2 r2 t2) (mn t t2) (mx (t + m.length) (t2 + m2.length) - mn t t2).toNat).map V.int)) → Q (.ref q) G)
theorem c_law_gaps (T : Txt K mg a) : Can P w K mg base 3 "_law_gaps" spGaps := by
  refine can_of T.d_law_gaps sc_law_gaps bd_law_gaps (fun vs H Q E h => ?_) (fun f cdv A outer s H vs Q E hr h => ?_)
  · obtain ⟨q, q2, n, n2, l, m, r, l2, m2, r2, t, t2, rfl, _⟩ := h
    rfl
  · obtain ⟨q, q2, n, n2, l, m, r, l2, m2, r2, t, t2, rfl, h1, h2, ok, ok2, z1, z2⟩ := h
    refine ⟨_, (pss_cons (ps_set (i := 2) sc_law_gaps.nd rfl (.inl rfl) (pe_callB (call_min2 (by rfl)) (by rfl) T.b_min (by decide +kernel) (pa_cons (pe_ix (kix_tup K) (pv 0) pe_int (fun _ _ => rfl)) (pa_cons (pe_ix (kix_tup K) (pv 1) pe_int (fun _ _ => rfl)) pa_nil))))
      (pss_cons (ps_set (i := 3) sc_law_gaps.nd rfl (.inl rfl) (pe_callB (call_max2 (by rfl)) (by rfl) T.b_max (by decide +kernel) (pa_cons (pe_op op_add (pe_ix (kix_tup K) (pv 0) pe_int (fun _ _ => rfl)) (pe_callB call_len_str (by rfl) T.b_len (by decide +kernel) (pa_cons (pe_ix (kix_tup K) (pv 0) pe_int (fun _ _ => rfl)) pa_nil))) (pa_cons (pe_op op_add (pe_ix (kix_tup K) (pv 1) pe_int (fun _ _ => rfl)) (pe_callB call_len_str (by rfl) T.b_len (by decide +kernel) (pa_cons (pe_ix (kix_tup K) (pv 1) pe_int (fun _ _ => rfl)) pa_nil))) pa_nil))))
      (pss_cons (ps_set (i := 4) sc_law_gaps.nd rfl (.inl rfl) (pe_op op_sub (pv 2) (pe_op op_mul (pe_callB call_len_str (by rfl) T.b_len (by decide +kernel) (pa_cons (pe_ix (kix_tup K) (pv 0) pe_int (fun _ _ => rfl)) pa_nil)) (pe_callB call_len_str (by rfl) T.b_len (by decide +kernel) (pa_cons (pe_ix (kix_tup K) (pv 1) pe_int (fun _ _ => rfl)) pa_nil)))))
      (pss_cons (ps_set (i := 5) sc_law_gaps.nd rfl (.inl rfl) (pe_op op_add (pv 3) (pe_op op_mul (pe_callB call_len_str (by rfl) T.b_len (by decide +kernel) (pa_cons (pe_ix (kix_tup K) (pv 0) pe_int (fun _ _ => rfl)) pa_nil)) (pe_callB call_len_str (by rfl) T.b_len (by decide +kernel) (pa_cons (pe_ix (kix_tup K) (pv 1) pe_int (fun _ _ => rfl)) pa_nil)))))
      (pss_cons (ps_if (pt_cmpR op_ne (pc_f (c_law_text T) hr (by decide) (by rfl) (pa_cons (pv 0) (pa_cons (pv 4) (pa_cons (pv 2) pa_nil)))) (pc_f (c_law_text T) hr (by decide) (by rfl) (pa_cons (pv 1) (pa_cons (pv 4) (pa_cons (pv 2) pa_nil)))) (nomark _)) (pss_one (ps_ret pe_non)) pss_nil)
      (pss_cons (ps_if (pt_cmpR op_ne (pc_f (c_law_text T) hr (by decide) (by rfl) (pa_cons (pv 0) (pa_cons (pv 3) (pa_cons (pv 5) pa_nil)))) (pc_f (c_law_text T) hr (by decide) (by rfl) (pa_cons (pv 1) (pa_cons (pv 3) (pa_cons (pv 5) pa_nil)))) (nomark _)) (pss_one (ps_ret pe_non)) pss_nil)
      (pss_one (ps_ret (pe_lc (own := [("index", 6)]) (g := gName 6) (by rfl) sc_law_gaps.nd (pi_range2 (by rfl) T.b_range (pa_cons (pv 2) (pa_cons (pv 3) pa_nil))) (blkOk_by (N := N_law_gaps) (sc := defScope s_law_gaps) (by decide +kernel)) (fun _ _ _ _ _ => (pg_name (i := 6) sc_law_gaps.nd rfl (.inl rfl))) (fun _ _ _ _ _ => (pts_one (pt_cmpR op_ne (pc_f (c_law_column T) hr (by decide) (by rfl) (pa_cons (pv 0) (pa_cons (pv 6) pa_nil))) (pc_f (c_law_column T) hr (by decide) (by rfl) (pa_cons (pv 1) (pa_cons (pv 6) pa_nil))) (nomark _)))) (fun _ _ _ _ _ => (pv 6))))))))))), ?_⟩
    obtain ⟨_, _, _, l0, l6, r0, r6, m1, t1, t1'⟩ := ok
    obtain ⟨_, _, _, l20, l26, r20, r26, m21, t21, t21'⟩ := ok2
    have sz : ∀ {x : List Nat}, x.length ≤ 1000 → (S x).length ≤ sizeLine := fun h => by rw [S_len]; exact szl (by omega)
    refine ⟨_, rfl, q, _, 3, _, rfl, rfl, seqT_of h1, rfl, _, rfl, q2, _, 3, _, rfl, rfl, seqT_of h2, rfl, t, t2, rfl, ?_⟩
    change gName 2 (.int (mn t t2)) _ _ _
    refine ⟨_, rfl, q, _, 3, _, rfl, rfl, seqT_of h1, rfl, _, rfl, q, _, 1, _, rfl, rfl, seqT_of h1, rfl, _, rfl, sz (by omega), _, _, rfl, rfl, ?_⟩
    refine ⟨_, rfl, q2, _, 3, _, rfl, rfl, seqT_of h2, rfl, _, rfl, q2, _, 1, _, rfl, rfl, seqT_of h2, rfl, _, rfl, sz (by omega), _, _, rfl, rfl, t + ((S m).length : Int), t2 + ((S m2).length : Int), rfl, ?_⟩
    rw [S_len, S_len]
    change gName 3 (.int (mx (t + m.length) (t2 + m2.length))) _ _ _
    have b1 : mn t t2 ≤ t ∧ mn t t2 ≤ t2 ∧ (mn t t2 = t ∨ mn t t2 = t2) := by unfold mn; split <;> omega
    have b2 : t + m.length ≤ mx (t + m.length) (t2 + m2.length) ∧ t2 + m2.length ≤ mx (t + m.length) (t2 + m2.length) ∧ (mx (t + m.length) (t2 + m2.length) = t + m.length ∨ mx (t + m.length) (t2 + m2.length) = t2 + m2.length) := by unfold mx; split <;> omega
    generalize mn t t2 = lo at b1 z1 z2 ⊢
    generalize mx (t + m.length) (t2 + m2.length) = hi at b2 z1 z2 ⊢
    have LL : l.length * l2.length ≤ 36 := Nat.mul_le_mul l6 l26
    have RR : r.length * r2.length ≤ 36 := Nat.mul_le_mul r6 r26
    have okA : PartOk n l m r t := by constructor <;> assumption
    have okB : PartOk n2 l2 m2 r2 t2 := by constructor <;> assumption
    have far := far_near okA okB (Nat.mul_pos l0 l20) (Nat.mul_pos r0 r20) (Nat.dvd_mul_right _ _) (Nat.dvd_mul_left _ _) (Nat.dvd_mul_right _ _) (Nat.dvd_mul_left _ _) b1.1 b1.2.1 b2.1 b2.2.1
    refine ⟨_, rfl, _, rfl, q, _, 0, _, rfl, rfl, seqT_of h1, rfl, _, rfl, sz (by omega), _, rfl, q2, _, 0, _, rfl, rfl, seqT_of h2, rfl, _, rfl, sz (by omega), _, _, rfl, rfl, .inl (by rw [S_len]; exact ⟨by omega, by omega⟩), _, _, rfl, rfl, ?_⟩
    refine ⟨_, rfl, _, rfl, q, _, 2, _, rfl, rfl, seqT_of h1, rfl, _, rfl, sz (by omega), _, rfl, q2, _, 2, _, rfl, rfl, seqT_of h2, rfl, _, rfl, sz (by omega), _, _, rfl, rfl, .inl (by rw [S_len]; exact ⟨by omega, by omega⟩), _, _, rfl, rfl, ?_⟩
    rw [S_len, S_len, S_len, S_len, ← Int.natCast_mul, ← Int.natCast_mul]
    generalize l.length * l2.length = L at *
    generalize r.length * r2.length = Rr at *
    refine ⟨_, rfl, _, rfl, _, rfl, q, n, l, m, r, t, _, _, rfl, h1, okA, by omega, by omega, by omega, by omega, fun G1 k1 => ?_⟩
    refine ⟨_, rfl, _, rfl, _, rfl, q2, n2, l2, m2, r2, t2, _, _, rfl, k1 _ _ h2, okB, by omega, by omega, by omega, by omega, fun G2 k2 => ?_⟩
    have k12 := k1.trans k2
    refine ⟨rfl, _, rfl, ?_⟩
    rw [show (lo - (lo - (L : Int))).toNat = L by omega]
    refine ite2 (fun c1 => ?_) (fun c1 => ?_)
    · refine z1 (far.mpr (.inl ?_)) _ k12
      refine Classical.byContradiction fun f => ?_
      have e : win (wd l m r t) (lo - L) L = win (wd l2 m2 r2 t2) (lo - L) L := win_eq.mpr fun i g1 g2 => Classical.byContradiction fun ne => f ⟨i, g1, by omega, ne⟩
      rw [e] at c1
      simp at c1
    · have f1 : ¬ ∃ i, lo - L ≤ i ∧ i < lo ∧ wd l m r t i ≠ wd l2 m2 r2 t2 i := by
        rintro ⟨i, g1, g2, ne⟩
        have e : win (wd l m r t) (lo - L) L = win (wd l2 m2 r2 t2) (lo - L) L := by
          have : tx (win (wd l m r t) (lo - L) L) = tx (win (wd l2 m2 r2 t2) (lo - L) L) := by simpa using c1
          exact S_inj (V.str.inj this)
        exact ne (win_eq.mp e i g1 (by omega))
      refine ⟨_, rfl, _, rfl, _, rfl, q, n, l, m, r, t, _, _, rfl, k12 _ _ h1, okA, by omega, by omega, by omega, by omega, fun G3 k3 => ?_⟩
      refine ⟨_, rfl, _, rfl, _, rfl, q2, n2, l2, m2, r2, t2, _, _, rfl, k3 _ _ (k12 _ _ h2), okB, by omega, by omega, by omega, by omega, fun G4 k4 => ?_⟩
      have k14 := (k12.trans k3).trans k4
      refine ⟨rfl, _, rfl, ?_⟩
      rw [show (hi + (Rr : Int) - hi).toNat = Rr by omega]
      refine ite2 (fun c2 => ?_) (fun c2 => ?_)
      · refine z1 (far.mpr (.inr ?_)) _ k14
        refine Classical.byContradiction fun f => ?_
        have e : win (wd l m r t) hi Rr = win (wd l2 m2 r2 t2) hi Rr := win_eq.mpr fun i g1 g2 => Classical.byContradiction fun ne => f ⟨i, g1, by omega, ne⟩
        rw [e] at c2
        simp at c2
      · have f2 : ¬ ∃ i, hi ≤ i ∧ i < hi + Rr ∧ wd l m r t i ≠ wd l2 m2 r2 t2 i := by
          rintro ⟨i, g1, g2, ne⟩
          have e : win (wd l m r t) hi Rr = win (wd l2 m2 r2 t2) hi Rr := by
            have : tx (win (wd l m r t) hi Rr) = tx (win (wd l2 m2 r2 t2) hi Rr) := by simpa using c2
            exact S_inj (V.str.inj this)
          exact ne (win_eq.mp e i g1 (by omega))
        have nf : ¬ Far (wd l m r t) (wd l2 m2 r2 t2) lo hi := fun f => (far.mp f).elim f1 f2
        clear far z1
        have hb : (hi - lo).toNat ≤ 20000 := by omega
        refine ⟨_, rfl, _, rfl, lo, hi, rfl, by omega, fun D hD => ?_⟩
        refine lc_it (walk_range (lo := lo) (n := (hi - lo).toNat)) (fun i G => Same H G ∧ G D = some (.lst ((difs (wd l m r t) (wd l2 m2 r2 t2) lo i).map V.int))) ⟨k14.trans (ex_new hD), upd_same⟩ (fun _ _ _ _ => True.intro) ?_ ?_
        · rintro i x G G' hi' ⟨kk, hG⟩ ⟨rfl, rfl⟩
          refine ⟨rfl, ?_⟩
          refine ⟨_, rfl, _, rfl, q, n, l, m, r, t, _, rfl, kk _ _ h1, okA, ?_⟩
          refine ⟨_, rfl, _, rfl, q2, n2, l2, m2, r2, t2, _, rfl, kk _ _ h2, okB, ?_⟩
          refine ⟨rfl, _, rfl, ?_⟩
          rw [one_ne]
          by_cases c : wd l m r t (lo + i) = wd l2 m2 r2 t2 (lo + i)
          · refine itN (by rw [c]; simp) ⟨kk, ?_⟩
            rw [difs_succ, if_pos c, List.append_nil]
            exact hG
          · refine itP (by simp [c]) ?_
            have len := Nat.le_trans (difs_len (wd l m r t) (wd l2 m2 r2 t2) lo i) (show i ≤ 20000 by omega)
            refine ⟨_, rfl, _, hG, by rw [List.length_map]; exact szlt (by omega), ex_mut kk (free_same k14 hD), ?_⟩
            rw [upd_same, difs_succ, if_neg c, List.map_append]
            rfl
        · rintro G ⟨kk, hG⟩
          exact z2 nf G D kk (free_same k14 hD) hG
end
end K40

end
section
set_option Elab.async false
set_option linter.all false
set_option maxRecDepth 100000
set_option maxHeartbeats 4000000
namespace K40
open PySem PySem.Spec PyProof.Rows L2 Kit
section
variable {P : Program} {w : World} {K : PySem.W.Frag} {mg : Str → Option Value} {base : Heap} {a : Ad}
def spColsH (a : Ad) : Sp := fun vs H Q _ => ∃ (p s q : Addr) (R C n : Nat) (l m r : List Nat) (t : Int), vs = [.ref p, .ref q] ∧ EndAt a H p s R C n l m r t ∧ H q = some (tpl l m r t) ∧ ∀ G, Same H G → Q (.bl true) G
theorem c_law_columns_hold (T : Txt K mg a) : Can P w K mg base 2 "_law_columns_hold" (spColsH a) := by
  refine can_of T.d_law_columns_hold sc_law_columns_hold bd_law_columns_hold (fun vs H Q E h => ?_) (fun f cdv A outer s0 H vs Q E hr h => ?_)
  · obtain ⟨p, s, q, R, C, n, l, m, r, t, rfl, _⟩ := h
    rfl
  · obtain ⟨p, s, q, R, C, n, l, m, r, t, rfl, e1, hq, z⟩ := h
    refine ⟨_, (pss_cons (ps_set (i := 2) sc_law_columns_hold.nd rfl (.inl rfl) (pe_op op_cat (pe_listRg (by rfl) (by rfl) T.b_list (prg_2 (by rfl) T.b_range (pe_op op_sub (pe_ix (kix_tup K) (pv 1) pe_int (fun _ _ => rfl)) pe_int) (pe_op op_add (pe_op op_add (pe_ix (kix_tup K) (pv 1) pe_int (fun _ _ => rfl)) (pe_callB call_len_str (by rfl) T.b_len (by decide +kernel) (pa_cons (pe_ix (kix_tup K) (pv 1) pe_int (fun _ _ => rfl)) pa_nil))) pe_int))) (pe_lst (pa_cons (pe_un un_neg pe_int) (pa_cons (pe_un un_neg pe_int) (pa_cons pe_int (pa_cons pe_int pa_nil)))))))
      (pss_cons (ps_for (passes_of rfl) (by rfl) (kpi_list K (pv 2)) (pg_name (i := 3) sc_law_columns_hold.nd rfl (.inl rfl)) (pss_cons (ps_set (i := 4) sc_law_columns_hold.nd rfl (.inl rfl) (pc_m (c_Endless_column_at T) hr (by decide) (pv 0) (pa_cons (pv 3) pa_nil)))
      (pss_one (ps_if (PW.pt (pw_or (pt_not (pt_val (pe_callB (kisi K) (by rfl) T.b_isinstance (by decide +kernel) (pa_cons (pv 4) (pa_cons (pe_bltn (v := .ty "str") (by rfl) T.b_str (by decide +kernel) rfl) pa_nil))))) (pw_or1 (pt_cmpR op_ne (pv 4) (pc_f (c_law_column T) hr (by decide) (by rfl) (pa_cons (pv 1) (pa_cons (pv 3) pa_nil))) (nomark _))))) (pss_one (ps_ret pe_bl)) pss_nil))))
      (pss_one (ps_ret pe_bl)))), ?_⟩
    have ok := e1.ok
    have m1 := ok.m1
    have t1 := ok.t1
    have t2 := ok.t2
    have sz : ∀ {x : List Nat}, x.length ≤ 1000 → (S x).length ≤ sizeLine := fun h => by rw [S_len]; exact szl (by omega)
    refine ⟨_, rfl, q, _, 3, _, rfl, rfl, seqT_of hq, rfl, t, 8, rfl, rfl, ?_⟩
    refine ⟨_, rfl, q, _, 3, _, rfl, rfl, seqT_of hq, rfl, _, rfl, q, _, 1, _, rfl, rfl, seqT_of hq, rfl, _, rfl, sz (by omega), _, _, rfl, rfl, _, 8, rfl, rfl, _, _, rfl, rfl, ?_⟩
    rw [S_len]
    refine ⟨⟨by omega, by omega, by omega, by omega, by omega⟩, fun b1 hb1 => ?_⟩
    have len := rgV_length (t - 8) (t + m.length + 8)
    refine ⟨1000, rfl, 999, rfl, by show 4 ≤ sizeLine; decide, fun b2 hb2 => ?_⟩
    have e2 := ex_new hb2 (o := .lst [V.int (-1000), .int (-999), .int 998, .int 1000])
    refine ⟨b1, b2, _, _, rfl, rfl, e2 _ _ upd_same, upd_same, by rw [len]; exact szl (by show _ + 4 ≤ _; omega), fun b3 hb3 => ?_⟩
    have e3 := ex_new hb3 (o := .lst (rgV (t - 8) (t + m.length + 8) ++ [V.int (-1000), .int (-999), .int 998, .int 1000]))
    have k3 := ((ex_new hb1).trans e2).trans e3
    have allI : ∀ (i : Nat) (x : V), (rgV (t - 8) (t + m.length + 8) ++ [V.int (-1000), .int (-999), .int 998, .int 1000])[i]? = some x → ∃ j, x = .int j := fun i x h => by
      have h := List.mem_of_getElem? h
      rcases List.mem_append.mp h with h | h
      · obtain ⟨k, _, rfl⟩ := List.mem_map.mp h
        exact ⟨_, rfl⟩
      · simp at h
        rcases h with rfl | rfl | rfl | rfl <;> exact ⟨_, rfl⟩
    have hb3 : upd (upd (upd H b1 (.lst (rgV (t - 8) (t + m.length + 8)))) b2 (.lst [V.int (-1000), .int (-999), .int 998, .int 1000])) b3 (.lst (rgV (t - 8) (t + m.length + 8) ++ [V.int (-1000), .int (-999), .int 998, .int 1000])) b3 = some (.lst (rgV (t - 8) (t + m.length + 8) ++ [V.int (-1000), .int (-999), .int 998, .int 1000])) := upd_same
    generalize rgV (t - 8) (t + m.length + 8) ++ [V.int (-1000), .int (-999), .int 998, .int 1000] = xs at *
    refine ⟨_, rfl, b3, rfl, ⟨_, seqL_of hb3⟩, for_it (walk_list (xs := xs)) (fun i σ G => Same H G ∧ G b3 = some (.lst xs) ∧ ∃ x y, σ = [some (.ref p), some (.ref q), some (.ref b3), x, y]) ⟨k3, hb3, none, none, rfl⟩ (fun i σ G _ h => seqL_of h.2.1) ?_ ?_⟩
    · rintro i x σ G G' hi ⟨k4, hG, x0, y0, rfl⟩ ⟨rfl, hx⟩
      obtain ⟨j, rfl⟩ := allI i x hx
      have e5 := e1.mono k4
      obtain ⟨dx, hp⟩ := e5.ob
      refine ⟨_, rfl, p, dx, _, rfl, hp, fe_no s l m r t (by decide +kernel), _, rfl, p, s, R, C, n, l, m, r, t, j, rfl, e5, ?_⟩
      refine ⟨_, rfl, _, _, _, _, true, rfl, .ty _, .base (.str _), rfl, _, rfl, iteF ?_⟩
      exact ⟨_, rfl, _, rfl, _, rfl, q, n, l, m, r, t, j, rfl, k4 _ _ hq, ok, rfl, _, rfl, neT ⟨k4, hG, _, _, rfl⟩⟩
    · rintro σ G ⟨k4, hG, x0, y0, rfl⟩
      exact z G k4
end
end K40

end
section
set_option Elab.async false
set_option linter.all false
set_option maxRecDepth 100000
set_option maxHeartbeats 4000000
namespace K40
open PySem PySem.Spec PyProof.Rows L2 Kit
def PairsAt (H : Hp) (ps : List Addr) : Prop := ∀ p ∈ ps, ∃ b e : Int, H p = some (.tup [.int b, .int e]) ∧ -15000 ≤ b ∧ b ≤ 15000 ∧ -15000 ≤ e ∧ e ≤ 15000
theorem PairsAt.mono {H G : Hp} {ps : List Addr} (h : PairsAt H ps) (e : Same H G) : PairsAt G ps := fun p hp => let ⟨b, x, h1, h2⟩ := h p hp; ⟨b, x, e _ _ h1, h2⟩
theorem PairsAt.bu {H G : Hp} {ps : List Addr} {k m : Nat} {b : Addr} (h : PairsAt H ps) (hb : BoxAt k H b) (e : Bu m b H G) : PairsAt G ps := fun p hp => let ⟨c, x, h1, h2⟩ := h p hp; ⟨c, x, tup_bu h1 hb e, h2⟩
section
variable {P : Program} {w : World} {K : PySem.W.Frag} {mg : Str → Option Value} {base : Heap} {a : Ad}
def spWinH (a : Ad) : Sp := fun vs H Q _ => ∃ (b p s q : Addr) (k R C n : Nat) (l m r : List Nat) (t : Int), vs = [.ref b, .ref p, .ref q] ∧ BoxAt (k + 6) H b ∧ EndAt a H p s R C n l m r t ∧ H q = some (tpl l m r t) ∧ ∀ G, Bu k b H G → Q (.bl true) G
theorem c_law_windows_hold (T : Txt K mg a) : Can P w K mg base 3 "_law_windows_hold" (spWinH a) := by
  refine can_of T.d_law_windows_hold sc_law_windows_hold bd_law_windows_hold (fun vs H Q E h => ?_) (fun f cdv A outer s0 H vs Q E hr h => ?_)
  · obtain ⟨b, p, s, q, k, R, C, n, l, m, r, t, rfl, _⟩ := h
    rfl
  · obtain ⟨b, p, s, q, k, R, C, n, l, m, r, t, rfl, hb, e1, hq, z⟩ := h
    refine ⟨_, (pss_cons (ps_set (i := 3) sc_law_windows_hold.nd rfl (.inl rfl) (pe_lst (pa_cons (pe_tup (pa_cons (pe_un un_neg pe_int) (pa_cons (pe_un un_neg pe_int) pa_nil))) (pa_cons (pe_tup (pa_cons pe_int (pa_cons pe_int pa_nil))) (pa_cons (pe_tup (pa_cons (pe_ix (kix_tup K) (pv 2) pe_int (fun _ _ => rfl)) (pa_cons (pe_ix (kix_tup K) (pv 2) pe_int (fun _ _ => rfl)) pa_nil))) (pa_cons (pe_tup (pa_cons (pe_op op_add (pe_ix (kix_tup K) (pv 2) pe_int (fun _ _ => rfl)) pe_int) (pa_cons (pe_op op_sub (pe_ix (kix_tup K) (pv 2) pe_int (fun _ _ => rfl)) pe_int) pa_nil))) pa_nil))))))
      (pss_cons (ps_for (passes_of rfl) (by rfl) (pi_range1 (by rfl) T.b_range (pa_cons pe_int pa_nil)) (pg_name (i := 4) sc_law_windows_hold.nd rfl (.inl rfl)) (pss_cons (ps_set (i := 5) sc_law_windows_hold.nd rfl (.inl rfl) (pe_op op_sub (pe_op op_add (pe_ix (kix_tup K) (pv 2) pe_int (fun _ _ => rfl)) (pc_f (c_law_draw T) hr (by decide) (by rfl) (pa_cons (pv 0) (pa_cons pe_int pa_nil)))) pe_int))
      (pss_one (ps_expr (pe_bm PySem.F.plainAttrs_list PySem.F.slot_list_append PySem.F.type_list_append mt_append (pv 3) (pa_cons (pe_tup (pa_cons (pv 5) (pa_cons (pe_op op_sub (pe_op op_add (pv 5) (pc_f (c_law_draw T) hr (by decide) (by rfl) (pa_cons (pv 0) (pa_cons pe_int pa_nil)))) pe_int) pa_nil))) pa_nil))))))
      (pss_cons (ps_for (passes_of rfl) (by rfl) (kpi_list K (pv 3)) (pg_tup rfl (pgs_cons (pg_name (i := 5) sc_law_windows_hold.nd rfl (.inl rfl)) (pgs_cons (pg_name (i := 6) sc_law_windows_hold.nd rfl (.inl rfl)) pgs_nil))) (pss_cons (ps_set (i := 7) sc_law_windows_hold.nd rfl (.inl rfl) (pc_m (c_Endless_window T) hr (by decide) (pv 1) (pa_cons (pv 5) (pa_cons (pv 6) pa_nil))))
      (pss_one (ps_if (PW.pt (pw_or (pt_not (pt_val (pe_callB (kisi K) (by rfl) T.b_isinstance (by decide +kernel) (pa_cons (pv 7) (pa_cons (pe_bltn (v := .ty "str") (by rfl) T.b_str (by decide +kernel) rfl) pa_nil))))) (pw_or1 (pt_cmpR op_ne (pv 7) (pc_f (c_law_text T) hr (by decide) (by rfl) (pa_cons (pv 2) (pa_cons (pv 5) (pa_cons (pv 6) pa_nil)))) (nomark _))))) (pss_one (ps_ret pe_bl)) pss_nil))))
      (pss_one (ps_ret pe_bl))))), ?_⟩
    have ok := e1.ok
    have t1 := ok.t1
    have t2 := ok.t2
    refine ⟨1000, rfl, 961, rfl, by show 2 ≤ sizeLine; decide, fun p1 h1 => ?_⟩
    refine ⟨by show 2 ≤ sizeLine; decide, fun p2 h2 => ?_⟩
    have u1 := (Bu.refl hb).put hb h1 (o := .tup [.int (-1000), .int (-961)])
    have u2 := u1.put hb (bu_free u1 h2) (o := .tup [.int 961, .int 1000])
    have x1 := ex_new h1 (o := .tup [.int (-1000), .int (-961)])
    have x2 := ex_new h2 (o := .tup [.int 961, .int 1000])
    have q2 := x2 _ _ (x1 _ _ hq)
    refine ⟨_, rfl, q, _, 3, _, rfl, rfl, seqT_of q2, rfl, _, rfl, q, _, 3, _, rfl, rfl, seqT_of q2, rfl, by show 2 ≤ sizeLine; decide, fun p3 h3 => ?_⟩
    have u3 := u2.put hb (bu_free u2 h3) (o := .tup [.int t, .int t])
    have x3 := ex_new h3 (o := .tup [.int t, .int t])
    have q3 := x3 _ _ q2
    refine ⟨_, rfl, q, _, 3, _, rfl, rfl, seqT_of q3, rfl, t, 3, rfl, rfl, _, rfl, q, _, 3, _, rfl, rfl, seqT_of q3, rfl, t, 4, rfl, rfl, by show 2 ≤ sizeLine; decide, fun p4 h4 => ?_⟩
    have u4 := u3.put hb (bu_free u3 h4) (o := .tup [.int (t + 3), .int (t - 4)])
    have x4 := ex_new h4 (o := .tup [.int (t + 3), .int (t - 4)])
    refine ⟨by show 4 ≤ sizeLine; decide, fun D h5 => ?_⟩
    have fD := bu_free u4 h5
    have u5 := u4.put hb fD (o := .lst [.ref p1, .ref p2, .ref p3, .ref p4])
    have x5 := ex_new h5 (o := .lst [.ref p1, .ref p2, .ref p3, .ref p4])
    have ps0 : PairsAt (upd (upd (upd (upd (upd H p1 (.tup [.int (-1000), .int (-961)])) p2 (.tup [.int 961, .int 1000])) p3 (.tup [.int t, .int t])) p4 (.tup [.int (t + 3), .int (t - 4)])) D (.lst [.ref p1, .ref p2, .ref p3, .ref p4])) [p1, p2, p3, p4] := by
      intro x hx
      simp only [List.mem_cons, List.not_mem_nil, or_false] at hx
      rcases hx with rfl | rfl | rfl | rfl
      · exact ⟨_, _, x5 _ _ (x4 _ _ (x3 _ _ (x2 _ _ upd_same))), by omega, by omega, by omega, by omega⟩
      · exact ⟨_, _, x5 _ _ (x4 _ _ (x3 _ _ upd_same)), by omega, by omega, by omega, by omega⟩
      · exact ⟨_, _, x5 _ _ (x4 _ _ upd_same), by omega, by omega, by omega, by omega⟩
      · exact ⟨_, _, x5 _ _ upd_same, by omega, by omega, by omega, by omega⟩
    refine ⟨3, rfl, by decide, by decide, for_it (walk_range (lo := 0) (n := 3)) (fun i σ G => Bu (k + (6 - 2 * i)) b H G ∧ (∃ ps : List Addr, ps.length = 4 + i ∧ G D = some (.lst (ps.map V.ref)) ∧ PairsAt G ps) ∧ ∃ x y, σ = [some (.ref b), some (.ref p), some (.ref q), some (.ref D), x, y, none, none]) ⟨u5, ⟨[p1, p2, p3, p4], rfl, upd_same, ps0⟩, none, none, rfl⟩ (fun _ _ _ _ _ => True.intro) ?_ ?_⟩
    · rintro i x σ G G' hi ⟨u6, ⟨ps, lps, hD, hps⟩, x0, y0, rfl⟩ ⟨rfl, rfl⟩
      have hq6 := tup_bu hq hb u6
      refine ⟨_, rfl, q, _, 3, _, rfl, rfl, seqT_of hq6, rfl, _, rfl, b, 50, k + (6 - 2 * i - 1), rfl, u6.box.le (by omega), by decide, by decide, fun d1 G1 a1 a2 u7 => ⟨t, d1, rfl, rfl, _, 30, rfl, rfl, ?_⟩⟩
      have nD := box_ne hb fD
      have hD7 := u7.1 _ _ hD nD
      refine ⟨_, rfl, .inl ⟨rfl, _, seqL_of hD7⟩, _, rfl, _, rfl, _, rfl, b, 51, k + (6 - 2 * (i + 1)), rfl, u7.box.le (by omega), by decide, by decide, fun d2 G2 c1 c2 u8 => ⟨_, d2, rfl, rfl, _, 5, rfl, rfl, by show 2 ≤ sizeLine; decide, fun y hy => ?_⟩⟩
      have u78 := u7.trans u8
      have hD8 := u78.1 _ _ hD nD
      have u68 := u6.trans u78
      have u9 := u68.put hb (bu_free u68 hy) (o := .tup [.int (t + d1 - 30), .int (t + d1 - 30 + d2 - 5)])
      have x9 := ex_new hy (o := .tup [.int (t + d1 - 30), .int (t + d1 - 30 + d2 - 5)])
      refine ⟨D, _, _, rfl, rfl, x9 _ _ hD8, by rw [List.length_map]; exact szlt (by omega), ?_⟩
      have nyD : y ≠ D := fun q => by rw [q, hD8] at hy; cases hy
      refine ⟨u9.put hb fD, ⟨ps ++ [y], by rw [List.length_append, lps]; rfl, by rw [upd_same, List.map_append]; rfl, fun p' hp' => ?_⟩, _, _, rfl⟩
      have hps9 := (hps.bu u6.box u78).mono x9
      rcases List.mem_append.mp hp' with hp' | hp'
      · obtain ⟨c, e, g1, g2⟩ := hps9 p' hp'
        have : p' ≠ D := fun q => by rw [q, x9 _ _ hD8] at g1; cases g1
        exact ⟨c, e, by rw [upd_ne this]; exact g1, g2⟩
      · rw [List.mem_singleton.mp hp']
        exact ⟨_, _, by rw [upd_ne nyD]; exact upd_same, by omega, by omega, by omega, by omega⟩
    · rintro σ G ⟨u6, ⟨ps, lps, hD, hps⟩, x0, y0, rfl⟩
      have e6 := e1.bu hb u6
      have hq6 := tup_bu hq hb u6
      refine ⟨_, rfl, D, rfl, ⟨_, seqL_of hD⟩, for_it (walk_list (xs := ps.map V.ref)) (fun i σ M => Same G M ∧ ∃ x y z u, σ = [some (.ref b), some (.ref p), some (.ref q), some (.ref D), x, y, z, u]) ⟨.refl _, _, _, _, _, rfl⟩ (fun i σ M _ h => seqL_of (h.1 _ _ hD)) ?_ ?_⟩
      · rintro i x σ M M' hi ⟨k7, x1, x2, x3, x4, rfl⟩ ⟨rfl, hx⟩
        obtain ⟨y, hy, rfl⟩ := List.mem_map.mp (List.mem_of_getElem? hx)
        obtain ⟨c, e, g1, g2, g3, g4, g5⟩ := hps y hy
        have e7 := e6.mono k7
        obtain ⟨dx, hp⟩ := e7.ob
        refine ⟨y, _, rfl, seqT_of (k7 _ _ g1), rfl, _, _, rfl, _, _, rfl, rfl, ?_⟩
        refine ⟨_, rfl, p, dx, _, rfl, hp, fe_no s l m r t (by decide +kernel), _, rfl, _, rfl, p, s, R, C, n, l, m, r, t, c, e, rfl, e7, by omega, by omega, by omega, by omega, fun M2 k8 => ?_⟩
        refine ⟨_, rfl, _, _, _, _, true, rfl, .ty _, .base (.str _), rfl, _, rfl, iteF ?_⟩
        exact ⟨_, rfl, _, rfl, _, rfl, _, rfl, q, n, l, m, r, t, c, e, rfl, k8 _ _ (k7 _ _ hq6), ok, by omega, by omega, by omega, by omega, fun M3 k9 => ⟨rfl, _, rfl, neT ⟨(k7.trans k8).trans k9, _, _, _, _, rfl⟩⟩⟩
      · rintro σ M ⟨k7, x1, x2, x3, x4, rfl⟩
        exact z M ((u6.le (by omega)).same k7)
end
end K40

end
section
set_option Elab.async false
set_option linter.all false
set_option maxRecDepth 100000
set_option maxHeartbeats 4000000
namespace K40
open PySem PySem.Spec PyProof.Rows L2 Kit
theorem mn_comm (t t2 : Int) : mn t t2 = mn t2 t := by unfold mn; split <;> split <;> omega
theorem mx_comm (t t2 : Int) : mx t t2 = mx t2 t := by unfold mx; split <;> split <;> omega
/-- what the gaps of two words are: None or the list of the places -/
def GapV (H : Hp) (w v : Int → Nat) (lo hi : Int) (x : V) : Prop := (Far w v lo hi ∧ x = .non) ∨ (¬ Far w v lo hi ∧ ∃ q, x = .ref q ∧ H q = some (.lst ((difs w v lo (hi - lo).toNat).map V.int)))
theorem GapV.mono {H G : Hp} {w v : Int → Nat} {lo hi : Int} {x : V} (h : GapV H w v lo hi x) (e : Same H G) : GapV G w v lo hi x := h.elim .inl fun ⟨f, q, e1, e2⟩ => .inr ⟨f, q, e1, e _ _ e2⟩
theorem GapV.bu {H G : Hp} {w v : Int → Nat} {lo hi : Int} {x : V} {k m : Nat} {b : Addr} (h : GapV H w v lo hi x) (hb : BoxAt k H b) (e : Bu m b H G) : GapV G w v lo hi x := by
  rcases h with h | ⟨f, q, e1, e2⟩
  · exact .inl h
  · refine .inr ⟨f, q, e1, e.1 _ _ e2 fun eq => ?_⟩
    obtain ⟨q', ns, i, x, y, z, hp, _⟩ := hb
    rw [eq, hp] at e2
    have e2 := HO.lst.inj (Option.some.inj e2)
    cases hd : difs w v lo (hi - lo).toNat with
    | nil => rw [hd] at e2; cases e2
    | cons c cs => rw [hd] at e2; cases e2
def gapB (w v : Int → Nat) (lo hi : Int) (x : V) : Bool := decide (x ≠ .non) && decide (difs w v lo (hi - lo).toNat = [])
theorem gapB_iff {H : Hp} {w v : Int → Nat} {lo hi : Int} {x : V} (h : GapV H w v lo hi x) (le : lo ≤ hi) : gapB w v lo hi x = true ↔ ∀ i, w i = v i := by
  unfold gapB
  rw [Bool.and_eq_true, decide_eq_true_iff, decide_eq_true_iff, same_iff le]
  rcases h with ⟨f, rfl⟩ | ⟨f, q, rfl, _⟩
  · exact ⟨fun h => absurd rfl h.1, fun h => absurd f h.1⟩
  · exact ⟨fun h => ⟨f, h.2⟩, fun h => ⟨nofun, h.2⟩⟩
theorem bool_iff {a b : Bool} {p : Prop} (h : a = true ↔ p) (g : b = true ↔ p) : a = b := by
  cases a <;> cases b
  · rfl
  · exact absurd (h.mpr (g.mp rfl)) (by decide)
  · exact absurd (g.mpr (h.mp rfl)) (by decide)
  · rfl
theorem gap_dp {K : PySem.W.Frag} {H : Hp} {w v : Int → Nat} {lo hi : Int} {x : V} (h : GapV H w v lo hi x) : ∃ d, Dp K H x d ∧ d.plain = true ∧ d.depth ≤ 64 ∧ PyData.eqv d (pdI []) = gapB w v lo hi x := by
  rcases h with ⟨f, rfl⟩ | ⟨f, q, rfl, hq⟩
  · exact ⟨.none, .non, rfl, by decide, rfl⟩
  · refine ⟨_, dp_int hq, plainI _, depthI _, ?_⟩
    rw [pdI_nil]
    unfold gapB
    rw [decide_eq_true (p := V.ref q ≠ V.non) nofun, Bool.true_and]
section
variable {P : Program} {w : World} {K : PySem.W.Frag} {mg : Str → Option Value} {base : Heap} {a : Ad}
def spGapsH (a : Ad) : Sp := fun vs H Q _ => ∃ (p s p2 s2 : Addr) (R C n n2 : Nat) (l m r l2 m2 r2 : List Nat) (t t2 : Int) (x : V), vs = [.ref p, .ref p2, x] ∧ EndAt a H p s R C n l m r t ∧ EndAt a H p2 s2 R C n2 l2 m2 r2 t2 ∧ GapV H (wd l m r t) (wd l2 m2 r2 t2) (mn t t2) (mx (t + m.length) (t2 + m2.length)) x ∧ ∀ G, Same H G → Q (.bl true) G
theorem c_law_gaps_hold (T : Txt K mg a) : Can P w K mg base 5 "_law_gaps_hold" (spGapsH a) := by
  refine can_of T.d_law_gaps_hold sc_law_gaps_hold bd_law_gaps_hold (fun vs H Q E h => ?_) (fun f cdv A outer s0 H vs Q E hr h => ?_)
  · obtain ⟨p, s, p2, s2, R, C, n, n2, l, m, r, l2, m2, r2, t, t2, x, rfl, _⟩ := h
    rfl
  · obtain ⟨p, s, p2, s2, R, C, n, n2, l, m, r, l2, m2, r2, t, t2, x, rfl, e1, e2, gv, z⟩ := h
    refine ⟨_, (pss_cons (ps_for (passes_of rfl) (by rfl) (kpi_list K (pe_lst (pa_cons (pe_cmpR (eqO K (c_Endless_eq T) hr (by decide) T.p_ni T.p_ns) (pv 0) (pv 1) (nomark _)) (pa_cons (pe_cmpR (eqO K (c_Endless_eq T) hr (by decide) T.p_ni T.p_ns) (pv 1) (pv 0) (nomark _)) pa_nil)))) (pg_name (i := 3) sc_law_gaps_hold.nd rfl (.inl rfl)) (pss_one (ps_if (PW.pt (pw_or (pt_not (pt_val (pe_callB (kisi K) (by rfl) T.b_isinstance (by decide +kernel) (pa_cons (pv 3) (pa_cons (pe_bltn (v := .ty "bool") (by rfl) T.b_bool (by decide +kernel) rfl) pa_nil))))) (pw_or1 (pt_cmpR (kneP K hr.units) (pv 3) (pe_cmpR (keqP K hr.units) (pv 2) (pe_lst pa_nil) (nomark _)) (nomark _))))) (pss_one (ps_ret pe_bl)) pss_nil)))
      (pss_cons (ps_for (passes_of rfl) (by rfl) (pi_range1 (by rfl) T.b_range (pa_cons pe_int pa_nil)) (pg_name (i := 4) sc_law_gaps_hold.nd rfl (.inl rfl)) (C8.pss_cut (ps_set (i := 5) sc_law_gaps_hold.nd rfl (.inl rfl) (pc_f (c_endless_apart T) hr (by decide) (by rfl) (pa_cons (pv 0) (pa_cons (pv 1) pa_nil))))
      (C8.pss_cut (ps_if (pt_cmpR op_eq (pv 4) pe_int (nomark _)) (pss_one (ps_set (i := 5) sc_law_gaps_hold.nd rfl (.inl rfl) (pc_f (c_endless_apart T) hr (by decide) (by rfl) (pa_cons (pv 1) (pa_cons (pv 0) pa_nil))))) pss_nil)
      (pss_one (ps_if (pt_cmpR op_isN (pv 2) pe_non (nomark _)) (pss_one (ps_if (pt_cmpR op_notN (pv 5) pe_non (nomark _)) (pss_one (ps_ret pe_bl)) pss_nil)) (pss_cons (ps_if (PW.pt (pw_or (pt_not (pt_val (pe_callB (kisi K) (by rfl) T.b_isinstance (by decide +kernel) (pa_cons (pv 5) (pa_cons (pe_bltn (v := .ty "list") (by rfl) T.b_list (by decide +kernel) rfl) pa_nil))))) (pw_or1 (pt_cmpR op_ne (pe_callB (klen_seq K) (by rfl) T.b_len (by decide +kernel) (pa_cons (pv 5) pa_nil)) (pe_callB (klen_seq K) (by rfl) T.b_len (by decide +kernel) (pa_cons (pv 2) pa_nil)) (nomark _))))) (pss_one (ps_ret pe_bl)) pss_nil)
      (pss_cons (ps_for (passes_of rfl) (by rfl) (pi_range1 (by rfl) T.b_range (pa_cons (pe_callB (klen_seq K) (by rfl) T.b_len (by decide +kernel) (pa_cons (pv 2) pa_nil)) pa_nil)) (pg_name (i := 6) sc_law_gaps_hold.nd rfl (.inl rfl)) (pss_one (ps_if (PW.pt (pw_or (pt_not (pt_val (pe_callB (kisi K) (by rfl) T.b_isinstance (by decide +kernel) (pa_cons (pe_ix (kix_list K) (pv 5) (pv 6) (fun _ _ => rfl)) (pa_cons (pe_bltn (v := .ty "int") (by rfl) T.b_int (by decide +kernel) rfl) pa_nil))))) (pw_or (pt_val (pe_callB (kisi K) (by rfl) T.b_isinstance (by decide +kernel) (pa_cons (pe_ix (kix_list K) (pv 5) (pv 6) (fun _ _ => rfl)) (pa_cons (pe_bltn (v := .ty "bool") (by rfl) T.b_bool (by decide +kernel) rfl) pa_nil)))) (pw_or1 (pt_cmpR op_ne (pe_ix (kix_list K) (pv 5) (pv 6) (fun _ _ => rfl)) (pe_ix (kix_list K) (pv 2) (pv 6) (fun _ _ => rfl)) (nomark _)))))) (pss_one (ps_ret pe_bl)) pss_nil)))
      (pss_one (ps_expr (pe_bm PySem.F.plainAttrs_list PySem.F.slot_list_append PySem.F.type_list_append mt_append (pv 5) (pa_cons pe_int pa_nil)))))))))))
      (pss_one (ps_ret pe_bl)))), ?_⟩
    obtain ⟨dx, hp⟩ := e1.ob
    obtain ⟨dx2, hp2⟩ := e2.ob
    have le : mn t t2 ≤ mx (t + m.length) (t2 + m2.length) := mn_mx t t2 m m2
    have len : (difs (wd l m r t) (wd l2 m2 r2 t2) (mn t t2) (mx (t + m.length) (t2 + m2.length) - mn t t2).toNat).length ≤ 20000 := Nat.le_trans (difs_len _ _ _ _) (by
      have o1 := e1.ok
      have o2 := e2.ok
      have := o1.t1
      have := o1.t2
      have := o1.m1
      have := o2.t1
      have := o2.t2
      have := o2.m1
      unfold mn mx
      split <;> split <;> omega)
    have gi := gapB_iff gv le
    refine ⟨_, rfl, _, rfl, p, _, _, rfl, hp, .inr (.inr ⟨p2, _, _, rfl, hp2⟩), p, s, R, C, n, l, m, r, t, _, rfl, e1, .inr ⟨p2, s2, R, C, n2, l2, m2, r2, t2, rfl, e2, fun c => absurd ⟨rfl, rfl⟩ c, fun _ b1 hb1 G1 k1 => ?_⟩⟩
    refine ⟨_, rfl, _, rfl, _, rfl, p2, _, _, rfl, k1 _ _ hp2, .inr (.inr ⟨p, _, _, rfl, k1 _ _ hp⟩), p2, s2, R, C, n2, l2, m2, r2, t2, _, rfl, e2.mono k1, .inr ⟨p, s, R, C, n, l, m, r, t, rfl, e1.mono k1, fun c => absurd ⟨rfl, rfl⟩ c, fun _ b2 hb2 G2 k2 => ?_⟩⟩
    have g1 : b1 = gapB (wd l m r t) (wd l2 m2 r2 t2) (mn t t2) (mx (t + m.length) (t2 + m2.length)) x := bool_iff hb1 gi
    have g2 : b2 = gapB (wd l m r t) (wd l2 m2 r2 t2) (mn t t2) (mx (t + m.length) (t2 + m2.length)) x := bool_iff (hb2.trans ⟨fun h i => (h i).symm, fun h i => (h i).symm⟩) gi
    generalize hg : gapB (wd l m r t) (wd l2 m2 r2 t2) (mn t t2) (mx (t + m.length) (t2 + m2.length)) x = g at g1 g2
    have g1 := g1.symm
    have g2 := g2.symm
    subst g1 g2
    refine ⟨_, rfl, by show 2 ≤ sizeLine; decide, fun D hD => ?_⟩
    have k3 := (k1.trans k2).trans (ex_new hD (o := .lst [V.bl g, .bl g]))
    refine ⟨D, rfl, ⟨_, seqL_of upd_same⟩, for_it (walk_list (xs := [V.bl g, .bl g])) (fun i σ G => Same H G ∧ G D = some (.lst [V.bl g, .bl g]) ∧ ∃ y, σ = [some (.ref p), some (.ref p2), some x, y, none, none, none]) ⟨k3, upd_same, none, rfl⟩ (fun i σ G _ h => seqL_of h.2.1) ?_ ?_⟩
    · rintro i y σ G G' hi ⟨k4, hG, y0, rfl⟩ ⟨rfl, hy⟩
      have ey : y = .bl g := by
        have := List.mem_of_getElem? hy
        simpa using this
      subst ey
      refine ⟨_, rfl, _, _, _, _, true, rfl, .ty _, .base (.bl _), rfl, _, rfl, iteF ?_⟩
      refine ⟨_, rfl, _, rfl, by show 0 ≤ sizeLine; decide, fun b hb => ?_⟩
      have k5 := k4.trans (ex_new hb (o := .lst []))
      obtain ⟨d, dp, pl, dd, ev⟩ := gap_dp (K := K) (gv.mono k5)
      rw [hg] at ev
      refine ⟨d, pdI [], dp, dp_int (xs := []) upd_same, pl, plainI [], dd, ?_⟩
      rw [ev]
      exact ⟨.bool g, .bool g, .bl g, .bl g, rfl, rfl, by cases g <;> decide, _, rfl, itN (by rw [SeqAt.eqv_refl_plain _ rfl]; decide) ⟨k5, ex_new hb _ _ hG, _, rfl⟩⟩
    · rintro σ G ⟨k4, hG, y0, rfl⟩
      clear hb1 hb2
      refine ⟨3, rfl, by decide, by decide, for_it (walk_range (lo := 0) (n := 3)) (fun i σ G => Same H G ∧ ∃ u v y c, σ = [some (.ref p), some (.ref p2), some x, u, v, y, c]) ⟨k4, _, _, _, _, rfl⟩ (fun _ _ _ _ _ => True.intro) ?_ ?_⟩
      · rintro i y σ G G' hi ⟨k5, u0, v0, w0, c0, rfl⟩ ⟨rfl, rfl⟩
        refine ⟨(fun σ N => ∃ y, Same H N ∧ ((x = .non ∧ y = .non) ∨ ∃ q, y = .ref q ∧ H q = none ∧ x ≠ .non ∧ N q = some (.lst ((difs (wd l m r t) (wd l2 m2 r2 t2) (mn t t2) (mx (t + m.length) (t2 + m2.length) - mn t t2).toNat).map V.int))) ∧ σ = [some (.ref p), some (.ref p2), some x, u0, some (.int (0 + (i : Nat))), some y, c0]), ?_, ?_⟩
        · refine ⟨_, rfl, _, rfl, p, s, p2, s2, R, C, n, R, C, n2, l, m, r, l2, m2, r2, t, t2, rfl, e1.mono k5, e2.mono k5, fun c => absurd ⟨rfl, rfl⟩ c, fun _ f M k => ?_, fun _ f M q k hq hM => ?_⟩
          · rcases gv with ⟨_, ex⟩ | ⟨nf, _⟩
            · exact ⟨_, k5.trans k, .inl ⟨ex, rfl⟩, rfl⟩
            · exact absurd f nf
          · rcases gv with ⟨ff, _⟩ | ⟨nf, q0, ex, _⟩
            · exact absurd ff f
            · exact ⟨_, k5.trans k, .inr ⟨q, rfl, free_same k5 hq, by rw [ex]; exact nofun, hM⟩, rfl⟩
        · rintro _ N ⟨y, k7, hy, rfl⟩
          refine ⟨(fun σ N => ∃ y, Same H N ∧ ((x = .non ∧ y = .non) ∨ ∃ q, y = .ref q ∧ H q = none ∧ x ≠ .non ∧ N q = some (.lst ((difs (wd l m r t) (wd l2 m2 r2 t2) (mn t t2) (mx (t + m.length) (t2 + m2.length) - mn t t2).toNat).map V.int))) ∧ σ = [some (.ref p), some (.ref p2), some x, u0, some (.int (0 + (i : Nat))), some y, c0]), ?_, ?_⟩
          · refine ⟨_, rfl, rfl, _, rfl, ite2 (fun _ => ?_) (fun _ => ⟨y, k7, hy, rfl⟩)⟩
            refine ⟨_, rfl, _, rfl, p2, s2, p, s, R, C, n2, R, C, n, l2, m2, r2, l, m, r, t2, t, rfl, e2.mono k7, e1.mono k7, fun c => absurd ⟨rfl, rfl⟩ c, fun _ f M k => ?_, fun _ f M q k hq hM => ?_⟩
            · rw [mn_comm, mx_comm] at f
              have f := far_comm.mp f
              rcases gv with ⟨_, ex⟩ | ⟨nf, _⟩
              · exact ⟨_, k7.trans k, .inl ⟨ex, rfl⟩, rfl⟩
              · exact absurd f nf
            · rw [mn_comm, mx_comm] at f
              rw [mn_comm, mx_comm, difs_comm] at hM
              rcases gv with ⟨ff, _⟩ | ⟨nf, q0, ex, _⟩
              · exact absurd (far_comm.mp ff) f
              · exact ⟨_, k7.trans k, .inr ⟨q, rfl, free_same k7 hq, by rw [ex]; exact nofun, hM⟩, rfl⟩
          · clear hy k7 y N
            rintro _ N ⟨y, k7, hy, rfl⟩
            refine ⟨_, rfl, rfl, _, rfl, ?_⟩
            rcases hy with ⟨ex, ey⟩ | ⟨q, ey, hq, nx, hN⟩
            · subst ex ey
              exact iteT ⟨_, rfl, rfl, _, rfl, iteF ⟨k7, _, _, _, _, rfl⟩⟩
            · subst ey
              refine itN (by rw [decide_eq_false nx]; decide) ?_
              rcases gv.mono k7 with ⟨_, ex⟩ | ⟨_, q0, ex, hq0⟩
              · exact absurd ex nx
              · subst ex
                generalize difs (wd l m r t) (wd l2 m2 r2 t2) (mn t t2) (mx (t + m.length) (t2 + m2.length) - mn t t2).toNat = xs at len hN hq0
                have lx : (xs.map V.int).length = xs.length := List.length_map ..
                refine ⟨_, rfl, _, _, _, _, true, rfl, .ty _, .base (.lst hN), rfl, _, rfl, iteF ?_⟩
                refine ⟨_, rfl, q, _, rfl, .inl (seqL_of hN), _, rfl, q0, _, rfl, .inl (seqL_of hq0), rfl, _, rfl, neT ?_⟩
                refine ⟨_, rfl, q0, _, rfl, .inl (seqL_of hq0), xs.length, by rw [lx], by omega, by omega, for_it (walk_range (lo := 0) (n := ((xs.length : Nat) : Int).toNat)) (fun j σ M => M = N ∧ ∃ c, σ = [some (.ref p), some (.ref p2), some (.ref q0), u0, some (.int (0 + (i : Nat))), some (.ref q), c]) ⟨rfl, _, rfl⟩ (fun _ _ _ _ _ => True.intro) ?_ ?_⟩
                · rintro j u σ M M' hj ⟨rfl, c1, rfl⟩ ⟨rfl, rfl⟩
                  have hj : j < xs.length := hj
                  have ix : atI (xs.map V.int) (0 + (j : Nat)) = some (.int xs[j]) := by
                    rw [Int.zero_add]
                    exact atI_nat (by rw [List.getElem?_map, List.getElem?_eq_getElem hj]; rfl)
                  refine ⟨_, rfl, _, rfl, q, _, _, _, rfl, rfl, seqL_of hN, ix, _, _, _, _, true, rfl, .ty _, .base (.int _), rfl, _, rfl, iteF ?_⟩
                  refine ⟨_, rfl, _, rfl, q, _, _, _, rfl, rfl, seqL_of hN, ix, _, _, _, _, false, rfl, .ty _, .base (.int _), rfl, _, rfl, iteF ?_⟩
                  exact ⟨_, rfl, _, rfl, q, _, _, _, rfl, rfl, seqL_of hN, ix, _, rfl, _, rfl, q0, _, _, _, rfl, rfl, seqL_of hq0, ix, rfl, _, rfl, neT ⟨rfl, _, rfl⟩⟩
                · rintro σ M ⟨rfl, c1, rfl⟩
                  refine ⟨_, rfl, .inl ⟨rfl, _, seqL_of hN⟩, q, _, _, rfl, rfl, hN, by rw [lx]; exact szlt (by omega), ex_mut k7 hq, _, _, _, _, rfl⟩
      · rintro σ G ⟨k5, u0, v0, w0, c0, rfl⟩
        exact z G k5
end
end K40

end
section
set_option Elab.async false
set_option linter.all false
set_option maxRecDepth 100000
set_option maxHeartbeats 4000000
namespace K40
open PySem PySem.Spec PyProof.Rows L2 Kit
theorem PartOk.at2 {n : Nat} {l m r : List Nat} {t u : Int} (h : PartOk n l m r t) (h1 : -5000 ≤ u) (h2 : u ≤ 5000) : PartOk n l m r u := { h with t1 := h1, t2 := h2 }
section
variable {P : Program} {w : World} {K : PySem.W.Frag} {mg : Str → Option Value} {base : Heap} {a : Ad}
def spMovesH (a : Ad) : Sp := fun vs H Q _ => ∃ (b s p q : Addr) (k R C n : Nat) (l m r : List Nat) (t : Int), vs = [.ref b, .ref s, .ref p, .ref q] ∧ BoxAt (k + 3) H b ∧ EndAt a H p s R C n l m r t ∧ H q = some (tpl l m r t) ∧ -320 ≤ t ∧ t ≤ 320 ∧ ∀ G, Bu k b H G → Q (.bl true) G
theorem c_law_moves_hold (T : Txt K mg a) : Can P w K mg base 6 "_law_moves_hold" (spMovesH a) := by
  refine can_of T.d_law_moves_hold sc_law_moves_hold bd_law_moves_hold (fun vs H Q E h => ?_) (fun f cdv A outer s0 H vs Q E hr h => ?_)
  · obtain ⟨b, s, p, q, k, R, C, n, l, m, r, t, rfl, _⟩ := h
    rfl
  · obtain ⟨b, s, p, q, k, R, C, n, l, m, r, t, rfl, hb, e1, hq, t1, t2, z⟩ := h
    refine ⟨_, (pss_cons (ps_set (i := 4) sc_law_moves_hold.nd rfl (.inl rfl) (pe_op op_sub (pc_f (c_law_draw T) hr (by decide) (by rfl) (pa_cons (pv 0) (pa_cons pe_int pa_nil))) pe_int))
      (C8.pss_cut (ps_if (pt_cmpR op_eq (pc_f (c_law_draw T) hr (by decide) (by rfl) (pa_cons (pv 0) (pa_cons pe_int pa_nil))) pe_int (nomark _)) (pss_one (ps_set (i := 4) sc_law_moves_hold.nd rfl (.inl rfl) (pe_op op_sub (pc_f (c_law_draw T) hr (by decide) (by rfl) (pa_cons (pv 0) (pa_cons pe_int pa_nil))) pe_int))) pss_nil)
      (pss_cons (ps_set (i := 5) sc_law_moves_hold.nd rfl (.inl rfl) (pc_m (c_Endless_moved T) hr (by decide) (pv 2) (pa_cons (pv 4) pa_nil)))
      (pss_cons (ps_set (i := 6) sc_law_moves_hold.nd rfl (.inl rfl) (pe_tup (pa_cons (pe_ix (kix_tup K) (pv 3) pe_int (fun _ _ => rfl)) (pa_cons (pe_ix (kix_tup K) (pv 3) pe_int (fun _ _ => rfl)) (pa_cons (pe_ix (kix_tup K) (pv 3) pe_int (fun _ _ => rfl)) (pa_cons (pe_op op_sub (pe_ix (kix_tup K) (pv 3) pe_int (fun _ _ => rfl)) (pv 4)) pa_nil))))))
      (pss_cons (ps_if (PW.pt (pw_or (pt_not (pt_val (pe_callB (kisi K) (by rfl) T.b_isinstance (by decide +kernel) (pa_cons (pv 5) (pa_cons (pe_glob (v := .ref a.Endless) (by rfl) T.c_Endless.gC rfl) pa_nil))))) (pw_or (pt_not (pt_cmpR (eqO K (c_Scheme_eq T) hr (by decide) T.i_ni T.i_ns) (kfld K (pv 5)) (pv 1) (nomark _))) (pw_or1 (pt_not (pt_val (pc_f (c_law_columns_hold T) hr (by decide) (by rfl) (pa_cons (pv 5) (pa_cons (pv 6) pa_nil))))))))) (pss_one (ps_ret pe_bl)) pss_nil)
      (pss_cons (ps_if (PW.pt (pw_or (pt_not (pt_cmpR (eqO K (c_Endless_eq T) hr (by decide) T.p_ni T.p_ns) (pv 5) (pc_f (c_law_made T) hr (by decide) (by rfl) (pa_cons (pv 1) (pa_cons (pv 6) pa_nil))) (nomark _))) (pw_or (pt_not (pt_cmpR (eqO K (c_Endless_eq T) hr (by decide) T.p_ni T.p_ns) (pc_m (c_Endless_moved T) hr (by decide) (pv 5) (pa_cons (pe_un un_neg (pv 4)) pa_nil)) (pv 2) (nomark _))) (pw_or1 (pt_not (pt_cmpR (eqO K (c_Endless_eq T) hr (by decide) T.p_ni T.p_ns) (pc_m (c_Endless_moved T) hr (by decide) (pv 2) (pa_cons pe_int pa_nil)) (pv 2) (nomark _))))))) (pss_one (ps_ret pe_bl)) pss_nil)
      (pss_one (ps_ret (pc_f (c_law_gaps_hold T) hr (by decide) (by rfl) (pa_cons (pv 2) (pa_cons (pv 5) (pa_cons (pc_f (c_law_gaps T) hr (by decide) (by rfl) (pa_cons (pv 3) (pa_cons (pv 6) pa_nil))) pa_nil)))))))))))), ?_⟩
    refine ⟨_, rfl, b, 13, k + 2, rfl, hb, by decide, by decide, fun d1 G1 a1 a2 u1 => ⟨d1, 6, rfl, rfl, ?_⟩⟩
    refine ⟨fun σ G => ∃ y : Int, -300 ≤ y ∧ y ≤ 300 ∧ Bu k b H G ∧ σ = [some (.ref b), some (.ref s), some (.ref p), some (.ref q), some (.int y), none, none], ?_, ?_⟩
    · refine ⟨_, rfl, b, 5, k + 1, rfl, u1.box, by decide, by decide, fun d2 G2 _ _ u2 => ⟨rfl, _, rfl, ite2 (fun _ => ?_) (fun _ => ?_)⟩⟩
      · exact ⟨_, rfl, b, 601, k, rfl, u2.box, by decide, by decide, fun d3 G3 b1 b2 u3 => ⟨d3, 300, rfl, rfl, d3 - 300, by omega, by omega, (u1.trans u2).trans u3, rfl⟩⟩
      · exact ⟨d1 - 6, by omega, by omega, (u1.trans u2).le (by omega), rfl⟩
    · rintro _ G ⟨y, y1, y2, u, rfl⟩
      have f1 := e1.bu hb u
      have hqG := tup_bu hq hb u
      obtain ⟨dx, hp⟩ := f1.ob
      have ok := f1.ok
      refine ⟨_, rfl, p, dx, _, rfl, hp, fe_no s l m r t (by decide +kernel), _, rfl, p, s, R, C, n, l, m, r, t, y, rfl, f1, ok.at2 (by omega) (by omega), fun G2 p2 k2 f2 => ?_⟩
      have hq2 := k2 _ _ hqG
      refine ⟨_, rfl, q, _, 0, _, rfl, rfl, seqT_of hq2, rfl, _, rfl, q, _, 1, _, rfl, rfl, seqT_of hq2, rfl, _, rfl, q, _, 2, _, rfl, rfl, seqT_of hq2, rfl, _, rfl, q, _, 3, _, rfl, rfl, seqT_of hq2, rfl, _, rfl, t, y, rfl, rfl, by show 4 ≤ sizeLine; decide, fun q2 fq2 => ?_⟩
      have k3 := ex_new fq2 (o := tpl l m r (t - y))
      have hqq : upd G2 q2 (tpl l m r (t - y)) q2 = some (tpl l m r (t - y)) := upd_same
      have f3 := f2.mono k3
      have s3 := f3.sch
      obtain ⟨dx2, hp2⟩ := f3.ob
      obtain ⟨ds, hs⟩ := s3.1
      refine ⟨_, rfl, _, _, _, _, true, rfl, .own _, .base (.ins hp2 T.c_Endless.cl T.p_ha T.i_hn T.i_ht T.p_hm), T.p_own, _, rfl, iteF ?_⟩
      refine ⟨_, rfl, p2, _, dx2, _, _, rfl, hp2, T.c_Endless.cl, T.n_scheme, fe_scheme s l m r (t - y), _, rfl, s, _, _, rfl, hs, .inr (.inr ⟨s, _, _, rfl, hs⟩), s, R, C, n, _, rfl, s3, .inr (.inr ⟨s, R, C, n, rfl, s3, _, rfl, _, rfl, ?_⟩)⟩
      rw [decide_eq_true rfl, decide_eq_true rfl]
      refine iteF ?_
      refine ⟨_, rfl, _, rfl, p2, s, q2, R, C, n, l, m, r, t - y, rfl, f3, hqq, fun G4 k4 => ⟨_, rfl, iteF ?_⟩⟩
      have f4 := f3.mono k4
      have hp4 := k4 _ _ hp2
      refine ⟨_, rfl, _, rfl, _, rfl, s, q2, R, C, n, l, m, r, t - y, rfl, f4.sch, k4 _ _ hqq, f4.ok, fun G5 p5 k5 f5 => ?_⟩
      obtain ⟨dx5, hp5⟩ := f5.ob
      have f25 := f4.mono k5
      have hp25 := k5 _ _ hp4
      refine ⟨p2, _, _, rfl, hp25, .inr (.inr ⟨p5, _, _, rfl, hp5⟩), p2, s, R, C, n, l, m, r, t - y, _, rfl, f25, .inr ⟨p5, s, R, C, n, l, m, r, t - y, rfl, f5, fun c => absurd ⟨rfl, rfl⟩ c, fun _ b1 hb1 G6 k6 => ⟨_, rfl, _, rfl, ?_⟩⟩⟩
      obtain rfl : b1 = true := hb1.mpr fun i => rfl
      refine iteF ?_
      have f26 := f25.mono k6
      have hp26 := k6 _ _ hp25
      refine ⟨_, rfl, p2, dx2, _, rfl, hp26, fe_no s l m r (t - y) (by decide +kernel), _, rfl, y, rfl, p2, s, R, C, n, l, m, r, t - y, -y, rfl, f26, ok.at2 (by omega) (by omega), fun G7 p7 k7 f7 => ?_⟩
      rw [show t - y - -y = t by omega] at f7
      have f17 := f1.mono ((((k2.trans k3).trans k4).trans k5).trans (k6.trans k7))
      obtain ⟨dx7, hp7⟩ := f7.ob
      have hp17 := ((((k2.trans k3).trans k4).trans k5).trans (k6.trans k7)) _ _ hp
      refine ⟨_, rfl, p7, _, _, rfl, hp7, .inr (.inr ⟨p, _, _, rfl, hp17⟩), p7, s, R, C, n, l, m, r, t, _, rfl, f7, .inr ⟨p, s, R, C, n, l, m, r, t, rfl, f17, fun c => absurd ⟨rfl, rfl⟩ c, fun _ b2 hb2 G8 k8 => ⟨_, rfl, _, rfl, ?_⟩⟩⟩
      obtain rfl : b2 = true := hb2.mpr fun i => rfl
      refine iteF ?_
      have f18 := f17.mono k8
      have hp18 := k8 _ _ hp17
      refine ⟨_, rfl, p, dx, _, rfl, hp18, fe_no s l m r t (by decide +kernel), p, s, R, C, n, l, m, r, t, 0, rfl, f18, ok.at2 (by omega) (by omega), fun G9 p9 k9 f9 => ?_⟩
      rw [show t - 0 = t by omega] at f9
      obtain ⟨dx9, hp9⟩ := f9.ob
      have hp19 := k9 _ _ hp18
      refine ⟨_, rfl, p9, _, _, rfl, hp9, .inr (.inr ⟨p, _, _, rfl, hp19⟩), p9, s, R, C, n, l, m, r, t, _, rfl, f9, .inr ⟨p, s, R, C, n, l, m, r, t, rfl, f18.mono k9, fun c => absurd ⟨rfl, rfl⟩ c, fun _ b3 hb3 G10 k10 => ⟨_, rfl, _, rfl, ?_⟩⟩⟩
      obtain rfl : b3 = true := hb3.mpr fun i => rfl
      refine iteF ?_
      have k_2 := (((k4.trans k5).trans k6).trans k7).trans ((k8.trans k9).trans k10)
      have k_1 := (k2.trans k3).trans k_2
      have h1 := k_1 _ _ hqG
      have h2 := k_2 _ _ hqq
      have g1 := f1.mono k_1
      have g2 := f3.mono k_2
      have fin : ∀ G x, Same G10 G → GapV G (wd l m r t) (wd l m r (t - y)) (mn t (t - y)) (mx (t + m.length) (t - y + m.length)) x → spGapsH a [.ref p, .ref p2, x] G Q E0 := fun G x kk gv => ⟨p, s, p2, s, R, C, n, n, l, m, r, l, m, r, t, t - y, x, rfl, g1.mono kk, g2.mono kk, gv, fun M k => z M (((u.same k_1).same kk).same k)⟩
      refine ⟨_, rfl, _, rfl, _, rfl, _, rfl, q, q2, n, n, l, m, r, l, m, r, t, t - y, rfl, h1, h2, g1.ok, g2.ok, fun f G kk => fin G _ kk (.inl ⟨f, rfl⟩), fun f G x kk hx hG => fin G _ kk (.inr ⟨f, x, rfl, hG⟩)⟩
end
end K40

end
section
set_option Elab.async false
set_option linter.all false
set_option maxRecDepth 100000
set_option maxHeartbeats 4000000
namespace K40
open PySem PySem.Spec PyProof.Rows L2 Kit
theorem lit_j : Str.ofString "abcdefghij" = S (cols 10) := by decide +kernel
theorem lit_z : Str.ofString "zA0 .-" = S [122, 65, 48, 32, 46, 45] := by decide +kernel
theorem sign_at {N : Nat} (h : N ≤ 9) {d : Int} (h0 : 0 ≤ d) (h1 : d < 7) : ∃ c, atI (S ([97 + N] ++ [122, 65, 48, 32, 46, 45])).cps.toList d = some c ∧ inCol N c = false := by
  obtain ⟨j, rfl⟩ := Int.eq_ofNat_of_zero_le h0
  have hj : j < 7 := by omega
  match N, h with
  | 0, _ => match j, hj with
    | 0, _ | 1, _ | 2, _ | 3, _ | 4, _ | 5, _ | 6, _ => exact ⟨_, rfl, by decide⟩
  | 1, _ => match j, hj with
    | 0, _ | 1, _ | 2, _ | 3, _ | 4, _ | 5, _ | 6, _ => exact ⟨_, rfl, by decide⟩
  | 2, _ => match j, hj with
    | 0, _ | 1, _ | 2, _ | 3, _ | 4, _ | 5, _ | 6, _ => exact ⟨_, rfl, by decide⟩
  | 3, _ => match j, hj with
    | 0, _ | 1, _ | 2, _ | 3, _ | 4, _ | 5, _ | 6, _ => exact ⟨_, rfl, by decide⟩
  | 4, _ => match j, hj with
    | 0, _ | 1, _ | 2, _ | 3, _ | 4, _ | 5, _ | 6, _ => exact ⟨_, rfl, by decide⟩
  | 5, _ => match j, hj with
    | 0, _ | 1, _ | 2, _ | 3, _ | 4, _ | 5, _ | 6, _ => exact ⟨_, rfl, by decide⟩
  | 6, _ => match j, hj with
    | 0, _ | 1, _ | 2, _ | 3, _ | 4, _ | 5, _ | 6, _ => exact ⟨_, rfl, by decide⟩
  | 7, _ => match j, hj with
    | 0, _ | 1, _ | 2, _ | 3, _ | 4, _ | 5, _ | 6, _ => exact ⟨_, rfl, by decide⟩
  | 8, _ => match j, hj with
    | 0, _ | 1, _ | 2, _ | 3, _ | 4, _ | 5, _ | 6, _ => exact ⟨_, rfl, by decide⟩
  | 9, _ => match j, hj with
    | 0, _ | 1, _ | 2, _ | 3, _ | 4, _ | 5, _ | 6, _ => exact ⟨_, rfl, by decide⟩
theorem strip_bad {N c : Nat} {x y : List Nat} (h : inCol N c = false) : isStrip N (x ++ [c] ++ y) = false := by
  unfold isStrip
  rw [List.all_append, List.all_append, List.all_cons, h, Bool.false_and, Bool.and_false, Bool.false_and]
theorem loop_bad {N : Nat} {x : List Nat} (h : isStrip N x = false) : isLoop N x = false := by
  unfold isLoop
  rw [h, Bool.false_and]
theorem loop_long {N : Nat} {x : List Nat} (h : ¬ (1 ≤ x.length ∧ x.length ≤ 6)) : isLoop N x = false := by
  unfold isLoop
  rw [decide_eq_false h, Bool.and_false]
section
variable {P : Program} {w : World} {K : PySem.W.Frag} {mg : Str → Option Value} {base : Heap} {a : Ad}
def spSpoilt : Sp := fun vs H Q _ => ∃ (b : Addr) (N k : Nat) (x : List Nat) (e : Bool), vs = [.ref b, tx (cols N), tx x, .bl e] ∧ BoxAt (k + 4) H b ∧ 2 ≤ N ∧ N ≤ 9 ∧ x.length ≤ 100 ∧ (e = true → 1 ≤ x.length) ∧
  ∀ G y, Bu k b H G → y.length ≤ 120 → isLoop N y = false → (e = false → isStrip N y = false) → Q (tx y) G
theorem c_law_spoilt (T : Txt K mg a) : Can P w K mg base 2 "_law_spoilt" spSpoilt := by
  refine can_of T.d_law_spoilt sc_law_spoilt bd_law_spoilt (fun vs H Q E h => ?_) (fun f cdv A outer s H vs Q E hr h => ?_)
  · obtain ⟨b, N, k, x, e, rfl, _⟩ := h
    rfl
  · obtain ⟨b, N, k, x, e, rfl, hb, N2, N9, lx, hx, z⟩ := h
    refine ⟨_, (C8.pss_cut (ps_if (PW.pt (pw_and (pt_val (pv 3)) (pw_and1 (pt_cmpR op_eq (pc_f (c_law_draw T) hr (by decide) (by rfl) (pa_cons (pv 0) (pa_cons pe_int pa_nil))) pe_int (nomark _))))) (pss_one (ps_ret (pe_ix (kix_list K) (pe_lst (pa_cons pe_str (pa_cons (pe_slice sl_str (pe_op op_repS (pv 2) pe_int) po_none (po_some pe_int)) pa_nil))) (pc_f (c_law_draw T) hr (by decide) (by rfl) (pa_cons (pv 0) (pa_cons pe_int pa_nil))) (fun _ _ => rfl)))) pss_nil)
      (pss_cons (ps_set (i := 4) sc_law_spoilt.nd rfl (.inl rfl) (pe_ix ix_str (pe_op op_add_str (pe_ix ix_str pe_str (pe_callB call_len_str (by rfl) T.b_len (by decide +kernel) (pa_cons (pv 1) pa_nil)) (fun _ _ => rfl)) pe_str) (pc_f (c_law_draw T) hr (by decide) (by rfl) (pa_cons (pv 0) (pa_cons pe_int pa_nil))) (fun _ _ => rfl)))
      (pss_cons (ps_set (i := 5) sc_law_spoilt.nd rfl (.inl rfl) (pc_f (c_law_draw T) hr (by decide) (by rfl) (pa_cons (pv 0) (pa_cons (pe_op op_add (pe_callB call_len_str (by rfl) T.b_len (by decide +kernel) (pa_cons (pv 2) pa_nil)) pe_int) pa_nil))))
      (pss_one (ps_ret (pe_op op_add_str (pe_op op_add_str (pe_slice sl_str (pv 2) po_none (po_some (pv 5))) (pv 4)) (pe_slice sl_str (pv 2) (po_some (pv 5)) po_none))))))), ?_⟩
    have sz : ∀ {x : List Nat}, x.length ≤ 1000 → (S x).length ≤ sizeLine := fun h => by rw [S_len]; exact szl (by omega)
    rw [lit_e, lit_j, lit_z]
    refine ⟨fun σ G => Bu (k + 3) b H G ∧ σ = [some (.ref b), some (tx (cols N)), some (tx x), some (.bl e), none, none], ?_, ?_⟩
    · cases e with
      | false => exact ⟨_, rfl, _, rfl, iteF ⟨(Bu.refl hb).le (by omega), rfl⟩⟩
      | true =>
        have l1 := hx rfl
        refine ⟨_, rfl, _, rfl, iteT ⟨_, rfl, b, 3, k + 3, rfl, hb, by decide, by decide, fun d1 G1 _ _ u1 => ⟨rfl, _, rfl, ite2 (fun _ => ?_) (fun _ => ⟨u1, rfl⟩)⟩⟩⟩
        have fl : (List.replicate 7 x).flatten.length = 7 * x.length := by rw [List.length_flatten, List.map_replicate, List.sum_replicate_nat]
        have em : Txt.mul (S x) 7 = S (List.replicate 7 x).flatten := mul_S x 7
        refine ⟨_, rfl, S x, 7, rfl, rfl, mulOk_of 100 10 (by rw [S_len]; exact lx) (by decide) (by decide) (by decide) (by decide), ?_⟩
        rw [em]
        refine ⟨_, rfl, _, rfl, by rw [S_len, fl]; exact szl (by omega), ?_⟩
        rw [show cutS (S (List.replicate 7 x).flatten) none (some 7) = S ((List.replicate 7 x).flatten.take 7) from cut_take _ 7]
        have tl : ((List.replicate 7 x).flatten.take 7).length = 7 := by rw [List.length_take, fl]; omega
        generalize (List.replicate 7 x).flatten.take 7 = y at tl ⊢
        refine ⟨by show 2 ≤ sizeLine; decide, fun q hq => ?_⟩
        have u2 := u1.put hb (bu_free u1 hq) (o := .lst [tx [], tx y])
        refine ⟨_, rfl, b, 2, k + 2, rfl, u2.box.le (by omega), by decide, by decide, fun d2 G2 a1 a2 u3 => ?_⟩
        have hq3 := u3.1 q _ upd_same (box_ne u1.box hq)
        have u := u2.trans u3
        rcases (show d2 = 0 ∨ d2 = 1 by omega) with rfl | rfl
        · exact ⟨q, _, 0, _, rfl, rfl, seqL_of hq3, rfl, z _ [] (u.le (by omega)) (by decide) (loop_long (by decide)) nofun⟩
        · exact ⟨q, _, 1, _, rfl, rfl, seqL_of hq3, rfl, z _ y (u.le (by omega)) (by omega) (loop_long (by omega)) nofun⟩
    · rintro _ G ⟨u, rfl⟩
      refine ⟨_, rfl, _, rfl, sz (by rw [cols_len]; omega), ?_⟩
      rw [cols_ln]
      refine ⟨_, _, 97 + N, rfl, rfl, by rw [cols_ln]; exact szl (by omega), cols_at (by omega), S [97 + N], _, rfl, rfl, by rw [S_len, S_len]; exact szl (by show 1 + 6 ≤ _; decide), ?_⟩
      rw [S_app]
      refine ⟨_, rfl, b, 7, k + 2, rfl, u.box.le (by omega), by decide, by decide, fun d1 G1 a1 a2 u1 => ?_⟩
      obtain ⟨c, hc, nc⟩ := sign_at N9 a1 a2
      refine ⟨_, _, c, rfl, rfl, by rw [S_len]; exact szl (by show 7 ≤ _; omega), hc, ?_⟩
      refine ⟨_, rfl, _, rfl, _, rfl, sz (by omega), _, 1, rfl, rfl, b, _, k, rfl, u1.box.le (by omega), by rw [S_len]; omega, by rw [S_len]; omega, fun d2 G2 b1 b2 u2 => ?_⟩
      rw [S_len] at b2
      obtain ⟨d, rfl⟩ := Int.eq_ofNat_of_zero_le b1
      refine ⟨_, rfl, _, rfl, _, rfl, _, rfl, sz (by omega), ?_⟩
      rw [show cutS (S x) none (some ((d : Nat) : Int)) = S (x.take d) from cut_take x d]
      refine ⟨_, rfl, S (x.take d), S [c], rfl, rfl, by rw [S_len, S_len]; exact szl (by rw [List.length_take]; show min _ _ + 1 ≤ _; omega), ?_⟩
      refine ⟨_, rfl, _, rfl, _, rfl, _, rfl, sz (by omega), ?_⟩
      rw [S_app, show cutS (S x) (some ((d : Nat) : Int)) none = S (x.drop d) from cut_drop x d]
      refine ⟨_, _, rfl, rfl, by rw [S_len, S_len]; exact szl (by rw [List.length_append, List.length_take, List.length_drop]; show min _ _ + 1 + _ ≤ _; omega), ?_⟩
      rw [S_app]
      have sb := strip_bad (x := x.take d) (y := x.drop d) nc
      refine z _ _ ((u.trans u1).trans u2) ?_ (loop_bad sb) fun _ => sb
      rw [List.length_append, List.length_append, List.length_take, List.length_drop]
      show min _ _ + 1 + _ ≤ _
      omega
end
end K40

end
section
set_option Elab.async false
set_option linter.all false
set_option maxRecDepth 100000
set_option maxHeartbeats 4000000
namespace K40
open PySem PySem.Spec PyProof.Rows L2 Kit
theorem xdok {d : Addr} {M : Hp} {fs : List (Str × V)} (h : M d = some (.xd fs)) : XdOk (some d) M := fun dd e => by
  cases e
  exact ⟨fs, h⟩
theorem xdno {M : Hp} : XdOk none M := fun dd e => nomatch e
section
variable {P : Program} {w : World} {K : PySem.W.Frag} {mg : Str → Option Value} {base : Heap} {a : Ad}
def refV : Option (List Nat) → List V
  | some x => [tx x]
  | none => []
def spLRef (a : Ad) : Sp := fun vs H Q _ => ∃ (s q : Addr) (R C n : Nat) (l m r : List Nat) (t : Int), vs = [.ref s, .ref q] ∧ SchemeAt a.Scheme H s R C n ∧ H q = some (tpl l m r t) ∧ l.length ≤ 1000 ∧ m.length ≤ 1000 ∧ r.length ≤ 1000 ∧ ∀ G y, Same H G → G y = some (.tup (refV (wrongE n l m r))) → Q (.ref y) G
theorem c_law_refusal (T : Txt K mg a) : Can P w K mg base 5 "_law_refusal" (spLRef a) := by
  refine can_of T.d_law_refusal sc_law_refusal bd_law_refusal (fun vs H Q E h => ?_) (fun f cdv A outer s0 H vs Q E hr h => ?_)
  · obtain ⟨s, q, R, C, n, l, m, r, t, rfl, _⟩ := h
    rfl
  · obtain ⟨s, q, R, C, n, l, m, r, t, rfl, sch, hq, nl, nm, nr, z⟩ := h
    refine ⟨_, (pss_cons (ps_try_as (i := 2) (tb := _) rfl rfl sc_law_refusal.nd rfl rfl ⟨rfl, by decide, .inl T.e_BadEndless.gC⟩ takes0 (fun W pn xe tk po => (pss_one (ps_expr (pc_nKS (c_Endless_init T) tk hr (by decide) (by rfl) (pa_cons (pv 0) (pa_cons (pe_ix (kix_tup K) (pv 1) pe_int (fun _ _ => rfl)) (pa_cons (pe_ix (kix_tup K) (pv 1) pe_int (fun _ _ => rfl)) (pa_cons (pe_ix (kix_tup K) (pv 1) pe_int (fun _ _ => rfl)) pa_nil)))) (pk_cons (pe_ix (kix_tup K) (pv 1) pe_int (fun _ _ => rfl)) pk_nil))))) (fun ae oe cls d pn hz hf => (pss_cons (ps_if (PW.pt (pw_and (pt_val (pe_callB (call_isU hz hf) (by rfl) T.b_isinstance (by decide +kernel) (pa_cons (pv 2) (pa_cons (pe_bltn (v := .ty "ValueError") (by rfl) T.b_ValueError (by decide +kernel) rfl) pa_nil)))) (pw_and (pt_val (pe_callB (call_isU hz hf) (by rfl) T.b_isinstance (by decide +kernel) (pa_cons (pv 2) (pa_cons (pe_glob (v := .ref a.GalloonError) (by rfl) T.g_GalloonError rfl) pa_nil)))) (pw_and1 (pt_not (pt_val (pe_callB (call_isU hz hf) (by rfl) T.b_isinstance (by decide +kernel) (pa_cons (pv 2) (pa_cons (pe_glob (v := .ref a.BadStrip) (by rfl) T.e_BadStrip.gC rfl) pa_nil))))))))) (pss_one (ps_ret (pe_tup (pa_cons (pe_xu hz hf (pv 2)) pa_nil)))) pss_nil)
      (pss_one (ps_ret (pe_tup (pa_cons pe_non pa_nil)))))))
      (pss_one (ps_ret (pe_tup pa_nil)))), ?_⟩
    refine ⟨_, rfl, _, rfl, q, _, 0, _, rfl, rfl, seqT_of hq, rfl, _, rfl, q, _, 1, _, rfl, rfl, seqT_of hq, rfl, _, rfl, q, _, 2, _, rfl, rfl, seqT_of hq, rfl, _, rfl, q, _, 3, _, rfl, rfl, seqT_of hq, rfl, rfl, rfl, fun y dx hy hdx ne => ?_⟩
    have hy2 : upd H dx (.own y) y = none := by rw [upd_ne (Ne.symm ne)]; exact hy
    have k2 : Same H (upd (upd H dx (.own y)) y (.ins a.Endless dx [])) := (ex_new hdx).trans (ex_new hy2)
    refine ⟨y, dx, s, R, C, n, l, m, r, t, rfl, upd_same, sch.mono k2, nl, nm, nr, fun x e d M s1 hd => ⟨true, T.xo_e 4 (by decide) 4 (by decide), fun _ x hx => ?_, nofun⟩, fun e G hk hG => ⟨rfl, ?_⟩⟩
    · rw [e] at z
      refine ⟨_, rfl, a.BadEndless, _, _, true, rfl, T.x_BadEndless, xdok hd, rfl, fun u h => h, T.kv_e 4 (by decide), _, rfl, iteT ⟨_, rfl, a.BadEndless, _, _, true, rfl, T.x_BadEndless, xdok hd, rfl, fun u h => h, T.kg_e 4 (by decide), _, rfl, iteT ⟨_, rfl, a.BadEndless, _, _, false, rfl, T.x_BadEndless, xdok hd, rfl, fun u h => h, T.kk_e 4 (by decide) 3 (by decide), _, rfl, iteT ?_⟩⟩⟩
      exact ⟨_, rfl, a.BadEndless, d, _, _, rfl, rfl, T.x_BadEndless.xf, T.e_BadEndless.noF, rfl, hd, by rw [List.lookup_cons, beq_self_eq_true], by show 1 ≤ sizeLine; decide, fun q hq => z _ q ((k2.trans s1).trans (ex_new hq)) upd_same⟩
    · rw [e] at z
      have sG : Same H G := fun b o h => hk b o (k2 _ _ h) (ne_of_none h hy)
      exact ⟨by show 0 ≤ sizeLine; decide, fun q hq => z _ q (sG.trans (ex_new hq)) upd_same⟩
end
end K40

end
section
set_option Elab.async false
set_option linter.all false
set_option maxRecDepth 100000
set_option maxHeartbeats 4000000
namespace K40
open PySem PySem.Spec PyProof.Rows L2 Kit
def pdR : Option (List Nat) → PyData
  | some x => .tuple [.str (S x)]
  | none => .tuple []
theorem dp_ref {K : PySem.W.Frag} {H : Hp} {q : Addr} {o : Option (List Nat)} (h : H q = some (.tup (refV o))) : Dp K H (.ref q) (pdR o) := by
  cases o with
  | none => exact .tup (seqT_of h) .nil
  | some x => exact .tup (seqT_of h) (.cons (.str _) .nil)
theorem plainR (o : Option (List Nat)) : (pdR o).plain = true := by cases o <;> rfl
theorem depthR (o : Option (List Nat)) : (pdR o).depth ≤ 64 := by
  cases o with
  | none => decide
  | some x => simp [pdR, PyData.depth, PyData.depthAll]
def dueR (N : Nat) (r : List Nat) : Option (List Nat) := if isLoop N r = false then some [114, 105, 103, 104, 116] else none
def dueM (N : Nat) (m r : List Nat) : Option (List Nat) := if isStrip N m = false then some [109, 105, 100, 100, 108, 101] else dueR N r
theorem wrongE_due (N : Nat) (l m r : List Nat) : wrongE N l m r = if isLoop N l = false then some [108, 101, 102, 116] else dueM N m r := rfl
section
variable {P : Program} {w : World} {K : PySem.W.Frag} {mg : Str → Option Value} {base : Heap} {a : Ad}
def spRefsH (a : Ad) : Sp := fun vs H Q _ => ∃ (b s q : Addr) (k R C N : Nat) (l m r : List Nat) (t : Int), vs = [.ref b, .ref s, tx (cols N), .ref q] ∧ BoxAt (k + 20) H b ∧ SchemeAt a.Scheme H s R C N ∧ H q = some (tpl l m r t) ∧ PartOk N l m r t ∧ ∀ G, Bu k b H G → Q (.bl true) G
theorem c_law_refusals_hold (T : Txt K mg a) : Can P w K mg base 6 "_law_refusals_hold" (spRefsH a) := by
  refine can_of T.d_law_refusals_hold sc_law_refusals_hold bd_law_refusals_hold (fun vs H Q E h => ?_) (fun f cdv A outer s0 H vs Q E hr h => ?_)
  · obtain ⟨b, s, q, k, R, C, N, l, m, r, t, rfl, _⟩ := h
    rfl
  · obtain ⟨b, s, q, k, R, C, N, l, m, r, t, rfl, hb, sch, hq, ok, z⟩ := h
    refine ⟨_, (pss_cons (ps_asg (pv 3) (pg_tup rfl (pgs_cons (pg_name (i := 4) sc_law_refusals_hold.nd rfl (.inl rfl)) (pgs_cons (pg_name (i := 5) sc_law_refusals_hold.nd rfl (.inl rfl)) (pgs_cons (pg_name (i := 6) sc_law_refusals_hold.nd rfl (.inl rfl)) (pgs_cons (pg_name (i := 7) sc_law_refusals_hold.nd rfl (.inl rfl)) pgs_nil))))))
      (pss_cons (ps_set (i := 8) sc_law_refusals_hold.nd rfl (.inl rfl) (pc_f (c_law_draw T) hr (by decide) (by rfl) (pa_cons (pv 0) (pa_cons pe_int pa_nil))))
      (pss_cons (ps_set (i := 9) sc_law_refusals_hold.nd rfl (.inl rfl) (pe_tup pa_nil))
      (C8.pss_cut (ps_if (pt_cmpR op_eq (pe_op op_fdivN (pv 8) pe_int) pe_int (nomark _)) (pss_cons (ps_set (i := 6) sc_law_refusals_hold.nd rfl (.inl rfl) (pc_f (c_law_spoilt T) hr (by decide) (by rfl) (pa_cons (pv 0) (pa_cons (pv 2) (pa_cons (pv 6) (pa_cons pe_bl pa_nil))))))
      (pss_one (ps_set (i := 9) sc_law_refusals_hold.nd rfl (.inl rfl) (pe_tup (pa_cons pe_str pa_nil))))) pss_nil)
      (C8.pss_cut (ps_if (pt_cmpR (kin K) (pe_op op_fdivN (pv 8) pe_int) (pe_lst (pa_cons pe_int (pa_cons pe_int pa_nil))) (by rfl)) (pss_cons (ps_set (i := 5) sc_law_refusals_hold.nd rfl (.inl rfl) (pc_f (c_law_spoilt T) hr (by decide) (by rfl) (pa_cons (pv 0) (pa_cons (pv 2) (pa_cons (pv 5) (pa_cons pe_bl pa_nil))))))
      (pss_one (ps_set (i := 9) sc_law_refusals_hold.nd rfl (.inl rfl) (pe_tup (pa_cons pe_str pa_nil))))) pss_nil)
      (C8.pss_cut (ps_if (pt_cmpR (kin K) (pv 8) (pe_lst (pa_cons pe_int (pa_cons pe_int (pa_cons pe_int (pa_cons pe_int pa_nil))))) (by rfl)) (pss_cons (ps_set (i := 4) sc_law_refusals_hold.nd rfl (.inl rfl) (pc_f (c_law_spoilt T) hr (by decide) (by rfl) (pa_cons (pv 0) (pa_cons (pv 2) (pa_cons (pv 4) (pa_cons pe_bl pa_nil))))))
      (pss_one (ps_set (i := 9) sc_law_refusals_hold.nd rfl (.inl rfl) (pe_tup (pa_cons pe_str pa_nil))))) pss_nil)
      (pss_one (ps_ret (pe_cmpR (keqP K hr.units) (pc_f (c_law_refusal T) hr (by decide) (by rfl) (pa_cons (pv 1) (pa_cons (pe_tup (pa_cons (pv 4) (pa_cons (pv 5) (pa_cons (pv 6) (pa_cons (pv 7) pa_nil))))) pa_nil))) (pv 9) (nomark _)))))))))), ?_⟩
    have gn := good_n sch.2
    have il : isLoop N l = true := by unfold isLoop; rw [ok.sl, decide_eq_true ⟨ok.l0, ok.l6⟩]; rfl
    have ir : isLoop N r = true := by unfold isLoop; rw [ok.sr, decide_eq_true ⟨ok.r0, ok.r6⟩]; rfl
    have l0 := ok.l0
    have l6 := ok.l6
    have r0 := ok.r0
    have r6 := ok.r6
    have m1 := ok.m1
    rw [lit_left, lit_middle, lit_right]
    refine ⟨_, rfl, q, _, rfl, seqT_of hq, rfl, _, _, rfl, _, _, rfl, _, _, rfl, _, _, rfl, rfl, ?_⟩
    refine ⟨_, rfl, b, 8, k + 19, rfl, hb, by decide, by decide, fun d G1 a1 a2 u1 => ?_⟩
    refine ⟨by show 0 ≤ sizeLine; decide, fun e0 he0 => ?_⟩
    have v1 := u1.put hb (bu_free u1 he0) (o := .tup [])
    refine ⟨fun σ G => ∃ (r : List Nat) (e : Addr), Bu (k + 15) b H G ∧ r.length ≤ 120 ∧ G e = some (.tup (refV (dueR N r))) ∧ σ = [some (.ref b), some (.ref s), some (tx (cols N)), some (.ref q), some (tx l), some (tx m), some (tx r), some (.int t), some (.int d), some (.ref e)], ?_, ?_⟩
    · refine ⟨_, rfl, d, 4, rfl, rfl, ⟨by decide, by decide⟩, rfl, _, rfl, ite2 (fun _ => ?_) (fun _ => ?_)⟩
      · refine ⟨_, rfl, _, rfl, _, rfl, b, N, k + 15, r, true, rfl, v1.box.le (by omega), gn.2.2.2.2, gn.1, by omega, fun _ => r0, fun G y u2 ly hy _ => ?_⟩
        refine ⟨by show 1 ≤ sizeLine; decide, fun e1 he1 => ⟨y, e1, (v1.trans u2).put hb (bu_free (v1.trans u2) he1), ly, ?_, rfl⟩⟩
        unfold dueR
        rw [if_pos hy]
        exact upd_same
      · refine ⟨r, e0, v1.le (by omega), by omega, ?_, rfl⟩
        unfold dueR
        rw [if_neg (by rw [ir]; decide)]
        exact upd_same
    · rintro _ G2 ⟨r', e1, u2, lr, h1, rfl⟩
      refine ⟨fun σ G => ∃ (m : List Nat) (e : Addr), Bu (k + 8) b H G ∧ m.length ≤ 120 ∧ G e = some (.tup (refV (dueM N m r'))) ∧ σ = [some (.ref b), some (.ref s), some (tx (cols N)), some (.ref q), some (tx l), some (tx m), some (tx r'), some (.int t), some (.int d), some (.ref e)], ?_, ?_⟩
      · refine ⟨_, rfl, d, 2, rfl, rfl, ⟨by decide, by decide⟩, by show 2 ≤ sizeLine; decide, fun x hx => ⟨x, _, rfl, .inl (seqL_of upd_same), rfl, rfl, _, rfl, ite2 (fun _ => ?_) (fun _ => ?_)⟩⟩
        · have v2 := u2.put hb (bu_free u2 hx) (o := .lst [.int 1, .int 3])
          refine ⟨_, rfl, _, rfl, _, rfl, b, N, k + 8, m, false, rfl, v2.box.le (by omega), gn.2.2.2.2, gn.1, by omega, nofun, fun G y u3 ly _ hy => ?_⟩
          refine ⟨by show 1 ≤ sizeLine; decide, fun e2 he2 => ⟨y, e2, (v2.trans u3).put hb (bu_free (v2.trans u3) he2), ly, ?_, rfl⟩⟩
          unfold dueM
          rw [if_pos (hy rfl)]
          exact upd_same
        · refine ⟨m, e1, (u2.put hb (bu_free u2 hx)).le (by omega), by omega, ?_, rfl⟩
          unfold dueM
          rw [if_neg (by rw [ok.sm]; decide)]
          exact ex_new hx _ _ h1
      · rintro _ G3 ⟨m', e2, u3, lm, h2, rfl⟩
        refine ⟨fun σ G => ∃ (l : List Nat) (e : Addr), Bu k b H G ∧ l.length ≤ 120 ∧ G e = some (.tup (refV (wrongE N l m' r'))) ∧ σ = [some (.ref b), some (.ref s), some (tx (cols N)), some (.ref q), some (tx l), some (tx m'), some (tx r'), some (.int t), some (.int d), some (.ref e)], ?_, ?_⟩
        · refine ⟨_, rfl, by show 4 ≤ sizeLine; decide, fun x hx => ⟨x, _, rfl, .inl (seqL_of upd_same), rfl, rfl, _, rfl, ite2 (fun _ => ?_) (fun _ => ?_)⟩⟩
          · have v2 := u3.put hb (bu_free u3 hx) (o := .lst [.int 1, .int 3, .int 5, .int 7])
            refine ⟨_, rfl, _, rfl, _, rfl, b, N, k, l, true, rfl, v2.box.le (by omega), gn.2.2.2.2, gn.1, by omega, fun _ => l0, fun G y u3 ly hy _ => ?_⟩
            refine ⟨by show 1 ≤ sizeLine; decide, fun e3 he3 => ⟨y, e3, (v2.trans u3).put hb (bu_free (v2.trans u3) he3), ly, ?_, rfl⟩⟩
            rw [wrongE_due, if_pos hy]
            exact upd_same
          · refine ⟨l, e2, (u3.put hb (bu_free u3 hx)).le (by omega), by omega, ?_, rfl⟩
            rw [wrongE_due, if_neg (by rw [il]; decide)]
            exact ex_new hx _ _ h2
        · rintro _ G4 ⟨l', e3, u4, ll, h3, rfl⟩
          refine ⟨_, rfl, _, rfl, _, rfl, _, rfl, _, rfl, by show 4 ≤ sizeLine; decide, fun y hy => ?_⟩
          have k5 := ex_new hy (o := tpl l' m' r' t)
          refine ⟨s, y, R, C, N, l', m', r', t, rfl, (sch.bu hb u4).mono k5, upd_same, by omega, by omega, by omega, fun G5 p k6 h5 => ?_⟩
          refine ⟨_, rfl, pdR (wrongE N l' m' r'), pdR (wrongE N l' m' r'), dp_ref h5, dp_ref (k6 _ _ (k5 _ _ h3)), plainR _, plainR _, depthR _, ?_⟩
          rw [SeqAt.eqv_refl_plain _ (plainR _)]
          exact z _ ((u4.same k5).same k6)
end
end K40

end
section
set_option Elab.async false
set_option linter.all false
set_option maxRecDepth 100000
set_option maxHeartbeats 4000000
namespace K40
open PySem PySem.Spec PyProof.Rows L2 Kit
theorem good_sizeOf {r c n : Nat} (h : Good r c n) : sizeOf r c = some n ∧ badPart r c = none := by
  rcases h.cases with ⟨rfl, rfl, rfl⟩ | ⟨rfl, rfl, rfl⟩ | ⟨rfl, rfl, rfl⟩ | ⟨rfl, rfl, rfl⟩ | ⟨rfl, rfl, rfl⟩ <;> exact ⟨by decide, by decide⟩
theorem init_good {a : Ad} {H : Hp} {y dx : Addr} {r c n : Nat} {Q : Hp → Prop} (g : Good r c n) (hy : H y = none) (hdx : H dx = none) (ne : dx ≠ y) (k : ∀ G, Same H G → SchemeAt a.Scheme G y r c n → Q G) :
    spInit a (.ref y :: ([.int (r : Int), .int (c : Int)] ++ [])) (upd (upd H dx (.own y)) y (.ins a.Scheme dx [])) (fun v G => v = .non ∧ Q G) E0 := by
  refine ⟨y, dx, r, c, rfl, upd_same, fun l e => ?_, fun _ G hG hs => ⟨rfl, ?_⟩⟩
  · rw [(good_sizeOf g).2] at e
    cases e
  · obtain ⟨r', c', n', e1, e2, sch⟩ := hs
    obtain rfl : r' = r := by omega
    obtain rfl : c' = c := by omega
    have e3 := (good_sizeOf sch.2).1
    rw [(good_sizeOf g).1] at e3
    cases e3
    exact k G (fun b o hb => hG b o (((ex_new hdx).trans (ex_new (by rw [upd_ne (Ne.symm ne)]; exact hy))) b o hb) (ne_of_none hb hy)) sch
theorem init_endH {a : Ad} {H : Hp} {y dx s : Addr} {R C n : Nat} {l m r : List Nat} {t : Int} {Q : Hp → Prop} {E : XK} (sch : SchemeAt a.Scheme H s R C n) (ok : PartOk n l m r t) (hy : H y = none) (hdx : H dx = none) (ne : dx ≠ y) (k : ∀ G, Same H G → EndAt a G y s R C n l m r t → Q G) :
    spEInit a (.ref y :: ([.ref s, tx l, tx m, tx r] ++ [.int t])) (upd (upd H dx (.own y)) y (.ins a.Endless dx [])) (fun v G => v = .non ∧ Q G) E := init_end (Q := fun _ G => Q G) sch ok hy hdx ne k
theorem lit_a : Str.ofString "a" = S [97] := by decide +kernel
theorem part_a {N : Nat} (h : 0 < N) : PartOk N [97] [] [97] 0 := by
  have e : isStrip N [97] = true := strip_one (cols_in (k := 0) h)
  exact ⟨e, rfl, e, by decide, by decide, by decide, by decide, by decide, by decide, by decide⟩
section
variable {P : Program} {w : World} {K : PySem.W.Frag} {mg : Str → Option Value} {base : Heap} {a : Ad}
def spUnl (a : Ad) : Sp := fun vs H Q _ => ∃ (p s p2 s2 : Addr) (R C n R2 C2 n2 : Nat) (l m r l2 m2 r2 : List Nat) (t t2 : Int), vs = [.ref p, .ref p2] ∧ EndAt a H p s R C n l m r t ∧ EndAt a H p2 s2 R2 C2 n2 l2 m2 r2 t2 ∧ ¬ (R = R2 ∧ C = C2) ∧ ∀ G, Same H G → Q (.bl true) G
theorem c_law_unlike (T : Txt K mg a) : Can P w K mg base 5 "_law_unlike" (spUnl a) := by
  refine can_of T.d_law_unlike sc_law_unlike bd_law_unlike (fun vs H Q E h => ?_) (fun f cdv A outer s0 H vs Q E hr h => ?_)
  · obtain ⟨p, s, p2, s2, R, C, n, R2, C2, n2, l, m, r, l2, m2, r2, t, t2, rfl, _⟩ := h
    rfl
  · obtain ⟨p, s, p2, s2, R, C, n, R2, C2, n2, l, m, r, l2, m2, r2, t, t2, rfl, e1, e2, ne, z⟩ := h
    refine ⟨_, (pss_cons (ps_try_as (i := 2) (tb := _) rfl rfl sc_law_unlike.nd rfl rfl ⟨rfl, by decide, .inl T.z_UnlikeSchemes.gC⟩ takes0 (fun W pn xe tk po => (pss_one (ps_expr (pc_fS (c_endless_apart T) tk hr (by decide) (by rfl) (pa_cons (pv 0) (pa_cons (pv 1) pa_nil)))))) (fun ae oe cls d pn hz hf => (pss_one (ps_ret (pe_and (pe_callB (call_isU hz hf) (by rfl) T.b_isinstance (by decide +kernel) (pa_cons (pv 2) (pa_cons (pe_glob (v := .ref a.GalloonError) (by rfl) T.g_GalloonError rfl) pa_nil))) (pe_one (pe_not (pe_callB (call_isU hz hf) (by rfl) T.b_isinstance (by decide +kernel) (pa_cons (pv 2) (pa_cons (pe_glob (v := .ref a.BadEndless) (by rfl) T.e_BadEndless.gC rfl) pa_nil))))))))))
      (pss_one (ps_ret pe_bl))), ?_⟩
    refine ⟨_, rfl, _, rfl, p, s, p2, s2, R, C, n, R2, C2, n2, l, m, r, l2, m2, r2, t, t2, rfl, e1, e2, fun _ M s1 => ⟨true, T.xo_e 5 (by decide) 5 (by decide), fun _ x hx => ?_, nofun⟩, fun c => absurd c ne, fun c => absurd c ne⟩
    exact ⟨_, rfl, a.UnlikeSchemes, _, _, true, rfl, T.x_UnlikeSchemes, xdno, rfl, fun u h => h, T.kg_e 5 (by decide), _, rfl, iteT ⟨_, rfl, a.UnlikeSchemes, _, _, false, rfl, T.x_UnlikeSchemes, xdno, rfl, fun u h => h, T.kk_e 5 (by decide) 4 (by decide), _, rfl, z M s1⟩⟩
def spKinds (a : Ad) : Sp := fun vs H Q _ => ∃ (s : Addr) (R C N : Nat), vs = [.ref s, tx (cols N)] ∧ SchemeAt a.Scheme H s R C N ∧ ∀ G, Same H G → Q (.bl true) G
theorem c_law_kinds_hold (T : Txt K mg a) : Can P w K mg base 6 "_law_kinds_hold" (spKinds a) := by
  refine can_of T.d_law_kinds_hold sc_law_kinds_hold bd_law_kinds_hold (fun vs H Q E h => ?_) (fun f cdv A outer s0 H vs Q E hr h => ?_)
  · obtain ⟨s, R, C, N, rfl, _⟩ := h
    rfl
  · obtain ⟨s, R, C, N, rfl, sch, z⟩ := h
    refine ⟨_, (pss_cons (ps_set (i := 2) sc_law_kinds_hold.nd rfl (.inl rfl) (pc_nD (c_Endless_init T) hr (by decide) (by rfl) (pa_cons (pc_n (c_Scheme_init T) hr (by decide) (by rfl) (pa_cons pe_int (pa_cons pe_int pa_nil))) (pa_cons pe_str (pa_cons pe_str (pa_cons pe_str pa_nil))))))
      (C8.pss_cut (ps_if (pt_cmpR op_gt (pe_callB call_len_str (by rfl) T.b_len (by decide +kernel) (pa_cons (pv 1) pa_nil)) pe_int (nomark _)) (pss_one (ps_set (i := 2) sc_law_kinds_hold.nd rfl (.inl rfl) (pc_nD (c_Endless_init T) hr (by decide) (by rfl) (pa_cons (pc_n (c_Scheme_init T) hr (by decide) (by rfl) (pa_cons pe_int (pa_cons pe_int pa_nil))) (pa_cons pe_str (pa_cons pe_str (pa_cons pe_str pa_nil))))))) pss_nil)
      (pss_cons (ps_set (i := 3) sc_law_kinds_hold.nd rfl (.inl rfl) (pc_nD (c_Endless_init T) hr (by decide) (by rfl) (pa_cons (pv 0) (pa_cons pe_str (pa_cons pe_str (pa_cons pe_str pa_nil))))))
      (pss_cons (ps_for (passes_of rfl) (by rfl) (kpi_list K (pe_lst (pa_cons (pe_cmpR (eqO K (c_Endless_eq T) hr (by decide) T.p_ni T.p_ns) (pv 3) (pv 2) (nomark _)) (pa_cons (pe_cmpR (eqO K (c_Endless_eq T) hr (by decide) T.p_ni T.p_ns) (pv 2) (pv 3) (nomark _)) (pa_cons (pe_cmpR (eqO K (c_Endless_eq T) hr (by decide) T.p_ni T.p_ns) (pv 3) pe_str (nomark _)) (pa_cons (pe_cmpR (eqO K (c_Endless_eq T) hr (by decide) T.p_ni T.p_ns) (pv 3) (pv 1) (nomark _)) pa_nil)))))) (pg_name (i := 4) sc_law_kinds_hold.nd rfl (.inl rfl)) (pss_one (ps_if (pt_cmpR op_notBl (pv 4) pe_bl (nomark _)) (pss_one (ps_ret pe_bl)) pss_nil)))
      (pss_one (ps_ret (pe_and (pc_f (c_law_unlike T) hr (by decide) (by rfl) (pa_cons (pv 3) (pa_cons (pv 2) pa_nil))) (pe_one (pc_f (c_law_unlike T) hr (by decide) (by rfl) (pa_cons (pv 2) (pa_cons (pv 3) pa_nil))))))))))), ?_⟩
    have gn := good_n sch.2
    rw [lit_a, lit_e]
    refine fun y d hy hd ne => init_good (r := 1) (c := 3) (n := 3) (by decide) hy hd ne fun G1 k1 sc1 => ?_
    refine fun y2 d2 hy2 hd2 ne2 => init_endH (t := 0) sc1 (part_a (by decide)) hy2 hd2 ne2 fun G2 k2 e2 => ?_
    have k12 := k1.trans k2
    refine ⟨fun σ G => ∃ (p s2 : Addr) (R2 C2 n2 : Nat), Same H G ∧ EndAt a G p s2 R2 C2 n2 [97] [] [97] 0 ∧ ¬ (R = R2 ∧ C = C2) ∧ σ = [some (.ref s), some (tx (cols N)), some (.ref p), none, none], ?_, ?_⟩
    · refine ⟨_, rfl, _, rfl, by rw [cols_ln]; exact szl (by omega), _, _, rfl, rfl, _, rfl, ?_⟩
      rw [cols_ln]
      refine ite2 (fun c => ?_) (fun c => ?_)
      · have c := of_decide_eq_true c
        refine fun y d hy hd ne => init_good (r := 1) (c := 2) (n := 2) (by decide) hy hd ne fun G3 k3 sc3 => ?_
        refine fun y2 d2 hy2 hd2 ne2 => init_endH (t := 0) sc3 (part_a (by decide)) hy2 hd2 ne2 fun G4 k4 e4 => ?_
        refine ⟨_, _, _, _, _, (k12.trans k3).trans k4, e4, fun q => ?_, rfl⟩
        rcases sch.2.cases with ⟨rfl, rfl, rfl⟩ | ⟨rfl, rfl, rfl⟩ | ⟨rfl, rfl, rfl⟩ | ⟨rfl, rfl, rfl⟩ | ⟨rfl, rfl, rfl⟩ <;> omega
      · have c : ¬ (2 : Int) < (N : Int) := fun q => c (decide_eq_true q)
        refine ⟨_, _, _, _, _, k12, e2, fun q => ?_, rfl⟩
        rcases sch.2.cases with ⟨rfl, rfl, rfl⟩ | ⟨rfl, rfl, rfl⟩ | ⟨rfl, rfl, rfl⟩ | ⟨rfl, rfl, rfl⟩ | ⟨rfl, rfl, rfl⟩ <;> omega
    · rintro _ G ⟨p2, s2, R2, C2, n2, k3, f2, nq, rfl⟩
      refine ⟨_, rfl, fun y d hy hd ne => init_endH (t := 0) (sch.mono k3) (part_a (by omega)) hy hd ne fun G4 k4 f1 => ?_⟩
      have f2 := f2.mono k4
      have nq2 : ¬ (R2 = R ∧ C2 = C) := fun q => nq ⟨q.1.symm, q.2.symm⟩
      obtain ⟨dx, hp⟩ := f1.ob
      obtain ⟨dx2, hp2⟩ := f2.ob
      refine ⟨_, rfl, _, rfl, y, _, _, rfl, hp, .inr (.inr ⟨p2, _, _, rfl, hp2⟩), y, s, R, C, N, [97], [], [97], 0, _, rfl, f1, .inr ⟨p2, s2, R2, C2, n2, [97], [], [97], 0, rfl, f2, fun _ G5 k5 => ⟨_, rfl, ?_⟩, fun q => absurd q nq⟩⟩
      refine ⟨_, rfl, _, rfl, p2, _, _, rfl, k5 _ _ hp2, .inr (.inr ⟨y, _, _, rfl, k5 _ _ hp⟩), p2, s2, R2, C2, n2, [97], [], [97], 0, _, rfl, f2.mono k5, .inr ⟨y, s, R, C, N, [97], [], [97], 0, rfl, f1.mono k5, fun _ G6 k6 => ⟨_, rfl, ?_⟩, fun q => absurd q nq2⟩⟩
      have k56 := k5.trans k6
      refine ⟨_, rfl, y, _, _, rfl, k56 _ _ hp, .inr (.inl ⟨_, rfl⟩), y, s, R, C, N, [97], [], [97], 0, _, rfl, f1.mono k56, .inl ⟨_, rfl, fun G7 k7 => ⟨_, rfl, ?_⟩⟩⟩
      have k57 := k56.trans k7
      refine ⟨_, rfl, _, rfl, y, _, _, rfl, k57 _ _ hp, .inr (.inl ⟨_, rfl⟩), y, s, R, C, N, [97], [], [97], 0, _, rfl, f1.mono k57, .inl ⟨_, rfl, fun G8 k8 => ⟨_, rfl, ?_⟩⟩⟩
      have k58 := k57.trans k8
      refine ⟨by show 4 ≤ sizeLine; decide, fun D hD => ?_⟩
      have k9 := (k3.trans k4).trans (k58.trans (ex_new hD (o := .lst [.bl false, .bl false, .bl false, .bl false])))
      have g1 := f1.mono (k58.trans (ex_new hD (o := .lst [.bl false, .bl false, .bl false, .bl false])))
      have g2 := f2.mono (k58.trans (ex_new hD (o := .lst [.bl false, .bl false, .bl false, .bl false])))
      refine ⟨D, rfl, ⟨_, seqL_of upd_same⟩, for_it (walk_list (xs := [V.bl false, .bl false, .bl false, .bl false])) (fun i σ M => M = upd G8 D (.lst [.bl false, .bl false, .bl false, .bl false]) ∧ ∃ x, σ = [some (.ref s), some (tx (cols N)), some (.ref p2), some (.ref y), x]) ⟨rfl, none, rfl⟩ (fun i σ M _ h => by rw [h.1]; exact seqL_of upd_same) ?_ ?_⟩
      · rintro i v σ M M' hi ⟨rfl, x0, rfl⟩ ⟨rfl, hx⟩
        have ev : v = .bl false := by
          have := List.mem_of_getElem? hx
          simpa using this
        subst ev
        exact ⟨_, rfl, false, false, rfl, rfl, _, rfl, iteF ⟨rfl, _, rfl⟩⟩
      · rintro σ M ⟨rfl, x0, rfl⟩
        refine ⟨_, rfl, _, rfl, y, s, p2, s2, R, C, N, R2, C2, n2, [97], [], [97], [97], [], [97], 0, 0, rfl, g1, g2, nq, fun M2 k10 => ⟨_, rfl, iteT ?_⟩⟩
        exact ⟨_, rfl, _, rfl, p2, s2, y, s, R2, C2, n2, R, C, N, [97], [], [97], [97], [], [97], 0, 0, rfl, g2.mono k10, g1.mono k10, nq2, fun M3 k11 => z M3 ((k9.trans k10).trans k11)⟩
end
end K40

end
section
set_option Elab.async false
set_option linter.all false
set_option maxRecDepth 100000
set_option maxHeartbeats 4000000
namespace K40
open PySem PySem.Spec PyProof.Rows L2 Kit
section
variable {P : Program} {w : World} {K : PySem.W.Frag} {mg : Str → Option Value} {base : Heap} {a : Ad}
def spLaw (K : PySem.W.Frag) : Sp := fun vs H Q _ => ∃ (q : Addr) (ns : List Int), vs = [.ref q] ∧ SqL K H q (ns.map V.int) ∧ ns.length ≤ 63 ∧ ∀ G, Q (.bl true) G
theorem ok_law (T : Txt K mg a) {f : Addr} {fd : FuncData} (F : Fun K "law" "law" s_law f fd) : FnOk P w K mg base (L2.CX P w) 7 f fd P_law (spLaw K) := by
  refine F.okX sc_law (fun vs H Q E h => ?_) (fun cdv A outer s0 H vs Q E hr h => ?_)
  · obtain ⟨q, ns, rfl, _⟩ := h
    rfl
  · obtain ⟨sc, ns, rfl, hs, hl, z⟩ := h
    refine ⟨_, (pss_cons (ps_set (i := 1) sc_law.nd rfl (.inl rfl) (pc_f (c_law_source T) hr (by decide) (by rfl) (pa_cons (pv 0) pa_nil)))
      (pss_cons (ps_asg (pc_f (c_law_shape T) hr (by decide) (by rfl) (pa_cons (pv 1) pa_nil)) (pg_tup rfl (pgs_cons (pg_name (i := 2) sc_law.nd rfl (.inl rfl)) (pgs_cons (pg_name (i := 3) sc_law.nd rfl (.inl rfl)) (pgs_cons (pg_name (i := 4) sc_law.nd rfl (.inl rfl)) pgs_nil)))))
      (pss_cons (ps_set (i := 5) sc_law.nd rfl (.inl rfl) (pc_n (c_Scheme_init T) hr (by decide) (by rfl) (pa_cons (pv 2) (pa_cons (pv 3) pa_nil))))
      (pss_cons (ps_set (i := 6) sc_law.nd rfl (.inl rfl) (pc_f (c_law_parts T) hr (by decide) (by rfl) (pa_cons (pv 1) (pa_cons (pv 4) pa_nil))))
      (pss_cons (ps_set (i := 7) sc_law.nd rfl (.inl rfl) (pc_f (c_law_made T) hr (by decide) (by rfl) (pa_cons (pv 5) (pa_cons (pv 6) pa_nil))))
      (pss_cons (ps_if (PW.pt (pw_or (pt_not (pt_val (pe_callB (kisi K) (by rfl) T.b_isinstance (by decide +kernel) (pa_cons (kfld K (pv 7)) (pa_cons (pe_glob (v := .ref a.Scheme) (by rfl) T.c_Scheme.gC rfl) pa_nil))))) (pw_or1 (pt_not (pt_cmpR (eqO K (c_Scheme_eq T) hr (by decide) T.i_ni T.i_ns) (kfld K (pv 7)) (pv 5) (nomark _)))))) (pss_one (ps_ret pe_bl)) pss_nil)
      (pss_cons (ps_if (PW.pt (pw_or (pt_not (pt_val (pc_f (c_law_columns_hold T) hr (by decide) (by rfl) (pa_cons (pv 7) (pa_cons (pv 6) pa_nil))))) (pw_or1 (pt_not (pt_val (pc_f (c_law_windows_hold T) hr (by decide) (by rfl) (pa_cons (pv 1) (pa_cons (pv 7) (pa_cons (pv 6) pa_nil))))))))) (pss_one (ps_ret pe_bl)) pss_nil)
      (pss_cons (ps_set (i := 8) sc_law.nd rfl (.inl rfl) (pc_nD (c_Endless_init T) hr (by decide) (by rfl) (pa_cons (pv 5) (pa_cons (pe_ix (kix_tup K) (pv 6) pe_int (fun _ _ => rfl)) (pa_cons (pe_ix (kix_tup K) (pv 6) pe_int (fun _ _ => rfl)) (pa_cons (pe_ix (kix_tup K) (pv 6) pe_int (fun _ _ => rfl)) pa_nil))))))
      (C8.pss_cut (ps_if (pt_not (pt_val (pc_f (c_law_gaps_hold T) hr (by decide) (by rfl) (pa_cons (pv 7) (pa_cons (pv 8) (pa_cons (pc_f (c_law_gaps T) hr (by decide) (by rfl) (pa_cons (pv 6) (pa_cons (pe_tup (pa_cons (pe_ix (kix_tup K) (pv 6) pe_int (fun _ _ => rfl)) (pa_cons (pe_ix (kix_tup K) (pv 6) pe_int (fun _ _ => rfl)) (pa_cons (pe_ix (kix_tup K) (pv 6) pe_int (fun _ _ => rfl)) (pa_cons pe_int pa_nil))))) pa_nil))) pa_nil)))))) (pss_one (ps_ret pe_bl)) pss_nil)
      (pss_cons (ps_if (pt_not (pt_val (pc_f (c_law_moves_hold T) hr (by decide) (by rfl) (pa_cons (pv 1) (pa_cons (pv 5) (pa_cons (pv 7) (pa_cons (pv 6) pa_nil))))))) (pss_one (ps_ret pe_bl)) pss_nil)
      (pss_cons (ps_set (i := 9) sc_law.nd rfl (.inl rfl) (pc_f (c_law_other T) hr (by decide) (by rfl) (pa_cons (pv 1) (pa_cons (pv 4) (pa_cons (pv 6) pa_nil)))))
      (C8.pss_cut (ps_if (pt_not (pt_val (pc_f (c_law_gaps_hold T) hr (by decide) (by rfl) (pa_cons (pv 7) (pa_cons (pc_f (c_law_made T) hr (by decide) (by rfl) (pa_cons (pv 5) (pa_cons (pv 9) pa_nil))) (pa_cons (pc_f (c_law_gaps T) hr (by decide) (by rfl) (pa_cons (pv 6) (pa_cons (pv 9) pa_nil))) pa_nil)))))) (pss_one (ps_ret pe_bl)) pss_nil)
      (pss_cons (ps_if (PW.pt (pw_or (pt_not (pt_val (pc_f (c_law_refusals_hold T) hr (by decide) (by rfl) (pa_cons (pv 1) (pa_cons (pv 5) (pa_cons (pv 4) (pa_cons (pv 6) pa_nil))))))) (pw_or1 (pt_not (pt_val (pc_f (c_law_kinds_hold T) hr (by decide) (by rfl) (pa_cons (pv 5) (pa_cons (pv 4) pa_nil)))))))) (pss_one (ps_ret pe_bl)) pss_nil)
      (pss_one (ps_ret (pc_f (c_law_columns_hold T) hr (by decide) (by rfl) (pa_cons (pv 7) (pa_cons (pv 6) pa_nil)))))))))))))))))), ?_⟩
    refine ⟨_, rfl, sc, ns, rfl, hs, fun b G1 k1 f1 bA => ?_⟩
    refine ⟨_, rfl, b, 99999, rfl, bA.le (by decide), fun G2 tq R C N u2 h2 gd => ?_⟩
    refine ⟨tq, _, rfl, seqT_of h2, rfl, _, _, rfl, _, _, rfl, _, _, rfl, rfl, ?_⟩
    refine ⟨_, rfl, _, rfl, fun s dx0 hy hdx ne => init_good gd hy hdx ne fun G3 k3 sch => ?_⟩
    have gn := good_n gd
    have bB := u2.box.mono k3
    refine ⟨_, rfl, _, rfl, b, N, 99900, rfl, bB.le (by decide), gn.2.2.2.2, gn.1, fun G4 q l m r t u4 hq ok hm t1 t2 => ?_⟩
    have sch4 := sch.bu bB u4
    refine ⟨_, rfl, _, rfl, s, q, R, C, N, l, m, r, t, rfl, sch4, hq, ok, fun G5 p k5 e5 => ?_⟩
    have hq5 := k5 _ _ hq
    have b5 := u4.box.mono k5
    obtain ⟨dx, hp⟩ := e5.ob
    have sch5 := e5.sch
    obtain ⟨ds, hsc⟩ := sch5.1
    refine ⟨_, rfl, p, _, dx, _, _, rfl, hp, T.c_Endless.cl, T.n_scheme, fe_scheme s l m r t, _, _, _, _, true, rfl, .own _, .base (.ins hsc T.c_Scheme.cl T.i_ha T.i_hn T.i_ht T.i_hm), T.i_own, _, rfl, iteF ?_⟩
    refine ⟨_, rfl, p, _, dx, _, _, rfl, hp, T.c_Endless.cl, T.n_scheme, fe_scheme s l m r t, _, rfl, s, _, _, rfl, hsc, .inr (.inr ⟨s, _, _, rfl, hsc⟩), s, R, C, N, _, rfl, sch5, .inr (.inr ⟨s, R, C, N, rfl, sch5, _, rfl, _, rfl, ?_⟩)⟩
    rw [decide_eq_true rfl, decide_eq_true rfl]
    refine iteF ?_
    refine ⟨_, rfl, _, rfl, p, s, q, R, C, N, l, m, r, t, rfl, e5, hq5, fun G6 k6 => ⟨_, rfl, iteF ?_⟩⟩
    have b6 := b5.mono k6
    have e6 := e5.mono k6
    have hq6 := k6 _ _ hq5
    refine ⟨_, rfl, _, rfl, _, rfl, b, p, s, q, 99800, R, C, N, l, m, r, t, rfl, b6.le (by decide), e6, hq6, fun G7 u7 => ⟨_, rfl, iteF ?_⟩⟩
    have e7 := e6.bu b6 u7
    have hq7 := tup_bu hq6 b6 u7
    have b7 := u7.box
    have ok0 : PartOk N l m r 0 := ok.at2 (by decide) (by decide)
    refine ⟨_, rfl, _, rfl, q, _, 0, _, rfl, rfl, seqT_of hq7, rfl, _, rfl, q, _, 1, _, rfl, rfl, seqT_of hq7, rfl, _, rfl, q, _, 2, _, rfl, rfl, seqT_of hq7, rfl, fun pl dx2 hy2 hdx2 ne2 => init_endH (t := 0) e7.sch ok0 hy2 hdx2 ne2 fun G8 k8 f8 => ?_⟩
    have e8 := e7.mono k8
    have hq8 := k8 _ _ hq7
    have b8 := b7.mono k8
    refine ⟨fun σ G => Same G8 G ∧ σ = [some (.ref sc), some (.ref b), some (.int R), some (.int C), some (tx (cols N)), some (.ref s), some (.ref q), some (.ref p), some (.ref pl), none], ?_, ?_⟩
    · refine ⟨_, rfl, _, rfl, _, rfl, _, rfl, q, _, 0, _, rfl, rfl, seqT_of hq8, rfl, _, rfl, q, _, 1, _, rfl, rfl, seqT_of hq8, rfl, _, rfl, q, _, 2, _, rfl, rfl, seqT_of hq8, rfl, by show 4 ≤ sizeLine; decide, fun q2 h2 => ?_⟩
      have k9 := ex_new h2 (o := tpl l m r 0)
      have g8 := e8.mono k9
      have g9 := f8.mono k9
      refine ⟨q, q2, N, N, l, m, r, l, m, r, t, 0, rfl, k9 _ _ hq8, upd_same, ok, ok0, fun f G kk => ⟨p, s, pl, s, R, C, N, N, l, m, r, l, m, r, t, 0, _, rfl, g8.mono kk, g9.mono kk, .inl ⟨f, rfl⟩, fun M k => ⟨_, rfl, iteF ⟨(k9.trans kk).trans k, rfl⟩⟩⟩, fun f G x kk hx hG => ⟨p, s, pl, s, R, C, N, N, l, m, r, l, m, r, t, 0, _, rfl, g8.mono kk, g9.mono kk, .inr ⟨f, x, rfl, hG⟩, fun M k => ⟨_, rfl, iteF ⟨(k9.trans kk).trans k, rfl⟩⟩⟩⟩
    · rintro _ G9 ⟨k9, rfl⟩
      have e9 := e8.mono k9
      have hq9 := k9 _ _ hq8
      have b9 := b8.mono k9
      refine ⟨_, rfl, _, rfl, _, rfl, _, rfl, b, s, p, q, 99790, R, C, N, l, m, r, t, rfl, b9.le (by decide), e9, hq9, by omega, by omega, fun G10 u10 => ⟨_, rfl, iteF ?_⟩⟩
      have e10 := e9.bu b9 u10
      have hq10 := tup_bu hq9 b9 u10
      have b10 := u10.box
      refine ⟨_, rfl, _, rfl, _, rfl, b, q, N, 99700, l, m, r, t, rfl, b10.le (by decide), gn.2.2.2.2, gn.1, hq10, ok, hm, t1, t2, fun G11 qo l2 m2 r2 t3 u11 hqo ok2 hm2 t4 t5 => ?_⟩
      have e11 := e10.bu b10 u11
      have hq11 := tup_bu hq10 b10 u11
      have b11 := u11.box
      refine ⟨fun σ G => Same G11 G ∧ σ = [some (.ref sc), some (.ref b), some (.int R), some (.int C), some (tx (cols N)), some (.ref s), some (.ref q), some (.ref p), some (.ref pl), some (.ref qo)], ?_, ?_⟩
      · refine ⟨_, rfl, _, rfl, _, rfl, s, qo, R, C, N, l2, m2, r2, t3, rfl, e11.sch, hqo, ok2, fun G12 po k12 f12 => ?_⟩
        have g11 := e11.mono k12
        exact ⟨_, rfl, _, rfl, q, qo, N, N, l, m, r, l2, m2, r2, t, t3, rfl, k12 _ _ hq11, k12 _ _ hqo, ok, ok2, fun f G kk => ⟨p, s, po, s, R, C, N, N, l, m, r, l2, m2, r2, t, t3, _, rfl, g11.mono kk, f12.mono kk, .inl ⟨f, rfl⟩, fun M k => ⟨_, rfl, iteF ⟨(k12.trans kk).trans k, rfl⟩⟩⟩, fun f G x kk hx hG => ⟨p, s, po, s, R, C, N, N, l, m, r, l2, m2, r2, t, t3, _, rfl, g11.mono kk, f12.mono kk, .inr ⟨f, x, rfl, hG⟩, fun M k => ⟨_, rfl, iteF ⟨(k12.trans kk).trans k, rfl⟩⟩⟩⟩
      · rintro _ G12 ⟨k12, rfl⟩
        have e12 := e11.mono k12
        have hq12 := k12 _ _ hq11
        have b12 := b11.mono k12
        refine ⟨_, rfl, _, rfl, _, rfl, _, rfl, b, s, q, 99000, R, C, N, l, m, r, t, rfl, b12.le (by decide), e12.sch, hq12, ok, fun G13 u13 => ⟨_, rfl, iteF ?_⟩⟩
        have e13 := e12.bu b12 u13
        have hq13 := tup_bu hq12 b12 u13
        refine ⟨_, rfl, _, rfl, s, R, C, N, rfl, e13.sch, fun G14 k14 => ⟨_, rfl, iteF ?_⟩⟩
        exact ⟨_, rfl, _, rfl, p, s, q, R, C, N, l, m, r, t, rfl, e13.mono k14, k14 _ _ hq13, fun G15 k15 => z G15⟩
end
theorem law_F {l : PySem.W.OpenLaw} {w : World} {K : PySem.W.Frag} {mg : Str → Option Value} {fa : Addr} {a : Ad} (T : Txt K mg a) (hfa : mg "law" = some (.ref fa)) :
    ∃ fd : FuncData, (∀ (s : Shared) (v : Value), BindsTo s fd ⟨[v], []⟩ [("script", v)]) ∧ ∀ base : Heap, K.In base → base.Ns mainGlobals mg → FnOk l.prog w K mg base (L2.CX l.prog w) 7 fa fd ["script"] (spLaw K) := by
  obtain ⟨f, fd, F, g⟩ := T.d_law.ex
  have e := hfa.symm.trans g
  cases e
  refine ⟨fd, fun s v => ?_, fun base _ _ => ok_law T F⟩
  obtain ⟨oc, od, kV, doc, pm, an, cdv, ct, osl, rfl, lk, hcd⟩ := F.ex
  exact .of_eq rfl
theorem walk {l : PySem.W.OpenLaw} {q : Program} {loose : List Str} {XP : (Str → Option Value) → Heap → Prop} {YP : World → Heap → Prop} {d : DefRec} {K : Params → PySem.W.Frag} (hn : l.most = some 63) (hdf : d.params.defaults = [])
    (hY : ∀ (w : World) (h : Heap), YP w h → (K w.params).In h) (hd : d.name = "law")
    (F : ∀ (w : World) (mg : Str → Option Value) (h : Heap), (K w.params).In h → h.Ns mainGlobals mg → ∃ a, Txt (K w.params) mg a) :
    PySem.W.WalkO q loose XP YP l.row.toRowW d [] (fun f vs => PySem.call f vs) :=
  L2.walk_of (n := 63) (k := 7) (x := "script") (CX := fun w => L2.CX l.prog w) (sp := fun w => spLaw (K w.params)) hn (by decide) hdf ⟨rfl, by decide, by decide⟩ hY
    (fun w mg fa h KX G hmg => let ⟨a, T⟩ := F w mg h KX G; law_F T (hd ▸ hmg))
    (fun _ _ a ns hl _ hS => ⟨a, ns, rfl, hS, hl, fun _ => rfl⟩) fun _ _ _ _ _ z => by
      obtain ⟨_, _, _, _, _, _, _, _, _, _, _, _, x⟩ := z
      exact x
end K40

end
section
set_option Elab.async false
set_option linter.all false
set_option maxRecDepth 100000
set_option maxHeartbeats 4000000
namespace Kit
open PySem PySem.Spec PyProof.Rows L2
/-! ### from what the head wrote down to the text's facts -/
section
variable {K : PySem.W.Frag} {h : Heap} {mg : Str → Option Value}
theorem defT_of {x : Str} {st : Stmt} {f : Addr} {od an : Option Addr} {sl : Array (Option Value)} {oc kV dc pm cd ct : Value} (X : K.In h) (G : h.Ns mainGlobals mg) (a1 : PySem.W.nsIn K mainGlobals x = some (some (.ref f)))
    (l1 : K.lookup f = some ⟨oc, od, .func (PySem.W.fnOf x x (defArgs st) (defBody st) (defScope st) .none kV dc pm an cd ct), sl⟩) (c1 : PySem.W.codeIn K cd x = true) (k1 : PySem.W.keepIn K (.ref f) = true) : DefT K mg x st :=
  ⟨f, _, fun_mk (st := st) l1 c1 k1, PySem.W.mg_of X G a1⟩
theorem metT_of {C : Addr} {m q : Str} {st : Stmt} {f : Addr} {od an : Option Addr} {sl : Array (Option Value)} {oc kV dc pm cd ct : Value} (a1 : PySem.W.findIn K (.ref C) m = some (some (.ref f))) (i1 : PySem.W.isFn K (.ref f) = true)
    (l1 : K.lookup f = some ⟨oc, od, .func (PySem.W.fnOf m q (defArgs st) (defBody st) (defScope st) .none kV dc pm an cd ct), sl⟩) (c1 : PySem.W.codeIn K cd q = true) (k1 : PySem.W.keepIn K (.ref f) = true) : MetT K C m q st :=
  ⟨f, _, fun_mk (st := st) l1 c1 k1, ⟨a1, i1, k1⟩⟩
theorem clsT_of {C : Addr} {x : Str} (X : K.In h) (G : h.Ns mainGlobals mg) (aC : PySem.W.nsIn K mainGlobals x = some (some (.ref C))) (pg : PySem.W.plainGet K C Str.empty = true) (hd : PySem.W.hasDictIn K C = true) (po : PySem.W.plainOver K C = true)
    (sa : PySem.W.findIn K (.ref C) "__setattr__" = some (some (.builtin "object.__setattr__"))) (mk : PySem.W.makesIn K C = true) (kc : PySem.W.keepIn K (.ref C) = true) : ClsT K mg C x := ⟨⟨pg, hd, po, sa⟩, PySem.W.mg_of X G aC, mk, kc⟩
theorem errT_of {C : Addr} {x q fld : Str} {st : Stmt} {f : Addr} {od an : Option Addr} {sl : Array (Option Value)} {oc kV dc pm cd ct : Value}
    {nm qn : Str} {N : Addr} {bs bm : List Value} {sn : List Str} {sub : List Value} {ab : Bool} {col : Option Bool} {dd : Option Addr} {m0 m1 m2 m3 m5 : Option Value}
    (X : K.In h) (G : h.Ns mainGlobals mg) (aC : PySem.W.nsIn K mainGlobals x = some (some (.ref C)))
    (xL : K.lookup C = some (excClassObj nm qn C N bs bm true sn sub ab col dd m0 m1 m2 m3 m5 "ValueError.__new__")) (rf : PySem.HandSPX.refsVE bm = true)
    (sa : PySem.W.findIn K (.ref C) "__setattr__" = some (some (.builtin "object.__setattr__"))) (eC : PySem.W.subIn K (.ref C) (.type "BaseException") = some true) (tC : PySem.W.typeIn K (.ref C) = some (.type "type")) (kC : PySem.W.keepIn K (.ref C) = true)
    (nb : PySem.W.findIn K (.ref C) fld = some none)
    (a1 : PySem.W.findIn K (.ref C) "__init__" = some (some (.ref f))) (t1 : PySem.W.typeIn K (.ref f) = some (.type "function"))
    (l1 : K.lookup f = some ⟨oc, od, .func (PySem.W.fnOf "__init__" q (defArgs st) (defBody st) (defScope st) .none kV dc pm an cd ct), sl⟩) (c1 : PySem.W.codeIn K cd q = true) (k1 : PySem.W.keepIn K (.ref f) = true) : ErrT K mg C x q fld st :=
  ⟨PySem.W.mg_of X G aC, ⟨⟨nm, qn, N, bs, bm, sn, sub, ab, col, dd, m0, m1, m2, m3, m5, xL, rf⟩, sa, eC, tC, kC⟩, nb, f, _, fun_mk (st := st) l1 c1 k1, a1, t1⟩
theorem errC_of {C : Addr} (ga : PySem.W.findIn K (.ref C) "__getattribute__" = some (some (.builtin "BaseException.__getattribute__"))) (gg : PySem.W.findIn K (.ref C) "__getattr__" = some none) (eC : PySem.W.subIn K (.ref C) (.type "BaseException") = some true) (hd : PySem.W.hasDictIn K C = true)
    (ha : PySem.W.findIn K (.ref C) "__class__" = some (some (.builtin "object.__class__"))) (hn : PySem.W.specialIn K (.builtin "object.__class__") "__get__" = some (some (.builtin "getset_descriptor.__get__")))
    (ht : PySem.W.takesIn K (.builtin "object.__class__") = some true) (hm : PySem.W.mroIn K C (.type "object") = some true) (hc : PySem.W.isClsIn K C = true) : ErrC K C := ⟨⟨ga, gg, eC, hd⟩, ha, hn, ht, hm, hc⟩
theorem gval_of {x : Str} {v : V} {u : Value} (X : K.In h) (G : h.Ns mainGlobals mg) (a1 : PySem.W.nsIn K mainGlobals x = some (some u)) (r : RelV v u) : ∃ u, mg x = some u ∧ RelV v u := ⟨u, PySem.W.mg_of X G a1, r⟩
theorem kitR_of {t : Value} {C : Addr} {b : Bool} (hc : PySem.W.isClsIn K C = true) (tC : PySem.W.typeIn K (.ref C) = some (.type "type")) (s : PySem.W.subIn K t (.ref C) = some b) (ne : (t == .ref C) = false) : PySem.W.kitOne K t (.ref C) = some b := by
  have hc : (PySem.W.clsIn K C).isSome = true := hc
  show (if (t == .ref C) = true then some true else if ((PySem.W.clsIn K C).isSome && PySem.W.typeIn K (.ref C) == some (.type "type")) = true then PySem.W.subIn K t (.ref C) else none) = some b
  rw [ne, if_neg (by decide), hc, tC, if_pos (by rfl)]
  exact s
theorem kitS_of {C : Addr} : PySem.W.kitOne K (.ref C) (.ref C) = some true := by
  show (if ((Value.ref C) == .ref C) = true then some true else _) = some true
  rw [if_pos (by simp)]
theorem kitT_of {C : Addr} {n : String} {b : Bool} (m : PySem.W.kitMeta n = true) (s : PySem.W.subIn K (.ref C) (.type n) = some b) : PySem.W.kitOne K (.ref C) (.type n) = some b := by
  show (if ((Value.ref C) == .type n) = true then some true else if PySem.W.kitMeta n = true then PySem.W.subIn K (.ref C) (.type n) else none) = some b
  rw [if_neg (fun q => by cases q), if_pos m]
  exact s
theorem exm_of {cls : Value} {S : Addr} {b : Bool} (h1 : PySem.W.subIn K (.ref S) (.type "BaseException") = some true) (h2 : PySem.W.isClsIn K S = true) (h3 : PySem.W.typeIn K (.ref S) = some (.type "type")) (h4 : PySem.W.subIn K cls (.ref S) = some b) : PySem.W.exmOne K cls (.ref S) = some b := by
  have e1 : (PySem.W.subIn K (.ref S) (.type "BaseException") == some true) = true := by rw [h1] <;> rfl
  have e2 : ((PySem.W.clsIn K S).isSome && PySem.W.typeIn K (.ref S) == some (.type "type")) = true := by
    have h2' : (PySem.W.clsIn K S).isSome = true := h2
    rw [h2', h3] <;> rfl
  show (if (PySem.W.subIn K (.ref S) (.type "BaseException") == some true) = true then (if ((PySem.W.clsIn K S).isSome && PySem.W.typeIn K (.ref S) == some (.type "type")) = true then PySem.W.subIn K cls (.ref S) else none) else none) = some b
  rw [if_pos e1, if_pos e2]
  exact h4
end
end Kit

end
section
set_option Elab.async false
set_option linter.all false
set_option maxRecDepth 100000
set_option maxHeartbeats 4000000
namespace K40
open PySem PySem.Spec PyProof.Rows L2 Kit
theorem kk_of {K : PySem.W.Frag} {CGalloonError CUnlikeSchemes CBadScheme CBadColumn CBadSpots CBadStrip CBadEndless CScheme CEndless : Addr}
    (ic_UnlikeSchemes : PySem.W.isClsIn K CUnlikeSchemes = true)
    (tc_UnlikeSchemes : PySem.W.typeIn K (.ref CUnlikeSchemes) = some (.type "type"))
    (ic_BadScheme : PySem.W.isClsIn K CBadScheme = true)
    (tc_BadScheme : PySem.W.typeIn K (.ref CBadScheme) = some (.type "type"))
    (ic_BadColumn : PySem.W.isClsIn K CBadColumn = true)
    (tc_BadColumn : PySem.W.typeIn K (.ref CBadColumn) = some (.type "type"))
    (ic_BadSpots : PySem.W.isClsIn K CBadSpots = true)
    (tc_BadSpots : PySem.W.typeIn K (.ref CBadSpots) = some (.type "type"))
    (ic_BadStrip : PySem.W.isClsIn K CBadStrip = true)
    (tc_BadStrip : PySem.W.typeIn K (.ref CBadStrip) = some (.type "type"))
    (ic_BadEndless : PySem.W.isClsIn K CBadEndless = true)
    (tc_BadEndless : PySem.W.typeIn K (.ref CBadEndless) = some (.type "type"))
    (s_0_1 : PySem.W.subIn K (.ref CBadScheme) (.ref CBadColumn) = some false)
    (ne_0_1 : ((Value.ref CBadScheme) == Value.ref CBadColumn) = false)
    (s_0_2 : PySem.W.subIn K (.ref CBadScheme) (.ref CBadSpots) = some false)
    (ne_0_2 : ((Value.ref CBadScheme) == Value.ref CBadSpots) = false)
    (s_0_3 : PySem.W.subIn K (.ref CBadScheme) (.ref CBadStrip) = some false)
    (ne_0_3 : ((Value.ref CBadScheme) == Value.ref CBadStrip) = false)
    (s_0_4 : PySem.W.subIn K (.ref CBadScheme) (.ref CBadEndless) = some false)
    (ne_0_4 : ((Value.ref CBadScheme) == Value.ref CBadEndless) = false)
    (s_0_5 : PySem.W.subIn K (.ref CBadScheme) (.ref CUnlikeSchemes) = some false)
    (ne_0_5 : ((Value.ref CBadScheme) == Value.ref CUnlikeSchemes) = false)
    (s_1_0 : PySem.W.subIn K (.ref CBadColumn) (.ref CBadScheme) = some false)
    (ne_1_0 : ((Value.ref CBadColumn) == Value.ref CBadScheme) = false)
    (s_1_2 : PySem.W.subIn K (.ref CBadColumn) (.ref CBadSpots) = some false)
    (ne_1_2 : ((Value.ref CBadColumn) == Value.ref CBadSpots) = false)
    (s_1_3 : PySem.W.subIn K (.ref CBadColumn) (.ref CBadStrip) = some false)
    (ne_1_3 : ((Value.ref CBadColumn) == Value.ref CBadStrip) = false)
    (s_1_4 : PySem.W.subIn K (.ref CBadColumn) (.ref CBadEndless) = some false)
    (ne_1_4 : ((Value.ref CBadColumn) == Value.ref CBadEndless) = false)
    (s_1_5 : PySem.W.subIn K (.ref CBadColumn) (.ref CUnlikeSchemes) = some false)
    (ne_1_5 : ((Value.ref CBadColumn) == Value.ref CUnlikeSchemes) = false)
    (s_2_0 : PySem.W.subIn K (.ref CBadSpots) (.ref CBadScheme) = some false)
    (ne_2_0 : ((Value.ref CBadSpots) == Value.ref CBadScheme) = false)
    (s_2_1 : PySem.W.subIn K (.ref CBadSpots) (.ref CBadColumn) = some false)
    (ne_2_1 : ((Value.ref CBadSpots) == Value.ref CBadColumn) = false)
    (s_2_3 : PySem.W.subIn K (.ref CBadSpots) (.ref CBadStrip) = some false)
    (ne_2_3 : ((Value.ref CBadSpots) == Value.ref CBadStrip) = false)
    (s_2_4 : PySem.W.subIn K (.ref CBadSpots) (.ref CBadEndless) = some false)
    (ne_2_4 : ((Value.ref CBadSpots) == Value.ref CBadEndless) = false)
    (s_2_5 : PySem.W.subIn K (.ref CBadSpots) (.ref CUnlikeSchemes) = some false)
    (ne_2_5 : ((Value.ref CBadSpots) == Value.ref CUnlikeSchemes) = false)
    (s_3_0 : PySem.W.subIn K (.ref CBadStrip) (.ref CBadScheme) = some false)
    (ne_3_0 : ((Value.ref CBadStrip) == Value.ref CBadScheme) = false)
    (s_3_1 : PySem.W.subIn K (.ref CBadStrip) (.ref CBadColumn) = some false)
    (ne_3_1 : ((Value.ref CBadStrip) == Value.ref CBadColumn) = false)
    (s_3_2 : PySem.W.subIn K (.ref CBadStrip) (.ref CBadSpots) = some false)
    (ne_3_2 : ((Value.ref CBadStrip) == Value.ref CBadSpots) = false)
    (s_3_4 : PySem.W.subIn K (.ref CBadStrip) (.ref CBadEndless) = some false)
    (ne_3_4 : ((Value.ref CBadStrip) == Value.ref CBadEndless) = false)
    (s_3_5 : PySem.W.subIn K (.ref CBadStrip) (.ref CUnlikeSchemes) = some false)
    (ne_3_5 : ((Value.ref CBadStrip) == Value.ref CUnlikeSchemes) = false)
    (s_4_0 : PySem.W.subIn K (.ref CBadEndless) (.ref CBadScheme) = some false)
    (ne_4_0 : ((Value.ref CBadEndless) == Value.ref CBadScheme) = false)
    (s_4_1 : PySem.W.subIn K (.ref CBadEndless) (.ref CBadColumn) = some false)
    (ne_4_1 : ((Value.ref CBadEndless) == Value.ref CBadColumn) = false)
    (s_4_2 : PySem.W.subIn K (.ref CBadEndless) (.ref CBadSpots) = some false)
    (ne_4_2 : ((Value.ref CBadEndless) == Value.ref CBadSpots) = false)
    (s_4_3 : PySem.W.subIn K (.ref CBadEndless) (.ref CBadStrip) = some false)
    (ne_4_3 : ((Value.ref CBadEndless) == Value.ref CBadStrip) = false)
    (s_4_5 : PySem.W.subIn K (.ref CBadEndless) (.ref CUnlikeSchemes) = some false)
    (ne_4_5 : ((Value.ref CBadEndless) == Value.ref CUnlikeSchemes) = false)
    (s_5_0 : PySem.W.subIn K (.ref CUnlikeSchemes) (.ref CBadScheme) = some false)
    (ne_5_0 : ((Value.ref CUnlikeSchemes) == Value.ref CBadScheme) = false)
    (s_5_1 : PySem.W.subIn K (.ref CUnlikeSchemes) (.ref CBadColumn) = some false)
    (ne_5_1 : ((Value.ref CUnlikeSchemes) == Value.ref CBadColumn) = false)
    (s_5_2 : PySem.W.subIn K (.ref CUnlikeSchemes) (.ref CBadSpots) = some false)
    (ne_5_2 : ((Value.ref CUnlikeSchemes) == Value.ref CBadSpots) = false)
    (s_5_3 : PySem.W.subIn K (.ref CUnlikeSchemes) (.ref CBadStrip) = some false)
    (ne_5_3 : ((Value.ref CUnlikeSchemes) == Value.ref CBadStrip) = false)
    (s_5_4 : PySem.W.subIn K (.ref CUnlikeSchemes) (.ref CBadEndless) = some false)
    (ne_5_4 : ((Value.ref CUnlikeSchemes) == Value.ref CBadEndless) = false) : ∀ i < 6, ∀ j < 6, PySem.W.kitOne K (.ref (eAd ⟨CGalloonError, CUnlikeSchemes, CBadScheme, CBadColumn, CBadSpots, CBadStrip, CBadEndless, CScheme, CEndless⟩ i)) (.ref (eAd ⟨CGalloonError, CUnlikeSchemes, CBadScheme, CBadColumn, CBadSpots, CBadStrip, CBadEndless, CScheme, CEndless⟩ j)) = some (decide (i = j)) := by
  intro i hi j hj
  match i, hi, j, hj with
  | 0, _, 0, _ => exact kitS_of
  | 0, _, 1, _ => exact kitR_of ic_BadColumn tc_BadColumn s_0_1 ne_0_1
  | 0, _, 2, _ => exact kitR_of ic_BadSpots tc_BadSpots s_0_2 ne_0_2
  | 0, _, 3, _ => exact kitR_of ic_BadStrip tc_BadStrip s_0_3 ne_0_3
  | 0, _, 4, _ => exact kitR_of ic_BadEndless tc_BadEndless s_0_4 ne_0_4
  | 0, _, 5, _ => exact kitR_of ic_UnlikeSchemes tc_UnlikeSchemes s_0_5 ne_0_5
  | 1, _, 0, _ => exact kitR_of ic_BadScheme tc_BadScheme s_1_0 ne_1_0
  | 1, _, 1, _ => exact kitS_of
  | 1, _, 2, _ => exact kitR_of ic_BadSpots tc_BadSpots s_1_2 ne_1_2
  | 1, _, 3, _ => exact kitR_of ic_BadStrip tc_BadStrip s_1_3 ne_1_3
  | 1, _, 4, _ => exact kitR_of ic_BadEndless tc_BadEndless s_1_4 ne_1_4
  | 1, _, 5, _ => exact kitR_of ic_UnlikeSchemes tc_UnlikeSchemes s_1_5 ne_1_5
  | 2, _, 0, _ => exact kitR_of ic_BadScheme tc_BadScheme s_2_0 ne_2_0
  | 2, _, 1, _ => exact kitR_of ic_BadColumn tc_BadColumn s_2_1 ne_2_1
  | 2, _, 2, _ => exact kitS_of
  | 2, _, 3, _ => exact kitR_of ic_BadStrip tc_BadStrip s_2_3 ne_2_3
  | 2, _, 4, _ => exact kitR_of ic_BadEndless tc_BadEndless s_2_4 ne_2_4
  | 2, _, 5, _ => exact kitR_of ic_UnlikeSchemes tc_UnlikeSchemes s_2_5 ne_2_5
  | 3, _, 0, _ => exact kitR_of ic_BadScheme tc_BadScheme s_3_0 ne_3_0
  | 3, _, 1, _ => exact kitR_of ic_BadColumn tc_BadColumn s_3_1 ne_3_1
  | 3, _, 2, _ => exact kitR_of ic_BadSpots tc_BadSpots s_3_2 ne_3_2
  | 3, _, 3, _ => exact kitS_of
  | 3, _, 4, _ => exact kitR_of ic_BadEndless tc_BadEndless s_3_4 ne_3_4
  | 3, _, 5, _ => exact kitR_of ic_UnlikeSchemes tc_UnlikeSchemes s_3_5 ne_3_5
  | 4, _, 0, _ => exact kitR_of ic_BadScheme tc_BadScheme s_4_0 ne_4_0
  | 4, _, 1, _ => exact kitR_of ic_BadColumn tc_BadColumn s_4_1 ne_4_1
  | 4, _, 2, _ => exact kitR_of ic_BadSpots tc_BadSpots s_4_2 ne_4_2
  | 4, _, 3, _ => exact kitR_of ic_BadStrip tc_BadStrip s_4_3 ne_4_3
  | 4, _, 4, _ => exact kitS_of
  | 4, _, 5, _ => exact kitR_of ic_UnlikeSchemes tc_UnlikeSchemes s_4_5 ne_4_5
  | 5, _, 0, _ => exact kitR_of ic_BadScheme tc_BadScheme s_5_0 ne_5_0
  | 5, _, 1, _ => exact kitR_of ic_BadColumn tc_BadColumn s_5_1 ne_5_1
  | 5, _, 2, _ => exact kitR_of ic_BadSpots tc_BadSpots s_5_2 ne_5_2
  | 5, _, 3, _ => exact kitR_of ic_BadStrip tc_BadStrip s_5_3 ne_5_3
  | 5, _, 4, _ => exact kitR_of ic_BadEndless tc_BadEndless s_5_4 ne_5_4
  | 5, _, 5, _ => exact kitS_of
theorem kv_of {K : PySem.W.Frag} {CGalloonError CUnlikeSchemes CBadScheme CBadColumn CBadSpots CBadStrip CBadEndless CScheme CEndless : Addr}
    (sv_0 : PySem.W.subIn K (.ref CBadScheme) (.type "ValueError") = some true)
    (sv_1 : PySem.W.subIn K (.ref CBadColumn) (.type "ValueError") = some true)
    (sv_2 : PySem.W.subIn K (.ref CBadSpots) (.type "ValueError") = some true)
    (sv_3 : PySem.W.subIn K (.ref CBadStrip) (.type "ValueError") = some true)
    (sv_4 : PySem.W.subIn K (.ref CBadEndless) (.type "ValueError") = some true)
    (sv_5 : PySem.W.subIn K (.ref CUnlikeSchemes) (.type "ValueError") = some true) : ∀ i < 6, PySem.W.kitOne K (.ref (eAd ⟨CGalloonError, CUnlikeSchemes, CBadScheme, CBadColumn, CBadSpots, CBadStrip, CBadEndless, CScheme, CEndless⟩ i)) (.type "ValueError") = some true := by
  intro i hi
  match i, hi with
  | 0, _ => exact kitT_of (by decide +kernel) sv_0
  | 1, _ => exact kitT_of (by decide +kernel) sv_1
  | 2, _ => exact kitT_of (by decide +kernel) sv_2
  | 3, _ => exact kitT_of (by decide +kernel) sv_3
  | 4, _ => exact kitT_of (by decide +kernel) sv_4
  | 5, _ => exact kitT_of (by decide +kernel) sv_5
theorem xm_of {K : PySem.W.Frag} {CGalloonError CUnlikeSchemes CBadScheme CBadColumn CBadSpots CBadStrip CBadEndless CScheme CEndless : Addr}
    (sB_GalloonError : PySem.W.subIn K (.ref CGalloonError) (.type "BaseException") = some true)
    (ic_GalloonError : PySem.W.isClsIn K CGalloonError = true)
    (tc_GalloonError : PySem.W.typeIn K (.ref CGalloonError) = some (.type "type"))
    (sg_0 : PySem.W.subIn K (.ref CBadScheme) (.ref CGalloonError) = some true)
    (sg_1 : PySem.W.subIn K (.ref CBadColumn) (.ref CGalloonError) = some true)
    (sg_2 : PySem.W.subIn K (.ref CBadSpots) (.ref CGalloonError) = some true)
    (sg_3 : PySem.W.subIn K (.ref CBadStrip) (.ref CGalloonError) = some true)
    (sg_4 : PySem.W.subIn K (.ref CBadEndless) (.ref CGalloonError) = some true)
    (sg_5 : PySem.W.subIn K (.ref CUnlikeSchemes) (.ref CGalloonError) = some true) : ∀ i < 6, PySem.W.exmOne K (.ref (eAd ⟨CGalloonError, CUnlikeSchemes, CBadScheme, CBadColumn, CBadSpots, CBadStrip, CBadEndless, CScheme, CEndless⟩ i)) (.ref CGalloonError) = some true := by
  intro i hi
  match i, hi with
  | 0, _ => exact exm_of sB_GalloonError ic_GalloonError tc_GalloonError sg_0
  | 1, _ => exact exm_of sB_GalloonError ic_GalloonError tc_GalloonError sg_1
  | 2, _ => exact exm_of sB_GalloonError ic_GalloonError tc_GalloonError sg_2
  | 3, _ => exact exm_of sB_GalloonError ic_GalloonError tc_GalloonError sg_3
  | 4, _ => exact exm_of sB_GalloonError ic_GalloonError tc_GalloonError sg_4
  | 5, _ => exact exm_of sB_GalloonError ic_GalloonError tc_GalloonError sg_5
theorem kg_of {K : PySem.W.Frag} {CGalloonError CUnlikeSchemes CBadScheme CBadColumn CBadSpots CBadStrip CBadEndless CScheme CEndless : Addr}
    (ic_GalloonError : PySem.W.isClsIn K CGalloonError = true)
    (tc_GalloonError : PySem.W.typeIn K (.ref CGalloonError) = some (.type "type"))
    (sg_0 : PySem.W.subIn K (.ref CBadScheme) (.ref CGalloonError) = some true)
    (sg_1 : PySem.W.subIn K (.ref CBadColumn) (.ref CGalloonError) = some true)
    (sg_2 : PySem.W.subIn K (.ref CBadSpots) (.ref CGalloonError) = some true)
    (sg_3 : PySem.W.subIn K (.ref CBadStrip) (.ref CGalloonError) = some true)
    (sg_4 : PySem.W.subIn K (.ref CBadEndless) (.ref CGalloonError) = some true)
    (sg_5 : PySem.W.subIn K (.ref CUnlikeSchemes) (.ref CGalloonError) = some true)
    (ne_g_0 : ((Value.ref CBadScheme) == Value.ref CGalloonError) = false)
    (ne_g_1 : ((Value.ref CBadColumn) == Value.ref CGalloonError) = false)
    (ne_g_2 : ((Value.ref CBadSpots) == Value.ref CGalloonError) = false)
    (ne_g_3 : ((Value.ref CBadStrip) == Value.ref CGalloonError) = false)
    (ne_g_4 : ((Value.ref CBadEndless) == Value.ref CGalloonError) = false)
    (ne_g_5 : ((Value.ref CUnlikeSchemes) == Value.ref CGalloonError) = false) : ∀ i < 6, PySem.W.kitOne K (.ref (eAd ⟨CGalloonError, CUnlikeSchemes, CBadScheme, CBadColumn, CBadSpots, CBadStrip, CBadEndless, CScheme, CEndless⟩ i)) (.ref CGalloonError) = some true := by
  intro i hi
  match i, hi with
  | 0, _ => exact kitR_of ic_GalloonError tc_GalloonError sg_0 ne_g_0
  | 1, _ => exact kitR_of ic_GalloonError tc_GalloonError sg_1 ne_g_1
  | 2, _ => exact kitR_of ic_GalloonError tc_GalloonError sg_2 ne_g_2
  | 3, _ => exact kitR_of ic_GalloonError tc_GalloonError sg_3 ne_g_3
  | 4, _ => exact kitR_of ic_GalloonError tc_GalloonError sg_4 ne_g_4
  | 5, _ => exact kitR_of ic_GalloonError tc_GalloonError sg_5 ne_g_5
theorem xo_of {K : PySem.W.Frag} {CGalloonError CUnlikeSchemes CBadScheme CBadColumn CBadSpots CBadStrip CBadEndless CScheme CEndless : Addr}
    (sB_UnlikeSchemes : PySem.W.subIn K (.ref CUnlikeSchemes) (.type "BaseException") = some true)
    (ic_UnlikeSchemes : PySem.W.isClsIn K CUnlikeSchemes = true)
    (tc_UnlikeSchemes : PySem.W.typeIn K (.ref CUnlikeSchemes) = some (.type "type"))
    (sB_BadScheme : PySem.W.subIn K (.ref CBadScheme) (.type "BaseException") = some true)
    (ic_BadScheme : PySem.W.isClsIn K CBadScheme = true)
    (tc_BadScheme : PySem.W.typeIn K (.ref CBadScheme) = some (.type "type"))
    (sB_BadColumn : PySem.W.subIn K (.ref CBadColumn) (.type "BaseException") = some true)
    (ic_BadColumn : PySem.W.isClsIn K CBadColumn = true)
    (tc_BadColumn : PySem.W.typeIn K (.ref CBadColumn) = some (.type "type"))
    (sB_BadSpots : PySem.W.subIn K (.ref CBadSpots) (.type "BaseException") = some true)
    (ic_BadSpots : PySem.W.isClsIn K CBadSpots = true)
    (tc_BadSpots : PySem.W.typeIn K (.ref CBadSpots) = some (.type "type"))
    (sB_BadStrip : PySem.W.subIn K (.ref CBadStrip) (.type "BaseException") = some true)
    (ic_BadStrip : PySem.W.isClsIn K CBadStrip = true)
    (tc_BadStrip : PySem.W.typeIn K (.ref CBadStrip) = some (.type "type"))
    (sB_BadEndless : PySem.W.subIn K (.ref CBadEndless) (.type "BaseException") = some true)
    (ic_BadEndless : PySem.W.isClsIn K CBadEndless = true)
    (tc_BadEndless : PySem.W.typeIn K (.ref CBadEndless) = some (.type "type"))
    (ss_0 : PySem.W.subIn K (.ref CBadScheme) (.ref CBadScheme) = some true)
    (s_0_1 : PySem.W.subIn K (.ref CBadScheme) (.ref CBadColumn) = some false)
    (s_0_2 : PySem.W.subIn K (.ref CBadScheme) (.ref CBadSpots) = some false)
    (s_0_3 : PySem.W.subIn K (.ref CBadScheme) (.ref CBadStrip) = some false)
    (s_0_4 : PySem.W.subIn K (.ref CBadScheme) (.ref CBadEndless) = some false)
    (s_0_5 : PySem.W.subIn K (.ref CBadScheme) (.ref CUnlikeSchemes) = some false)
    (s_1_0 : PySem.W.subIn K (.ref CBadColumn) (.ref CBadScheme) = some false)
    (ss_1 : PySem.W.subIn K (.ref CBadColumn) (.ref CBadColumn) = some true)
    (s_1_2 : PySem.W.subIn K (.ref CBadColumn) (.ref CBadSpots) = some false)
    (s_1_3 : PySem.W.subIn K (.ref CBadColumn) (.ref CBadStrip) = some false)
    (s_1_4 : PySem.W.subIn K (.ref CBadColumn) (.ref CBadEndless) = some false)
    (s_1_5 : PySem.W.subIn K (.ref CBadColumn) (.ref CUnlikeSchemes) = some false)
    (s_2_0 : PySem.W.subIn K (.ref CBadSpots) (.ref CBadScheme) = some false)
    (s_2_1 : PySem.W.subIn K (.ref CBadSpots) (.ref CBadColumn) = some false)
    (ss_2 : PySem.W.subIn K (.ref CBadSpots) (.ref CBadSpots) = some true)
    (s_2_3 : PySem.W.subIn K (.ref CBadSpots) (.ref CBadStrip) = some false)
    (s_2_4 : PySem.W.subIn K (.ref CBadSpots) (.ref CBadEndless) = some false)
    (s_2_5 : PySem.W.subIn K (.ref CBadSpots) (.ref CUnlikeSchemes) = some false)
    (s_3_0 : PySem.W.subIn K (.ref CBadStrip) (.ref CBadScheme) = some false)
    (s_3_1 : PySem.W.subIn K (.ref CBadStrip) (.ref CBadColumn) = some false)
    (s_3_2 : PySem.W.subIn K (.ref CBadStrip) (.ref CBadSpots) = some false)
    (ss_3 : PySem.W.subIn K (.ref CBadStrip) (.ref CBadStrip) = some true)
    (s_3_4 : PySem.W.subIn K (.ref CBadStrip) (.ref CBadEndless) = some false)
    (s_3_5 : PySem.W.subIn K (.ref CBadStrip) (.ref CUnlikeSchemes) = some false)
    (s_4_0 : PySem.W.subIn K (.ref CBadEndless) (.ref CBadScheme) = some false)
    (s_4_1 : PySem.W.subIn K (.ref CBadEndless) (.ref CBadColumn) = some false)
    (s_4_2 : PySem.W.subIn K (.ref CBadEndless) (.ref CBadSpots) = some false)
    (s_4_3 : PySem.W.subIn K (.ref CBadEndless) (.ref CBadStrip) = some false)
    (ss_4 : PySem.W.subIn K (.ref CBadEndless) (.ref CBadEndless) = some true)
    (s_4_5 : PySem.W.subIn K (.ref CBadEndless) (.ref CUnlikeSchemes) = some false)
    (s_5_0 : PySem.W.subIn K (.ref CUnlikeSchemes) (.ref CBadScheme) = some false)
    (s_5_1 : PySem.W.subIn K (.ref CUnlikeSchemes) (.ref CBadColumn) = some false)
    (s_5_2 : PySem.W.subIn K (.ref CUnlikeSchemes) (.ref CBadSpots) = some false)
    (s_5_3 : PySem.W.subIn K (.ref CUnlikeSchemes) (.ref CBadStrip) = some false)
    (s_5_4 : PySem.W.subIn K (.ref CUnlikeSchemes) (.ref CBadEndless) = some false)
    (ss_5 : PySem.W.subIn K (.ref CUnlikeSchemes) (.ref CUnlikeSchemes) = some true) : ∀ i < 6, ∀ j < 6, PySem.W.exmOne K (.ref (eAd ⟨CGalloonError, CUnlikeSchemes, CBadScheme, CBadColumn, CBadSpots, CBadStrip, CBadEndless, CScheme, CEndless⟩ i)) (.ref (eAd ⟨CGalloonError, CUnlikeSchemes, CBadScheme, CBadColumn, CBadSpots, CBadStrip, CBadEndless, CScheme, CEndless⟩ j)) = some (decide (i = j)) := by
  intro i hi j hj
  match i, hi, j, hj with
  | 0, _, 0, _ => exact exm_of sB_BadScheme ic_BadScheme tc_BadScheme ss_0
  | 0, _, 1, _ => exact exm_of sB_BadColumn ic_BadColumn tc_BadColumn s_0_1
  | 0, _, 2, _ => exact exm_of sB_BadSpots ic_BadSpots tc_BadSpots s_0_2
  | 0, _, 3, _ => exact exm_of sB_BadStrip ic_BadStrip tc_BadStrip s_0_3
  | 0, _, 4, _ => exact exm_of sB_BadEndless ic_BadEndless tc_BadEndless s_0_4
  | 0, _, 5, _ => exact exm_of sB_UnlikeSchemes ic_UnlikeSchemes tc_UnlikeSchemes s_0_5
  | 1, _, 0, _ => exact exm_of sB_BadScheme ic_BadScheme tc_BadScheme s_1_0
  | 1, _, 1, _ => exact exm_of sB_BadColumn ic_BadColumn tc_BadColumn ss_1
  | 1, _, 2, _ => exact exm_of sB_BadSpots ic_BadSpots tc_BadSpots s_1_2
  | 1, _, 3, _ => exact exm_of sB_BadStrip ic_BadStrip tc_BadStrip s_1_3
  | 1, _, 4, _ => exact exm_of sB_BadEndless ic_BadEndless tc_BadEndless s_1_4
  | 1, _, 5, _ => exact exm_of sB_UnlikeSchemes ic_UnlikeSchemes tc_UnlikeSchemes s_1_5
  | 2, _, 0, _ => exact exm_of sB_BadScheme ic_BadScheme tc_BadScheme s_2_0
  | 2, _, 1, _ => exact exm_of sB_BadColumn ic_BadColumn tc_BadColumn s_2_1
  | 2, _, 2, _ => exact exm_of sB_BadSpots ic_BadSpots tc_BadSpots ss_2
  | 2, _, 3, _ => exact exm_of sB_BadStrip ic_BadStrip tc_BadStrip s_2_3
  | 2, _, 4, _ => exact exm_of sB_BadEndless ic_BadEndless tc_BadEndless s_2_4
  | 2, _, 5, _ => exact exm_of sB_UnlikeSchemes ic_UnlikeSchemes tc_UnlikeSchemes s_2_5
  | 3, _, 0, _ => exact exm_of sB_BadScheme ic_BadScheme tc_BadScheme s_3_0
  | 3, _, 1, _ => exact exm_of sB_BadColumn ic_BadColumn tc_BadColumn s_3_1
  | 3, _, 2, _ => exact exm_of sB_BadSpots ic_BadSpots tc_BadSpots s_3_2
  | 3, _, 3, _ => exact exm_of sB_BadStrip ic_BadStrip tc_BadStrip ss_3
  | 3, _, 4, _ => exact exm_of sB_BadEndless ic_BadEndless tc_BadEndless s_3_4
  | 3, _, 5, _ => exact exm_of sB_UnlikeSchemes ic_UnlikeSchemes tc_UnlikeSchemes s_3_5
  | 4, _, 0, _ => exact exm_of sB_BadScheme ic_BadScheme tc_BadScheme s_4_0
  | 4, _, 1, _ => exact exm_of sB_BadColumn ic_BadColumn tc_BadColumn s_4_1
  | 4, _, 2, _ => exact exm_of sB_BadSpots ic_BadSpots tc_BadSpots s_4_2
  | 4, _, 3, _ => exact exm_of sB_BadStrip ic_BadStrip tc_BadStrip s_4_3
  | 4, _, 4, _ => exact exm_of sB_BadEndless ic_BadEndless tc_BadEndless ss_4
  | 4, _, 5, _ => exact exm_of sB_UnlikeSchemes ic_UnlikeSchemes tc_UnlikeSchemes s_4_5
  | 5, _, 0, _ => exact exm_of sB_BadScheme ic_BadScheme tc_BadScheme s_5_0
  | 5, _, 1, _ => exact exm_of sB_BadColumn ic_BadColumn tc_BadColumn s_5_1
  | 5, _, 2, _ => exact exm_of sB_BadSpots ic_BadSpots tc_BadSpots s_5_2
  | 5, _, 3, _ => exact exm_of sB_BadStrip ic_BadStrip tc_BadStrip s_5_3
  | 5, _, 4, _ => exact exm_of sB_BadEndless ic_BadEndless tc_BadEndless s_5_4
  | 5, _, 5, _ => exact exm_of sB_UnlikeSchemes ic_UnlikeSchemes tc_UnlikeSchemes ss_5
theorem mkTxt {K : PySem.W.Frag} {h : Heap} {mg : Str → Option Value} (X : K.In h) (G : h.Ns mainGlobals mg)
    {CGalloonError CUnlikeSchemes CBadScheme CBadColumn CBadSpots CBadStrip CBadEndless CScheme CEndless : Addr}
    {tk_DIGITS : Nat}
    {tk_LETTERS : Nat}
    {tk_MOST_LOOP : Nat}
    {f1 : Addr} {od1 an1 : Option Addr} {sl1 : Array (Option Value)} {oc1 kV1 dc1 pm1 cd1 ct1 : Value}
    {nm1 qn1 : Str} {N1 : Addr} {bs1 bm1 : List Value} {sn1 : List Str} {sub1 : List Value} {ab1 : Bool} {col1 : Option Bool} {dd1 : Option Addr} {m01 m11 m21 m31 m51 : Option Value}
    {f2 : Addr} {od2 an2 : Option Addr} {sl2 : Array (Option Value)} {oc2 kV2 dc2 pm2 cd2 ct2 : Value}
    {nm2 qn2 : Str} {N2 : Addr} {bs2 bm2 : List Value} {sn2 : List Str} {sub2 : List Value} {ab2 : Bool} {col2 : Option Bool} {dd2 : Option Addr} {m02 m12 m22 m32 m52 : Option Value}
    {f3 : Addr} {od3 an3 : Option Addr} {sl3 : Array (Option Value)} {oc3 kV3 dc3 pm3 cd3 ct3 : Value}
    {nm3 qn3 : Str} {N3 : Addr} {bs3 bm3 : List Value} {sn3 : List Str} {sub3 : List Value} {ab3 : Bool} {col3 : Option Bool} {dd3 : Option Addr} {m03 m13 m23 m33 m53 : Option Value}
    {f4 : Addr} {od4 an4 : Option Addr} {sl4 : Array (Option Value)} {oc4 kV4 dc4 pm4 cd4 ct4 : Value}
    {nm4 qn4 : Str} {N4 : Addr} {bs4 bm4 : List Value} {sn4 : List Str} {sub4 : List Value} {ab4 : Bool} {col4 : Option Bool} {dd4 : Option Addr} {m04 m14 m24 m34 m54 : Option Value}
    {f5 : Addr} {od5 an5 : Option Addr} {sl5 : Array (Option Value)} {oc5 kV5 dc5 pm5 cd5 ct5 : Value}
    {nm5 qn5 : Str} {N5 : Addr} {bs5 bm5 : List Value} {sn5 : List Str} {sub5 : List Value} {ab5 : Bool} {col5 : Option Bool} {dd5 : Option Addr} {m05 m15 m25 m35 m55 : Option Value}
    {f6 : Addr} {od6 an6 : Option Addr} {sl6 : Array (Option Value)} {oc6 kV6 dc6 pm6 cd6 ct6 : Value}
    {f7 : Addr} {od7 an7 : Option Addr} {sl7 : Array (Option Value)} {oc7 kV7 dc7 pm7 cd7 ct7 : Value}
    {f8 : Addr} {od8 an8 : Option Addr} {sl8 : Array (Option Value)} {oc8 kV8 dc8 pm8 cd8 ct8 : Value}
    {f9 : Addr} {od9 an9 : Option Addr} {sl9 : Array (Option Value)} {oc9 kV9 dc9 pm9 cd9 ct9 : Value}
    {f10 : Addr} {od10 an10 : Option Addr} {sl10 : Array (Option Value)} {oc10 kV10 dc10 pm10 cd10 ct10 : Value}
    {f11 : Addr} {od11 an11 : Option Addr} {sl11 : Array (Option Value)} {oc11 kV11 dc11 pm11 cd11 ct11 : Value}
    {f12 : Addr} {od12 an12 : Option Addr} {sl12 : Array (Option Value)} {oc12 kV12 dc12 pm12 cd12 ct12 : Value}
    {f13 : Addr} {od13 an13 : Option Addr} {sl13 : Array (Option Value)} {oc13 kV13 dc13 pm13 cd13 ct13 : Value}
    {f14 : Addr} {od14 an14 : Option Addr} {sl14 : Array (Option Value)} {oc14 dc14 pm14 cd14 ct14 : Value}
    {D14 : Addr}
    {tw14_start : Nat}
    {f15 : Addr} {od15 an15 : Option Addr} {sl15 : Array (Option Value)} {oc15 kV15 dc15 pm15 cd15 ct15 : Value}
    {f16 : Addr} {od16 an16 : Option Addr} {sl16 : Array (Option Value)} {oc16 kV16 dc16 pm16 cd16 ct16 : Value}
    {f17 : Addr} {od17 an17 : Option Addr} {sl17 : Array (Option Value)} {oc17 kV17 dc17 pm17 cd17 ct17 : Value}
    {f18 : Addr} {od18 an18 : Option Addr} {sl18 : Array (Option Value)} {oc18 kV18 dc18 pm18 cd18 ct18 : Value}
    {f19 : Addr} {od19 an19 : Option Addr} {sl19 : Array (Option Value)} {oc19 kV19 dc19 pm19 cd19 ct19 : Value}
    {f20 : Addr} {od20 an20 : Option Addr} {sl20 : Array (Option Value)} {oc20 kV20 dc20 pm20 cd20 ct20 : Value}
    {f21 : Addr} {od21 an21 : Option Addr} {sl21 : Array (Option Value)} {oc21 kV21 dc21 pm21 cd21 ct21 : Value}
    {f22 : Addr} {od22 an22 : Option Addr} {sl22 : Array (Option Value)} {oc22 kV22 dc22 pm22 cd22 ct22 : Value}
    {f23 : Addr} {od23 an23 : Option Addr} {sl23 : Array (Option Value)} {oc23 kV23 dc23 pm23 cd23 ct23 : Value}
    {f24 : Addr} {od24 an24 : Option Addr} {sl24 : Array (Option Value)} {oc24 kV24 dc24 pm24 cd24 ct24 : Value}
    {f25 : Addr} {od25 an25 : Option Addr} {sl25 : Array (Option Value)} {oc25 kV25 dc25 pm25 cd25 ct25 : Value}
    {f26 : Addr} {od26 an26 : Option Addr} {sl26 : Array (Option Value)} {oc26 kV26 dc26 pm26 cd26 ct26 : Value}
    {f27 : Addr} {od27 an27 : Option Addr} {sl27 : Array (Option Value)} {oc27 kV27 dc27 pm27 cd27 ct27 : Value}
    {f28 : Addr} {od28 an28 : Option Addr} {sl28 : Array (Option Value)} {oc28 kV28 dc28 pm28 cd28 ct28 : Value}
    {f29 : Addr} {od29 an29 : Option Addr} {sl29 : Array (Option Value)} {oc29 kV29 dc29 pm29 cd29 ct29 : Value}
    {f30 : Addr} {od30 an30 : Option Addr} {sl30 : Array (Option Value)} {oc30 kV30 dc30 pm30 cd30 ct30 : Value}
    {f31 : Addr} {od31 an31 : Option Addr} {sl31 : Array (Option Value)} {oc31 kV31 dc31 pm31 cd31 ct31 : Value}
    {f32 : Addr} {od32 an32 : Option Addr} {sl32 : Array (Option Value)} {oc32 kV32 dc32 pm32 cd32 ct32 : Value}
    {f33 : Addr} {od33 an33 : Option Addr} {sl33 : Array (Option Value)} {oc33 kV33 dc33 pm33 cd33 ct33 : Value}
    {f34 : Addr} {od34 an34 : Option Addr} {sl34 : Array (Option Value)} {oc34 kV34 dc34 pm34 cd34 ct34 : Value}
    {f35 : Addr} {od35 an35 : Option Addr} {sl35 : Array (Option Value)} {oc35 kV35 dc35 pm35 cd35 ct35 : Value}
    {f36 : Addr} {od36 an36 : Option Addr} {sl36 : Array (Option Value)} {oc36 kV36 dc36 pm36 cd36 ct36 : Value}
    {f37 : Addr} {od37 an37 : Option Addr} {sl37 : Array (Option Value)} {oc37 kV37 dc37 pm37 cd37 ct37 : Value}
    {f38 : Addr} {od38 an38 : Option Addr} {sl38 : Array (Option Value)} {oc38 kV38 dc38 pm38 cd38 ct38 : Value}
    {f39 : Addr} {od39 an39 : Option Addr} {sl39 : Array (Option Value)} {oc39 kV39 dc39 pm39 cd39 ct39 : Value}
    {f40 : Addr} {od40 an40 : Option Addr} {sl40 : Array (Option Value)} {oc40 kV40 dc40 pm40 cd40 ct40 : Value}
    {f41 : Addr} {od41 an41 : Option Addr} {sl41 : Array (Option Value)} {oc41 kV41 dc41 pm41 cd41 ct41 : Value}
    {f42 : Addr} {od42 an42 : Option Addr} {sl42 : Array (Option Value)} {oc42 kV42 dc42 pm42 cd42 ct42 : Value}
    {f43 : Addr} {od43 an43 : Option Addr} {sl43 : Array (Option Value)} {oc43 kV43 dc43 pm43 cd43 ct43 : Value}
    {f44 : Addr} {od44 an44 : Option Addr} {sl44 : Array (Option Value)} {oc44 kV44 dc44 pm44 cd44 ct44 : Value}
    {t_Scheme_MOST : Nat}
    {t_Scheme_BLANK : Nat}
    (a_GalloonError : PySem.W.nsIn K mainGlobals "GalloonError" = some (some (.ref CGalloonError)))
    (a_UnlikeSchemes : PySem.W.nsIn K mainGlobals "UnlikeSchemes" = some (some (.ref CUnlikeSchemes)))
    (a_BadScheme : PySem.W.nsIn K mainGlobals "BadScheme" = some (some (.ref CBadScheme)))
    (a_BadColumn : PySem.W.nsIn K mainGlobals "BadColumn" = some (some (.ref CBadColumn)))
    (a_BadSpots : PySem.W.nsIn K mainGlobals "BadSpots" = some (some (.ref CBadSpots)))
    (a_BadStrip : PySem.W.nsIn K mainGlobals "BadStrip" = some (some (.ref CBadStrip)))
    (a_BadEndless : PySem.W.nsIn K mainGlobals "BadEndless" = some (some (.ref CBadEndless)))
    (a_Scheme : PySem.W.nsIn K mainGlobals "Scheme" = some (some (.ref CScheme)))
    (a_Endless : PySem.W.nsIn K mainGlobals "Endless" = some (some (.ref CEndless)))
    (z_ValueError : PySem.W.nsIn K mainGlobals "ValueError" = some none)
    (z_abs : PySem.W.nsIn K mainGlobals "abs" = some none)
    (z_all : PySem.W.nsIn K mainGlobals "all" = some none)
    (z_bool : PySem.W.nsIn K mainGlobals "bool" = some none)
    (z_enumerate : PySem.W.nsIn K mainGlobals "enumerate" = some none)
    (z_int : PySem.W.nsIn K mainGlobals "int" = some none)
    (z_isinstance : PySem.W.nsIn K mainGlobals "isinstance" = some none)
    (z_len : PySem.W.nsIn K mainGlobals "len" = some none)
    (z_list : PySem.W.nsIn K mainGlobals "list" = some none)
    (z_max : PySem.W.nsIn K mainGlobals "max" = some none)
    (z_min : PySem.W.nsIn K mainGlobals "min" = some none)
    (z_ord : PySem.W.nsIn K mainGlobals "ord" = some none)
    (z_range : PySem.W.nsIn K mainGlobals "range" = some none)
    (z_str : PySem.W.nsIn K mainGlobals "str" = some none)
    (z_zip : PySem.W.nsIn K mainGlobals "zip" = some none)
    (v_DIGITS : PySem.W.nsIn K mainGlobals "DIGITS" = some (some (.str "012" tk_DIGITS)))
    (v_LETTERS : PySem.W.nsIn K mainGlobals "LETTERS" = some (some (.str "abcdefghi" tk_LETTERS)))
    (v_MOST_LOOP : PySem.W.nsIn K mainGlobals "MOST_LOOP" = some (some (.int 6 tk_MOST_LOOP)))
    (sB_GalloonError : PySem.W.subIn K (.ref CGalloonError) (.type "BaseException") = some true)
    (ic_GalloonError : PySem.W.isClsIn K CGalloonError = true)
    (tc_GalloonError : PySem.W.typeIn K (.ref CGalloonError) = some (.type "type"))
    (sB_UnlikeSchemes : PySem.W.subIn K (.ref CUnlikeSchemes) (.type "BaseException") = some true)
    (ic_UnlikeSchemes : PySem.W.isClsIn K CUnlikeSchemes = true)
    (tc_UnlikeSchemes : PySem.W.typeIn K (.ref CUnlikeSchemes) = some (.type "type"))
    (sB_BadScheme : PySem.W.subIn K (.ref CBadScheme) (.type "BaseException") = some true)
    (ic_BadScheme : PySem.W.isClsIn K CBadScheme = true)
    (tc_BadScheme : PySem.W.typeIn K (.ref CBadScheme) = some (.type "type"))
    (sB_BadColumn : PySem.W.subIn K (.ref CBadColumn) (.type "BaseException") = some true)
    (ic_BadColumn : PySem.W.isClsIn K CBadColumn = true)
    (tc_BadColumn : PySem.W.typeIn K (.ref CBadColumn) = some (.type "type"))
    (sB_BadSpots : PySem.W.subIn K (.ref CBadSpots) (.type "BaseException") = some true)
    (ic_BadSpots : PySem.W.isClsIn K CBadSpots = true)
    (tc_BadSpots : PySem.W.typeIn K (.ref CBadSpots) = some (.type "type"))
    (sB_BadStrip : PySem.W.subIn K (.ref CBadStrip) (.type "BaseException") = some true)
    (ic_BadStrip : PySem.W.isClsIn K CBadStrip = true)
    (tc_BadStrip : PySem.W.typeIn K (.ref CBadStrip) = some (.type "type"))
    (sB_BadEndless : PySem.W.subIn K (.ref CBadEndless) (.type "BaseException") = some true)
    (ic_BadEndless : PySem.W.isClsIn K CBadEndless = true)
    (tc_BadEndless : PySem.W.typeIn K (.ref CBadEndless) = some (.type "type"))
    (ic_Scheme : PySem.W.isClsIn K CScheme = true)
    (tc_Scheme : PySem.W.typeIn K (.ref CScheme) = some (.type "type"))
    (ic_Endless : PySem.W.isClsIn K CEndless = true)
    (tc_Endless : PySem.W.typeIn K (.ref CEndless) = some (.type "type"))
    (xz_UnlikeSchemes : PySem.W.excIn K CUnlikeSchemes veB "ValueError.__new__" = true)
    (kc_UnlikeSchemes : PySem.W.keepIn K (.ref CUnlikeSchemes) = true)
    (ga_UnlikeSchemes : PySem.W.findIn K (.ref CUnlikeSchemes) "__getattribute__" = some (some (.builtin "BaseException.__getattribute__")))
    (gg_UnlikeSchemes : PySem.W.findIn K (.ref CUnlikeSchemes) "__getattr__" = some none)
    (hd_UnlikeSchemes : PySem.W.hasDictIn K CUnlikeSchemes = true)
    (ha_UnlikeSchemes : PySem.W.findIn K (.ref CUnlikeSchemes) "__class__" = some (some (.builtin "object.__class__")))
    (hm_UnlikeSchemes : PySem.W.mroIn K CUnlikeSchemes (.type "object") = some true)
    (x_BadScheme : K.lookup CBadScheme = some (excClassObj nm1 qn1 CBadScheme N1 bs1 bm1 true sn1 sub1 ab1 col1 dd1 m01 m11 m21 m31 m51 "ValueError.__new__"))
    (rf_BadScheme : PySem.HandSPX.refsVE bm1 = true)
    (sa_BadScheme : PySem.W.findIn K (.ref CBadScheme) "__setattr__" = some (some (.builtin "object.__setattr__")))
    (kc_BadScheme : PySem.W.keepIn K (.ref CBadScheme) = true)
    (nb_BadScheme : PySem.W.findIn K (.ref CBadScheme) "part" = some none)
    (ai_BadScheme : PySem.W.findIn K (.ref CBadScheme) "__init__" = some (some (.ref f1)))
    (ti_BadScheme : PySem.W.typeIn K (.ref f1) = some (.type "function"))
    (li_BadScheme : K.lookup f1 = some ⟨oc1, od1, .func (PySem.W.fnOf "__init__" "BadScheme.__init__" (defArgs s_BadScheme___init__) (defBody s_BadScheme___init__) (defScope s_BadScheme___init__) .none kV1 dc1 pm1 an1 cd1 ct1), sl1⟩)
    (ci_BadScheme : PySem.W.codeIn K cd1 "BadScheme.__init__" = true)
    (ki_BadScheme : PySem.W.keepIn K (.ref f1) = true)
    (ga_BadScheme : PySem.W.findIn K (.ref CBadScheme) "__getattribute__" = some (some (.builtin "BaseException.__getattribute__")))
    (gg_BadScheme : PySem.W.findIn K (.ref CBadScheme) "__getattr__" = some none)
    (hd_BadScheme : PySem.W.hasDictIn K CBadScheme = true)
    (ha_BadScheme : PySem.W.findIn K (.ref CBadScheme) "__class__" = some (some (.builtin "object.__class__")))
    (hm_BadScheme : PySem.W.mroIn K CBadScheme (.type "object") = some true)
    (x_BadColumn : K.lookup CBadColumn = some (excClassObj nm2 qn2 CBadColumn N2 bs2 bm2 true sn2 sub2 ab2 col2 dd2 m02 m12 m22 m32 m52 "ValueError.__new__"))
    (rf_BadColumn : PySem.HandSPX.refsVE bm2 = true)
    (sa_BadColumn : PySem.W.findIn K (.ref CBadColumn) "__setattr__" = some (some (.builtin "object.__setattr__")))
    (kc_BadColumn : PySem.W.keepIn K (.ref CBadColumn) = true)
    (nb_BadColumn : PySem.W.findIn K (.ref CBadColumn) "text" = some none)
    (ai_BadColumn : PySem.W.findIn K (.ref CBadColumn) "__init__" = some (some (.ref f2)))
    (ti_BadColumn : PySem.W.typeIn K (.ref f2) = some (.type "function"))
    (li_BadColumn : K.lookup f2 = some ⟨oc2, od2, .func (PySem.W.fnOf "__init__" "BadColumn.__init__" (defArgs s_BadColumn___init__) (defBody s_BadColumn___init__) (defScope s_BadColumn___init__) .none kV2 dc2 pm2 an2 cd2 ct2), sl2⟩)
    (ci_BadColumn : PySem.W.codeIn K cd2 "BadColumn.__init__" = true)
    (ki_BadColumn : PySem.W.keepIn K (.ref f2) = true)
    (ga_BadColumn : PySem.W.findIn K (.ref CBadColumn) "__getattribute__" = some (some (.builtin "BaseException.__getattribute__")))
    (gg_BadColumn : PySem.W.findIn K (.ref CBadColumn) "__getattr__" = some none)
    (hd_BadColumn : PySem.W.hasDictIn K CBadColumn = true)
    (ha_BadColumn : PySem.W.findIn K (.ref CBadColumn) "__class__" = some (some (.builtin "object.__class__")))
    (hm_BadColumn : PySem.W.mroIn K CBadColumn (.type "object") = some true)
    (x_BadSpots : K.lookup CBadSpots = some (excClassObj nm3 qn3 CBadSpots N3 bs3 bm3 true sn3 sub3 ab3 col3 dd3 m03 m13 m23 m33 m53 "ValueError.__new__"))
    (rf_BadSpots : PySem.HandSPX.refsVE bm3 = true)
    (sa_BadSpots : PySem.W.findIn K (.ref CBadSpots) "__setattr__" = some (some (.builtin "object.__setattr__")))
    (kc_BadSpots : PySem.W.keepIn K (.ref CBadSpots) = true)
    (nb_BadSpots : PySem.W.findIn K (.ref CBadSpots) "text" = some none)
    (ai_BadSpots : PySem.W.findIn K (.ref CBadSpots) "__init__" = some (some (.ref f3)))
    (ti_BadSpots : PySem.W.typeIn K (.ref f3) = some (.type "function"))
    (li_BadSpots : K.lookup f3 = some ⟨oc3, od3, .func (PySem.W.fnOf "__init__" "BadSpots.__init__" (defArgs s_BadSpots___init__) (defBody s_BadSpots___init__) (defScope s_BadSpots___init__) .none kV3 dc3 pm3 an3 cd3 ct3), sl3⟩)
    (ci_BadSpots : PySem.W.codeIn K cd3 "BadSpots.__init__" = true)
    (ki_BadSpots : PySem.W.keepIn K (.ref f3) = true)
    (ga_BadSpots : PySem.W.findIn K (.ref CBadSpots) "__getattribute__" = some (some (.builtin "BaseException.__getattribute__")))
    (gg_BadSpots : PySem.W.findIn K (.ref CBadSpots) "__getattr__" = some none)
    (hd_BadSpots : PySem.W.hasDictIn K CBadSpots = true)
    (ha_BadSpots : PySem.W.findIn K (.ref CBadSpots) "__class__" = some (some (.builtin "object.__class__")))
    (hm_BadSpots : PySem.W.mroIn K CBadSpots (.type "object") = some true)
    (x_BadStrip : K.lookup CBadStrip = some (excClassObj nm4 qn4 CBadStrip N4 bs4 bm4 true sn4 sub4 ab4 col4 dd4 m04 m14 m24 m34 m54 "ValueError.__new__"))
    (rf_BadStrip : PySem.HandSPX.refsVE bm4 = true)
    (sa_BadStrip : PySem.W.findIn K (.ref CBadStrip) "__setattr__" = some (some (.builtin "object.__setattr__")))
    (kc_BadStrip : PySem.W.keepIn K (.ref CBadStrip) = true)
    (nb_BadStrip : PySem.W.findIn K (.ref CBadStrip) "text" = some none)
    (ai_BadStrip : PySem.W.findIn K (.ref CBadStrip) "__init__" = some (some (.ref f4)))
    (ti_BadStrip : PySem.W.typeIn K (.ref f4) = some (.type "function"))
    (li_BadStrip : K.lookup f4 = some ⟨oc4, od4, .func (PySem.W.fnOf "__init__" "BadStrip.__init__" (defArgs s_BadStrip___init__) (defBody s_BadStrip___init__) (defScope s_BadStrip___init__) .none kV4 dc4 pm4 an4 cd4 ct4), sl4⟩)
    (ci_BadStrip : PySem.W.codeIn K cd4 "BadStrip.__init__" = true)
    (ki_BadStrip : PySem.W.keepIn K (.ref f4) = true)
    (ga_BadStrip : PySem.W.findIn K (.ref CBadStrip) "__getattribute__" = some (some (.builtin "BaseException.__getattribute__")))
    (gg_BadStrip : PySem.W.findIn K (.ref CBadStrip) "__getattr__" = some none)
    (hd_BadStrip : PySem.W.hasDictIn K CBadStrip = true)
    (ha_BadStrip : PySem.W.findIn K (.ref CBadStrip) "__class__" = some (some (.builtin "object.__class__")))
    (hm_BadStrip : PySem.W.mroIn K CBadStrip (.type "object") = some true)
    (x_BadEndless : K.lookup CBadEndless = some (excClassObj nm5 qn5 CBadEndless N5 bs5 bm5 true sn5 sub5 ab5 col5 dd5 m05 m15 m25 m35 m55 "ValueError.__new__"))
    (rf_BadEndless : PySem.HandSPX.refsVE bm5 = true)
    (sa_BadEndless : PySem.W.findIn K (.ref CBadEndless) "__setattr__" = some (some (.builtin "object.__setattr__")))
    (kc_BadEndless : PySem.W.keepIn K (.ref CBadEndless) = true)
    (nb_BadEndless : PySem.W.findIn K (.ref CBadEndless) "part" = some none)
    (ai_BadEndless : PySem.W.findIn K (.ref CBadEndless) "__init__" = some (some (.ref f5)))
    (ti_BadEndless : PySem.W.typeIn K (.ref f5) = some (.type "function"))
    (li_BadEndless : K.lookup f5 = some ⟨oc5, od5, .func (PySem.W.fnOf "__init__" "BadEndless.__init__" (defArgs s_BadEndless___init__) (defBody s_BadEndless___init__) (defScope s_BadEndless___init__) .none kV5 dc5 pm5 an5 cd5 ct5), sl5⟩)
    (ci_BadEndless : PySem.W.codeIn K cd5 "BadEndless.__init__" = true)
    (ki_BadEndless : PySem.W.keepIn K (.ref f5) = true)
    (ga_BadEndless : PySem.W.findIn K (.ref CBadEndless) "__getattribute__" = some (some (.builtin "BaseException.__getattribute__")))
    (gg_BadEndless : PySem.W.findIn K (.ref CBadEndless) "__getattr__" = some none)
    (hd_BadEndless : PySem.W.hasDictIn K CBadEndless = true)
    (ha_BadEndless : PySem.W.findIn K (.ref CBadEndless) "__class__" = some (some (.builtin "object.__class__")))
    (hm_BadEndless : PySem.W.mroIn K CBadEndless (.type "object") = some true)
    (pg_Scheme : PySem.W.plainGet K CScheme Str.empty = true)
    (hd_Scheme : PySem.W.hasDictIn K CScheme = true)
    (po_Scheme : PySem.W.plainOver K CScheme = true)
    (sa_Scheme : PySem.W.findIn K (.ref CScheme) "__setattr__" = some (some (.builtin "object.__setattr__")))
    (mk_Scheme : PySem.W.makesIn K CScheme = true)
    (kc_Scheme : PySem.W.keepIn K (.ref CScheme) = true)
    (am_Scheme___init__ : PySem.W.findIn K (.ref CScheme) "__init__" = some (some (.ref f6)))
    (im_Scheme___init__ : PySem.W.isFn K (.ref f6) = true)
    (lm_Scheme___init__ : K.lookup f6 = some ⟨oc6, od6, .func (PySem.W.fnOf "__init__" "Scheme.__init__" (defArgs s_Scheme___init__) (defBody s_Scheme___init__) (defScope s_Scheme___init__) .none kV6 dc6 pm6 an6 cd6 ct6), sl6⟩)
    (cm_Scheme___init__ : PySem.W.codeIn K cd6 "Scheme.__init__" = true)
    (km_Scheme___init__ : PySem.W.keepIn K (.ref f6) = true)
    (am_Scheme___eq__ : PySem.W.findIn K (.ref CScheme) "__eq__" = some (some (.ref f7)))
    (im_Scheme___eq__ : PySem.W.isFn K (.ref f7) = true)
    (lm_Scheme___eq__ : K.lookup f7 = some ⟨oc7, od7, .func (PySem.W.fnOf "__eq__" "Scheme.__eq__" (defArgs s_Scheme___eq__) (defBody s_Scheme___eq__) (defScope s_Scheme___eq__) .none kV7 dc7 pm7 an7 cd7 ct7), sl7⟩)
    (cm_Scheme___eq__ : PySem.W.codeIn K cd7 "Scheme.__eq__" = true)
    (km_Scheme___eq__ : PySem.W.keepIn K (.ref f7) = true)
    (am_Scheme___len__ : PySem.W.findIn K (.ref CScheme) "__len__" = some (some (.ref f8)))
    (im_Scheme___len__ : PySem.W.isFn K (.ref f8) = true)
    (lm_Scheme___len__ : K.lookup f8 = some ⟨oc8, od8, .func (PySem.W.fnOf "__len__" "Scheme.__len__" (defArgs s_Scheme___len__) (defBody s_Scheme___len__) (defScope s_Scheme___len__) .none kV8 dc8 pm8 an8 cd8 ct8), sl8⟩)
    (cm_Scheme___len__ : PySem.W.codeIn K cd8 "Scheme.__len__" = true)
    (km_Scheme___len__ : PySem.W.keepIn K (.ref f8) = true)
    (am_Scheme_is_column : PySem.W.findIn K (.ref CScheme) "is_column" = some (some (.ref f9)))
    (im_Scheme_is_column : PySem.W.isFn K (.ref f9) = true)
    (lm_Scheme_is_column : K.lookup f9 = some ⟨oc9, od9, .func (PySem.W.fnOf "is_column" "Scheme.is_column" (defArgs s_Scheme_is_column) (defBody s_Scheme_is_column) (defScope s_Scheme_is_column) .none kV9 dc9 pm9 an9 cd9 ct9), sl9⟩)
    (cm_Scheme_is_column : PySem.W.codeIn K cd9 "Scheme.is_column" = true)
    (km_Scheme_is_column : PySem.W.keepIn K (.ref f9) = true)
    (am_Scheme_is_colour : PySem.W.findIn K (.ref CScheme) "is_colour" = some (some (.ref f10)))
    (im_Scheme_is_colour : PySem.W.isFn K (.ref f10) = true)
    (lm_Scheme_is_colour : K.lookup f10 = some ⟨oc10, od10, .func (PySem.W.fnOf "is_colour" "Scheme.is_colour" (defArgs s_Scheme_is_colour) (defBody s_Scheme_is_colour) (defScope s_Scheme_is_colour) .none kV10 dc10 pm10 an10 cd10 ct10), sl10⟩)
    (cm_Scheme_is_colour : PySem.W.codeIn K cd10 "Scheme.is_colour" = true)
    (km_Scheme_is_colour : PySem.W.keepIn K (.ref f10) = true)
    (am_Scheme_is_strip : PySem.W.findIn K (.ref CScheme) "is_strip" = some (some (.ref f11)))
    (im_Scheme_is_strip : PySem.W.isFn K (.ref f11) = true)
    (lm_Scheme_is_strip : K.lookup f11 = some ⟨oc11, od11, .func (PySem.W.fnOf "is_strip" "Scheme.is_strip" (defArgs s_Scheme_is_strip) (defBody s_Scheme_is_strip) (defScope s_Scheme_is_strip) .none kV11 dc11 pm11 an11 cd11 ct11), sl11⟩)
    (cm_Scheme_is_strip : PySem.W.codeIn K cd11 "Scheme.is_strip" = true)
    (km_Scheme_is_strip : PySem.W.keepIn K (.ref f11) = true)
    (am_Scheme_spots : PySem.W.findIn K (.ref CScheme) "spots" = some (some (.ref f12)))
    (im_Scheme_spots : PySem.W.isFn K (.ref f12) = true)
    (lm_Scheme_spots : K.lookup f12 = some ⟨oc12, od12, .func (PySem.W.fnOf "spots" "Scheme.spots" (defArgs s_Scheme_spots) (defBody s_Scheme_spots) (defScope s_Scheme_spots) .none kV12 dc12 pm12 an12 cd12 ct12), sl12⟩)
    (cm_Scheme_spots : PySem.W.codeIn K cd12 "Scheme.spots" = true)
    (km_Scheme_spots : PySem.W.keepIn K (.ref f12) = true)
    (am_Scheme_column : PySem.W.findIn K (.ref CScheme) "column" = some (some (.ref f13)))
    (im_Scheme_column : PySem.W.isFn K (.ref f13) = true)
    (lm_Scheme_column : K.lookup f13 = some ⟨oc13, od13, .func (PySem.W.fnOf "column" "Scheme.column" (defArgs s_Scheme_column) (defBody s_Scheme_column) (defScope s_Scheme_column) .none kV13 dc13 pm13 an13 cd13 ct13), sl13⟩)
    (cm_Scheme_column : PySem.W.codeIn K cd13 "Scheme.column" = true)
    (km_Scheme_column : PySem.W.keepIn K (.ref f13) = true)
    (pg_Endless : PySem.W.plainGet K CEndless Str.empty = true)
    (hd_Endless : PySem.W.hasDictIn K CEndless = true)
    (po_Endless : PySem.W.plainOver K CEndless = true)
    (sa_Endless : PySem.W.findIn K (.ref CEndless) "__setattr__" = some (some (.builtin "object.__setattr__")))
    (mk_Endless : PySem.W.makesIn K CEndless = true)
    (kc_Endless : PySem.W.keepIn K (.ref CEndless) = true)
    (am_Endless___init__ : PySem.W.findIn K (.ref CEndless) "__init__" = some (some (.ref f14)))
    (im_Endless___init__ : PySem.W.isFn K (.ref f14) = true)
    (lm_Endless___init__ : K.lookup f14 = some ⟨oc14, od14, .func (PySem.W.fnOf "__init__" "Endless.__init__" (defArgs s_Endless___init__) (defBody s_Endless___init__) (defScope s_Endless___init__) .none (.ref D14) dc14 pm14 an14 cd14 ct14), sl14⟩)
    (cm_Endless___init__ : PySem.W.codeIn K cd14 "Endless.__init__" = true)
    (km_Endless___init__ : PySem.W.keepIn K (.ref f14) = true)
    (kw14_start : PySem.W.nsIn K D14 "start" = some (some (.int 0 tw14_start)))
    (am_Endless___eq__ : PySem.W.findIn K (.ref CEndless) "__eq__" = some (some (.ref f15)))
    (im_Endless___eq__ : PySem.W.isFn K (.ref f15) = true)
    (lm_Endless___eq__ : K.lookup f15 = some ⟨oc15, od15, .func (PySem.W.fnOf "__eq__" "Endless.__eq__" (defArgs s_Endless___eq__) (defBody s_Endless___eq__) (defScope s_Endless___eq__) .none kV15 dc15 pm15 an15 cd15 ct15), sl15⟩)
    (cm_Endless___eq__ : PySem.W.codeIn K cd15 "Endless.__eq__" = true)
    (km_Endless___eq__ : PySem.W.keepIn K (.ref f15) = true)
    (am_Endless_column_at : PySem.W.findIn K (.ref CEndless) "column_at" = some (some (.ref f16)))
    (im_Endless_column_at : PySem.W.isFn K (.ref f16) = true)
    (lm_Endless_column_at : K.lookup f16 = some ⟨oc16, od16, .func (PySem.W.fnOf "column_at" "Endless.column_at" (defArgs s_Endless_column_at) (defBody s_Endless_column_at) (defScope s_Endless_column_at) .none kV16 dc16 pm16 an16 cd16 ct16), sl16⟩)
    (cm_Endless_column_at : PySem.W.codeIn K cd16 "Endless.column_at" = true)
    (km_Endless_column_at : PySem.W.keepIn K (.ref f16) = true)
    (am_Endless_window : PySem.W.findIn K (.ref CEndless) "window" = some (some (.ref f17)))
    (im_Endless_window : PySem.W.isFn K (.ref f17) = true)
    (lm_Endless_window : K.lookup f17 = some ⟨oc17, od17, .func (PySem.W.fnOf "window" "Endless.window" (defArgs s_Endless_window) (defBody s_Endless_window) (defScope s_Endless_window) .none kV17 dc17 pm17 an17 cd17 ct17), sl17⟩)
    (cm_Endless_window : PySem.W.codeIn K cd17 "Endless.window" = true)
    (km_Endless_window : PySem.W.keepIn K (.ref f17) = true)
    (am_Endless_moved : PySem.W.findIn K (.ref CEndless) "moved" = some (some (.ref f18)))
    (im_Endless_moved : PySem.W.isFn K (.ref f18) = true)
    (lm_Endless_moved : K.lookup f18 = some ⟨oc18, od18, .func (PySem.W.fnOf "moved" "Endless.moved" (defArgs s_Endless_moved) (defBody s_Endless_moved) (defScope s_Endless_moved) .none kV18 dc18 pm18 an18 cd18 ct18), sl18⟩)
    (cm_Endless_moved : PySem.W.codeIn K cd18 "Endless.moved" = true)
    (km_Endless_moved : PySem.W.keepIn K (.ref f18) = true)
    (ad_check_alike : PySem.W.nsIn K mainGlobals "check_alike" = some (some (.ref f19)))
    (ld_check_alike : K.lookup f19 = some ⟨oc19, od19, .func (PySem.W.fnOf "check_alike" "check_alike" (defArgs s_check_alike) (defBody s_check_alike) (defScope s_check_alike) .none kV19 dc19 pm19 an19 cd19 ct19), sl19⟩)
    (cd_check_alike : PySem.W.codeIn K cd19 "check_alike" = true)
    (kd_check_alike : PySem.W.keepIn K (.ref f19) = true)
    (ad_endless_apart : PySem.W.nsIn K mainGlobals "endless_apart" = some (some (.ref f20)))
    (ld_endless_apart : K.lookup f20 = some ⟨oc20, od20, .func (PySem.W.fnOf "endless_apart" "endless_apart" (defArgs s_endless_apart) (defBody s_endless_apart) (defScope s_endless_apart) .none kV20 dc20 pm20 an20 cd20 ct20), sl20⟩)
    (cd_endless_apart : PySem.W.codeIn K cd20 "endless_apart" = true)
    (kd_endless_apart : PySem.W.keepIn K (.ref f20) = true)
    (ad_is_loop : PySem.W.nsIn K mainGlobals "_is_loop" = some (some (.ref f21)))
    (ld_is_loop : K.lookup f21 = some ⟨oc21, od21, .func (PySem.W.fnOf "_is_loop" "_is_loop" (defArgs s_is_loop) (defBody s_is_loop) (defScope s_is_loop) .none kV21 dc21 pm21 an21 cd21 ct21), sl21⟩)
    (cd_is_loop : PySem.W.codeIn K cd21 "_is_loop" = true)
    (kd_is_loop : PySem.W.keepIn K (.ref f21) = true)
    (ad_apart : PySem.W.nsIn K mainGlobals "_apart" = some (some (.ref f22)))
    (ld_apart : K.lookup f22 = some ⟨oc22, od22, .func (PySem.W.fnOf "_apart" "_apart" (defArgs s_apart) (defBody s_apart) (defScope s_apart) .none kV22 dc22 pm22 an22 cd22 ct22), sl22⟩)
    (cd_apart : PySem.W.codeIn K cd22 "_apart" = true)
    (kd_apart : PySem.W.keepIn K (.ref f22) = true)
    (ad_law_source : PySem.W.nsIn K mainGlobals "_law_source" = some (some (.ref f23)))
    (ld_law_source : K.lookup f23 = some ⟨oc23, od23, .func (PySem.W.fnOf "_law_source" "_law_source" (defArgs s_law_source) (defBody s_law_source) (defScope s_law_source) .none kV23 dc23 pm23 an23 cd23 ct23), sl23⟩)
    (cd_law_source : PySem.W.codeIn K cd23 "_law_source" = true)
    (kd_law_source : PySem.W.keepIn K (.ref f23) = true)
    (ad_law_draw : PySem.W.nsIn K mainGlobals "_law_draw" = some (some (.ref f24)))
    (ld_law_draw : K.lookup f24 = some ⟨oc24, od24, .func (PySem.W.fnOf "_law_draw" "_law_draw" (defArgs s_law_draw) (defBody s_law_draw) (defScope s_law_draw) .none kV24 dc24 pm24 an24 cd24 ct24), sl24⟩)
    (cd_law_draw : PySem.W.codeIn K cd24 "_law_draw" = true)
    (kd_law_draw : PySem.W.keepIn K (.ref f24) = true)
    (ad_law_strip : PySem.W.nsIn K mainGlobals "_law_strip" = some (some (.ref f25)))
    (ld_law_strip : K.lookup f25 = some ⟨oc25, od25, .func (PySem.W.fnOf "_law_strip" "_law_strip" (defArgs s_law_strip) (defBody s_law_strip) (defScope s_law_strip) .none kV25 dc25 pm25 an25 cd25 ct25), sl25⟩)
    (cd_law_strip : PySem.W.codeIn K cd25 "_law_strip" = true)
    (kd_law_strip : PySem.W.keepIn K (.ref f25) = true)
    (ad_law_shape : PySem.W.nsIn K mainGlobals "_law_shape" = some (some (.ref f26)))
    (ld_law_shape : K.lookup f26 = some ⟨oc26, od26, .func (PySem.W.fnOf "_law_shape" "_law_shape" (defArgs s_law_shape) (defBody s_law_shape) (defScope s_law_shape) .none kV26 dc26 pm26 an26 cd26 ct26), sl26⟩)
    (cd_law_shape : PySem.W.codeIn K cd26 "_law_shape" = true)
    (kd_law_shape : PySem.W.keepIn K (.ref f26) = true)
    (ad_law_column : PySem.W.nsIn K mainGlobals "_law_column" = some (some (.ref f27)))
    (ld_law_column : K.lookup f27 = some ⟨oc27, od27, .func (PySem.W.fnOf "_law_column" "_law_column" (defArgs s_law_column) (defBody s_law_column) (defScope s_law_column) .none kV27 dc27 pm27 an27 cd27 ct27), sl27⟩)
    (cd_law_column : PySem.W.codeIn K cd27 "_law_column" = true)
    (kd_law_column : PySem.W.keepIn K (.ref f27) = true)
    (ad_law_text : PySem.W.nsIn K mainGlobals "_law_text" = some (some (.ref f28)))
    (ld_law_text : K.lookup f28 = some ⟨oc28, od28, .func (PySem.W.fnOf "_law_text" "_law_text" (defArgs s_law_text) (defBody s_law_text) (defScope s_law_text) .none kV28 dc28 pm28 an28 cd28 ct28), sl28⟩)
    (cd_law_text : PySem.W.codeIn K cd28 "_law_text" = true)
    (kd_law_text : PySem.W.keepIn K (.ref f28) = true)
    (ad_law_made : PySem.W.nsIn K mainGlobals "_law_made" = some (some (.ref f29)))
    (ld_law_made : K.lookup f29 = some ⟨oc29, od29, .func (PySem.W.fnOf "_law_made" "_law_made" (defArgs s_law_made) (defBody s_law_made) (defScope s_law_made) .none kV29 dc29 pm29 an29 cd29 ct29), sl29⟩)
    (cd_law_made : PySem.W.codeIn K cd29 "_law_made" = true)
    (kd_law_made : PySem.W.keepIn K (.ref f29) = true)
    (ad_law_parts : PySem.W.nsIn K mainGlobals "_law_parts" = some (some (.ref f30)))
    (ld_law_parts : K.lookup f30 = some ⟨oc30, od30, .func (PySem.W.fnOf "_law_parts" "_law_parts" (defArgs s_law_parts) (defBody s_law_parts) (defScope s_law_parts) .none kV30 dc30 pm30 an30 cd30 ct30), sl30⟩)
    (cd_law_parts : PySem.W.codeIn K cd30 "_law_parts" = true)
    (kd_law_parts : PySem.W.keepIn K (.ref f30) = true)
    (ad_law_rewritten : PySem.W.nsIn K mainGlobals "_law_rewritten" = some (some (.ref f31)))
    (ld_law_rewritten : K.lookup f31 = some ⟨oc31, od31, .func (PySem.W.fnOf "_law_rewritten" "_law_rewritten" (defArgs s_law_rewritten) (defBody s_law_rewritten) (defScope s_law_rewritten) .none kV31 dc31 pm31 an31 cd31 ct31), sl31⟩)
    (cd_law_rewritten : PySem.W.codeIn K cd31 "_law_rewritten" = true)
    (kd_law_rewritten : PySem.W.keepIn K (.ref f31) = true)
    (ad_law_changed : PySem.W.nsIn K mainGlobals "_law_changed" = some (some (.ref f32)))
    (ld_law_changed : K.lookup f32 = some ⟨oc32, od32, .func (PySem.W.fnOf "_law_changed" "_law_changed" (defArgs s_law_changed) (defBody s_law_changed) (defScope s_law_changed) .none kV32 dc32 pm32 an32 cd32 ct32), sl32⟩)
    (cd_law_changed : PySem.W.codeIn K cd32 "_law_changed" = true)
    (kd_law_changed : PySem.W.keepIn K (.ref f32) = true)
    (ad_law_other : PySem.W.nsIn K mainGlobals "_law_other" = some (some (.ref f33)))
    (ld_law_other : K.lookup f33 = some ⟨oc33, od33, .func (PySem.W.fnOf "_law_other" "_law_other" (defArgs s_law_other) (defBody s_law_other) (defScope s_law_other) .none kV33 dc33 pm33 an33 cd33 ct33), sl33⟩)
    (cd_law_other : PySem.W.codeIn K cd33 "_law_other" = true)
    (kd_law_other : PySem.W.keepIn K (.ref f33) = true)
    (ad_law_gaps : PySem.W.nsIn K mainGlobals "_law_gaps" = some (some (.ref f34)))
    (ld_law_gaps : K.lookup f34 = some ⟨oc34, od34, .func (PySem.W.fnOf "_law_gaps" "_law_gaps" (defArgs s_law_gaps) (defBody s_law_gaps) (defScope s_law_gaps) .none kV34 dc34 pm34 an34 cd34 ct34), sl34⟩)
    (cd_law_gaps : PySem.W.codeIn K cd34 "_law_gaps" = true)
    (kd_law_gaps : PySem.W.keepIn K (.ref f34) = true)
    (ad_law_columns_hold : PySem.W.nsIn K mainGlobals "_law_columns_hold" = some (some (.ref f35)))
    (ld_law_columns_hold : K.lookup f35 = some ⟨oc35, od35, .func (PySem.W.fnOf "_law_columns_hold" "_law_columns_hold" (defArgs s_law_columns_hold) (defBody s_law_columns_hold) (defScope s_law_columns_hold) .none kV35 dc35 pm35 an35 cd35 ct35), sl35⟩)
    (cd_law_columns_hold : PySem.W.codeIn K cd35 "_law_columns_hold" = true)
    (kd_law_columns_hold : PySem.W.keepIn K (.ref f35) = true)
    (ad_law_windows_hold : PySem.W.nsIn K mainGlobals "_law_windows_hold" = some (some (.ref f36)))
    (ld_law_windows_hold : K.lookup f36 = some ⟨oc36, od36, .func (PySem.W.fnOf "_law_windows_hold" "_law_windows_hold" (defArgs s_law_windows_hold) (defBody s_law_windows_hold) (defScope s_law_windows_hold) .none kV36 dc36 pm36 an36 cd36 ct36), sl36⟩)
    (cd_law_windows_hold : PySem.W.codeIn K cd36 "_law_windows_hold" = true)
    (kd_law_windows_hold : PySem.W.keepIn K (.ref f36) = true)
    (ad_law_gaps_hold : PySem.W.nsIn K mainGlobals "_law_gaps_hold" = some (some (.ref f37)))
    (ld_law_gaps_hold : K.lookup f37 = some ⟨oc37, od37, .func (PySem.W.fnOf "_law_gaps_hold" "_law_gaps_hold" (defArgs s_law_gaps_hold) (defBody s_law_gaps_hold) (defScope s_law_gaps_hold) .none kV37 dc37 pm37 an37 cd37 ct37), sl37⟩)
    (cd_law_gaps_hold : PySem.W.codeIn K cd37 "_law_gaps_hold" = true)
    (kd_law_gaps_hold : PySem.W.keepIn K (.ref f37) = true)
    (ad_law_moves_hold : PySem.W.nsIn K mainGlobals "_law_moves_hold" = some (some (.ref f38)))
    (ld_law_moves_hold : K.lookup f38 = some ⟨oc38, od38, .func (PySem.W.fnOf "_law_moves_hold" "_law_moves_hold" (defArgs s_law_moves_hold) (defBody s_law_moves_hold) (defScope s_law_moves_hold) .none kV38 dc38 pm38 an38 cd38 ct38), sl38⟩)
    (cd_law_moves_hold : PySem.W.codeIn K cd38 "_law_moves_hold" = true)
    (kd_law_moves_hold : PySem.W.keepIn K (.ref f38) = true)
    (ad_law_spoilt : PySem.W.nsIn K mainGlobals "_law_spoilt" = some (some (.ref f39)))
    (ld_law_spoilt : K.lookup f39 = some ⟨oc39, od39, .func (PySem.W.fnOf "_law_spoilt" "_law_spoilt" (defArgs s_law_spoilt) (defBody s_law_spoilt) (defScope s_law_spoilt) .none kV39 dc39 pm39 an39 cd39 ct39), sl39⟩)
    (cd_law_spoilt : PySem.W.codeIn K cd39 "_law_spoilt" = true)
    (kd_law_spoilt : PySem.W.keepIn K (.ref f39) = true)
    (ad_law_refusal : PySem.W.nsIn K mainGlobals "_law_refusal" = some (some (.ref f40)))
    (ld_law_refusal : K.lookup f40 = some ⟨oc40, od40, .func (PySem.W.fnOf "_law_refusal" "_law_refusal" (defArgs s_law_refusal) (defBody s_law_refusal) (defScope s_law_refusal) .none kV40 dc40 pm40 an40 cd40 ct40), sl40⟩)
    (cd_law_refusal : PySem.W.codeIn K cd40 "_law_refusal" = true)
    (kd_law_refusal : PySem.W.keepIn K (.ref f40) = true)
    (ad_law_refusals_hold : PySem.W.nsIn K mainGlobals "_law_refusals_hold" = some (some (.ref f41)))
    (ld_law_refusals_hold : K.lookup f41 = some ⟨oc41, od41, .func (PySem.W.fnOf "_law_refusals_hold" "_law_refusals_hold" (defArgs s_law_refusals_hold) (defBody s_law_refusals_hold) (defScope s_law_refusals_hold) .none kV41 dc41 pm41 an41 cd41 ct41), sl41⟩)
    (cd_law_refusals_hold : PySem.W.codeIn K cd41 "_law_refusals_hold" = true)
    (kd_law_refusals_hold : PySem.W.keepIn K (.ref f41) = true)
    (ad_law_unlike : PySem.W.nsIn K mainGlobals "_law_unlike" = some (some (.ref f42)))
    (ld_law_unlike : K.lookup f42 = some ⟨oc42, od42, .func (PySem.W.fnOf "_law_unlike" "_law_unlike" (defArgs s_law_unlike) (defBody s_law_unlike) (defScope s_law_unlike) .none kV42 dc42 pm42 an42 cd42 ct42), sl42⟩)
    (cd_law_unlike : PySem.W.codeIn K cd42 "_law_unlike" = true)
    (kd_law_unlike : PySem.W.keepIn K (.ref f42) = true)
    (ad_law_kinds_hold : PySem.W.nsIn K mainGlobals "_law_kinds_hold" = some (some (.ref f43)))
    (ld_law_kinds_hold : K.lookup f43 = some ⟨oc43, od43, .func (PySem.W.fnOf "_law_kinds_hold" "_law_kinds_hold" (defArgs s_law_kinds_hold) (defBody s_law_kinds_hold) (defScope s_law_kinds_hold) .none kV43 dc43 pm43 an43 cd43 ct43), sl43⟩)
    (cd_law_kinds_hold : PySem.W.codeIn K cd43 "_law_kinds_hold" = true)
    (kd_law_kinds_hold : PySem.W.keepIn K (.ref f43) = true)
    (ad_law : PySem.W.nsIn K mainGlobals "law" = some (some (.ref f44)))
    (ld_law : K.lookup f44 = some ⟨oc44, od44, .func (PySem.W.fnOf "law" "law" (defArgs s_law) (defBody s_law) (defScope s_law) .none kV44 dc44 pm44 an44 cd44 ct44), sl44⟩)
    (cd_law : PySem.W.codeIn K cd44 "law" = true)
    (kd_law : PySem.W.keepIn K (.ref f44) = true)
    (i_hn : PySem.W.specialIn K (.builtin "object.__class__") "__get__" = some (some (.builtin "getset_descriptor.__get__")))
    (i_ht : PySem.W.takesIn K (.builtin "object.__class__") = some true)
    (nn_Scheme_rows : PySem.W.findIn K (.ref CScheme) "rows" = some none)
    (nn_Scheme_colours : PySem.W.findIn K (.ref CScheme) "colours" = some none)
    (nn_Scheme_columns : PySem.W.findIn K (.ref CScheme) "columns" = some none)
    (f_Scheme_MOST : PySem.W.findIn K (.ref CScheme) "MOST" = some (some (.int 9 t_Scheme_MOST)))
    (s_Scheme_MOST : PySem.W.specialIn K (.int 9 t_Scheme_MOST) "__get__" = some none)
    (f_Scheme_BLANK : PySem.W.findIn K (.ref CScheme) "BLANK" = some (some (.str "a" t_Scheme_BLANK)))
    (s_Scheme_BLANK : PySem.W.specialIn K (.str "a" t_Scheme_BLANK) "__get__" = some none)
    (i_ha : PySem.W.findIn K (.ref CScheme) "__class__" = some (some (.builtin "object.__class__")))
    (i_hm : PySem.W.mroIn K CScheme (.type "object") = some true)
    (nf_Scheme_int : PySem.W.notFirst K CScheme (.type "int") = true)
    (nf_Scheme_str : PySem.W.notFirst K CScheme (.type "str") = true)
    (s_int_Scheme : PySem.W.subIn K (.type "int") (.ref CScheme) = some false)
    (s_str_Scheme : PySem.W.subIn K (.type "str") (.ref CScheme) = some false)
    (ne_Scheme : PySem.W.findIn K (.ref CScheme) "__ne__" = some (some (.builtin "object.__ne__")))
    (nn_Endless_scheme : PySem.W.findIn K (.ref CEndless) "scheme" = some none)
    (nn_Endless_left : PySem.W.findIn K (.ref CEndless) "left" = some none)
    (nn_Endless_middle : PySem.W.findIn K (.ref CEndless) "middle" = some none)
    (nn_Endless_right : PySem.W.findIn K (.ref CEndless) "right" = some none)
    (nn_Endless_start : PySem.W.findIn K (.ref CEndless) "start" = some none)
    (p_ha : PySem.W.findIn K (.ref CEndless) "__class__" = some (some (.builtin "object.__class__")))
    (p_hm : PySem.W.mroIn K CEndless (.type "object") = some true)
    (nf_Endless_int : PySem.W.notFirst K CEndless (.type "int") = true)
    (nf_Endless_str : PySem.W.notFirst K CEndless (.type "str") = true)
    (s_str_Endless : PySem.W.subIn K (.type "str") (.ref CEndless) = some false)
    (im_lcm : PySem.W.nsIn K mainGlobals "lcm" = some (some (.builtin "math.lcm")))
    (ss_0 : PySem.W.subIn K (.ref CBadScheme) (.ref CBadScheme) = some true)
    (s_0_1 : PySem.W.subIn K (.ref CBadScheme) (.ref CBadColumn) = some false)
    (ne_0_1 : ((Value.ref CBadScheme) == Value.ref CBadColumn) = false)
    (s_0_2 : PySem.W.subIn K (.ref CBadScheme) (.ref CBadSpots) = some false)
    (ne_0_2 : ((Value.ref CBadScheme) == Value.ref CBadSpots) = false)
    (s_0_3 : PySem.W.subIn K (.ref CBadScheme) (.ref CBadStrip) = some false)
    (ne_0_3 : ((Value.ref CBadScheme) == Value.ref CBadStrip) = false)
    (s_0_4 : PySem.W.subIn K (.ref CBadScheme) (.ref CBadEndless) = some false)
    (ne_0_4 : ((Value.ref CBadScheme) == Value.ref CBadEndless) = false)
    (s_0_5 : PySem.W.subIn K (.ref CBadScheme) (.ref CUnlikeSchemes) = some false)
    (ne_0_5 : ((Value.ref CBadScheme) == Value.ref CUnlikeSchemes) = false)
    (s_1_0 : PySem.W.subIn K (.ref CBadColumn) (.ref CBadScheme) = some false)
    (ne_1_0 : ((Value.ref CBadColumn) == Value.ref CBadScheme) = false)
    (ss_1 : PySem.W.subIn K (.ref CBadColumn) (.ref CBadColumn) = some true)
    (s_1_2 : PySem.W.subIn K (.ref CBadColumn) (.ref CBadSpots) = some false)
    (ne_1_2 : ((Value.ref CBadColumn) == Value.ref CBadSpots) = false)
    (s_1_3 : PySem.W.subIn K (.ref CBadColumn) (.ref CBadStrip) = some false)
    (ne_1_3 : ((Value.ref CBadColumn) == Value.ref CBadStrip) = false)
    (s_1_4 : PySem.W.subIn K (.ref CBadColumn) (.ref CBadEndless) = some false)
    (ne_1_4 : ((Value.ref CBadColumn) == Value.ref CBadEndless) = false)
    (s_1_5 : PySem.W.subIn K (.ref CBadColumn) (.ref CUnlikeSchemes) = some false)
    (ne_1_5 : ((Value.ref CBadColumn) == Value.ref CUnlikeSchemes) = false)
    (s_2_0 : PySem.W.subIn K (.ref CBadSpots) (.ref CBadScheme) = some false)
    (ne_2_0 : ((Value.ref CBadSpots) == Value.ref CBadScheme) = false)
    (s_2_1 : PySem.W.subIn K (.ref CBadSpots) (.ref CBadColumn) = some false)
    (ne_2_1 : ((Value.ref CBadSpots) == Value.ref CBadColumn) = false)
    (ss_2 : PySem.W.subIn K (.ref CBadSpots) (.ref CBadSpots) = some true)
    (s_2_3 : PySem.W.subIn K (.ref CBadSpots) (.ref CBadStrip) = some false)
    (ne_2_3 : ((Value.ref CBadSpots) == Value.ref CBadStrip) = false)
    (s_2_4 : PySem.W.subIn K (.ref CBadSpots) (.ref CBadEndless) = some false)
    (ne_2_4 : ((Value.ref CBadSpots) == Value.ref CBadEndless) = false)
    (s_2_5 : PySem.W.subIn K (.ref CBadSpots) (.ref CUnlikeSchemes) = some false)
    (ne_2_5 : ((Value.ref CBadSpots) == Value.ref CUnlikeSchemes) = false)
    (s_3_0 : PySem.W.subIn K (.ref CBadStrip) (.ref CBadScheme) = some false)
    (ne_3_0 : ((Value.ref CBadStrip) == Value.ref CBadScheme) = false)
    (s_3_1 : PySem.W.subIn K (.ref CBadStrip) (.ref CBadColumn) = some false)
    (ne_3_1 : ((Value.ref CBadStrip) == Value.ref CBadColumn) = false)
    (s_3_2 : PySem.W.subIn K (.ref CBadStrip) (.ref CBadSpots) = some false)
    (ne_3_2 : ((Value.ref CBadStrip) == Value.ref CBadSpots) = false)
    (ss_3 : PySem.W.subIn K (.ref CBadStrip) (.ref CBadStrip) = some true)
    (s_3_4 : PySem.W.subIn K (.ref CBadStrip) (.ref CBadEndless) = some false)
    (ne_3_4 : ((Value.ref CBadStrip) == Value.ref CBadEndless) = false)
    (s_3_5 : PySem.W.subIn K (.ref CBadStrip) (.ref CUnlikeSchemes) = some false)
    (ne_3_5 : ((Value.ref CBadStrip) == Value.ref CUnlikeSchemes) = false)
    (s_4_0 : PySem.W.subIn K (.ref CBadEndless) (.ref CBadScheme) = some false)
    (ne_4_0 : ((Value.ref CBadEndless) == Value.ref CBadScheme) = false)
    (s_4_1 : PySem.W.subIn K (.ref CBadEndless) (.ref CBadColumn) = some false)
    (ne_4_1 : ((Value.ref CBadEndless) == Value.ref CBadColumn) = false)
    (s_4_2 : PySem.W.subIn K (.ref CBadEndless) (.ref CBadSpots) = some false)
    (ne_4_2 : ((Value.ref CBadEndless) == Value.ref CBadSpots) = false)
    (s_4_3 : PySem.W.subIn K (.ref CBadEndless) (.ref CBadStrip) = some false)
    (ne_4_3 : ((Value.ref CBadEndless) == Value.ref CBadStrip) = false)
    (ss_4 : PySem.W.subIn K (.ref CBadEndless) (.ref CBadEndless) = some true)
    (s_4_5 : PySem.W.subIn K (.ref CBadEndless) (.ref CUnlikeSchemes) = some false)
    (ne_4_5 : ((Value.ref CBadEndless) == Value.ref CUnlikeSchemes) = false)
    (s_5_0 : PySem.W.subIn K (.ref CUnlikeSchemes) (.ref CBadScheme) = some false)
    (ne_5_0 : ((Value.ref CUnlikeSchemes) == Value.ref CBadScheme) = false)
    (s_5_1 : PySem.W.subIn K (.ref CUnlikeSchemes) (.ref CBadColumn) = some false)
    (ne_5_1 : ((Value.ref CUnlikeSchemes) == Value.ref CBadColumn) = false)
    (s_5_2 : PySem.W.subIn K (.ref CUnlikeSchemes) (.ref CBadSpots) = some false)
    (ne_5_2 : ((Value.ref CUnlikeSchemes) == Value.ref CBadSpots) = false)
    (s_5_3 : PySem.W.subIn K (.ref CUnlikeSchemes) (.ref CBadStrip) = some false)
    (ne_5_3 : ((Value.ref CUnlikeSchemes) == Value.ref CBadStrip) = false)
    (s_5_4 : PySem.W.subIn K (.ref CUnlikeSchemes) (.ref CBadEndless) = some false)
    (ne_5_4 : ((Value.ref CUnlikeSchemes) == Value.ref CBadEndless) = false)
    (ss_5 : PySem.W.subIn K (.ref CUnlikeSchemes) (.ref CUnlikeSchemes) = some true)
    (sv_0 : PySem.W.subIn K (.ref CBadScheme) (.type "ValueError") = some true)
    (sv_1 : PySem.W.subIn K (.ref CBadColumn) (.type "ValueError") = some true)
    (sv_2 : PySem.W.subIn K (.ref CBadSpots) (.type "ValueError") = some true)
    (sv_3 : PySem.W.subIn K (.ref CBadStrip) (.type "ValueError") = some true)
    (sv_4 : PySem.W.subIn K (.ref CBadEndless) (.type "ValueError") = some true)
    (sv_5 : PySem.W.subIn K (.ref CUnlikeSchemes) (.type "ValueError") = some true)
    (sg_0 : PySem.W.subIn K (.ref CBadScheme) (.ref CGalloonError) = some true)
    (sg_1 : PySem.W.subIn K (.ref CBadColumn) (.ref CGalloonError) = some true)
    (sg_2 : PySem.W.subIn K (.ref CBadSpots) (.ref CGalloonError) = some true)
    (sg_3 : PySem.W.subIn K (.ref CBadStrip) (.ref CGalloonError) = some true)
    (sg_4 : PySem.W.subIn K (.ref CBadEndless) (.ref CGalloonError) = some true)
    (sg_5 : PySem.W.subIn K (.ref CUnlikeSchemes) (.ref CGalloonError) = some true)
    (ne_g_0 : ((Value.ref CBadScheme) == Value.ref CGalloonError) = false)
    (ne_g_1 : ((Value.ref CBadColumn) == Value.ref CGalloonError) = false)
    (ne_g_2 : ((Value.ref CBadSpots) == Value.ref CGalloonError) = false)
    (ne_g_3 : ((Value.ref CBadStrip) == Value.ref CGalloonError) = false)
    (ne_g_4 : ((Value.ref CBadEndless) == Value.ref CGalloonError) = false)
    (ne_g_5 : ((Value.ref CUnlikeSchemes) == Value.ref CGalloonError) = false) :
    Txt K mg ⟨CGalloonError, CUnlikeSchemes, CBadScheme, CBadColumn, CBadSpots, CBadStrip, CBadEndless, CScheme, CEndless⟩ :=
  { b_ValueError := PySem.W.mg_none_of X G z_ValueError
    b_abs := PySem.W.mg_none_of X G z_abs
    b_all := PySem.W.mg_none_of X G z_all
    b_bool := PySem.W.mg_none_of X G z_bool
    b_enumerate := PySem.W.mg_none_of X G z_enumerate
    b_int := PySem.W.mg_none_of X G z_int
    b_isinstance := PySem.W.mg_none_of X G z_isinstance
    b_len := PySem.W.mg_none_of X G z_len
    b_list := PySem.W.mg_none_of X G z_list
    b_max := PySem.W.mg_none_of X G z_max
    b_min := PySem.W.mg_none_of X G z_min
    b_ord := PySem.W.mg_none_of X G z_ord
    b_range := PySem.W.mg_none_of X G z_range
    b_str := PySem.W.mg_none_of X G z_str
    b_zip := PySem.W.mg_none_of X G z_zip
    g_DIGITS := gval_of X G v_DIGITS ⟨_, rfl⟩
    g_LETTERS := gval_of X G v_LETTERS ⟨_, rfl⟩
    g_MOST_LOOP := gval_of X G v_MOST_LOOP ⟨_, rfl⟩
    g_GalloonError := PySem.W.mg_of X G a_GalloonError
    z_UnlikeSchemes := ⟨PySem.W.mg_of X G a_UnlikeSchemes, xz_UnlikeSchemes, kc_UnlikeSchemes, sB_UnlikeSchemes, tc_UnlikeSchemes⟩
    x_UnlikeSchemes := errC_of ga_UnlikeSchemes gg_UnlikeSchemes sB_UnlikeSchemes hd_UnlikeSchemes ha_UnlikeSchemes i_hn i_ht hm_UnlikeSchemes ic_UnlikeSchemes
    e_BadScheme := errT_of X G a_BadScheme x_BadScheme rf_BadScheme sa_BadScheme sB_BadScheme tc_BadScheme kc_BadScheme nb_BadScheme ai_BadScheme ti_BadScheme li_BadScheme ci_BadScheme ki_BadScheme
    x_BadScheme := errC_of ga_BadScheme gg_BadScheme sB_BadScheme hd_BadScheme ha_BadScheme i_hn i_ht hm_BadScheme ic_BadScheme
    e_BadColumn := errT_of X G a_BadColumn x_BadColumn rf_BadColumn sa_BadColumn sB_BadColumn tc_BadColumn kc_BadColumn nb_BadColumn ai_BadColumn ti_BadColumn li_BadColumn ci_BadColumn ki_BadColumn
    x_BadColumn := errC_of ga_BadColumn gg_BadColumn sB_BadColumn hd_BadColumn ha_BadColumn i_hn i_ht hm_BadColumn ic_BadColumn
    e_BadSpots := errT_of X G a_BadSpots x_BadSpots rf_BadSpots sa_BadSpots sB_BadSpots tc_BadSpots kc_BadSpots nb_BadSpots ai_BadSpots ti_BadSpots li_BadSpots ci_BadSpots ki_BadSpots
    x_BadSpots := errC_of ga_BadSpots gg_BadSpots sB_BadSpots hd_BadSpots ha_BadSpots i_hn i_ht hm_BadSpots ic_BadSpots
    e_BadStrip := errT_of X G a_BadStrip x_BadStrip rf_BadStrip sa_BadStrip sB_BadStrip tc_BadStrip kc_BadStrip nb_BadStrip ai_BadStrip ti_BadStrip li_BadStrip ci_BadStrip ki_BadStrip
    x_BadStrip := errC_of ga_BadStrip gg_BadStrip sB_BadStrip hd_BadStrip ha_BadStrip i_hn i_ht hm_BadStrip ic_BadStrip
    e_BadEndless := errT_of X G a_BadEndless x_BadEndless rf_BadEndless sa_BadEndless sB_BadEndless tc_BadEndless kc_BadEndless nb_BadEndless ai_BadEndless ti_BadEndless li_BadEndless ci_BadEndless ki_BadEndless
    x_BadEndless := errC_of ga_BadEndless gg_BadEndless sB_BadEndless hd_BadEndless ha_BadEndless i_hn i_ht hm_BadEndless ic_BadEndless
    c_Scheme := clsT_of X G a_Scheme pg_Scheme hd_Scheme po_Scheme sa_Scheme mk_Scheme kc_Scheme
    m_Scheme___init__ := metT_of am_Scheme___init__ im_Scheme___init__ lm_Scheme___init__ cm_Scheme___init__ km_Scheme___init__
    m_Scheme___eq__ := metT_of am_Scheme___eq__ im_Scheme___eq__ lm_Scheme___eq__ cm_Scheme___eq__ km_Scheme___eq__
    m_Scheme___len__ := metT_of am_Scheme___len__ im_Scheme___len__ lm_Scheme___len__ cm_Scheme___len__ km_Scheme___len__
    m_Scheme_is_column := metT_of am_Scheme_is_column im_Scheme_is_column lm_Scheme_is_column cm_Scheme_is_column km_Scheme_is_column
    m_Scheme_is_colour := metT_of am_Scheme_is_colour im_Scheme_is_colour lm_Scheme_is_colour cm_Scheme_is_colour km_Scheme_is_colour
    m_Scheme_is_strip := metT_of am_Scheme_is_strip im_Scheme_is_strip lm_Scheme_is_strip cm_Scheme_is_strip km_Scheme_is_strip
    m_Scheme_spots := metT_of am_Scheme_spots im_Scheme_spots lm_Scheme_spots cm_Scheme_spots km_Scheme_spots
    m_Scheme_column := metT_of am_Scheme_column im_Scheme_column lm_Scheme_column cm_Scheme_column km_Scheme_column
    c_Endless := clsT_of X G a_Endless pg_Endless hd_Endless po_Endless sa_Endless mk_Endless kc_Endless
    m_Endless___init__ := initK_of am_Endless___init__ im_Endless___init__ lm_Endless___init__ cm_Endless___init__ km_Endless___init__ (ks_cons kw14_start ⟨_, rfl⟩ ks_nil)
    m_Endless___eq__ := metT_of am_Endless___eq__ im_Endless___eq__ lm_Endless___eq__ cm_Endless___eq__ km_Endless___eq__
    m_Endless_column_at := metT_of am_Endless_column_at im_Endless_column_at lm_Endless_column_at cm_Endless_column_at km_Endless_column_at
    m_Endless_window := metT_of am_Endless_window im_Endless_window lm_Endless_window cm_Endless_window km_Endless_window
    m_Endless_moved := metT_of am_Endless_moved im_Endless_moved lm_Endless_moved cm_Endless_moved km_Endless_moved
    d_check_alike := defT_of X G ad_check_alike ld_check_alike cd_check_alike kd_check_alike
    d_endless_apart := defT_of X G ad_endless_apart ld_endless_apart cd_endless_apart kd_endless_apart
    d_is_loop := defT_of X G ad_is_loop ld_is_loop cd_is_loop kd_is_loop
    d_apart := defT_of X G ad_apart ld_apart cd_apart kd_apart
    d_law_source := defT_of X G ad_law_source ld_law_source cd_law_source kd_law_source
    d_law_draw := defT_of X G ad_law_draw ld_law_draw cd_law_draw kd_law_draw
    d_law_strip := defT_of X G ad_law_strip ld_law_strip cd_law_strip kd_law_strip
    d_law_shape := defT_of X G ad_law_shape ld_law_shape cd_law_shape kd_law_shape
    d_law_column := defT_of X G ad_law_column ld_law_column cd_law_column kd_law_column
    d_law_text := defT_of X G ad_law_text ld_law_text cd_law_text kd_law_text
    d_law_made := defT_of X G ad_law_made ld_law_made cd_law_made kd_law_made
    d_law_parts := defT_of X G ad_law_parts ld_law_parts cd_law_parts kd_law_parts
    d_law_rewritten := defT_of X G ad_law_rewritten ld_law_rewritten cd_law_rewritten kd_law_rewritten
    d_law_changed := defT_of X G ad_law_changed ld_law_changed cd_law_changed kd_law_changed
    d_law_other := defT_of X G ad_law_other ld_law_other cd_law_other kd_law_other
    d_law_gaps := defT_of X G ad_law_gaps ld_law_gaps cd_law_gaps kd_law_gaps
    d_law_columns_hold := defT_of X G ad_law_columns_hold ld_law_columns_hold cd_law_columns_hold kd_law_columns_hold
    d_law_windows_hold := defT_of X G ad_law_windows_hold ld_law_windows_hold cd_law_windows_hold kd_law_windows_hold
    d_law_gaps_hold := defT_of X G ad_law_gaps_hold ld_law_gaps_hold cd_law_gaps_hold kd_law_gaps_hold
    d_law_moves_hold := defT_of X G ad_law_moves_hold ld_law_moves_hold cd_law_moves_hold kd_law_moves_hold
    d_law_spoilt := defT_of X G ad_law_spoilt ld_law_spoilt cd_law_spoilt kd_law_spoilt
    d_law_refusal := defT_of X G ad_law_refusal ld_law_refusal cd_law_refusal kd_law_refusal
    d_law_refusals_hold := defT_of X G ad_law_refusals_hold ld_law_refusals_hold cd_law_refusals_hold kd_law_refusals_hold
    d_law_unlike := defT_of X G ad_law_unlike ld_law_unlike cd_law_unlike kd_law_unlike
    d_law_kinds_hold := defT_of X G ad_law_kinds_hold ld_law_kinds_hold cd_law_kinds_hold kd_law_kinds_hold
    d_law := defT_of X G ad_law ld_law cd_law kd_law
    i_hn := i_hn
    i_ht := i_ht
    n_rows := nn_Scheme_rows
    n_colours := nn_Scheme_colours
    n_columns := nn_Scheme_columns
    k_MOST := ⟨_, f_Scheme_MOST, ⟨_, rfl⟩, s_Scheme_MOST, by decide +kernel⟩
    k_BLANK := ⟨_, f_Scheme_BLANK, ⟨_, rfl⟩, s_Scheme_BLANK, by decide +kernel⟩
    i_ha := i_ha
    i_hm := i_hm
    i_own := kitS_of
    i_ni := nf_Scheme_int
    i_ns := nf_Scheme_str
    i_int := kitR_of ic_Scheme tc_Scheme s_int_Scheme rfl
    i_str := kitR_of ic_Scheme tc_Scheme s_str_Scheme rfl
    n_Scheme := ⟨ne_Scheme, i_hm⟩
    n_scheme := nn_Endless_scheme
    n_left := nn_Endless_left
    n_middle := nn_Endless_middle
    n_right := nn_Endless_right
    n_start := nn_Endless_start
    p_ha := p_ha
    p_hm := p_hm
    p_own := kitS_of
    p_ni := nf_Endless_int
    p_ns := nf_Endless_str
    p_str := kitR_of ic_Endless tc_Endless s_str_Endless rfl
    m_lcm := PySem.W.mg_of X G im_lcm
    kk_e := kk_of ic_UnlikeSchemes tc_UnlikeSchemes ic_BadScheme tc_BadScheme ic_BadColumn tc_BadColumn ic_BadSpots tc_BadSpots ic_BadStrip tc_BadStrip ic_BadEndless tc_BadEndless s_0_1 ne_0_1 s_0_2 ne_0_2 s_0_3 ne_0_3 s_0_4 ne_0_4 s_0_5 ne_0_5 s_1_0 ne_1_0 s_1_2 ne_1_2 s_1_3 ne_1_3 s_1_4 ne_1_4 s_1_5 ne_1_5 s_2_0 ne_2_0 s_2_1 ne_2_1 s_2_3 ne_2_3 s_2_4 ne_2_4 s_2_5 ne_2_5 s_3_0 ne_3_0 s_3_1 ne_3_1 s_3_2 ne_3_2 s_3_4 ne_3_4 s_3_5 ne_3_5 s_4_0 ne_4_0 s_4_1 ne_4_1 s_4_2 ne_4_2 s_4_3 ne_4_3 s_4_5 ne_4_5 s_5_0 ne_5_0 s_5_1 ne_5_1 s_5_2 ne_5_2 s_5_3 ne_5_3 s_5_4 ne_5_4
    kv_e := kv_of sv_0 sv_1 sv_2 sv_3 sv_4 sv_5
    xm_e := xm_of sB_GalloonError ic_GalloonError tc_GalloonError sg_0 sg_1 sg_2 sg_3 sg_4 sg_5
    kg_e := kg_of ic_GalloonError tc_GalloonError sg_0 sg_1 sg_2 sg_3 sg_4 sg_5 ne_g_0 ne_g_1 ne_g_2 ne_g_3 ne_g_4 ne_g_5
    xo_e := xo_of sB_UnlikeSchemes ic_UnlikeSchemes tc_UnlikeSchemes sB_BadScheme ic_BadScheme tc_BadScheme sB_BadColumn ic_BadColumn tc_BadColumn sB_BadSpots ic_BadSpots tc_BadSpots sB_BadStrip ic_BadStrip tc_BadStrip sB_BadEndless ic_BadEndless tc_BadEndless ss_0 s_0_1 s_0_2 s_0_3 s_0_4 s_0_5 s_1_0 ss_1 s_1_2 s_1_3 s_1_4 s_1_5 s_2_0 s_2_1 ss_2 s_2_3 s_2_4 s_2_5 s_3_0 s_3_1 s_3_2 ss_3 s_3_4 s_3_5 s_4_0 s_4_1 s_4_2 s_4_3 ss_4 s_4_5 s_5_0 s_5_1 s_5_2 s_5_3 s_5_4 ss_5 }
end K40

end
set_option Elab.async false
set_option maxRecDepth 100000
open PySem PySem.W PyProof.Rows
set_option maxRecDepth 100000 in
set_option maxHeartbeats 0 in
theorem PySem.Challenge.cw_galloon_k40_endless_strips_and_moves_holds : PySem.Challenge.rw_galloon_k40_endless_strips_and_moves.Holds := by
  w_on; o_law; k_head; (case hw => w_witness2)
  k_fill
  refine K40.walk (l := PySem.Challenge.rw_galloon_k40_endless_strips_and_moves) rfl rfl (fun w h Y => PySem.W.kIn_of Y) rfl ?F
  case F =>
    intro w mg h KX G
    refine' ⟨_, K40.mkTxt KX G ?a_GalloonError ?a_UnlikeSchemes ?a_BadScheme ?a_BadColumn ?a_BadSpots ?a_BadStrip ?a_BadEndless ?a_Scheme ?a_Endless ?z_ValueError ?z_abs ?z_all ?z_bool ?z_enumerate ?z_int ?z_isinstance ?z_len ?z_list ?z_max ?z_min ?z_ord ?z_range ?z_str ?z_zip ?v_DIGITS ?v_LETTERS ?v_MOST_LOOP ?sB_GalloonError ?ic_GalloonError ?tc_GalloonError ?sB_UnlikeSchemes ?ic_UnlikeSchemes ?tc_UnlikeSchemes ?sB_BadScheme ?ic_BadScheme ?tc_BadScheme ?sB_BadColumn ?ic_BadColumn ?tc_BadColumn ?sB_BadSpots ?ic_BadSpots ?tc_BadSpots ?sB_BadStrip ?ic_BadStrip ?tc_BadStrip ?sB_BadEndless ?ic_BadEndless ?tc_BadEndless ?ic_Scheme ?tc_Scheme ?ic_Endless ?tc_Endless ?xz_UnlikeSchemes ?kc_UnlikeSchemes ?ga_UnlikeSchemes ?gg_UnlikeSchemes ?hd_UnlikeSchemes ?ha_UnlikeSchemes ?hm_UnlikeSchemes ?x_BadScheme ?rf_BadScheme ?sa_BadScheme ?kc_BadScheme ?nb_BadScheme ?ai_BadScheme ?ti_BadScheme ?li_BadScheme ?ci_BadScheme ?ki_BadScheme ?ga_BadScheme ?gg_BadScheme ?hd_BadScheme ?ha_BadScheme ?hm_BadScheme ?x_BadColumn ?rf_BadColumn ?sa_BadColumn ?kc_BadColumn ?nb_BadColumn ?ai_BadColumn ?ti_BadColumn ?li_BadColumn ?ci_BadColumn ?ki_BadColumn ?ga_BadColumn ?gg_BadColumn ?hd_BadColumn ?ha_BadColumn ?hm_BadColumn ?x_BadSpots ?rf_BadSpots ?sa_BadSpots ?kc_BadSpots ?nb_BadSpots ?ai_BadSpots ?ti_BadSpots ?li_BadSpots ?ci_BadSpots ?ki_BadSpots ?ga_BadSpots ?gg_BadSpots ?hd_BadSpots ?ha_BadSpots ?hm_BadSpots ?x_BadStrip ?rf_BadStrip ?sa_BadStrip ?kc_BadStrip ?nb_BadStrip ?ai_BadStrip ?ti_BadStrip ?li_BadStrip ?ci_BadStrip ?ki_BadStrip ?ga_BadStrip ?gg_BadStrip ?hd_BadStrip ?ha_BadStrip ?hm_BadStrip ?x_BadEndless ?rf_BadEndless ?sa_BadEndless ?kc_BadEndless ?nb_BadEndless ?ai_BadEndless ?ti_BadEndless ?li_BadEndless ?ci_BadEndless ?ki_BadEndless ?ga_BadEndless ?gg_BadEndless ?hd_BadEndless ?ha_BadEndless ?hm_BadEndless ?pg_Scheme ?hd_Scheme ?po_Scheme ?sa_Scheme ?mk_Scheme ?kc_Scheme ?am_Scheme___init__ ?im_Scheme___init__ ?lm_Scheme___init__ ?cm_Scheme___init__ ?km_Scheme___init__ ?am_Scheme___eq__ ?im_Scheme___eq__ ?lm_Scheme___eq__ ?cm_Scheme___eq__ ?km_Scheme___eq__ ?am_Scheme___len__ ?im_Scheme___len__ ?lm_Scheme___len__ ?cm_Scheme___len__ ?km_Scheme___len__ ?am_Scheme_is_column ?im_Scheme_is_column ?lm_Scheme_is_column ?cm_Scheme_is_column ?km_Scheme_is_column ?am_Scheme_is_colour ?im_Scheme_is_colour ?lm_Scheme_is_colour ?cm_Scheme_is_colour ?km_Scheme_is_colour ?am_Scheme_is_strip ?im_Scheme_is_strip ?lm_Scheme_is_strip ?cm_Scheme_is_strip ?km_Scheme_is_strip ?am_Scheme_spots ?im_Scheme_spots ?lm_Scheme_spots ?cm_Scheme_spots ?km_Scheme_spots ?am_Scheme_column ?im_Scheme_column ?lm_Scheme_column ?cm_Scheme_column ?km_Scheme_column ?pg_Endless ?hd_Endless ?po_Endless ?sa_Endless ?mk_Endless ?kc_Endless ?am_Endless___init__ ?im_Endless___init__ ?lm_Endless___init__ ?cm_Endless___init__ ?km_Endless___init__ ?kw14_start ?am_Endless___eq__ ?im_Endless___eq__ ?lm_Endless___eq__ ?cm_Endless___eq__ ?km_Endless___eq__ ?am_Endless_column_at ?im_Endless_column_at ?lm_Endless_column_at ?cm_Endless_column_at ?km_Endless_column_at ?am_Endless_window ?im_Endless_window ?lm_Endless_window ?cm_Endless_window ?km_Endless_window ?am_Endless_moved ?im_Endless_moved ?lm_Endless_moved ?cm_Endless_moved ?km_Endless_moved ?ad_check_alike ?ld_check_alike ?cd_check_alike ?kd_check_alike ?ad_endless_apart ?ld_endless_apart ?cd_endless_apart ?kd_endless_apart ?ad_is_loop ?ld_is_loop ?cd_is_loop ?kd_is_loop ?ad_apart ?ld_apart ?cd_apart ?kd_apart ?ad_law_source ?ld_law_source ?cd_law_source ?kd_law_source ?ad_law_draw ?ld_law_draw ?cd_law_draw ?kd_law_draw ?ad_law_strip ?ld_law_strip ?cd_law_strip ?kd_law_strip ?ad_law_shape ?ld_law_shape ?cd_law_shape ?kd_law_shape ?ad_law_column ?ld_law_column ?cd_law_column ?kd_law_column ?ad_law_text ?ld_law_text ?cd_law_text ?kd_law_text ?ad_law_made ?ld_law_made ?cd_law_made ?kd_law_made ?ad_law_parts ?ld_law_parts ?cd_law_parts ?kd_law_parts ?ad_law_rewritten ?ld_law_rewritten ?cd_law_rewritten ?kd_law_rewritten ?ad_law_changed ?ld_law_changed ?cd_law_changed ?kd_law_changed ?ad_law_other ?ld_law_other ?cd_law_other ?kd_law_other ?ad_law_gaps ?ld_law_gaps ?cd_law_gaps ?kd_law_gaps ?ad_law_columns_hold ?ld_law_columns_hold ?cd_law_columns_hold ?kd_law_columns_hold ?ad_law_windows_hold ?ld_law_windows_hold ?cd_law_windows_hold ?kd_law_windows_hold ?ad_law_gaps_hold ?ld_law_gaps_hold ?cd_law_gaps_hold ?kd_law_gaps_hold ?ad_law_moves_hold ?ld_law_moves_hold ?cd_law_moves_hold ?kd_law_moves_hold ?ad_law_spoilt ?ld_law_spoilt ?cd_law_spoilt ?kd_law_spoilt ?ad_law_refusal ?ld_law_refusal ?cd_law_refusal ?kd_law_refusal ?ad_law_refusals_hold ?ld_law_refusals_hold ?cd_law_refusals_hold ?kd_law_refusals_hold ?ad_law_unlike ?ld_law_unlike ?cd_law_unlike ?kd_law_unlike ?ad_law_kinds_hold ?ld_law_kinds_hold ?cd_law_kinds_hold ?kd_law_kinds_hold ?ad_law ?ld_law ?cd_law ?kd_law ?i_hn ?i_ht ?nn_Scheme_rows ?nn_Scheme_colours ?nn_Scheme_columns ?f_Scheme_MOST ?s_Scheme_MOST ?f_Scheme_BLANK ?s_Scheme_BLANK ?i_ha ?i_hm ?nf_Scheme_int ?nf_Scheme_str ?s_int_Scheme ?s_str_Scheme ?ne_Scheme ?nn_Endless_scheme ?nn_Endless_left ?nn_Endless_middle ?nn_Endless_right ?nn_Endless_start ?p_ha ?p_hm ?nf_Endless_int ?nf_Endless_str ?s_str_Endless ?im_lcm ?ss_0 ?s_0_1 ?ne_0_1 ?s_0_2 ?ne_0_2 ?s_0_3 ?ne_0_3 ?s_0_4 ?ne_0_4 ?s_0_5 ?ne_0_5 ?s_1_0 ?ne_1_0 ?ss_1 ?s_1_2 ?ne_1_2 ?s_1_3 ?ne_1_3 ?s_1_4 ?ne_1_4 ?s_1_5 ?ne_1_5 ?s_2_0 ?ne_2_0 ?s_2_1 ?ne_2_1 ?ss_2 ?s_2_3 ?ne_2_3 ?s_2_4 ?ne_2_4 ?s_2_5 ?ne_2_5 ?s_3_0 ?ne_3_0 ?s_3_1 ?ne_3_1 ?s_3_2 ?ne_3_2 ?ss_3 ?s_3_4 ?ne_3_4 ?s_3_5 ?ne_3_5 ?s_4_0 ?ne_4_0 ?s_4_1 ?ne_4_1 ?s_4_2 ?ne_4_2 ?s_4_3 ?ne_4_3 ?ss_4 ?s_4_5 ?ne_4_5 ?s_5_0 ?ne_5_0 ?s_5_1 ?ne_5_1 ?s_5_2 ?ne_5_2 ?s_5_3 ?ne_5_3 ?s_5_4 ?ne_5_4 ?ss_5 ?sv_0 ?sv_1 ?sv_2 ?sv_3 ?sv_4 ?sv_5 ?sg_0 ?sg_1 ?sg_2 ?sg_3 ?sg_4 ?sg_5 ?ne_g_0 ?ne_g_1 ?ne_g_2 ?ne_g_3 ?ne_g_4 ?ne_g_5⟩
    (case a_GalloonError => k_is)
    (case a_UnlikeSchemes => k_is)
    (case a_BadScheme => k_is)
    (case a_BadColumn => k_is)
    (case a_BadSpots => k_is)
    (case a_BadStrip => k_is)
    (case a_BadEndless => k_is)
    (case a_Scheme => k_is)
    (case a_Endless => k_is)
    (case z_ValueError => k_is)
    (case z_abs => k_is)
    (case z_all => k_is)
    (case z_bool => k_is)
    (case z_enumerate => k_is)
    (case z_int => k_is)
    (case z_isinstance => k_is)
    (case z_len => k_is)
    (case z_list => k_is)
    (case z_max => k_is)
    (case z_min => k_is)
    (case z_ord => k_is)
    (case z_range => k_is)
    (case z_str => k_is)
    (case z_zip => k_is)
    (case v_DIGITS => k_is)
    (case v_LETTERS => k_is)
    (case v_MOST_LOOP => k_is)
    (case sB_GalloonError => k_is)
    (case ic_GalloonError => k_is)
    (case tc_GalloonError => k_is)
    (case sB_UnlikeSchemes => k_is)
    (case ic_UnlikeSchemes => k_is)
    (case tc_UnlikeSchemes => k_is)
    (case sB_BadScheme => k_is)
    (case ic_BadScheme => k_is)
    (case tc_BadScheme => k_is)
    (case sB_BadColumn => k_is)
    (case ic_BadColumn => k_is)
    (case tc_BadColumn => k_is)
    (case sB_BadSpots => k_is)
    (case ic_BadSpots => k_is)
    (case tc_BadSpots => k_is)
    (case sB_BadStrip => k_is)
    (case ic_BadStrip => k_is)
    (case tc_BadStrip => k_is)
    (case sB_BadEndless => k_is)
    (case ic_BadEndless => k_is)
    (case tc_BadEndless => k_is)
    (case ic_Scheme => k_is)
    (case tc_Scheme => k_is)
    (case ic_Endless => k_is)
    (case tc_Endless => k_is)
    (case xz_UnlikeSchemes => k_exc)
    (case kc_UnlikeSchemes => k_is)
    (case ga_UnlikeSchemes => k_is)
    (case gg_UnlikeSchemes => k_is)
    (case hd_UnlikeSchemes => k_is)
    (case ha_UnlikeSchemes => k_is)
    (case hm_UnlikeSchemes => k_is)
    (case x_BadScheme => k_is)
    (case rf_BadScheme => decide +kernel)
    (case sa_BadScheme => k_is)
    (case kc_BadScheme => k_is)
    (case nb_BadScheme => k_is)
    (case ai_BadScheme => k_is)
    (case ti_BadScheme => k_is)
    (case li_BadScheme => k_is)
    (case ci_BadScheme => k_is)
    (case ki_BadScheme => k_is)
    (case ga_BadScheme => k_is)
    (case gg_BadScheme => k_is)
    (case hd_BadScheme => k_is)
    (case ha_BadScheme => k_is)
    (case hm_BadScheme => k_is)
    (case x_BadColumn => k_is)
    (case rf_BadColumn => decide +kernel)
    (case sa_BadColumn => k_is)
    (case kc_BadColumn => k_is)
    (case nb_BadColumn => k_is)
    (case ai_BadColumn => k_is)
    (case ti_BadColumn => k_is)
    (case li_BadColumn => k_is)
    (case ci_BadColumn => k_is)
    (case ki_BadColumn => k_is)
    (case ga_BadColumn => k_is)
    (case gg_BadColumn => k_is)
    (case hd_BadColumn => k_is)
    (case ha_BadColumn => k_is)
    (case hm_BadColumn => k_is)
    (case x_BadSpots => k_is)
    (case rf_BadSpots => decide +kernel)
    (case sa_BadSpots => k_is)
    (case kc_BadSpots => k_is)
    (case nb_BadSpots => k_is)
    (case ai_BadSpots => k_is)
    (case ti_BadSpots => k_is)
    (case li_BadSpots => k_is)
    (case ci_BadSpots => k_is)
    (case ki_BadSpots => k_is)
    (case ga_BadSpots => k_is)
    (case gg_BadSpots => k_is)
    (case hd_BadSpots => k_is)
    (case ha_BadSpots => k_is)
    (case hm_BadSpots => k_is)
    (case x_BadStrip => k_is)
    (case rf_BadStrip => decide +kernel)
    (case sa_BadStrip => k_is)
    (case kc_BadStrip => k_is)
    (case nb_BadStrip => k_is)
    (case ai_BadStrip => k_is)
    (case ti_BadStrip => k_is)
    (case li_BadStrip => k_is)
    (case ci_BadStrip => k_is)
    (case ki_BadStrip => k_is)
    (case ga_BadStrip => k_is)
    (case gg_BadStrip => k_is)
    (case hd_BadStrip => k_is)
    (case ha_BadStrip => k_is)
    (case hm_BadStrip => k_is)
    (case x_BadEndless => k_is)
    (case rf_BadEndless => decide +kernel)
    (case sa_BadEndless => k_is)
    (case kc_BadEndless => k_is)
    (case nb_BadEndless => k_is)
    (case ai_BadEndless => k_is)
    (case ti_BadEndless => k_is)
    (case li_BadEndless => k_is)
    (case ci_BadEndless => k_is)
    (case ki_BadEndless => k_is)
    (case ga_BadEndless => k_is)
    (case gg_BadEndless => k_is)
    (case hd_BadEndless => k_is)
    (case ha_BadEndless => k_is)
    (case hm_BadEndless => k_is)
    (case pg_Scheme => k_is)
    (case hd_Scheme => k_is)
    (case po_Scheme => k_is)
    (case sa_Scheme => k_is)
    (case mk_Scheme => k_is)
    (case kc_Scheme => k_is)
    (case am_Scheme___init__ => k_is)
    (case im_Scheme___init__ => k_is)
    (case lm_Scheme___init__ => k_is)
    (case cm_Scheme___init__ => k_is)
    (case km_Scheme___init__ => k_is)
    (case am_Scheme___eq__ => k_is)
    (case im_Scheme___eq__ => k_is)
    (case lm_Scheme___eq__ => k_is)
    (case cm_Scheme___eq__ => k_is)
    (case km_Scheme___eq__ => k_is)
    (case am_Scheme___len__ => k_is)
    (case im_Scheme___len__ => k_is)
    (case lm_Scheme___len__ => k_is)
    (case cm_Scheme___len__ => k_is)
    (case km_Scheme___len__ => k_is)
    (case am_Scheme_is_column => k_is)
    (case im_Scheme_is_column => k_is)
    (case lm_Scheme_is_column => k_is)
    (case cm_Scheme_is_column => k_is)
    (case km_Scheme_is_column => k_is)
    (case am_Scheme_is_colour => k_is)
    (case im_Scheme_is_colour => k_is)
    (case lm_Scheme_is_colour => k_is)
    (case cm_Scheme_is_colour => k_is)
    (case km_Scheme_is_colour => k_is)
    (case am_Scheme_is_strip => k_is)
    (case im_Scheme_is_strip => k_is)
    (case lm_Scheme_is_strip => k_is)
    (case cm_Scheme_is_strip => k_is)
    (case km_Scheme_is_strip => k_is)
    (case am_Scheme_spots => k_is)
    (case im_Scheme_spots => k_is)
    (case lm_Scheme_spots => k_is)
    (case cm_Scheme_spots => k_is)
    (case km_Scheme_spots => k_is)
    (case am_Scheme_column => k_is)
    (case im_Scheme_column => k_is)
    (case lm_Scheme_column => k_is)
    (case cm_Scheme_column => k_is)
    (case km_Scheme_column => k_is)
    (case pg_Endless => k_is)
    (case hd_Endless => k_is)
    (case po_Endless => k_is)
    (case sa_Endless => k_is)
    (case mk_Endless => k_is)
    (case kc_Endless => k_is)
    (case am_Endless___init__ => k_is)
    (case im_Endless___init__ => k_is)
    (case lm_Endless___init__ => k_is)
    (case cm_Endless___init__ => k_is)
    (case km_Endless___init__ => k_is)
    (case kw14_start => k_is)
    (case am_Endless___eq__ => k_is)
    (case im_Endless___eq__ => k_is)
    (case lm_Endless___eq__ => k_is)
    (case cm_Endless___eq__ => k_is)
    (case km_Endless___eq__ => k_is)
    (case am_Endless_column_at => k_is)
    (case im_Endless_column_at => k_is)
    (case lm_Endless_column_at => k_is)
    (case cm_Endless_column_at => k_is)
    (case km_Endless_column_at => k_is)
    (case am_Endless_window => k_is)
    (case im_Endless_window => k_is)
    (case lm_Endless_window => k_is)
    (case cm_Endless_window => k_is)
    (case km_Endless_window => k_is)
    (case am_Endless_moved => k_is)
    (case im_Endless_moved => k_is)
    (case lm_Endless_moved => k_is)
    (case cm_Endless_moved => k_is)
    (case km_Endless_moved => k_is)
    (case ad_check_alike => k_is)
    (case ld_check_alike => k_is)
    (case cd_check_alike => k_is)
    (case kd_check_alike => k_is)
    (case ad_endless_apart => k_is)
    (case ld_endless_apart => k_is)
    (case cd_endless_apart => k_is)
    (case kd_endless_apart => k_is)
    (case ad_is_loop => k_is)
    (case ld_is_loop => k_is)
    (case cd_is_loop => k_is)
    (case kd_is_loop => k_is)
    (case ad_apart => k_is)
    (case ld_apart => k_is)
    (case cd_apart => k_is)
    (case kd_apart => k_is)
    (case ad_law_source => k_is)
    (case ld_law_source => k_is)
    (case cd_law_source => k_is)
    (case kd_law_source => k_is)
    (case ad_law_draw => k_is)
    (case ld_law_draw => k_is)
    (case cd_law_draw => k_is)
    (case kd_law_draw => k_is)
    (case ad_law_strip => k_is)
    (case ld_law_strip => k_is)
    (case cd_law_strip => k_is)
    (case kd_law_strip => k_is)
    (case ad_law_shape => k_is)
    (case ld_law_shape => k_is)
    (case cd_law_shape => k_is)
    (case kd_law_shape => k_is)
    (case ad_law_column => k_is)
    (case ld_law_column => k_is)
    (case cd_law_column => k_is)
    (case kd_law_column => k_is)
    (case ad_law_text => k_is)
    (case ld_law_text => k_is)
    (case cd_law_text => k_is)
    (case kd_law_text => k_is)
    (case ad_law_made => k_is)
    (case ld_law_made => k_is)
    (case cd_law_made => k_is)
    (case kd_law_made => k_is)
    (case ad_law_parts => k_is)
    (case ld_law_parts => k_is)
    (case cd_law_parts => k_is)
    (case kd_law_parts => k_is)
    (case ad_law_rewritten => k_is)
    (case ld_law_rewritten => k_is)
    (case cd_law_rewritten => k_is)
    (case kd_law_rewritten => k_is)
    (case ad_law_changed => k_is)
    (case ld_law_changed => k_is)
    (case cd_law_changed => k_is)
    (case kd_law_changed => k_is)
    (case ad_law_other => k_is)
    (case ld_law_other => k_is)
    (case cd_law_other => k_is)
    (case kd_law_other => k_is)
    (case ad_law_gaps => k_is)
    (case ld_law_gaps => k_is)
    (case cd_law_gaps => k_is)
    (case kd_law_gaps => k_is)
    (case ad_law_columns_hold => k_is)
    (case ld_law_columns_hold => k_is)
    (case cd_law_columns_hold => k_is)
    (case kd_law_columns_hold => k_is)
    (case ad_law_windows_hold => k_is)
    (case ld_law_windows_hold => k_is)
    (case cd_law_windows_hold => k_is)
    (case kd_law_windows_hold => k_is)
    (case ad_law_gaps_hold => k_is)
    (case ld_law_gaps_hold => k_is)
    (case cd_law_gaps_hold => k_is)
    (case kd_law_gaps_hold => k_is)
    (case ad_law_moves_hold => k_is)
    (case ld_law_moves_hold => k_is)
    (case cd_law_moves_hold => k_is)
    (case kd_law_moves_hold => k_is)
    (case ad_law_spoilt => k_is)
    (case ld_law_spoilt => k_is)
    (case cd_law_spoilt => k_is)
    (case kd_law_spoilt => k_is)
    (case ad_law_refusal => k_is)
    (case ld_law_refusal => k_is)
    (case cd_law_refusal => k_is)
    (case kd_law_refusal => k_is)
    (case ad_law_refusals_hold => k_is)
    (case ld_law_refusals_hold => k_is)
    (case cd_law_refusals_hold => k_is)
    (case kd_law_refusals_hold => k_is)
    (case ad_law_unlike => k_is)
    (case ld_law_unlike => k_is)
    (case cd_law_unlike => k_is)
    (case kd_law_unlike => k_is)
    (case ad_law_kinds_hold => k_is)
    (case ld_law_kinds_hold => k_is)
    (case cd_law_kinds_hold => k_is)
    (case kd_law_kinds_hold => k_is)
    (case ad_law => k_is)
    (case ld_law => k_is)
    (case cd_law => k_is)
    (case kd_law => k_is)
    (case i_hn => k_is)
    (case i_ht => k_is)
    (case nn_Scheme_rows => k_is)
    (case nn_Scheme_colours => k_is)
    (case nn_Scheme_columns => k_is)
    (case f_Scheme_MOST => k_is)
    (case s_Scheme_MOST => k_is)
    (case f_Scheme_BLANK => k_is)
    (case s_Scheme_BLANK => k_is)
    (case i_ha => k_is)
    (case i_hm => k_is)
    (case nf_Scheme_int => k_is)
    (case nf_Scheme_str => k_is)
    (case s_int_Scheme => k_is)
    (case s_str_Scheme => k_is)
    (case ne_Scheme => k_is)
    (case nn_Endless_scheme => k_is)
    (case nn_Endless_left => k_is)
    (case nn_Endless_middle => k_is)
    (case nn_Endless_right => k_is)
    (case nn_Endless_start => k_is)
    (case p_ha => k_is)
    (case p_hm => k_is)
    (case nf_Endless_int => k_is)
    (case nf_Endless_str => k_is)
    (case s_str_Endless => k_is)
    (case im_lcm => k_is)
    (case ss_0 => k_is)
    (case s_0_1 => k_is)
    (case ne_0_1 => first | rfl | decide)
    (case s_0_2 => k_is)
    (case ne_0_2 => first | rfl | decide)
    (case s_0_3 => k_is)
    (case ne_0_3 => first | rfl | decide)
    (case s_0_4 => k_is)
    (case ne_0_4 => first | rfl | decide)
    (case s_0_5 => k_is)
    (case ne_0_5 => first | rfl | decide)
    (case s_1_0 => k_is)
    (case ne_1_0 => first | rfl | decide)
    (case ss_1 => k_is)
    (case s_1_2 => k_is)
    (case ne_1_2 => first | rfl | decide)
    (case s_1_3 => k_is)
    (case ne_1_3 => first | rfl | decide)
    (case s_1_4 => k_is)
    (case ne_1_4 => first | rfl | decide)
    (case s_1_5 => k_is)
    (case ne_1_5 => first | rfl | decide)
    (case s_2_0 => k_is)
    (case ne_2_0 => first | rfl | decide)
    (case s_2_1 => k_is)
    (case ne_2_1 => first | rfl | decide)
    (case ss_2 => k_is)
    (case s_2_3 => k_is)
    (case ne_2_3 => first | rfl | decide)
    (case s_2_4 => k_is)
    (case ne_2_4 => first | rfl | decide)
    (case s_2_5 => k_is)
    (case ne_2_5 => first | rfl | decide)
    (case s_3_0 => k_is)
    (case ne_3_0 => first | rfl | decide)
    (case s_3_1 => k_is)
    (case ne_3_1 => first | rfl | decide)
    (case s_3_2 => k_is)
    (case ne_3_2 => first | rfl | decide)
    (case ss_3 => k_is)
    (case s_3_4 => k_is)
    (case ne_3_4 => first | rfl | decide)
    (case s_3_5 => k_is)
    (case ne_3_5 => first | rfl | decide)
    (case s_4_0 => k_is)
    (case ne_4_0 => first | rfl | decide)
    (case s_4_1 => k_is)
    (case ne_4_1 => first | rfl | decide)
    (case s_4_2 => k_is)
    (case ne_4_2 => first | rfl | decide)
    (case s_4_3 => k_is)
    (case ne_4_3 => first | rfl | decide)
    (case ss_4 => k_is)
    (case s_4_5 => k_is)
    (case ne_4_5 => first | rfl | decide)
    (case s_5_0 => k_is)
    (case ne_5_0 => first | rfl | decide)
    (case s_5_1 => k_is)
    (case ne_5_1 => first | rfl | decide)
    (case s_5_2 => k_is)
    (case ne_5_2 => first | rfl | decide)
    (case s_5_3 => k_is)
    (case ne_5_3 => first | rfl | decide)
    (case s_5_4 => k_is)
    (case ne_5_4 => first | rfl | decide)
    (case ss_5 => k_is)
    (case sv_0 => k_is)
    (case sv_1 => k_is)
    (case sv_2 => k_is)
    (case sv_3 => k_is)
    (case sv_4 => k_is)
    (case sv_5 => k_is)
    (case sg_0 => k_is)
    (case sg_1 => k_is)
    (case sg_2 => k_is)
    (case sg_3 => k_is)
    (case sg_4 => k_is)
    (case sg_5 => k_is)
    (case ne_g_0 => first | rfl | decide)
    (case ne_g_1 => first | rfl | decide)
    (case ne_g_2 => first | rfl | decide)
    (case ne_g_3 => first | rfl | decide)
    (case ne_g_4 => first | rfl | decide)
    (case ne_g_5 => first | rfl | decide)

