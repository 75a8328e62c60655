import PyProof.Rows.All
import Wide.All
import OpenK.AllK
import Wide.FinOn
import HandS.ForMost
import HandS.Exc
import HandS.TryOnly
import HandS.ExcOwn
import HandS.WordsExc
import HandS.ExcInit
import HandS.ExcField
import HandS.ExcIs
import HandS.HotCalls
import HandS.IsInst
import HandS.ClsMeth
import HandS.More
import KE.KExcIs
import HandS.StrMore
import HandS.Walk
import HandS.Codes
import KE.GoesEnumKw
import KE.GoesMore
import PyProof.ListStr
import KE.KCallOwn
import HandS.Star
import PyProof.CollectStr
import HandS.Strs
import KE.GoesZip
import HandS.Zip
import HandS.Small
import HandS.DictComp
import PyProof.Rows.StrCountLaw
import PyProof.StrBlock2
import HandS.Gcd
import KE.KOpsOwn
import OpenK.KMeth
import HandS.FStr
import KE.DataEq
import PySem.Challenge.RW_galloon_k17_masks
import PyProof.StrLawsFrom
import PyProof.Rows.StrMul
import PyProof.Rows.StrBetween
set_option Elab.async false
set_option linter.all false
set_option maxRecDepth 100000
section
set_option Elab.async false
set_option maxRecDepth 100000
set_option maxHeartbeats 4000000
namespace Kit
open PySem PySem.Spec PyProof.Rows L2
abbrev St := L2.St

/-! ### defs as they stand in the text, and what they promise -/
structure DefT (K : PySem.W.Frag) (mg : Str → Option Value) (x : Str) (st : Stmt) : Prop where
  ex : ∃ (f : Addr) (fd : FuncData), Fun K x x st f fd ∧ mg x = some (.ref f)
structure MetT (K : PySem.W.Frag) (C : Addr) (m q : Str) (st : Stmt) : Prop where
  ex : ∃ (f : Addr) (fd : FuncData), Fun K m q st f fd ∧ Meth K C m f
structure ClsT (K : PySem.W.Frag) (mg : Str → Option Value) (C : Addr) (x : Str) : Prop where
  cl : Cls K C
  gC : mg x = some (.ref C)
  mak : PySem.W.makesIn K C = true
  kp : PySem.W.keepIn K (.ref C) = true
section
variable (P : Program) (w : World) (K : PySem.W.Frag) (mg : Str → Option Value) (base : Heap)
structure Can (k : Nat) (x : Str) (sp : Sp) : Prop where
  ex : ∃ (f : Addr) (fd : FuncData) (ps : List Str), FnOk P w K mg base (L2.CX P w) k f fd ps sp ∧ mg x = some (.ref f) ∧ PySem.W.keepIn K (.ref f) = true ∧ Binds K fd ps []
structure CanM (k : Nat) (C : Addr) (m : Str) (sp : Sp) : Prop where
  ex : ∃ (f : Addr) (fd : FuncData) (ps : List Str), FnOk P w K mg base (L2.CX P w) k f fd ps sp ∧ Cls K C ∧ Meth K C m f ∧ Binds K fd ps []
structure CanN (k : Nat) (C : Addr) (x : Str) (sp : Sp) : Prop where
  ex : ∃ (f : Addr) (fd : FuncData) (ps : List Str), FnOk P w K mg base (L2.CX P w) k f fd ps sp ∧ Mk K C f ∧ mg x = some (.ref C) ∧ Binds K fd ps []
end
/-- how n plain parameters bind -/
def BindsPlain (st : Stmt) (x q : Str) (ps : List Str) : Prop := ∀ (kV doc pm : Value) (an : Option Addr) (cdv ct : Value) (us : List Value), us.length = ps.length →
  bindArgs (PySem.W.fnOf x q (defArgs st) (defBody st) (defScope st) .none kV doc pm an cdv ct) ⟨us, []⟩ = pure (ps.zip us)
section
variable {P : Program} {w : World} {K : PySem.W.Frag} {mg : Str → Option Value} {base : Heap}
theorem can_of {x : Str} {st : Stmt} {N ps : List Str} {k : Nat} {sp : Sp} (D : DefT K mg x st) (S : FnScope N ps (defScope st)) (hb : BindsPlain st x x ps) (len : ∀ vs H Q E, sp vs H Q E → vs.length = ps.length)
    (body : ∀ (f : Addr) (cdv : Value) (A : Around) (outer : List Env) (s : Shared) (H : Hp) (vs : List V) (Q : VK) (E : XK), Room k (A.deeper (envOfC x (defScope st) s.heap.objs.size f cdv)) → sp vs H Q E →
      ∃ t, PSs (cxOf (L2.CX P w) P w K mg base N x (defScope st) f cdv A outer s H E) (defBody st) t ∧ t { nx := fun _ H' => Q .non H', rt := Q } (start N vs) H) : Can P w K mg base (k + 1) x sp := by
  obtain ⟨f, fd, F, g⟩ := D.ex
  exact ⟨f, fd, ps, F.okX S len (body f), g, F.kp, F.binds hb⟩
theorem canM_of {m q : Str} {C : Addr} {st : Stmt} {N ps : List Str} {k : Nat} {sp : Sp} (c : Cls K C) (D : MetT K C m q st) (S : FnScope N ps (defScope st)) (hb : BindsPlain st m q ps) (len : ∀ vs H Q E, sp vs H Q E → vs.length = ps.length)
    (body : ∀ (f : Addr) (cdv : Value) (A : Around) (outer : List Env) (s : Shared) (H : Hp) (vs : List V) (Q : VK) (E : XK), Room k (A.deeper (envOfC q (defScope st) s.heap.objs.size f cdv)) → sp vs H Q E →
      ∃ t, PSs (cxOf (L2.CX P w) P w K mg base N q (defScope st) f cdv A outer s H E) (defBody st) t ∧ t { nx := fun _ H' => Q .non H', rt := Q } (start N vs) H) : CanM P w K mg base (k + 1) C m sp := by
  obtain ⟨f, fd, F, g⟩ := D.ex
  exact ⟨f, fd, ps, F.okX S len (body f), c, g, F.binds hb⟩
theorem canN_of {x q : Str} {C : Addr} {st : Stmt} {N ps : List Str} {k : Nat} {sp : Sp} (c : ClsT K mg C x) (D : MetT K C "__init__" q st) (S : FnScope N ps (defScope st)) (hb : BindsPlain st "__init__" q ps) (len : ∀ vs H Q E, sp vs H Q E → vs.length = ps.length)
    (body : ∀ (f : Addr) (cdv : Value) (A : Around) (outer : List Env) (s : Shared) (H : Hp) (vs : List V) (Q : VK) (E : XK), Room k (A.deeper (envOfC q (defScope st) s.heap.objs.size f cdv)) → sp vs H Q E →
      ∃ t, PSs (cxOf (L2.CX P w) P w K mg base N q (defScope st) f cdv A outer s H E) (defBody st) t ∧ t { nx := fun _ H' => Q .non H', rt := Q } (start N vs) H) : CanN P w K mg base (k + 1) C x sp := by
  obtain ⟨f, fd, F, g⟩ := D.ex
  exact ⟨f, fd, ps, F.okX S len (body f), ⟨c.mak, g.at_, g.fn, c.kp⟩, c.gC, F.binds hb⟩
end

/-! ### calls: E0 where nothing is raised; a wish at the slots where something may be -/
section
variable {X : Cx} {k j : Nat} {C : Addr} {x m : Str} {sp : Sp} {W : WX} {p pos apos : Pos} {e o : Expr} {es : List Expr} {ta : TE} {t : TA}
theorem pc_f (c : Can X.prog X.w X.K X.mg X.base k x sp) (hr : Room j X.A) (hk : k ≤ j) (hg : Gl X x) (ha : PA X (e :: es) t)
    (hdb : (x == ("__debug__" : Str)) = false := by decide) (he : starEach (e :: es) X.env = (false, eval e X.env) :: starEach es X.env := by rfl) (hpl : (backTo pos (starEach es X.env)).any (·.1) = false := by rfl) :
    PE X (.Call (.Name x p) (e :: es) [] pos) (tCall sp [] E0 t) := by
  obtain ⟨f, fd, ps, F, hm, kp, b⟩ := c.ex
  exact pe_call F (hr.mono hk) hg hm kp b .nil passL ha hdb he hpl
theorem pc_f0 (c : Can X.prog X.w X.K X.mg X.base k x sp) (hr : Room j X.A) (hk : k ≤ j) (hg : Gl X x)
    (hdb : (x == ("__debug__" : Str)) = false := by decide) : PE X (.Call (.Name x p) [] [] pos) (tCall sp [] E0 tNil) := by
  obtain ⟨f, fd, ps, F, hm, kp, b⟩ := c.ex
  exact pe_call0 F (hr.mono hk) hg hm kp b .nil passL hdb
theorem pc_fS (c : Can X.prog X.w X.K X.mg X.base k x sp) (tk : Takes X W) (hr : Room j X.A) (hk : k ≤ j) (hg : Gl X x) (ha : PA X (e :: es) t)
    (hdb : (x == ("__debug__" : Str)) = false := by decide) (he : starEach (e :: es) X.env = (false, eval e X.env) :: starEach es X.env := by rfl) (hpl : (backTo pos (starEach es X.env)).any (·.1) = false := by rfl) :
    PE X (.Call (.Name x p) (e :: es) [] pos) (tCallS sp (WE W) t) := by
  obtain ⟨f, fd, ps, F, hm, kp, b⟩ := c.ex
  exact pe_callS F (hr.mono hk) hg hm kp b (passAt tk) ha hdb he hpl
theorem pc_m {pl : Sem Bool} (c : CanM X.prog X.w X.K X.mg X.base k C m sp) (hr : Room j X.A) (hk : k ≤ j) (he : PE X o ta) (ha : PA X (e :: es) t)
    (hst : starEach (e :: es) X.env = (false, eval e X.env) :: starEach es X.env := by rfl) (hpl : (backTo pos (starEach es X.env)).any (·.1) = false := by rfl)
    (ht : eval (.Call (.Attribute o m apos) (e :: es) [] pos) X.env = (do
      let v ← eval o X.env
      standAt apos.atName
      let (f, first) ← holding [v] (getMethod v m pl)
      callWith pos f first (backTo pos (starEach (e :: es) X.env)) (backToKw pos (keywordEach [] X.env))) := by rfl) :
    PE X (.Call (.Attribute o m apos) (e :: es) [] pos) (tMeth C m sp [] E0 ta t) := by
  obtain ⟨f, fd, ps, F, hc, hm, b⟩ := c.ex
  exact pe_meth (pl := pl) he hc hm F (hr.mono hk) b .nil passL ha hst hpl ht
/-- o.m(e, ..) that may raise, the wish at the slots -/
def tMethS (C : Addr) (m : Str) (sp : Sp) (W : WX) (ta : TE) (t : TA) : TE := fun σ H Q => ta σ H fun y G => ∃ a dx fs, y = .ref a ∧ G a = some (.ins C dx fs) ∧ fs.lookup m = none ∧ t σ G fun vs G' => sp (y :: vs) G' Q (WE W σ)
theorem pc_mS {pl : Sem Bool} (c : CanM X.prog X.w X.K X.mg X.base k C m sp) (tk : Takes X W) (hr : Room j X.A) (hk : k ≤ j) (he : PE X o ta) (ha : PA X (e :: es) t)
    (hst : starEach (e :: es) X.env = (false, eval e X.env) :: starEach es X.env := by rfl) (hpl : (backTo pos (starEach es X.env)).any (·.1) = false := by rfl)
    (ht : eval (.Call (.Attribute o m apos) (e :: es) [] pos) X.env = (do
      let v ← eval o X.env
      standAt apos.atName
      let (f, first) ← holding [v] (getMethod v m pl)
      callWith pos f first (backTo pos (starEach (e :: es) X.env)) (backToKw pos (keywordEach [] X.env))) := by rfl) :
    PE X (.Call (.Attribute o m apos) (e :: es) [] pos) (tMethS C m sp W ta t) := by
  obtain ⟨f, fd, ps, F, hc, hm, b⟩ := c.ex
  constructor
  intro pins s σ H Q I h
  refine PySem.W.methodCall_KW (pl := pl) (thn (he.run pins s σ H _ I h) ?_) ht
  rintro u s1 ⟨y, G, I1, ry, a, dx, fs, rfl, ga, l, q⟩
  cases ry
  refine getmeth_ok I1 ga hc hm l ?_
  refine PySem.W.callWith_K (first := [.ref a]) (h₀ := X.base) I.ok.mod.kin hm.kp (thn (ha.run pos pins s1 σ G _ I1 q) ?_) hst hpl
  rintro us s2 ⟨vs, G', I2, r, q2⟩
  exact ⟨I2.kIn, run_fnS (us := .ref a :: us) (vs := .ref a :: vs) F (hr.mono hk) b (passAt tk σ) I2 (.cons rfl r) q2⟩
theorem pc_n (c : CanN X.prog X.w X.K X.mg X.base k C x sp) (hr : Room j X.A) (hk : k + 1 ≤ j) (hg : Gl X x) (ha : PA X (e :: es) t)
    (hdb : (x == ("__debug__" : Str)) = false := by decide) (he : starEach (e :: es) X.env = (false, eval e X.env) :: starEach es X.env := by rfl) (hpl : (backTo pos (starEach es X.env)).any (·.1) = false := by rfl) :
    PE X (.Call (.Name x p) (e :: es) [] pos) (tMake C sp [] E0 t) := by
  obtain ⟨f, fd, ps, F, M, hm, b⟩ := c.ex
  exact pe_make M F (hr.mono hk) hg hm b .nil passL ha hdb he hpl
def tMakeS (C : Addr) (sp : Sp) (W : WX) (t : TA) : TE := fun σ H Q => t σ H fun vs G => ∀ y dx, G y = none → G dx = none → dx ≠ y →
  sp (.ref y :: vs) (upd (upd G dx (.own y)) y (.ins C dx [])) (fun v G' => v = .non ∧ Q (.ref y) G') (WE W σ)
end
end Kit

end
section
set_option Elab.async false
set_option maxRecDepth 100000
set_option maxHeartbeats 4000000
namespace Kit
open PySem PySem.Spec PyProof.Rows L2

/-! ### a class made, whose __init__ may raise -/
section
variable {X : Cx} {k j : Nat} {C : Addr} {x : Str} {sp : Sp} {W : WX} {p pos : Pos} {e : Expr} {es : List Expr} {t : TA}
theorem pc_nS (c : CanN X.prog X.w X.K X.mg X.base k C x sp) (tk : Takes X W) (hr : Room j X.A) (hk : k + 1 ≤ j) (hg : Gl X x) (ha : PA X (e :: es) t)
    (hdb : (x == ("__debug__" : Str)) = false := by decide) (he : starEach (e :: es) X.env = (false, eval e X.env) :: starEach es X.env := by rfl) (hpl : (backTo pos (starEach es X.env)).any (·.1) = false := by rfl) :
    PE X (.Call (.Name x p) (e :: es) [] pos) (tMakeS C sp W t) := by
  obtain ⟨f, fd, ps, F, M, hm, b⟩ := c.ex
  have hr := hr.mono hk
  constructor
  intro pins s σ H Q I h
  refine wpAny_Call_Name_kw (ld_glob I hg hm ?_ hdb)
  refine PySem.W.callWith_K (h₀ := X.base) I.ok.mod.kin M.kp (thn (ha.run pos pins s σ H _ I h) ?_) he hpl
  rintro us s1 ⟨vs, G, I1, r, q⟩
  refine ⟨I1.kIn, ?_⟩
  have hq := q (s1.heap.objs.size + 1) s1.heap.objs.size (I1.hok.fresh (Nat.le_succ _)) (I1.hok.fresh (Nat.le_refl _)) (Nat.ne_of_lt (Nat.lt_succ_self _))
  have J := Inv.made (C := C) I1
  have r2 : Vals (V.ref (s1.heap.objs.size + 1) :: vs) (Value.ref (s1.heap.objs.size + 1) :: us) := .cons rfl r
  have hl : (Value.ref (s1.heap.objs.size + 1) :: us ++ []).length = ps.length := by
    have z := r2.length
    rw [F.len _ _ _ _ hq] at z
    rw [List.append_nil]
    exact z.symm
  have bb := b _ (Value.ref (s1.heap.objs.size + 1) :: us) J.kIn hl
  rw [List.append_nil] at bb
  refine wpAny_call (make_map (f := f) I1.kIn M.makes M.init (beq_iff_eq.mp M.fn) (codeAny_mono (F.run _ X.stack _ _ ⟨Value.ref (s1.heap.objs.size + 1) :: us, []⟩ (Value.ref (s1.heap.objs.size + 1) :: us) _ _ (WE W σ) (hr.make C us []) (J.env0.make C us []) bb r2 hq) ?_))
  intro r s' z
  cases r with
  | error er => exact passAt tk σ pins _ _ er s' J z
  | ok fl =>
    cases fl with
    | ret u =>
      obtain ⟨v, H', I3, rv, ev, q3⟩ := J.after z
      subst ev
      exact ⟨rv, V.ref (s1.heap.objs.size + 1), H', I3, rfl, q3⟩
    | next => exact z.elim
    | brk => exact z.elim
    | cont => exact z.elim
end

/-! ### own errors with one field -/
structure ErrT (K : PySem.W.Frag) (mg : Str → Option Value) (C : Addr) (x q fld : Str) (st : Stmt) : Prop where
  gC : mg x = some (.ref C)
  oex : OexC K C
  noF : PySem.W.findIn K (.ref C) fld = some none
  ini : ∃ (f : Addr) (fd : FuncData), Fun K "__init__" q st f fd ∧ PySem.W.findIn K (.ref C) "__init__" = some (some (.ref f)) ∧ PySem.W.typeIn K (.ref f) = some (.type "function")
/-- what isinstance and the reading of a field ask of an error's class -/
structure ErrC (K : PySem.W.Frag) (C : Addr) : Prop where
  xf : XfC K C
  ha : PySem.W.findIn K (.ref C) "__class__" = some (some (.builtin "object.__class__"))
  hn : PySem.W.specialIn K (.builtin "object.__class__") "__get__" = some (some (.builtin "getset_descriptor.__get__"))
  ht : PySem.W.takesIn K (.builtin "object.__class__") = some true
  hm : PySem.W.mroIn K C (.type "object") = some true
  hc : (PySem.W.clsIn K C).isSome = true
def spErr (C : Addr) (fld : Str) : Sp := fun vs H Q _ => ∃ (a : Addr) (y : V), vs = [.ref a, y] ∧ H a = some (exo a C none) ∧ ∀ dx, H dx = none → dx ≠ a → Q .non (upd (upd H dx (exd dx [(fld, y)])) a (exo a C (some dx)))
section
variable (P : Program) (w : World) (K : PySem.W.Frag) (mg : Str → Option Value) (base : Heap)
structure CanE (C : Addr) (x fld : Str) : Prop where
  gC : mg x = some (.ref C)
  oex : OexC K C
  ex : ∃ (f : Addr) (fd : FuncData) (ps : List Str), FnOk P w K mg base (L2.CX P w) 1 f fd ps (spErr C fld) ∧ PySem.W.findIn K (.ref C) "__init__" = some (some (.ref f)) ∧ PySem.W.typeIn K (.ref f) = some (.type "function") ∧ Binds K fd ps []
end
section
variable {P : Program} {w : World} {K : PySem.W.Frag} {mg : Str → Option Value} {base : Heap}
theorem canE_of {C : Addr} {x q fld : Str} {st : Stmt} {N ps : List Str} (D : ErrT K mg C x q fld st) (S : FnScope N ps (defScope st)) (hb : BindsPlain st "__init__" q ps) (hl : ps.length = 2)
    (body : ∀ (f : Addr) (cdv : Value) (A : Around) (outer : List Env) (s : Shared) (H : Hp) (E : XK),
      PSs (cxOf (L2.CX P w) P w K mg base N q (defScope st) f cdv A outer s H E) (defBody st) (tOst K fld (tVar 0) (tVar 1))) (hN : N.length = 2) : CanE P w K mg base C x fld := by
  obtain ⟨f, fd, F, g, ty⟩ := D.ini
  refine ⟨D.gC, D.oex, f, fd, ps, F.okX S (fun vs H Q E h => ?_) (fun cdv A outer s H vs Q E _ h => ?_), g, ty, F.binds hb⟩
  · obtain ⟨a, y, rfl, _⟩ := h
    rw [hl]
    rfl
  · obtain ⟨a, y, rfl, ha, z⟩ := h
    refine ⟨_, body f cdv A outer s H E, ?_⟩
    match N, hN with
    | [n0, n1], _ => exact ⟨y, rfl, .ref a, rfl, a, C, rfl, D.oex, D.noF, .inl ⟨ha, fun dx n ne => z dx n ne⟩⟩
end
section
variable {X : Cx} {C : Addr} {x fld : Str} {W : WX} {p pos pos2 : Pos} {e : Expr} {te : TE} {j : Nat}
/-- raise X(e) -/
theorem pr_err (c : CanE X.prog X.w X.K X.mg X.base C x fld) (tk : Takes X W) (hcalm : X.calm = true) (hr : Room j X.A) (hk : 2 ≤ j) (hg : Gl X x) (ha : PE X e te)
    (he : starEach [e] X.env = (false, eval e X.env) :: starEach [] X.env := by rfl) (hpl : (backTo pos (starEach [] X.env)).any (·.1) = false := by rfl) (hdb : (x == ("__debug__" : Str)) = false := by decide) :
    PS X (.Raise (some (.Call (.Name x p) [e] [] pos)) none pos2) (fun _ σ H => tMkO C (spErr C fld) [] (tCons te tNil) σ H fun cls d H' => W cls d σ H') := by
  obtain ⟨f, fd, ps, F, g, ty, b⟩ := c.ex
  exact L2.ps_raise hcalm tk (pmk_oex c.oex g ty F (hr.mono hk) b .nil passL hg c.gC (pa_cons ha pa_nil (hs := he)) hdb he hpl)
/-- the reading behind the value of e -/
theorem mkE {H : Hp} {y : V} {Q : XK} (h : ∀ d, H d = none → Q (.ref C) (some d) (upd H d (.xd [(fld, y)]))) : [y].length ≤ 1000 ∧ ∀ a, H a = none → spErr C fld (.ref a :: ([y] ++ [])) (upd H a (exo a C none))
    (fun v G => v = .non ∧ ∃ (d : Addr) (fs : List (Str × V)), G a = some (exo a C (some d)) ∧ G d = some (exd d fs) ∧ H d = none ∧ Q (.ref C) (some d) (upd (L2.del G a) d (.xd fs))) (fun _ _ _ => False) := by
  refine ⟨by show 1 ≤ 1000; decide, fun a na => ⟨a, y, rfl, upd_same, fun dx n ne => ⟨rfl, dx, [(fld, y)], upd_same, ?_, ?_, ?_⟩⟩⟩
  · rw [upd_ne ne, upd_same]
  · rw [upd_ne ne] at n
    exact n
  · rw [upd_ne ne] at n
    have z : upd (L2.del (upd (upd (upd H a (exo a C none)) dx (exd dx [(fld, y)])) a (exo a C (some dx))) a) dx (.xd [(fld, y)]) = upd H dx (.xd [(fld, y)]) := by
      funext b
      by_cases hb : b = dx
      · rw [hb, upd_same, upd_same]
      · rw [upd_ne hb, upd_ne hb]
        by_cases hc : b = a
        · rw [hc, L2.del_same, na]
        · rw [L2.del_ne hc, upd_ne hc, upd_ne hb, upd_ne hc]
    rw [z]
    exact h dx n
end

/-! ### a def called in an except suite, the caught error handed to it -/
abbrev SpE := Addr → Value → Option Addr → Sp
structure FnE (P : Program) (w : World) (K : PySem.W.Frag) (mg : Str → Option Value) (base : Heap) (k : Nat) (f : Addr) (fd : FuncData) (ps : List Str) (sp : SpE) : Prop where
  len : ∀ a cls d vs H Q E, sp a cls d vs H Q E → vs.length = ps.length
  run : ∀ (A : Around) (outer : List Env) (s : Shared) (H : Hp) (args : Args) (us : List Value) (vs : List V) (Q : VK) (E : XK) (p : Addr × Obj) (cls : Value) (d : Option Addr), L2H.RoomH k A → L2H.PinOk outer H s p → Zc cls d p.2 → (∃ z, p.2.data = .fields z) →
    Env0 P w K mg base A outer s H → BindsTo s fd args (ps.zip us) → Vals vs us → sp p.1 cls d vs H Q E → codeAny (model P w) A (.call (.ref f) args) (CR (L2.CX P w) outer P w H s Q E) s
abbrev cxE (P : Program) (w : World) (K : PySem.W.Frag) (mg : Str → Option Value) (base : Heap) (N : List Str) (x : Str) (st : Stmt) (f : Addr) (cdv : Value) (A : Around) (outer : List Env) (s : Shared) (H : Hp) (E : XK) (p : Addr × Obj) : Cx :=
  L2H.cxH (L2.CX P w) P w K mg base N x (defScope st) f cdv A outer s H E p
structure CanS (P : Program) (w : World) (K : PySem.W.Frag) (mg : Str → Option Value) (base : Heap) (k : Nat) (x : Str) (sp : SpE) : Prop where
  ex : ∃ (f : Addr) (fd : FuncData) (ps : List Str), FnE P w K mg base k f fd ps sp ∧ mg x = some (.ref f) ∧ PySem.W.keepIn K (.ref f) = true ∧ Binds K fd ps []
section
variable {P : Program} {w : World} {K : PySem.W.Frag} {mg : Str → Option Value} {base : Heap}
theorem canS_of {x : Str} {st : Stmt} {N ps : List Str} {k : Nat} {sp : SpE} (D : DefT K mg x st) (S : FnScope N ps (defScope st)) (hb : BindsPlain st x x ps) (len : ∀ a cls d vs H Q E, sp a cls d vs H Q E → vs.length = ps.length)
    (body : ∀ (f : Addr) (cdv : Value) (A : Around) (outer : List Env) (s : Shared) (H : Hp) (vs : List V) (Q : VK) (E : XK) (p : Addr × Obj) (cls : Value) (d : Option Addr), L2H.RoomH k (A.deeper (envOfC x (defScope st) s.heap.objs.size f cdv)) → Zc cls d p.2 → (∃ z, p.2.data = .fields z) → sp p.1 cls d vs H Q E →
      ∃ t, PSs (cxE P w K mg base N x st f cdv A outer s H E p) (defBody st) t ∧ t { nx := fun _ H' => Q .non H', rt := Q } (start N vs) H) : CanS P w K mg base (k + 1) x sp := by
  obtain ⟨f, fd, F, g⟩ := D.ex
  refine ⟨f, fd, ps, ⟨len, ?_⟩, g, F.kp, F.binds hb⟩
  obtain ⟨oc, od, kV, doc, pm, an, cdv, ct, osl, rfl, lk, hcd⟩ := F.ex
  intro A outer s H args us vs Q E p cls d hr hpin hz hf e0 hbt r hsp
  have hl := len _ _ _ _ _ _ _ hsp
  have KX : K.In s.heap := e0.mod.kin.keeps fun b o e => (e0.bs b o e).1
  have lim : s.heap.NoLimit := e0.mod.nolimit.keeps fun b o e => (e0.bs b o e).1
  have hkind : ∀ y ∈ ps.zip us, (defScope st).names.lookup y.1 = some .local ∨ ((defScope st).names.lookup y.1 = some .cell ∧ ((cellsFrom (s.heap.objs.size + 1) (defScope st).names []).lookup y.1).isSome = true) := by
    rintro ⟨n, v⟩ hy
    rcases S.par n (List.of_mem_zip hy).1 with q | q
    · exact .inl q
    · exact .inr ⟨q, PySem.W.cellsFrom_some _ _ _ (.inl q)⟩
  refine codeAny_call_function hr.depth (KX _ _ lk) rfl S.co S.gen rfl (PySem.W.codeRec_of KX hcd) (hbt _ _ _ _ ?_)
  refine wpAny_newFunctionEnv_cells S.kind hkind ?_
  intro env he s1 y
  subst he
  refine ⟨lim.keeps y.toInCall.keep, codeAny_func ?_⟩
  obtain ⟨t, ht, hq⟩ := body f cdv A outer s H vs Q E p cls d (hr.deeper _) hz hf hsp
  have I : Inv (cxE P w K mg base N x st f cdv A outer s H E p) [] (start N vs) H s1 := L2H.inv_startH S hpin e0 hl r y
  refine wpAny_mono (ht.run [] s1 (start N vs) H _ I hq) ?_ fun e s' hs => hs
  intro fl s' hs
  cases fl with
  | ret u =>
    obtain ⟨v, σ', H', J, rv, q⟩ := hs
    exact ⟨v, H', J.os, J.bare, J.base, J.hok, rv, q⟩
  | next =>
    obtain ⟨σ', H', J, q⟩ := hs
    exact ⟨V.non, H', J.os, J.bare, J.base, J.hok, rfl, q⟩
  | brk =>
    obtain ⟨_, _, _, q⟩ := hs
    exact q.elim
  | cont =>
    obtain ⟨_, _, _, q⟩ := hs
    exact q.elim
end
/-- f(e, ..) in a suite that holds the error at a -/
def tCallE (sp : SpE) (a : Addr) (cls : Value) (d : Option Addr) (t : TA) : TE := fun σ H Q => t σ H fun vs G => sp a cls d vs G Q E0
section
variable {X : Cx} {k j : Nat} {x : Str} {sp : SpE} {a : Addr} {oe : Obj} {pn : List (Addr × Obj)} {cls : Value} {d : Option Addr} {p pos : Pos} {e : Expr} {es : List Expr} {t : TA}
theorem pc_E (c : CanS X.prog X.w X.K X.mg X.base k x sp) (hz : Zc cls d oe) (hf : ∃ z, oe.data = .fields z) (hr : Room j X.A) (hk : k ≤ j) (hg : Gl X x) (ha : PA (X.suite a ((a, oe) :: pn)) (e :: es) t)
    (hdb : (x == ("__debug__" : Str)) = false := by decide) (he : starEach (e :: es) X.env = (false, eval e X.env) :: starEach es X.env := by rfl) (hpl : (backTo pos (starEach es X.env)).any (·.1) = false := by rfl) :
    PE (X.suite a ((a, oe) :: pn)) (.Call (.Name x p) (e :: es) [] pos) (tCallE sp a cls d t) := by
  obtain ⟨f, fd, ps, F, hm, kp, hb⟩ := c.ex
  constructor
  intro pins s σ H Q I h
  refine wpAny_Call_Name_kw (ld_glob I hg hm ?_ hdb)
  refine PySem.W.callWith_K (h₀ := X.base) I.ok.mod.kin kp (thn (ha.run pos pins s σ H _ I h) ?_) he hpl
  rintro us s1 ⟨vs, G, I1, r, q⟩
  refine ⟨I1.kIn, ?_⟩
  have hl : us.length = ps.length := by
    rw [← r.length]
    exact F.len _ _ _ _ _ _ _ q
  have b := hb s1 us I1.kIn (by rw [List.append_nil]; exact hl)
  rw [List.append_nil] at b
  have P1 := I1.pin (a, oe) (List.mem_append_left _ List.mem_cons_self)
  have hpin : L2H.PinOk (X.suite a ((a, oe) :: pn)).stack G s1 (a, oe) := ⟨P1.1, P1.2.1, fun hm => (List.mem_cons.mp (I1.stkSub a hm)).elim P1.2.2.1 P1.2.2.2.1, P1.2.2.2.2⟩
  refine wpAny_call (codeAny_mono (F.run _ _ s1 G ⟨us, []⟩ us vs Q E0 (a, oe) cls d ?_ hpin hz hf I1.env0 b r q) ?_)
  · exact ⟨(hr.mono hk).dp, (hr.mono hk).un⟩
  · intro z s' hq
    cases z with
    | error er =>
      obtain ⟨_, _, _, _, _, _, _, _, _, _, _, _, y⟩ := hq
      exact y.elim
    | ok fl =>
      cases fl with
      | ret u => exact I1.after hq
      | next => exact hq.elim
      | brk => exact hq.elim
      | cont => exact hq.elim
end
/-! ### what such a def asks of the error: isinstance, a field -/
/-- the error's own dict, where it has one, is tracked -/
def XdOk (d : Option Addr) (H : Hp) : Prop := ∀ dd, d = some dd → ∃ fs, H dd = some (.xd fs)
section
variable {X : Cx} {a : Addr} {oe : Obj} {cls : Value} {d : Option Addr} {e : Expr} {te : TE} {fld : Str} {pos : Pos}
theorem pin_at (hp : (a, oe) ∈ X.pn) (hz : Zc cls d oe) (hf : ∃ z, oe.data = .fields z) {pins : List (Addr × Obj)} {σ : St} {H : Hp} {s : Shared} (I : Inv X pins σ H s) (hd : XdOk d H) {D : Addr} (hD : cls = .ref D) : ∃ od, PySem.W.InstAt s.heap a oe D od := by
  obtain ⟨hget, _⟩ := I.pin (a, oe) (List.mem_append_left _ hp)
  obtain ⟨vs, hv⟩ := hf
  subst hD
  cases hd0 : d with
  | none => exact ⟨none, hget, hz.1, by unfold PySem.W.notCls; rw [hv] <;> rfl, by rw [hz.2, hd0] <;> trivial⟩
  | some dd =>
    obtain ⟨fs, hfs⟩ := hd dd hd0
    have z : ObjOk X.prog X.w H s.heap dd (.xd fs) := I.hok dd _ hfs
    obtain ⟨mA, ⟨od, es, ep, ho, _⟩, _⟩ := z
    exact ⟨some od, hget, hz.1, by unfold PySem.W.notCls; rw [hv] <;> rfl, by rw [hz.2, hd0]; exact ho⟩
/-- isinstance(e, c), e the pinned error at a -/
def rIsP (K : PySem.W.Frag) (a : Addr) (cls : Value) (d : Option Addr) : List V → Hp → VK → Prop := fun xs H Q => ∃ (D : Addr) (c : V) (cv : Value) (b : Bool), cls = .ref D ∧ ErrC K D ∧ XdOk d H ∧ xs = [.ref a, c] ∧ (∀ u, RelV c u → u = cv) ∧ PySem.W.kitOne K (.ref D) cv = some b ∧ Q (.bl b) H
theorem call_isP (hp : (a, oe) ∈ X.pn) (hz : Zc cls d oe) (hf : ∃ z, oe.data = .fields z) : CallR X (.builtin "isinstance") (rIsP X.K a cls d) := by
  intro pins s σ H xs us Q I r h
  obtain ⟨D, c, cv, b, hD, C, hdd, rfl, hcv, e, q⟩ := h
  cases r with
  | cons rx rr =>
    cases rr with
    | cons rt rr =>
      cases rr
      cases rx
      have ec := hcv _ rt
      subst ec
      obtain ⟨od, J⟩ := pin_at hp hz hf I hdd hD
      exact PySem.W.kia_one (PySem.W.kitx_exc C.hc C.xf.ga C.xf.gg C.xf.exC C.ha C.hn C.ht C.hm) I.kIn J e (fun z => nomatch z) fun tk => ⟨.bl b, H, I.kept (t' := tk) fun _ _ z => z, rfl, q⟩
/-- e.fld, e the pinned error at a -/
def tXP (K : PySem.W.Frag) (a : Addr) (cls : Value) (d : Option Addr) (fld : Str) (te : TE) : TE := fun σ H Q => te σ H fun x G => ∃ (D dd : Addr) (fs : List (Str × V)) (v : V), x = .ref a ∧ cls = .ref D ∧ XfC K D ∧ PySem.W.findIn K (.ref D) fld = some none ∧ d = some dd ∧ G dd = some (.xd fs) ∧ fs.lookup fld = some v ∧ Q v G
theorem pe_xp (hp : (a, oe) ∈ X.pn) (hz : Zc cls d oe) (hf : ∃ z, oe.data = .fields z) (he : PE X e te) (hb : attributeBase e fld X.env (eval e X.env) = eval e X.env := by rfl) : PE X (.Attribute e fld pos) (tXP X.K a cls d fld te) := by
  constructor
  intro pins s σ H Q I h
  refine attr_of hb (thn (he.run pins s σ H _ I h) ?_)
  rintro u s1 ⟨x, G, I1, rx, D, dd, fs, v, rfl, hD, T, hno, ed, ea, l, q⟩
  cases rx
  subst ed
  obtain ⟨hget, _⟩ := I1.pin (a, oe) (List.mem_append_left _ hp)
  obtain ⟨vs, hv⟩ := hf
  have hx : ObjOk X.prog X.w G s1.heap dd (.xd fs) := I1.hok dd _ ea
  obtain ⟨mA, hns, hrel⟩ := hx
  obtain ⟨od, ho, hl⟩ := lookIn_ns hns
  obtain ⟨u, hu, ru⟩ := RelO.some_of (v := v) (o := mA fld) (by rw [← l]; exact hrel fld)
  have J : PySem.W.InstAt s1.heap a oe D (some od) := ⟨hget, hz.1.trans hD, by unfold PySem.W.notCls; rw [hv] <;> rfl, by rw [hz.2]; exact ho⟩
  exact HandSPX.exc_get I1.kIn J T.ga T.gg T.exC (PySem.W.findObj_own T.hdC hno rfl (by rw [hl, hu])) (handed_of ru) ⟨v, G, I1.tok _, ru, q⟩
/-- list.count of flat items -/
def rCntF (K : PySem.W.Frag) : V → List V → Hp → VK → Prop := fun x xs H Q => ∃ (p : Addr) (ys : List V) (y : V), x = .ref p ∧ xs = [y] ∧ SqL K H p ys ∧ flatV y = true ∧ ys.all flatV = true ∧ Q (.int (ys.countP fun z => eqV z y : Nat)) H
theorem countU {y : V} : ∀ {ys : List V} {us : List Value}, Vals ys us → ys.all flatV = true → us.countP (eqU y) = ys.countP fun z => eqV z y
  | _, _, .nil, _ => rfl
  | z :: zs, u :: us, .cons r t, f => by
    rw [List.all_cons, Bool.and_eq_true] at f
    rw [List.countP_cons, List.countP_cons, countU t f.2, eqU_of r f.1]
theorem mt_countF : MtR X "list.count" (rCntF X.K) := by
  intro pins s σ H x xs v us Q I rx rxs h
  obtain ⟨p, ys, y, rfl, rfl, hs, fy, fys, q⟩ := h
  cases rx
  cases rxs with
  | cons ry rt =>
    rename_i uy ut
    cases rt
    obtain ⟨its, rv, ⟨⟨cls, dd, data, sl⟩, n, ho, hc, hdn, hd⟩, hlen⟩ := I.list hs
    simp only at hc hd
    subst hc hd
    refine call_meets PySem.F.slot_list_count ⟨_, ho, rfl⟩ PySem.F.entry_list_count (PySem.F.args_list_count_2 _ _)
      (SeqAt.list_countAt p its.toArray n dd sl uy (eqU y)) ⟨ho, fun u hu => mem_eqAt ry fy rv fys u (by simpa using hu), ?_⟩
    have ec : its.toArray.toList.countP (eqU y) = ys.countP fun z => eqV z y := countU rv fys
    refine ⟨.int (ys.countP fun z => eqV z y : Nat), H, I.tok _, ⟨s.toks, ?_⟩, q⟩
    show Value.int ((its.toArray.toList.countP (eqU y) : Nat) : Int) s.toks = _
    rw [ec]
end
end Kit

end
section
set_option Elab.async false
set_option maxRecDepth 100000
set_option maxHeartbeats 4000000
namespace Kit
open PySem PySem.Spec PyProof.Rows L2

/-! ### texts as lists of codes -/
def S (l : List Nat) : Str := ⟨l.toArray⟩
abbrev tx (l : List Nat) : V := .str (S l)
theorem S_len (l : List Nat) : (S l).length = l.length := by
  show l.toArray.size = l.length
  exact List.size_toArray
theorem S_cps (l : List Nat) : (S l).cps.toList = l := rfl
theorem S_app (l m : List Nat) : S l ++ S m = S (l ++ m) := by
  show (⟨l.toArray ++ m.toArray⟩ : Str) = ⟨(l ++ m).toArray⟩
  rw [List.append_toArray]
theorem S_inj {l m : List Nat} (h : S l = S m) : l = m := by
  have z := congrArg (fun s => s.cps.toList) h
  exact z
theorem S_eq {l m : List Nat} : S l = S m ↔ l = m := ⟨S_inj, fun h => by rw [h]⟩
theorem S_of (s : Str) : ∃ l, s = S l := ⟨s.cps.toList, by cases s; rfl⟩
theorem S_one (c : Nat) : (⟨#[c]⟩ : Str) = S [c] := rfl
theorem cut_S (l : List Nat) (lo hi : Option Int) : cutS (S l) lo hi = S ((l.drop (HT.sIx l.length 0 lo)).take (HT.sIx l.length l.length hi - HT.sIx l.length 0 lo)) := by
  unfold cutS
  rw [S_len]
  rfl
/-- what was tracked stays -/
abbrev Ex := @Same
theorem ex_new {H : Hp} {p : Addr} {o : HO} (h : H p = none) : Same H (upd H p o) := fun b u e => by
  rw [upd_ne (ne_of_none e h)]
  exact e
/-- an object that H does not know may change -/
theorem ex_mut {H G : Hp} {p : Addr} {o : HO} (e : Same H G) (h : H p = none) : Same H (upd G p o) := fun b u hb => by
  rw [upd_ne (ne_of_none hb h)]
  exact e b u hb
theorem szl {n : Nat} (h : n ≤ 100000) : n ≤ sizeLine := Nat.le_trans h (by decide)
theorem szlt {n : Nat} (h : n < 100000) : n < sizeLine := Nat.lt_of_lt_of_le h (by decide)
theorem seqL_of {K : PySem.W.Frag} {H : Hp} {a : Addr} {xs : List V} (h : H a = some (.lst xs)) : SqL K H a xs := .inl (.inl h)
theorem seqT_of {K : PySem.W.Frag} {H : Hp} {a : Addr} {xs : List V} (h : H a = some (.tup xs)) : SqT K H a xs := .inl (.inl h)

/-! ### data: what laws compare -/
inductive D where
  | non | bl (b : Bool) | int (i : Int) | txt (l : List Nat) | lst (xs : List D) | tup (xs : List D)
mutual
def Rp (H : Hp) : D → V → Prop
  | .non, v => v = .non
  | .bl b, v => v = .bl b
  | .int i, v => v = .int i
  | .txt l, v => v = tx l
  | .lst ds, v => ∃ p vs, v = .ref p ∧ H p = some (.lst vs) ∧ Rps H ds vs
  | .tup ds, v => ∃ p vs, v = .ref p ∧ H p = some (.tup vs) ∧ Rps H ds vs
def Rps (H : Hp) : List D → List V → Prop
  | [], vs => vs = []
  | d :: ds, vs => ∃ v r, vs = v :: r ∧ Rp H d v ∧ Rps H ds r
end
mutual
theorem Rp.mono {H G : Hp} (e : Same H G) : ∀ (d : D) (v : V), Rp H d v → Rp G d v
  | .non, _, h => h
  | .bl _, _, h => h
  | .int _, _, h => h
  | .txt _, _, h => h
  | .lst ds, _, ⟨p, vs, hv, hp, r⟩ => ⟨p, vs, hv, e _ _ hp, Rps.mono e ds vs r⟩
  | .tup ds, _, ⟨p, vs, hv, hp, r⟩ => ⟨p, vs, hv, e _ _ hp, Rps.mono e ds vs r⟩
theorem Rps.mono {H G : Hp} (e : Same H G) : ∀ (ds : List D) (vs : List V), Rps H ds vs → Rps G ds vs
  | [], _, h => h
  | d :: ds, _, ⟨v, r, hv, h1, h2⟩ => ⟨v, r, hv, Rp.mono e d v h1, Rps.mono e ds r h2⟩
end
theorem Rps.len {H : Hp} : ∀ {ds : List D} {vs : List V}, Rps H ds vs → vs.length = ds.length
  | [], _, h => by
    cases h
    rfl
  | d :: ds, _, ⟨v, r, hv, _, h2⟩ => by
    rw [hv, List.length_cons, List.length_cons, Rps.len h2]
theorem Rps.at {H : Hp} : ∀ {ds : List D} {vs : List V} (i : Nat) (d : D), Rps H ds vs → ds[i]? = some d → ∃ v, vs[i]? = some v ∧ Rp H d v
  | [], _, _, _, _, e => by simp at e
  | d :: ds, _, 0, d', ⟨v, r, hv, h1, _⟩, e => by
    rw [hv]
    simp at e
    subst e
    exact ⟨v, rfl, h1⟩
  | d :: ds, _, i + 1, d', ⟨v, r, hv, _, h2⟩, e => by
    rw [hv]
    exact Rps.at i d' h2 (by simpa using e)
theorem Rps.txts {H : Hp} : ∀ (ls : List (List Nat)), Rps H (ls.map .txt) (ls.map tx)
  | [] => rfl
  | l :: ls => ⟨tx l, ls.map tx, rfl, rfl, Rps.txts ls⟩
theorem Rps.txts_eq {H : Hp} : ∀ {ls : List (List Nat)} {vs : List V}, Rps H (ls.map .txt) vs → vs = ls.map tx
  | [], _, h => h
  | l :: ls, _, ⟨v, r, hv, h1, h2⟩ => by
    rw [hv, Rps.txts_eq h2, show v = tx l from h1]
    rfl

/-! ### purses -/
def PurseAt (H : Hp) (p : Addr) : Prop := ∃ x y z : Int, H p = some (.lst [.int x, .int y, .int z]) ∧ 0 ≤ x
def spDraw : Sp := fun vs H Q _ => ∃ (p : Addr) (n : Int), vs = [.ref p, .int n] ∧ PurseAt H p ∧ 0 < n ∧ n < 1000000000 ∧ ∀ (d : Int) (o : HO), 0 ≤ d → d < n → PurseAt (upd H p o) p → Q (.int d) (upd H p o)
def spPurse (K : PySem.W.Frag) : Sp := fun vs H Q _ => ∃ (a : Addr) (ns : List Int) (k s : Int), vs = [.ref a, .int k, .int s] ∧ SqL K H a (ns.map V.int) ∧ ns.length ≤ 63 ∧ 0 ≤ k ∧ k ≤ 63 ∧ ∀ (q : Addr) (o : HO), H q = none → PurseAt (upd H q o) q → Q (.ref q) (upd H q o)
end Kit

end
section
set_option Elab.async false
set_option maxRecDepth 100000
set_option maxHeartbeats 4000000
namespace Kit
open PySem PySem.Spec PyProof.Rows L2

/-! ### comprehensions without a test, one name -/
section
variable {J : It} {n : Nat} {G : Hp → Prop} {Y : Nat → Hp → V → Hp → Prop} {te : TE} {σ : St} {H1 : Hp} {D : Addr} {Qd : Hp → Prop}
theorem wipe1 (j : Nat) (x : Option V) : wipe ((wipe σ [j]).set j x) [j] = wipe σ [j] := by
  show ((wipe σ [j]).set j x).set j none = σ.set j none
  rw [List.set_set]
  show (σ.set j none).set j none = σ.set j none
  rw [List.set_set]
theorem set1 (j : Nat) (x : Option V) : (wipe σ [j]).set j x = σ.set j x := by
  show (σ.set j none).set j x = _
  rw [List.set_set]
theorem lc_one (w : Walk J n G Y) {j : Nat} (out : List V) (hn : out.length = n) (hsz : n ≤ 100000) (hD : H1 D = none) (hG : ∀ H, Same H1 H → G H)
    (hs : ∀ i x H H' v, i < n → Same H1 H → Y i H x H' → out[i]? = some v → Same H H' ∧ ∀ Q : VK, (∀ M, Same H' M → Q v M) → te (σ.set j (some x)) H' Q)
    (hd : ∀ H, Same H1 H → H D = some (.lst out) → Qd H) :
    ∃ W : Nat → Nat → Hp → Prop, (∃ m, W 0 m (upd H1 D (.lst []))) ∧ ∀ i m H, W i m H →
      (J.stop i H ∧ Qd H) ∨ (J.go i H ∧ ∃ Nx : Hp → Prop, (∀ H', Nx H' → ∃ m', m' < m ∧ W (i + 1) m' H') ∧ ∀ x H', J.yld i H x H' → gName j x (wipe σ [j]) H' fun σ2 H2 => wipe σ2 [j] = wipe σ [j] ∧ tYes σ2 H2 fun b H3 =>
        if b = true then te σ2 H3 fun y H4 => ∃ acc, H4 D = some (.lst acc) ∧ acc.length < sizeLine ∧ Nx (upd H4 D (.lst (acc ++ [y]))) else Nx H3) := by
  refine lc_it w (fun i H => Same H1 H ∧ H D = some (.lst (out.take i))) ⟨ex_new hD, upd_same⟩ (fun i H _ h => hG H h.1) ?_ ?_
  · rintro i x H H' hi ⟨s1, hHD⟩ y
    have hv : out[i]? = some (out[i]'(by omega)) := List.getElem?_eq_getElem _
    obtain ⟨s2, ht⟩ := hs i x H H' _ hi s1 y hv
    show wipe ((wipe σ [j]).set j (some x)) [j] = _ ∧ _
    refine ⟨wipe1 j _, ?_⟩
    unfold tYes
    dsimp only
    rw [if_pos rfl]
    rw [set1]
    refine ht _ fun M s3 => ⟨out.take i, s3 _ _ (s2 _ _ hHD), by rw [List.length_take]; exact szlt (by omega), ?_⟩
    refine ⟨ex_mut ((s1.trans s2).trans s3) hD, ?_⟩
    rw [upd_same, List.take_add_one, hv]
    rfl
  · rintro H ⟨s1, hHD⟩
    refine hd H s1 ?_
    rw [hHD, List.take_of_length_le (by omega)]
end

/-! ### what a def may let out -/
def Ra (E : XK) (C : Addr) (fld : Str) (y : V) (H : Hp) : Prop := ∀ d M, Same H M → M d = some (.xd [(fld, y)]) → E (.ref C) (some d) M
theorem Ra.mono {E : XK} {C : Addr} {fld : Str} {y : V} {H G : Hp} (h : Ra E C fld y H) (e : Same H G) : Ra E C fld y G := fun d M s => h d M (e.trans s)
theorem Ra.now {E : XK} {C : Addr} {fld : Str} {y : V} {H : Hp} (h : Ra E C fld y H) : [y].length ≤ 1000 ∧ ∀ a, H a = none → spErr C fld (.ref a :: ([y] ++ [])) (upd H a (exo a C none))
    (fun v G => v = .non ∧ ∃ (d : Addr) (fs : List (Str × V)), G a = some (exo a C (some d)) ∧ G d = some (exd d fs) ∧ H d = none ∧ E (.ref C) (some d) (upd (L2.del G a) d (.xd fs))) (fun _ _ _ => False) :=
  mkE fun d hd => h d _ (ex_new hd) upd_same

/-! ### columns of a scheme: plain facts -/
def cols (n : Nat) : List Nat := (List.range n).map (97 + ·)
def inCol (n x : Nat) : Bool := decide (97 ≤ x ∧ x < 97 + n)
def inDig (c x : Nat) : Bool := decide (48 ≤ x ∧ x < 48 + c)
def isCol (n : Nat) (l : List Nat) : Bool := decide (l.length = 1) && l.all (inCol n)
def isStrip (n : Nat) (l : List Nat) : Bool := l.all (inCol n)
def isColour (c : Nat) (l : List Nat) : Bool := decide (l.length = 1) && l.all (inDig c)
def isDigs (r c : Nat) (l : List Nat) : Bool := decide (l.length = r) && l.all (inDig c)
def dig : Nat → Nat → Nat → List Nat
  | 0, _, _ => []
  | r + 1, c, k => (48 + (k / c ^ r) % c) :: dig r c k
def num (c : Nat) (l : List Nat) : Nat := l.foldl (fun acc d => acc * c + (d - 48)) 0
def Good (r c n : Nat) : Prop := (r, c, n) ∈ [(1, 2, 2), (1, 3, 3), (2, 2, 4), (2, 3, 9), (3, 2, 8)]
instance : Decidable (Good r c n) := by unfold Good; infer_instance
theorem mem_cols {n x : Nat} : x ∈ cols n ↔ inCol n x = true := by
  unfold cols inCol
  rw [List.mem_map, decide_eq_true_iff]
  constructor
  · rintro ⟨k, hk, rfl⟩
    have := List.mem_range.mp hk
    omega
  · intro h
    exact ⟨x - 97, List.mem_range.mpr (by omega), by omega⟩
theorem Good.cases {r c n : Nat} (h : Good r c n) : (r = 1 ∧ c = 2 ∧ n = 2) ∨ (r = 1 ∧ c = 3 ∧ n = 3) ∨ (r = 2 ∧ c = 2 ∧ n = 4) ∨ (r = 2 ∧ c = 3 ∧ n = 9) ∨ (r = 3 ∧ c = 2 ∧ n = 8) := by
  simpa [Good] using h
theorem cols_len (n : Nat) : (cols n).length = n := by simp [cols]
theorem dig_len (r c k : Nat) : (dig r c k).length = r := by
  induction r with
  | zero => rfl
  | succ r ih => rw [dig, List.length_cons, ih]
theorem dig_in {r c k : Nat} (hc : 0 < c) : (dig r c k).all (inDig c) = true := by
  induction r with
  | zero => rfl
  | succ r ih =>
    rw [dig, List.all_cons, ih, Bool.and_true]
    unfold inDig
    have := Nat.mod_lt (k / c ^ r) hc
    rw [decide_eq_true_iff]
    omega
theorem dig_digs {r c k : Nat} (hc : 0 < c) : isDigs r c (dig r c k) = true := by
  unfold isDigs
  rw [dig_len, dig_in hc]
  simp
/-- a list of digits is one of finitely many -/
def digLists : Nat → Nat → List (List Nat)
  | 0, _ => [[]]
  | r + 1, c => (List.range c).flatMap fun d => (digLists r c).map ((48 + d) :: ·)
theorem mem_digLists {r c : Nat} : ∀ {l : List Nat}, isDigs r c l = true → l ∈ digLists r c := by
  induction r with
  | zero =>
    intro l h
    unfold isDigs at h
    rw [Bool.and_eq_true, decide_eq_true_iff] at h
    rw [List.length_eq_zero_iff.mp h.1]
    exact List.mem_singleton.mpr rfl
  | succ r ih =>
    intro l h
    unfold isDigs at h
    rw [Bool.and_eq_true, decide_eq_true_iff] at h
    match l, h with
    | x :: l, ⟨h1, h2⟩ =>
      rw [List.all_cons, Bool.and_eq_true] at h2
      have hx := h2.1
      unfold inDig at hx
      rw [decide_eq_true_iff] at hx
      rw [digLists, List.mem_flatMap]
      refine ⟨x - 48, List.mem_range.mpr (by omega), List.mem_map.mpr ⟨l, ih ?_, ?_⟩⟩
      · unfold isDigs
        rw [Bool.and_eq_true, decide_eq_true_iff]
        exact ⟨by simpa using h1, h2.2⟩
      · rw [show 48 + (x - 48) = x by omega]
theorem num_lt {r c n : Nat} (h : Good r c n) {l : List Nat} (hl : isDigs r c l = true) : num c l < n := by
  suffices z : ∀ l ∈ digLists r c, num c l < n from z l (mem_digLists hl)
  clear hl
  rcases h.cases with ⟨rfl, rfl, rfl⟩ | ⟨rfl, rfl, rfl⟩ | ⟨rfl, rfl, rfl⟩ | ⟨rfl, rfl, rfl⟩ | ⟨rfl, rfl, rfl⟩ <;> decide +kernel
theorem dig_num {r c n : Nat} (h : Good r c n) {l : List Nat} (hl : isDigs r c l = true) : dig r c (num c l) = l := by
  suffices z : ∀ l ∈ digLists r c, dig r c (num c l) = l from z l (mem_digLists hl)
  clear hl
  rcases h.cases with ⟨rfl, rfl, rfl⟩ | ⟨rfl, rfl, rfl⟩ | ⟨rfl, rfl, rfl⟩ | ⟨rfl, rfl, rfl⟩ | ⟨rfl, rfl, rfl⟩ <;> decide +kernel
theorem num_dig {r c n k : Nat} (h : Good r c n) (hk : k < n) : num c (dig r c k) = k := by
  suffices z : ∀ k < n, num c (dig r c k) = k from z k hk
  clear hk
  rcases h.cases with ⟨rfl, rfl, rfl⟩ | ⟨rfl, rfl, rfl⟩ | ⟨rfl, rfl, rfl⟩ | ⟨rfl, rfl, rfl⟩ | ⟨rfl, rfl, rfl⟩ <;> decide +kernel
end Kit

end
section
set_option Elab.async false
set_option maxRecDepth 100000
set_option maxHeartbeats 4000000
namespace Kit
open PySem PySem.Spec PyProof.Rows L2
/-! ### rules whose reading names the written part: it is given -/
section
variable {X : Cx} {e e2 : Expr} {es : List Expr} {ta tb : TE} {t : TA} {f : Str} {pos p apos cpos : Pos} {tg : Expr}
theorem kfld (K : PySem.W.Frag) (he : PE X e ta) (hK : X.K = K := by rfl) (hb : attributeBase e f X.env (eval e X.env) = eval e X.env := by rfl) : PE X (.Attribute e f pos) (tFld K ta f) := hK ▸ pe_fld he hb
theorem kcon (K : PySem.W.Frag) (he : PE X e ta) (hK : X.K = K := by rfl) (hb : attributeBase e f X.env (eval e X.env) = eval e X.env := by rfl) : PE X (.Attribute e f pos) (tCon K ta f) := hK ▸ pe_con he hb
theorem kix_list (K : PySem.W.Frag) (hK : X.K = K := by rfl) : IxR X (rIxL K) := hK ▸ ix_list
theorem kix_tup (K : PySem.W.Frag) (hK : X.K = K := by rfl) : IxR X (rIxT K) := hK ▸ ix_tup
theorem kix_seq (K : PySem.W.Frag) (hK : X.K = K := by rfl) : IxR X (rIx K) := hK ▸ ix_seq
theorem kpi_list (K : PySem.W.Frag) (hl : PE X e ta) (hK : X.K = K := by rfl) : PI X tg e (iList K ta) := hK ▸ pi_list hl
theorem kpi_tup (K : PySem.W.Frag) (hl : PE X e ta) (hK : X.K = K := by rfl) : PI X tg e (iTup K ta) := hK ▸ pi_tup hl
theorem kisi (K : PySem.W.Frag) (hK : X.K = K := by rfl) : CallR X (.builtin "isinstance") (rIsi K) := hK ▸ call_isi
theorem klen_seq (K : PySem.W.Frag) (hK : X.K = K := by rfl) : CallR X (.builtin "len") (fun xs H Q => ∃ p ys, xs = [.ref p] ∧ (SqL K H p ys ∨ SqT K H p ys) ∧ Q (.int ys.length) H) := hK ▸ call_len_seq
theorem klen (K : PySem.W.Frag) (hK : X.K = K := by rfl) : CallR X (.builtin "len") (fun xs H Q => ∃ x n, xs = [x] ∧ LenV K x H n ∧ Q (.int n) H) := hK ▸ call_len
theorem ksum (K : PySem.W.Frag) (hc : X.calm = true) (hK : X.K = K := by rfl) : CallR X (.builtin "sum") (rSum K) := hK ▸ cr_sum hc
theorem kall (K : PySem.W.Frag) (hc : X.calm = true) (hK : X.K = K := by rfl) : CallR X (.builtin "all") (rAll K) := hK ▸ cr_all hc
theorem kin (K : PySem.W.Frag) (hK : X.K = K := by rfl) : OpR X (compareOp .In) (rIn K false) := hK ▸ op_in_seq
theorem knotin (K : PySem.W.Frag) (hK : X.K = K := by rfl) : OpR X (compareOp .NotIn) (rIn K true) := hK ▸ op_notIn_seq
theorem keqD (K : PySem.W.Frag) (hu : X.A.units + 64 < cLine) (hK : X.K = K := by rfl) : OpR X (compareOp .Eq) (rEqD K) := hK ▸ op_eqD hu
theorem kneD (K : PySem.W.Frag) (hu : X.A.units + 64 < cLine) (hK : X.K = K := by rfl) : OpR X (compareOp .NotEq) (rNeD K) := hK ▸ op_neD hu
theorem klist_of (K : PySem.W.Frag) (hK : X.K = K := by rfl) : CallR X (.type "list") (fun xs H Q => ∃ p ys, xs = [.ref p] ∧ (SqL K H p ys ∨ SqT K H p ys) ∧ ∀ l, H l = none → Q (.ref l) (upd H l (.lst ys))) := hK ▸ call_list_of
theorem ksl_list (K : PySem.W.Frag) (hK : X.K = K := by rfl) : SlR X (rSlL K) := hK ▸ sl_list
theorem kjoin (K : PySem.W.Frag) {o : Expr} {to te : TE} (ho : PE X o to) (he : PE X e te) (hK : X.K = K := by rfl) (hs : starEach [e] X.env = [(false, eval e X.env)] := by rfl) (hbase : attributeBase o "join" X.env (eval o X.env) = eval o X.env := by rfl) (hline : (apos.endLine == cpos.line) = true := by rfl) :
    PE X (.Call (.Attribute o "join" apos) [e] [] cpos) (tM1 (fun x xs H Q => ∃ a p, ∃ ys : List Str, x = .str a ∧ xs = [.ref p] ∧ (SqL K H p (ys.map V.str) ∨ SqT K H p (ys.map V.str)) ∧ (ys.map (·.length)).sum + ys.length * a.length ≤ 16777216 ∧ Q (.str (Txt.join a ys)) H) to te) := hK ▸ pe_join ho he hs hbase hline
end
end Kit

end
section
set_option Elab.async false
set_option linter.all false
set_option maxRecDepth 100000
set_option maxHeartbeats 4000000
namespace Kit
open PySem PySem.Spec PyProof.Rows L2
/-! ### an own == : what its def promises, of any other thing whose type does not come first -/
section
variable {X : Cx} {C : Addr} {k j : Nat} {sp : Sp}
/-- what the type of the other thing must be -/
def OtherOk (K : PySem.W.Frag) (C : Addr) (H : Hp) (y : V) : Prop := (∃ i, y = .int i) ∨ (∃ z, y = .str z) ∨ ∃ b dx fs, y = .ref b ∧ H b = some (.ins C dx fs)
def rEqO (K : PySem.W.Frag) (C : Addr) (sp : Sp) : R2 := fun x y H Q => ∃ a dx fs, x = .ref a ∧ H a = some (.ins C dx fs) ∧ OtherOk K C H y ∧ sp [x, y] H (fun v G => ∃ b, v = .bl b ∧ Q (.bl b) G) E0
theorem eqO (K : PySem.W.Frag) (c : CanM X.prog X.w X.K X.mg X.base k C "__eq__" sp) (hr : Room j X.A) (hk : k ≤ j) (hni : PySem.W.notFirst K C (.type "int") = true) (hns : PySem.W.notFirst K C (.type "str") = true) (hK : X.K = K := by rfl) : OpR X (compareOp .Eq) (rEqO K C sp) := by
  subst hK
  obtain ⟨f, fd, ps, F, hc, hm, b⟩ := c.ex
  intro pins s σ H x y v u Q I rx ry hq
  obtain ⟨a, dx, fs, rfl, ha, ho, h⟩ := hq
  cases rx
  show wpAny (model X.prog X.w) X.A (richCompare .Eq (.ref a) u) (EP X pins σ Q) X.xe s
  obtain ⟨mA, J, _⟩ := ins_get I.hok ha
  obtain ⟨od, J, _⟩ := J.look
  obtain ⟨m, hF⟩ := I.fr
  have tb : ∃ tb, PySem.W.Looks (model X.prog X.w) s.heap (typeOf u) tb ∧ PySem.W.notFirst X.K C tb = true := by
    rcases ho with ⟨i, rfl⟩ | ⟨z, rfl⟩ | ⟨b', dy, gs, rfl, hb'⟩
    · obtain ⟨t, rfl⟩ := ry
      exact ⟨.type "int", .now, hni⟩
    · obtain ⟨t, rfl⟩ := ry
      exact ⟨.type "str", .now, hns⟩
    · cases ry
      obtain ⟨mB, J', _⟩ := ins_get I.hok hb'
      obtain ⟨od', J', _⟩ := J'.look
      exact ⟨.ref C, J'.type, by simp [PySem.W.notFirst]⟩
  obtain ⟨tb, htb, hnf⟩ := tb
  refine PySem.W.cmp_K (op := .Eq) (tb := tb) (hr.mono hk).units0 hF I.ok.mod.kin J htb hnf hm.at_ hm.fn ?_
  refine wpAny_mono (run_fn (us := [.ref a, u]) (vs := [.ref a, y]) (dvs := []) (ds := []) F (hr.mono hk) b .nil passL I (.cons rfl (.cons ry .nil)) h) (fun r s' z => ?_) fun _ _ x => x
  obtain ⟨v, H', I', rv, bb, rfl, q⟩ := z
  cases rv
  exact ⟨.bl bb, H', I', rfl, q⟩
/-- len(o) by an own __len__ -/
def rLenO (C : Addr) (sp : Sp) : List V → Hp → VK → Prop := fun xs H Q => ∃ a dx fs, xs = [.ref a] ∧ H a = some (.ins C dx fs) ∧ sp [.ref a] H (fun v G => ∃ n : Int, v = .int n ∧ 0 ≤ n ∧ n < 2 ^ 63 ∧ Q (.int n) G) E0
theorem lenO (c : CanM X.prog X.w X.K X.mg X.base k C "__len__" sp) (hr : Room j X.A) (hk : k + 1 ≤ j) : CallR X (.builtin "len") (rLenO C sp) := by
  obtain ⟨f, fd, ps, F, hc, hm, b⟩ := c.ex
  intro pins s σ H xs us Q I r h
  obtain ⟨a, dx, fs, rfl, ha, h⟩ := h
  rw [Vals.ref1 r]
  obtain ⟨mA, J, _⟩ := ins_get I.hok ha
  obtain ⟨od, J, _⟩ := J.look
  obtain ⟨m, hF⟩ := I.fr
  refine PySem.W.len_K hF I.ok.mod.kin J hm.at_ hm.fn ?_
  have hr1 : Room k X.A.in1 := (hr.mono hk).in1
  have e0 : Env0 X.prog X.w X.K X.mg X.base X.A.in1 X.stack s H := by
    have e := I.env0
    exact ⟨e.frames, e.mod, e.bs, e.bsz, e.funs, e.frf, e.hok, e.bare⟩
  have hl := F.len _ _ _ _ h
  have bb := b s [.ref a] I.kIn (by simpa using hl)
  refine wpAny_call (codeAny_mono (F.run X.A.in1 X.stack s H ⟨[.ref a], []⟩ [.ref a] [.ref a] _ E0 hr1 e0 (by simpa using bb) (.cons rfl .nil) h) ?_)
  intro z s' hq
  cases z with
  | error e =>
    obtain ⟨_, _, _, _, _, _, _, _, _, _, _, _, y⟩ := hq
    exact y.elim
  | ok fl =>
    cases fl with
    | ret w =>
      obtain ⟨v, H', I', rz, n, rfl, h0, h1, q⟩ := I.after hq
      obtain ⟨t, rfl⟩ := rz
      exact ⟨⟨h0, h1⟩, .int n, H', I'.tok _, ⟨_, rfl⟩, q⟩
    | next => exact hq.elim
    | brk => exact hq.elim
    | cont => exact hq.elim
theorem vals_get : ∀ {xs : List V} {us : List Value}, xs.length = us.length → (∀ (i : Nat) x u, xs[i]? = some x → us[i]? = some u → RelV x u) → Vals xs us
  | [], [], _, _ => .nil
  | x :: xs, u :: us, h, f => .cons (f 0 x u rfl rfl) (vals_get (by simpa using h) fun i y v h1 h2 => f (i + 1) y v (by simpa using h1) (by simpa using h2))
/-- list(text) -/
theorem listS (hc : X.calm = true) : CallR X (.type "list") (fun xs H Q => ∃ l : List Nat, xs = [tx l] ∧ l.length ≤ 100000 ∧ ∀ p, H p = none → Q (.ref p) (upd H p (.lst (l.map fun x => tx [x])))) := by
  intro pins s σ H xs us Q I r h
  obtain ⟨l, rfl, hl, q⟩ := h
  cases r with
  | cons rx rr =>
    cases rr
    obtain ⟨t, rfl⟩ := rx
    refine call_list_str (I.ok.hd hc) (S l) t (hn := by show (S l).length ≤ _; rw [S_len]; exact szl hl) ?_
    intro h' tk acc c' hk hS hit
    refine ⟨.ref s.heap.objs.size, _, I.laid (t' := tk) (o := .lst (l.map fun x => tx [x])) hk (Nat.le_refl _) ?_, rfl, q _ (I.hok.fresh (Nat.le_refl _))⟩
    have hn : acc.toList.length = l.length := by
      rw [Array.length_toList, hit.1]
      exact S_len l
    refine ⟨szl (by rw [List.length_map]; exact hl), acc.toList, c', vals_get (by rw [List.length_map, hn]) ?_, hS⟩
    intro i v u hv hu
    obtain ⟨ch, t', h1, rfl⟩ := hit.2 i u (by rw [← Array.getElem?_toList]; exact hu)
    have h1 : l[i]? = some ch := by
      have z : (S l).cps[i]? = l[i]? := List.getElem?_toArray ..
      rw [← z]
      exact h1
    rw [List.getElem?_map, h1] at hv
    cases hv
    exact ⟨t', rfl⟩
end

/-! ### enumerate(xs, start=k) -/
def ItS (a : Addr) (k : Int) : It :=
  ⟨fun i G => ∃ (xs : List V) (x : V), G a = some (.lst xs) ∧ xs[i]? = some x, fun i G v G' => ∃ T x, v = .ref T ∧ G T = none ∧ G' = upd G T (.tup [.int (k + (i : Nat)), x]) ∧ ∀ xs, G a = some (.lst xs) → xs[i]? = some x, fun i G => ∃ xs : List V, G a = some (.lst xs) ∧ xs.length = i⟩
theorem turn_S {P : Program} {w : World} {K : PySem.W.Frag} {elts : List Expr} {kk : Nat} {tpos : Pos} (a e it : Addr) (k : Int) :
    Turn P w K (.Tuple elts kk tpos) (ItS a k) [e, it] e (fun i h => (∃ old, IsEnum h e it (k + ((i : Nat) : Int)) old) ∧ h.IsListIter it a i ∧ e ≠ it) where
  mem := by simp
  obj := by
    rintro i h ⟨⟨old, he⟩, ⟨o, ho, hc, hd⟩, _⟩ b hb
    have z : b = e ∨ b = it := by simpa using hb
    rcases z with rfl | rfl
    · exact ⟨_, he, fun v q => nomatch q⟩
    · exact ⟨o, ho, fun v q => by rw [hd] at q; cases q⟩
  keep := by
    rintro i h h' ⟨⟨old, he⟩, hi, hne⟩ k
    exact ⟨⟨old, k e (by simp) _ he⟩, hi.at fun o q => k it (by simp) o q, hne⟩
  item := by
    intro X hP hw hK hc i pins s σ H E I hf st hg
    subst hP hw hK
    obtain ⟨⟨old, he⟩, hit, hne⟩ := st
    obtain ⟨xs, x, hq, hx⟩ := hg
    obtain ⟨hzz, its, nn, rv, hl0⟩ := (show ObjOk X.prog X.w H s.heap a (.lst xs) from I.hok a _ hq)
    have hL : s.heap.IsList a its.toArray := ⟨_, hl0, rfl, nn, rfl⟩
    obtain ⟨u, hu, ru⟩ := rv.get hx
    have nai : a ≠ it := fun z => by
      have := (hf it (by simp)).1
      rw [← z, hq] at this
      cases this
    have nae : a ≠ e := fun z => by
      have := (hf e (by simp)).1
      rw [← z, hq] at this
      cases this
    have hlen : i < its.toArray.size := by
      have z := (List.getElem?_eq_some_iff.mp hx).1
      have y := rv.length
      rw [List.size_toArray]
      omega
    have le : e < s.heap.objs.size := Heap.lt_size he
    have li : it < s.heap.objs.size := by
      obtain ⟨_, q, _⟩ := hit
      exact Heap.lt_size q
    refine wpAny_pyNext_enum_itemC (Draws.list (A := X.A.in1) (show X.A.in1.handled = none from I.ok.hd hc) it a nai its.toArray) he ⟨hit, hL⟩ hlen hne (by simp [hne, Ne.symm nae]) ?_
    intro u' h' tk hu' ho hit' hT hsz hk
    obtain rfl : u' = u := by
      have z : its[i]? = some u' := by simpa using hu'
      rw [hu] at z
      exact (Option.some.inj z).symm
    refine ⟨_, rfl, wpAny_letOwnedTupleGo_enum (s := { s with heap := h', toks := tk + 1 }) ho ?_⟩
    intro h'' he' sb
    have hT2 : h''.get? s.heap.objs.size = some { cls := .type "tuple", data := .seq #[.int (k + (i : Nat)) tk, u'] } := (sb.2 _ (Nat.ne_of_gt le)).trans hT
    have new : ObjOk X.prog X.w (upd H s.heap.objs.size (.tup [.int (k + (i : Nat)), x])) h'' s.heap.objs.size (.tup [.int (k + (i : Nat)), x]) :=
      ⟨by show 2 ≤ sizeLine; decide, [.int (k + (i : Nat)) tk, u'], .cons ⟨_, rfl⟩ (.cons ru .nil), ⟨_, hT2, rfl, _, rfl⟩⟩
    have J : Inv X pins σ (upd H s.heap.objs.size (.tup [.int (k + (i : Nat)), x])) { s with heap := h'', toks := tk + 1 } :=
      I.turnedNew (ch := [e, it]) (fun b ob hb q => (sb.2 b (fun z => hb (by simp [z]))).trans (hk b ob (fun z => hb (by simp [z])) (fun z => hb (by simp [z])) q)) hf (Nat.le_refl _) new
    refine ⟨.ref s.heap.objs.size, _, J, rfl, ⟨_, x, rfl, I.hok.fresh (Nat.le_refl _), rfl, fun ys hy => by rw [hq] at hy; cases hy; exact hx⟩, ⟨⟨u', ?_⟩, hit'.1.at fun o q => (sb.2 it (Ne.symm hne)).trans q, hne⟩, ?_⟩
    · rw [show k + ((i + 1 : Nat) : Int) = k + (i : Int) + 1 by omega]
      exact he'
    · intro b hb
      have hb' : b < s.heap.objs.size := by
        have z : b = e ∨ b = it := by simpa using hb
        rcases z with rfl | rfl
        · exact le
        · exact li
      rw [upd_ne (Nat.ne_of_lt hb')]
      exact (hf b hb).1
  done := by
    intro X hP hw hK hc i pins s σ H E I hf st hg
    subst hP hw hK
    obtain ⟨⟨old, he⟩, hit, hne⟩ := st
    obtain ⟨xs, hq, hx⟩ := hg
    obtain ⟨hzz, its, nn, rv, hl0⟩ := (show ObjOk X.prog X.w H s.heap a (.lst xs) from I.hok a _ hq)
    have hL : s.heap.IsList a its.toArray := ⟨_, hl0, rfl, nn, rfl⟩
    obtain ⟨f0, f1, f2, f3, f4, f5⟩ := hf it (by simp)
    have hl := rv.length
    have nai : a ≠ it := fun z => by
      rw [← z, hq] at f0
      cases f0
    have nae : a ≠ e := fun z => by
      have := (hf e (by simp)).1
      rw [← z, hq] at this
      cases this
    have hz : its.toArray.size = i := by
      rw [List.size_toArray]
      omega
    subst hz
    exact wpAny_pyNext_enum_endD (Draws.list (A := X.A.in1) (show X.A.in1.handled = none from I.ok.hd hc) it a nai its.toArray) he ⟨hit, hL⟩ fun h' eb => ⟨rfl, I.turned (t' := s.toks) (fun b o hb q => eb b o hb q) f0 f1 f3 f4 f5⟩
  self := by
    rintro A i s Q E ⟨⟨_, he⟩, _⟩ h
    exact wpAny_pyIter_enum he h
theorem walk_S {a : Addr} {k : Int} {xs : List V} : Walk (ItS a k) xs.length (fun G => G a = some (.lst xs)) (YPair (fun i => some (.int (k + (i : Nat)))) (fun i => xs[i]?)) := by
  refine ⟨fun i G hi q => ⟨xs, xs[i], q, List.getElem?_eq_getElem hi⟩, fun G q => ⟨xs, q, rfl⟩, ?_⟩
  rintro i G v G' hi q ⟨T, x, rfl, hT, rfl, hx⟩
  exact ⟨T, _, x, rfl, hT, rfl, rfl, hx xs q⟩
def iEnumS (K : PySem.W.Frag) (t tk : TA) : TI := fun σ H R => t σ H fun vs G => tk σ G fun zs G' => ∃ a xs k, vs = [.ref a] ∧ zs = [.int k] ∧ -(2 ^ 63) ≤ k ∧ k < 2 ^ 63 ∧ G' a = some (.lst xs) ∧ R (ItS a k) G'
theorem kws_type {M : Model} {A : Around} {E : Value → Shared → Prop} {s : Shared} {pos : Pos} {T : String} {args : List (Bool × Sem Value)} {keywords : List (Option Str × Sem Value)} {Q : Value → Shared → Prop}
    (hplain : args.any (·.1) = false) (hkw : keywords.any (·.1.isNone) = false) (h : wpAny M A (evalArgs (.type T) true args keywords) (fun a s₁ => wpAny M A (call (.type T) a.pos a.kw) Q E s₁) E s) : wpAny M A (callWith pos (.type T) [] args keywords) Q E s := by
  unfold callWith
  refine wpAny_bind (wpAny_holding (wpAny_mono h ?_ fun _ _ x => x))
  intro a s₁ h₁
  refine wpAny_bind (wpAny_standAt ?_)
  simp only [hplain, hkw, Bool.or_false]
  refine wpAny_bind (wpAny_pure ?_)
  exact wpAny_bind (wpAny_mono h₁ (fun r s₂ hr => wpAny_bind (wpAny_holding (wpAny_point (wpAny_pure hr)))) fun _ _ x => x)
theorem pi_enumS {X : Cx} {e : Expr} {t tk : TA} {p pos tpos kp : Pos} {elts : List Expr} {kk : Nat} {kv : Expr} (hg : Gl X "enumerate") (hm : X.mg "enumerate" = none) (ha : PA X [e] t) (hk : PK X [⟨some "start", kv, kp⟩] tk)
    (he : backTo pos (starEach [e] X.env) = (false, eval e X.env) :: backTo pos (starEach [] X.env) := by rfl) (hpl : (backTo pos (starEach [e] X.env)).any (·.1) = false := by rfl)
    (hall : (backToKw pos (keywordEach [⟨some "start", kv, kp⟩] X.env)).all (·.1.isSome) = true := by rfl) (hnone : (backToKw pos (keywordEach [⟨some "start", kv, kp⟩] X.env)).any (·.1.isNone) = false := by rfl)
    (hks : (backToKw pos (keywordEach [⟨some "start", kv, kp⟩] X.env)).filterMap (·.1) = [("start" : Str)] := by rfl) :
    PI X (.Tuple elts kk tpos) (.Call (.Name "enumerate" p) [e] [⟨some "start", kv, kp⟩] pos) (iEnumS X.K t tk) := by
  constructor
  intro pins s σ H R I h
  refine wpAny_Call_Name_kw (ld_blt I hg hm boot_enumerate ?_ (by decide) (by decide))
  refine kws_type hpl hnone ?_
  have run := thn (ha.run pos pins s σ H _ I h) fun us s1 (z : AP X pins σ _ us s1) => (show wpAny (model X.prog X.w) X.A (evalAll ((backToKw pos (keywordEach [⟨some "start", kv, kp⟩] X.env)).map (·.2))) (fun ws s2 => wpAny (model X.prog X.w) X.A (call (.type "enumerate") us ([("start" : Str)].zip ws))
      (fun v s1 => wpAny (model X.prog X.w) X.A (pyIter v) (PIE X pins σ (.Tuple elts kk tpos) R) X.xe s1) X.xe s2) X.xe s1 from by
    obtain ⟨vs, G, I1, r1, q1⟩ := z
    refine thn (hk.run pos pins s1 σ G _ I1 q1) ?_
    rintro ws s2 ⟨zs, G', I2, r2, a, xs, k, rfl, rfl, hk0, hk1, hq, q⟩
    cases r1 with
    | cons ra rr =>
      cases rr
      cases ra
      cases r2 with
      | cons rk rr =>
        cases rr
        obtain ⟨tk', rfl⟩ := rk
        obtain ⟨hzz, its, nn, rv, hl0⟩ := (show ObjOk X.prog X.w G' s2.heap a (.lst xs) from I2.hok a _ hq)
        have hL : s2.heap.IsList a its.toArray := ⟨_, hl0, rfl, nn, rfl⟩
        refine enum_begins_start (begins_list a its.toArray) hL hk0 hk1 ?_
        intro h' hen hit hsz hkeep
        refine wpAny_pyIter_enum hen ?_
        have J : Inv X pins σ G' { s2 with heap := h' } := I2.kept (t' := s2.toks) hkeep
        refine ⟨s2.heap.objs.size + 1, [s2.heap.objs.size + 1, s2.heap.objs.size], _, _, G', rfl, J, turn_S a (s2.heap.objs.size + 1) s2.heap.objs.size k, ⟨⟨.none, by simpa using hen⟩, ⟨_, hit, rfl, rfl⟩, Nat.succ_ne_self _⟩, ?_, q⟩
        intro b hb
        have z : b = s2.heap.objs.size + 1 ∨ b = s2.heap.objs.size := by simpa using hb
        have hle : s2.heap.objs.size ≤ b := by
          rcases z with z | z
          · rw [z]
            exact Nat.le_succ _
          · rw [z]
            exact Nat.le_refl _
        exact I2.fpOk hle (I2.hok.fresh hle))
  rw [he] at run ⊢
  refine PyProof.Rows.evalArgs_kwB hall ?_
  rw [hks]
  exact run
end Kit

end
section
set_option Elab.async false
set_option linter.all false
set_option maxRecDepth 100000
set_option maxHeartbeats 4000000
namespace Kit
open PySem PySem.Spec PyProof.Rows L2
/-! ### own two-place operators, str(o), o(..), classmethods, a class in a name -/
section
variable {X : Cx} {C : Addr} {k j : Nat} {sp : Sp} {m : Str}
def rOpO (C : Addr) (sp : Sp) : R2 := fun x y H Q => ∃ a dx fs b dy gs, x = .ref a ∧ H a = some (.ins C dx fs) ∧ y = .ref b ∧ H b = some (.ins C dy gs) ∧ sp [x, y] H (fun v G => (∃ p, v = .ref p) ∧ Q v G) E0
theorem opO {op : Operator} (c : CanM X.prog X.w X.K X.mg X.base k C m sp) (hr : Room j X.A) (hk : k ≤ j) (hc : PySem.W.selfFirst X.K C = true) (hd : PySem.dunder op.info.2 = m := by decide +kernel) : OpR X (binaryOp op) (rOpO C sp) := by
  obtain ⟨f, fd, ps, F, hcl, hm, b⟩ := c.ex
  subst hd
  intro pins s σ H x y v u Q I rx ry hq
  obtain ⟨a, dx, fs, b', dy, gs, rfl, ha, rfl, hb, h⟩ := hq
  cases rx
  cases ry
  obtain ⟨mA, J, _⟩ := ins_get I.hok ha
  obtain ⟨od, J, _⟩ := J.look
  obtain ⟨mB, J', _⟩ := ins_get I.hok hb
  obtain ⟨od', J', _⟩ := J'.look
  obtain ⟨mm, hF⟩ := I.fr
  refine PySem.W.binop_K hF I.ok.mod.kin J J'.type hc hm.at_ hm.fn ?_
  refine wpAny_mono (run_fn (us := [.ref a, .ref b']) (vs := [.ref a, .ref b']) (dvs := []) (ds := []) F (hr.mono hk) b .nil passL I (.cons rfl (.cons rfl .nil)) h) (fun r s' z => ?_) fun _ _ x => x
  obtain ⟨v, H', I', rv, ⟨p, rfl⟩, q⟩ := z
  cases rv
  exact ⟨.ref p, H', I', rfl, q⟩
/-- .. that may raise, the wish at the slots -/
def tOpS (C : Addr) (sp : Sp) (W : WX) (ta tb : TE) : TE := fun σ H Q => ta σ H fun x H1 => tb σ H1 fun y H2 => ∃ a dx fs b dy gs, x = .ref a ∧ H2 a = some (.ins C dx fs) ∧ y = .ref b ∧ H2 b = some (.ins C dy gs) ∧ sp [x, y] H2 (fun v G => (∃ p, v = .ref p) ∧ Q v G) (WE W σ)
theorem pe_opS {op : Operator} {W : WX} {a b : Expr} {ta tb : TE} {pos : Pos} (c : CanM X.prog X.w X.K X.mg X.base k C m sp) (tk : Takes X W) (hr : Room j X.A) (hk : k ≤ j) (hc : PySem.W.selfFirst X.K C = true) (ha : PE X a ta) (hb : PE X b tb)
    (hd : PySem.dunder op.info.2 = m := by decide +kernel) : PE X (.BinOp a op b pos) (tOpS C sp W ta tb) := by
  obtain ⟨f, fd, ps, F, hcl, hm, b⟩ := c.ex
  subst hd
  refine ⟨fun pins s σ H Q I h => ?_⟩
  refine wpAny_BinOp (binT ha hb I h fun v u s2 x y H2 I2 rx ry q => ?_)
  obtain ⟨a, dx, fs, b', dy, gs, rfl, ha, rfl, hb, h⟩ := q
  cases rx
  cases ry
  obtain ⟨mA, J, _⟩ := ins_get I2.hok ha
  obtain ⟨od, J, _⟩ := J.look
  obtain ⟨mB, J', _⟩ := ins_get I2.hok hb
  obtain ⟨od', J', _⟩ := J'.look
  obtain ⟨mm, hF⟩ := I2.fr
  refine PySem.W.binop_K hF I2.ok.mod.kin J J'.type hc hm.at_ hm.fn ?_
  refine wpAny_mono (run_fnS (us := [.ref a, .ref b']) (vs := [.ref a, .ref b']) F (hr.mono hk) b (passAt tk σ) I2 (.cons rfl (.cons rfl .nil)) h) (fun r s' z => ?_) fun _ _ x => x
  obtain ⟨v, H', I', rv, ⟨p, rfl⟩, q⟩ := z
  cases rv
  exact ⟨.ref p, H', I', rfl, q⟩
/-- str(o) by an own __str__ -/
def rStrO (C : Addr) (sp : Sp) : List V → Hp → VK → Prop := fun xs H Q => ∃ a dx fs, xs = [.ref a] ∧ H a = some (.ins C dx fs) ∧ sp [.ref a] H (fun v G => ∃ z : Str, v = .str z ∧ Q (.str z) G) E0
theorem strO (c : CanM X.prog X.w X.K X.mg X.base k C "__str__" sp) (hr : Room j X.A) (hk : k + 2 ≤ j) : CallR X (.type "str") (rStrO C sp) := by
  obtain ⟨f, fd, ps, F, hc, hm, b⟩ := c.ex
  intro pins s σ H xs us Q I r h
  obtain ⟨a, dx, fs, rfl, ha, h⟩ := h
  rw [Vals.ref1 r]
  obtain ⟨mA, J, _⟩ := ins_get I.hok ha
  obtain ⟨od, J, _⟩ := J.look
  have hr1 : Room k X.A.in1.in1 := (hr.mono hk).in1.in1
  refine PySem.W.kso_call hr1.units0 I.kIn J hm.at_ hm.fn ?_
  have e0 : Env0 X.prog X.w X.K X.mg X.base X.A.in1.in1 X.stack s H := by
    have e := I.env0
    exact ⟨e.frames, e.mod, e.bs, e.bsz, e.funs, e.frf, e.hok, e.bare⟩
  have hl := F.len _ _ _ _ h
  have bb := b s [.ref a] I.kIn (by simpa using hl)
  refine wpAny_call (codeAny_mono (F.run X.A.in1.in1 X.stack s H ⟨[.ref a], []⟩ [.ref a] [.ref a] _ E0 hr1 e0 (by simpa using bb) (.cons rfl .nil) h) ?_)
  intro z s' hq
  cases z with
  | error e =>
    obtain ⟨_, _, _, _, _, _, _, _, _, _, _, _, y⟩ := hq
    exact y.elim
  | ok fl =>
    cases fl with
    | ret w =>
      obtain ⟨v, H', I', rz, z, rfl, q⟩ := I.after hq
      obtain ⟨t, rfl⟩ := rz
      exact ⟨.str z, H', I', ⟨_, rfl⟩, q⟩
    | next => exact hq.elim
    | brk => exact hq.elim
    | cont => exact hq.elim
end
section
variable (P : Program) (w : World) (K : PySem.W.Frag) (mg : Str → Option Value) (base : Heap)
structure CanF (k : Nat) (C : Addr) (m : Str) (sp : Sp) : Prop where
  ex : ∃ (f : Addr) (fd : FuncData) (ps : List Str), FnOk P w K mg base (L2.CX P w) k f fd ps sp ∧ Cls K C ∧ Meth K C m f ∧ Binds K fd ps [] ∧ PySem.W.fnIn K f = true
structure CanC (k : Nat) (C : Addr) (m : Str) (sp : Sp) : Prop where
  ex : ∃ (mc : Value) (p g : Addr) (fd : FuncData) (ps : List Str), FnOk P w K mg base (L2.CX P w) k g fd ps sp ∧ ClX.CRead K C mc ∧ ClX.CMet K C mc m p g ∧ Binds K fd ps []
end
/-- a classmethod as it stands in the text -/
structure CmT (K : PySem.W.Frag) (C : Addr) (m q : Str) (st : Stmt) : Prop where
  ex : ∃ (mc : Value) (p g : Addr) (fd : FuncData), Fun K m q st g fd ∧ ClX.CRead K C mc ∧ ClX.CMet K C mc m p g
section
variable {P : Program} {w : World} {K : PySem.W.Frag} {mg : Str → Option Value} {base : Heap}
theorem fnIn_of {x q : Str} {st : Stmt} {f : Addr} {fd : FuncData} (F : Fun K x q st f fd) : PySem.W.fnIn K f = true := by
  obtain ⟨oc, od, kV, doc, pm, an, cdv, ct, osl, rfl, lk, hcd⟩ := F.ex
  unfold PySem.W.fnIn
  rw [lk]
theorem canF_of {m q : Str} {C : Addr} {st : Stmt} {N ps : List Str} {k : Nat} {sp : Sp} (c : Cls K C) (D : MetT K C m q st) (S : FnScope N ps (defScope st)) (hb : BindsPlain st m q ps) (len : ∀ vs H Q E, sp vs H Q E → vs.length = ps.length)
    (body : ∀ (f : Addr) (cdv : Value) (A : Around) (outer : List Env) (s : Shared) (H : Hp) (vs : List V) (Q : VK) (E : XK), Room k (A.deeper (envOfC q (defScope st) s.heap.objs.size f cdv)) → sp vs H Q E →
      ∃ t, PSs (cxOf (L2.CX P w) P w K mg base N q (defScope st) f cdv A outer s H E) (defBody st) t ∧ t { nx := fun _ H' => Q .non H', rt := Q } (start N vs) H) : CanF P w K mg base (k + 1) C m sp := by
  obtain ⟨f, fd, F, g⟩ := D.ex
  exact ⟨f, fd, ps, F.okX S len (body f), c, g, F.binds hb, fnIn_of F⟩
theorem canC_of {m q : Str} {C : Addr} {st : Stmt} {N ps : List Str} {k : Nat} {sp : Sp} (D : CmT K C m q st) (S : FnScope N ps (defScope st)) (hb : BindsPlain st m q ps) (len : ∀ vs H Q E, sp vs H Q E → vs.length = ps.length)
    (body : ∀ (f : Addr) (cdv : Value) (A : Around) (outer : List Env) (s : Shared) (H : Hp) (vs : List V) (Q : VK) (E : XK), Room k (A.deeper (envOfC q (defScope st) s.heap.objs.size f cdv)) → sp vs H Q E →
      ∃ t, PSs (cxOf (L2.CX P w) P w K mg base N q (defScope st) f cdv A outer s H E) (defBody st) t ∧ t { nx := fun _ H' => Q .non H', rt := Q } (start N vs) H) : CanC P w K mg base (k + 1) C m sp := by
  obtain ⟨mc, p, g, fd, F, r, c⟩ := D.ex
  exact ⟨mc, p, g, fd, ps, F.okX S len (body g), r, c, F.binds hb⟩
end
section
variable {X : Cx} {k j i : Nat} {C : Addr} {x m : Str} {sp : Sp} {W : WX} {p pos apos : Pos} {e o fe : Expr} {es : List Expr} {ta tf : TE} {t : TA}
theorem codeS {f : Addr} {fd : FuncData} {ps : List Str} {pins : List (Addr × Obj)} {σ : St} {H : Hp} {s : Shared} {Q : VK} {us : List Value} {vs : List V} (F : FnOk X.prog X.w X.K X.mg X.base (L2.CX X.prog X.w) k f fd ps sp) (hr : Room k X.A) (hb : Binds X.K fd ps []) (tk : Takes X W)
    (I : Inv X pins σ H s) (r : Vals vs us) (h : sp vs H Q (WE W σ)) : codeAny (model X.prog X.w) X.A (.call (.ref f) ⟨us, []⟩) (fun r s' => match r with | .ok (.ret v) => EP X pins σ Q v s' | .ok _ => False | .error e => X.xe e s') s := by
  have hl : us.length = ps.length := by rw [← r.length]; exact F.len _ _ _ _ h
  have b := hb s us I.kIn (by rw [List.append_nil]; exact hl)
  rw [List.append_nil] at b
  refine codeAny_mono (F.run X.A X.stack s H ⟨us, []⟩ us vs Q (WE W σ) hr I.env0 b r h) fun r s' hq => ?_
  cases r with
  | error e => exact passAt tk σ pins H s e s' I hq
  | ok fl =>
    cases fl with
    | ret v => exact I.after hq
    | next => exact hq.elim
    | brk => exact hq.elim
    | cont => exact hq.elim
/-- o(e, ..) by an own __call__ -/
def tCallOS (X : Cx) (C : Addr) (sp : Sp) (W : WX) (tf : TE) (t : TA) : TE := fun σ H Q => tf σ H fun y H1 => ∃ a, y = V.ref a ∧ t σ H1 fun vs H2 => (∃ dx fs, H2 a = some (.ins C dx fs)) ∧ sp (V.ref a :: vs) H2 Q (WE W σ)
theorem pc_cS (c : CanF X.prog X.w X.K X.mg X.base k C "__call__" sp) (tk : Takes X W) (hr : Room j X.A) (hk : k ≤ j) (hf : PE X fe tf) (ha : PA X (e :: es) t)
    (ht : eval (.Call fe (e :: es) [] pos) X.env = (do callWith pos (← eval fe X.env) [] (backTo pos (starEach (e :: es) X.env)) (backToKw pos (keywordEach [] X.env))) := by rfl)
    (he : starEach (e :: es) X.env = (false, eval e X.env) :: starEach es X.env := by rfl) (hpl : (backTo pos (starEach es X.env)).any (·.1) = false := by rfl) : PE X (.Call fe (e :: es) [] pos) (tCallOS X C sp W tf t) := by
  obtain ⟨f, fd, ps, F, hcl, hm, b, hfn⟩ := c.ex
  refine ⟨fun pins s σ H Q I h => ?_⟩
  refine Call_ (thn (hf.run pins s σ H _ I h) fun u s1 ⟨y, H1, I1, ry, a, ey, q⟩ => ?_) ht
  subst ey
  obtain rfl : u = Value.ref a := ry
  refine StX.callO_with (thn (ha.run pos pins s1 σ H1 _ I1 q) fun us s2 ⟨vs, H2, I2, r, hi, q2⟩ => ?_) he hpl
  have hi2 : StX.InsC X H2 a C := .inr hi
  obtain ⟨ox, od, J, hd⟩ := StX.insC_at I2 hi2
  exact ⟨⟨C, ox, od, J, hd⟩, wpAny_call (PySem.W.kco_code I2.kIn J hd hm.at_ hm.fn hfn (codeS (us := .ref a :: us) (vs := .ref a :: vs) F (hr.mono hk) b tk I2 (.cons rfl r) q2))⟩
def tCallO0 (X : Cx) (C : Addr) (sp : Sp) (tf : TE) (t : TA) : TE := fun σ H Q => tf σ H fun y H1 => ∃ a, y = V.ref a ∧ t σ H1 fun vs H2 => (∃ dx fs, H2 a = some (.ins C dx fs)) ∧ sp (V.ref a :: vs) H2 Q E0
theorem pc_c (c : CanF X.prog X.w X.K X.mg X.base k C "__call__" sp) (hr : Room j X.A) (hk : k ≤ j) (hf : PE X fe tf) (ha : PA X (e :: es) t)
    (ht : eval (.Call fe (e :: es) [] pos) X.env = (do callWith pos (← eval fe X.env) [] (backTo pos (starEach (e :: es) X.env)) (backToKw pos (keywordEach [] X.env))) := by rfl)
    (he : starEach (e :: es) X.env = (false, eval e X.env) :: starEach es X.env := by rfl) (hpl : (backTo pos (starEach es X.env)).any (·.1) = false := by rfl) : PE X (.Call fe (e :: es) [] pos) (tCallO0 X C sp tf t) := by
  obtain ⟨f, fd, ps, F, hcl, hm, b, hfn⟩ := c.ex
  refine ⟨fun pins s σ H Q I h => ?_⟩
  refine Call_ (thn (hf.run pins s σ H _ I h) fun u s1 ⟨y, H1, I1, ry, a, ey, q⟩ => ?_) ht
  subst ey
  obtain rfl : u = Value.ref a := ry
  refine StX.callO_with (thn (ha.run pos pins s1 σ H1 _ I1 q) fun us s2 ⟨vs, H2, I2, r, hi, q2⟩ => ?_) he hpl
  have hi2 : StX.InsC X H2 a C := .inr hi
  obtain ⟨ox, od, J, hd⟩ := StX.insC_at I2 hi2
  have F' : FnR X.prog X.w X.K X.mg X.base (L2.CX X.prog X.w) k f (fun vs H Q E => sp (vs ++ []) H Q E) := F.raw b .nil
  exact ⟨⟨C, ox, od, J, hd⟩, wpAny_call (PySem.W.kco_code I2.kIn J hd hm.at_ hm.fn hfn (run_fnR (us := .ref a :: us) (vs := .ref a :: vs) F' (hr.mono hk) passL I2 (.cons rfl r) (by rw [List.append_nil]; exact q2)))⟩
/-- C.m(e, ..), m a classmethod -/
def tCmS (C : Addr) (sp : Sp) (W : WX) (ta : TE) (t : TA) : TE := fun σ H Q => ta σ H fun x H1 => x = .ref C ∧ t σ H1 fun vs H2 => sp (.ref C :: vs) H2 Q (WE W σ)
theorem pc_cmS {pl : Sem Bool} (c : CanC X.prog X.w X.K X.mg X.base k C m sp) (tk : Takes X W) (hr : Room j X.A) (hk : k ≤ j) (he : PE X o ta) (ha : PA X (e :: es) t)
    (hst : starEach (e :: es) X.env = (false, eval e X.env) :: starEach es X.env := by rfl) (hpl : (backTo pos (starEach es X.env)).any (·.1) = false := by rfl)
    (ht : eval (.Call (.Attribute o m apos) (e :: es) [] pos) X.env = (do
      let ov ← eval o X.env
      standAt apos.atName
      let (f, first) ← holding [ov] (getMethod ov m pl)
      callWith pos f first (backTo pos (starEach (e :: es) X.env)) (backToKw pos (keywordEach [] X.env))) := by rfl) :
    PE X (.Call (.Attribute o m apos) (e :: es) [] pos) (tCmS C sp W ta t) := by
  obtain ⟨mc, pp, g, fd, ps, F, r, cm, b⟩ := c.ex
  refine ⟨fun pins s σ H Q I h => ?_⟩
  refine PySem.W.methodCall_KW (pl := pl) (thn (he.run pins s σ H _ I h) fun u s1 ⟨x, H1, I1, rx, ex, q⟩ => ?_) ht
  subst ex
  obtain rfl : u = Value.ref C := rx
  refine ClX.getmethcm_ok I1 r cm fun s2 I2 => ?_
  refine ClX.callwith_cm I2 (ClX.base_none I1 (Nat.le_refl _)) cm.fi (thn (ha.run pos _ s2 σ H1 _ I2 q) fun us s3 ⟨vs, H3, I3, r3, q3⟩ => ?_) hst hpl
  refine ⟨⟨ClX.pin_at I3, I3.kIn⟩, ?_⟩
  have z : wpAny (model X.prog X.w) X.A (call (.ref s1.heap.objs.size) us) (EP X ((s1.heap.objs.size, PySem.W.methodObj (.ref g) (.ref C)) :: pins) σ Q) X.xe s3 :=
    wpAny_call (PySem.W.method_call (ClX.pin_at I3) (codeS (us := .ref C :: us) (vs := .ref C :: vs) F (hr.mono hk) b tk I3 (.cons rfl r3) q3))
  exact thn z fun _ _ y => ClX.unpinE y
def tCm0 (C : Addr) (sp : Sp) (ta : TE) (t : TA) : TE := ClX.tCMeth C (fun vs H Q E => sp (vs ++ []) H Q E) E0 ta t
theorem pc_cm {pl : Sem Bool} (c : CanC X.prog X.w X.K X.mg X.base k C m sp) (hr : Room j X.A) (hk : k ≤ j) (he : PE X o ta) (ha : PA X (e :: es) t)
    (hst : starEach (e :: es) X.env = (false, eval e X.env) :: starEach es X.env := by rfl) (hpl : (backTo pos (starEach es X.env)).any (·.1) = false := by rfl)
    (ht : eval (.Call (.Attribute o m apos) (e :: es) [] pos) X.env = (do
      let ov ← eval o X.env
      standAt apos.atName
      let (f, first) ← holding [ov] (getMethod ov m pl)
      callWith pos f first (backTo pos (starEach (e :: es) X.env)) (backToKw pos (keywordEach [] X.env))) := by rfl) :
    PE X (.Call (.Attribute o m apos) (e :: es) [] pos) (tCm0 C sp ta t) := by
  obtain ⟨mc, pp, g, fd, ps, F, r, cm, b⟩ := c.ex
  exact ClX.pe_cmeth (pl := pl) he r cm (F.raw b .nil) (hr.mono hk) passL ha hst hpl ht
/-- cls(e, ..), the class at C in the slot i -/
def tMakeV (i : Nat) (C : Addr) (sp : Sp) (W : WX) (t : TA) : TE := fun σ H Q => σ[i]? = some (some (.ref C)) ∧ tMakeS C sp W t σ H Q
theorem pc_nV {n : Str} (c : CanN X.prog X.w X.K X.mg X.base k C n sp) (tk : Takes X W) (hr : Room j X.A) (hk : k + 1 ≤ j) (hN : X.N[i]? = some x) (hv : Vis X.env.scope x) (ha : PA X (e :: es) t)
    (hdb : (x == ("__debug__" : Str)) = false := by decide) (hcd : (x == ("__classdict__" : Str)) = false := by decide) (he : starEach (e :: es) X.env = (false, eval e X.env) :: starEach es X.env := by rfl) (hpl : (backTo pos (starEach es X.env)).any (·.1) = false := by rfl) :
    PE X (.Call (.Name x p) (e :: es) [] pos) (tMakeV i C sp W t) := by
  obtain ⟨f, fd, ps, F, M, hm, b⟩ := c.ex
  have hr := hr.mono hk
  constructor
  intro pins s σ H Q I h
  obtain ⟨hs, h⟩ := h
  refine wpAny_Call_Name_kw (thn ((pe_var (pos := p) hN hv hdb hcd).run pins s σ H (fun v H1 => v = .ref C ∧ H1 = H) I ⟨.ref C, hs, rfl, rfl⟩) fun u s0 ⟨v, H1, I0, r1, q1⟩ => ?_)
  obtain ⟨rfl, rfl⟩ := q1
  cases r1
  refine PySem.W.callWith_K (h₀ := X.base) I0.ok.mod.kin M.kp (thn (ha.run pos pins s0 σ _ _ I0 h) ?_) he hpl
  rintro us s1 ⟨vs, G, I1, r, q⟩
  refine ⟨I1.kIn, ?_⟩
  have hq := q (s1.heap.objs.size + 1) s1.heap.objs.size (I1.hok.fresh (Nat.le_succ _)) (I1.hok.fresh (Nat.le_refl _)) (Nat.ne_of_lt (Nat.lt_succ_self _))
  have J := Inv.made (C := C) I1
  have r2 : Vals (V.ref (s1.heap.objs.size + 1) :: vs) (Value.ref (s1.heap.objs.size + 1) :: us) := .cons rfl r
  have hl : (Value.ref (s1.heap.objs.size + 1) :: us ++ []).length = ps.length := by
    have z := r2.length
    rw [F.len _ _ _ _ hq] at z
    rw [List.append_nil]
    exact z.symm
  have bb := b _ (Value.ref (s1.heap.objs.size + 1) :: us) J.kIn hl
  rw [List.append_nil] at bb
  refine wpAny_call (make_map (f := f) I1.kIn M.makes M.init (beq_iff_eq.mp M.fn) (codeAny_mono (F.run _ X.stack _ _ ⟨Value.ref (s1.heap.objs.size + 1) :: us, []⟩ (Value.ref (s1.heap.objs.size + 1) :: us) _ _ (WE W σ) (hr.make C us []) (J.env0.make C us []) bb r2 hq) ?_))
  intro r s' z
  cases r with
  | error er => exact passAt tk σ pins _ _ er s' J z
  | ok fl =>
    cases fl with
    | ret u =>
      obtain ⟨v, H', I3, rv, ev, q3⟩ := J.after z
      subst ev
      exact ⟨rv, V.ref (s1.heap.objs.size + 1), H', I3, rfl, q3⟩
    | next => exact z.elim
    | brk => exact z.elim
    | cont => exact z.elim
end
end Kit

end
section
set_option Elab.async false
set_option linter.all false
set_option maxRecDepth 100000
set_option maxHeartbeats 4000000
namespace Kit
open PySem PySem.Spec PyProof.Rows L2
/-! ### sorted(text) -/
section
variable {X : Cx}
theorem sortT (hcalm : X.calm = true) : CallR X (.builtin "sorted") (fun xs H Q => ∃ l : List Nat, xs = [tx l] ∧ l.length < 64 ∧ ∀ (ys : List Str) (p : Addr), ys.Perm (l.map fun x => S [x]) → sortedS ys = true → H p = none → Q (.ref p) (upd H p (.lst (ys.map V.str)))) := by
  intro pins s σ H xs us Q I r q
  obtain ⟨l, rfl, h64, q⟩ := q
  obtain ⟨u, rfl, t, rfl⟩ := vals1 r
  refine Calls.call_function_entry PyProof.Rows.kind_sorted PyProof.Rows.plain_sorted PyProof.Rows.entry_sorted (PyProof.Rows.args_sorted1 _) ?_
  unfold Builtin.«sorted»
  refine wpAny_bind (m := checkCount "sorted" 1 1 _) (wpAny_pure ?_)
  have hsz : (S l).cps.size = l.length := S_len l
  refine wpAny_bind (wpAny_collect_str (A := X.A.in1) (I.ok.hd hcalm) (S l) t (hn := by rw [hsz, sizeLine_eq]; omega) fun s' acc hk hg hdr hos hacc => ?_)
  have hal : acc.toList.length = l.length := by rw [Array.length_toList, hacc.1, hsz]
  have hS : StrsAre acc.toList (l.map fun x => S [x]) := strs_at (by rw [hal, List.length_map]) fun j v e => by
    obtain ⟨c, tk, e1, rfl⟩ := hacc.2 j v (by rw [← Array.getElem?_toList]; exact e)
    refine ⟨S [c], tk, ?_, rfl⟩
    have e1' : l[j]? = some c := by
      rw [← Array.getElem?_toList] at e1
      exact e1
    rw [List.getElem?_map, e1']
    rfl
  obtain ⟨h', g', d', tk', os'⟩ := s'
  have eg : g' = s.gens := hg
  have ed : d' = s.drawn := hdr
  have eo : os' = s.os := hos
  subst eg; subst ed; subst eo
  have I1 : Inv X pins σ H { s with heap := h', toks := tk' } := I.kept hk
  refine wpAny_bind (wpAny_newList ?_ (by rw [hal, sizeLine_eq]; omega))
  have hoL : (h'.push (seqObj "list" acc.toList.toArray 0)).get? h'.objs.size = some (seqObj "list" acc.toList.toArray 0) := Heap.get?_push_size _ rfl
  show wpAny _ _ _ _ _ { s with heap := h'.push (seqObj "list" acc.toList.toArray 0), toks := tk' }
  refine wpAny_bind (wpAny_holding (wpAny_call_entry PyProof.Rows.slot_list_sort ⟨_, hoL, rfl⟩ PyProof.Rows.entry_list_sort
    (list_sort_treeK strKind_oneLt (s := { s with heap := h'.push (seqObj "list" acc.toList.toArray 0), toks := tk' }) hoL hS.keysOf (fun v₁ v₂ rest e => keyKind_strs (by rw [← e]; exact hS)) (by rw [hal]; exact h64) fun st' hp hs => ⟨_, rfl, ?_⟩)
    (PyProof.Rows.args_list_sort _)))
  obtain ⟨ys, g1, g2, g3⟩ := sorted_out_str hS hp hs
  obtain ⟨e', he'⟩ := PyProof.Rows.sortedHeap_at (vs := acc.toList) (out := (arrOf st').map (·.2)) hoL
  have hlen : (ys.map V.str).length ≤ sizeLine := by
    rw [List.length_map, g2.length_eq, List.length_map]
    exact Nat.le_trans (Nat.le_of_lt h64) (by decide)
  refine wpAny_pure ⟨_, rfl, .ref h'.objs.size, upd H h'.objs.size (.lst (ys.map V.str)), I1.laid (t' := tk') (fun b u e => ?_) (Nat.le_refl _)
    (show ObjOk X.prog X.w _ _ _ (.lst (ys.map V.str)) from ⟨hlen, ((arrOf st').map (·.2)).toList, e', vals_of_strs g1, by rw [Array.toArray_toList]; exact he'⟩), rfl, q ys _ g2 g3 (I1.hok.fresh (Nat.le_refl _))⟩
  have hb : b < h'.objs.size := Heap.lt_size e
  rw [PyProof.Rows.sortedHeap_old (Nat.ne_of_lt hb) (by rw [size_push']; exact Nat.lt_succ_of_lt hb)]
  exact Heap.get?_push_of_some _ e
end
/-! ### len(set(text)) -/
section
variable {prog : Program} {w : World} {A : Around} {R : Result → Shared → Prop} {I : Addr} {fp wr : List Addr} {G : Array GenState → Array GenState → Prop} {n : Nat} {x : Str} {St : Nat → Shared → Prop}
def one1 (c : Nat) : Str := ⟨#[c]⟩
theorem one1_inj {c d : Nat} (h : one1 c = one1 d) : c = d := by
  have q : [c] = [d] := congrArg (fun y : Str => y.cps.toList) h
  exact (List.cons.inj q).1
theorem mem_one1 {acc : List Nat} {c : Nat} : decide (one1 c ∈ acc.map one1) = decide (c ∈ acc) := by
  by_cases h : c ∈ acc
  · rw [decide_eq_true h, decide_eq_true (List.mem_map_of_mem h)]
  · rw [decide_eq_false h, decide_eq_false]
    intro q
    obtain ⟨d, hd, e⟩ := List.mem_map.mp q
    exact h (one1_inj e ▸ hd)
theorem loopTx (W : WalksS prog w A.in1 I fp wr G n (SignAt x) St) (P : Addr) (hPf : P ∉ fp) (hsz : x.cps.size = n) (hn1 : n ≤ 1000) :
    ∀ (k i : Nat) (s : Shared) (acc : List Nat), n - i = k → i ≤ n → St i s → acc.Nodup → (∀ c, c ∈ acc ↔ c ∈ x.cps.toList.take i) → acc.length ≤ i →
      s.heap.SetOf (PySem.strKind prog w) P (fun k' => decide (k' ∈ acc.map one1)) acc.length →
      (∀ (s' : Shared) (acc' : List Nat), Moved (P :: wr) G s s' → acc'.Nodup → (∀ c, c ∈ acc' ↔ c ∈ x.cps.toList) → acc'.length ≤ n → s'.heap.SetOf (PySem.strKind prog w) P (fun k' => decide (k' ∈ acc'.map one1)) acc'.length → R (.ok (.ret .none)) s') →
      codeAny (model prog w) A (.builtin "set.update.loop" ⟨[.ref P, .ref I], []⟩) R s := by
  have hPw : P ∉ wr := fun h => hPf (W.sub _ h)
  have hsub : ∀ b ∈ wr, b ∈ P :: wr := fun b hb => List.mem_cons_of_mem _ hb
  intro k
  induction k with
  | zero =>
    intro i s acc hk hi hst hnd hmem hle hS hR
    have hin : i = n := by omega
    subst hin
    refine codeAny_builtin PyProof.Rows.F.entry_set_update_loop ?_
    rw [Around.under_plainId PyProof.Rows.F.plain_set_update_loop _]
    show wpAny _ A.in1 (pyNext (.ref I) >>= _) _ _ s
    refine wpAny_bind (W.done s _ _ hst fun s' hm => ?_)
    show wpAny _ A.in1 (ret Value.none) _ _ s'
    refine wpAny_pure (hR s' acc (hm.mono hsub) hnd (fun c => ?_) hle (by
      obtain ⟨o, es, ep, t, ho, rest⟩ := hS
      exact ⟨o, es, ep, t, hm.heap P _ hPw ho, rest⟩))
    rw [hmem c, List.take_of_length_le (by rw [Array.length_toList]; omega)]
  | succ k ih =>
    intro i s acc hk hi hst hnd hmem hle hS hR
    have hlt : i < n := by omega
    refine codeAny_builtin PyProof.Rows.F.entry_set_update_loop ?_
    rw [Around.under_plainId PyProof.Rows.F.plain_set_update_loop _]
    show wpAny _ A.in1 (pyNext (.ref I) >>= _) _ _ s
    refine wpAny_bind (W.item i s _ _ hlt hst fun v s' hP hst' hm => ?_)
    obtain ⟨c, t, hc, rfl⟩ := hP
    have hS' : s'.heap.SetOf (PySem.strKind prog w) P (fun k' => decide (k' ∈ acc.map one1)) acc.length := by
      obtain ⟨o, es, ep, tb, ho, rest⟩ := hS
      exact ⟨o, es, ep, tb, hm.heap P _ hPw ho, rest⟩
    have htk : x.cps.toList.take (i + 1) = x.cps.toList.take i ++ [c] := by
      rw [List.take_add_one, Array.getElem?_toList, hc]
      rfl
    show wpAny _ A.in1 (holding [Value.str (one1 c) t] (setAdd P (.str (one1 c) t)) >>= _) _ _ s'
    refine wpAny_bind (wpAny_holding ?_)
    unfold setAdd
    refine wpAny_holding ?_
    refine wpAny_bind ((PySem.strKind prog w).pyHash (k := one1 c) (strKind_is _ _ _ _) ?_)
    refine wpAny_setAddHashed_of (knd := PySem.strKind prog w) (s := { s' with toks := s'.toks + 1 }) (strKind_is _ _ _ _) rfl hS' (by unfold scanBound; omega) fun h' hsb hS2 => ?_
    have step : ∃ acc2 : List Nat, acc2.Nodup ∧ (∀ d, d ∈ acc2 ↔ d ∈ x.cps.toList.take (i + 1)) ∧ acc2.length ≤ i + 1 ∧ h'.SetOf (PySem.strKind prog w) P (fun k' => decide (k' ∈ acc2.map one1)) acc2.length := by
      by_cases hin : c ∈ acc
      · refine ⟨acc, hnd, fun d => ?_, by omega, SetOf_congr hS2 (fun k' => ?_) ?_⟩
        · rw [htk, List.mem_append, ← hmem d, List.mem_singleton]
          exact ⟨.inl, fun q => q.elim id fun e => e ▸ hin⟩
        · show (decide (k' ∈ acc.map one1) || decide (k' = one1 c)) = decide (k' ∈ acc.map one1)
          by_cases e : k' = one1 c
          · subst e
            rw [mem_one1, decide_eq_true hin, Bool.true_or]
          · rw [decide_eq_false e, Bool.or_false]
        · rw [mem_one1, if_pos (decide_eq_true hin)]
      · refine ⟨c :: acc, List.nodup_cons.mpr ⟨hin, hnd⟩, fun d => ?_, by simp; omega, SetOf_congr hS2 (fun k' => ?_) ?_⟩
        · rw [htk, List.mem_append, ← hmem d, List.mem_singleton, List.mem_cons]
          exact Or.comm
        · show (decide (k' ∈ acc.map one1) || decide (k' = one1 c)) = decide (k' ∈ (c :: acc).map one1)
          rw [List.map_cons]
          by_cases e : k' = one1 c
          · subst e
            rw [decide_eq_true (List.mem_cons_self ..), decide_eq_true rfl, Bool.or_true]
          · rw [decide_eq_false e, Bool.or_false]
            by_cases q : k' ∈ acc.map one1
            · rw [decide_eq_true q, decide_eq_true (List.mem_cons_of_mem _ q)]
            · rw [decide_eq_false q, decide_eq_false (fun z => (List.mem_cons.mp z).elim e q)]
        · rw [mem_one1, if_neg (by rw [decide_eq_false hin]; exact Bool.false_ne_true)]
          rfl
    obtain ⟨acc2, n2, m2, l2, S2⟩ := step
    refine wpAny_pure ⟨plainId_quiet PyProof.Rows.F.plain_set_update_loop _, ih (i + 1) _ acc2 (by omega) hlt (W.frame _ s' _ _ hst' (Nat.le_succ _) fun b hb o e => ?_) n2 m2 l2 S2 fun s'' acc' hm'' a1 a2 a3 a4 => ?_⟩
    · rw [hsb.2 b (fun h : b = P => hPf (by rw [← h]; exact hb))]; exact e
    · refine hR s'' acc' (Moved.trans W.gtrans ((hm.mono hsub).then_heap (Nat.le_succ _) fun b o hb e => ?_) hm'') a1 a2 a3 a4
      rw [hsb.2 b (fun h : b = P => hb (by rw [h]; exact List.mem_cons_self))]; exact e
end
theorem sub_str_set : isSubtype (.type "str") (.type "set") = pure false := by rw [isSubtype_type]; kernel_rfl
theorem sub_str_frozenset : isSubtype (.type "str") (.type "frozenset") = pure false := by rw [isSubtype_type]; kernel_rfl
section
variable {prog : Program} {w : World} {A : Around} {E : Value → Shared → Prop} {s : Shared}
set_option maxHeartbeats 3200000 in
theorem call_set_tx {x : Str} {u : Tok} {Q : Value → Shared → Prop} (hh : A.handled = none) (hn1 : x.cps.size ≤ 1000)
    (h : ∀ (h' : Heap) (tk : Nat) (acc : List Nat), acc.Nodup → (∀ c, c ∈ acc ↔ c ∈ x.cps.toList) → acc.length ≤ x.cps.size → h'.SetOf (PySem.strKind prog w) s.heap.objs.size (fun k' => decide (k' ∈ acc.map one1)) acc.length →
      (∀ b o, b < s.heap.objs.size → s.heap.get? b = some o → h'.get? b = some o) → Q (.ref s.heap.objs.size) { s with heap := h', toks := tk }) :
    wpAny (model prog w) A (call (.type "set") [.str x u]) Q E s := by
  obtain ⟨c, tl, hmro⟩ := PySem.F.called_set.mro
  have hmade := PySem.F.called_set.made
  have hsub := PySem.F.called_set.sub
  refine wpAny_call (codeAny_of_tree ?_)
  show wpAny _ _ (callAny (.type "set") _) _ _ _
  refine wpAny_pure ⟨Code.quiet_builtin _ (by decide +kernel), codeAny_builtin PySem.F.entry_type_call ?_⟩
  rw [Around.under_plain (weight_type_call_type "set" [.str x u] []) rfl]
  have h1 := PySem.F.called_set.notType
  have h2 := PySem.F.called_set.canCreate
  have hct := PySem.F.typeCall_set_1 (.str x u)
  repeat (any_goals (first | assumption | wp_step))

  refine codeAny_mono (code_set_new_1 (.str x u) (E := E) (Q₁ := fun obj s₁ => ∃ led : Bool, obj = .ref s.heap.objs.size ∧ s₁ = { s with heap := s.heap.push { cls := .type "set", dict := none, data := .set #[] 0 (.fresh 0 0 led) } }) fun led => ⟨led, rfl, rfl⟩) fun r s₁ hr => ?_
  cases r with
  | error e => exact hr
  | ok fl =>
    cases fl with
    | ret obj =>
      obtain ⟨led, rfl, rfl⟩ := hr
      have hS : (s.heap.push { cls := .type "set", dict := none, data := .set #[] 0 (.fresh 0 0 led) }).get? s.heap.objs.size = some { cls := .type "set", dict := none, data := .set #[] 0 (.fresh 0 0 led) } := Heap.get?_push_size _ rfl
      have hT : Shared.TypeIs { s with heap := s.heap.push { cls := .type "set", dict := none, data := .set #[] 0 (.fresh 0 0 led) } } (.ref s.heap.objs.size) "set" := ⟨_, hS, rfl⟩
      have hli := PySem.F.called_set.init.lookup
      have hbi := PySem.F.called_set.init.bind (.ref s.heap.objs.size)
      repeat (any_goals (first | assumption | wp_step))

      refine codeAny_mono (codeAny_call_builtin (R := wants (fun r s₂ => r = .none ∧ ∃ (h' : Heap) (tk : Nat) (acc : List Nat), s₂ = { s with heap := h', toks := tk } ∧ acc.Nodup ∧ (∀ c, c ∈ acc ↔ c ∈ x.cps.toList) ∧ acc.length ≤ x.cps.size ∧
          h'.SetOf (PySem.strKind prog w) s.heap.objs.size (fun k' => decide (k' ∈ acc.map one1)) acc.length ∧
          (∀ b o, b < s.heap.objs.size → s.heap.get? b = some o → h'.get? b = some o)) E) PySem.F.called_set.init.plain PySem.F.entry_set_init (check_set_init_1 hT ?_)) fun r₂ s₂ hr₂ => ?_
      · have hty : typeOf (.str x u) = pure (.type "str") := rfl
        have hsls := sub_str_set
        have hslf := sub_str_frozenset
        have hne : (Value.type "str" == Value.type "dict") = false := by decide
        unfold Builtin.«set.__init__» noKeywords Builtin.Frozenset.updateFrom
        generalize hPI : pyIter = PI
        wp_walk
        subst hPI
        refine wpAny_pyIter_str fun o St W hst => ?_
        refine wpAny_bind (wpAny_runValue ?_)
        have hh3 : A.in1.in1.in1.handled = none := by simp [hh]
        have hSf : s.heap.objs.size ∉ [(s.heap.push { cls := .type "set", dict := none, data := .set #[] 0 (.fresh 0 0 led) }).objs.size] := by
          rw [Heap.size_push]
          intro q
          exact Nat.ne_of_lt (Nat.lt_succ_self _) (List.mem_singleton.mp q)
        refine loopTx ((W _ hh3).toS) s.heap.objs.size hSf rfl hn1 (x.cps.size - 0) 0 _ [] (by omega) (Nat.zero_le _) hst List.nodup_nil (fun c => by simp) (Nat.le_refl _) ?hS0 ?hR
        case hS0 =>
          have hget : ((s.heap.push { cls := .type "set", dict := none, data := .set #[] 0 (.fresh 0 0 led) }).push o).get? s.heap.objs.size
              = some { cls := .type "set", dict := none, data := .set #[] 0 (.fresh 0 0 led) } := Heap.get?_push_of_some _ hS
          exact PyProof.Rows.SetOf_congr ((PyProof.Rows.setObjOf_fresh (knd := PySem.strKind prog w) led).setOf hget (by unfold scanBound; omega)) (fun _ => by simp) rfl
        case hR =>
          intro s' acc' hm a1 a2 a3 hS'
          obtain ⟨h', g', d', tk', os'⟩ := s'
          have eg : g' = s.gens := hm.gens
          have ed : d' = s.drawn := hm.drawn
          have eo : os' = s.os := hm.os
          subst eg; subst ed; subst eo
          show wpAny _ _ _ _ _ _
          refine wpAny_pure ?_
          show wpAny _ _ (ret Value.none) _ _ _
          refine wpAny_pure ⟨rfl, h', tk', acc', rfl, a1, a2, a3, hS', fun b o hb e => ?_⟩
          have hb1 : b ≠ s.heap.objs.size := Nat.ne_of_lt hb
          have hb2 : b ≠ (s.heap.push { cls := .type "set", dict := none, data := .set #[] 0 (.fresh 0 0 led) }).objs.size := by
            rw [Heap.size_push]; exact Nat.ne_of_lt (Nat.lt_succ_of_lt hb)
          exact hm.heap b o (by simp only [List.mem_cons, List.mem_singleton, List.not_mem_nil, or_false, not_or]; exact ⟨hb1, hb2⟩) (Heap.get?_push_of_some _ (Heap.get?_push_of_some _ e))
      · cases r₂ with
        | error e => exact hr₂
        | ok fl₂ =>
          cases fl₂ with
          | ret r =>
            obtain ⟨rfl, h', tk, acc, rfl, a1, a2, a3, hS', hk'⟩ := hr₂
            repeat (any_goals (first | assumption | wp_step))
            exact h _ _ acc a1 a2 a3 hS' hk'
          | _ => exact hr₂.elim
    | _ => exact hr.elim
end
/-- len(set(text)) -/
def tLenSetT (ta : TE) : TE := fun σ H Q => ta σ H fun x H1 => ∃ l : List Nat, x = tx l ∧ l.length ≤ 1000 ∧ ∀ acc : List Nat, acc.Nodup → (∀ c, c ∈ acc ↔ c ∈ l) → Q (.int acc.length) H1
section
variable {X : Cx}
theorem pe_lenSetT {a : Expr} {ta : TE} {p p2 q pos : Pos} (hc : X.calm = true) (hg : Gl X "len") (hm : X.mg "len" = none) (hg2 : Gl X "set") (hm2 : X.mg "set" = none) (ha : PE X a ta)
    (na : starEach [a] X.env = (false, eval a X.env) :: starEach [] X.env := by rfl) : PE X (.Call (.Name "len" p) [.Call (.Name "set" p2) [a] [] q] [] pos) (tLenSetT ta) := by
  refine ⟨fun pins s σ H Q I h => ?_⟩
  refine Call_ (ld_blt I hg hm boot_len ?_)
  refine PyProof.Rows.callWith_builtin1 (PyProof.Rows.args_cons ?_ rfl) rfl rfl
  refine Call_ (ld_blt I hg2 hm2 boot_set ?_)
  refine PyProof.Rows.callWith_type1 (PyProof.Rows.args_cons (thn (ha.run pins s σ H _ I h) fun v s1 ⟨x, H1, I1, r1, q1⟩ => PyProof.Rows.args_nil ?_) na) na rfl
  obtain ⟨l, rfl, hl, q1⟩ := q1
  obtain ⟨t, rfl⟩ := r1
  refine call_set_tx (I1.ok.hd hc) (by show (S l).length ≤ 1000; rw [S_len]; exact hl) fun h' tk acc a1 a2 a3 hS hk => PyProof.Rows.args_nil ?_
  have a3' : acc.length ≤ 1000 := by
    have e : (S l).cps.size = l.length := S_len l
    rw [e] at a3
    omega
  obtain ⟨o, es, ep, t2, ho, hex, hd, _, _, _, hf, hn⟩ := hS
  have I2 : Inv X pins σ H1 { s1 with heap := h', toks := tk } := I1.kept fun b o e => hk b o (Heap.lt_size e) e
  refine call_len_set ho hex hd hf (by rw [hn] <;> omega) ⟨.int acc.length, H1, I2.tok _, ⟨_, by rw [hn]⟩, q1 acc a1 fun c => ?_⟩
  rw [a2 c, S_cps]
end
end Kit

end
section
set_option Elab.async false
set_option linter.all false
set_option maxRecDepth 100000
set_option maxHeartbeats 4000000
namespace Kit
open PySem PySem.Spec PyProof.Rows L2
/-! ### zip over lists and texts -/
inductive Sd where
  | L (a : Addr)
  | T (x : Str)
def signs (x : Str) : List V := x.cps.toList.map fun c => .str ⟨#[c]⟩
def Sd.at (H : Hp) : Sd → List V → Prop
  | .L a, xs => H a = some (.lst xs)
  | .T x, xs => xs = signs x
def Sd.st (h : Heap) (it : Addr) (i : Nat) : Sd → Prop
  | .L a => h.IsListIter it a i
  | .T x => ∃ t, h.IsStrIter it (strIterType x) x t i
theorem Sd.live {h : Heap} {it : Addr} {i : Nat} {sd : Sd} (st : sd.st h it i) : ∃ o, h.get? it = some o ∧ ∀ v, o.data ≠ .cell v := by
  cases sd with
  | L a =>
    obtain ⟨o, ho, hc, hd⟩ := st
    exact ⟨o, ho, fun v q => by rw [hd] at q; cases q⟩
  | T x =>
    obtain ⟨t, o, ho, hc, hd⟩ := st
    exact ⟨o, ho, fun v q => by rw [hd] at q; cases q⟩
theorem Sd.keep {h h' : Heap} {it : Addr} {i : Nat} {sd : Sd} (st : sd.st h it i) (k : ∀ o, h.get? it = some o → h'.get? it = some o) : sd.st h' it i := by
  cases sd with
  | L a =>
    obtain ⟨o, ho, r⟩ := st
    exact ⟨o, k _ ho, r⟩
  | T x =>
    obtain ⟨t, o, ho, r⟩ := st
    exact ⟨t, o, k _ ho, r⟩
structure Dr (X : Cx) (H : Hp) (h : Heap) (sd : Sd) (it : Addr) (i : Nat) (xs : List V) : Prop where
  ex : ∃ (fp : List Addr) (P : Nat → Value → Prop) (St : Nat → Heap → Prop), Draws X.prog X.w X.A.in1 it fp xs.length P St ∧ St i h ∧ it ∈ fp ∧ (∀ c ∈ fp, c = it ∨ H c ≠ none) ∧ (∀ j h', St j h' → sd.st h' it j) ∧ (∀ x u, P i u → xs[i]? = some x → RelV x u)
theorem dr_of {X : Cx} {pins : List (Addr × Obj)} {σ : St} {H : Hp} {s : Shared} {sd : Sd} {it : Addr} {i : Nat} {xs : List V} (hc : X.calm = true) (I : Inv X pins σ H s) (hn : H it = none) (hat : sd.at H xs) (st : sd.st s.heap it i) : Dr X H s.heap sd it i xs := by
  cases sd with
  | L a =>
    have hat : H a = some (.lst xs) := hat
    obtain ⟨hzz, its, nn, rv, hl0⟩ := (show ObjOk X.prog X.w H s.heap a (.lst xs) from I.hok a _ hat)
    have hL : s.heap.IsList a its.toArray := ⟨_, hl0, rfl, nn, rfl⟩
    have hne : a ≠ it := fun q => by rw [q, hn] at hat; cases hat
    have hl : its.toArray.size = xs.length := by rw [List.size_toArray, rv.length]
    refine ⟨[it, a], _, _, hl ▸ Draws.list (A := X.A.in1) (show X.A.in1.handled = none from I.ok.hd hc) it a hne its.toArray, ⟨st, hL⟩, by simp, fun c hcm => ?_, fun j h' q => q.1, fun x u hu hx => ?_⟩
    · have e : c = it ∨ c = a := by simpa using hcm
      rcases e with e | e
      · exact .inl e
      · refine .inr ?_
        rw [e, hat]
        simp
    · obtain ⟨u', hu', ru⟩ := rv.get hx
      have z : its[i]? = some u := by simpa using hu
      rw [hu'] at z
      cases z
      exact ru
  | T x =>
    obtain ⟨t, st⟩ := st
    have hat : xs = signs x := hat
    have hl : x.cps.size = xs.length := by rw [hat, signs, List.length_map, Array.length_toList]
    refine ⟨[it], _, _, hl ▸ Draws.text (A := X.A.in1) (show X.A.in1.handled = none from I.ok.hd hc) it x t, st, by simp, fun c hcm => .inl (by simpa using hcm), fun j h' q => ⟨t, q⟩, fun y u hu hx => ?_⟩
    obtain ⟨c, tk, hc', rfl⟩ := hu
    rw [hat, signs, List.getElem?_map, Array.getElem?_toList, hc'] at hx
    cases hx
    exact ⟨tk, rfl⟩
structure Cells (z TI TO i1 i2 : Addr) : Prop where
  a1 : TI ≠ z
  a2 : TO ≠ z
  a3 : TI ≠ TO
  a4 : TI ≠ i1
  a5 : TI ≠ i2
  a6 : TO ≠ i1
  a7 : TO ≠ i2
  a8 : z ≠ i1
  a9 : z ≠ i2
  a10 : i1 ≠ i2
theorem sep_of {H : Hp} {z TI TO i1 i2 : Addr} {f1 f2 : List Addr} (C : Cells z TI TO i1 i2) (hn : ∀ b ∈ [z, TI, TO, i1, i2], H b = none) (m1 : i1 ∈ f1) (m2 : i2 ∈ f2) (h1 : ∀ c ∈ f1, c = i1 ∨ H c ≠ none) (h2 : ∀ c ∈ f2, c = i2 ∨ H c ≠ none) :
    ZipSep2 z TI TO i1 i2 f1 f2 where
  TIz := C.a1
  TOz := C.a2
  TITO := C.a3
  TIi1 := C.a4
  mem1 := m1
  zf1 := fun q => (h1 _ q).elim C.a8 fun k => k (hn _ (by simp))
  Tf1 := fun q => (h1 _ q).elim C.a6 fun k => k (hn _ (by simp))
  TIi2 := C.a5
  mem2 := m2
  zf2 := fun q => (h2 _ q).elim C.a9 fun k => k (hn _ (by simp))
  Tf2 := fun q => (h2 _ q).elim C.a7 fun k => k (hn _ (by simp))
  sep1_2 := fun q => (h2 _ q).elim C.a10 fun k => k (hn _ (by simp))
  sep2_1 := fun q => (h1 _ q).elim (Ne.symm C.a10) fun k => k (hn _ (by simp))
def ItZ (d1 d2 : Sd) : It :=
  ⟨fun i G => ∃ (xs ys : List V) (x y : V), d1.at G xs ∧ d2.at G ys ∧ xs[i]? = some x ∧ ys[i]? = some y,
    fun i G v G' => ∃ T x y, v = .ref T ∧ G T = none ∧ G' = upd G T (.tup [x, y]) ∧ (∀ xs, d1.at G xs → xs[i]? = some x) ∧ ∀ ys, d2.at G ys → ys[i]? = some y,
    fun i G => ∃ xs ys : List V, d1.at G xs ∧ d2.at G ys ∧ i ≤ xs.length ∧ i ≤ ys.length ∧ (i = xs.length ∨ i = ys.length)⟩
theorem Sd.inj {H : Hp} {sd : Sd} {xs ys : List V} (h1 : sd.at H xs) (h2 : sd.at H ys) : xs = ys := by
  cases sd with
  | L a =>
    have h1 : H a = some (.lst xs) := h1
    have h2 : H a = some (.lst ys) := h2
    rw [h1] at h2
    cases h2
    rfl
  | T x => exact Eq.trans h1 (Eq.symm h2)
theorem turn_Z {P : Program} {w : World} {K : PySem.W.Frag} {elts : List Expr} {kk : Nat} {tpos : Pos} (d1 d2 : Sd) {z TI TO i1 i2 : Addr} (C : Cells z TI TO i1 i2) :
    Turn P w K (.Tuple elts kk tpos) (ItZ d1 d2) [z, TI, TO, i1, i2] z (fun i h => IsZip h z TI TO .none ∧ IsTupOf2 h TI (.ref i1) (.ref i2) ∧ (∃ x y, IsTupOf2 h TO x y) ∧ d1.st h i1 i ∧ d2.st h i2 i) where
  mem := by simp
  obj := fun i h st c hc => by
    obtain ⟨hz, hTI, ⟨x, y, hTO⟩, s1, s2⟩ := st
    have e' : c = z ∨ c = TI ∨ c = TO ∨ c = i1 ∨ c = i2 := by simpa using hc
    rcases e' with q | q | q | q | q
    · rw [q]; exact ⟨_, hz, fun v q => nomatch q⟩
    · rw [q]; exact ⟨_, hTI, fun v q => nomatch q⟩
    · rw [q]; exact ⟨_, hTO, fun v q => nomatch q⟩
    · rw [q]; exact Sd.live s1
    · rw [q]; exact Sd.live s2
  keep := fun i h h' st k => by
    obtain ⟨hz, hTI, ⟨x, y, hTO⟩, s1, s2⟩ := st
    exact ⟨k z (by simp) _ hz, k TI (by simp) _ hTI, ⟨x, y, k TO (by simp) _ hTO⟩, Sd.keep s1 fun o q => k i1 (by simp) o q, Sd.keep s2 fun o q => k i2 (by simp) o q⟩
  item := by
    intro X hP hw hK hc i pins s σ H E I hf st hg
    subst hP hw hK
    obtain ⟨hz, hTI, ⟨x0, y0, hTO⟩, s1, s2⟩ := st
    obtain ⟨xs, ys, x, y, hqx, hqy, hx, hy⟩ := hg
    obtain ⟨f1, P1, St1, D1, t1, m1, u1, b1, r1⟩ := (dr_of hc I (hf i1 (by simp)).1 hqx s1).ex
    obtain ⟨f2, P2, St2, D2, t2, m2, u2, b2, r2⟩ := (dr_of hc I (hf i2 (by simp)).1 hqy s2).ex
    have SS := sep_of C (fun b hb => (hf b hb).1) m1 m2 u1 u2
    have hl1 := (List.getElem?_eq_some_iff.mp hx).1
    have hl2 := (List.getElem?_eq_some_iff.mp hy).1
    have hzl : z < s.heap.objs.size := Heap.lt_size hz
    refine wpAny_pyNext_zipD2_item SS D1 D2 hz hTI hTO t1 t2 hl1 hl2 fun v1 v2 h' tk p1 p2 z' TO' t1' t2' hT hsz hk => ?_
    refine ⟨_, rfl, wpAny_letOwnedTupleGo_zip (s := { s with heap := h', toks := tk }) z' fun h'' z'' sb => ?_⟩
    have ru := r1 x v1 p1 hx
    have ru2 := r2 y v2 p2 hy
    have hT2 : h''.get? s.heap.objs.size = some { cls := .type "tuple", data := .seq #[v1, v2] } := (sb.2 _ (Nat.ne_of_gt hzl)).trans hT
    have new : ObjOk X.prog X.w (upd H s.heap.objs.size (.tup [x, y])) h'' s.heap.objs.size (.tup [x, y]) :=
      ⟨by show 2 ≤ sizeLine; decide, [v1, v2], .cons ru (.cons ru2 .nil), ⟨_, hT2, rfl, _, rfl⟩⟩
    have I1 : Inv X pins σ (upd H s.heap.objs.size (.tup [x, y])) { s with heap := h'', toks := tk } :=
      I.turnedNew (ch := [z, TI, TO, i1, i2]) (fun c o hb q => (sb.2 c (fun q' => hb (by simp [q']))).trans (hk c o (fun q' => hb (by simp [q'])) (fun q' => hb (by simp [q'])) (fun q' => hb (by simp [q'])) (fun q' => hb (by simp [q'])) q)) hf (Nat.le_refl _) new
    refine ⟨.ref s.heap.objs.size, _, I1, rfl, ⟨_, x, y, rfl, I.hok.fresh (Nat.le_refl _), rfl, fun l hl => by rw [Sd.inj hl hqx]; exact hx, fun l hl => by rw [Sd.inj hl hqy]; exact hy⟩, ⟨z'', ?_, ⟨v1, v2, ?_⟩, ?_, ?_⟩, fun c hcm => ?_⟩
    · exact (sb.2 _ C.a1).trans (hk _ _ C.a1 C.a3 C.a4 C.a5 hTI)
    · exact (sb.2 _ C.a2).trans TO'
    · exact Sd.keep (b1 _ _ t1') fun o q => (sb.2 _ (Ne.symm C.a8)).trans q
    · exact Sd.keep (b2 _ _ t2') fun o q => (sb.2 _ (Ne.symm C.a9)).trans q
    · have hlt : c < s.heap.objs.size := by
        have e' : c = z ∨ c = TI ∨ c = TO ∨ c = i1 ∨ c = i2 := by simpa using hcm
        rcases e' with q | q | q | q | q
        · rw [q]; exact hzl
        · rw [q]; exact Heap.lt_size hTI
        · rw [q]; exact Heap.lt_size hTO
        · rw [q]; obtain ⟨_, e1, _⟩ := Sd.live s1; exact Heap.lt_size e1
        · rw [q]; obtain ⟨_, e2, _⟩ := Sd.live s2; exact Heap.lt_size e2
      rw [upd_ne (Nat.ne_of_lt hlt)]
      exact (hf c hcm).1
  done := by
    intro X hP hw hK hc i pins s σ H E I hf st hg
    subst hP hw hK
    obtain ⟨hz, hTI, ⟨x0, y0, hTO⟩, s1, s2⟩ := st
    obtain ⟨xs, ys, hqx, hqy, hi1, hi2, hend⟩ := hg
    obtain ⟨f1, P1, St1, D1, t1, m1, u1, b1, r1⟩ := (dr_of hc I (hf i1 (by simp)).1 hqx s1).ex
    obtain ⟨f2, P2, St2, D2, t2, m2, u2, b2, r2⟩ := (dr_of hc I (hf i2 (by simp)).1 hqy s2).ex
    have SS := sep_of C (fun b hb => (hf b hb).1) m1 m2 u1 u2
    exact wpAny_pyNext_zipD2_end SS D1 D2 hz hTI hTO t1 t2 hi1 hi2 hend fun h' tk hk => ⟨rfl, I.turnedL (t' := tk) (ch := [z, TI, TO, i1, i2]) (fun c o hb q =>
      hk c o (fun q' => hb (by simp [q'])) (fun q' => hb (by simp [q'])) (fun q' => hb (by simp [q'])) (fun q' => hb (by simp [q'])) q) hf⟩
  self := fun A i s Q E st h => wpAny_pyIter_zip st.1 h
theorem walk_Z {d1 d2 : Sd} {xs ys : List V} {n : Nat} (hn : n = min xs.length ys.length) : Walk (ItZ d1 d2) n (fun G => d1.at G xs ∧ d2.at G ys) (YPair (fun i => xs[i]?) (fun i => ys[i]?)) := by
  subst hn
  refine ⟨fun i G hi q => ⟨xs, ys, xs[i], ys[i], q.1, q.2, List.getElem?_eq_getElem (by omega), List.getElem?_eq_getElem (by omega)⟩, fun G q => ⟨xs, ys, q.1, q.2, by omega, by omega, by omega⟩, ?_⟩
  rintro i G v G' hi q ⟨T, x, y, rfl, hT, rfl, hx, hy⟩
  exact ⟨T, x, y, rfl, hT, rfl, hx xs q.1, hy ys q.2⟩
def Sd.v : Sd → V
  | .L a => .ref a
  | .T x => .str x
def iZipZ (ta : TA) : TI := fun σ H R => ta σ H fun vs H1 => ∃ d1 d2 xs ys, vs = [Sd.v d1, Sd.v d2] ∧ d1.at H1 xs ∧ d2.at H1 ys ∧ R (ItZ d1 d2) H1
theorem bg_of {X : Cx} {pins : List (Addr × Obj)} {σ : St} {H : Hp} {s : Shared} {sd : Sd} {u : Value} {xs : List V} (I : Inv X pins σ H s) (r : RelV sd.v u) (hat : sd.at H xs) :
    ∃ (o : Obj) (HH : Heap → Prop), Begins u o HH ∧ HH s.heap ∧ ∀ (h' : Heap) (it : Addr), h'.get? it = some o → sd.st h' it 0 := by
  cases sd with
  | L a =>
    cases r
    obtain ⟨hzz, its, nn, rv, hl0⟩ := (show ObjOk X.prog X.w H s.heap a (.lst xs) from I.hok a _ hat)
    have hL : s.heap.IsList a its.toArray := ⟨_, hl0, rfl, nn, rfl⟩
    exact ⟨_, _, begins_list a its.toArray, hL, fun h' it e => ⟨_, e, rfl, rfl⟩⟩
  | T x =>
    obtain ⟨t, rfl⟩ := r
    exact ⟨_, _, begins_text x t, True.intro, fun h' it e => ⟨t, _, e, rfl, rfl⟩⟩
theorem cells_of (n : Nat) : Cells (n + 4) (n + 2) (n + 3) n (n + 1) where
  a1 := fun e : n + 2 = n + 4 => by omega
  a2 := fun e : n + 3 = n + 4 => by omega
  a3 := fun e : n + 2 = n + 3 => by omega
  a4 := fun e : n + 2 = n => by omega
  a5 := fun e : n + 2 = n + 1 => by omega
  a6 := fun e : n + 3 = n => by omega
  a7 := fun e : n + 3 = n + 1 => by omega
  a8 := fun e : n + 4 = n => by omega
  a9 := fun e : n + 4 = n + 1 => by omega
  a10 := fun e : n = n + 1 => by omega
theorem pi_zipZ {X : Cx} {e e2 : Expr} {ta : TA} {p pos tpos : Pos} {elts : List Expr} {kk : Nat} (hg : Gl X "zip") (hm : X.mg "zip" = none) (ha : PA X [e, e2] ta)
    (hs : starEach [e, e2] X.env = (false, eval e X.env) :: starEach [e2] X.env := by rfl) (hpl : (backTo pos (starEach [e2] X.env)).any (·.1) = false := by rfl) :
    PI X (.Tuple elts kk tpos) (.Call (.Name "zip" p) [e, e2] [] pos) (iZipZ ta) := by
  refine ⟨fun pins s σ H R I h => ?_⟩
  refine Call_ (ld_blt I hg hm PyProof.Rows.boot_zip (PyProof.Rows.callWith_type1 (thn (ha.run pos pins s σ H _ I h) fun us s1 ⟨vs, H1, I1, r1, q1⟩ => ?_) hs hpl))
  obtain ⟨d1, d2, xs, ys, ex, hqx, hqy, q⟩ := q1
  subst ex
  cases r1 with
  | cons r rr =>
    cases rr with
    | cons r' rr =>
      cases rr
      obtain ⟨o1, H1', B1, k1, c1⟩ := bg_of I1 r hqx
      obtain ⟨o2, H2', B2, k2, c2⟩ := bg_of I1 r' hqy
      refine zip_begins2 B1 B2 k1 k2 fun h' hz hTI hTO h1 h2 hsz hk => wpAny_pyIter_zip hz ?_
      have I2 : Inv X pins σ H1 { s1 with heap := h' } := I1.kept (t' := s1.toks) hk
      refine ⟨s1.heap.objs.size + 4, [s1.heap.objs.size + 4, s1.heap.objs.size + 2, s1.heap.objs.size + 3, s1.heap.objs.size, s1.heap.objs.size + 1], _, _, H1, rfl, I2, turn_Z d1 d2 (cells_of _), ⟨hz, hTI, ⟨_, _, hTO⟩, c1 _ _ h1, c2 _ _ h2⟩, fun c hcm => ?_, q⟩
      have e' : c = s1.heap.objs.size + 4 ∨ c = s1.heap.objs.size + 2 ∨ c = s1.heap.objs.size + 3 ∨ c = s1.heap.objs.size ∨ c = s1.heap.objs.size + 1 := by simpa using hcm
      have hle : s1.heap.objs.size ≤ c := by
        rcases e' with z | z | z | z | z
        · rw [z]; exact Nat.le_add_right _ _
        · rw [z]; exact Nat.le_add_right _ _
        · rw [z]; exact Nat.le_add_right _ _
        · rw [z]; exact Nat.le_refl _
        · rw [z]; exact Nat.le_add_right _ _
      exact I1.fpOk hle (I1.hok.fresh hle)
end Kit

end
section
set_option Elab.async false
set_option linter.all false
set_option maxRecDepth 100000
set_option maxHeartbeats 4000000
namespace Kit
open PySem PySem.Spec PyProof.Rows L2
/-! ### raise X(), X an own error without __init__ -/
abbrev veB : List Value := [.type "ValueError", .type "Exception", .type "BaseException", .type "object"]
structure ErrZ (K : PySem.W.Frag) (mg : Str → Option Value) (C : Addr) (x : Str) : Prop where
  gC : mg x = some (.ref C)
  ex : PySem.W.excIn K C veB "ValueError.__new__" = true
  kC : PySem.W.keepIn K (.ref C) = true
  sB : PySem.W.subIn K (.ref C) (.type "BaseException") = some true
  tC : PySem.W.typeIn K (.ref C) = some (.type "type")
section
variable {X : Cx} {C : Addr} {x : Str} {W : WX} {p pos pos2 : Pos}
theorem pr_own0 (c : ErrZ X.K X.mg C x) (tk : Takes X W) (hcalm : X.calm = true) (hg : Gl X x) (hdb : (x == ("__debug__" : Str)) = false := by decide) :
    PS X (.Raise (some (.Call (.Name x p) [] [] pos)) none pos2) (fun _ σ H => W (.ref C) none σ H) := by
  refine L2.ps_raise hcalm tk (t := fun σ H Q => Q (.ref C) none H) ?_
  intro pins s σ H Q I h
  refine wpAny_Call_Name_kw (ld_glob I hg c.gC ?_ hdb)
  refine PySem.W.callWith_K0 I.kIn c.kC ?_
  show wpAny _ _ (call (.ref C) []) _ _ _
  obtain ⟨bm, N, nm, qn, bs, hdct, sn, sub, ab, col, dd, k0, k1, k2, k3, k5, mN, hC, hN, hni, T⟩ := exc_obj I.kIn c.ex
  obtain ⟨hp, g, dr, tk', os⟩ := s
  refine wpAny_call_exc_subT PySem.F.excBase_ValueError T hC hN hni (fun h' e hm => ?_) (by show 0 ≤ sizeLine; exact Nat.zero_le _)
  exact mk_of I hm (raises_own c.sB c.tC) h (I.hok.gone hm.new)
end
/-! ### own == with any thing whose type does not come first -/
section
variable {X : Cx} {C : Addr} {k j : Nat} {sp : Sp}
def OtherOk2 (K : PySem.W.Frag) (C : Addr) (H : Hp) (y : V) : Prop := (∃ i, y = .int i) ∨ (∃ z, y = .str z) ∨ (∃ b dx fs, y = .ref b ∧ H b = some (.ins C dx fs)) ∨ ∃ b xs, y = .ref b ∧ H b = some (.lst xs)
def rEqO2 (K : PySem.W.Frag) (C : Addr) (sp : Sp) : R2 := fun x y H Q => ∃ a dx fs, x = .ref a ∧ H a = some (.ins C dx fs) ∧ OtherOk2 K C H y ∧ sp [x, y] H (fun v G => ∃ b, v = .bl b ∧ Q (.bl b) G) E0
theorem eqO2 (K : PySem.W.Frag) (c : CanM X.prog X.w X.K X.mg X.base k C "__eq__" sp) (hr : Room j X.A) (hk : k ≤ j) (hni : PySem.W.notFirst K C (.type "int") = true) (hns : PySem.W.notFirst K C (.type "str") = true) (hnl : PySem.W.notFirst K C (.type "list") = true) (hK : X.K = K := by rfl) : OpR X (compareOp .Eq) (rEqO2 K C sp) := by
  subst hK
  obtain ⟨f, fd, ps, F, hc, hm, b⟩ := c.ex
  intro pins s σ H x y v u Q I rx ry hq
  obtain ⟨a, dx, fs, rfl, ha, ho, h⟩ := hq
  cases rx
  show wpAny (model X.prog X.w) X.A (richCompare .Eq (.ref a) u) (EP X pins σ Q) X.xe s
  obtain ⟨mA, J, _⟩ := ins_get I.hok ha
  obtain ⟨od, J, _⟩ := J.look
  obtain ⟨m, hF⟩ := I.fr
  have tb : ∃ tb, PySem.W.Looks (model X.prog X.w) s.heap (typeOf u) tb ∧ PySem.W.notFirst X.K C tb = true := by
    rcases ho with ⟨i, rfl⟩ | ⟨z, rfl⟩ | ⟨b', dy, gs, rfl, hb'⟩ | ⟨b', xs, rfl, hb'⟩
    · obtain ⟨t, rfl⟩ := ry
      exact ⟨.type "int", .now, hni⟩
    · obtain ⟨t, rfl⟩ := ry
      exact ⟨.type "str", .now, hns⟩
    · cases ry
      obtain ⟨mB, J', _⟩ := ins_get I.hok hb'
      obtain ⟨od', J', _⟩ := J'.look
      exact ⟨.ref C, J'.type, by simp [PySem.W.notFirst]⟩
    · cases ry
      obtain ⟨hzz, its, nn, rv, hl0⟩ := (show ObjOk X.prog X.w H s.heap b' (.lst xs) from I.hok b' _ hb')
      exact ⟨.type "list", PySem.W.Looks.ld hl0 |>.andThen .now, hnl⟩
  obtain ⟨tb, htb, hnf⟩ := tb
  refine PySem.W.cmp_K (op := .Eq) (tb := tb) (hr.mono hk).units0 hF I.ok.mod.kin J htb hnf hm.at_ hm.fn ?_
  refine wpAny_mono (run_fn (us := [.ref a, u]) (vs := [.ref a, y]) (dvs := []) (ds := []) F (hr.mono hk) b .nil passL I (.cons rfl (.cons ry .nil)) h) (fun r s' z => ?_) fun _ _ x => x
  obtain ⟨v, H', I', rv, bb, rfl, q⟩ := z
  cases rv
  exact ⟨.bl bb, H', I', rfl, q⟩
end
end Kit
namespace Kit
open PySem PySem.Spec PyProof.Rows L2
/-! ### own != by an own == -/
section
variable {M : Model} {A : Around} {E : Value → Shared → Prop} {s : Shared} {K : PySem.W.Frag} {x C : Addr} {ox : Obj} {od : Option Obj} {b : Value}
theorem ifNe {Q : Option Value → Shared → Prop} (X : K.In s.heap) (I : PySem.W.InstAt s.heap x ox C od) (hs : PySem.W.findIn K (.ref C) "__ne__" = some (some (.builtin "object.__ne__")))
    (h : wpAny M A (call (.builtin "object.__ne__") [.ref x, b]) (fun v => Q (some v)) E s) : wpAny M A (callSpecialIfBound? (.ref x) "__ne__" [b]) Q E s := by
  have hb : bindSpecial (.builtin "object.__ne__") (.ref x) = pure (.builtin "object.__ne__", [.ref x]) := PySem.F.slot_object_ne.bind (.ref x)
  simp only [callSpecialIfBound?, bindSpecialIfBound?]
  refine wpAny_holding (wpAny_bind (wpAny_bind (wpAny_bind (I.type.here ((PySem.W.looks_findIn X hs).here ?_)))))
  refine wpAny_bind (wpAny_askSetting (wpAny_ite ?_))
  have fin : wpAny M A (call (.builtin "object.__ne__") ([.ref x] ++ [b]) >>= fun v => pure (some v)) Q E s := wpAny_bind (wpAny_mono h (fun v s' h' => wpAny_pure h') fun _ _ h' => h')
  split
  · rw [hb]
    exact wpAny_bind (wpAny_pure (wpAny_pure fin))
  · rw [hb]
    exact wpAny_tryCatch (wpAny_bind (wpAny_pure (wpAny_pure fin)))
theorem objNe {prog : Program} {w : World} {f : Addr} {Q : Value → Shared → Prop} (hu : A.in1.units < cLine) (X : K.In s.heap) (I : PySem.W.InstAt s.heap x ox C od) (hm : PySem.W.mroIn K C (.type "object") = some true)
    (he : PySem.W.findIn K (.ref C) "__eq__" = some (some (.ref f))) (hf : PySem.W.isFn K (.ref f) = true) (h : wpAny (model prog w) A.in1 (call (.ref f) [.ref x, b]) (fun v s' => ∃ c, v = .bool c ∧ Q (.bool (!c)) s') E s) :
    wpAny (model prog w) A (call (.builtin "object.__ne__") [.ref x, b]) Q E s := by
  refine wpAny_call (codeAny_call_builtin PySem.F.slot_object_ne.plain PySem.F.cmpEntry_ne (PySem.W.check_slot PySem.F.cmpKind_ne PySem.F.cmpSplit_ne (I.type.andThen (PySem.W.looks_mroIn X hm)) (PySem.F.cmpArgs_ne _ _) ?_))
  unfold Builtin.«object.__ne__»
  refine wpAny_bind (wpAny_pure ?_)
  refine wpAny_bind (wpAny_cRoomFor hu ?_)
  refine wpAny_bind (PySem.W.ifBound_K X I he hf (wpAny_mono h (fun v s' hv => ?_) fun _ _ e => e))
  obtain ⟨c, rfl, q⟩ := hv
  refine wpAny_bind (m := truthy (.bool c)) (wpAny_truthy_bool ?_)
  exact wpAny_pure q
end
section
variable {X : Cx} {C : Addr} {k j : Nat} {sp : Sp}
/-- what a class has that takes != from its == -/
structure NeT (K : PySem.W.Frag) (C : Addr) : Prop where
  ne : PySem.W.findIn K (.ref C) "__ne__" = some (some (.builtin "object.__ne__"))
  hm : PySem.W.mroIn K C (.type "object") = some true
def rNeO (C : Addr) (sp : Sp) : R2 := fun x y H Q => ∃ a dx fs b dy gs, x = .ref a ∧ H a = some (.ins C dx fs) ∧ y = .ref b ∧ H b = some (.ins C dy gs) ∧ sp [x, y] H (fun v G => ∃ c, v = .bl c ∧ Q (.bl (!c)) G) E0
theorem neO (K : PySem.W.Frag) (c : CanM X.prog X.w X.K X.mg X.base k C "__eq__" sp) (hr : Room j X.A) (hk : k + 1 ≤ j) (N : NeT K C) (hK : X.K = K := by rfl) : OpR X (compareOp .NotEq) (rNeO C sp) := by
  subst hK
  obtain ⟨f, fd, ps, F, hc, hm, b⟩ := c.ex
  intro pins s σ H x y v u Q I rx ry hq
  obtain ⟨a, dx, fs, b', dy, gs, rfl, ha, rfl, hb', h⟩ := hq
  cases rx
  cases ry
  show wpAny (model X.prog X.w) X.A (richCompare .NotEq (.ref a) (.ref b')) (EP X pins σ Q) X.xe s
  obtain ⟨mA, J, _⟩ := ins_get I.hok ha
  obtain ⟨od, J, _⟩ := J.look
  obtain ⟨mB, J', _⟩ := ins_get I.hok hb'
  obtain ⟨od', J', _⟩ := J'.look
  have hr1 : Room k X.A.in1 := (hr.mono hk).in1
  have e0 : Env0 X.prog X.w X.K X.mg X.base X.A.in1 X.stack s H := by
    have e := I.env0
    exact ⟨e.frames, e.mod, e.bs, e.bsz, e.funs, e.frf, e.hok, e.bare⟩
  have hl := F.len _ _ _ _ h
  have bb := b s [.ref a, .ref b'] I.kIn (by simpa using hl)
  unfold richCompare
  simp only [oneThing_ref]
  refine wpAny_holding (wpAny_bind (wpAny_cRoomFor (hr.mono hk).units0 ?_))
  refine wpAny_bind (J.type.here (wpAny_bind (J'.type.here ?_)))
  rw [show (Value.ref C != Value.ref C) = false from by simp]
  simp only [Bool.false_eq_true, if_false]
  refine wpAny_bind (wpAny_pure ?_)
  simp only [Bool.false_eq_true, if_false]
  have one : wpAny (model X.prog X.w) X.A (tryCompare (.ref a) "__ne__" (.ref b')) (fun r s' => ∃ v, r = some v ∧ EP X pins σ Q v s') X.xe s := by
    unfold tryCompare
    refine wpAny_bind (ifNe I.kIn J N.ne (objNe hr1.units0 I.kIn J N.hm hm.at_ hm.fn (wpAny_call (codeAny_mono (F.run X.A.in1 X.stack s H ⟨[.ref a, .ref b'], []⟩ [.ref a, .ref b'] [.ref a, .ref b'] _ E0 hr1 e0 (by simpa using bb) (.cons rfl (.cons rfl .nil)) h) ?_))))
    intro z s' hq
    cases z with
    | error e =>
      obtain ⟨_, _, _, _, _, _, _, _, _, _, _, _, y⟩ := hq
      exact y.elim
    | ok fl =>
      cases fl with
      | ret w =>
        obtain ⟨v, H', I', rz, c, rfl, q⟩ := I.after hq
        cases rz
        exact ⟨c, rfl, wpAny_pure ⟨_, rfl, .bl (!c), H', I', rfl, q⟩⟩
      | next => exact hq.elim
      | brk => exact hq.elim
      | cont => exact hq.elim
  refine wpAny_bind (wpAny_mono one (fun r s' z => ?_) fun _ _ e => e)
  obtain ⟨v, rfl, hq⟩ := z
  exact wpAny_pure hq
end
end Kit
namespace Kit
open PySem PySem.Spec PyProof.Rows L2
theorem units1 {k : Nat} {A : Around} (r : Room k A) : A.units + 1 < cLine := by
  have := r.un
  omega
end Kit

end
section
set_option Elab.async false
set_option linter.all false
set_option maxRecDepth 100000
set_option maxHeartbeats 4000000
namespace Kit
open PySem PySem.Spec PyProof.Rows L2
/-! ### comprehensions over pairs; dict comprehensions -/
section
variable {J : It} {n : Nat} {G : Hp → Prop} {Y : Nat → Hp → V → Hp → Prop} {te tk tv : TE} {σ : St} {H1 : Hp} {D : Addr} {Qd : Hp → Prop} {K : PySem.W.Frag} {xs ys : Nat → Option V}
theorem lc_two (w : Walk J n G (YPair xs ys)) {i j : Nat} (out : List V) (hn : out.length = n) (hsz : n ≤ 100000) (hD : H1 D = none) (hG : ∀ H, Same H1 H → G H) (hw : ∀ x y, wipe (((wipe σ [i, j]).set i (some x)).set j (some y)) [i, j] = wipe σ [i, j])
    (hs : ∀ k x y H v, k < n → Same H1 H → xs k = some x → ys k = some y → out[k]? = some v → ∀ Q : VK, (∀ M, Same H M → Q v M) → te (((wipe σ [i, j]).set i (some x)).set j (some y)) H Q)
    (hd : ∀ H, Same H1 H → H D = some (.lst out) → Qd H) :
    ∃ W : Nat → Nat → Hp → Prop, (∃ m, W 0 m (upd H1 D (.lst []))) ∧ ∀ k m H, W k m H →
      (J.stop k H ∧ Qd H) ∨ (J.go k H ∧ ∃ Nx : Hp → Prop, (∀ H', Nx H' → ∃ m', m' < m ∧ W (k + 1) m' H') ∧ ∀ x H', J.yld k H x H' → gTup K 2 (gCons (gName i) (gCons (gName j) gNil)) x (wipe σ [i, j]) H' fun σ2 H2 => wipe σ2 [i, j] = wipe σ [i, j] ∧ tYes σ2 H2 fun b H3 =>
        if b = true then te σ2 H3 fun y H4 => ∃ acc, H4 D = some (.lst acc) ∧ acc.length < sizeLine ∧ Nx (upd H4 D (.lst (acc ++ [y]))) else Nx H3) := by
  refine lc_it w (fun i H => Same H1 H ∧ H D = some (.lst (out.take i))) ⟨ex_new hD, upd_same⟩ (fun i H _ h => hG H h.1) ?_ ?_
  · rintro k v H H' hi ⟨s1, hHD⟩ ⟨T, x, y, rfl, hT, rfl, hx, hy⟩
    have hv : out[k]? = some (out[k]'(by omega)) := List.getElem?_eq_getElem _
    have s2 := s1.trans (ex_new (o := .tup [x, y]) hT)
    refine ⟨T, [x, y], rfl, seqT_of upd_same, rfl, x, [y], rfl, y, [], rfl, rfl, hw x y, ?_⟩
    unfold tYes
    dsimp only
    rw [if_pos rfl]
    refine hs k x y _ _ hi s2 hx hy hv _ fun M s3 => ⟨out.take k, s3 _ _ (ex_new hT _ _ hHD), by rw [List.length_take]; exact szlt (by omega), ?_⟩
    refine ⟨ex_mut (s2.trans s3) hD, ?_⟩
    rw [upd_same, List.take_add_one, hv]
    rfl
  · rintro H ⟨s1, hHD⟩
    refine hd H s1 ?_
    rw [hHD, List.take_of_length_le (by omega)]
/-- the dict's reading, as lc_it -/
theorem dc_it (w : Walk J n G Y) {g : TG} {tt : TT} {vs : List Nat} (Pv : Nat → Hp → Prop) (h0 : Pv 0 (upd H1 D (.dK []))) (hG : ∀ i H, i ≤ n → Pv i H → G H)
    (hs : ∀ i x H H', i < n → Pv i H → Y i H x H' → g x (wipe σ vs) H' fun σ2 H2 => wipe σ2 vs = wipe σ vs ∧ tt σ2 H2 fun b H3 =>
      if b = true then tk σ2 H3 fun y H4 => tv σ2 H4 fun z H5 => ∃ kvs k, y = kV k ∧ H5 D = some (.dK kvs) ∧ kvs.length < sizeLine ∧ Pv (i + 1) (upd H5 D (.dK (putK kvs k z))) else Pv (i + 1) H3) (hd : ∀ H, Pv n H → Qd H) :
    ∃ W : Nat → Nat → Hp → Prop, (∃ m, W 0 m (upd H1 D (.dK []))) ∧ ∀ i m H, W i m H →
      (J.stop i H ∧ Qd H) ∨ (J.go i H ∧ ∃ Nx : Hp → Prop, (∀ H', Nx H' → ∃ m', m' < m ∧ W (i + 1) m' H') ∧ ∀ x H', J.yld i H x H' → g x (wipe σ vs) H' fun σ2 H2 => wipe σ2 vs = wipe σ vs ∧ tt σ2 H2 fun b H3 =>
        if b = true then tk σ2 H3 fun y H4 => tv σ2 H4 fun z H5 => ∃ kvs k, y = kV k ∧ H5 D = some (.dK kvs) ∧ kvs.length < sizeLine ∧ Nx (upd H5 D (.dK (putK kvs k z))) else Nx H3) := by
  refine ⟨fun i m H => m = n - i ∧ i ≤ n ∧ Pv i H, ⟨n, by simp, Nat.zero_le _, h0⟩, ?_⟩
  rintro i m H ⟨rfl, hi, p⟩
  have q := hG i H hi p
  by_cases hlt : i < n
  · refine .inr ⟨w.goes i H hlt q, Pv (i + 1), fun H' p' => ⟨n - (i + 1), by omega, rfl, hlt, p'⟩, fun x H' y => hs i x H H' hlt p (w.yields i H x H' hlt q y)⟩
  · have e : i = n := by omega
    subst e
    exact .inl ⟨w.stops H q, hd H p⟩
theorem put_take {ks : List Key} {out : List V} (hle : ks.length ≤ out.length) (hnd : ks.Nodup) {i : Nat} {k : Key} {v : V} (hk : ks[i]? = some k) (hv : out[i]? = some v) : putK ((ks.zip out).take i) k v = (ks.zip out).take (i + 1) := by
  have hz : (ks.zip out)[i]? = some (k, v) := by
    rw [List.getElem?_zip_eq_some]
    exact ⟨hk, hv⟩
  rw [putK_new, List.take_add_one, hz]
  · rfl
  · cases e : valV ((ks.zip out).take i) k with
    | none => rfl
    | some u =>
      exfalso
      have h1 := valV_in e
      rw [List.map_take, List.map_fst_zip hle] at h1
      obtain ⟨j, hj⟩ := List.mem_iff_getElem?.mp h1
      rw [List.getElem?_take] at hj
      split at hj
      · rename_i hlt
        have hlt2 : j < i := by omega
        have hjl := (List.getElem?_eq_some_iff.mp hj).1
        have := (List.getElem?_inj hjl hnd).mp (hj.trans hk.symm)
        omega
      · cases hj
theorem dc_one (w : Walk J n G Y) {j : Nat} (ks : List Key) (out : List V) (hk : ks.length = n) (hn : out.length = n) (hnd : ks.Nodup) (hsz : n ≤ 100000) (hD : H1 D = none) (hG : ∀ H, Same H1 H → G H)
    (hs : ∀ i x H H' k v, i < n → Same H1 H → Y i H x H' → ks[i]? = some k → out[i]? = some v → Same H H' ∧ ∀ Q : V → V → Hp → Prop, (∀ M, Same H' M → Q (kV k) v M) → tk (σ.set j (some x)) H' fun y H4 => tv (σ.set j (some x)) H4 fun z H5 => Q y z H5)
    (hd : ∀ H, Same H1 H → H D = some (.dK (ks.zip out)) → Qd H) :
    ∃ W : Nat → Nat → Hp → Prop, (∃ m, W 0 m (upd H1 D (.dK []))) ∧ ∀ i m H, W i m H →
      (J.stop i H ∧ Qd H) ∨ (J.go i H ∧ ∃ Nx : Hp → Prop, (∀ H', Nx H' → ∃ m', m' < m ∧ W (i + 1) m' H') ∧ ∀ x H', J.yld i H x H' → gName j x (wipe σ [j]) H' fun σ2 H2 => wipe σ2 [j] = wipe σ [j] ∧ tYes σ2 H2 fun b H3 =>
        if b = true then tk σ2 H3 fun y H4 => tv σ2 H4 fun z H5 => ∃ kvs k, y = kV k ∧ H5 D = some (.dK kvs) ∧ kvs.length < sizeLine ∧ Nx (upd H5 D (.dK (putK kvs k z))) else Nx H3) := by
  refine dc_it w (fun i H => Same H1 H ∧ H D = some (.dK ((ks.zip out).take i))) ⟨ex_new hD, upd_same⟩ (fun i H _ h => hG H h.1) ?_ ?_
  · rintro i x H H' hi ⟨s1, hHD⟩ y
    have hv : out[i]? = some (out[i]'(by omega)) := List.getElem?_eq_getElem _
    have hkk : ks[i]? = some (ks[i]'(by omega)) := List.getElem?_eq_getElem _
    obtain ⟨s2, ht⟩ := hs i x H H' _ _ hi s1 y hkk hv
    refine ⟨wipe1 j _, ?_⟩
    unfold tYes
    dsimp only
    rw [if_pos rfl, set1]
    refine ht _ fun M s3 => ⟨(ks.zip out).take i, _, rfl, s3 _ _ (s2 _ _ hHD), by rw [List.length_take]; exact szlt (by omega), ?_⟩
    refine ⟨ex_mut ((s1.trans s2).trans s3) hD, ?_⟩
    rw [upd_same, put_take (by omega) hnd hkk hv]
  · rintro H ⟨s1, hHD⟩
    refine hd H s1 ?_
    rw [hHD, List.take_of_length_le (by rw [List.length_zip]; omega)]
theorem dc_two (w : Walk J n G (YPair xs ys)) {i j : Nat} (ks : List Key) (out : List V) (hk : ks.length = n) (hn : out.length = n) (hnd : ks.Nodup) (hsz : n ≤ 100000) (hD : H1 D = none) (hG : ∀ H, Same H1 H → G H) (hw : ∀ x y, wipe (((wipe σ [i, j]).set i (some x)).set j (some y)) [i, j] = wipe σ [i, j])
    (hs : ∀ l x y H k v, l < n → Same H1 H → xs l = some x → ys l = some y → ks[l]? = some k → out[l]? = some v → ∀ Q : V → V → Hp → Prop, (∀ M, Same H M → Q (kV k) v M) → tk (((wipe σ [i, j]).set i (some x)).set j (some y)) H fun y' H4 => tv (((wipe σ [i, j]).set i (some x)).set j (some y)) H4 fun z H5 => Q y' z H5)
    (hd : ∀ H, Same H1 H → H D = some (.dK (ks.zip out)) → Qd H) :
    ∃ W : Nat → Nat → Hp → Prop, (∃ m, W 0 m (upd H1 D (.dK []))) ∧ ∀ l m H, W l m H →
      (J.stop l H ∧ Qd H) ∨ (J.go l H ∧ ∃ Nx : Hp → Prop, (∀ H', Nx H' → ∃ m', m' < m ∧ W (l + 1) m' H') ∧ ∀ x H', J.yld l H x H' → gTup K 2 (gCons (gName i) (gCons (gName j) gNil)) x (wipe σ [i, j]) H' fun σ2 H2 => wipe σ2 [i, j] = wipe σ [i, j] ∧ tYes σ2 H2 fun b H3 =>
        if b = true then tk σ2 H3 fun y H4 => tv σ2 H4 fun z H5 => ∃ kvs k, y = kV k ∧ H5 D = some (.dK kvs) ∧ kvs.length < sizeLine ∧ Nx (upd H5 D (.dK (putK kvs k z))) else Nx H3) := by
  refine dc_it w (fun i H => Same H1 H ∧ H D = some (.dK ((ks.zip out).take i))) ⟨ex_new hD, upd_same⟩ (fun i H _ h => hG H h.1) ?_ ?_
  · rintro l v H H' hi ⟨s1, hHD⟩ ⟨T, x, y, rfl, hT, rfl, hx, hy⟩
    have hv : out[l]? = some (out[l]'(by omega)) := List.getElem?_eq_getElem _
    have hkk : ks[l]? = some (ks[l]'(by omega)) := List.getElem?_eq_getElem _
    have s2 := s1.trans (ex_new (o := .tup [x, y]) hT)
    refine ⟨T, [x, y], rfl, seqT_of upd_same, rfl, x, [y], rfl, y, [], rfl, rfl, hw x y, ?_⟩
    unfold tYes
    dsimp only
    rw [if_pos rfl]
    refine hs l x y _ _ _ hi s2 hx hy hkk hv _ fun M s3 => ⟨(ks.zip out).take l, _, rfl, s3 _ _ (ex_new hT _ _ hHD), by rw [List.length_take]; exact szlt (by omega), ?_⟩
    refine ⟨ex_mut (s2.trans s3) hD, ?_⟩
    rw [upd_same, put_take (by omega) hnd hkk hv]
  · rintro H ⟨s1, hHD⟩
    refine hd H s1 ?_
    rw [hHD, List.take_of_length_le (by rw [List.length_zip]; omega)]
theorem zip_get {ks : List Key} {out : List V} (hle : ks.length ≤ out.length) (hnd : ks.Nodup) {i : Nat} {k : Key} {v : V} (hk : ks[i]? = some k) (hv : out[i]? = some v) : valV (ks.zip out) k = some v := by
  have hz : (ks.zip out)[i]? = some (k, v) := by
    rw [List.getElem?_zip_eq_some]
    exact ⟨hk, hv⟩
  have hm : (k, v) ∈ ks.zip out := List.mem_of_getElem? hz
  have hn : ((ks.zip out).map (·.1)).Nodup := by
    rw [List.map_fst_zip hle]
    exact hnd
  exact val_nodup hn _ hm
end
/-! ### an error without fields -/
def RaZ (E : XK) (C : Addr) (H : Hp) : Prop := ∀ M, Same H M → E (.ref C) none M
theorem RaZ.mono {E : XK} {C : Addr} {H G : Hp} (h : RaZ E C H) (e : Same H G) : RaZ E C G := fun M s => h M (e.trans s)
end Kit
namespace Kit
open PySem PySem.Spec PyProof.Rows L2
/-! ### the caught error in its own suite -/
section
variable {X : Cx} {a : Addr} {oe : Obj} {pn : List (Addr × Obj)} {cls : Value} {d : Option Addr} {e : Expr} {te : TE} {fld : Str} {pos : Pos}
theorem call_isU (hz : Zc cls d oe) (hf : ∃ z, oe.data = .fields z) : CallR (X.suite a ((a, oe) :: pn)) (.builtin "isinstance") (rIsP X.K a cls d) := call_isP (X := X.suite a ((a, oe) :: pn)) (List.mem_cons_self ..) hz hf
theorem pe_xu (hz : Zc cls d oe) (hf : ∃ z, oe.data = .fields z) (he : PE (X.suite a ((a, oe) :: pn)) e te) (hb : attributeBase e fld (X.suite a ((a, oe) :: pn)).env (eval e (X.suite a ((a, oe) :: pn)).env) = eval e (X.suite a ((a, oe) :: pn)).env := by rfl) : PE (X.suite a ((a, oe) :: pn)) (.Attribute e fld pos) (tXP X.K a cls d fld te) := pe_xp (List.mem_cons_self ..) hz hf he hb
end
end Kit
namespace Kit
open PySem PySem.Spec PyProof.Rows L2
section
variable {X : Cx} {k j : Nat} {C : Addr} {m : Str} {sp : Sp} {pos apos : Pos} {o : Expr} {ta : TE}
theorem pc_m0 {pl : Sem Bool} (c : CanM X.prog X.w X.K X.mg X.base k C m sp) (hr : Room j X.A) (hk : k ≤ j) (he : PE X o ta)
    (ht : eval (.Call (.Attribute o m apos) [] [] pos) X.env = (do
      let v ← eval o X.env
      standAt apos.atName
      let (f, first) ← holding [v] (getMethod v m pl)
      callWith pos f first (backTo pos (starEach [] X.env)) (backToKw pos (keywordEach [] X.env))) := by rfl) :
    PE X (.Call (.Attribute o m apos) [] [] pos) (tMeth C m sp [] E0 ta tNil) := by
  obtain ⟨f, fd, ps, F, hc, hm, b⟩ := c.ex
  exact pe_meth0 (pl := pl) he hc hm F (hr.mono hk) b .nil passL ht
end
end Kit

end
section
set_option Elab.async false
set_option linter.all false
set_option maxRecDepth 100000
set_option maxHeartbeats 4000000
namespace Kit
open PySem PySem.Spec PyProof.Rows L2
/-! ### [.. for .. for ..]: the two walks -/
section
variable {J J1 : It} {n n1 : Nat} {G G1 : Hp → Prop} {Y Y1 : Nat → Hp → V → Hp → Prop} {g1 : TG} {tt1 : TT} {te : TE} {vs1 : List Nat} {σ2 : St} {H4 : Hp} {D : Addr}
/-- the inner walk -/
theorem lc_in (w : Walk J1 n1 G1 Y1) (Pw : Nat → Hp → Prop) {Nx : Hp → Prop} (h0 : Pw 0 H4) (hG : ∀ i H, i ≤ n1 → Pw i H → G1 H)
    (hs : ∀ i x H H', i < n1 → Pw i H → Y1 i H x H' → g1 x (wipe σ2 vs1) H' fun σ3 H5 => wipe σ3 vs1 = wipe σ2 vs1 ∧ tt1 σ3 H5 fun b H6 =>
      if b = true then te σ3 H6 fun y H7 => ∃ acc, H7 D = some (.lst acc) ∧ acc.length < sizeLine ∧ Pw (i + 1) (upd H7 D (.lst (acc ++ [y]))) else Pw (i + 1) H6) (hd : ∀ H, Pw n1 H → Nx H) :
    ∃ W1 : Nat → Nat → Hp → Prop, (∃ m, W1 0 m H4) ∧ ∀ j k H, W1 j k H →
      (J1.stop j H ∧ Nx H) ∨ (J1.go j H ∧ ∃ Nx1 : Hp → Prop, (∀ H', Nx1 H' → ∃ k', k' < k ∧ W1 (j + 1) k' H') ∧ ∀ x H', J1.yld j H x H' → g1 x (wipe σ2 vs1) H' fun σ3 H5 => wipe σ3 vs1 = wipe σ2 vs1 ∧ tt1 σ3 H5 fun b H6 =>
        if b = true then te σ3 H6 fun y H7 => ∃ acc, H7 D = some (.lst acc) ∧ acc.length < sizeLine ∧ Nx1 (upd H7 D (.lst (acc ++ [y]))) else Nx1 H6) := by
  refine ⟨fun i m H => m = n1 - i ∧ i ≤ n1 ∧ Pw i H, ⟨n1, by simp, Nat.zero_le _, h0⟩, ?_⟩
  rintro i m H ⟨rfl, hi, p⟩
  have q := hG i H hi p
  by_cases hlt : i < n1
  · refine .inr ⟨w.goes i H hlt q, Pw (i + 1), fun H' p' => ⟨n1 - (i + 1), by omega, rfl, hlt, p'⟩, fun x H' y => hs i x H H' hlt p (w.yields i H x H' hlt q y)⟩
  · have e : i = n1 := by omega
    subst e
    exact .inl ⟨w.stops H q, hd H p⟩
/-- the outer one: A asks of an item what its own loop does, up to what comes next -/
theorem lc_out {H1 : Hp} {Qd : Hp → Prop} (w : Walk J n G Y) (A : V → Hp → (Hp → Prop) → Prop) (Pv : Nat → Hp → Prop) (h0 : Pv 0 (upd H1 D (.lst []))) (hG : ∀ i H, i ≤ n → Pv i H → G H)
    (hs : ∀ i x H H', i < n → Pv i H → Y i H x H' → A x H' (Pv (i + 1))) (hd : ∀ H, Pv n H → Qd H) :
    ∃ W : Nat → Nat → Hp → Prop, (∃ m, W 0 m (upd H1 D (.lst []))) ∧ ∀ i m H, W i m H →
      (J.stop i H ∧ Qd H) ∨ (J.go i H ∧ ∃ Nx : Hp → Prop, (∀ H', Nx H' → ∃ m', m' < m ∧ W (i + 1) m' H') ∧ ∀ x H', J.yld i H x H' → A x H' Nx) := by
  refine ⟨fun i m H => m = n - i ∧ i ≤ n ∧ Pv i H, ⟨n, by simp, Nat.zero_le _, h0⟩, ?_⟩
  rintro i m H ⟨rfl, hi, p⟩
  have q := hG i H hi p
  by_cases hlt : i < n
  · refine .inr ⟨w.goes i H hlt q, Pv (i + 1), fun H' p' => ⟨n - (i + 1), by omega, rfl, hlt, p'⟩, fun x H' y => hs i x H H' hlt p (w.yields i H x H' hlt q y)⟩
  · have e : i = n := by omega
    subst e
    exact .inl ⟨w.stops H q, hd H p⟩
end
theorem yesT {σ : St} {H : Hp} {A : Bool → Hp → Prop} (h : A true H) : tYes σ H A := h
end Kit

end
section
set_option Elab.async false
set_option linter.all false
set_option maxRecDepth 100000
set_option maxHeartbeats 4000000
namespace Kit
open PySem PySem.Spec PyProof.Rows L2
theorem itP {c : Prop} [Decidable c] {A B : Prop} (h : c) (x : A) : if c then A else B := by
  rw [if_pos h]
  exact x
/-! ### texts cut at one sign -/
/-- the pieces of l between the signs c -/
def cutc (c : Nat) : List Nat → List Nat → List (List Nat)
  | acc, [] => [acc]
  | acc, d :: r => if d = c then acc :: cutc c [] r else cutc c (acc ++ [d]) r
theorem spl_cutc (c : Nat) : ∀ l acc, TL.spl [c] 0 acc l = cutc c acc l
  | [], acc => TL.spl_nil _ _ _
  | d :: r, acc => by
    have e : TL.pre [c] (d :: r) = decide (d = c) := by
      unfold TL.pre
      show ([d] == [c]) = _
      by_cases h : d = c
      · rw [h, decide_eq_true rfl]; exact beq_self_eq_true _
      · rw [decide_eq_false h]
        exact beq_eq_false_iff_ne.mpr fun q => h (List.head_eq_of_cons_eq q)
    by_cases h : d = c
    · rw [TL.spl_hit (by rw [e, decide_eq_true h])]
      show acc :: TL.spl [c] 0 [] r = _
      rw [spl_cutc c r []]
      show _ = if d = c then _ else _
      rw [if_pos h]
    · rw [TL.spl_miss (by rw [e, decide_eq_false h]), spl_cutc c r _]
      show _ = if d = c then _ else _
      rw [if_neg h]
theorem split1 (l : List Nat) {c : Nat} (hc : c < 256) : Txt.split (S l) (S [c]) = (cutc c [] l).map S := by
  refine TL.map_tl_inj ?_
  rw [TL.split_spl _ _ (show [c] ≠ [] from nofun) (TL.kind_ok (by show (#[c]).all (· < 256) = true; simp [hc])), List.map_map]
  show TL.spl [c] 0 [] l = _
  rw [spl_cutc]
  have : (TL.tl ∘ S) = id := funext fun x => rfl
  rw [this, List.map_id]
theorem cutc_none {c : Nat} : ∀ {l acc : List Nat}, c ∉ l → cutc c acc l = [acc ++ l]
  | [], acc, _ => by rw [List.append_nil]; rfl
  | d :: r, acc, h => by
    have h1 : d ≠ c := fun e => h (by rw [e]; exact List.mem_cons_self)
    show (if d = c then _ else _) = _
    rw [if_neg h1, cutc_none fun m => h (List.mem_cons_of_mem _ m), List.append_assoc]
    rfl
theorem cutc_at {c : Nat} : ∀ {u acc v : List Nat}, c ∉ u → cutc c acc (u ++ c :: v) = (acc ++ u) :: cutc c [] v
  | [], acc, v, _ => by
    show (if c = c then _ else _) = _
    rw [if_pos rfl, List.append_nil]
  | d :: r, acc, v, h => by
    have h1 : d ≠ c := fun e => h (by rw [e]; exact List.mem_cons_self)
    show (if d = c then _ else _) = _
    rw [if_neg h1]
    show cutc c (acc ++ [d]) (r ++ c :: v) = _
    rw [cutc_at fun m => h (List.mem_cons_of_mem _ m), List.append_assoc]
    rfl
theorem cutc_len {c : Nat} : ∀ (l acc : List Nat), (cutc c acc l).length = l.count c + 1
  | [], acc => rfl
  | d :: r, acc => by
    show (if d = c then acc :: cutc c [] r else cutc c (acc ++ [d]) r).length = _
    by_cases h : d = c
    · rw [if_pos h, List.length_cons, cutc_len r, h, List.count_cons_self]
    · rw [if_neg h, cutc_len r, List.count_cons_of_ne (Ne.symm (Ne.symm h))]
theorem count1 (l : List Nat) (c : Nat) : Txt.count (S l) (S [c]) = (l.count c : Int) := by
  have e : Txt.count (S l) (S [c]) = cnt c l := count_is (S l) c
  rw [e]
  induction l with
  | nil => rfl
  | cons d r ih =>
    rw [cnt_cons, ih (by exact count_is (S r) c)]
    by_cases h : d = c
    · rw [if_pos h, h, List.count_cons_self]; omega
    · rw [if_neg h, List.count_cons_of_ne (Ne.symm (Ne.symm h))]; omega
/-- a list with c in it, cut at the first one -/
theorem first_cut {c : Nat} : ∀ {l : List Nat}, c ∈ l → ∃ u v, l = u ++ c :: v ∧ c ∉ u
  | d :: r, h => by
    by_cases e : d = c
    · exact ⟨[], r, by rw [e]; rfl, nofun⟩
    · rcases List.mem_cons.mp h with q | q
      · exact absurd q.symm e
      · obtain ⟨u, v, rfl, hu⟩ := first_cut q
        exact ⟨d :: u, v, rfl, fun m => (List.mem_cons.mp m).elim (fun z => e z.symm) hu⟩
theorem count_zero {c : Nat} {l : List Nat} : l.count c = 0 ↔ c ∉ l := List.count_eq_zero
/-- just one c -/
theorem one_cut {c : Nat} {l : List Nat} (h : l.count c = 1) : ∃ u v, l = u ++ c :: v ∧ c ∉ u ∧ c ∉ v := by
  obtain ⟨u, v, rfl, hu⟩ := first_cut (show c ∈ l from List.count_pos_iff.mp (by omega))
  refine ⟨u, v, rfl, hu, ?_⟩
  rw [List.count_append, List.count_cons_self, count_zero.mpr hu] at h
  exact count_zero.mp (by omega)
theorem ends1 (l : List Nat) (c : Nat) : Txt.endswith (S l) (S [c]) = decide (l.drop (l.length - 1) = [c]) := by
  unfold Txt.endswith
  rw [S_len, S_len]
  show (decide (0 + 1 ≤ l.length) && PySem.Builtin.Str.subAt (S l) (S [c]) (l.length - 1)) = _
  by_cases z : 1 ≤ l.length
  · rw [decide_eq_true (by omega), Bool.true_and]
    have e := StrLaws.subAt_one (S l) c (l.length - 1)
    have k : ((S l).cps.toList[l.length - 1]? = some c) ↔ l.drop (l.length - 1) = [c] := by
      show l[l.length - 1]? = some c ↔ _
      have dl : (l.drop (l.length - 1)).length = 1 := by rw [List.length_drop]; omega
      have d0 : (l.drop (l.length - 1))[0]? = l[l.length - 1]? := by rw [List.getElem?_drop, Nat.add_zero]
      rw [← d0]
      match l.drop (l.length - 1), dl with
      | [x], _ =>
        constructor
        · intro h; cases h; rfl
        · intro h; cases h; rfl
    have g : (PySem.Builtin.Str.subAt (S l) (S [c]) (l.length - 1) = true) ↔ l.drop (l.length - 1) = [c] :=
      ⟨fun h => k.mp (e.mp ⟨by rw [S_len]; show l.length - 1 + 1 ≤ _; omega, h⟩), fun h => (e.mpr (k.mpr h)).2⟩
    by_cases q : l.drop (l.length - 1) = [c]
    · rw [decide_eq_true q]
      exact g.mpr q
    · rw [decide_eq_false q]
      exact Bool.eq_false_iff.mpr fun h => q (g.mp h)
  · rw [decide_eq_false (by omega), Bool.false_and, decide_eq_false]
    intro q
    have := congrArg List.length q
    rw [List.length_drop] at this
    simp at this
    omega
theorem sIx_m1 (n d : Nat) : HT.sIx n d (some (-1)) = n - 1 := by
  show (if (-1 : Int) < 0 then ((-1 : Int) + (n : Int)).toNat else min (-1 : Int).toNat n) = n - 1
  rw [if_pos (by decide)]
  omega
/-- l[-1:] -/
theorem cut_end (l : List Nat) : cutS (S l) (some (-1)) none = S (l.drop (l.length - 1)) := by
  rw [cut_S, sIx_m1]
  show S ((l.drop (l.length - 1)).take (l.length - (l.length - 1))) = _
  rw [List.take_of_length_le (by rw [List.length_drop]; omega)]
/-- l[:-1] -/
theorem cut_init (l : List Nat) : cutS (S l) none (some (-1)) = S (l.take (l.length - 1)) := by
  rw [cut_S, sIx_m1]
  show S ((l.drop 0).take (l.length - 1 - 0)) = _
  rw [List.drop_zero, Nat.sub_zero]
/-- l[i:-1] -/
theorem cut_in (l : List Nat) (i : Nat) : cutS (S l) (some (i : Int)) (some (-1)) = S ((l.take (l.length - 1)).drop i) := by
  rw [cut_S, sIx_m1, HT.sIx_nat, List.drop_take]
  by_cases h : i ≤ l.length
  · rw [Nat.min_eq_left h]
  · rw [Nat.min_eq_right (by omega), List.drop_eq_nil_of_le (Nat.le_refl _), List.drop_eq_nil_of_le (by omega)]
    simp
end Kit

end
section
set_option Elab.async false
set_option linter.all false
set_option maxRecDepth 100000
set_option maxHeartbeats 4000000
namespace Kit
open PySem PySem.Spec PyProof.Rows L2
section
variable {X : Cx} {k j : Nat} {C : Addr} {m : Str} {sp : Sp} {o : Expr} {pos apos : Pos} {ta : TE}
/-- C.m(), m a classmethod -/
theorem pc_cm0 {pl : Sem Bool} (c : CanC X.prog X.w X.K X.mg X.base k C m sp) (hr : Room j X.A) (hk : k ≤ j) (he : PE X o ta)
    (ht : eval (.Call (.Attribute o m apos) [] [] pos) X.env = (do
      let ov ← eval o X.env
      standAt apos.atName
      let (f, first) ← holding [ov] (getMethod ov m pl)
      callWith pos f first (backTo pos (starEach [] X.env)) (backToKw pos (keywordEach [] X.env))) := by rfl) :
    PE X (.Call (.Attribute o m apos) [] [] pos) (tCm0 C sp ta tNil) := by
  obtain ⟨mc, pp, g, fd, ps, F, r, cm, b⟩ := c.ex
  refine ⟨fun pins s σ H Q I h => ?_⟩
  refine PySem.W.methodCall_KW (pl := pl) (thn (he.run pins s σ H _ I h) fun u s1 ⟨x, H1, I1, rx, ex, q⟩ => ?_) ht
  subst ex
  obtain rfl : u = Value.ref C := rx
  refine ClX.getmethcm_ok I1 r cm fun s2 I2 => ?_
  exact PySem.W.callWith_M0 (first := []) ⟨ClX.pin_at I2, I2.kIn⟩ cm.fi (ClX.run_cm (us := []) (vs := []) (F.raw b .nil) (hr.mono hk) passL I2 .nil q)
end
end Kit

end
section
set_option Elab.async false
set_option linter.all false
set_option maxRecDepth 100000
set_option maxHeartbeats 4000000
namespace Kit
open PySem PySem.Spec PyProof.Rows L2
/-! ### text * whole number -/
section
variable {X : Cx}
theorem op_repS : OpR X (binaryOp .Mult) (fun x y H Q => ∃ z n, x = .str z ∧ y = .int n ∧ MulOk z n ∧ Q (.str (Txt.mul z n)) H) := by
  intro pins s σ H x y v u Q I rx ry h
  obtain ⟨z, n, rfl, rfl, hz, q⟩ := h
  obtain ⟨t, rfl⟩ := rx
  obtain ⟨t', rfl⟩ := ry
  exact SB.mul hz fun t' k => ⟨.str (Txt.mul z n), H, I.tok _, ⟨_, rfl⟩, q⟩
end
theorem foldl_repN (its : List Nat) : ∀ (k : Nat) (acc : List Nat),
    List.foldl (fun x1 x2 => x1 ++ x2) acc.toArray (List.replicate k its.toArray) = (acc ++ (List.replicate k its).flatten).toArray
  | 0, acc => by simp
  | k + 1, acc => by
    have e : acc.toArray ++ its.toArray = (acc ++ its).toArray := by simp
    have e2 : (acc ++ its) ++ (List.replicate k its).flatten = acc ++ (List.replicate (k + 1) its).flatten := by
      rw [List.replicate_succ, List.flatten_cons, List.append_assoc]
    rw [List.replicate_succ, List.foldl_cons, e, foldl_repN its k (acc ++ its), e2]
theorem mul_S (l : List Nat) (k : Nat) : Txt.mul (S l) (k : Int) = S (List.replicate k l).flatten := by
  have f0 : List.foldl (fun x1 x2 => x1 ++ x2) #[] (List.replicate k l.toArray) = (List.replicate k l).flatten.toArray := by
    have := foldl_repN l k []
    rw [List.nil_append] at this
    exact this
  unfold Txt.mul
  by_cases h1 : (k : Int) < 1
  · have : k = 0 := by omega
    subst this
    rw [if_pos h1]
    rfl
  · rw [if_neg h1]
    by_cases h2 : ((k : Int) == 1 || (S l).length == 0) = true
    · rw [if_pos h2]
      rw [Bool.or_eq_true, beq_iff_eq, beq_iff_eq] at h2
      rcases h2 with h2 | h2
      · have : k = 1 := by omega
        subst this
        rw [List.replicate_one, List.flatten_cons, List.flatten_nil, List.append_nil]
      · rw [S_len] at h2
        have : l = [] := List.length_eq_zero_iff.mp h2
        subst this
        congr 1
        induction k with
        | zero => rfl
        | succ k ih => rw [List.replicate_succ, List.flatten_cons, List.nil_append]; exact (by simp : [] = (List.replicate k ([] : List Nat)).flatten)
    · rw [if_neg h2]
      show (⟨_⟩ : Str) = ⟨_⟩
      congr 1
end Kit

end
section
set_option Elab.async false
set_option linter.all false
set_option maxRecDepth 100000
set_option maxHeartbeats 4000000
namespace Kit
open PySem PySem.Spec PyProof.Rows L2
/-! ### math.lcm; ~ of an own class -/
section
variable {X : Cx}
def rLcm : List V → Hp → VK → Prop := fun vs H Q => ∃ a b : Nat, vs = [.int a, .int b] ∧ a ≤ 1000000 ∧ b ≤ 1000000 ∧ Q (.int ((Nat.lcm a b : Nat) : Int)) H
theorem cr_lcm : CallR X (.builtin "math.lcm") rLcm := by
  intro pins s σ H vs us Q I r h
  obtain ⟨a, b, rfl, ha, hb, q⟩ := h
  obtain ⟨t, u, rfl⟩ := Vals.int2 r
  have e : (((Nat.lcm 1 (a : Int).natAbs).lcm (b : Int).natAbs : Nat) : Int) = ((Nat.lcm a b : Nat) : Int) := by
    rw [Int.natAbs_natCast, Int.natAbs_natCast, Nat.lcm_one_left]
  have le : Nat.lcm a b ≤ 1000000 * 1000000 := Nat.le_trans (by rw [Nat.lcm]; exact Nat.div_le_self _ _) (Nat.mul_le_mul ha hb)
  refine PySem.W.mg_lcm_v (by rw [Int.natAbs_natCast]; omega) (by rw [Int.natAbs_natCast]; omega) e ?_ ⟨.int _, H, I.tok _, ⟨_, rfl⟩, q⟩
  rw [Int.natAbs_natCast]
  by_cases z : Nat.lcm a b = 0
  · rw [z]
    decide
  · have := (Nat.log2_lt z (k := 41)).mpr (by omega)
    exact Nat.lt_trans this (by decide)
variable {C : Addr} {k j : Nat} {sp : Sp}
def rInvO (C : Addr) (sp : Sp) : V → Hp → VK → Prop := fun x H Q => ∃ a dx fs, x = .ref a ∧ H a = some (.ins C dx fs) ∧ sp [x] H (fun v G => (∃ p, v = .ref p) ∧ Q v G) E0
theorem invO (c : CanM X.prog X.w X.K X.mg X.base k C "__invert__" sp) (hr : Room j X.A) (hk : k ≤ j) : UnR X (unaryOp .Invert) (rInvO C sp) := by
  obtain ⟨f, fd, ps, F, hcl, hm, b⟩ := c.ex
  intro pins s σ H x v Q I rx hq
  obtain ⟨a, dx, fs, rfl, ha, h⟩ := hq
  cases rx
  obtain ⟨mA, J, _⟩ := ins_get I.hok ha
  obtain ⟨od, J, _⟩ := J.look
  obtain ⟨mm, hF⟩ := I.fr
  refine PySem.W.ksp_inv hF I.ok.mod.kin J hm.at_ hm.fn ?_
  refine wpAny_mono (run_fn (us := [.ref a]) (vs := [.ref a]) (dvs := []) (ds := []) F (hr.mono hk) b .nil passL I (.cons rfl .nil) h) (fun r s' z => ?_) fun _ _ x => x
  obtain ⟨v, H', I', rv, ⟨p, rfl⟩, q⟩ := z
  cases rv
  exact ⟨.ref p, H', I', rfl, q⟩
end
end Kit

end
section
set_option Elab.async false
set_option linter.all false
set_option maxRecDepth 100000
set_option maxHeartbeats 4000000
namespace Kit
open PySem PySem.Spec PyProof.Rows L2
/-! ### o[i] by an own __getitem__ that may raise -/
section
variable {X : Cx} {C : Addr} {k j : Nat} {sp : Sp} {W : WX} {a b : Expr} {ta tb : TE} {pos : Pos}
def tIxO (C : Addr) (sp : Sp) (W : WX) (ta tb : TE) : TE := fun σ H Q => ta σ H fun x H1 => tb σ H1 fun y H2 => ∃ a dx fs, x = .ref a ∧ H2 a = some (.ins C dx fs) ∧ sp [x, y] H2 Q (WE W σ)
theorem pe_ixO (c : CanF X.prog X.w X.K X.mg X.base k C "__getitem__" sp) (tk : Takes X W) (hr : Room j X.A) (hk : k + 1 ≤ j) (ha : PE X a ta) (hb : PE X b tb)
    (hsl : ∀ x i, subscripted b true (.ref x) i = runValue (.builtin "lifetime.subscript" ⟨[.ref x, i], []⟩) := by intro _ _; rfl) : PE X (.Subscript a b pos) (tIxO C sp W ta tb) := by
  obtain ⟨f, fd, ps, F, hcl, hm, bb, hfn⟩ := c.ex
  refine ⟨fun pins s σ H Q I h => ?_⟩
  refine Subscript_ (binT ha hb I h fun v u s2 x y H2 I2 rx ry q => ?_)
  obtain ⟨a', dx, fs, rfl, ha, h⟩ := q
  cases rx
  obtain ⟨mA, J, _⟩ := ins_get I2.hok ha
  obtain ⟨od, J, _⟩ := J.look
  obtain ⟨mm, hF⟩ := I2.fr
  have hr1 : Room k X.A.in1 := (hr.mono hk).in1
  refine PySem.W.sub_K hF I2.ok.mod.kin J hm.at_ hfn hm.fn ?_ (hsl _ _)
  have e0 : Env0 X.prog X.w X.K X.mg X.base X.A.in1 X.stack s2 H2 := by
    have e := I2.env0
    exact ⟨e.frames, e.mod, e.bs, e.bsz, e.funs, e.frf, e.hok, e.bare⟩
  have hl := F.len _ _ _ _ h
  have b2 := bb s2 [.ref a', u] I2.kIn (by simpa using hl)
  refine wpAny_call (codeAny_mono (F.run X.A.in1 X.stack s2 H2 ⟨[.ref a', u], []⟩ [.ref a', u] [.ref a', y] Q (WE W σ) hr1 e0 (by simpa using b2) (.cons rfl (.cons ry .nil)) h) ?_)
  intro z s' hq
  cases z with
  | error e => exact passAt tk σ pins H2 s2 e s' I2 hq
  | ok fl =>
    cases fl with
    | ret w => exact I2.after hq
    | next => exact hq.elim
    | brk => exact hq.elim
    | cont => exact hq.elim
end
end Kit

end
section
set_option Elab.async false
set_option linter.all false
set_option maxRecDepth 100000
set_option maxHeartbeats 4000000
namespace Kit
open PySem PySem.Spec PyProof.Rows L2
/-! ### == and != of data without dicts, any texts -/
section
variable {X : Cx}
def rEqP (K : PySem.W.Frag) : R2 := fun x y H Q => ∃ d e, Dp K H x d ∧ Dp K H y e ∧ d.plain = true ∧ e.plain = true ∧ d.depth ≤ 64 ∧ Q (.bl (PyData.eqv d e)) H
def rNeP (K : PySem.W.Frag) : R2 := fun x y H Q => ∃ d e, Dp K H x d ∧ Dp K H y e ∧ d.plain = true ∧ e.plain = true ∧ d.depth ≤ 64 ∧ Q (.bl (!PyData.eqv d e)) H
theorem keqP (K : PySem.W.Frag) (hu : X.A.units + 64 < cLine) (hK : X.K = K := by rfl) : OpR X (compareOp .Eq) (rEqP K) := by
  subst hK
  intro pins s σ H x y v u Q I rx ry h
  obtain ⟨d, e, hd, he, sd, se, dd, q⟩ := h
  obtain ⟨as, r1⟩ := Dp.reads I d x v hd rx
  obtain ⟨bs, r2⟩ := Dp.reads I e y u he ry
  exact SeqAt.eq_plain r1 r2 sd se (by omega) ⟨.bl _, H, I, rfl, q⟩
theorem kneP (K : PySem.W.Frag) (hu : X.A.units + 64 < cLine) (hK : X.K = K := by rfl) : OpR X (compareOp .NotEq) (rNeP K) := by
  subst hK
  intro pins s σ H x y v u Q I rx ry h
  obtain ⟨d, e, hd, he, sd, se, dd, q⟩ := h
  obtain ⟨as, r1⟩ := Dp.reads I d x v hd rx
  obtain ⟨bs, r2⟩ := Dp.reads I e y u he ry
  exact SeqAt.ne_plain r1 r2 sd se (by omega) ⟨.bl _, H, I, rfl, q⟩
end
/-- lists of texts as such data -/
def pdL (ls : List (List Nat)) : PyData := .list (ls.map fun l => .str (S l))
theorem dpAll_txt {K : PySem.W.Frag} {H : Hp} : ∀ ls : List (List Nat), DpAll K H (ls.map tx) (ls.map fun l => .str (S l))
  | [] => .nil
  | l :: ls => .cons (.str _) (dpAll_txt ls)
theorem dp_txt {K : PySem.W.Frag} {H : Hp} {p : Addr} {ls : List (List Nat)} (h : H p = some (.lst (ls.map tx))) : Dp K H (.ref p) (pdL ls) := .lst (seqL_of h) (dpAll_txt ls)
theorem plainL (ls : List (List Nat)) : (pdL ls).plain = true := by
  unfold pdL PyData.plain
  induction ls with
  | nil => rfl
  | cons l ls ih =>
    rw [List.map_cons]
    unfold PyData.plainAll
    rw [ih]
    rfl
theorem depthAllL (ls : List (List Nat)) : PyData.depthAll (ls.map fun l => .str (S l)) ≤ 1 := by
  induction ls with
  | nil => simp [PyData.depthAll]
  | cons l ls ih =>
    rw [List.map_cons]
    unfold PyData.depthAll
    unfold PyData.depth
    omega
theorem depthL (ls : List (List Nat)) : (pdL ls).depth ≤ 64 := by
  unfold pdL PyData.depth
  have := depthAllL ls
  omega
end Kit

end
section
set_option Elab.async false
set_option maxRecDepth 100000
set_option maxHeartbeats 4000000
namespace K17
open PySem PySem.Spec PyProof.Rows L2 Kit
def top (i : Nat) : Stmt := PySem.Challenge.pw_galloon_k17_masks.main.body.getD i (.Pass ⟨0, 0, 0, 0⟩)
abbrev s_BadIndex___init__ : Stmt := (inClass (top 3) 0)
abbrev N_BadIndex___init__ : List Str := ["self", "at"]
abbrev P_BadIndex___init__ : List Str := ["self", "at"]
theorem sc_BadIndex___init__ : FnScope N_BadIndex___init__ P_BadIndex___init__ (defScope s_BadIndex___init__) := ⟨rfl, rfl, rfl, by decide +kernel, rfl, by decide +kernel, by decide +kernel⟩
theorem bd_BadIndex___init__ : BindsPlain s_BadIndex___init__ "__init__" "BadIndex.__init__" P_BadIndex___init__ := fun _ _ _ _ _ _ us hl => match us, hl with | [_, _], _ => rfl
abbrev s_BadCount___init__ : Stmt := (inClass (top 4) 0)
abbrev N_BadCount___init__ : List Str := ["self", "count"]
abbrev P_BadCount___init__ : List Str := ["self", "count"]
theorem sc_BadCount___init__ : FnScope N_BadCount___init__ P_BadCount___init__ (defScope s_BadCount___init__) := ⟨rfl, rfl, rfl, by decide +kernel, rfl, by decide +kernel, by decide +kernel⟩
theorem bd_BadCount___init__ : BindsPlain s_BadCount___init__ "__init__" "BadCount.__init__" P_BadCount___init__ := fun _ _ _ _ _ _ us hl => match us, hl with | [_, _], _ => rfl
abbrev s_BadPaint___init__ : Stmt := (inClass (top 5) 0)
abbrev N_BadPaint___init__ : List Str := ["self", "row"]
abbrev P_BadPaint___init__ : List Str := ["self", "row"]
theorem sc_BadPaint___init__ : FnScope N_BadPaint___init__ P_BadPaint___init__ (defScope s_BadPaint___init__) := ⟨rfl, rfl, rfl, by decide +kernel, rfl, by decide +kernel, by decide +kernel⟩
theorem bd_BadPaint___init__ : BindsPlain s_BadPaint___init__ "__init__" "BadPaint.__init__" P_BadPaint___init__ := fun _ _ _ _ _ _ us hl => match us, hl with | [_, _], _ => rfl
abbrev s_BadMask___init__ : Stmt := (inClass (top 6) 0)
abbrev N_BadMask___init__ : List Str := ["self", "part"]
abbrev P_BadMask___init__ : List Str := ["self", "part"]
theorem sc_BadMask___init__ : FnScope N_BadMask___init__ P_BadMask___init__ (defScope s_BadMask___init__) := ⟨rfl, rfl, rfl, by decide +kernel, rfl, by decide +kernel, by decide +kernel⟩
theorem bd_BadMask___init__ : BindsPlain s_BadMask___init__ "__init__" "BadMask.__init__" P_BadMask___init__ := fun _ _ _ _ _ _ us hl => match us, hl with | [_, _], _ => rfl
abbrev s_Mask___init__ : Stmt := (inClass (top 12) 0)
abbrev N_Mask___init__ : List Str := ["self", "start", "loop", "least_start", "least_loop"]
abbrev P_Mask___init__ : List Str := ["self", "start", "loop"]
theorem sc_Mask___init__ : FnScope N_Mask___init__ P_Mask___init__ (defScope s_Mask___init__) := ⟨rfl, rfl, rfl, by decide +kernel, rfl, by decide +kernel, by decide +kernel⟩
theorem bd_Mask___init__ : BindsPlain s_Mask___init__ "__init__" "Mask.__init__" P_Mask___init__ := fun _ _ _ _ _ _ us hl => match us, hl with | [_, _, _], _ => rfl
abbrev s_Mask_every : Stmt := (inClass (top 12) 1)
abbrev N_Mask_every : List Str := ["cls"]
abbrev P_Mask_every : List Str := ["cls"]
theorem sc_Mask_every : FnScope N_Mask_every P_Mask_every (defScope s_Mask_every) := ⟨rfl, rfl, rfl, by decide +kernel, rfl, by decide +kernel, by decide +kernel⟩
theorem bd_Mask_every : BindsPlain s_Mask_every "every" "Mask.every" P_Mask_every := fun _ _ _ _ _ _ us hl => match us, hl with | [_], _ => rfl
abbrev s_Mask_none : Stmt := (inClass (top 12) 2)
abbrev N_Mask_none : List Str := ["cls"]
abbrev P_Mask_none : List Str := ["cls"]
theorem sc_Mask_none : FnScope N_Mask_none P_Mask_none (defScope s_Mask_none) := ⟨rfl, rfl, rfl, by decide +kernel, rfl, by decide +kernel, by decide +kernel⟩
theorem bd_Mask_none : BindsPlain s_Mask_none "none" "Mask.none" P_Mask_none := fun _ _ _ _ _ _ us hl => match us, hl with | [_], _ => rfl
abbrev s_Mask_read : Stmt := (inClass (top 12) 3)
abbrev N_Mask_read : List Str := ["cls", "text", "parts"]
abbrev P_Mask_read : List Str := ["cls", "text"]
theorem sc_Mask_read : FnScope N_Mask_read P_Mask_read (defScope s_Mask_read) := ⟨rfl, rfl, rfl, by decide +kernel, rfl, by decide +kernel, by decide +kernel⟩
theorem bd_Mask_read : BindsPlain s_Mask_read "read" "Mask.read" P_Mask_read := fun _ _ _ _ _ _ us hl => match us, hl with | [_, _], _ => rfl
abbrev s_Mask_menu : Stmt := (inClass (top 12) 4)
abbrev N_Mask_menu : List Str := ["cls", "starts", "loops", "found", "loop", "start"]
abbrev P_Mask_menu : List Str := ["cls", "starts", "loops"]
theorem sc_Mask_menu : FnScope N_Mask_menu P_Mask_menu (defScope s_Mask_menu) := ⟨rfl, rfl, rfl, by decide +kernel, rfl, by decide +kernel, by decide +kernel⟩
theorem bd_Mask_menu : BindsPlain s_Mask_menu "menu" "Mask.menu" P_Mask_menu := fun _ _ _ _ _ _ us hl => match us, hl with | [_, _, _], _ => rfl
abbrev s_Mask___eq__ : Stmt := (inClass (top 12) 5)
abbrev N_Mask___eq__ : List Str := ["self", "other"]
abbrev P_Mask___eq__ : List Str := ["self", "other"]
theorem sc_Mask___eq__ : FnScope N_Mask___eq__ P_Mask___eq__ (defScope s_Mask___eq__) := ⟨rfl, rfl, rfl, by decide +kernel, rfl, by decide +kernel, by decide +kernel⟩
theorem bd_Mask___eq__ : BindsPlain s_Mask___eq__ "__eq__" "Mask.__eq__" P_Mask___eq__ := fun _ _ _ _ _ _ us hl => match us, hl with | [_, _], _ => rfl
abbrev s_Mask___getitem__ : Stmt := (inClass (top 12) 6)
abbrev N_Mask___getitem__ : List Str := ["self", "at"]
abbrev P_Mask___getitem__ : List Str := ["self", "at"]
theorem sc_Mask___getitem__ : FnScope N_Mask___getitem__ P_Mask___getitem__ (defScope s_Mask___getitem__) := ⟨rfl, rfl, rfl, by decide +kernel, rfl, by decide +kernel, by decide +kernel⟩
theorem bd_Mask___getitem__ : BindsPlain s_Mask___getitem__ "__getitem__" "Mask.__getitem__" P_Mask___getitem__ := fun _ _ _ _ _ _ us hl => match us, hl with | [_, _], _ => rfl
abbrev s_Mask___and__ : Stmt := (inClass (top 12) 8)
abbrev N_Mask___and__ : List Str := ["self", "other"]
abbrev P_Mask___and__ : List Str := ["self", "other"]
theorem sc_Mask___and__ : FnScope N_Mask___and__ P_Mask___and__ (defScope s_Mask___and__) := ⟨rfl, rfl, rfl, by decide +kernel, rfl, by decide +kernel, by decide +kernel⟩
theorem bd_Mask___and__ : BindsPlain s_Mask___and__ "__and__" "Mask.__and__" P_Mask___and__ := fun _ _ _ _ _ _ us hl => match us, hl with | [_, _], _ => rfl
abbrev s_Mask___or__ : Stmt := (inClass (top 12) 9)
abbrev N_Mask___or__ : List Str := ["self", "other"]
abbrev P_Mask___or__ : List Str := ["self", "other"]
theorem sc_Mask___or__ : FnScope N_Mask___or__ P_Mask___or__ (defScope s_Mask___or__) := ⟨rfl, rfl, rfl, by decide +kernel, rfl, by decide +kernel, by decide +kernel⟩
theorem bd_Mask___or__ : BindsPlain s_Mask___or__ "__or__" "Mask.__or__" P_Mask___or__ := fun _ _ _ _ _ _ us hl => match us, hl with | [_, _], _ => rfl
abbrev s_Mask___xor__ : Stmt := (inClass (top 12) 10)
abbrev N_Mask___xor__ : List Str := ["self", "other"]
abbrev P_Mask___xor__ : List Str := ["self", "other"]
theorem sc_Mask___xor__ : FnScope N_Mask___xor__ P_Mask___xor__ (defScope s_Mask___xor__) := ⟨rfl, rfl, rfl, by decide +kernel, rfl, by decide +kernel, by decide +kernel⟩
theorem bd_Mask___xor__ : BindsPlain s_Mask___xor__ "__xor__" "Mask.__xor__" P_Mask___xor__ := fun _ _ _ _ _ _ us hl => match us, hl with | [_, _], _ => rfl
abbrev s_Mask___invert__ : Stmt := (inClass (top 12) 11)
abbrev N_Mask___invert__ : List Str := ["self"]
abbrev P_Mask___invert__ : List Str := ["self"]
theorem sc_Mask___invert__ : FnScope N_Mask___invert__ P_Mask___invert__ (defScope s_Mask___invert__) := ⟨rfl, rfl, rfl, by decide +kernel, rfl, by decide +kernel, by decide +kernel⟩
theorem bd_Mask___invert__ : BindsPlain s_Mask___invert__ "__invert__" "Mask.__invert__" P_Mask___invert__ := fun _ _ _ _ _ _ us hl => match us, hl with | [_], _ => rfl
abbrev s_Mask___str__ : Stmt := (inClass (top 12) 12)
abbrev N_Mask___str__ : List Str := ["self"]
abbrev P_Mask___str__ : List Str := ["self"]
theorem sc_Mask___str__ : FnScope N_Mask___str__ P_Mask___str__ (defScope s_Mask___str__) := ⟨rfl, rfl, rfl, by decide +kernel, rfl, by decide +kernel, by decide +kernel⟩
theorem bd_Mask___str__ : BindsPlain s_Mask___str__ "__str__" "Mask.__str__" P_Mask___str__ := fun _ _ _ _ _ _ us hl => match us, hl with | [_], _ => rfl
abbrev s_Mask_marks : Stmt := (inClass (top 12) 13)
abbrev N_Mask_marks : List Str := ["self", "length", "times"]
abbrev P_Mask_marks : List Str := ["self", "length"]
theorem sc_Mask_marks : FnScope N_Mask_marks P_Mask_marks (defScope s_Mask_marks) := ⟨rfl, rfl, rfl, by decide +kernel, rfl, by decide +kernel, by decide +kernel⟩
theorem bd_Mask_marks : BindsPlain s_Mask_marks "marks" "Mask.marks" P_Mask_marks := fun _ _ _ _ _ _ us hl => match us, hl with | [_, _], _ => rfl
abbrev s_masks_apart : Stmt := (top 13)
abbrev N_masks_apart : List Str := ["first", "second", "apart", "at"]
abbrev P_masks_apart : List Str := ["first", "second"]
theorem sc_masks_apart : FnScope N_masks_apart P_masks_apart (defScope s_masks_apart) := ⟨rfl, rfl, rfl, by decide +kernel, rfl, by decide +kernel, by decide +kernel⟩
theorem bd_masks_apart : BindsPlain s_masks_apart "masks_apart" "masks_apart" P_masks_apart := fun _ _ _ _ _ _ us hl => match us, hl with | [_, _], _ => rfl
abbrev s_are_marks : Stmt := (top 14)
abbrev N_are_marks : List Str := ["text", "mark"]
abbrev P_are_marks : List Str := ["text"]
theorem sc_are_marks : FnScope N_are_marks P_are_marks (defScope s_are_marks) := ⟨rfl, rfl, rfl, by decide +kernel, rfl, by decide +kernel, by decide +kernel⟩
theorem bd_are_marks : BindsPlain s_are_marks "_are_marks" "_are_marks" P_are_marks := fun _ _ _ _ _ _ us hl => match us, hl with | [_], _ => rfl
abbrev s_all_marks : Stmt := (top 15)
abbrev N_all_marks : List Str := ["least", "most", "found", "_", "text", "mark", "latest"]
abbrev P_all_marks : List Str := ["least", "most"]
theorem sc_all_marks : FnScope N_all_marks P_all_marks (defScope s_all_marks) := ⟨rfl, rfl, rfl, by decide +kernel, rfl, by decide +kernel, by decide +kernel⟩
theorem bd_all_marks : BindsPlain s_all_marks "_all_marks" "_all_marks" P_all_marks := fun _ _ _ _ _ _ us hl => match us, hl with | [_, _], _ => rfl
abbrev s_least_form : Stmt := (top 16)
abbrev N_least_form : List Str := ["start", "loop"]
abbrev P_least_form : List Str := ["start", "loop"]
theorem sc_least_form : FnScope N_least_form P_least_form (defScope s_least_form) := ⟨rfl, rfl, rfl, by decide +kernel, rfl, by decide +kernel, by decide +kernel⟩
theorem bd_least_form : BindsPlain s_least_form "_least_form" "_least_form" P_least_form := fun _ _ _ _ _ _ us hl => match us, hl with | [_, _], _ => rfl
abbrev s_combined : Stmt := (top 17)
abbrev N_combined : List Str := ["first", "second", "wanted", "begin", "length", "pairs", "one", "other", "marks", "pair", "mask", "start", "loop"]
abbrev P_combined : List Str := ["first", "second", "wanted"]
theorem sc_combined : FnScope N_combined P_combined (defScope s_combined) := ⟨rfl, rfl, rfl, by decide +kernel, rfl, by decide +kernel, by decide +kernel⟩
theorem bd_combined : BindsPlain s_combined "_combined" "_combined" P_combined := fun _ _ _ _ _ _ us hl => match us, hl with | [_, _, _], _ => rfl
abbrev s_law_box : Stmt := (top 19)
abbrev N_law_box : List Str := ["script", "k", "cell"]
abbrev P_law_box : List Str := ["script", "k"]
theorem sc_law_box : FnScope N_law_box P_law_box (defScope s_law_box) := ⟨rfl, rfl, rfl, by decide +kernel, rfl, by decide +kernel, by decide +kernel⟩
theorem bd_law_box : BindsPlain s_law_box "_law_box" "_law_box" P_law_box := fun _ _ _ _ _ _ us hl => match us, hl with | [_, _], _ => rfl
abbrev s_law_take : Stmt := (top 20)
abbrev N_law_take : List Str := ["box", "size", "digit", "mixed"]
abbrev P_law_take : List Str := ["box", "size"]
theorem sc_law_take : FnScope N_law_take P_law_take (defScope s_law_take) := ⟨rfl, rfl, rfl, by decide +kernel, rfl, by decide +kernel, by decide +kernel⟩
theorem bd_law_take : BindsPlain s_law_take "_law_take" "_law_take" P_law_take := fun _ _ _ _ _ _ us hl => match us, hl with | [_, _], _ => rfl
abbrev s_law_word : Stmt := (top 21)
abbrev N_law_word : List Str := ["box", "size", "shift", "k"]
abbrev P_law_word : List Str := ["box", "size", "shift"]
theorem sc_law_word : FnScope N_law_word P_law_word (defScope s_law_word) := ⟨rfl, rfl, rfl, by decide +kernel, rfl, by decide +kernel, by decide +kernel⟩
theorem bd_law_word : BindsPlain s_law_word "_law_word" "_law_word" P_law_word := fun _ _ _ _ _ _ us hl => match us, hl with | [_, _, _], _ => rfl
abbrev s_law_parts : Stmt := (top 22)
abbrev N_law_parts : List Str := ["box", "shift", "start"]
abbrev P_law_parts : List Str := ["box", "shift"]
theorem sc_law_parts : FnScope N_law_parts P_law_parts (defScope s_law_parts) := ⟨rfl, rfl, rfl, by decide +kernel, rfl, by decide +kernel, by decide +kernel⟩
theorem bd_law_parts : BindsPlain s_law_parts "_law_parts" "_law_parts" P_law_parts := fun _ _ _ _ _ _ us hl => match us, hl with | [_, _], _ => rfl
abbrev s_law_marks : Stmt := (top 23)
abbrev N_law_marks : List Str := ["start", "loop", "length"]
abbrev P_law_marks : List Str := ["start", "loop", "length"]
theorem sc_law_marks : FnScope N_law_marks P_law_marks (defScope s_law_marks) := ⟨rfl, rfl, rfl, by decide +kernel, rfl, by decide +kernel, by decide +kernel⟩
theorem bd_law_marks : BindsPlain s_law_marks "_law_marks" "_law_marks" P_law_marks := fun _ _ _ _ _ _ us hl => match us, hl with | [_, _, _], _ => rfl
abbrev s_law_joined : Stmt := (top 24)
abbrev N_law_joined : List Str := ["first", "second", "sign", "marks", "k", "one", "two"]
abbrev P_law_joined : List Str := ["first", "second", "sign"]
theorem sc_law_joined : FnScope N_law_joined P_law_joined (defScope s_law_joined) := ⟨rfl, rfl, rfl, by decide +kernel, rfl, by decide +kernel, by decide +kernel⟩
theorem bd_law_joined : BindsPlain s_law_joined "_law_joined" "_law_joined" P_law_joined := fun _ _ _ _ _ _ us hl => match us, hl with | [_, _, _], _ => rfl
abbrev s_law_least : Stmt := (top 25)
abbrev N_law_least : List Str := ["marks", "many", "start", "turn"]
abbrev P_law_least : List Str := ["marks"]
theorem sc_law_least : FnScope N_law_least P_law_least (defScope s_law_least) := ⟨rfl, rfl, rfl, by decide +kernel, rfl, by decide +kernel, by decide +kernel⟩
theorem bd_law_least : BindsPlain s_law_least "_law_least" "_law_least" P_law_least := fun _ _ _ _ _ _ us hl => match us, hl with | [_], _ => rfl
abbrev s_law_apart : Stmt := (top 26)
abbrev N_law_apart : List Str := ["first", "second", "k"]
abbrev P_law_apart : List Str := ["first", "second"]
theorem sc_law_apart : FnScope N_law_apart P_law_apart (defScope s_law_apart) := ⟨rfl, rfl, rfl, by decide +kernel, rfl, by decide +kernel, by decide +kernel⟩
theorem bd_law_apart : BindsPlain s_law_apart "_law_apart" "_law_apart" P_law_apart := fun _ _ _ _ _ _ us hl => match us, hl with | [_, _], _ => rfl
abbrev s_law_is_marks : Stmt := (top 27)
abbrev N_law_is_marks : List Str := ["word", "mark"]
abbrev P_law_is_marks : List Str := ["word"]
theorem sc_law_is_marks : FnScope N_law_is_marks P_law_is_marks (defScope s_law_is_marks) := ⟨rfl, rfl, rfl, by decide +kernel, rfl, by decide +kernel, by decide +kernel⟩
theorem bd_law_is_marks : BindsPlain s_law_is_marks "_law_is_marks" "_law_is_marks" P_law_is_marks := fun _ _ _ _ _ _ us hl => match us, hl with | [_], _ => rfl
abbrev s_law_bad_part : Stmt := (top 28)
abbrev N_law_bad_part : List Str := ["start", "loop"]
abbrev P_law_bad_part : List Str := ["start", "loop"]
theorem sc_law_bad_part : FnScope N_law_bad_part P_law_bad_part (defScope s_law_bad_part) := ⟨rfl, rfl, rfl, by decide +kernel, rfl, by decide +kernel, by decide +kernel⟩
theorem bd_law_bad_part : BindsPlain s_law_bad_part "_law_bad_part" "_law_bad_part" P_law_bad_part := fun _ _ _ _ _ _ us hl => match us, hl with | [_, _], _ => rfl
abbrev s_law_bad_text : Stmt := (top 29)
abbrev N_law_bad_text : List Str := ["text", "at"]
abbrev P_law_bad_text : List Str := ["text"]
theorem sc_law_bad_text : FnScope N_law_bad_text P_law_bad_text (defScope s_law_bad_text) := ⟨rfl, rfl, rfl, by decide +kernel, rfl, by decide +kernel, by decide +kernel⟩
theorem bd_law_bad_text : BindsPlain s_law_bad_text "_law_bad_text" "_law_bad_text" P_law_bad_text := fun _ _ _ _ _ _ us hl => match us, hl with | [_], _ => rfl
abbrev s_law_refused : Stmt := (top 30)
abbrev N_law_refused : List Str := ["start", "loop", "text", "e"]
abbrev P_law_refused : List Str := ["start", "loop", "text"]
theorem sc_law_refused : FnScope N_law_refused P_law_refused (defScope s_law_refused) := ⟨rfl, rfl, rfl, by decide +kernel, rfl, by decide +kernel, by decide +kernel⟩
theorem bd_law_refused : BindsPlain s_law_refused "_law_refused" "_law_refused" P_law_refused := fun _ _ _ _ _ _ us hl => match us, hl with | [_, _, _], _ => rfl
abbrev s_law_spoilt : Stmt := (top 31)
abbrev N_law_spoilt : List Str := ["box", "word", "way", "at", "sign"]
abbrev P_law_spoilt : List Str := ["box", "word"]
theorem sc_law_spoilt : FnScope N_law_spoilt P_law_spoilt (defScope s_law_spoilt) := ⟨rfl, rfl, rfl, by decide +kernel, rfl, by decide +kernel, by decide +kernel⟩
theorem bd_law_spoilt : BindsPlain s_law_spoilt "_law_spoilt" "_law_spoilt" P_law_spoilt := fun _ _ _ _ _ _ us hl => match us, hl with | [_, _], _ => rfl
abbrev s_law_spoilt_text : Stmt := (top 32)
abbrev N_law_spoilt_text : List Str := ["box", "text", "at", "sign", "way"]
abbrev P_law_spoilt_text : List Str := ["box", "text"]
theorem sc_law_spoilt_text : FnScope N_law_spoilt_text P_law_spoilt_text (defScope s_law_spoilt_text) := ⟨rfl, rfl, rfl, by decide +kernel, rfl, by decide +kernel, by decide +kernel⟩
theorem bd_law_spoilt_text : BindsPlain s_law_spoilt_text "_law_spoilt_text" "_law_spoilt_text" P_law_spoilt_text := fun _ _ _ _ _ _ us hl => match us, hl with | [_, _], _ => rfl
abbrev s_law_words : Stmt := (top 33)
abbrev N_law_words : List Str := ["size", "words", "turn", "longer", "word"]
abbrev P_law_words : List Str := ["size"]
theorem sc_law_words : FnScope N_law_words P_law_words (defScope s_law_words) := ⟨rfl, rfl, rfl, by decide +kernel, rfl, by decide +kernel, by decide +kernel⟩
theorem bd_law_words : BindsPlain s_law_words "_law_words" "_law_words" P_law_words := fun _ _ _ _ _ _ us hl => match us, hl with | [_], _ => rfl
abbrev s_law_menu : Stmt := (top 34)
abbrev N_law_menu : List Str := ["starts", "loops", "menu", "many", "loop", "size", "start"]
abbrev P_law_menu : List Str := ["starts", "loops"]
theorem sc_law_menu : FnScope N_law_menu P_law_menu (defScope s_law_menu) := ⟨rfl, rfl, rfl, by decide +kernel, rfl, by decide +kernel, by decide +kernel⟩
theorem bd_law_menu : BindsPlain s_law_menu "_law_menu" "_law_menu" P_law_menu := fun _ _ _ _ _ _ us hl => match us, hl with | [_, _], _ => rfl
abbrev s_law_menu_refused : Stmt := (top 35)
abbrev N_law_menu_refused : List Str := ["starts", "loops", "e"]
abbrev P_law_menu_refused : List Str := ["starts", "loops"]
theorem sc_law_menu_refused : FnScope N_law_menu_refused P_law_menu_refused (defScope s_law_menu_refused) := ⟨rfl, rfl, rfl, by decide +kernel, rfl, by decide +kernel, by decide +kernel⟩
theorem bd_law_menu_refused : BindsPlain s_law_menu_refused "_law_menu_refused" "_law_menu_refused" P_law_menu_refused := fun _ _ _ _ _ _ us hl => match us, hl with | [_, _], _ => rfl
abbrev s_law_count_refused : Stmt := (top 36)
abbrev N_law_count_refused : List Str := ["mask", "length", "e"]
abbrev P_law_count_refused : List Str := ["mask", "length"]
theorem sc_law_count_refused : FnScope N_law_count_refused P_law_count_refused (defScope s_law_count_refused) := ⟨rfl, rfl, rfl, by decide +kernel, rfl, by decide +kernel, by decide +kernel⟩
theorem bd_law_count_refused : BindsPlain s_law_count_refused "_law_count_refused" "_law_count_refused" P_law_count_refused := fun _ _ _ _ _ _ us hl => match us, hl with | [_, _], _ => rfl
abbrev s_law_index_refused : Stmt := (top 37)
abbrev N_law_index_refused : List Str := ["mask", "at", "mark", "e"]
abbrev P_law_index_refused : List Str := ["mask", "at"]
theorem sc_law_index_refused : FnScope N_law_index_refused P_law_index_refused (defScope s_law_index_refused) := ⟨rfl, rfl, rfl, by decide +kernel, rfl, by decide +kernel, by decide +kernel⟩
theorem bd_law_index_refused : BindsPlain s_law_index_refused "_law_index_refused" "_law_index_refused" P_law_index_refused := fun _ _ _ _ _ _ us hl => match us, hl with | [_, _], _ => rfl
abbrev s_law_truth : Stmt := (top 38)
abbrev N_law_truth : List Str := ["answer", "due"]
abbrev P_law_truth : List Str := ["answer", "due"]
theorem sc_law_truth : FnScope N_law_truth P_law_truth (defScope s_law_truth) := ⟨rfl, rfl, rfl, by decide +kernel, rfl, by decide +kernel, by decide +kernel⟩
theorem bd_law_truth : BindsPlain s_law_truth "_law_truth" "_law_truth" P_law_truth := fun _ _ _ _ _ _ us hl => match us, hl with | [_, _], _ => rfl
abbrev s_law_is_mask : Stmt := (top 39)
abbrev N_law_is_mask : List Str := ["mask", "marks", "length", "at", "form"]
abbrev P_law_is_mask : List Str := ["mask", "marks", "length", "at"]
theorem sc_law_is_mask : FnScope N_law_is_mask P_law_is_mask (defScope s_law_is_mask) := ⟨rfl, rfl, rfl, by decide +kernel, rfl, by decide +kernel, by decide +kernel⟩
theorem bd_law_is_mask : BindsPlain s_law_is_mask "_law_is_mask" "_law_is_mask" P_law_is_mask := fun _ _ _ _ _ _ us hl => match us, hl with | [_, _, _, _], _ => rfl
abbrev s_law_combined : Stmt := (top 40)
abbrev N_law_combined : List Str := ["first", "second", "sign"]
abbrev P_law_combined : List Str := ["first", "second", "sign"]
theorem sc_law_combined : FnScope N_law_combined P_law_combined (defScope s_law_combined) := ⟨rfl, rfl, rfl, by decide +kernel, rfl, by decide +kernel, by decide +kernel⟩
theorem bd_law_combined : BindsPlain s_law_combined "_law_combined" "_law_combined" P_law_combined := fun _ _ _ _ _ _ us hl => match us, hl with | [_, _, _], _ => rfl
abbrev s_law_written_again : Stmt := (top 41)
abbrev N_law_written_again : List Str := ["mask", "start", "loop"]
abbrev P_law_written_again : List Str := ["mask", "start", "loop"]
theorem sc_law_written_again : FnScope N_law_written_again P_law_written_again (defScope s_law_written_again) := ⟨rfl, rfl, rfl, by decide +kernel, rfl, by decide +kernel, by decide +kernel⟩
theorem bd_law_written_again : BindsPlain s_law_written_again "_law_written_again" "_law_written_again" P_law_written_again := fun _ _ _ _ _ _ us hl => match us, hl with | [_, _, _], _ => rfl
abbrev s_law_menu_holds : Stmt := (top 42)
abbrev N_law_menu_holds : List Str := ["starts", "loops", "due", "told", "mask"]
abbrev P_law_menu_holds : List Str := ["starts", "loops"]
theorem sc_law_menu_holds : FnScope N_law_menu_holds P_law_menu_holds (defScope s_law_menu_holds) := ⟨rfl, rfl, rfl, by decide +kernel, rfl, by decide +kernel, by decide +kernel⟩
theorem bd_law_menu_holds : BindsPlain s_law_menu_holds "_law_menu_holds" "_law_menu_holds" P_law_menu_holds := fun _ _ _ _ _ _ us hl => match us, hl with | [_, _], _ => rfl
abbrev s_law_refusals_hold : Stmt := (top 43)
abbrev N_law_refusals_hold : List Str := ["box", "start", "loop", "odd_start", "odd_loop", "text"]
abbrev P_law_refusals_hold : List Str := ["box", "start", "loop"]
theorem sc_law_refusals_hold : FnScope N_law_refusals_hold P_law_refusals_hold (defScope s_law_refusals_hold) := ⟨rfl, rfl, rfl, by decide +kernel, rfl, by decide +kernel, by decide +kernel⟩
theorem bd_law_refusals_hold : BindsPlain s_law_refusals_hold "_law_refusals_hold" "_law_refusals_hold" P_law_refusals_hold := fun _ _ _ _ _ _ us hl => match us, hl with | [_, _, _], _ => rfl
abbrev s_law_menu_bounds_hold : Stmt := (top 44)
abbrev N_law_menu_bounds_hold : List Str := ["box", "starts", "loops", "due"]
abbrev P_law_menu_bounds_hold : List Str := ["box"]
theorem sc_law_menu_bounds_hold : FnScope N_law_menu_bounds_hold P_law_menu_bounds_hold (defScope s_law_menu_bounds_hold) := ⟨rfl, rfl, rfl, by decide +kernel, rfl, by decide +kernel, by decide +kernel⟩
theorem bd_law_menu_bounds_hold : BindsPlain s_law_menu_bounds_hold "_law_menu_bounds_hold" "_law_menu_bounds_hold" P_law_menu_bounds_hold := fun _ _ _ _ _ _ us hl => match us, hl with | [_], _ => rfl
abbrev s_law_below_refused : Stmt := (top 45)
abbrev N_law_below_refused : List Str := ["box", "mask", "below"]
abbrev P_law_below_refused : List Str := ["box", "mask"]
theorem sc_law_below_refused : FnScope N_law_below_refused P_law_below_refused (defScope s_law_below_refused) := ⟨rfl, rfl, rfl, by decide +kernel, rfl, by decide +kernel, by decide +kernel⟩
theorem bd_law_below_refused : BindsPlain s_law_below_refused "_law_below_refused" "_law_below_refused" P_law_below_refused := fun _ _ _ _ _ _ us hl => match us, hl with | [_, _], _ => rfl
abbrev s_law_read_back : Stmt := (top 46)
abbrev N_law_read_back : List Str := ["mask", "form", "refused"]
abbrev P_law_read_back : List Str := ["mask", "form"]
theorem sc_law_read_back : FnScope N_law_read_back P_law_read_back (defScope s_law_read_back) := ⟨rfl, rfl, rfl, by decide +kernel, rfl, by decide +kernel, by decide +kernel⟩
theorem bd_law_read_back : BindsPlain s_law_read_back "_law_read_back" "_law_read_back" P_law_read_back := fun _ _ _ _ _ _ us hl => match us, hl with | [_, _], _ => rfl
abbrev s_law_apart_holds : Stmt := (top 47)
abbrev N_law_apart_holds : List Str := ["first", "second", "marks", "other_marks", "due", "told"]
abbrev P_law_apart_holds : List Str := ["first", "second", "marks", "other_marks"]
theorem sc_law_apart_holds : FnScope N_law_apart_holds P_law_apart_holds (defScope s_law_apart_holds) := ⟨rfl, rfl, rfl, by decide +kernel, rfl, by decide +kernel, by decide +kernel⟩
theorem bd_law_apart_holds : BindsPlain s_law_apart_holds "_law_apart_holds" "_law_apart_holds" P_law_apart_holds := fun _ _ _ _ _ _ us hl => match us, hl with | [_, _, _, _], _ => rfl
abbrev s_law : Stmt := (top 48)
abbrev N_law : List Str := ["script", "box", "one", "two", "three", "length", "at", "first", "second", "third", "marks", "parts", "sign", "due", "both", "bad"]
abbrev P_law : List Str := ["script"]
theorem sc_law : FnScope N_law P_law (defScope s_law) := ⟨rfl, rfl, rfl, by decide +kernel, rfl, by decide +kernel, by decide +kernel⟩
theorem bd_law : BindsPlain s_law "law" "law" P_law := fun _ _ _ _ _ _ us hl => match us, hl with | [_], _ => rfl
structure Ad where
  GalloonError : Addr
  BadIndex : Addr
  BadCount : Addr
  BadPaint : Addr
  BadMask : Addr
  Mask : Addr
def eAd (a : Ad) : Nat → Addr
  | 0 => a.BadIndex
  | 1 => a.BadCount
  | 2 => a.BadPaint
  | _ => a.BadMask
structure Txt (K : PySem.W.Frag) (mg : Str → Option Value) (a : Ad) : Prop where
  b_ValueError : mg "ValueError" = none
  b_abs : mg "abs" = none
  b_all : mg "all" = none
  b_bool : mg "bool" = none
  b_classmethod : mg "classmethod" = none
  b_int : mg "int" = none
  b_isinstance : mg "isinstance" = none
  b_len : mg "len" = none
  b_list : mg "list" = none
  b_max : mg "max" = none
  b_range : mg "range" = none
  b_str : mg "str" = none
  b_sum : mg "sum" = none
  b_zip : mg "zip" = none
  g_MARKS : ∃ u, mg "MARKS" = some u ∧ RelV (.str "+-") u
  g_OPEN : ∃ u, mg "OPEN" = some u ∧ RelV (.str "+") u
  g_CLOSED : ∃ u, mg "CLOSED" = some u ∧ RelV (.str "-") u
  g_MOST_MARKS : ∃ u, mg "MOST_MARKS" = some u ∧ RelV (.int 6) u
  g_GalloonError : mg "GalloonError" = some (.ref a.GalloonError)
  e_BadIndex : ErrT K mg a.BadIndex "BadIndex" "BadIndex.__init__" "at" s_BadIndex___init__
  x_BadIndex : ErrC K a.BadIndex
  e_BadCount : ErrT K mg a.BadCount "BadCount" "BadCount.__init__" "count" s_BadCount___init__
  x_BadCount : ErrC K a.BadCount
  e_BadPaint : ErrT K mg a.BadPaint "BadPaint" "BadPaint.__init__" "row" s_BadPaint___init__
  x_BadPaint : ErrC K a.BadPaint
  e_BadMask : ErrT K mg a.BadMask "BadMask" "BadMask.__init__" "part" s_BadMask___init__
  x_BadMask : ErrC K a.BadMask
  c_Mask : ClsT K mg a.Mask "Mask"
  m_Mask___init__ : MetT K a.Mask "__init__" "Mask.__init__" s_Mask___init__
  m_Mask_every : CmT K a.Mask "every" "Mask.every" s_Mask_every
  m_Mask_none : CmT K a.Mask "none" "Mask.none" s_Mask_none
  m_Mask_read : CmT K a.Mask "read" "Mask.read" s_Mask_read
  m_Mask_menu : CmT K a.Mask "menu" "Mask.menu" s_Mask_menu
  m_Mask___eq__ : MetT K a.Mask "__eq__" "Mask.__eq__" s_Mask___eq__
  m_Mask___getitem__ : MetT K a.Mask "__getitem__" "Mask.__getitem__" s_Mask___getitem__
  m_Mask___and__ : MetT K a.Mask "__and__" "Mask.__and__" s_Mask___and__
  m_Mask___or__ : MetT K a.Mask "__or__" "Mask.__or__" s_Mask___or__
  m_Mask___xor__ : MetT K a.Mask "__xor__" "Mask.__xor__" s_Mask___xor__
  m_Mask___invert__ : MetT K a.Mask "__invert__" "Mask.__invert__" s_Mask___invert__
  m_Mask___str__ : MetT K a.Mask "__str__" "Mask.__str__" s_Mask___str__
  m_Mask_marks : MetT K a.Mask "marks" "Mask.marks" s_Mask_marks
  d_masks_apart : DefT K mg "masks_apart" s_masks_apart
  d_are_marks : DefT K mg "_are_marks" s_are_marks
  d_all_marks : DefT K mg "_all_marks" s_all_marks
  d_least_form : DefT K mg "_least_form" s_least_form
  d_combined : DefT K mg "_combined" s_combined
  d_law_box : DefT K mg "_law_box" s_law_box
  d_law_take : DefT K mg "_law_take" s_law_take
  d_law_word : DefT K mg "_law_word" s_law_word
  d_law_parts : DefT K mg "_law_parts" s_law_parts
  d_law_marks : DefT K mg "_law_marks" s_law_marks
  d_law_joined : DefT K mg "_law_joined" s_law_joined
  d_law_least : DefT K mg "_law_least" s_law_least
  d_law_apart : DefT K mg "_law_apart" s_law_apart
  d_law_is_marks : DefT K mg "_law_is_marks" s_law_is_marks
  d_law_bad_part : DefT K mg "_law_bad_part" s_law_bad_part
  d_law_bad_text : DefT K mg "_law_bad_text" s_law_bad_text
  d_law_refused : DefT K mg "_law_refused" s_law_refused
  d_law_spoilt : DefT K mg "_law_spoilt" s_law_spoilt
  d_law_spoilt_text : DefT K mg "_law_spoilt_text" s_law_spoilt_text
  d_law_words : DefT K mg "_law_words" s_law_words
  d_law_menu : DefT K mg "_law_menu" s_law_menu
  d_law_menu_refused : DefT K mg "_law_menu_refused" s_law_menu_refused
  d_law_count_refused : DefT K mg "_law_count_refused" s_law_count_refused
  d_law_index_refused : DefT K mg "_law_index_refused" s_law_index_refused
  d_law_truth : DefT K mg "_law_truth" s_law_truth
  d_law_is_mask : DefT K mg "_law_is_mask" s_law_is_mask
  d_law_combined : DefT K mg "_law_combined" s_law_combined
  d_law_written_again : DefT K mg "_law_written_again" s_law_written_again
  d_law_menu_holds : DefT K mg "_law_menu_holds" s_law_menu_holds
  d_law_refusals_hold : DefT K mg "_law_refusals_hold" s_law_refusals_hold
  d_law_menu_bounds_hold : DefT K mg "_law_menu_bounds_hold" s_law_menu_bounds_hold
  d_law_below_refused : DefT K mg "_law_below_refused" s_law_below_refused
  d_law_read_back : DefT K mg "_law_read_back" s_law_read_back
  d_law_apart_holds : DefT K mg "_law_apart_holds" s_law_apart_holds
  d_law : DefT K mg "law" s_law
  n_start : NoAttr K a.Mask "start"
  n_loop : NoAttr K a.Mask "loop"
  i_ha : PySem.W.findIn K (.ref a.Mask) "__class__" = some (some (.builtin "object.__class__"))
  i_hn : PySem.W.specialIn K (.builtin "object.__class__") "__get__" = some (some (.builtin "getset_descriptor.__get__"))
  i_ht : PySem.W.takesIn K (.builtin "object.__class__") = some true
  i_hm : PySem.W.mroIn K a.Mask (.type "object") = some true
  i_own : PySem.W.kitOne K (.ref a.Mask) (.ref a.Mask) = some true
  i_str : PySem.W.kitOne K (.type "str") (.ref a.Mask) = some false
  i_ni : PySem.W.notFirst K a.Mask (.type "int") = true
  i_ns : PySem.W.notFirst K a.Mask (.type "str") = true
  i_sf : PySem.W.selfFirst K a.Mask = true
  kk_e : ∀ i < 4, ∀ j < 4, PySem.W.kitOne K (.ref (eAd a i)) (.ref (eAd a j)) = some (decide (i = j))
  kg_e : ∀ i < 4, PySem.W.kitOne K (.ref (eAd a i)) (.ref a.GalloonError) = some true
  kv_e : ∀ i < 4, PySem.W.kitOne K (.ref (eAd a i)) (.type "ValueError") = some true
  xm_e : ∀ i < 4, PySem.W.exmOne K (.ref (eAd a i)) (.ref a.GalloonError) = some true
  xo_e : ∀ i < 4, ∀ j < 4, PySem.W.exmOne K (.ref (eAd a i)) (.ref (eAd a j)) = some (decide (i = j))
  m_lcm : mg "lcm" = some (.builtin "math.lcm")
section
variable {P : Program} {w : World} {K : PySem.W.Frag} {mg : Str → Option Value} {base : Heap} {a : Ad}
theorem c_BadIndex (T : Txt K mg a) : CanE P w K mg base a.BadIndex "BadIndex" "at" := canE_of T.e_BadIndex sc_BadIndex___init__ bd_BadIndex___init__ rfl (fun _ _ _ _ _ _ _ => pss_one (ps_ost (pv 0) (pv 1))) rfl
theorem c_BadCount (T : Txt K mg a) : CanE P w K mg base a.BadCount "BadCount" "count" := canE_of T.e_BadCount sc_BadCount___init__ bd_BadCount___init__ rfl (fun _ _ _ _ _ _ _ => pss_one (ps_ost (pv 0) (pv 1))) rfl
theorem c_BadPaint (T : Txt K mg a) : CanE P w K mg base a.BadPaint "BadPaint" "row" := canE_of T.e_BadPaint sc_BadPaint___init__ bd_BadPaint___init__ rfl (fun _ _ _ _ _ _ _ => pss_one (ps_ost (pv 0) (pv 1))) rfl
theorem c_BadMask (T : Txt K mg a) : CanE P w K mg base a.BadMask "BadMask" "part" := canE_of T.e_BadMask sc_BadMask___init__ bd_BadMask___init__ rfl (fun _ _ _ _ _ _ _ => pss_one (ps_ost (pv 0) (pv 1))) rfl
end
end K17

end
section
set_option Elab.async false
set_option linter.all false
set_option maxRecDepth 100000
set_option maxHeartbeats 4000000
namespace K17
open PySem PySem.Spec PyProof.Rows L2 Kit
section
variable {P : Program} {w : World} {K : PySem.W.Frag} {mg : Str → Option Value} {base : Heap} {a : Ad}
local macro_rules | `(tactic| walk_at "rd") => `(tactic| repeat (first | refine ⟨_, rfl, ?_⟩ | refine ⟨_, _, rfl, rfl, ?_⟩ | refine ⟨rfl, ?_⟩))
/-! ### a scheme -/
def fl (r c n : Nat) : List (Str × V) := [("rows", .int r), ("colours", .int c), ("columns", tx (cols n))]
def SchemeAt (C : Addr) (H : Hp) (p : Addr) (r c n : Nat) : Prop := (∃ dx, H p = some (.ins C dx (fl r c n))) ∧ Good r c n
theorem SchemeAt.mono {C p : Addr} {H G : Hp} {r c n : Nat} (h : SchemeAt C H p r c n) (e : Same H G) : SchemeAt C G p r c n := ⟨let ⟨dx, z⟩ := h.1; ⟨dx, e _ _ z⟩, h.2⟩
theorem fm (x c : Nat) : ((x : Nat) : Int).fmod ((c : Nat) : Int) = ((x % c : Nat) : Int) := by
  rw [Int.fmod_eq_emod_of_nonneg _ (by omega)]
  exact (Int.natCast_emod x c).symm
theorem fd (x c : Nat) : ((x : Nat) : Int).fdiv ((c : Nat) : Int) = ((x / c : Nat) : Int) := by
  rw [Int.fdiv_eq_ediv_of_nonneg _ (by omega)]
  exact (Int.natCast_ediv x c).symm
theorem k1 : (("colours" : Str) == ("rows" : Str)) = false := by decide +kernel
theorem k2 : (("columns" : Str) == ("rows" : Str)) = false := by decide +kernel
theorem k3 : (("columns" : Str) == ("colours" : Str)) = false := by decide +kernel
theorem fl_rows (r c n : Nat) : (fl r c n).lookup ("rows" : Str) = some (.int r) := by
  unfold fl
  rw [List.lookup_cons, beq_self_eq_true]
theorem fl_colours (r c n : Nat) : (fl r c n).lookup ("colours" : Str) = some (.int c) := by
  unfold fl
  rw [List.lookup_cons, k1, List.lookup_cons, beq_self_eq_true]
theorem fl_columns (r c n : Nat) : (fl r c n).lookup ("columns" : Str) = some (tx (cols n)) := by
  unfold fl
  rw [List.lookup_cons, k2, List.lookup_cons, k3, List.lookup_cons, beq_self_eq_true]
theorem fl_no (r c n : Nat) {m : Str} (h1 : (m == ("rows" : Str)) = false) (h2 : (m == ("colours" : Str)) = false) (h3 : (m == ("columns" : Str)) = false) : (fl r c n).lookup m = none := by
  unfold fl
  rw [List.lookup_cons, h1, List.lookup_cons, h2, List.lookup_cons, h3, List.lookup_nil]
theorem lit_dig : (Str.ofString "012") = S [48, 49, 50] := by decide +kernel
theorem lit_let : (Str.ofString "abcdefghi") = S (cols 9) := by decide +kernel
theorem lit_e : (Str.ofString "") = S [] := by decide +kernel
/-- what follows of a field's reading: C, the class's facts, the fields -/
local macro_rules | `(tactic| walk_at "rd") => `(tactic| repeat (first | refine ⟨_, rfl, ?_⟩ | refine ⟨_, _, rfl, rfl, ?_⟩ | refine ⟨rfl, ?_⟩))
def spIsCol (C : Addr) : Sp := fun vs H Q _ => ∃ (p : Addr) (r c n : Nat) (l : List Nat), vs = [.ref p, tx l] ∧ SchemeAt C H p r c n ∧ l.length ≤ 100000 ∧ Q (.bl (isCol n l)) H
theorem one_in {l : List Nat} (h : l.length = 1) : ∃ x, l = [x] := by
  match l, h with
  | [x], _ => exact ⟨x, rfl⟩
def spIsColour (C : Addr) : Sp := fun vs H Q _ => ∃ (p : Addr) (r c n : Nat) (l : List Nat), vs = [.ref p, tx l] ∧ SchemeAt C H p r c n ∧ l.length ≤ 100000 ∧ Q (.bl (isColour c l)) H
theorem cut_dig {c : Nat} (h : c = 2 ∨ c = 3) : cutS (Str.ofString "012") none (some (c : Int)) = S ((List.range c).map (48 + ·)) := by
  rcases h with rfl | rfl <;> decide +kernel
theorem mem_digs {c x : Nat} : x ∈ (List.range c).map (48 + ·) ↔ inDig c x = true := by
  unfold inDig
  rw [List.mem_map, decide_eq_true_iff]
  constructor
  · rintro ⟨k, hk, rfl⟩
    have := List.mem_range.mp hk
    omega
  · intro h
    exact ⟨x - 48, List.mem_range.mpr (by omega), by omega⟩
theorem good_c {r c n : Nat} (h : Good r c n) : c = 2 ∨ c = 3 := by
  rcases h.cases with h | h | h | h | h <;> omega
theorem at_S {l : List Nat} {i c : Nat} (h : (S l).cps[i]? = some c) : l[i]? = some c := by
  have z : (S l).cps[i]? = l[i]? := List.getElem?_toArray ..
  rw [← z]
  exact h
theorem beq_col (n x : Nat) : decide (x ∈ (S (cols n)).cps.toList) = inCol n x := by
  rw [S_cps]
  by_cases h : inCol n x = true
  · rw [h, decide_eq_true (mem_cols.mpr h)]
  · rw [decide_eq_false (fun q => h (mem_cols.mp q)), Bool.eq_false_iff.mpr h]
theorem all_map {l : List Nat} {f : Nat → Bool} : (l.map f).all id = l.all f := by
  rw [List.all_map]
  rfl
def spIsStrip (C : Addr) : Sp := fun vs H Q _ => ∃ (p : Addr) (r c n : Nat) (l : List Nat), vs = [.ref p, tx l] ∧ SchemeAt C H p r c n ∧ l.length ≤ 100000 ∧ ∀ G, Same H G → Q (.bl (isStrip n l)) G
def col0 (l : List Nat) : Nat := l.headD 0 - 97
theorem idx_col {n x : Nat} (hn : n ≤ 9) (h : inCol n x = true) : Txt.index0 (S (cols n)) (S [x]) = some (x - 97) := by
  unfold inCol at h
  rw [decide_eq_true_iff] at h
  have z : ∀ n ≤ 9, ∀ k < n, Txt.index0 (S (cols n)) (S [97 + k]) = some k := by decide +kernel
  have y := z n hn (x - 97) (by omega)
  rw [show 97 + (x - 97) = x by omega] at y
  exact y
theorem good_n {r c n : Nat} (h : Good r c n) : n ≤ 9 ∧ 0 < r ∧ r ≤ 3 ∧ 0 < n ∧ 2 ≤ n := by
  rcases h.cases with h | h | h | h | h <;> omega
theorem atI_S {l : List Nat} {i x : Nat} (h : l[i]? = some x) : atI (S l).cps.toList ((i : Nat) : Int) = some x := by
  rw [S_cps]
  exact atI_nat h
theorem lit_at {k : Nat} (h : k < 3) : atI (Str.ofString "012").cps.toList ((k : Nat) : Int) = some (48 + k) := by
  rw [lit_dig]
  refine atI_S ?_
  have z : ∀ k < 3, [48, 49, 50][k]? = some (48 + k) := by decide
  exact z k h
theorem isCol_one {n : Nat} {l : List Nat} (h : isCol n l = true) : ∃ x, l = [x] ∧ inCol n x = true := by
  unfold isCol at h
  rw [Bool.and_eq_true, decide_eq_true_iff] at h
  obtain ⟨x, rfl⟩ := one_in h.1
  exact ⟨x, rfl, by simpa using h.2⟩
theorem ord_ab {n x : Nat} (h : inCol n x = true) : (((S [x]).cps.getD 0 0 : Nat) : Int) - (((Str.ofString "a").cps.getD 0 0 : Nat) : Int) = ((x - 97 : Nat) : Int) := by
  have e1 : (S [x]).cps.getD 0 0 = x := rfl
  have e2 : (Str.ofString "a").cps.getD 0 0 = 97 := by decide +kernel
  rw [e1, e2]
  unfold inCol at h
  rw [decide_eq_true_iff] at h
  omega
theorem idx_dig {x : Nat} (h : inDig 3 x = true) : Txt.index0 (Str.ofString "012") (S [x]) = some (x - 48) := by
  unfold inDig at h
  rw [decide_eq_true_iff] at h
  have z : ∀ k < 3, Txt.index0 (Str.ofString "012") (S [48 + k]) = some k := by decide +kernel
  have y := z (x - 48) (by omega)
  rw [show 48 + (x - 48) = x by omega] at y
  exact y
theorem int_dig {x : Nat} (h : inDig 3 x = true) : PySem.intText? (S [x]) = some ((x - 48 : Nat) : Int) := by
  unfold inDig at h
  rw [decide_eq_true_iff] at h
  have z : ∀ k < 3, PySem.intText? (S [48 + k]) = some ((k : Nat) : Int) := by decide +kernel
  have y := z (x - 48) (by omega)
  rw [show 48 + (x - 48) = x by omega] at y
  exact y
theorem inDig3 {c x : Nat} (hc : c ≤ 3) (h : inDig c x = true) : inDig 3 x = true := by
  unfold inDig at h ⊢
  rw [decide_eq_true_iff] at h ⊢
  omega
theorem isColour_one (c x : Nat) : isColour c [x] = inDig c x := by
  rw [isColour, List.all_cons, List.all_nil, Bool.and_true]
  rfl
theorem num_take {c : Nat} {l : List Nat} {i x : Nat} (h : l[i]? = some x) : num c (l.take (i + 1)) = num c (l.take i) * c + (x - 48) := by
  unfold num
  rw [List.take_add_one, h, List.foldl_append]
  rfl
theorem all_at {l : List Nat} {f : Nat → Bool} (h : l.all f = true) {i x : Nat} (hx : l[i]? = some x) : f x = true := List.all_eq_true.mp h x (List.mem_of_getElem? hx)
theorem cols_at {n k : Nat} (h : k < n) : atI (S (cols n)).cps.toList ((k : Nat) : Int) = some (97 + k) := by
  refine atI_S ?_
  unfold cols
  rw [List.getElem?_map, List.getElem?_range h]
  rfl
/-! ### Scheme(rows, colours) -/
theorem put_fl (x y : V) (n : Nat) (r c : Nat) : putF "columns" (tx (cols n)) (putF "colours" (.int c) (putF "rows" (.int r) [])) = fl r c n := by
  have e1 : ¬ (("rows" : Str) = "colours") := by decide +kernel
  have e2 : ¬ (("rows" : Str) = "columns") := by decide +kernel
  have e3 : ¬ (("colours" : Str) = "columns") := by decide +kernel
  show putF "columns" _ (if ("rows" : Str) = "colours" then _ else _) = _
  rw [if_neg e1]
  show (if ("rows" : Str) = "columns" then _ else (("rows" : Str), V.int r) :: (if ("colours" : Str) = "columns" then _ else _)) = _
  rw [if_neg e2, if_neg e3]
  rfl
def sizeOf (r c : Int) : Option Nat := if r = 1 ∧ c = 2 then some 2 else if r = 1 ∧ c = 3 then some 3 else if r = 2 ∧ c = 2 then some 4 else if r = 2 ∧ c = 3 then some 9 else if r = 3 ∧ c = 2 then some 8 else none
/-- the first wrong part -/
def badPart (r c : Int) : Option (List Nat) := if ¬ (r = 1 ∨ r = 2 ∨ r = 3) then some [114, 111, 119, 115] else if ¬ (c = 2 ∨ c = 3) then some [99, 111, 108, 111, 117, 114, 115] else if r = 3 ∧ c = 3 then some [115, 105, 122, 101] else none
def rowsOf (r c : Nat) (l : List Nat) : List (List Nat) := (List.range r).map fun j => l.map fun x => (dig r c (x - 97)).getD j 0
theorem rowsOf_len (r c : Nat) (l : List Nat) : (rowsOf r c l).length = r := by simp [rowsOf]
theorem strip_at {n : Nat} {l : List Nat} (h : isStrip n l = true) {i x : Nat} (hx : l[i]? = some x) : inCol n x = true := all_at h hx
theorem isCol_mk {n x : Nat} (h : inCol n x = true) : isCol n [x] = true := by
  rw [isCol, List.all_cons, h]
  rfl
theorem join_eq (s : Str) (l : List Str) : Txt.join s l = Str.join s l := StrLaws.glued_eq_join s l
/-- join of texts of one sign, the empty text between them -/
theorem join_ones : ∀ l : List Nat, Txt.join (S []) (l.map fun x => S [x]) = S l
  | [] => rfl
  | [x] => rfl
  | x :: y :: l => by
    have e := join_ones (y :: l)
    have z : Txt.join (S []) ((x :: y :: l).map fun x => S [x]) = S [x] ++ S [] ++ Txt.join (S []) ((y :: l).map fun x => S [x]) := by
      rw [join_eq, join_eq]
      rfl
    rw [z, e, S_app, S_app]
    rfl
theorem sum_ones (l : List Nat) : ((l.map fun x => S [x]).map (·.length)).sum = l.length := by
  induction l with
  | nil => rfl
  | cons x l ih =>
    rw [List.map_cons, List.map_cons, List.sum_cons, ih, List.length_cons]
    show 1 + l.length = _
    omega
theorem sIx_some (n d k : Nat) : HT.sIx n d (some (k : Int)) = min k n := by
  show (if (k : Int) < 0 then ((k : Int) + (n : Int)).toNat else min (k : Int).toNat n) = _
  rw [if_neg (by omega)]
  rfl
theorem sIx_none (n d : Nat) : HT.sIx n d none = d := rfl
theorem cut_take (l : List Nat) (k : Nat) : cutS (S l) none (some (k : Int)) = S (l.take k) := by
  rw [cut_S, sIx_some, sIx_none, List.drop_zero, Nat.sub_zero]
  congr 1
  by_cases h : k ≤ l.length
  · rw [Nat.min_eq_left h]
  · rw [Nat.min_eq_right (by omega), List.take_length, List.take_of_length_le (by omega)]
theorem cut_drop (l : List Nat) (k : Nat) : cutS (S l) (some (k : Int)) none = S (l.drop k) := by
  rw [cut_S, sIx_some, sIx_none]
  congr 1
  by_cases h : k ≤ l.length
  · rw [Nat.min_eq_left h, List.take_of_length_le (by simp)]
  · rw [Nat.min_eq_right (by omega), List.drop_length, List.drop_of_length_le (by omega), List.take_nil]
def spotAt (r c : Nat) (l : List Nat) (row at_ : Nat) : Nat := (dig r c (l.getD at_ 0 - 97)).getD row 0
theorem getD_at {l : List Nat} {i : Nat} (h : i < l.length) : l[i]? = some (l.getD i 0) := by
  rw [List.getD_eq_getElem?_getD, List.getElem?_eq_getElem h]
  rfl
def recol (r c : Nat) (l : List Nat) (row at_ : Nat) (col : List Nat) : List Nat :=
  l.take at_ ++ [97 + num c ((dig r c (l.getD at_ 0 - 97)).take row ++ col ++ (dig r c (l.getD at_ 0 - 97)).drop (row + 1))] ++ l.drop (at_ + 1)
theorem digs_put {r c : Nat} {d col : List Nat} {row : Nat} (h : isDigs r c d = true) (hr : row < r) (hc : isColour c col = true) : isDigs r c (d.take row ++ col ++ d.drop (row + 1)) = true := by
  unfold isDigs at h ⊢
  unfold isColour at hc
  rw [Bool.and_eq_true, decide_eq_true_iff] at h hc ⊢
  obtain ⟨h1, h2⟩ := h
  obtain ⟨h3, h4⟩ := hc
  refine ⟨by simp; omega, ?_⟩
  rw [List.all_append, List.all_append, h4, Bool.and_true, Bool.and_eq_true]
  exact ⟨List.all_eq_true.mpr fun x hx => List.all_eq_true.mp h2 x (List.mem_of_mem_take hx), List.all_eq_true.mpr fun x hx => List.all_eq_true.mp h2 x (List.mem_of_mem_drop hx)⟩
def spLenS (C : Addr) : Sp := fun vs H Q _ => ∃ (p : Addr) (r c n : Nat), vs = [.ref p] ∧ SchemeAt C H p r c n ∧ Q (.int n) H
/-- == with another thing: another scheme, an int, a text -/
def spEqS (C : Addr) : Sp := fun vs H Q _ => ∃ (p : Addr) (r c n : Nat) (y : V), vs = [.ref p, y] ∧ SchemeAt C H p r c n ∧
  ((∃ i, y = .int i ∧ Q (.bl false) H) ∨ (∃ t, y = .str t ∧ Q (.bl false) H) ∨ ∃ q r2 c2 n2, y = .ref q ∧ SchemeAt C H q r2 c2 n2 ∧ Q (.bl (decide (r = r2) && decide (c = c2))) H)
/-! ### of_picture -/
def badAt (r c : Nat) (ls : List (List Nat)) (k : Nat) : Bool := decide (r ≤ k) || decide ((ls.getD k []).length ≠ (ls.getD 0 []).length) || !(ls.getD k []).all (inDig c)
def firstBad (r c : Nat) (ls : List (List Nat)) : Option Nat := (List.range ls.length).find? (badAt r c ls)
theorem first_some {r c i : Nat} {ls : List (List Nat)} (h : ∀ k < i, badAt r c ls k = false) (hb : badAt r c ls i = true) (hi : i < ls.length) : firstBad r c ls = some i := by
  unfold firstBad
  rw [List.find?_range_eq_some]
  exact ⟨hb, List.mem_range.mpr hi, fun k hk => by rw [h k hk]; rfl⟩
theorem first_none {r c : Nat} {ls : List (List Nat)} (h : ∀ k < ls.length, badAt r c ls k = false) : firstBad r c ls = none := by
  unfold firstBad
  rw [List.find?_eq_none]
  intro k hk
  rw [h k (List.mem_range.mp hk)]
  decide
def ofPic (c : Nat) (ls : List (List Nat)) : List Nat := (List.range (ls.getD 0 []).length).map fun t => 97 + num c (ls.map fun l => l.getD t 0)
theorem getD_lst {ls : List (List Nat)} {i : Nat} {l : List Nat} (h : ls[i]? = some l) : ls.getD i [] = l := by
  rw [List.getD_eq_getElem?_getD, h]
  rfl
theorem good_digs {r c : Nat} {ls : List (List Nat)} (h : ∀ k < ls.length, badAt r c ls k = false) (hr : r ≤ ls.length) {t : Nat} (ht : t < (ls.getD 0 []).length) : isDigs r c (ls.map fun l => l.getD t 0) = true ∧ ls.length = r := by
  have hlen : ls.length = r := by
    by_cases q : r < ls.length
    · have := h r q
      unfold badAt at this
      simp at this
    · omega
  refine ⟨?_, hlen⟩
  unfold isDigs
  rw [List.length_map, decide_eq_true hlen, Bool.true_and, List.all_map, List.all_eq_true]
  intro l hl
  obtain ⟨k, hk, rfl⟩ := List.mem_iff_getElem.mp hl
  have e : ls.getD k [] = ls[k] := getD_lst (List.getElem?_eq_getElem hk)
  have hb := h k hk
  unfold badAt at hb
  rw [e] at hb
  simp only [Bool.or_eq_false_iff, decide_eq_false_iff_not, Bool.not_eq_false'] at hb
  obtain ⟨⟨_, h2⟩, h3⟩ := hb
  have h2 : ls[k].length = (ls.getD 0 []).length := by
    by_cases q : ls[k].length = (ls.getD 0 []).length
    · exact q
    · exact absurd q h2
  exact all_at h3 (getD_at (by omega))
/-- all but the purse as before -/
def Pu (p : Addr) (H G : Hp) : Prop := (∀ b o, H b = some o → b ≠ p → G b = some o) ∧ PurseAt G p
theorem pmono {H G : Hp} {p : Addr} (h : PurseAt H p) (e : Same H G) : PurseAt G p := let ⟨x, y, z, q, r⟩ := h; ⟨x, y, z, e _ _ q, r⟩
theorem Pu.refl {p : Addr} {H : Hp} (h : PurseAt H p) : Pu p H H := ⟨fun _ _ e _ => e, h⟩
theorem Pu.draw {p : Addr} {H : Hp} {o : HO} (h : PurseAt (upd H p o) p) : Pu p H (upd H p o) := ⟨fun b u e hb => by rw [upd_ne hb]; exact e, h⟩
theorem Pu.trans {p : Addr} {H G M : Hp} (h : Pu p H G) (k : Pu p G M) : Pu p H M := ⟨fun b o e hb => k.1 b o (h.1 b o e hb) hb, k.2⟩
theorem Pu.same {p : Addr} {H G M : Hp} (h : Pu p H G) (k : Same G M) : Pu p H M := ⟨fun b o e hb => k b o (h.1 b o e hb), pmono h.2 k⟩
theorem same_pu {p : Addr} {H G M : Hp} (h : Same H G) (k : Pu p G M) : Pu p H M := ⟨fun b o e hb => k.1 b o (h b o e) hb, k.2⟩
def SizeAt (H : Hp) (s : Addr) (r c n : Nat) : Prop := H s = some (.tup [.int r, .int c, .int n]) ∧ Good r c n
theorem SizeAt.mono {H G : Hp} {s : Addr} {r c n : Nat} (h : SizeAt H s r c n) (e : Same H G) : SizeAt G s r c n := ⟨e _ _ h.1, h.2⟩
theorem SizeAt.pu {H G : Hp} {s p : Addr} {r c n : Nat} (h : SizeAt H s r c n) (hp : PurseAt H p) (e : Pu p H G) : SizeAt G s r c n := by
  obtain ⟨x, y, z, q, _⟩ := hp
  exact ⟨e.1 _ _ h.1 (ne_of h.1 q (by intro z; cases z)), h.2⟩
theorem SchemeAt.pu {C : Addr} {H G : Hp} {q p : Addr} {r c n : Nat} (h : SchemeAt C H q r c n) (hp : PurseAt H p) (e : Pu p H G) : SchemeAt C G q r c n := by
  obtain ⟨x, y, z, k, _⟩ := hp
  obtain ⟨⟨dx, h1⟩, h2⟩ := h
  exact ⟨⟨dx, e.1 _ _ h1 (ne_of h1 k (by intro z; cases z))⟩, h2⟩
/-! ### signs, spoilt texts, numbers far off -/
theorem at_of_lt {l : List Nat} {d : Int} (h0 : 0 ≤ d) (h1 : d < l.length) : ∃ x, atI (S l).cps.toList d = some x := by
  have e := atI_S (getD_at (l := l) (i := d.toNat) (by omega))
  rw [show ((d.toNat : Nat) : Int) = d by omega] at e
  exact ⟨_, e⟩
theorem str_at {s : String} {n : Nat} (hs : (Str.ofString s).length = n) {d : Int} (h0 : 0 ≤ d) (h1 : d < n) : ∃ x, atI (Str.ofString s).cps.toList d = some x := by
  obtain ⟨l, hl⟩ := S_of (Str.ofString s)
  rw [hl] at hs ⊢
  rw [S_len] at hs
  exact at_of_lt h0 (by omega)
theorem cutV_S (xs : List V) (lo hi : Option Int) : cutV xs lo hi = (xs.drop (HT.sIx xs.length 0 lo)).take (HT.sIx xs.length xs.length hi - HT.sIx xs.length 0 lo) := rfl
theorem cutV_take (xs : List V) {d : Int} (h : 0 ≤ d) : cutV xs none (some d) = xs.take d.toNat := by
  obtain ⟨k, rfl⟩ : ∃ k : Nat, (k : Int) = d := ⟨d.toNat, by omega⟩
  rw [cutV_S, sIx_some, sIx_none, List.drop_zero, Nat.sub_zero]
  show xs.take (min k xs.length) = xs.take k
  by_cases h : k ≤ xs.length
  · rw [Nat.min_eq_left h]
  · rw [Nat.min_eq_right (by omega), List.take_length, List.take_of_length_le (by omega)]
theorem cutV_drop (xs : List V) {d : Int} (h : 0 ≤ d) : cutV xs (some d) none = xs.drop d.toNat := by
  obtain ⟨k, rfl⟩ : ∃ k : Nat, (k : Int) = d := ⟨d.toNat, by omega⟩
  rw [cutV_S, sIx_some, sIx_none]
  show (xs.drop (min k xs.length)).take (xs.length - min k xs.length) = xs.drop k
  by_cases h : k ≤ xs.length
  · rw [Nat.min_eq_left h, List.take_of_length_le (by simp)]
  · rw [Nat.min_eq_right (by omega), List.drop_length, List.drop_of_length_le (by omega), List.take_nil]
theorem cutM_take (ls : List (List Nat)) {d : Int} (h : 0 ≤ d) : cutV (ls.map tx) none (some d) = (ls.take d.toNat).map tx := by
  rw [cutV_take _ h, List.map_take]
theorem cutM_drop (ls : List (List Nat)) {d : Int} (h : 0 ≤ d) : cutV (ls.map tx) (some d) none = (ls.drop d.toNat).map tx := by
  rw [cutV_drop _ h, List.map_drop]
theorem SqLm {K : PySem.W.Frag} {H G : Hp} {q : Addr} {xs : List V} (h : SqL K H q xs) (e : Same H G) : SqL K G q xs := by
  rcases h with h | h
  · rcases h with h | ⟨o, h⟩
    · exact .inl (.inl (e _ _ h))
    · exact .inl (.inr ⟨o, e _ _ h⟩)
  · exact .inr h
theorem free_same {H G : Hp} {q : Addr} (s : Same H G) (h : G q = none) : H q = none := by
  cases e : H q with
  | none => rfl
  | some o =>
    rw [s _ _ e] at h
    cases h
/-! ### the boxes: n more draws -/
def BoxAt (n : Nat) (H : Hp) (p : Addr) : Prop := ∃ x y z : Int, H p = some (.lst [.int x, .int y, .int z]) ∧ 0 ≤ x ∧ 0 ≤ z ∧ z + n ≤ 100000
def Bu (n : Nat) (p : Addr) (H G : Hp) : Prop := (∀ b o, H b = some o → b ≠ p → G b = some o) ∧ BoxAt n G p
theorem BoxAt.mono {n : Nat} {H G : Hp} {p : Addr} (h : BoxAt n H p) (e : Same H G) : BoxAt n G p := let ⟨x, y, z, q, r⟩ := h; ⟨x, y, z, e _ _ q, r⟩
theorem BoxAt.le {n m : Nat} {H : Hp} {p : Addr} (h : BoxAt n H p) (e : m ≤ n) : BoxAt m H p := let ⟨x, y, z, q, r1, r2, r3⟩ := h; ⟨x, y, z, q, r1, r2, by omega⟩
theorem Bu.draw {n : Nat} {p : Addr} {H : Hp} {o : HO} (h : BoxAt n (upd H p o) p) : Bu n p H (upd H p o) := ⟨fun b u e hb => by rw [upd_ne hb]; exact e, h⟩
theorem Bu.trans {n m : Nat} {p : Addr} {H G M : Hp} (h : Bu n p H G) (k : Bu m p G M) : Bu m p H M := ⟨fun b o e hb => k.1 b o (h.1 b o e hb) hb, k.2⟩
theorem Bu.same {n : Nat} {p : Addr} {H G M : Hp} (h : Bu n p H G) (k : Same G M) : Bu n p H M := ⟨fun b o e hb => k b o (h.1 b o e hb), h.2.mono k⟩
theorem same_bu {n : Nat} {p : Addr} {H G M : Hp} (h : Same H G) (k : Bu n p G M) : Bu n p H M := ⟨fun b o e hb => k.1 b o (h b o e) hb, k.2⟩
theorem Bu.refl {n : Nat} {p : Addr} {H : Hp} (h : BoxAt n H p) : Bu n p H H := ⟨fun _ _ e _ => e, h⟩
theorem Bu.le {n m : Nat} {p : Addr} {H G : Hp} (h : Bu n p H G) (e : m ≤ n) : Bu m p H G := ⟨h.1, h.2.le e⟩
def spTake : Sp := fun vs H Q _ => ∃ (p : Addr) (m : Int) (n : Nat), vs = [.ref p, .int m] ∧ BoxAt (n + 1) H p ∧ 0 < m ∧ m < 1000000000 ∧ ∀ (d : Int) (G : Hp), 0 ≤ d → d < m → Bu n p H G → Q (.int d) G
theorem c_law_take (T : Txt K mg a) : Can P w K mg base 1 "_law_take" spTake := by
  refine can_of T.d_law_take sc_law_take bd_law_take (fun vs H Q E h => ?_) (fun f cdv A outer s H vs Q E hr h => ?_)
  · obtain ⟨p, m, n, rfl, _⟩ := h
    rfl
  · obtain ⟨p, m, n, rfl, ⟨x, y, z, hp, hx, hz, hzn⟩, h0, h1, k⟩ := h
    refine ⟨_, (pss_cons (ps_asg (pe_op op_add (pe_ix (kix_list K) (pv 0) pe_int (fun _ _ => rfl)) pe_int) (pg_sub (pv 0) pe_int set_list))
      (pss_cons (ps_if (PW.pt (pw_and (pt_cmpR op_gt (pe_ix (kix_list K) (pv 0) pe_int (fun _ _ => rfl)) pe_int (nomark _)) (pw_and1 (pt_cmpR op_le (pe_ix (kix_list K) (pv 0) pe_int (fun _ _ => rfl)) pe_int (nomark _))))) (pss_cons (ps_set (i := 2) sc_law_take.nd rfl (.inl rfl) (pe_op op_modN (pe_callTy call_int1 (by rfl) T.b_int (by decide +kernel) (pa_cons (pe_ix (kix_list K) (pv 0) pe_int (fun _ _ => rfl)) pa_nil)) (pv 1)))
      (pss_cons (ps_asg (pe_op op_fdivN (pe_callTy call_int1 (by rfl) T.b_int (by decide +kernel) (pa_cons (pe_ix (kix_list K) (pv 0) pe_int (fun _ _ => rfl)) pa_nil)) (pv 1)) (pg_sub (pv 0) pe_int set_list))
      (pss_one (ps_ret (pv 2))))) pss_nil)
      (pss_cons (ps_set (i := 3) sc_law_take.nd rfl (.inl rfl) (pe_op op_modN (pe_callTy call_int1 (by rfl) T.b_int (by decide +kernel) (pa_cons (pe_op op_mul (pe_ix (kix_list K) (pv 0) pe_int (fun _ _ => rfl)) (pe_op op_add (pe_op op_mul (pe_ix (kix_list K) (pv 0) pe_int (fun _ _ => rfl)) pe_int) pe_int)) pa_nil)) pe_int))
      (pss_cons (ps_set (i := 3) sc_law_take.nd rfl (.inl rfl) (pe_op op_modN (pe_callTy call_int1 (by rfl) T.b_int (by decide +kernel) (pa_cons (pe_op op_mul (pv 3) (pe_op op_add (pe_op op_modN (pe_callTy call_int1 (by rfl) T.b_int (by decide +kernel) (pa_cons (pv 3) pa_nil)) pe_int) (pe_op op_mul (pe_ix (kix_list K) (pv 0) pe_int (fun _ _ => rfl)) pe_int))) pa_nil)) pe_int))
      (pss_one (ps_ret (pe_op op_modN (pe_callTy call_int1 (by rfl) T.b_int (by decide +kernel) (pa_cons (pe_op op_fdivN (pv 3) pe_int) pa_nil)) (pv 1)))))))), ?_⟩
    have e0 : ∀ u v t : Int, atI [V.int u, .int v, .int t] 0 = some (.int u) := fun _ _ _ => rfl
    have e1 : ∀ u v t : Int, atI [V.int u, .int v, .int t] 1 = some (.int v) := fun _ _ _ => rfl
    have e2 : ∀ u v t : Int, atI [V.int u, .int v, .int t] 2 = some (.int t) := fun _ _ _ => rfl
    refine ⟨_, rfl, p, _, 2, _, rfl, rfl, seqL_of hp, e2 _ _ _, z, 1, rfl, rfl, _, rfl, p, _, 2, 2, rfl, rfl, hp, rfl, ?_⟩
    have hp2 : upd H p (.lst [.int x, .int y, .int (z + 1)]) p = some (.lst [.int x, .int y, .int (z + 1)]) := upd_same
    have k2 : ∀ (x' : Int) (d : Int), 0 ≤ x' → 0 ≤ d → d < m → Q (.int d) (upd (upd H p (.lst [.int x, .int y, .int (z + 1)])) p (.lst [.int x', .int y, .int (z + 1)])) := fun x' d a1 a2 a3 =>
      k d _ a2 a3 ⟨fun b o e hb => by rw [upd_ne hb, upd_ne hb]; exact e, x', y, z + 1, upd_same, a1, by omega, by omega⟩
    have k1 : ∀ d : Int, 0 ≤ d → d < m → Q (.int d) (upd H p (.lst [.int x, .int y, .int (z + 1)])) := fun d a2 a3 =>
      k d _ a2 a3 ⟨fun b o e hb => by rw [upd_ne hb]; exact e, x, y, z + 1, upd_same, hx, by omega, by omega⟩
    have m1 : ∀ u : Int, -(2 ^ 64) < u.fmod 2147483647 ∧ u.fmod 2147483647 < 2 ^ 64 := fun u => ⟨by have := Int.fmod_nonneg_of_pos u (show (0 : Int) < 2147483647 by decide); omega, by have := Int.fmod_lt_of_pos u (show (0 : Int) < 2147483647 by decide); omega⟩
    refine ⟨_, rfl, p, _, 0, _, rfl, rfl, seqL_of hp2, e0 _ _ _, x, 0, rfl, rfl, _, rfl, ?_⟩
    refine ite2 (fun hx0 => ?_) (fun hx0 => ?_)
    · refine ⟨_, rfl, p, _, 2, _, rfl, rfl, seqL_of hp2, e2 _ _ _, _, _, rfl, rfl, _, rfl, ite2 (fun hz0 => ?_) (fun hz0 => ?_)⟩
      · refine ⟨_, rfl, p, _, 0, _, rfl, rfl, seqL_of hp2, e0 _ _ _, .inl ⟨x, rfl, _, rfl, x, m, rfl, rfl, by omega, ?_⟩⟩
        refine ⟨_, rfl, p, _, 0, _, rfl, rfl, seqL_of hp2, e0 _ _ _, .inl ⟨x, rfl, _, rfl, x, m, rfl, rfl, ⟨by omega, by omega⟩, _, rfl, p, _, 0, 0, rfl, rfl, hp2, rfl, ?_⟩⟩
        exact ⟨_, rfl, k2 _ _ (Int.fdiv_nonneg hx (by omega)) (Int.fmod_nonneg_of_pos _ h0) (Int.fmod_lt_of_pos _ h0)⟩
      · exact ⟨_, rfl, p, _, 1, _, rfl, rfl, seqL_of hp2, e1 _ _ _, _, rfl, p, _, 2, _, rfl, rfl, seqL_of hp2, e2 _ _ _, _, _, rfl, rfl, .inr ⟨by decide, by decide⟩, _, _, rfl, rfl, _, _, rfl, rfl, .inr ⟨by omega, by omega⟩, .inl ⟨_, rfl, _, _, rfl, rfl, (by decide : (2147483647 : Int) ≠ 0), _, rfl, _, rfl, .inl ⟨_, rfl, _, _, rfl, rfl, (by decide : (65537 : Int) ≠ 0), _, rfl, p, _, 2, _, rfl, rfl, seqL_of hp2, e2 _ _ _, _, _, rfl, rfl, .inr ⟨by decide, by decide⟩, _, _, rfl, rfl, _, _, rfl, rfl, .inl (m1 _), .inl ⟨_, rfl, _, _, rfl, rfl, (by decide : (2147483629 : Int) ≠ 0), _, rfl, _, _, rfl, rfl, ⟨by decide, by decide⟩, .inl ⟨_, rfl, _, rfl, _, _, rfl, rfl, by omega, k1 _ (Int.fmod_nonneg_of_pos _ h0) (Int.fmod_lt_of_pos _ h0)⟩⟩⟩⟩⟩
    · exact ⟨_, rfl, p, _, 1, _, rfl, rfl, seqL_of hp2, e1 _ _ _, _, rfl, p, _, 2, _, rfl, rfl, seqL_of hp2, e2 _ _ _, _, _, rfl, rfl, .inr ⟨by decide, by decide⟩, _, _, rfl, rfl, _, _, rfl, rfl, .inr ⟨by omega, by omega⟩, .inl ⟨_, rfl, _, _, rfl, rfl, (by decide : (2147483647 : Int) ≠ 0), _, rfl, _, rfl, .inl ⟨_, rfl, _, _, rfl, rfl, (by decide : (65537 : Int) ≠ 0), _, rfl, p, _, 2, _, rfl, rfl, seqL_of hp2, e2 _ _ _, _, _, rfl, rfl, .inr ⟨by decide, by decide⟩, _, _, rfl, rfl, _, _, rfl, rfl, .inl (m1 _), .inl ⟨_, rfl, _, _, rfl, rfl, (by decide : (2147483629 : Int) ≠ 0), _, rfl, _, _, rfl, rfl, ⟨by decide, by decide⟩, .inl ⟨_, rfl, _, rfl, _, _, rfl, rfl, by omega, k1 _ (Int.fmod_nonneg_of_pos _ h0) (Int.fmod_lt_of_pos _ h0)⟩⟩⟩⟩⟩
def spBox (K : PySem.W.Frag) : Sp := fun vs H Q _ => ∃ (b : Addr) (ns : List Int) (k : Int), vs = [.ref b, .int k] ∧ SqL K H b (ns.map V.int) ∧ ns.length ≤ 63 ∧ 0 ≤ k ∧ k ≤ 63 ∧ ∀ (q : Addr) (G : Hp), Same H G → H q = none → BoxAt 100000 G q → Q (.ref q) G
theorem c_law_box (T : Txt K mg a) : Can P w K mg base 1 "_law_box" (spBox K) := by
  refine can_of T.d_law_box sc_law_box bd_law_box (fun vs H Q E h => ?_) (fun f cdv A outer s H vs Q E hr h => ?_)
  · obtain ⟨b, ns, k, rfl, _⟩ := h
    rfl
  · obtain ⟨b, ns, k, rfl, hs, hl, hk0, hk1, z⟩ := h
    refine ⟨_, (pss_cons (ps_set (i := 2) sc_law_box.nd rfl (.inl rfl) (pe_op op_mul (pe_op op_modN (pe_callTy call_int1 (by rfl) T.b_int (by decide +kernel) (pa_cons (pe_callB (ksum K (by rfl)) (by rfl) T.b_sum (by decide +kernel) (pa_cons (pe_slice (ksl_list K) (pv 0) po_none (po_some pe_int)) pa_nil)) pa_nil)) pe_int) (pe_op op_add (pv 1) pe_int)))
      (C8.pss_cut (ps_if (pt_cmpR op_lt (pv 1) (pe_callB (klen_seq K) (by rfl) T.b_len (by decide +kernel) (pa_cons (pv 0) pa_nil)) (nomark _)) (pss_one (ps_set (i := 2) sc_law_box.nd rfl (.inl rfl) (pe_callB call_abs (by rfl) T.b_abs (by decide +kernel) (pa_cons (pe_ix (kix_list K) (pv 0) (pv 1) (fun _ _ => rfl)) pa_nil)))) pss_nil)
      (pss_cons (ps_if (pt_cmpR op_lt (pv 2) (pe_op op_pow pe_int pe_int) (nomark _)) (pss_one (ps_ret (pe_lst (pa_cons pe_int (pa_cons (pv 2) (pa_cons pe_int pa_nil)))))) pss_nil)
      (pss_one (ps_ret (pe_lst (pa_cons (pv 2) (pa_cons (pv 2) (pa_cons pe_int pa_nil))))))))), ?_⟩
    have c1 : cutV (ns.map V.int) none (some 1) = (ns.take 1).map V.int := by rw [cutV_take _ (by decide), List.map_take]; rfl
    refine ⟨_, rfl, _, rfl, b, _, rfl, hs, fun q hq => ?_⟩
    rw [c1]
    have s1 := ex_new (o := .lst ((ns.take 1).map V.int)) hq
    refine ⟨q, _, rfl, seqL_of upd_same, .inl ⟨_, rfl, _, _, rfl, rfl, (by decide : (1000003 : Int) ≠ 0), _, rfl, _, _, rfl, rfl, _, _, rfl, rfl, .inr ⟨by omega, by omega⟩, ?_⟩⟩
    refine ⟨fun σ G => Same H G ∧ ∃ (c : Int), σ = [some (.ref b), some (.int k), some (.int c)], ?_, ?_⟩
    · refine ⟨_, rfl, _, rfl, b, _, rfl, .inl (SqLm hs s1), _, _, rfl, rfl, _, rfl, ?_⟩
      refine ite2 (fun hk => ?_) (fun hk => ?_)
      · have hlE : (ns.map V.int).length = ns.length := List.length_map ..
        have hk' : k.toNat < ns.length := by
          have := of_decide_eq_true hk
          omega
        have hix : atI (ns.map V.int) k = some (.int ns[k.toNat]) := by
          have e := atI_nat (xs := ns.map V.int) (j := k.toNat) (v := .int ns[k.toNat]) (by rw [List.getElem?_map, List.getElem?_eq_getElem hk']; rfl)
          rwa [show ((k.toNat : Nat) : Int) = k by omega] at e
        exact ⟨_, rfl, _, rfl, b, _, k, _, rfl, rfl, SqLm hs s1, hix, _, rfl, s1, _, rfl⟩
      · exact ⟨s1, _, rfl⟩
    · rintro _ G ⟨s2, c, rfl⟩
      refine ⟨_, rfl, _, _, rfl, rfl, ⟨by decide, by decide, by decide⟩, _, _, rfl, rfl, _, rfl, ?_⟩
      refine ite2 (fun _ => ?_) (fun hc => ?_)
      · exact ⟨_, rfl, (by show 3 ≤ sizeLine; decide), fun q hq => z q _ (s2.trans (ex_new hq)) (free_same s2 hq) ⟨0, _, 0, upd_same, Int.le_refl _, Int.le_refl _, by decide⟩⟩
      · refine ⟨_, rfl, _, rfl, (by show 3 ≤ sizeLine; decide), fun q hq => z q _ (s2.trans (ex_new hq)) (free_same s2 hq) ⟨_, _, 0, upd_same, ?_, Int.le_refl _, by decide⟩⟩
        have hc : ¬ c < 1000000000000000000 := fun q => hc (decide_eq_true q)
        omega
def spTruth : Sp := fun vs H Q _ => ∃ x y : Bool, vs = [.bl x, .bl y] ∧ Q (.bl (x == y)) H
theorem c_law_truth (T : Txt K mg a) : Can P w K mg base 1 "_law_truth" spTruth := by
  refine can_of T.d_law_truth sc_law_truth bd_law_truth (fun vs H Q E h => ?_) (fun f cdv A outer s H vs Q E hr h => ?_)
  · obtain ⟨x, y, rfl, _⟩ := h
    rfl
  · obtain ⟨x, y, rfl, z⟩ := h
    refine ⟨_, (pss_one (ps_ret (pe_and (pe_callB (kisi K) (by rfl) T.b_isinstance (by decide +kernel) (pa_cons (pv 0) (pa_cons (pe_bltn (v := .ty "bool") (by rfl) T.b_bool (by decide +kernel) rfl) pa_nil))) (pe_one (pe_cmpR op_eq (pv 0) (pv 1) (nomark _)))))), ?_⟩
    refine ⟨_, rfl, _, _, _, _, true, rfl, .ty _, .base (.bl x), rfl, _, rfl, iteT ⟨_, rfl, _, rfl, rfl, ?_⟩⟩
    have e : decide (V.bl x = V.bl y) = (x == y) := by cases x <;> cases y <;> rfl
    rw [e]
    exact z
theorem xdok {d : Addr} {M : Hp} {fs : List (Str × V)} (h : M d = some (.xd fs)) : XdOk (some d) M := fun dd e => by
  cases e
  exact ⟨fs, h⟩
theorem xdno {M : Hp} : XdOk none M := fun dd e => nomatch e
end
end K17

end
section
set_option Elab.async false
set_option linter.all false
set_option maxRecDepth 100000
namespace K17
/-! ### endless words that repeat from some place on -/
def PF (w : Nat → Nat) (s p : Nat) : Prop := ∀ i, s ≤ i → w (i + p) = w i
theorem PF.mul {w : Nat → Nat} {s p : Nat} (h : PF w s p) (k : Nat) {i : Nat} (hi : s ≤ i) : w (i + k * p) = w i := by
  induction k with
  | zero => rw [Nat.zero_mul, Nat.add_zero]
  | succ k ih =>
    rw [Nat.succ_mul, ← Nat.add_assoc, h _ (by omega), ih]
theorem PF.mono {w : Nat → Nat} {s t p : Nat} (h : PF w s p) (e : s ≤ t) : PF w t p := fun i hi => h i (by omega)
theorem PF.mulp {w : Nat → Nat} {s p : Nat} (h : PF w s p) (k : Nat) : PF w s (k * p) := fun i hi => h.mul k hi
/-- a period from somewhere on is one from where the word repeats -/
theorem PF.back {w : Nat → Nat} {s t p q : Nat} (h : PF w s p) (hp : 0 < p) (g : PF w t q) : PF w s q := fun i hi => by
  have e1 := h.mul (t + 1) (i := i) hi
  have e2 := h.mul (t + 1) (i := i + q) (by omega)
  have e3 : t ≤ i + (t + 1) * p := by
    have : (t + 1) * 1 ≤ (t + 1) * p := Nat.mul_le_mul_left _ hp
    omega
  have e4 := g _ e3
  rw [← e1, ← e4, ← e2]
  congr 1
  omega
theorem PF.mod {w : Nat → Nat} {s p q : Nat} (h : PF w s p) (g : PF w s q) : PF w s (p % q) := fun i hi => by
  have e1 := g.mul (p / q) (i := i + p % q) (by omega)
  have e2 := Nat.mod_add_div p q
  have e3 : i + p % q + p / q * q = i + p := by
    rw [Nat.mul_comm (p / q) q]
    omega
  rw [e3, h i hi] at e1
  exact e1.symm
/-- a period of a window as long as both is a period of all -/
theorem PF.window {w : Nat → Nat} {s p q N : Nat} (h : PF w s p) (hp : 0 < p) (hN : s + p + q ≤ N) (g : ∀ i, s ≤ i → i + q < N → w (i + q) = w i) : PF w s q := fun i hi => by
  have e := Nat.mod_add_div (i - s) p
  have lt := Nat.mod_lt (i - s) hp
  have c : (i - s) / p * p = p * ((i - s) / p) := Nat.mul_comm _ _
  have e1 := h.mul ((i - s) / p) (i := s + (i - s) % p) (by omega)
  have e2 := h.mul ((i - s) / p) (i := s + (i - s) % p + q) (by omega)
  have e3 := g (s + (i - s) % p) (by omega) (by omega)
  have f1 : s + (i - s) % p + (i - s) / p * p = i := by omega
  have f2 : s + (i - s) % p + q + (i - s) / p * p = i + q := by omega
  rw [f1] at e1
  rw [f2] at e2
  rw [e1, e2, e3]
/-- the word that start and loop write -/
def at_ (s l : List Nat) (i : Nat) : Nat := if i < s.length then s.getD i 0 else l.getD ((i - s.length) % l.length) 0
theorem at_lt {s l : List Nat} {i : Nat} (h : i < s.length) : at_ s l i = s.getD i 0 := if_pos h
theorem at_ge {s l : List Nat} {i : Nat} (h : s.length ≤ i) : at_ s l i = l.getD ((i - s.length) % l.length) 0 := if_neg (by omega)
theorem at_per {s l : List Nat} (h : l ≠ []) : PF (at_ s l) s.length l.length := fun i hi => by
  rw [at_ge hi, at_ge (by omega), show i + l.length - s.length = (i - s.length) + l.length by omega, Nat.add_mod_right]
theorem at_s {s l : List Nat} {k : Nat} (h : k < s.length) : s[k]? = some (at_ s l k) := by
  rw [at_lt h, List.getD_eq_getElem?_getD, List.getElem?_eq_getElem h]
  rfl
theorem at_l {s l : List Nat} {k : Nat} (h : k < l.length) : l[k]? = some (at_ s l (s.length + k)) := by
  rw [at_ge (by omega), show s.length + k - s.length = k by omega, Nat.mod_eq_of_lt h, List.getD_eq_getElem?_getD, List.getElem?_eq_getElem h]
  rfl
/-- the least form of the word w -/
structure Lst (w : Nat → Nat) (s l : List Nat) : Prop where
  ne : l ≠ []
  wd : ∀ i, at_ s l i = w i
  mn : ∀ t q, 0 < q → PF w t q → l.length ≤ q
  st : s = [] ∨ w (s.length - 1) ≠ w (s.length - 1 + l.length)
theorem Lst.per {w : Nat → Nat} {s l : List Nat} (h : Lst w s l) : PF w s.length l.length := fun i hi => by
  rw [← h.wd, ← h.wd]
  exact at_per h.ne i hi
theorem Lst.pos {w : Nat → Nat} {s l : List Nat} (h : Lst w s l) : 0 < l.length := List.length_pos_iff.mpr h.ne
theorem Lst.len_s {w : Nat → Nat} {s l s2 : List Nat} {n : Nat} (h : Lst w s l) (hp : PF w n l.length) : s.length ≤ n := by
  rcases h.st with rfl | st
  · exact Nat.zero_le _
  · apply Nat.le_of_not_lt
    intro c
    exact st (hp (s.length - 1) (by omega)).symm
theorem Lst.uniq {w : Nat → Nat} {s l s2 l2 : List Nat} (h : Lst w s l) (g : Lst w s2 l2) : s = s2 ∧ l = l2 := by
  have e1 : l.length = l2.length := Nat.le_antisymm (h.mn _ _ g.pos g.per) (g.mn _ _ h.pos h.per)
  have e2 : s.length = s2.length := Nat.le_antisymm (h.len_s (s2 := s2) (e1 ▸ g.per)) (g.len_s (s2 := s) (e1 ▸ h.per))
  constructor
  · refine List.ext_getElem? fun k => ?_
    by_cases c : k < s.length
    · rw [at_s (l := l) c, at_s (l := l2) (e2 ▸ c), h.wd, g.wd]
    · rw [List.getElem?_eq_none (by omega), List.getElem?_eq_none (by omega)]
  · refine List.ext_getElem? fun k => ?_
    by_cases c : k < l.length
    · rw [at_l (s := s) c, at_l (s := s2) (e1 ▸ c), h.wd, g.wd, e2]
    · rw [List.getElem?_eq_none (by omega), List.getElem?_eq_none (by omega)]
theorem Lst.congr {w v : Nat → Nat} {s l : List Nat} (h : Lst w s l) (e : ∀ i, w i = v i) : Lst v s l := by
  have : w = v := funext e
  exact this ▸ h
/-- the least period divides each -/
theorem Lst.dvd {w : Nat → Nat} {s l : List Nat} {t q : Nat} (h : Lst w s l) (hq : PF w t q) : l.length ∣ q := by
  have e := (h.per.back h.pos hq).mod h.per
  rcases Nat.eq_zero_or_pos (q % l.length) with z | z
  · exact Nat.dvd_of_mod_eq_zero z
  · have := h.mn _ _ z e
    have := Nat.mod_lt q h.pos
    omega
end K17

end
section
set_option Elab.async false
set_option linter.all false
set_option maxRecDepth 100000
set_option maxHeartbeats 4000000
namespace K17
open PySem PySem.Spec PyProof.Rows L2 Kit PySem.Builtin.Str PySem.Builtin
theorem find_from (x y : Str) (i : Nat) (hi : i ≤ x.length) : (Txt.find3 x y (i : Int) = -1 ∧ ∀ k, i ≤ k → ¬ StrLaws.At x y x.length k) ∨ ∃ n : Nat, Txt.find3 x y (i : Int) = (n : Int) ∧ i ≤ n ∧ StrLaws.At x y x.length n ∧ ∀ k, i ≤ k → k < n → ¬ StrLaws.At x y x.length k := by
  have e : fromIndex x.length (i : Int) = i := by
    unfold fromIndex
    first | omega | (split <;> omega) | (rw [if_neg (by omega)]; omega)
  unfold Txt.find3
  rw [e]
  rcases StrLaws.occ_head_from x y i 1 (Nat.le_refl _) with ⟨h, g⟩ | ⟨n, r, h, h1, h2, h3⟩
  · exact .inl ⟨by rw [h], g⟩
  · exact .inr ⟨n, by rw [h], h1, h2, h3⟩
theorem dbl (l : List Nat) {j : Nat} (h : j < l.length + l.length) : (l ++ l)[j]? = some (at_ [] l j) := by
  have hl : 0 < l.length := by omega
  rw [at_ge (Nat.zero_le _)]
  show _ = some (l.getD ((j - 0) % l.length) 0)
  rw [Nat.sub_zero, List.getD_eq_getElem?_getD]
  by_cases c : j < l.length
  · rw [List.getElem?_append_left c, Nat.mod_eq_of_lt c, List.getElem?_eq_getElem c]
    rfl
  · have e : j % l.length = j - l.length := by
      rw [Nat.mod_eq_sub_mod (by omega), Nat.mod_eq_of_lt (by omega)]
    rw [List.getElem?_append_right (by omega), e, List.getElem?_eq_getElem (by omega)]
    rfl
theorem at_dbl {l : List Nat} (hl : l ≠ []) {i : Nat} (hi : i ≤ l.length) : StrLaws.At (S (l ++ l)) (S l) (S (l ++ l)).length i ↔ PF (at_ [] l) 0 i := by
  have h0 : 0 < l.length := List.length_pos_iff.mpr hl
  rw [TL.at_iff (by exact hl)]
  show ((l ++ l).drop i).take l.length == l ↔ _
  rw [beq_iff_eq]
  constructor
  · intro h
    have p0 := at_per (s := []) hl
    refine p0.window h0 (N := l.length + i) (by show 0 + l.length + i ≤ _; omega) fun j _ hj => ?_
    have e1 := dbl l (j := i + j) (by omega)
    have e2 := at_l (s := []) (l := l) (k := j) (by omega)
    have e3 : (((l ++ l).drop i).take l.length)[j]? = l[j]? := by rw [h]
    rw [List.getElem?_take_of_lt (by omega), List.getElem?_drop, e1, e2] at e3
    have e4 : at_ [] l (i + j) = at_ [] l (0 + j) := Option.some.inj e3
    rw [Nat.zero_add] at e4
    rw [Nat.add_comm j i]
    exact e4
  · intro h
    refine List.ext_getElem? fun j => ?_
    by_cases c : j < l.length
    · have e2 := at_l (s := []) (l := l) c
      have e5 := h j (Nat.zero_le _)
      rw [List.getElem?_take_of_lt c, List.getElem?_drop, dbl l (by omega), e2, Nat.add_comm i j, e5]
      show some (at_ [] l j) = some (at_ [] l (0 + j))
      rw [Nat.zero_add]
    · rw [List.getElem?_eq_none (by rw [List.length_take, List.length_drop, List.length_append]; omega), List.getElem?_eq_none (by omega)]
/-- the length of the shortest root of a loop -/
theorem root {l : List Nat} (hl : l ≠ []) : ∃ d : Nat, Txt.find3 (S (l ++ l)) (S l) 1 = (d : Int) ∧ 0 < d ∧ d ≤ l.length ∧ PF (at_ [] l) 0 d ∧ ∀ q, 0 < q → PF (at_ [] l) 0 q → d ≤ q := by
  have h0 : 0 < l.length := List.length_pos_iff.mpr hl
  have ln : (S (l ++ l)).length = l.length + l.length := by rw [S_len, List.length_append]
  rcases find_from (S (l ++ l)) (S l) 1 (by omega) with ⟨h, g⟩ | ⟨n, h, h1, h2, h3⟩
  · exact absurd ((at_dbl hl (Nat.le_refl _)).mpr (at_per (s := []) hl)) (g _ h0)
  · have hn : n ≤ l.length := by
      have := h2.1
      rw [ln, S_len] at this
      omega
    refine ⟨n, h, h1, hn, (at_dbl hl hn).mp h2, fun q q0 hq => ?_⟩
    apply Nat.le_of_not_lt
    intro c
    exact h3 q q0 c ((at_dbl hl (by omega)).mpr hq)
theorem at_take {s l : List Nat} {d : Nat} (d0 : 0 < d) (dl : d ≤ l.length) (h : PF (at_ [] l) 0 d) (i : Nat) : at_ s (l.take d) i = at_ s l i := by
  by_cases c : i < s.length
  · rw [at_lt c, at_lt c]
  · have key : ∀ j, (l.take d).getD (j % d) 0 = l.getD (j % l.length) 0 := fun j => by
      have lt := Nat.mod_lt j d0
      have e1 := h.mul (j / d) (i := j % d) (Nat.zero_le _)
      have e2 : j % d + j / d * d = j := by
        have := Nat.mod_add_div j d
        rw [Nat.mul_comm] at this
        exact this
      rw [e2, at_ge (Nat.zero_le _), at_ge (Nat.zero_le _)] at e1
      have e3 : l.getD (j % l.length) 0 = l.getD (j % d % l.length) 0 := e1
      rw [e3, Nat.mod_eq_of_lt (show j % d < l.length by omega), List.getD_eq_getElem?_getD, List.getD_eq_getElem?_getD, List.getElem?_take_of_lt lt]
    rw [at_ge (by omega), at_ge (by omega), List.length_take, Nat.min_eq_left dl]
    exact key _
theorem at_rot {s l : List Nat} {x : Nat} (i : Nat) : at_ (s ++ [x]) (l ++ [x]) i = at_ s (x :: l) i := by
  have e0 : (s ++ [x]).length = s.length + 1 := by rw [List.length_append]; rfl
  have e1 : (l ++ [x]).length = l.length + 1 := by rw [List.length_append]; rfl
  have e2 : (x :: l).length = l.length + 1 := rfl
  by_cases c : i < s.length
  · rw [at_lt (by omega), at_lt c, List.getD_eq_getElem?_getD, List.getD_eq_getElem?_getD, List.getElem?_append_left c]
  · by_cases c2 : i = s.length
    · subst c2
      rw [at_lt (by omega), at_ge (Nat.le_refl _), Nat.sub_self, Nat.zero_mod, List.getD_eq_getElem?_getD, List.getElem?_append_right (Nat.le_refl _), Nat.sub_self]
      rfl
    · rw [at_ge (by omega), at_ge (by omega), e0, e1, e2]
      obtain ⟨j, rfl⟩ : ∃ j, i = s.length + 1 + j := ⟨i - (s.length + 1), by omega⟩
      rw [show s.length + 1 + j - (s.length + 1) = j by omega, show s.length + 1 + j - s.length = j + 1 by omega]
      have lt := Nat.mod_lt j (show 0 < l.length + 1 by omega)
      by_cases c3 : j % (l.length + 1) = l.length
      · have e3 : (j + 1) % (l.length + 1) = 0 := by
          rw [Nat.add_mod, c3]
          by_cases z : l.length = 0
          · rw [z]
          · rw [Nat.mod_eq_of_lt (show 1 < l.length + 1 by omega), Nat.mod_self]
        rw [e3, c3, List.getD_eq_getElem?_getD, List.getElem?_append_right (Nat.le_refl _), Nat.sub_self]
        rfl
      · have e3 : (j + 1) % (l.length + 1) = j % (l.length + 1) + 1 := by
          rw [Nat.add_mod, Nat.mod_eq_of_lt (show 1 < l.length + 1 by omega), Nat.mod_eq_of_lt (by omega)]
        rw [e3, List.getD_eq_getElem?_getD, List.getD_eq_getElem?_getD, List.getElem?_append_left (by omega), List.getElem?_cons_succ]
/-- a form whose loop is as short as can be, and whose start ends otherwise, is the least -/
theorem least_of {s l : List Nat} (hl : l ≠ []) (mn : ∀ q, 0 < q → PF (at_ s l) s.length q → l.length ≤ q) (st : s = [] ∨ at_ s l (s.length - 1) ≠ at_ s l (s.length - 1 + l.length)) : Lst (at_ s l) s l :=
  ⟨hl, fun _ => rfl, fun t q q0 h => mn q q0 ((at_per hl).back (List.length_pos_iff.mpr hl) h), st⟩
theorem shift {s l : List Nat} {q : Nat} (h : PF (at_ s l) s.length q) : PF (at_ [] l) 0 q := fun i _ => by
  have e := h (s.length + i) (by omega)
  rw [at_ge (by omega), at_ge (by omega)] at e
  rw [at_ge (Nat.zero_le _), at_ge (Nat.zero_le _)]
  show l.getD ((i + q - 0) % l.length) 0 = l.getD ((i - 0) % l.length) 0
  rw [show s.length + i + q - s.length = i + q - 0 by omega, show s.length + i - s.length = i - 0 by omega] at e
  exact e
end K17

end
section
set_option Elab.async false
set_option linter.all false
set_option maxRecDepth 100000
set_option maxHeartbeats 4000000
namespace K17
open PySem PySem.Spec PyProof.Rows L2 Kit
section
variable {P : Program} {w : World} {K : PySem.W.Frag} {mg : Str → Option Value} {base : Heap} {a : Ad}
/-- + or - -/
def isM (x : Nat) : Bool := x = 43 || x = 45
def marksB (l : List Nat) : Bool := decide (l.length ≤ 6) && l.all isM
theorem lit_marks : (Str.ofString "+-") = S [43, 45] := by decide +kernel
theorem lit_open : (Str.ofString "+") = S [43] := by decide +kernel
theorem lit_closed : (Str.ofString "-") = S [45] := by decide +kernel
theorem lit_emp : (Str.ofString "") = S [] := by decide +kernel
theorem in_marks (c : Nat) : decide (c ∈ (Str.ofString "+-").cps.toList) = isM c := by
  rw [lit_marks]
  show decide (c ∈ [43, 45]) = (decide (c = 43) || decide (c = 45))
  rw [← Bool.decide_or]
  exact decide_eq_decide.mpr (by simp)
def spMarks : Sp := fun vs H Q _ => ∃ l : List Nat, vs = [tx l] ∧ l.length ≤ 1000 ∧ ∀ G, Same H G → Q (.bl (marksB l)) G
theorem c_are_marks (T : Txt K mg a) : Can P w K mg base 1 "_are_marks" spMarks := by
  refine can_of T.d_are_marks sc_are_marks bd_are_marks (fun vs H Q E h => ?_) (fun f cdv A outer s H vs Q E hr h => ?_)
  · obtain ⟨l, rfl, _⟩ := h
    rfl
  · obtain ⟨l, rfl, hl, z⟩ := h
    refine ⟨_, (pss_one (ps_ret (pe_and (pe_cmpR op_le (pe_callB call_len_str (by rfl) T.b_len (by decide +kernel) (pa_cons (pv 0) pa_nil)) (C8.pe_gc (by rfl) T.g_MOST_MARKS) (nomark _)) (pe_one (pe_callB (kall K (by rfl)) (by rfl) T.b_all (by decide +kernel) (pa_cons (pe_lc (own := [("mark", 1)]) (g := gName 1) (tt := tYes) (by rfl) sc_are_marks.nd (pi_str (pv 0)) (blkOk_by (N := N_are_marks) (sc := defScope s_are_marks) (by decide +kernel)) (fun _ _ _ _ _ => (pg_name (i := 1) sc_are_marks.nd rfl (.inl rfl))) (fun _ _ _ _ _ => pts_nil) (fun _ _ _ _ _ => (pe_cmpR op_in_sign (pv 1) (C8.pe_gc (by rfl) T.g_MARKS) (by rfl)))) pa_nil)))))), ?_⟩
    refine ⟨_, rfl, _, rfl, by rw [S_len]; exact szl (by omega), _, _, rfl, rfl, _, rfl, ?_⟩
    have e : decide (((S l).length : Int) ≤ 6) = decide (l.length ≤ 6) := by
      rw [S_len]
      exact decide_eq_decide.mpr (by omega)
    rw [e]
    by_cases c : l.length ≤ 6
    · rw [decide_eq_true c]
      refine iteT ⟨_, rfl, _, rfl, fun D hD => lc_one walk_str (l.map fun x => V.bl (isM x)) (by rw [List.length_map]; exact (S_len l).symm) (by show (S l).length ≤ _; rw [S_len]; omega) hD (fun _ _ => True.intro) ?_ ?_⟩
      · rintro i x G G' v hi s1 ⟨rfl, c', hc, rfl⟩ hv
        have hc := at_S hc
        rw [List.getElem?_map, hc] at hv
        cases hv
        refine ⟨.refl _, fun Q' q => ⟨_, rfl, c', _, rfl, rfl, ?_⟩⟩
        rw [in_marks]
        exact q _ (.refl _)
      · intro G s1 hG
        refine ⟨D, l.map isM, rfl, seqL_of (by rw [List.map_map]; exact hG), ?_⟩
        rw [all_map]
        have e2 : marksB l = l.all isM := by
          unfold marksB
          rw [decide_eq_true c, Bool.true_and]
        rw [← e2]
        exact z G s1
    · rw [decide_eq_false c]
      refine iteF ?_
      have e2 : marksB l = false := by
        unfold marksB
        rw [decide_eq_false c, Bool.false_and]
      rw [← e2]
      exact z H (.refl _)
theorem ne_last {l : List Nat} (h : l ≠ []) : ∃ v y, l = v ++ [y] := ⟨l.dropLast, l.getLast h, (List.dropLast_concat_getLast h).symm⟩
theorem at_last (v : List Nat) (y : Nat) : atI (S (v ++ [y])).cps.toList (-1) = some y := by
  show atI (v ++ [y]) (-1) = some y
  have e : (v ++ [y]).length = v.length + 1 := by rw [List.length_append]; rfl
  have i : ixN (v ++ [y]).length (-1) = some v.length := by
    unfold ixN
    rw [if_neg (by decide), e, if_pos (by omega)]
    congr 1
    omega
  unfold atI
  rw [i]
  show (v ++ [y])[v.length]? = some y
  rw [List.getElem?_append_right (Nat.le_refl _), Nat.sub_self]
  rfl
theorem cut_last (v : List Nat) (y : Nat) : cutS (S (v ++ [y])) none (some (-1)) = S v := by
  have e : (v ++ [y]).length = v.length + 1 := by rw [List.length_append]; rfl
  rw [cut_S, sIx_none, List.drop_zero, Nat.sub_zero]
  have i : HT.sIx (v ++ [y]).length (v ++ [y]).length (some (-1)) = v.length := by
    show (if (-1 : Int) < 0 then ((-1 : Int) + ((v ++ [y]).length : Int)).toNat else min (-1 : Int).toNat (v ++ [y]).length) = _
    rw [if_pos (by decide), e]
    omega
  rw [i, List.take_left]
def spLeast : Sp := fun vs H Q _ => ∃ (s l : List Nat), vs = [tx s, tx l] ∧ l ≠ [] ∧ s.length ≤ 1000 ∧ l.length ≤ 1000 ∧ ∀ q G s2 l2, Same H G → H q = none → G q = some (.tup [tx s2, tx l2]) → Lst (at_ s l) s2 l2 → s2.length ≤ s.length → Q (.ref q) G
theorem c_least_form (T : Txt K mg a) : Can P w K mg base 1 "_least_form" spLeast := by
  refine can_of T.d_least_form sc_least_form bd_least_form (fun vs H Q E h => ?_) (fun f cdv A outer s0 H vs Q E hr h => ?_)
  · obtain ⟨s, l, rfl, _⟩ := h
    rfl
  · obtain ⟨s, l, rfl, hl, ns, nl, z⟩ := h
    refine ⟨_, (pss_cons (ps_set (i := 1) sc_least_form.nd rfl (.inl rfl) (pe_slice sl_str (pv 1) po_none (po_some (pe_bm PySem.F.plainAttrs_str PySem.F.slot_str_find PySem.F.type_str_find mt_find3 (pe_op op_add_str (pv 1) (pv 1)) (pa_cons (pv 1) (pa_cons pe_int pa_nil))))))
      (pss_cons (ps_while (passes_of rfl) (PW.pt (pw_and (pt_truth (pv 0) (by intro _; rfl)) (pw_and1 (pt_cmpR op_eq (pe_ix ix_str (pv 0) (pe_un un_neg pe_int) (fun _ _ => rfl)) (pe_ix ix_str (pv 1) (pe_un un_neg pe_int) (fun _ _ => rfl)) (nomark _))))) (pss_cons (ps_set (i := 0) sc_least_form.nd rfl (.inl rfl) (pe_slice sl_str (pv 0) po_none (po_some (pe_un un_neg pe_int))))
      (pss_one (ps_set (i := 1) sc_least_form.nd rfl (.inl rfl) (pe_op op_add_str (pe_ix ix_str (pv 1) (pe_un un_neg pe_int) (fun _ _ => rfl)) (pe_slice sl_str (pv 1) po_none (po_some (pe_un un_neg pe_int))))))))
      (pss_one (ps_ret (pe_tup (pa_cons (pv 0) (pa_cons (pv 1) pa_nil))))))), ?_⟩
    obtain ⟨d, fd, d0, dl, pd, md⟩ := root hl
    refine ⟨_, rfl, _, rfl, _, rfl, _, _, rfl, rfl, by rw [S_len]; exact szl (by omega), rfl, _, rfl, _, _, 1, rfl, rfl, _, rfl, _, rfl, by rw [S_len]; exact szl (by omega), ?_⟩
    rw [S_app, fd, cut_take]
    have lt : (l.take d).length = d := by rw [List.length_take]; omega
    have low : ∀ (s' : List Nat), s'.length ≤ s.length → ∀ (l' : List Nat), (∀ i, at_ s' l' i = at_ s l i) → ∀ q, 0 < q → PF (at_ s' l') s'.length q → d ≤ q := fun s' h l' e q q0 hq => by
      have e : at_ s' l' = at_ s l := funext e
      rw [e] at hq
      exact md q q0 (shift (hq.mono h))
    refine ⟨fun m σ G => ∃ s' l', G = H ∧ m = s'.length ∧ l'.length = d ∧ (∀ i, at_ s' l' i = at_ s l i) ∧ s'.length ≤ s.length ∧ σ = [some (tx s'), some (tx l')], ⟨s.length, s, l.take d, rfl, rfl, lt, at_take d0 dl pd, Nat.le_refl _, rfl⟩, ?_⟩
    rintro m σ G ⟨s', l', rfl, rfl, hd, hw, hs, rfl⟩
    have hl' : l' ≠ [] := fun e => by rw [e] at hd; simp at hd; omega
    obtain ⟨v, y, rfl⟩ := ne_last hl'
    have szs : (S s').length ≤ sizeLine := by rw [S_len]; exact szl (by omega)
    have szv : (S (v ++ [y])).length ≤ sizeLine := by rw [S_len]; exact szl (by omega)
    have st_ : ∀ (hh : s' = [] ∨ at_ s' (v ++ [y]) (s'.length - 1) ≠ at_ s' (v ++ [y]) (s'.length - 1 + (v ++ [y]).length)), Lst (at_ s l) s' (v ++ [y]) := fun hh =>
      (least_of hl' (fun q q0 hq => by rw [hd]; exact low s' hs _ hw q q0 hq) hh).congr hw
    have fin : Lst (at_ s l) s' (v ++ [y]) → 2 ≤ sizeLine ∧ ∀ q, G q = none → Q (.ref q) (upd G q (.tup [tx s', tx (v ++ [y])])) := fun L => ⟨by decide, fun q hq => z q _ s' _ (ex_new hq) hq upd_same L hs⟩
    refine ⟨_, rfl, _, ⟨szs, rfl⟩, ?_⟩
    rw [S_len]
    rcases List.eq_nil_or_concat s' with rfl | ⟨u, x, rfl⟩
    · rw [show ((([] : List Nat).length : Int) != 0) = false by decide]
      refine iteF ?_
      exact ⟨_, rfl, _, rfl, (fin (st_ (.inl rfl))).1, (fin (st_ (.inl rfl))).2⟩
    · rw [List.concat_eq_append] at *
      have eu : (u ++ [x]).length = u.length + 1 := by rw [List.length_append]; rfl
      have ev : (v ++ [y]).length = v.length + 1 := by rw [List.length_append]; rfl
      rw [show (((u ++ [x]).length : Int) != 0) = true by rw [eu, bne_iff_ne]; omega]
      refine iteT ⟨_, rfl, _, rfl, _, _, x, rfl, rfl, szs, at_last u x, _, rfl, _, rfl, _, _, y, rfl, rfl, szv, at_last v y, rfl, _, rfl, ?_⟩
      have xa : at_ (u ++ [x]) (v ++ [y]) u.length = x := by
        rw [at_lt (by omega), List.getD_eq_getElem?_getD, List.getElem?_append_right (Nat.le_refl _), Nat.sub_self]
        rfl
      have ya : at_ (u ++ [x]) (v ++ [y]) (u.length + (v.length + 1)) = y := by
        rw [at_ge (by omega), ev, show u.length + (v.length + 1) - (u ++ [x]).length = v.length by omega, Nat.mod_eq_of_lt (by omega), List.getD_eq_getElem?_getD, List.getElem?_append_right (Nat.le_refl _), Nat.sub_self]
        rfl
      by_cases h : x = y
      · subst h
        rw [decide_eq_true rfl]
        refine iteT ⟨fun σ G' => G' = G ∧ σ = [some (tx u), some (tx (x :: v))], ?_, ?_⟩
        · rintro _ _ ⟨rfl, rfl⟩
          exact ⟨u.length, by omega, u, x :: v, rfl, rfl, by show v.length + 1 = d; omega, fun i => by rw [← at_rot, hw], by omega, rfl⟩
        · refine ⟨_, rfl, _, rfl, _, rfl, _, rfl, szs, ?_⟩
          rw [cut_last]
          refine ⟨_, rfl, _, rfl, _, _, x, rfl, rfl, szv, at_last v x, _, rfl, _, rfl, _, rfl, _, rfl, szv, ?_⟩
          rw [cut_last]
          exact ⟨S [x], S v, rfl, rfl, by rw [S_len, S_len]; exact szl (by show 1 + v.length ≤ _; omega), rfl, by rw [S_app]; rfl⟩
      · rw [decide_eq_false (fun e => h (by cases e; rfl))]
        refine iteF ?_
        have L := st_ (.inr (by rw [eu, ev, show u.length + 1 - 1 = u.length by omega, xa, ya]; exact h))
        exact ⟨_, rfl, _, rfl, (fin L).1, (fin L).2⟩
end
end K17
end
section
set_option Elab.async false
set_option linter.all false
set_option maxRecDepth 100000
set_option maxHeartbeats 4000000
namespace K17
open PySem PySem.Spec PyProof.Rows L2 Kit
section
variable {P : Program} {w : World} {K : PySem.W.Frag} {mg : Str → Option Value} {base : Heap} {a : Ad}
/-! ### a mask -/
def ml (s l : List Nat) : List (Str × V) := [("start", tx s), ("loop", tx l)]
theorem kl1 : (("loop" : Str) == ("start" : Str)) = false := by decide +kernel
theorem ml_start (s l : List Nat) : (ml s l).lookup ("start" : Str) = some (tx s) := by
  unfold ml
  rw [List.lookup_cons, beq_self_eq_true]
theorem ml_loop (s l : List Nat) : (ml s l).lookup ("loop" : Str) = some (tx l) := by
  unfold ml
  rw [List.lookup_cons, kl1]
  show (List.lookup _ [_]) = _
  rw [List.lookup_cons, beq_self_eq_true]
theorem put_ml (s l : List Nat) : putF "loop" (tx l) (putF "start" (tx s) []) = ml s l := by
  have e1 : ¬ (("start" : Str) = "loop") := by decide +kernel
  show (if ("start" : Str) = "loop" then _ else _) = _
  rw [if_neg e1]
  rfl
structure MaskAt (a : Ad) (H : Hp) (p : Addr) (u : Nat → Nat) (s l : List Nat) : Prop where
  ob : ∃ dx, H p = some (.ins a.Mask dx (ml s l))
  ls : Lst u s l
  s6 : s.length ≤ 6
  l60 : l.length ∣ 60
  sg : ∀ i, isM (u i) = true
theorem MaskAt.mono {a : Ad} {H G : Hp} {p : Addr} {u : Nat → Nat} {s l : List Nat} (h : MaskAt a H p u s l) (e : Same H G) : MaskAt a G p u s l := ⟨let ⟨dx, z⟩ := h.ob; ⟨dx, e _ _ z⟩, h.ls, h.s6, h.l60, h.sg⟩
theorem MaskAt.le {a : Ad} {H : Hp} {p : Addr} {u : Nat → Nat} {s l : List Nat} (h : MaskAt a H p u s l) : l.length ≤ 60 := Nat.le_of_dvd (by decide) h.l60
def spMInit (a : Ad) : Sp := fun vs H Q E => ∃ (p dx : Addr) (s l : List Nat), vs = [.ref p, tx s, tx l] ∧ H p = some (.ins a.Mask dx []) ∧ s.length ≤ 1000 ∧ l.length ≤ 1000 ∧
  (marksB s = false → Ra E a.BadMask "part" (.str "start") H) ∧ (marksB s = true → (l = [] ∨ marksB l = false) → Ra E a.BadMask "part" (.str "loop") H) ∧
  (marksB s = true → l ≠ [] → marksB l = true → ∀ G s2 l2, (∀ b o, H b = some o → b ≠ p → G b = some o) → G p = some (.ins a.Mask dx (ml s2 l2)) → Lst (at_ s l) s2 l2 → s2.length ≤ s.length → Q .non G)
theorem c_Mask_init (T : Txt K mg a) : CanN P w K mg base 3 a.Mask "Mask" (spMInit a) := by
  refine canN_of T.c_Mask T.m_Mask___init__ sc_Mask___init__ bd_Mask___init__ (fun vs H Q E h => ?_) (fun f cdv A outer s0 H vs Q E hr h => ?_)
  · obtain ⟨p, dx, s, l, rfl, _⟩ := h
    rfl
  · obtain ⟨p, dx, s, l, rfl, hp, ns, nl, y1, y2, z⟩ := h
    refine ⟨_, (pss_cons (ps_if (pt_not (pt_val (pc_f (c_are_marks T) hr (by decide) (by rfl) (pa_cons (pv 1) pa_nil)))) (pss_one (pr_err (c_BadMask T) (takes_of rfl rfl rfl rfl) (by rfl) hr (by decide) (by rfl) pe_str)) pss_nil)
      (pss_cons (ps_if (PW.pt (pw_or (pt_not (pt_truth (pv 2) (by intro _; rfl))) (pw_or1 (pt_not (pt_val (pc_f (c_are_marks T) hr (by decide) (by rfl) (pa_cons (pv 2) pa_nil))))))) (pss_one (pr_err (c_BadMask T) (takes_of rfl rfl rfl rfl) (by rfl) hr (by decide) (by rfl) pe_str)) pss_nil)
      (pss_cons (ps_asg (pc_f (c_least_form T) hr (by decide) (by rfl) (pa_cons (pv 1) (pa_cons (pv 2) pa_nil))) (pg_tup rfl (pgs_cons (pg_name (i := 3) sc_Mask___init__.nd rfl (.inl rfl)) (pgs_cons (pg_name (i := 4) sc_Mask___init__.nd rfl (.inl rfl)) pgs_nil))))
      (pss_cons (ps_fld (pv 0) (pv 3) rfl)
      (pss_one (ps_fld (pv 0) (pv 4) rfl)))))), ?_⟩
    refine ⟨_, rfl, s, rfl, ns, fun G1 k1 => ?_⟩
    cases e1 : marksB s with
    | false =>
      refine ⟨_, rfl, iteT ?_⟩
      exact ((y1 e1).mono k1).now
    | true =>
      refine ⟨_, rfl, iteF ?_⟩
      refine ⟨_, rfl, _, ⟨by rw [S_len]; exact szl (by omega), rfl⟩, ?_⟩
      rw [S_len]
      by_cases hl : l = []
      · subst hl
        rw [show ((([] : List Nat).length : Int) != 0) = false by decide]
        exact iteT ((y2 e1 (.inl rfl)).mono k1).now
      · have h0 : 0 < l.length := List.length_pos_iff.mpr hl
        rw [show ((l.length : Int) != 0) = true by rw [bne_iff_ne]; omega]
        refine iteF ⟨_, rfl, l, rfl, nl, fun G2 k2 => ?_⟩
        have k12 := k1.trans k2
        cases e2 : marksB l with
        | false =>
          refine ⟨_, rfl, iteT ?_⟩
          exact ((y2 e1 (.inr e2)).mono k12).now
        | true =>
          refine ⟨_, rfl, iteF ?_⟩
          refine ⟨_, rfl, _, rfl, s, l, rfl, hl, ns, nl, fun q G3 s2 l2 k3 _ hq L ls => ?_⟩
          refine ⟨q, _, rfl, seqT_of hq, rfl, ?_⟩
          have k13 := k12.trans k3
          refine ⟨_, _, rfl, _, _, rfl, rfl, _, rfl, _, rfl, p, _, dx, [], rfl, k13 _ _ hp, T.c_Mask.cl, T.n_start, by show 0 < 1000; decide, ?_⟩
          refine ⟨_, rfl, _, rfl, p, _, dx, _, rfl, upd_same, T.c_Mask.cl, T.n_loop, by show 1 < 1000; decide, ?_⟩
          refine z e1 hl e2 _ s2 l2 (fun b o e hb => ?_) ?_ L ls
          · rw [upd_ne hb, upd_ne hb]
            exact k13 _ _ e
          · exact upd_same.trans (congrArg (fun l => some (HO.ins a.Mask dx l)) (put_ml s2 l2))
end
end K17

end
section
set_option Elab.async false
set_option linter.all false
set_option maxRecDepth 100000
set_option maxHeartbeats 4000000
namespace K17
open PySem PySem.Spec PyProof.Rows L2 Kit
/-- the first n signs of a word -/
def pfx (u : Nat → Nat) (n : Nat) : List Nat := (List.range n).map u
theorem pfx_len (u : Nat → Nat) (n : Nat) : (pfx u n).length = n := by unfold pfx; rw [List.length_map, List.length_range]
theorem pfx_at {u : Nat → Nat} {n i : Nat} (h : i < n) : (pfx u n)[i]? = some (u i) := by
  unfold pfx
  rw [List.getElem?_map, List.getElem?_range h]
  rfl
theorem pfx_take (u : Nat → Nat) {n m : Nat} (h : m ≤ n) : (pfx u n).take m = pfx u m := by
  refine List.ext_getElem? fun i => ?_
  by_cases c : i < m
  · rw [List.getElem?_take_of_lt c, pfx_at (by omega), pfx_at c]
  · rw [List.getElem?_eq_none (by rw [List.length_take, pfx_len]; omega), List.getElem?_eq_none (by rw [pfx_len]; omega)]
theorem pfx_eq {u v : Nat → Nat} {n : Nat} (h : ∀ i < n, u i = v i) : pfx u n = pfx v n := by
  refine List.ext_getElem? fun i => ?_
  by_cases c : i < n
  · rw [pfx_at c, pfx_at c, h i c]
  · rw [List.getElem?_eq_none (by rw [pfx_len]; omega), List.getElem?_eq_none (by rw [pfx_len]; omega)]
theorem rep_len (l : List Nat) (k : Nat) : (List.replicate k l).flatten.length = k * l.length := by
  induction k with
  | zero => simp
  | succ k ih => rw [List.replicate_succ, List.flatten_cons, List.length_append, ih, Nat.succ_mul, Nat.add_comm]
theorem rep_at (l : List Nat) (k : Nat) {i : Nat} (h : i < k * l.length) : (List.replicate k l).flatten[i]? = some (l.getD (i % l.length) 0) := by
  have h0 : 0 < l.length := by
    rcases Nat.eq_zero_or_pos l.length with z | z
    · rw [z, Nat.mul_zero] at h
      omega
    · exact z
  induction k generalizing i with
  | zero => omega
  | succ k ih =>
    rw [List.replicate_succ, List.flatten_cons]
    by_cases c : i < l.length
    · rw [List.getElem?_append_left c, Nat.mod_eq_of_lt c, List.getD_eq_getElem?_getD, List.getElem?_eq_getElem c]
      rfl
    · rw [Nat.succ_mul] at h
      have e := Nat.mod_eq_sub_mod (a := i) (b := l.length) (by omega)
      rw [List.getElem?_append_right (by omega), ih (by omega), e]
theorem rep_pfx {s l : List Nat} {k n : Nat} (h : n ≤ s.length + k * l.length) : (s ++ (List.replicate k l).flatten).take n = pfx (at_ s l) n := by
  refine List.ext_getElem? fun i => ?_
  by_cases c : i < n
  · rw [List.getElem?_take_of_lt c, pfx_at c]
    by_cases c2 : i < s.length
    · rw [List.getElem?_append_left c2, at_s (l := l) c2]
    · rw [List.getElem?_append_right (by omega), rep_at l k (by omega), at_ge (by omega)]
  · rw [List.getElem?_eq_none (by rw [List.length_take]; omega), List.getElem?_eq_none (by rw [pfx_len]; omega)]
end K17

end
section
set_option Elab.async false
set_option linter.all false
set_option maxRecDepth 100000
set_option maxHeartbeats 4000000
namespace K17
open PySem PySem.Spec PyProof.Rows L2 Kit
section
variable {P : Program} {w : World} {K : PySem.W.Frag} {mg : Str → Option Value} {base : Heap} {a : Ad}
theorem repOk {l : List Nat} {k : Nat} (h1 : l.length ≤ 60) (h2 : k ≤ 10000) : MulOk (S l) (k : Int) := mulOk_of 60 10000 (by rw [S_len]; exact h1) (by omega) (by omega) (by decide) (by decide)
/-- _law_marks -/
def spLMarks : Sp := fun vs H Q _ => ∃ (s l : List Nat), vs = [tx s, tx l, .int 140] ∧ l ≠ [] ∧ s.length ≤ 60 ∧ l.length ≤ 60 ∧ Q (tx (pfx (at_ s l) 140)) H
theorem c_law_marks (T : Txt K mg a) : Can P w K mg base 1 "_law_marks" spLMarks := by
  refine can_of T.d_law_marks sc_law_marks bd_law_marks (fun vs H Q E h => ?_) (fun f cdv A outer s0 H vs Q E hr h => ?_)
  · obtain ⟨s, l, rfl, _⟩ := h
    rfl
  · obtain ⟨s, l, rfl, hl, h1, h2, z⟩ := h
    refine ⟨_, (pss_one (ps_ret (pe_slice sl_str (pe_op op_add_str (pv 0) (pe_op op_repS (pv 1) (pv 2))) po_none (po_some (pv 2))))), ?_⟩
    have l0 : 0 < l.length := List.length_pos_iff.mpr hl
    have l140 : 140 * l.length ≤ 140 * 60 := Nat.mul_le_mul_left _ h2
    have l141 : 140 * 1 ≤ 140 * l.length := Nat.mul_le_mul_left _ l0
    have m1 := mul_S l 140
    refine ⟨_, rfl, _, rfl, _, rfl, _, _, rfl, rfl, repOk (k := 140) h2 (by decide), ?_⟩
    rw [show ((140 : Int)) = ((140 : Nat) : Int) from rfl, m1]
    refine ⟨_, _, rfl, rfl, by rw [S_len, S_len, rep_len]; exact szl (by omega), ?_⟩
    rw [S_app]
    refine ⟨_, rfl, _, rfl, _, rfl, by rw [S_len, List.length_append, rep_len]; exact szl (by omega), ?_⟩
    rw [cut_take, rep_pfx (by omega)]
    exact z
/-- Mask.marks -/
def spMMarks (a : Ad) : Sp := fun vs H Q E => ∃ (p : Addr) (u : Nat → Nat) (s l : List Nat) (n : Int), vs = [.ref p, .int n] ∧ MaskAt a H p u s l ∧ n ≤ 1000 ∧ (n < 0 → Ra E a.BadCount "count" (.int n) H) ∧ (0 ≤ n → Q (tx (pfx u n.toNat)) H)
theorem c_Mask_marks (T : Txt K mg a) : CanM P w K mg base 3 a.Mask "marks" (spMMarks a) := by
  refine canM_of T.c_Mask.cl T.m_Mask_marks sc_Mask_marks bd_Mask_marks (fun vs H Q E h => ?_) (fun f cdv A outer s0 H vs Q E hr h => ?_)
  · obtain ⟨p, u, s, l, n, rfl, _⟩ := h
    rfl
  · obtain ⟨p, u, s, l, n, rfl, ma, hn, y, z⟩ := h
    refine ⟨_, (pss_cons (ps_if (pt_cmpR op_lt (pv 1) pe_int (nomark _)) (pss_one (pr_err (c_BadCount T) (takes_of rfl rfl rfl rfl) (by rfl) hr (by decide) (by rfl) (pv 1))) pss_nil)
      (pss_cons (ps_set (i := 2) sc_Mask_marks.nd rfl (.inl rfl) (pe_op op_add (pe_op op_fdivN (pv 1) (pe_callB call_len_str (by rfl) T.b_len (by decide +kernel) (pa_cons (kfld K (pv 0)) pa_nil))) pe_int))
      (pss_one (ps_ret (pe_slice sl_str (pe_op op_add_str (kfld K (pv 0)) (pe_op op_repS (kfld K (pv 0)) (pv 2))) po_none (po_some (pv 1))))))), ?_⟩
    obtain ⟨dx, hp⟩ := ma.ob
    have l0 := ma.ls.pos
    have l60 := ma.le
    have s6 := ma.s6
    refine ⟨_, rfl, _, _, rfl, rfl, _, rfl, ?_⟩
    by_cases c : n < 0
    · rw [decide_eq_true c]
      exact iteT ⟨_, rfl, (y c).now⟩
    · rw [decide_eq_false c]
      obtain ⟨m, rfl⟩ : ∃ m : Nat, n = (m : Int) := ⟨n.toNat, by omega⟩
      refine iteF ?_
      have ll : ((S l).length : Int) = ((l.length : Nat) : Int) := by rw [S_len]
      have key : m ≤ s.length + (m / l.length + 1) * l.length := by
        have := Nat.mod_add_div m l.length
        have := Nat.mod_lt m l0
        rw [Nat.succ_mul, Nat.mul_comm]
        omega
      have q9 : m / l.length ≤ m := Nat.div_le_self _ _
      have q10 : (m / l.length + 1) * l.length ≤ m + l.length := by
        have := Nat.div_mul_le_self m l.length
        rw [Nat.succ_mul]
        omega
      refine ⟨_, rfl, _, rfl, p, _, dx, _, _, rfl, hp, T.c_Mask.cl, T.n_loop, ml_loop s l, _, rfl, by rw [S_len]; exact szl (by omega), _, _, rfl, rfl, by rw [ll]; exact ⟨by omega, by omega⟩, _, _, rfl, rfl, ?_⟩
      have e1 : ((m : Nat) : Int).fdiv ((S l).length : Int) + 1 = ((m / l.length + 1 : Nat) : Int) := by
        rw [ll, fd]
        omega
      show gName 2 (V.int (((m : Nat) : Int).fdiv ((S l).length : Int) + 1)) _ _ _
      rw [e1]
      refine ⟨_, rfl, p, _, dx, _, _, rfl, hp, T.c_Mask.cl, T.n_start, ml_start s l, _, rfl, p, _, dx, _, _, rfl, hp, T.c_Mask.cl, T.n_loop, ml_loop s l, _, rfl, _, _, rfl, rfl, repOk l60 (by omega), ?_⟩
      rw [mul_S]
      refine ⟨_, _, rfl, rfl, by rw [S_len, S_len, rep_len]; exact szl (by omega), ?_⟩
      rw [S_app]
      refine ⟨_, rfl, _, rfl, _, rfl, by rw [S_len, List.length_append, rep_len]; exact szl (by omega), ?_⟩
      rw [cut_take, rep_pfx key]
      have z := z (by omega)
      rw [pfx_eq (v := u) fun i _ => ma.ls.wd i]
      exact z
end
end K17

end
section
set_option Elab.async false
set_option linter.all false
set_option maxRecDepth 100000
set_option maxHeartbeats 4000000
namespace K17
open PySem PySem.Spec PyProof.Rows L2 Kit
theorem cut_mid (l : List Nat) (i j : Nat) : cutS (S l) (some (i : Int)) (some (j : Int)) = S ((l.drop (min i l.length)).take (min j l.length - min i l.length)) := by
  rw [cut_S, sIx_some, sIx_some]
/-- the window's test -/
theorem win_iff {u : Nat → Nat} {s l : List Nat} (L : Lst u s l) (s6 : s.length ≤ 6) (l60 : l.length ≤ 60) {m : Nat} (m0 : 0 < m) (m61 : m < 61) :
    ((pfx u 140).drop (min 6 140)).take (min (140 - m) 140 - min 6 140) = (pfx u 140).drop (6 + m) ↔ PF u 6 m := by
  have lp := L.per.mono s6
  constructor
  · intro h
    refine lp.window L.pos (N := 140) (by omega) fun i hi hm => ?_
    have e : (((pfx u 140).drop (min 6 140)).take (min (140 - m) 140 - min 6 140))[i - 6]? = ((pfx u 140).drop (6 + m))[i - 6]? := by rw [h]
    rw [List.getElem?_take_of_lt (by omega), List.getElem?_drop, List.getElem?_drop, pfx_at (by omega), pfx_at (by omega)] at e
    have e := Option.some.inj e
    rw [show min 6 140 + (i - 6) = i by omega, show 6 + m + (i - 6) = i + m by omega] at e
    exact e.symm
  · intro h
    refine List.ext_getElem? fun i => ?_
    by_cases c : i < 134 - m
    · rw [List.getElem?_take_of_lt (by omega), List.getElem?_drop, List.getElem?_drop, pfx_at (by omega), pfx_at (by omega), show min 6 140 + i = 6 + i by omega, show 6 + m + i = 6 + i + m by omega, h _ (by omega)]
    · rw [List.getElem?_eq_none (by rw [List.length_take, List.length_drop, pfx_len]; omega), List.getElem?_eq_none (by rw [List.length_drop, pfx_len]; omega)]
theorem pfx_s {u : Nat → Nat} {s l : List Nat} (L : Lst u s l) : pfx u s.length = s := by
  refine List.ext_getElem? fun i => ?_
  by_cases c : i < s.length
  · rw [pfx_at c, at_s (l := l) c, L.wd]
  · rw [List.getElem?_eq_none (by rw [pfx_len]; omega), List.getElem?_eq_none (by omega)]
theorem pfx_l {u : Nat → Nat} {s l : List Nat} (L : Lst u s l) {n : Nat} (h : s.length + l.length ≤ n) : ((pfx u n).drop s.length).take l.length = l := by
  refine List.ext_getElem? fun i => ?_
  by_cases c : i < l.length
  · rw [List.getElem?_take_of_lt c, List.getElem?_drop, pfx_at (by omega), at_l (s := s) c, L.wd]
  · rw [List.getElem?_eq_none (by rw [List.length_take, List.length_drop, pfx_len]; omega), List.getElem?_eq_none (by omega)]
section
variable {P : Program} {w : World} {K : PySem.W.Frag} {mg : Str → Option Value} {base : Heap} {a : Ad}
def spLLeast : Sp := fun vs H Q _ => ∃ (u : Nat → Nat) (s l : List Nat), vs = [tx (pfx u 140)] ∧ Lst u s l ∧ s.length ≤ 6 ∧ l.length ≤ 60 ∧ ∀ q G, Same H G → H q = none → G q = some (.tup [tx s, tx l]) → Q (.ref q) G
theorem c_law_least (T : Txt K mg a) : Can P w K mg base 1 "_law_least" spLLeast := by
  refine can_of T.d_law_least sc_law_least bd_law_least (fun vs H Q E h => ?_) (fun f cdv A outer s0 H vs Q E hr h => ?_)
  · obtain ⟨u, s, l, rfl, _⟩ := h
    rfl
  · obtain ⟨u, s, l, rfl, L, s6, l60, z⟩ := h
    refine ⟨_, (pss_cons (ps_for (passes_of rfl) (by rfl) (pi_range2 (by rfl) T.b_range (pa_cons pe_int (pa_cons pe_int pa_nil))) (pg_name (i := 1) sc_law_least.nd rfl (.inl rfl)) (pss_one (ps_if (pt_cmpR op_eq (pe_slice sl_str (pv 0) (po_some pe_int) (po_some (pe_op op_sub (pe_callB call_len_str (by rfl) T.b_len (by decide +kernel) (pa_cons (pv 0) pa_nil)) (pv 1)))) (pe_slice sl_str (pv 0) (po_some (pe_op op_add pe_int (pv 1))) po_none) (nomark _)) (pss_cons (ps_set (i := 2) sc_law_least.nd rfl (.inl rfl) pe_int)
      (pss_cons (ps_for (passes_of rfl) (by rfl) (pi_range1 (by rfl) T.b_range (pa_cons pe_int pa_nil)) (pg_name (i := 3) sc_law_least.nd rfl (.inl rfl)) (pss_cons (ps_if (pt_cmpR op_ne (pe_ix ix_str (pv 0) (pe_op op_sub (pv 2) pe_int) (fun _ _ => rfl)) (pe_ix ix_str (pv 0) (pe_op op_add (pe_op op_sub (pv 2) pe_int) (pv 1)) (fun _ _ => rfl)) (nomark _)) (pss_one ps_break) pss_nil)
      (pss_one (ps_set (i := 2) sc_law_least.nd rfl (.inl rfl) (pe_op op_sub (pv 2) pe_int)))))
      (pss_one (ps_ret (pe_tup (pa_cons (pe_slice sl_str (pv 0) po_none (po_some (pv 2))) (pa_cons (pe_slice sl_str (pv 0) (po_some (pv 2)) (po_some (pe_op op_add (pv 2) (pv 1)))) pa_nil))))))) pss_nil)))
      (pss_one (ps_ret pe_non))), ?_⟩
    have l0 := L.pos
    have pl := pfx_len u 140
    have sz : (S (pfx u 140)).length ≤ sizeLine := by rw [S_len, pl]; decide
    have fin : 2 ≤ sizeLine ∧ ∀ q, H q = none → Q (.ref q) (upd H q (.tup [tx s, tx l])) := ⟨by decide, fun q hq => z q _ (ex_new hq) hq upd_same⟩
    refine ⟨1, 61, rfl, by omega, for_it (walk_range (lo := 1) (n := ((61 : Int) - 1).toNat)) (fun i σ G => G = H ∧ i < l.length ∧ ∃ x y z : Option V, σ = [some (tx (pfx u 140)), x, y, z]) ⟨rfl, l0, none, none, none, rfl⟩ (fun i σ G _ h => True.intro) ?_ ?_⟩
    · rintro i x σ G G' hi ⟨rfl, hil, x1, x2, x3, rfl⟩ ⟨rfl, rfl⟩
      have hi : i < 60 := hi
      obtain ⟨m, hm⟩ : ∃ m : Nat, m = i + 1 := ⟨_, rfl⟩
      have em : (1 : Int) + (i : Int) = ((m : Nat) : Int) := by omega
      show gName 1 (V.int (1 + ((i : Nat) : Int))) _ _ _
      rw [em]
      have w1 := cut_mid (pfx u 140) 6 (140 - m)
      have w2 := cut_drop (pfx u 140) (6 + m)
      rw [pl] at w1
      have e1 : ((S (pfx u 140)).length : Int) - ((m : Nat) : Int) = ((140 - m : Nat) : Int) := by rw [S_len, pl]; omega
      have e2 : (6 : Int) + ((m : Nat) : Int) = ((6 + m : Nat) : Int) := by omega
      refine ⟨_, rfl, _, rfl, _, rfl, _, rfl, sz, _, rfl, _, _, rfl, rfl, _, rfl, _, rfl, sz, ?_⟩
      rw [e1]
      refine ⟨_, rfl, _, rfl, _, _, rfl, rfl, _, rfl, _, rfl, sz, ?_⟩
      rw [e2]
      refine ⟨rfl, _, rfl, ?_⟩
      have w3 : cutS (S (pfx u 140)) (some 6) (some ((140 - m : Nat) : Int)) = S (((pfx u 140).drop (min 6 140)).take (min (140 - m) 140 - min 6 140)) := w1
      rw [w3, w2]
      have iff := win_iff L s6 l60 (m := m) (by omega) (by omega)
      by_cases c : PF u 6 m
      · rw [decide_eq_true (congrArg (fun q => V.str (S q)) (iff.mpr c))]
        have hml : m = l.length := Nat.le_antisymm (by omega) (L.mn _ _ (by omega) c)
        subst hml
        refine iteT ?_
        refine ⟨6, rfl, by omega, by omega, for_it (walk_range (lo := 0) (n := (6 : Int).toNat)) (fun k σ G => G = G' ∧ k ≤ 6 ∧ s.length ≤ 6 - k ∧ ∃ v : Option V, σ = [some (tx (pfx u 140)), some (.int ((l.length : Nat) : Int)), some (.int ((6 - k : Nat) : Int)), v]) ⟨rfl, by omega, s6, x3, rfl⟩ (fun _ _ _ _ _ => True.intro) ?_ ?_⟩
        · rintro k x σ G M hk ⟨rfl, hk6, hs, v, rfl⟩ ⟨rfl, rfl⟩
          have hk : k < 6 := hk
          obtain ⟨t, ht⟩ : ∃ t : Nat, 6 - k = t + 1 := ⟨5 - k, by omega⟩
          rw [ht]
          have ix : ∀ j : Nat, j < 140 → atI (S (pfx u 140)).cps.toList ((j : Nat) : Int) = some (u j) := fun j hj => atI_nat (pfx_at hj)
          have f1 : ((t + 1 : Nat) : Int) - 1 = ((t : Nat) : Int) := by omega
          have f2 : ((t : Nat) : Int) + ((l.length : Nat) : Int) = ((t + l.length : Nat) : Int) := by omega
          refine ⟨_, rfl, _, rfl, _, _, rfl, rfl, _, _, u t, rfl, rfl, sz, by rw [f1]; exact ix _ (by omega), _, rfl, _, rfl, _, _, rfl, rfl, _, rfl, _, _, rfl, rfl, _, _, u (t + l.length), rfl, rfl, sz, by rw [f1, f2]; exact ix _ (by omega), rfl, _, rfl, ?_⟩
          by_cases c2 : u t = u (t + l.length)
          · rw [decide_eq_true (by rw [c2])]
            refine iteF ⟨_, rfl, _, _, rfl, rfl, rfl, by omega, ?_, some (.int (0 + ((k : Nat) : Int))), ?_⟩
            · apply Nat.le_of_not_lt
              intro h
              rcases L.st with e | st
              · rw [e] at h
                simp at h
              · exact st (by rw [show s.length - 1 = t by omega]; exact c2)
            · rw [show 6 - (k + 1) = t by omega, ← f1]
              rfl
          · rw [decide_eq_false (p := V.str ⟨#[u t]⟩ = V.str ⟨#[u (t + l.length)]⟩) (fun e => c2 (List.cons.inj (S_inj (l := [u t]) (m := [u (t + l.length)]) (V.str.inj e))).1)]
            have hst : t + 1 = s.length := by
              apply Nat.le_antisymm _ (by omega)
              apply Nat.lt_of_not_le
              intro h
              exact c2 (L.per t h).symm
            rw [hst]
            refine iteT ?_
            refine ⟨_, rfl, _, rfl, _, rfl, _, rfl, sz, ?_⟩
            rw [cut_take, pfx_take u (show s.length ≤ 140 by omega), pfx_s L]
            refine ⟨_, rfl, _, rfl, _, rfl, _, rfl, _, rfl, _, _, rfl, rfl, _, rfl, _, rfl, sz, ?_⟩
            rw [show ((s.length : Nat) : Int) + ((l.length : Nat) : Int) = ((s.length + l.length : Nat) : Int) by omega, cut_mid, pl, Nat.min_eq_left (show s.length ≤ 140 by omega), Nat.min_eq_left (show s.length + l.length ≤ 140 by omega), show s.length + l.length - s.length = l.length by omega, pfx_l L (by omega)]
            exact fin
        · rintro σ G ⟨rfl, _, hs, v, rfl⟩
          have hs : s.length ≤ 6 - 6 := hs
          have s0' : 6 - (6 : Int).toNat = s.length := by show 6 - 6 = s.length; omega
          rw [s0']
          refine ⟨_, rfl, _, rfl, _, rfl, _, rfl, sz, ?_⟩
          rw [cut_take, pfx_take u (show s.length ≤ 140 by omega), pfx_s L]
          refine ⟨_, rfl, _, rfl, _, rfl, _, rfl, _, rfl, _, _, rfl, rfl, _, rfl, _, rfl, sz, ?_⟩
          rw [show ((s.length : Nat) : Int) + ((l.length : Nat) : Int) = ((s.length + l.length : Nat) : Int) by omega, cut_mid, pl, Nat.min_eq_left (show s.length ≤ 140 by omega), Nat.min_eq_left (show s.length + l.length ≤ 140 by omega), show s.length + l.length - s.length = l.length by omega, pfx_l L (by omega)]
          exact fin
      · rw [decide_eq_false (fun e => c (iff.mp (S_inj (V.str.inj e))))]
        refine iteF ⟨rfl, ?_, _, _, _, rfl⟩
        apply Nat.lt_of_not_le
        intro h
        have : m = l.length := by omega
        exact c (this ▸ L.per.mono s6)
    · rintro σ G ⟨_, hil, _⟩
      have hil : 60 < l.length := hil
      omega
end
end K17

end
section
set_option Elab.async false
set_option linter.all false
set_option maxRecDepth 100000
set_option maxHeartbeats 4000000
namespace K17
open PySem PySem.Spec PyProof.Rows L2 Kit
/-- where two words part first, within 140 signs -/
def apartV (u v : Nat → Nat) : V := match (List.range 140).find? fun i => u i != v i with | some i => .int (i : Int) | none => .non
theorem one_ne (c d : Nat) : (!decide (V.str ⟨#[c]⟩ = V.str ⟨#[d]⟩)) = (c != d) := by
  by_cases h : c = d
  · subst h
    rw [decide_eq_true (p := V.str ⟨#[c]⟩ = V.str ⟨#[c]⟩) rfl]
    simp
  · rw [decide_eq_false (p := V.str ⟨#[c]⟩ = V.str ⟨#[d]⟩) fun e => h (List.cons.inj (S_inj (l := [c]) (m := [d]) (V.str.inj e))).1]
    symm
    rw [bne_iff_ne.mpr h]
    rfl
theorem one_ne2 (c d : Nat) : (!decide (V.str ⟨#[c]⟩ = V.str (S [d]))) = (c != d) := one_ne c d
theorem find_range {f : Nat → Bool} {n i : Nat} (hi : i < n) (hb : ∀ k < i, f k = false) (h : f i = true) : (List.range n).find? f = some i := by
  refine find_of_first (i := i) (fun b hb' => ?_) (List.getElem?_range hi) h
  obtain ⟨j, hj⟩ := List.mem_iff_getElem?.mp hb'
  by_cases c : j < i
  · rw [List.getElem?_take_of_lt c, List.getElem?_range (by omega)] at hj
    cases hj
    exact hb _ c
  · rw [List.getElem?_eq_none (by rw [List.length_take]; omega)] at hj
    cases hj
theorem find_no {f : Nat → Bool} {n : Nat} (hb : ∀ k < n, f k = false) : (List.range n).find? f = none := by
  rw [List.find?_eq_none]
  intro x hx
  rw [hb x (List.mem_range.mp hx)]
  decide
section
variable {P : Program} {w : World} {K : PySem.W.Frag} {mg : Str → Option Value} {base : Heap} {a : Ad}
def spLApart : Sp := fun vs H Q _ => ∃ (u v : Nat → Nat), vs = [tx (pfx u 140), tx (pfx v 140)] ∧ Q (apartV u v) H
theorem c_law_apart (T : Txt K mg a) : Can P w K mg base 1 "_law_apart" spLApart := by
  refine can_of T.d_law_apart sc_law_apart bd_law_apart (fun vs H Q E h => ?_) (fun f cdv A outer s0 H vs Q E hr h => ?_)
  · obtain ⟨u, v, rfl, _⟩ := h
    rfl
  · obtain ⟨u, v, rfl, z⟩ := h
    refine ⟨_, (pss_cons (ps_for (passes_of rfl) (by rfl) (pi_range1 (by rfl) T.b_range (pa_cons (pe_callB call_len_str (by rfl) T.b_len (by decide +kernel) (pa_cons (pv 0) pa_nil)) pa_nil)) (pg_name (i := 2) sc_law_apart.nd rfl (.inl rfl)) (pss_one (ps_if (pt_cmpR op_ne (pe_ix ix_str (pv 0) (pv 2) (fun _ _ => rfl)) (pe_ix ix_str (pv 1) (pv 2) (fun _ _ => rfl)) (nomark _)) (pss_one (ps_ret (pv 2))) pss_nil)))
      (pss_one (ps_ret pe_non))), ?_⟩
    have pl := pfx_len u 140
    have sz : ∀ u, (S (pfx u 140)).length ≤ sizeLine := fun u => by rw [S_len, pfx_len]; decide
    have ix : ∀ u, ∀ j : Nat, j < 140 → atI (S (pfx u 140)).cps.toList ((j : Nat) : Int) = some (u j) := fun u j hj => atI_nat (pfx_at hj)
    have en : ((S (pfx u 140)).length : Int) = 140 := by rw [S_len, pl]; rfl
    refine ⟨_, rfl, _, rfl, sz u, ?_⟩
    rw [en]
    refine ⟨140, rfl, by omega, by omega, for_it (walk_range (lo := 0) (n := (140 : Int).toNat)) (fun k σ G => G = H ∧ (∀ j < k, (u j != v j) = false) ∧ ∃ x : Option V, σ = [some (tx (pfx u 140)), some (tx (pfx v 140)), x]) ⟨rfl, fun j hj => absurd hj (by omega), none, rfl⟩ (fun _ _ _ _ _ => True.intro) ?_ ?_⟩
    · rintro k x σ G M hk ⟨rfl, hb, v1, rfl⟩ ⟨rfl, rfl⟩
      have hk : k < 140 := hk
      have z0 : (0 : Int) + ((k : Nat) : Int) = ((k : Nat) : Int) := by omega
      show gName 2 (V.int (0 + ((k : Nat) : Int))) _ _ _
      rw [z0]
      refine ⟨_, rfl, _, rfl, _, _, u k, rfl, rfl, sz u, ix u k hk, _, rfl, _, rfl, _, _, v k, rfl, rfl, sz v, ix v k hk, rfl, _, rfl, ?_⟩
      rw [one_ne]
      cases e : (u k != v k) with
      | true =>
        refine iteT ⟨_, rfl, ?_⟩
        have e2 : apartV u v = .int ((k : Nat) : Int) := by
          unfold apartV
          rw [find_range hk hb e]
        rw [← e2]
        exact z
      | false =>
        refine iteF ⟨rfl, fun j hj => ?_, _, rfl⟩
        by_cases c : j = k
        · rw [c]
          exact e
        · exact hb j (by omega)
    · rintro σ G ⟨rfl, hb, v1, rfl⟩
      have e2 : apartV u v = .non := by
        unfold apartV
        rw [find_no (n := 140) hb]
      rw [← e2]
      exact z
/-- _law_is_marks -/
def spLIsM : Sp := fun vs H Q _ => ∃ l : List Nat, vs = [tx l] ∧ l.length ≤ 1000 ∧ Q (.bl (marksB l)) H
theorem c_law_is_marks (T : Txt K mg a) : Can P w K mg base 1 "_law_is_marks" spLIsM := by
  refine can_of T.d_law_is_marks sc_law_is_marks bd_law_is_marks (fun vs H Q E h => ?_) (fun f cdv A outer s0 H vs Q E hr h => ?_)
  · obtain ⟨l, rfl, _⟩ := h
    rfl
  · obtain ⟨l, rfl, hl, z⟩ := h
    refine ⟨_, (pss_cons (ps_for (passes_of rfl) (by rfl) (pi_str (pv 0)) (pg_name (i := 1) sc_law_is_marks.nd rfl (.inl rfl)) (pss_one (ps_if (PW.pt (pw_and (pt_cmpR op_ne (pv 1) pe_str (nomark _)) (pw_and1 (pt_cmpR op_ne (pv 1) pe_str (nomark _))))) (pss_one (ps_ret pe_bl)) pss_nil)))
      (pss_one (ps_ret (pe_cmpR op_le (pe_callB call_len_str (by rfl) T.b_len (by decide +kernel) (pa_cons (pv 0) pa_nil)) pe_int (nomark _))))), ?_⟩
    rw [lit_open, lit_closed]
    refine ⟨_, rfl, _, rfl, for_it walk_str (fun i σ G => G = H ∧ (∀ j < i, ∀ x, l[j]? = some x → isM x = true) ∧ ∃ x : Option V, σ = [some (tx l), x]) ⟨rfl, fun j hj => absurd hj (by omega), none, rfl⟩ (fun _ _ _ _ _ => True.intro) ?_ ?_⟩
    · rintro k x σ G M hk ⟨rfl, hb, v1, rfl⟩ ⟨rfl, c', hc, rfl⟩
      have hc := at_S hc
      have nm : isM c' = false → Q (.bl false) M := fun e => by
        have e2 : marksB l = false := by
          unfold marksB
          rw [Bool.and_eq_false_iff]
          right
          rw [List.all_eq_false]
          exact ⟨c', List.mem_of_getElem? hc, by rw [e]; decide⟩
        rw [← e2]
        exact z
      have ym : isM c' = true → ∀ j < k + 1, ∀ x, l[j]? = some x → isM x = true := fun e j hj x hx => by
        by_cases c : j = k
        · subst c
          rw [hc] at hx
          cases hx
          exact e
        · exact hb j (by omega) x hx
      refine ⟨_, rfl, rfl, _, rfl, ?_⟩
      rw [one_ne2]
      cases e : (c' != 43) with
      | false => exact iteF ⟨rfl, ym (by unfold isM; rw [bne_eq_false_iff_eq] at e; subst e; rfl), _, rfl⟩
      | true =>
        refine iteT ⟨_, rfl, rfl, _, rfl, ?_⟩
        rw [one_ne2]
        cases e9 : (c' != 45) with
        | false => exact iteF ⟨rfl, ym (by unfold isM; rw [bne_eq_false_iff_eq] at e9; subst e9; rfl), _, rfl⟩
        | true =>
          refine iteT (nm ?_)
          rw [bne_iff_ne] at e e9
          unfold isM
          rw [decide_eq_false e, decide_eq_false e9]
          rfl
    · rintro σ G ⟨rfl, hb, v1, rfl⟩
      refine ⟨_, rfl, _, rfl, by rw [S_len]; exact szl (by omega), _, _, rfl, rfl, ?_⟩
      have e2 : decide (((S l).length : Int) ≤ 6) = marksB l := by
        have e3 : l.all isM = true := List.all_eq_true.mpr fun x hx => by
          obtain ⟨j, hj⟩ := List.mem_iff_getElem?.mp hx
          have hlt := (List.getElem?_eq_some_iff.mp hj).1
          exact hb j (by show j < (S l).length; rw [S_len]; exact hlt) x hj
        unfold marksB
        rw [e3, Bool.and_true, S_len]
        exact decide_eq_decide.mpr (by omega)
      show Q (V.bl (decide (((S l).length : Int) ≤ 6))) G
      rw [e2]
      exact z
/-- which part is wrong -/
def wrongP (s l : List Nat) : V := if marksB s = false then .str "start" else if l = [] ∨ marksB l = false then .str "loop" else .non
def spLBadP : Sp := fun vs H Q _ => ∃ s l : List Nat, vs = [tx s, tx l] ∧ s.length ≤ 1000 ∧ l.length ≤ 1000 ∧ Q (wrongP s l) H
theorem c_law_bad_part (T : Txt K mg a) : Can P w K mg base 3 "_law_bad_part" spLBadP := by
  refine can_of T.d_law_bad_part sc_law_bad_part bd_law_bad_part (fun vs H Q E h => ?_) (fun f cdv A outer s0 H vs Q E hr h => ?_)
  · obtain ⟨s, l, rfl, _⟩ := h
    rfl
  · obtain ⟨s, l, rfl, hs, hl, z⟩ := h
    refine ⟨_, (pss_cons (ps_if (pt_not (pt_val (pc_f (c_law_is_marks T) hr (by decide) (by rfl) (pa_cons (pv 0) pa_nil)))) (pss_one (ps_ret pe_str)) pss_nil)
      (pss_cons (ps_if (PW.pt (pw_or (pt_cmpR op_eq (pv 1) pe_str (nomark _)) (pw_or1 (pt_not (pt_val (pc_f (c_law_is_marks T) hr (by decide) (by rfl) (pa_cons (pv 1) pa_nil))))))) (pss_one (ps_ret pe_str)) pss_nil)
      (pss_one (ps_ret pe_non)))), ?_⟩
    unfold wrongP at z
    refine ⟨_, rfl, s, rfl, hs, _, rfl, ?_⟩
    cases e1 : marksB s with
    | false =>
      rw [if_pos e1] at z
      exact iteT z
    | true =>
      rw [if_neg (by rw [e1]; decide)] at z
      refine iteF ⟨_, rfl, rfl, _, rfl, ?_⟩
      rw [lit_emp]
      by_cases c : l = []
      · subst c
        rw [decide_eq_true (p := tx [] = V.str (S [])) rfl]
        rw [if_pos (.inl rfl)] at z
        exact iteT z
      · rw [decide_eq_false (p := tx l = V.str (S [])) fun e => c (S_inj (V.str.inj e))]
        refine iteF ⟨_, rfl, l, rfl, hl, ?_⟩
        cases e2 : marksB l with
        | false =>
          rw [if_pos (.inr e2)] at z
          exact ⟨_, rfl, iteT z⟩
        | true =>
          rw [if_neg (by rw [e2]; exact fun h => h.elim c (by decide))] at z
          exact ⟨_, rfl, iteF z⟩
end
end K17

end
section
set_option Elab.async false
set_option linter.all false
set_option maxRecDepth 100000
set_option maxHeartbeats 4000000
namespace K17
open PySem PySem.Spec PyProof.Rows L2 Kit
theorem Bu.put {n : Nat} {p D : Addr} {H G : Hp} {o : HO} (h : Bu n p H G) (hD : H D = none) (ne : D ≠ p) : Bu n p H (upd G D o) := by
  obtain ⟨x, y, z, hp, r⟩ := h.2
  refine ⟨fun b u e hb => ?_, x, y, z, by rw [upd_ne (Ne.symm ne)]; exact hp, r⟩
  have nb : b ≠ D := fun q => by rw [q, hD] at e; cases e
  rw [upd_ne nb]
  exact h.1 b u e hb
theorem box_ne {k : Nat} {H : Hp} {p D : Addr} (hb : BoxAt k H p) (hD : H D = none) : D ≠ p := by
  obtain ⟨x, y, z, hp, _⟩ := hb
  intro e
  rw [e, hp] at hD
  cases hD
theorem mark_at {i : Int} : ∃ c : Nat, atI (S [43, 45]).cps.toList (i.fmod 2) = some c ∧ isM c = true := by
  have h0 := Int.fmod_nonneg_of_pos i (show (0 : Int) < 2 by omega)
  have h1 := Int.fmod_lt_of_pos i (show (0 : Int) < 2 by omega)
  rcases (show i.fmod 2 = 0 ∨ i.fmod 2 = 1 by omega) with e | e
  · exact ⟨43, by rw [e]; rfl, by decide⟩
  · exact ⟨45, by rw [e]; rfl, by decide⟩
section
variable {P : Program} {w : World} {K : PySem.W.Frag} {mg : Str → Option Value} {base : Heap} {a : Ad}
def spLWord : Sp := fun vs H Q _ => ∃ (p : Addr) (m k : Nat) (sh : Int), vs = [.ref p, .int m, .int sh] ∧ BoxAt (k + 6) H p ∧ m ≤ 6 ∧ 0 ≤ sh ∧ sh ≤ 1 ∧ ∀ G l, Bu k p H G → l.length = m → l.all isM = true → Q (tx l) G
theorem c_law_word (T : Txt K mg a) : Can P w K mg base 3 "_law_word" spLWord := by
  refine can_of T.d_law_word sc_law_word bd_law_word (fun vs H Q E h => ?_) (fun f cdv A outer s H vs Q E hr h => ?_)
  · obtain ⟨p, m, k, sh, rfl, _⟩ := h
    rfl
  · obtain ⟨p, m, k, sh, rfl, hb, hm, sh0, sh1, z⟩ := h
    refine ⟨_, (pss_one (ps_ret (kjoin K pe_str (pe_lc (own := [("k", 3)]) (g := gName 3) (tt := tYes) (by rfl) sc_law_word.nd (pi_range1 (by rfl) T.b_range (pa_cons (pv 1) pa_nil)) (blkOk_by (N := N_law_word) (sc := defScope s_law_word) (by decide +kernel)) (fun _ _ _ _ _ => (pg_name (i := 3) sc_law_word.nd rfl (.inl rfl))) (fun _ _ _ _ _ => pts_nil) (fun _ _ _ _ _ => (pe_ix ix_str pe_str (pe_op op_modN (pe_callTy call_int1 (by rfl) T.b_int (by decide +kernel) (pa_cons (pe_op op_add (pe_op op_add (pv 3) (pv 2)) (pc_f (c_law_take T) hr (by decide) (by rfl) (pa_cons (pv 0) (pa_cons pe_int pa_nil)))) pa_nil)) pe_int) (fun _ _ => rfl))))))), ?_⟩
    rw [lit_marks]
    refine ⟨⟨_, rfl⟩, _, rfl, m, rfl, by omega, by omega, fun D hD => ?_⟩
    have nD := box_ne hb hD
    refine lc_it (walk_range (lo := 0) (n := ((m : Nat) : Int).toNat)) (fun i G => ∃ l : List Nat, l.length = i ∧ l.all isM = true ∧ G D = some (.lst (l.map fun x => tx [x])) ∧ Bu (k + (6 - i)) p H G) ⟨[], rfl, rfl, upd_same, (Bu.refl hb).put hD nD⟩ (fun _ _ _ _ => True.intro) ?_ ?_
    · rintro i x G G' hi ⟨l, hl, hst, hGD, bu⟩ ⟨rfl, rfl⟩
      have hi : i < m := hi
      refine ⟨rfl, ?_⟩
      unfold tYes
      dsimp only
      rw [if_pos rfl]
      refine ⟨_, rfl, _, rfl, _, _, rfl, rfl, _, rfl, p, _, k + (6 - (i + 1)), rfl, bu.2.le (by omega), by omega, by omega, fun d G2 d0 d1 bu2 => ?_⟩
      obtain ⟨c, hc, hm'⟩ := mark_at (i := 0 + (i : Int) + sh + d)
      refine ⟨_, _, rfl, rfl, .inl ⟨_, rfl, _, _, rfl, rfl, by omega, _, _, c, rfl, rfl, by decide +kernel, hc, ?_⟩⟩
      have hGD2 := bu2.1 D _ hGD nD
      refine ⟨_, hGD2, by rw [List.length_map]; exact szlt (by omega), l ++ [c], by rw [List.length_append, hl]; rfl, ?_, ?_, (bu.trans bu2).put hD nD⟩
      · rw [List.all_append, hst, Bool.true_and, List.all_cons, List.all_nil, Bool.and_true]
        exact hm'
      · rw [upd_same, List.map_append]
        rfl
    · rintro G ⟨l, hl, hst, hGD, bu⟩
      have hl : l.length = m := hl
      refine ⟨_, _, l.map fun y => S [y], rfl, rfl, .inl (seqL_of (by rw [List.map_map]; exact hGD)), ?_, ?_⟩
      · rw [sum_ones, show Str.ofString "" = S [] from lit_emp, S_len]
        simp
        omega
      · rw [show Str.ofString "" = S [] from lit_emp, join_ones]
        exact z _ l (bu.le (by omega)) hl hst
end
end K17

end
section
set_option Elab.async false
set_option linter.all false
set_option maxRecDepth 100000
set_option maxHeartbeats 4000000
namespace K17
open PySem PySem.Spec PyProof.Rows L2 Kit
theorem Bu.at {n : Nat} {p b : Addr} {H G : Hp} {o : HO} (h : Bu n p H G) (e : H b = some o) (ne : b ≠ p) : G b = some o := h.1 b o e ne
theorem size7 {d : Int} (h0 : 0 ≤ d) (h1 : d < 7) : ∃ z : Nat, z ≤ 6 ∧ atI [V.int 2, .int 0, .int 1, .int 3, .int 4, .int 5, .int 6] d = some (.int (z : Int)) := by
  rcases (show d = 0 ∨ d = 1 ∨ d = 2 ∨ d = 3 ∨ d = 4 ∨ d = 5 ∨ d = 6 by omega) with rfl | rfl | rfl | rfl | rfl | rfl | rfl
  · exact ⟨2, by decide, rfl⟩
  · exact ⟨0, by decide, rfl⟩
  · exact ⟨1, by decide, rfl⟩
  · exact ⟨3, by decide, rfl⟩
  · exact ⟨4, by decide, rfl⟩
  · exact ⟨5, by decide, rfl⟩
  · exact ⟨6, by decide, rfl⟩
theorem size6 {d : Int} (h0 : 0 ≤ d) (h1 : d < 6) : ∃ z : Nat, 1 ≤ z ∧ z ≤ 6 ∧ atI [V.int 2, .int 1, .int 3, .int 4, .int 5, .int 6] d = some (.int (z : Int)) := by
  rcases (show d = 0 ∨ d = 1 ∨ d = 2 ∨ d = 3 ∨ d = 4 ∨ d = 5 by omega) with rfl | rfl | rfl | rfl | rfl | rfl
  · exact ⟨2, by decide, by decide, rfl⟩
  · exact ⟨1, by decide, by decide, rfl⟩
  · exact ⟨3, by decide, by decide, rfl⟩
  · exact ⟨4, by decide, by decide, rfl⟩
  · exact ⟨5, by decide, by decide, rfl⟩
  · exact ⟨6, by decide, by decide, rfl⟩
section
variable {P : Program} {w : World} {K : PySem.W.Frag} {mg : Str → Option Value} {base : Heap} {a : Ad}
def spLParts : Sp := fun vs H Q _ => ∃ (p : Addr) (k : Nat) (sh : Int), vs = [.ref p, .int sh] ∧ BoxAt (k + 20) H p ∧ 0 ≤ sh ∧ sh ≤ 1 ∧
  ∀ G q s l, Bu k p H G → H q = none → q ≠ p → G q = some (.tup [tx s, tx l]) → s.length ≤ 6 → s.all isM = true → l ≠ [] → l.length ≤ 6 → l.all isM = true → Q (.ref q) G
theorem bu_free {n : Nat} {p D : Addr} {H G : Hp} (h : Bu n p H G) (hD : G D = none) (ne : D ≠ p) : H D = none := by
  cases e : H D with
  | none => rfl
  | some o =>
    have := h.1 D o e ne
    rw [hD] at this
    cases this
theorem c_law_parts (T : Txt K mg a) : Can P w K mg base 4 "_law_parts" spLParts := by
  refine can_of T.d_law_parts sc_law_parts bd_law_parts (fun vs H Q E h => ?_) (fun f cdv A outer s H vs Q E hr h => ?_)
  · obtain ⟨p, k, sh, rfl, _⟩ := h
    rfl
  · obtain ⟨p, k, sh, rfl, hb, sh0, sh1, z⟩ := h
    refine ⟨_, (pss_cons (ps_set (i := 2) sc_law_parts.nd rfl (.inl rfl) (pc_f (c_law_word T) hr (by decide) (by rfl) (pa_cons (pv 0) (pa_cons (pe_ix (kix_list K) (pe_lst (pa_cons pe_int (pa_cons pe_int (pa_cons pe_int (pa_cons pe_int (pa_cons pe_int (pa_cons pe_int (pa_cons pe_int pa_nil)))))))) (pc_f (c_law_take T) hr (by decide) (by rfl) (pa_cons (pv 0) (pa_cons pe_int pa_nil))) (fun _ _ => rfl)) (pa_cons (pv 1) pa_nil)))))
      (pss_one (ps_ret (pe_tup (pa_cons (pv 2) (pa_cons (pc_f (c_law_word T) hr (by decide) (by rfl) (pa_cons (pv 0) (pa_cons (pe_ix (kix_list K) (pe_lst (pa_cons pe_int (pa_cons pe_int (pa_cons pe_int (pa_cons pe_int (pa_cons pe_int (pa_cons pe_int pa_nil))))))) (pc_f (c_law_take T) hr (by decide) (by rfl) (pa_cons (pv 0) (pa_cons pe_int pa_nil))) (fun _ _ => rfl)) (pa_cons (pv 1) pa_nil)))) pa_nil)))))), ?_⟩
    refine ⟨_, rfl, by show 7 ≤ sizeLine; decide, fun l0 hl0 => ?_⟩
    have n0 := box_ne hb hl0
    have b0 := (Bu.refl hb).put (o := .lst [.int 2, .int 0, .int 1, .int 3, .int 4, .int 5, .int 6]) hl0 n0
    refine ⟨_, rfl, p, 7, k + 19, rfl, b0.2, by decide, by decide, fun d G1 d0 d1 b1 => ?_⟩
    obtain ⟨m, hm, hix⟩ := size7 d0 d1
    refine ⟨l0, _, d, _, rfl, rfl, seqL_of (b1.at upd_same n0), hix, ?_⟩
    refine ⟨_, rfl, p, m, k + 13, sh, rfl, b1.2, hm, sh0, sh1, fun G2 s2 b2 hs2 ms2 => ?_⟩
    refine ⟨_, rfl, _, rfl, by show 6 ≤ sizeLine; decide, fun l1 hl1 => ?_⟩
    have n1 := box_ne b2.2 hl1
    have b3 := (Bu.refl b2.2).put (o := .lst [.int 2, .int 1, .int 3, .int 4, .int 5, .int 6]) hl1 n1
    refine ⟨_, rfl, p, 6, k + 12, rfl, b3.2, by decide, by decide, fun e G4 e0 e1 b4 => ?_⟩
    obtain ⟨m2, m21, m26, hix2⟩ := size6 e0 e1
    refine ⟨l1, _, e, _, rfl, rfl, seqL_of (b4.at upd_same n1), hix2, ?_⟩
    refine ⟨_, rfl, p, m2, k + 6, sh, rfl, b4.2, m26, sh0, sh1, fun G5 l2 b5 hl2 ml2 => ?_⟩
    refine ⟨by show 2 ≤ sizeLine; decide, fun q hq => ?_⟩
    have nq := box_ne b5.2 hq
    have t1 := (Bu.refl b5.2).put (o := .tup [tx s2, tx l2]) hq nq
    have f4 := bu_free b5 hq nq
    have f3 := bu_free b4 f4 nq
    have nql1 : q ≠ l1 := fun e => by rw [e, upd_same] at f3; cases f3
    have f2 : G2 q = none := by rw [upd_ne nql1] at f3; exact f3
    have f1 := bu_free b2 f2 nq
    have f0 := bu_free b1 f1 nq
    have nql0 : q ≠ l0 := fun e => by rw [e, upd_same] at f0; cases f0
    have fH : H q = none := by rw [upd_ne nql0] at f0; exact f0
    have all := (((((b0.trans b1).trans b2).trans b3).trans b4).trans b5).trans t1
    exact z _ q s2 l2 (all.le (by omega)) fH nq upd_same (by omega) ms2 (fun e => by rw [e] at hl2; simp at hl2; omega) (by omega) ml2
end
end K17

end
section
set_option Elab.async false
set_option linter.all false
set_option maxRecDepth 100000
set_option maxHeartbeats 4000000
namespace K17
open PySem PySem.Spec PyProof.Rows L2 Kit
theorem at_cut {u : Nat → Nat} {b n : Nat} (hb : b < n) (h : PF u b (n - b)) (i : Nat) : at_ (pfx u b) ((pfx u n).drop b) i = u i := by
  have e1 := pfx_len u b
  have e2 : ((pfx u n).drop b).length = n - b := by rw [List.length_drop, pfx_len]
  by_cases c : i < b
  · rw [at_lt (by omega), List.getD_eq_getElem?_getD, pfx_at c]
    rfl
  · rw [at_ge (by omega), e1, e2, List.getD_eq_getElem?_getD, List.getElem?_drop]
    have lt := Nat.mod_lt (i - b) (show 0 < n - b by omega)
    rw [pfx_at (by omega)]
    have k := h.mul ((i - b) / (n - b)) (i := b + (i - b) % (n - b)) (by omega)
    have m := Nat.mod_add_div (i - b) (n - b)
    rw [Nat.mul_comm] at m
    rw [show b + (i - b) % (n - b) + (i - b) / (n - b) * (n - b) = i by omega] at k
    exact k.symm
/-- what the pairs of two words make -/
def cw (cs : List (List Nat)) (u v : Nat → Nat) (i : Nat) : Nat := if cs.contains [u i, v i] = true then 43 else 45
theorem cw_m (cs : List (List Nat)) (u v : Nat → Nat) (i : Nat) : isM (cw cs u v i) = true := by
  unfold cw
  split <;> decide
theorem cw_per {cs : List (List Nat)} {u v : Nat → Nat} {b p q : Nat} (h : PF u b p) (g : PF v b q) : PF (cw cs u v) b (Nat.lcm p q) := fun i hi => by
  obtain ⟨x, hx⟩ := Nat.dvd_lcm_left p q
  obtain ⟨y, hy⟩ := Nat.dvd_lcm_right p q
  have e1 := h.mul x hi
  have e2 := g.mul y hi
  unfold cw
  rw [show u (i + Nat.lcm p q) = u i by rw [hx, Nat.mul_comm]; exact e1, show v (i + Nat.lcm p q) = v i by rw [hy, Nat.mul_comm]; exact e2]
section
variable {P : Program} {w : World} {K : PySem.W.Frag} {mg : Str → Option Value} {base : Heap} {a : Ad}
theorem ml_no (s l : List Nat) {m : Str} (h1 : (m == ("start" : Str)) = false) (h2 : (m == ("loop" : Str)) = false) : (ml s l).lookup m = none := by
  unfold ml
  rw [List.lookup_cons, h1]
  show (List.lookup m [_]) = none
  rw [List.lookup_cons, h2]
  rfl
theorem signs_S (l : List Nat) : Kit.signs (S l) = l.map fun x => tx [x] := rfl
theorem inV_cs (m : List Nat) (cs : List (List Nat)) : inV (tx m) (cs.map tx) = cs.contains m := by
  unfold inV
  rw [List.any_map]
  induction cs with
  | nil => rfl
  | cons c r ih =>
    rw [List.any_cons, List.contains_cons, ih]
    congr 1
    show (S c == S m) = (m == c)
    by_cases h : m = c
    · subst h
      rw [beq_self_eq_true, beq_self_eq_true]
    · rw [beq_eq_false_iff_ne.mpr h, beq_eq_false_iff_ne.mpr fun e => h (S_inj e).symm]
theorem flat_cs (cs : List (List Nat)) : (cs.map tx).all flatV = true := by
  rw [List.all_map, List.all_eq_true]
  exact fun _ _ => rfl
theorem put_start (s l s2 : List Nat) : putF "start" (tx s2) (ml s l) = ml s2 l := by
  show (if ("start" : Str) = "start" then _ else _) = _
  rw [if_pos rfl]
  rfl
theorem put_loop (s l l2 : List Nat) : putF "loop" (tx l2) (ml s l) = ml s l2 := by
  have e1 : ¬ (("start" : Str) = "loop") := by decide +kernel
  show (if ("start" : Str) = "loop" then _ else _) = _
  rw [if_neg e1]
  rfl
def spComb (a : Ad) : Sp := fun vs H Q _ => ∃ (p p2 t : Addr) (u v : Nat → Nat) (s l s2 l2 : List Nat) (cs : List (List Nat)), vs = [.ref p, .ref p2, .ref t] ∧ MaskAt a H p u s l ∧ MaskAt a H p2 v s2 l2 ∧ H t = some (.tup (cs.map tx)) ∧ cs.length ≤ 4 ∧
  ∀ G q s3 l3, Same H G → MaskAt a G q (cw cs u v) s3 l3 → H q = none → Q (.ref q) G
theorem c_combined (T : Txt K mg a) : Can P w K mg base 5 "_combined" (spComb a) := by
  refine can_of T.d_combined sc_combined bd_combined (fun vs H Q E h => ?_) (fun f cdv A outer s0 H vs Q E hr h => ?_)
  · obtain ⟨p, p2, t, u, v, s, l, s2, l2, cs, rfl, _⟩ := h
    rfl
  · obtain ⟨p, p2, t, u, v, s, l, s2, l2, cs, rfl, m1, m2, ht, hcs, z⟩ := h
    refine ⟨_, (pss_cons (ps_set (i := 3) sc_combined.nd rfl (.inl rfl) (pe_callB (call_max2 (by rfl)) (by rfl) T.b_max (by decide +kernel) (pa_cons (pe_callB call_len_str (by rfl) T.b_len (by decide +kernel) (pa_cons (kfld K (pv 0)) pa_nil)) (pa_cons (pe_callB call_len_str (by rfl) T.b_len (by decide +kernel) (pa_cons (kfld K (pv 1)) pa_nil)) pa_nil))))
      (pss_cons (ps_set (i := 4) sc_combined.nd rfl (.inl rfl) (pe_op op_add (pv 3) (pe_callBfun cr_lcm (by rfl) T.m_lcm (pa_cons (pe_callB call_len_str (by rfl) T.b_len (by decide +kernel) (pa_cons (kfld K (pv 0)) pa_nil)) (pa_cons (pe_callB call_len_str (by rfl) T.b_len (by decide +kernel) (pa_cons (kfld K (pv 1)) pa_nil)) pa_nil)))))
      (pss_cons (ps_setLc (i := 5) (own := [("one", 6), ("other", 7)]) (g := (gTup _ 2 (gCons (gName 6) (gCons (gName 7) gNil)))) (tt := tYes) (by rfl) sc_combined.nd rfl rfl (sw_true rfl rfl rfl (by decide +kernel)) (pi_zipZ (by rfl) T.b_zip (pa_cons (pc_m (c_Mask_marks T) hr (by decide) (pv 0) (pa_cons (pv 4) pa_nil)) (pa_cons (pc_m (c_Mask_marks T) hr (by decide) (pv 1) (pa_cons (pv 4) pa_nil)) pa_nil))) (blkOk_by (N := N_combined) (sc := defScope s_combined) (by decide +kernel)) (fun _ _ _ _ _ => (pg_tup rfl (pgs_cons (pg_name (i := 6) sc_combined.nd rfl (.inl rfl)) (pgs_cons (pg_name (i := 7) sc_combined.nd rfl (.inl rfl)) pgs_nil)))) (fun _ _ _ _ _ => pts_nil) (fun _ _ _ _ _ => (pe_op op_add_str (pv 6) (pv 7))))
      (pss_cons (ps_set (i := 8) sc_combined.nd rfl (.inl rfl) (kjoin K pe_str (pe_lc (own := [("pair", 9)]) (g := gName 9) (tt := tYes) (by rfl) sc_combined.nd (kpi_list K (pv 5)) (blkOk_by (N := N_combined) (sc := defScope s_combined) (by decide +kernel)) (fun _ _ _ _ _ => (pg_name (i := 9) sc_combined.nd rfl (.inl rfl))) (fun _ _ _ _ _ => pts_nil) (fun _ _ _ _ _ => (pe_ifExp (pt_cmpR (kin K) (pv 9) (pv 2) (by rfl)) (C8.pe_gc (by rfl) T.g_OPEN) (C8.pe_gc (by rfl) T.g_CLOSED))))))
      (pss_cons (ps_set (i := 10) sc_combined.nd rfl (.inl rfl) (pc_n (c_Mask_init T) hr (by decide) (by rfl) (pa_cons pe_str (pa_cons (C8.pe_gc (by rfl) T.g_OPEN) pa_nil))))
      (pss_cons (ps_asg (pc_f (c_least_form T) hr (by decide) (by rfl) (pa_cons (pe_slice sl_str (pv 8) po_none (po_some (pv 3))) (pa_cons (pe_slice sl_str (pv 8) (po_some (pv 3)) po_none) pa_nil))) (pg_tup rfl (pgs_cons (pg_name (i := 11) sc_combined.nd rfl (.inl rfl)) (pgs_cons (pg_name (i := 12) sc_combined.nd rfl (.inl rfl)) pgs_nil))))
      (pss_cons (ps_fld (pv 10) (pv 11) rfl)
      (pss_cons (ps_fld (pv 10) (pv 12) rfl)
      (pss_one (ps_ret (pv 10))))))))))), ?_⟩
    obtain ⟨dx, hp⟩ := m1.ob
    obtain ⟨dx2, hp2⟩ := m2.ob
    have s6 := m1.s6
    have s26 := m2.s6
    have sz : ∀ {x : List Nat}, x.length ≤ 1000 → (S x).length ≤ sizeLine := fun h => by rw [S_len]; exact szl (by omega)
    have l6 := m1.le
    have l26 := m2.le
    have l0 := m1.ls.pos
    have l20 := m2.ls.pos
    refine ⟨_, rfl, p, _, dx, _, _, rfl, hp, T.c_Mask.cl, T.n_start, ml_start s l, _, rfl, sz (by omega), _, rfl, p2, _, dx2, _, _, rfl, hp2, T.c_Mask.cl, T.n_start, ml_start s2 l2, _, rfl, sz (by omega), _, _, rfl, ?_⟩
    rw [S_len, S_len]
    obtain ⟨b, hb, b1, b2, b6⟩ : ∃ b : Nat, (if ((s2.length : Nat) : Int) > ((s.length : Nat) : Int) then ((s2.length : Nat) : Int) else ((s.length : Nat) : Int)) = (b : Int) ∧ s.length ≤ b ∧ s2.length ≤ b ∧ b ≤ 6 := by
      by_cases c : ((s2.length : Nat) : Int) > ((s.length : Nat) : Int)
      · exact ⟨s2.length, if_pos c, by omega, by omega, by omega⟩
      · exact ⟨s.length, if_neg c, by omega, by omega, by omega⟩
    rw [hb]
    refine ⟨_, rfl, _, rfl, p, _, dx, _, _, rfl, hp, T.c_Mask.cl, T.n_loop, ml_loop s l, _, rfl, sz (by omega), _, rfl, p2, _, dx2, _, _, rfl, hp2, T.c_Mask.cl, T.n_loop, ml_loop s2 l2, _, rfl, sz (by omega), (S l).length, (S l2).length, rfl, by rw [S_len]; omega, by rw [S_len]; omega, _, _, rfl, rfl, ?_⟩
    rw [S_len, S_len]
    have c60 : Nat.lcm l.length l2.length ∣ 60 := Nat.lcm_dvd m1.l60 m2.l60
    have c0 : 0 < Nat.lcm l.length l2.length := Nat.lcm_pos l0 l20
    have cle : Nat.lcm l.length l2.length ≤ 60 := Nat.le_of_dvd (by decide) c60
    have cp : PF (cw cs u v) b (Nat.lcm l.length l2.length) := cw_per (m1.ls.per.mono b1) (m2.ls.per.mono b2)
    generalize hL : Nat.lcm l.length l2.length = L at *
    show gName 4 (V.int ((b : Int) + (L : Int))) _ _ _
    rw [show (b : Int) + (L : Int) = ((b + L : Nat) : Int) by omega]
    refine ⟨_, rfl, p, dx, _, rfl, hp, ml_no _ _ (by decide +kernel) (by decide +kernel), _, rfl, p, u, s, l, _, rfl, m1, by omega, fun h => absurd h (by omega), fun _ => ?_⟩
    refine ⟨_, rfl, p2, dx2, _, rfl, hp2, ml_no _ _ (by decide +kernel) (by decide +kernel), _, rfl, p2, v, s2, l2, _, rfl, m2, by omega, fun h => absurd h (by omega), fun _ => ?_⟩
    refine ⟨.T (S (pfx u (b + L))), .T (S (pfx v (b + L))), _, _, rfl, rfl, rfl, fun D hD => lc_two (walk_Z (n := b + L) (by rw [signs_S, signs_S, List.length_map, List.length_map, pfx_len, pfx_len, Nat.min_self])) ((List.range (b + L)).map fun i => tx [u i, v i]) (by rw [List.length_map, List.length_range]) (by omega) hD (fun M s1 => ⟨rfl, rfl⟩) (fun _ _ => rfl) ?_ ?_⟩
    · intro k x y M o hk s1 hu hv ho Q' q'
      rw [signs_S, List.getElem?_map, pfx_at hk] at hu hv
      rw [List.getElem?_map, List.getElem?_range hk] at ho
      cases hu
      cases hv
      cases ho
      exact ⟨_, rfl, _, rfl, S [u k], S [v k], rfl, rfl, by show 1 + 1 ≤ sizeLine; decide, q' _ (.refl _)⟩
    · intro M s1 hM
      have ht1 := s1 _ _ ht
      rw [lit_emp, lit_open, lit_closed]
      refine ⟨⟨_, rfl⟩, _, rfl, D, rfl, ⟨_, seqL_of hM⟩, fun D2 hD2 => lc_one (walk_list (xs := (List.range (b + L)).map fun i => tx [u i, v i])) ((pfx (cw cs u v) (b + L)).map fun x => tx [x]) (by rw [List.length_map, List.length_map, pfx_len, List.length_range]) (by rw [List.length_map, List.length_range]; omega) hD2 (fun N s3 => seqL_of (s3 _ _ hM)) ?_ ?_⟩
      · rintro i x N N' o hi s3 ⟨rfl, hx⟩ ho
        rw [List.length_map, List.length_range] at hi
        rw [List.getElem?_map, List.getElem?_range hi] at hx
        rw [List.getElem?_map, pfx_at hi] at ho
        cases hx
        cases ho
        refine ⟨.refl _, fun Q' q' => ⟨_, rfl, _, rfl, t, _, rfl, .inr (seqT_of (s3 _ _ ht1)), rfl, flat_cs cs, _, rfl, ?_⟩⟩
        show (if (inV (tx [u i, v i]) (cs.map tx)) = true then _ else _)
        rw [inV_cs]
        have q9 := q' _ (.refl _)
        unfold cw at q9
        cases e : cs.contains [u i, v i] with
        | true =>
          rw [e, if_pos rfl] at q9
          exact iteT q9
        | false =>
          rw [e, if_neg (by decide)] at q9
          exact iteF q9
      · intro N s3 hN
        have s13 := s1.trans s3
        refine ⟨_, _, (pfx (cw cs u v) (b + L)).map fun y => S [y], rfl, rfl, .inl (seqL_of (by rw [List.map_map]; exact hN)), by rw [sum_ones, S_len, pfx_len, List.length_map, pfx_len]; simp; omega, ?_⟩
        rw [join_ones]
        refine fun y dx9 hy hdx ne9 => ⟨y, dx9, [], [43], rfl, upd_same, by decide, by decide, fun h => absurd h (by decide), fun _ h => absurd h (by decide), fun _ _ _ G s3' l3' kG hG _ _ => ⟨rfl, ?_⟩⟩
        have sNG : Same N G := fun b o hb => kG b o (((ex_new hdx).trans (ex_new (by rw [upd_ne (Ne.symm ne9)]; exact hy))) b o hb) (ne_of_none hb hy)
        have lw := pfx_len (cw cs u v) (b + L)
        have szw : (S (pfx (cw cs u v) (b + L))).length ≤ sizeLine := sz (by omega)
        refine ⟨_, rfl, _, rfl, _, rfl, _, rfl, szw, ?_⟩
        rw [cut_take, pfx_take _ (show b ≤ b + L by omega)]
        refine ⟨_, rfl, _, rfl, _, rfl, _, rfl, szw, ?_⟩
        rw [cut_drop]
        have ld : ((pfx (cw cs u v) (b + L)).drop b).length = L := by rw [List.length_drop, lw]; omega
        refine ⟨_, _, rfl, fun e => by rw [e] at ld; simp at ld; omega, by rw [pfx_len]; omega, by rw [ld]; omega, fun q G4 s4 l4 k4 _ hq LL ls4 => ?_⟩
        have LW := LL.congr (at_cut (show b < b + L by omega) (by rw [show b + L - b = L by omega]; exact cp))
        rw [pfx_len] at ls4
        refine ⟨q, _, rfl, seqT_of hq, rfl, _, _, rfl, _, _, rfl, rfl, ?_⟩
        have hy4 := k4 _ _ hG
        refine ⟨_, rfl, _, rfl, y, _, dx9, _, rfl, hy4, T.c_Mask.cl, T.n_start, by show 2 < 1000; decide, ?_⟩
        rw [put_start]
        refine ⟨_, rfl, _, rfl, y, _, dx9, _, rfl, upd_same, T.c_Mask.cl, T.n_loop, by show 2 < 1000; decide, ?_⟩
        rw [put_loop]
        exact ⟨_, rfl, z _ y s4 l4 (s13.trans (ex_mut (ex_mut (sNG.trans k4) hy) hy)) ⟨⟨dx9, upd_same⟩, LW, by omega, Nat.dvd_trans (LW.dvd cp) c60, cw_m cs u v⟩ (free_same s13 hy)⟩
end
end K17

end
section
set_option Elab.async false
set_option linter.all false
set_option maxRecDepth 100000
set_option maxHeartbeats 4000000
namespace K17
open PySem PySem.Spec PyProof.Rows L2 Kit
theorem one_eq (c d : Nat) : decide (V.str ⟨#[c]⟩ = V.str (S [d])) = decide (c = d) := by
  by_cases h : c = d
  · subst h
    rw [decide_eq_true (p := V.str ⟨#[c]⟩ = V.str (S [c])) rfl, decide_eq_true (p := c = c) rfl]
  · rw [decide_eq_false h, decide_eq_false (p := V.str ⟨#[c]⟩ = V.str (S [d])) fun e => h (List.cons.inj (S_inj (l := [c]) (m := [d]) (V.str.inj e))).1]
theorem one_eq2 (c d : Nat) : decide (tx [c] = V.str (S [d])) = decide (c = d) := one_eq c d
/-- what & | ^ make of two signs -/
def jn (c x y : Nat) : Nat := if (if c = 38 then (x = 43 && y = 43) else if c = 124 then (x = 43 || y = 43) else (decide (x = 43) != decide (y = 43))) = true then 43 else 45
theorem lit_amp : (Str.ofString "&") = S [38] := by decide +kernel
theorem lit_bar : (Str.ofString "|") = S [124] := by decide +kernel
theorem lit_hat : (Str.ofString "^") = S [94] := by decide +kernel
section
variable {P : Program} {w : World} {K : PySem.W.Frag} {mg : Str → Option Value} {base : Heap} {a : Ad}
def spLJoin : Sp := fun vs H Q _ => ∃ (u v : Nat → Nat) (c : Nat), vs = [tx (pfx u 140), tx (pfx v 140), tx [c]] ∧ (c = 38 ∨ c = 124 ∨ c = 94) ∧ Q (tx (pfx (fun i => jn c (u i) (v i)) 140)) H
theorem pfx_succ (u : Nat → Nat) (n : Nat) : pfx u (n + 1) = pfx u n ++ [u n] := by
  unfold pfx
  rw [List.range_succ, List.map_append]
  rfl
theorem c_law_joined (T : Txt K mg a) : Can P w K mg base 1 "_law_joined" spLJoin := by
  refine can_of T.d_law_joined sc_law_joined bd_law_joined (fun vs H Q E h => ?_) (fun f cdv A outer s0 H vs Q E hr h => ?_)
  · obtain ⟨u, v, c, rfl, _⟩ := h
    rfl
  · obtain ⟨u, v, c, rfl, hc, z⟩ := h
    refine ⟨_, (pss_cons (ps_set (i := 3) sc_law_joined.nd rfl (.inl rfl) pe_str)
      (pss_cons (ps_for (passes_of rfl) (by rfl) (pi_range1 (by rfl) T.b_range (pa_cons (pe_callB call_len_str (by rfl) T.b_len (by decide +kernel) (pa_cons (pv 0) pa_nil)) pa_nil)) (pg_name (i := 4) sc_law_joined.nd rfl (.inl rfl)) (pss_cons (ps_set (i := 5) sc_law_joined.nd rfl (.inl rfl) (pe_cmpR op_eq (pe_ix ix_str (pv 0) (pv 4) (fun _ _ => rfl)) pe_str (nomark _)))
      (pss_cons (ps_set (i := 6) sc_law_joined.nd rfl (.inl rfl) (pe_cmpR op_eq (pe_ix ix_str (pv 1) (pv 4) (fun _ _ => rfl)) pe_str (nomark _)))
      (pss_one (ps_if (PW.pt (pw_or (PW.pt (pw_and (pt_cmpR op_eq (pv 2) pe_str (nomark _)) (pw_and (pt_val (pv 5)) (pw_and1 (pt_val (pv 6)))))) (pw_or (PW.pt (pw_and (pt_cmpR op_eq (pv 2) pe_str (nomark _)) (pw_and1 (PW.pt (pw_or (pt_val (pv 5)) (pw_or1 (pt_val (pv 6)))))))) (pw_or1 (PW.pt (pw_and (pt_cmpR op_eq (pv 2) pe_str (nomark _)) (pw_and1 (pt_cmpR op_ne (pv 5) (pv 6) (nomark _))))))))) (pss_one (ps_set (i := 3) sc_law_joined.nd rfl (.inl rfl) (pe_op op_add_str (pv 3) pe_str))) (pss_one (ps_set (i := 3) sc_law_joined.nd rfl (.inl rfl) (pe_op op_add_str (pv 3) pe_str))))))))
      (pss_one (ps_ret (pv 3))))), ?_⟩
    have pl := pfx_len u 140
    have sz : ∀ u, (S (pfx u 140)).length ≤ sizeLine := fun u => by rw [S_len, pfx_len]; decide
    have ix : ∀ u, ∀ j : Nat, j < 140 → atI (S (pfx u 140)).cps.toList ((j : Nat) : Int) = some (u j) := fun u j hj => atI_nat (pfx_at hj)
    have en : ((S (pfx u 140)).length : Int) = 140 := by rw [S_len, pl]; rfl
    refine ⟨_, rfl, _, rfl, sz u, ?_⟩
    rw [en]
    refine ⟨140, rfl, by omega, by omega, for_it (walk_range (lo := 0) (n := (140 : Int).toNat)) (fun k σ G => G = H ∧ ∃ x y z : Option V, σ = [some (tx (pfx u 140)), some (tx (pfx v 140)), some (tx [c]), some (tx (pfx (fun i => jn c (u i) (v i)) k)), x, y, z]) ⟨rfl, none, none, none, ?_⟩ (fun _ _ _ _ _ => True.intro) ?_ ?_⟩
    · rw [lit_emp]
      rfl
    · rintro k x σ G M hk ⟨rfl, v1, v2, v3, rfl⟩ ⟨rfl, rfl⟩
      have hk : k < 140 := hk
      have z0 : (0 : Int) + ((k : Nat) : Int) = ((k : Nat) : Int) := by omega
      show gName 4 (V.int (0 + ((k : Nat) : Int))) _ _ _
      rw [z0]
      refine ⟨_, rfl, _, rfl, _, _, u k, rfl, rfl, sz u, ix u k hk, rfl, _, rfl, _, rfl, _, _, v k, rfl, rfl, sz v, ix v k hk, rfl, ?_⟩
      rw [lit_open, one_eq, one_eq, lit_amp, lit_bar, lit_hat, lit_closed]
      have ps := pfx_succ (fun i => jn c (u i) (v i)) k
      have lk := pfx_len (fun i => jn c (u i) (v i)) k
      have szk : ∀ y : Nat, (S (pfx (fun i => jn c (u i) (v i)) k)).length + (S [y]).length ≤ sizeLine := fun y => by rw [S_len, S_len, lk]; exact szl (by show k + 1 ≤ _; omega)
      have fin : ∀ (y : Nat), jn c (u k) (v k) = y → tx (pfx (fun i => jn c (u i) (v i)) (k + 1)) = V.str (S (pfx (fun i => jn c (u i) (v i)) k) ++ S [y]) := fun y e => by rw [ps, S_app, e]
      have J : jn c (u k) (v k) = if (if c = 38 then (decide (u k = 43) && decide (v k = 43)) else if c = 124 then (decide (u k = 43) || decide (v k = 43)) else (decide (u k = 43) != decide (v k = 43))) = true then 43 else 45 := rfl
      generalize hb1 : decide (u k = 43) = b1 at J ⊢
      generalize hb2 : decide (v k = 43) = b2 at J ⊢
      rcases hc with rfl | rfl | rfl <;> cases b1 <;> cases b2 <;>
        (repeat (first | refine iteT ?_ | refine iteF ?_ | refine ⟨_, rfl, ?_⟩ | refine ⟨rfl, ?_⟩ | rw [one_eq2])) <;>
        first | exact ⟨_, _, rfl, rfl, szk 43, rfl, _, _, _, by rw [fin 43 J]; rfl⟩ | exact ⟨_, _, rfl, rfl, szk 45, rfl, _, _, _, by rw [fin 45 J]; rfl⟩
    · rintro σ G ⟨rfl, v1, v2, v3, rfl⟩
      exact ⟨_, rfl, z⟩
end
end K17

end
section
set_option Elab.async false
set_option linter.all false
set_option maxRecDepth 100000
set_option maxHeartbeats 4000000
namespace K17
open PySem PySem.Spec PyProof.Rows L2 Kit
section
variable {P : Program} {w : World} {K : PySem.W.Frag} {mg : Str → Option Value} {base : Heap} {a : Ad}
theorem lit_pp : (Str.ofString "++") = S [43, 43] := by decide +kernel
theorem lit_pm : (Str.ofString "+-") = S [43, 45] := by decide +kernel
theorem lit_mp : (Str.ofString "-+") = S [45, 43] := by decide +kernel
theorem lit_mm : (Str.ofString "--") = S [45, 45] := by decide +kernel
theorem cw_congr {cs ds : List (List Nat)} {u v : Nat → Nat} (h : ∀ i, cs.contains [u i, v i] = ds.contains [u i, v i]) : cw cs u v = cw ds u v := funext fun i => by unfold cw; rw [h]
/-- & | ^ of the class -/
theorem m_cases {x : Nat} (h : isM x = true) : x = 43 ∨ x = 45 := by
  unfold isM at h
  rw [Bool.or_eq_true, decide_eq_true_iff, decide_eq_true_iff] at h
  exact h
def spMOp (a : Ad) (c : Nat) : Sp := fun vs H Q _ => ∃ (p p2 : Addr) (u v : Nat → Nat) (s l s2 l2 : List Nat), vs = [.ref p, .ref p2] ∧ MaskAt a H p u s l ∧ MaskAt a H p2 v s2 l2 ∧
  ∀ G q s3 l3, Same H G → MaskAt a G q (fun i => jn c (u i) (v i)) s3 l3 → H q = none → Q (.ref q) G
theorem jn_cw {c : Nat} {cs : List (List Nat)} {u v : Nat → Nat} (hu : ∀ i, isM (u i) = true) (hv : ∀ i, isM (v i) = true)
    (h : ∀ x y, (x = 43 ∨ x = 45) → (y = 43 ∨ y = 45) → (if cs.contains [x, y] = true then 43 else 45) = jn c x y) : cw cs u v = fun i => jn c (u i) (v i) := funext fun i => h _ _ (m_cases (hu i)) (m_cases (hv i))
theorem c_Mask_and (T : Txt K mg a) : CanM P w K mg base 7 a.Mask "__and__" (spMOp a 38) := by
  refine canM_of T.c_Mask.cl T.m_Mask___and__ sc_Mask___and__ bd_Mask___and__ (fun vs H Q E h => ?_) (fun f cdv A outer s0 H vs Q E hr h => ?_)
  · obtain ⟨p, p2, u, v, s, l, s2, l2, rfl, _⟩ := h
    rfl
  · obtain ⟨p, p2, u, v, s, l, s2, l2, rfl, m1, m2, z⟩ := h
    refine ⟨_, (pss_one (ps_ret (pc_f (c_combined T) hr (by decide) (by rfl) (pa_cons (pv 0) (pa_cons (pv 1) (pa_cons (pe_tup (pa_cons pe_str pa_nil)) pa_nil)))))), ?_⟩
    rw [lit_pp]
    refine ⟨_, rfl, _, rfl, by show 1 ≤ sizeLine; decide, fun t ht => ?_⟩
    have k0 := ex_new (o := .tup [tx [43, 43]]) ht
    refine ⟨p, p2, t, u, v, s, l, s2, l2, [[43, 43]], rfl, m1.mono k0, m2.mono k0, upd_same, by decide, fun G q s3 l3 k1 m3 hq => ?_⟩
    rw [jn_cw (c := 38) m1.sg m2.sg (by rintro x y (rfl | rfl) (rfl | rfl) <;> decide)] at m3
    exact z G q s3 l3 (k0.trans k1) m3 (free_same k0 hq)
theorem c_Mask_or (T : Txt K mg a) : CanM P w K mg base 7 a.Mask "__or__" (spMOp a 124) := by
  refine canM_of T.c_Mask.cl T.m_Mask___or__ sc_Mask___or__ bd_Mask___or__ (fun vs H Q E h => ?_) (fun f cdv A outer s0 H vs Q E hr h => ?_)
  · obtain ⟨p, p2, u, v, s, l, s2, l2, rfl, _⟩ := h
    rfl
  · obtain ⟨p, p2, u, v, s, l, s2, l2, rfl, m1, m2, z⟩ := h
    refine ⟨_, (pss_one (ps_ret (pc_f (c_combined T) hr (by decide) (by rfl) (pa_cons (pv 0) (pa_cons (pv 1) (pa_cons (pe_tup (pa_cons pe_str (pa_cons pe_str (pa_cons pe_str pa_nil)))) pa_nil)))))), ?_⟩
    rw [lit_pp, lit_pm, lit_mp]
    refine ⟨_, rfl, _, rfl, by show 3 ≤ sizeLine; decide, fun t ht => ?_⟩
    have k0 := ex_new (o := .tup [tx [43, 43], tx [43, 45], tx [45, 43]]) ht
    refine ⟨p, p2, t, u, v, s, l, s2, l2, [[43, 43], [43, 45], [45, 43]], rfl, m1.mono k0, m2.mono k0, upd_same, by decide, fun G q s3 l3 k1 m3 hq => ?_⟩
    rw [jn_cw (c := 124) m1.sg m2.sg (by rintro x y (rfl | rfl) (rfl | rfl) <;> decide)] at m3
    exact z G q s3 l3 (k0.trans k1) m3 (free_same k0 hq)
theorem c_Mask_xor (T : Txt K mg a) : CanM P w K mg base 7 a.Mask "__xor__" (spMOp a 94) := by
  refine canM_of T.c_Mask.cl T.m_Mask___xor__ sc_Mask___xor__ bd_Mask___xor__ (fun vs H Q E h => ?_) (fun f cdv A outer s0 H vs Q E hr h => ?_)
  · obtain ⟨p, p2, u, v, s, l, s2, l2, rfl, _⟩ := h
    rfl
  · obtain ⟨p, p2, u, v, s, l, s2, l2, rfl, m1, m2, z⟩ := h
    refine ⟨_, (pss_one (ps_ret (pc_f (c_combined T) hr (by decide) (by rfl) (pa_cons (pv 0) (pa_cons (pv 1) (pa_cons (pe_tup (pa_cons pe_str (pa_cons pe_str pa_nil))) pa_nil)))))), ?_⟩
    rw [lit_pm, lit_mp]
    refine ⟨_, rfl, _, rfl, by show 2 ≤ sizeLine; decide, fun t ht => ?_⟩
    have k0 := ex_new (o := .tup [tx [43, 45], tx [45, 43]]) ht
    refine ⟨p, p2, t, u, v, s, l, s2, l2, [[43, 45], [45, 43]], rfl, m1.mono k0, m2.mono k0, upd_same, by decide, fun G q s3 l3 k1 m3 hq => ?_⟩
    rw [jn_cw (c := 94) m1.sg m2.sg (by rintro x y (rfl | rfl) (rfl | rfl) <;> decide)] at m3
    exact z G q s3 l3 (k0.trans k1) m3 (free_same k0 hq)
/-- ~ : as ^ with the word of nothing but + -/
def spMInv (a : Ad) : Sp := fun vs H Q _ => ∃ (p : Addr) (u : Nat → Nat) (s l : List Nat), vs = [.ref p] ∧ MaskAt a H p u s l ∧
  ∀ G q s3 l3, Same H G → MaskAt a G q (fun i => jn 94 (u i) 43) s3 l3 → H q = none → Q (.ref q) G
theorem c_Mask_invert (T : Txt K mg a) : CanM P w K mg base 7 a.Mask "__invert__" (spMInv a) := by
  refine canM_of T.c_Mask.cl T.m_Mask___invert__ sc_Mask___invert__ bd_Mask___invert__ (fun vs H Q E h => ?_) (fun f cdv A outer s0 H vs Q E hr h => ?_)
  · obtain ⟨p, u, s, l, rfl, _⟩ := h
    rfl
  · obtain ⟨p, u, s, l, rfl, m1, z⟩ := h
    refine ⟨_, (pss_one (ps_ret (pc_f (c_combined T) hr (by decide) (by rfl) (pa_cons (pv 0) (pa_cons (pv 0) (pa_cons (pe_tup (pa_cons pe_str pa_nil)) pa_nil)))))), ?_⟩
    rw [lit_mm]
    refine ⟨_, rfl, _, rfl, by show 1 ≤ sizeLine; decide, fun t ht => ?_⟩
    have k0 := ex_new (o := .tup [tx [45, 45]]) ht
    refine ⟨p, p, t, u, u, s, l, s, l, [[45, 45]], rfl, m1.mono k0, m1.mono k0, upd_same, by decide, fun G q s3 l3 k1 m3 hq => ?_⟩
    have e : cw [[45, 45]] u u = fun i => jn 94 (u i) 43 := funext fun i => by
      unfold cw
      rcases m_cases (m1.sg i) with e | e <;> rw [e] <;> decide
    rw [e] at m3
    exact z G q s3 l3 (k0.trans k1) m3 (free_same k0 hq)
end
end K17

end
section
set_option Elab.async false
set_option linter.all false
set_option maxRecDepth 100000
set_option maxHeartbeats 4000000
namespace K17
open PySem PySem.Spec PyProof.Rows L2 Kit
section
variable {P : Program} {w : World} {K : PySem.W.Frag} {mg : Str → Option Value} {base : Heap} {a : Ad}
def spMEq (a : Ad) : Sp := fun vs H Q _ => ∃ (p : Addr) (u : Nat → Nat) (s l : List Nat) (y : V), vs = [.ref p, y] ∧ MaskAt a H p u s l ∧
  ((∃ t : Str, y = .str t ∧ Q (.bl false) H) ∨ ∃ q v s2 l2, y = .ref q ∧ MaskAt a H q v s2 l2 ∧ Q (.bl (decide (s = s2) && decide (l = l2))) H)
theorem tx_eq (s s2 : List Nat) : decide (tx s = tx s2) = decide (s = s2) := by
  by_cases h : s = s2
  · subst h
    rw [decide_eq_true (p := tx s = tx s) rfl, decide_eq_true (p := s = s) rfl]
  · rw [decide_eq_false h, decide_eq_false (p := tx s = tx s2) fun e => h (S_inj (V.str.inj e))]
theorem c_Mask_eq (T : Txt K mg a) : CanM P w K mg base 1 a.Mask "__eq__" (spMEq a) := by
  refine canM_of T.c_Mask.cl T.m_Mask___eq__ sc_Mask___eq__ bd_Mask___eq__ (fun vs H Q E h => ?_) (fun f cdv A outer s0 H vs Q E hr h => ?_)
  · obtain ⟨p, u, s, l, y, rfl, _⟩ := h
    rfl
  · obtain ⟨p, u, s, l, y, rfl, m1, z⟩ := h
    refine ⟨_, (pss_one (ps_ret (pe_and (pe_callB (kisi K) (by rfl) T.b_isinstance (by decide +kernel) (pa_cons (pv 1) (pa_cons (pe_glob (v := .ref a.Mask) (by rfl) T.c_Mask.gC rfl) pa_nil))) (pe_and (pe_cmpR op_eq (kfld K (pv 0)) (kfld K (pv 1)) (nomark _)) (pe_one (pe_cmpR op_eq (kfld K (pv 0)) (kfld K (pv 1)) (nomark _))))))), ?_⟩
    obtain ⟨dx, hp⟩ := m1.ob
    rcases z with ⟨t, rfl, z⟩ | ⟨q, v, s2, l2, rfl, m2, z⟩
    · exact ⟨_, rfl, _, _, _, _, false, rfl, .own _, .base (.str t), T.i_str, _, rfl, iteF z⟩
    · obtain ⟨dy, hq⟩ := m2.ob
      refine ⟨_, rfl, _, _, _, _, true, rfl, .own _, .base (.ins hq T.c_Mask.cl T.i_ha T.i_hn T.i_ht T.i_hm), T.i_own, _, rfl, iteT ?_⟩
      refine ⟨_, rfl, p, _, dx, _, _, rfl, hp, T.c_Mask.cl, T.n_start, ml_start s l, _, rfl, q, _, dy, _, _, rfl, hq, T.c_Mask.cl, T.n_start, ml_start s2 l2, rfl, _, rfl, ?_⟩
      rw [tx_eq]
      cases e : decide (s = s2) with
      | false =>
        rw [e, Bool.false_and] at z
        exact iteF z
      | true =>
        rw [e, Bool.true_and] at z
        refine iteT ⟨_, rfl, p, _, dx, _, _, rfl, hp, T.c_Mask.cl, T.n_loop, ml_loop s l, _, rfl, q, _, dy, _, _, rfl, hq, T.c_Mask.cl, T.n_loop, ml_loop s2 l2, rfl, ?_⟩
        show Q (.bl (decide (tx l = tx l2))) H
        rw [tx_eq]
        exact z
/-- str -/
def spMStr (a : Ad) : Sp := fun vs H Q _ => ∃ (p : Addr) (u : Nat → Nat) (s l : List Nat), vs = [.ref p] ∧ MaskAt a H p u s l ∧ Q (tx (s ++ [40] ++ l ++ [41])) H
theorem c_Mask_str (T : Txt K mg a) : CanM P w K mg base 1 a.Mask "__str__" (spMStr a) := by
  refine canM_of T.c_Mask.cl T.m_Mask___str__ sc_Mask___str__ bd_Mask___str__ (fun vs H Q E h => ?_) (fun f cdv A outer s0 H vs Q E hr h => ?_)
  · obtain ⟨p, u, s, l, rfl, _⟩ := h
    rfl
  · obtain ⟨p, u, s, l, rfl, m1, z⟩ := h
    refine ⟨_, (pss_one (ps_ret (pe_joined (PJ.cons (pe_fmt (kfld K (pv 0))) (PJ.cons pe_str (PJ.cons (pe_fmt (kfld K (pv 0))) (PJ.cons pe_str PJ.nil))))))), ?_⟩
    obtain ⟨dx, hp⟩ := m1.ob
    have s6 := m1.s6
    have l6 := m1.le
    rw [show Str.ofString "(" = S [40] by decide +kernel, show Str.ofString ")" = S [41] by decide +kernel]
    have sz : ∀ {x : List Nat}, x.length ≤ 1000 → (S x).length ≤ sizeLine := fun h => by rw [S_len]; exact szl (by omega)
    have e0 : Str.empty ++ S s = S s := S_app [] s
    have e1 : Str.empty ++ S s ++ S [40] = S (s ++ [40]) := by rw [e0, S_app]
    have e2 : Str.empty ++ S s ++ S [40] ++ S l = S (s ++ [40] ++ l) := by rw [e1, S_app]
    have e3 : Str.empty ++ S s ++ S [40] ++ S l ++ S [41] = S (s ++ [40] ++ l ++ [41]) := by rw [e2, S_app]
    have n1 : (s ++ [40]).length = s.length + 1 := List.length_append
    have n2 : (s ++ [40] ++ l).length = s.length + 1 + l.length := by rw [List.length_append, n1]
    have n3 : (s ++ [40] ++ l ++ [41]).length = s.length + 1 + l.length + 1 := by rw [List.length_append, n2]; rfl
    refine ⟨_, rfl, p, _, dx, _, _, rfl, hp, T.c_Mask.cl, T.n_start, ml_start s l, .inl ⟨_, rfl, sz (by omega), _, rfl, by rw [e0]; exact sz (by omega), _, rfl, by rw [e1]; exact sz (by omega), _, rfl, p, _, dx, _, _, rfl, hp, T.c_Mask.cl, T.n_loop, ml_loop s l, .inl ⟨_, rfl, sz (by omega), _, rfl, by rw [e2]; exact sz (by omega), _, rfl, by rw [e3]; exact sz (by omega), ?_⟩⟩⟩
    show Q (V.str (Str.empty ++ S s ++ S [40] ++ S l ++ S [41])) H
    rw [e3]
    exact z
/-- the mask that is always on, never on -/
def spMEv (a : Ad) (c : Nat) : Sp := fun vs H Q _ => vs = [.ref a.Mask] ∧ ∀ G q s l, Same H G → MaskAt a G q (fun _ => c) s l → H q = none → Q (.ref q) G
theorem at_one (c i : Nat) : at_ [] [c] i = c := by
  rw [at_ge (Nat.zero_le _)]
  show [c].getD ((i - 0) % 1) 0 = c
  rw [Nat.mod_one]
  rfl
theorem made1 {c : Nat} (hc : isM c = true) {H G : Hp} {y dx : Addr} {s l : List Nat} (hy : H y = none) (hdx : H dx = none) (ne : dx ≠ y) (k : ∀ b o, upd (upd H dx (.own y)) y (.ins a.Mask dx []) b = some o → b ≠ y → G b = some o) (g : G y = some (.ins a.Mask dx (ml s l))) (L : Lst (at_ [] [c]) s l) (ls : s.length ≤ 0) :
    Same H G ∧ MaskAt a G y (fun _ => c) s l := by
  refine ⟨fun b o hb => k b o (((ex_new hdx).trans (ex_new (by rw [upd_ne (Ne.symm ne)]; exact hy))) b o hb) (ne_of_none hb hy), ⟨dx, g⟩, L.congr (at_one c), by omega, ?_, fun _ => hc⟩
  exact Nat.dvd_trans (L.dvd (t := 0) (q := 1) fun i _ => by rw [at_one, at_one]) (by decide)
theorem c_Mask_every (T : Txt K mg a) : CanC P w K mg base 5 a.Mask "every" (spMEv a 43) := by
  refine canC_of T.m_Mask_every sc_Mask_every bd_Mask_every (fun vs H Q E h => ?_) (fun f cdv A outer s0 H vs Q E hr h => ?_)
  · obtain ⟨rfl, _⟩ := h
    rfl
  · obtain ⟨rfl, z⟩ := h
    refine ⟨_, (pss_one (ps_ret (pc_nV (i := 0) (c_Mask_init T) (takes_of rfl rfl rfl rfl) hr (by decide) (by rfl) (.inl rfl) (pa_cons pe_str (pa_cons (C8.pe_gc (by rfl) T.g_OPEN) pa_nil))))), ?_⟩
    rw [lit_emp, lit_open]
    refine ⟨rfl, fun y dx hy hdx hne => ⟨y, dx, [], [43], rfl, upd_same, by decide, by decide, fun h => absurd h (by decide), fun _ h => absurd h (by decide), fun _ _ _ G s l k g L ls => ⟨rfl, ?_⟩⟩⟩
    obtain ⟨sm, ma⟩ := made1 (a := a) (c := 43) (by decide) hy hdx hne k g L ls
    exact z G y s l sm ma hy
theorem c_Mask_none (T : Txt K mg a) : CanC P w K mg base 5 a.Mask "none" (spMEv a 45) := by
  refine canC_of T.m_Mask_none sc_Mask_none bd_Mask_none (fun vs H Q E h => ?_) (fun f cdv A outer s0 H vs Q E hr h => ?_)
  · obtain ⟨rfl, _⟩ := h
    rfl
  · obtain ⟨rfl, z⟩ := h
    refine ⟨_, (pss_one (ps_ret (pc_nV (i := 0) (c_Mask_init T) (takes_of rfl rfl rfl rfl) hr (by decide) (by rfl) (.inl rfl) (pa_cons pe_str (pa_cons (C8.pe_gc (by rfl) T.g_CLOSED) pa_nil))))), ?_⟩
    rw [lit_emp, lit_closed]
    refine ⟨rfl, fun y dx hy hdx hne => ⟨y, dx, [], [45], rfl, upd_same, by decide, by decide, fun h => absurd h (by decide), fun _ h => absurd h (by decide), fun _ _ _ G s l k g L ls => ⟨rfl, ?_⟩⟩⟩
    obtain ⟨sm, ma⟩ := made1 (a := a) (c := 45) (by decide) hy hdx hne k g L ls
    exact z G y s l sm ma hy
end
end K17

end
section
set_option Elab.async false
set_option linter.all false
set_option maxRecDepth 100000
set_option maxHeartbeats 4000000
namespace K17
open PySem PySem.Spec PyProof.Rows L2 Kit
section
variable {P : Program} {w : World} {K : PySem.W.Frag} {mg : Str → Option Value} {base : Heap} {a : Ad}
def spLComb (a : Ad) : Sp := fun vs H Q _ => ∃ (p p2 : Addr) (u v : Nat → Nat) (s l s2 l2 : List Nat) (c : Nat), vs = [.ref p, .ref p2, tx [c]] ∧ (c = 38 ∨ c = 124 ∨ c = 94) ∧ MaskAt a H p u s l ∧ MaskAt a H p2 v s2 l2 ∧
  ∀ G q s3 l3, Same H G → MaskAt a G q (fun i => jn c (u i) (v i)) s3 l3 → H q = none → Q (.ref q) G
theorem c_law_combined (T : Txt K mg a) : Can P w K mg base 9 "_law_combined" (spLComb a) := by
  refine can_of T.d_law_combined sc_law_combined bd_law_combined (fun vs H Q E h => ?_) (fun f cdv A outer s0 H vs Q E hr h => ?_)
  · obtain ⟨p, p2, u, v, s, l, s2, l2, c, rfl, _⟩ := h
    rfl
  · obtain ⟨p, p2, u, v, s, l, s2, l2, c, rfl, hc, m1, m2, z⟩ := h
    refine ⟨_, (pss_cons (ps_if (pt_cmpR op_eq (pv 2) pe_str (nomark _)) (pss_one (ps_ret (pe_op (opO (c_Mask_and T) hr (by decide) T.i_sf) (pv 0) (pv 1)))) pss_nil)
      (pss_cons (ps_if (pt_cmpR op_eq (pv 2) pe_str (nomark _)) (pss_one (ps_ret (pe_op (opO (c_Mask_or T) hr (by decide) T.i_sf) (pv 0) (pv 1)))) pss_nil)
      (pss_one (ps_ret (pe_op (opO (c_Mask_xor T) hr (by decide) T.i_sf) (pv 0) (pv 1)))))), ?_⟩
    obtain ⟨dx, hp⟩ := m1.ob
    obtain ⟨dy, hq⟩ := m2.ob
    rw [lit_amp, lit_bar]
    refine ⟨_, rfl, rfl, _, rfl, ?_⟩
    rw [tx_eq]
    rcases hc with rfl | rfl | rfl
    · exact iteT ⟨_, rfl, _, rfl, p, dx, _, p2, dy, _, rfl, hp, rfl, hq, p, p2, u, v, s, l, s2, l2, rfl, m1, m2, fun G q s3 l3 k m hn => ⟨⟨q, rfl⟩, z G q s3 l3 k m hn⟩⟩
    · refine iteF ⟨_, rfl, rfl, _, rfl, ?_⟩
      rw [tx_eq]
      exact iteT ⟨_, rfl, _, rfl, p, dx, _, p2, dy, _, rfl, hp, rfl, hq, p, p2, u, v, s, l, s2, l2, rfl, m1, m2, fun G q s3 l3 k m hn => ⟨⟨q, rfl⟩, z G q s3 l3 k m hn⟩⟩
    · refine iteF ⟨_, rfl, rfl, _, rfl, ?_⟩
      rw [tx_eq]
      exact iteF ⟨_, rfl, _, rfl, p, dx, _, p2, dy, _, rfl, hp, rfl, hq, p, p2, u, v, s, l, s2, l2, rfl, m1, m2, fun G q s3 l3 k m hn => ⟨⟨q, rfl⟩, z G q s3 l3 k m hn⟩⟩
end
end K17

end
section
set_option Elab.async false
set_option linter.all false
set_option maxRecDepth 100000
set_option maxHeartbeats 4000000
namespace K17
open PySem PySem.Spec PyProof.Rows L2 Kit
theorem at1 (x : List Nat) (c i : Nat) : StrLaws.At (S x) (S [c]) (S x).length i ↔ x[i]? = some c := by
  rw [TL.at_iff (show [c] ≠ [] from nofun)]
  show ((x.drop i).take 1 == [c]) = true ↔ _
  rw [beq_iff_eq]
  constructor
  · intro h
    have e : ((x.drop i).take 1)[0]? = some c := by rw [h]; rfl
    rw [List.getElem?_take_of_lt (by omega), List.getElem?_drop, Nat.add_zero] at e
    exact e
  · intro h
    refine List.ext_getElem? fun j => ?_
    by_cases z : j = 0
    · subst z
      rw [List.getElem?_take_of_lt (by omega), List.getElem?_drop, Nat.add_zero, h]
      rfl
    · rw [List.getElem?_eq_none (by rw [List.length_take]; omega), List.getElem?_eq_none (by show 1 ≤ j; omega)]
theorem find1 (x : List Nat) (c : Nat) : (Txt.find (S x) (S [c]) = -1 ∧ ∀ i : Nat, x[i]? ≠ some c) ∨ ∃ n : Nat, Txt.find (S x) (S [c]) = (n : Int) ∧ x[n]? = some c ∧ ∀ k < n, x[k]? ≠ some c := by
  rw [find_is_find3]
  rcases find_from (S x) (S [c]) 0 (Nat.zero_le _) with ⟨h, g⟩ | ⟨n, h, _, h2, h3⟩
  · exact .inl ⟨h, fun i e => g i (Nat.zero_le _) ((at1 x c i).mpr e)⟩
  · exact .inr ⟨n, h, (at1 x c n).mp h2, fun k hk e => h3 k (Nat.zero_le _) hk ((at1 x c k).mpr e)⟩
theorem both_pfx {d : Nat → Nat} {s l : List Nat} (L : Lst d s l) : s ++ l = pfx d (s.length + l.length) := by
  have e := rep_pfx (s := s) (l := l) (k := 1) (n := s.length + l.length) (by omega)
  rw [List.replicate_one, List.flatten_cons, List.flatten_nil, List.append_nil, List.take_of_length_le (by rw [List.length_append]; omega)] at e
  rw [e]
  exact pfx_eq fun i _ => L.wd i
theorem low_at {d : Nat → Nat} {s l : List Nat} (L : Lst d s l) (i : Nat) : ∃ j < s.length + l.length, d i = d j := by
  have l0 := L.pos
  by_cases c : i < s.length
  · exact ⟨i, by omega, rfl⟩
  · have lt := Nat.mod_lt (i - s.length) l0
    refine ⟨s.length + (i - s.length) % l.length, by omega, ?_⟩
    rw [← L.wd, ← L.wd, at_ge (by omega), at_ge (by omega), show s.length + (i - s.length) % l.length - s.length = (i - s.length) % l.length by omega, Nat.mod_mod]
theorem jn_hat {x y : Nat} (hx : isM x = true) (hy : isM y = true) : jn 94 x y = 43 ↔ (x != y) = true := by
  rcases m_cases hx with rfl | rfl <;> rcases m_cases hy with rfl | rfl <;> decide
section
variable {P : Program} {w : World} {K : PySem.W.Frag} {mg : Str → Option Value} {base : Heap} {a : Ad}
def spApart (a : Ad) : Sp := fun vs H Q _ => ∃ (p p2 : Addr) (u v : Nat → Nat) (s l s2 l2 : List Nat), vs = [.ref p, .ref p2] ∧ MaskAt a H p u s l ∧ MaskAt a H p2 v s2 l2 ∧ ∀ G, Same H G → Q (apartV u v) G
theorem c_masks_apart (T : Txt K mg a) : Can P w K mg base 9 "masks_apart" (spApart a) := by
  refine can_of T.d_masks_apart sc_masks_apart bd_masks_apart (fun vs H Q E h => ?_) (fun f cdv A outer s0 H vs Q E hr h => ?_)
  · obtain ⟨p, p2, u, v, s, l, s2, l2, rfl, _⟩ := h
    rfl
  · obtain ⟨p, p2, u, v, s, l, s2, l2, rfl, m1, m2, z⟩ := h
    refine ⟨_, (pss_cons (ps_set (i := 2) sc_masks_apart.nd rfl (.inl rfl) (pe_op (opO (c_Mask_xor T) hr (by decide) T.i_sf) (pv 0) (pv 1)))
      (pss_cons (ps_set (i := 3) sc_masks_apart.nd rfl (.inl rfl) (pe_m1 PySem.F.slot_str_find PySem.F.type_str_find mt_find (pe_op op_add_str (kfld K (pv 2)) (kfld K (pv 2))) (C8.pe_gc (by rfl) T.g_OPEN)))
      (pss_one (ps_ret (pe_ifExp (pt_cmpR op_ge (pv 3) pe_int (nomark _)) (pv 3) pe_non))))), ?_⟩
    obtain ⟨dx, hp⟩ := m1.ob
    obtain ⟨dy, hq⟩ := m2.ob
    rw [lit_open]
    refine ⟨_, rfl, _, rfl, p, dx, _, p2, dy, _, rfl, hp, rfl, hq, p, p2, u, v, s, l, s2, l2, rfl, m1, m2, fun G q s3 l3 k m hn => ⟨⟨q, rfl⟩, ?_⟩⟩
    obtain ⟨dz, hz⟩ := m.ob
    have s36 := m.s6
    have l36 := m.le
    refine ⟨_, rfl, q, _, dz, _, _, rfl, hz, T.c_Mask.cl, T.n_start, ml_start s3 l3, _, rfl, q, _, dz, _, _, rfl, hz, T.c_Mask.cl, T.n_loop, ml_loop s3 l3, _, _, rfl, rfl, by rw [S_len, S_len]; exact szl (by omega), ?_⟩
    rw [S_app, both_pfx m.ls]
    refine ⟨⟨_, rfl⟩, _, _, rfl, rfl, ?_⟩
    generalize hN : s3.length + l3.length = N
    have low := low_at m.ls
    rw [hN] at low
    have bad : ∀ i, (u i != v i) = true ↔ jn 94 (u i) (v i) = 43 := fun i => (jn_hat (m1.sg i) (m2.sg i)).symm
    rcases find1 (pfx (fun i => jn 94 (u i) (v i)) N) 43 with ⟨e, g⟩ | ⟨n, e, h, g⟩
    · rw [e]
      refine ⟨_, rfl, _, _, rfl, rfl, _, rfl, ?_⟩
      rw [show decide ((0 : Int) ≤ -1) = false by decide]
      refine iteF ?_
      have e2 : apartV u v = .non := by
        unfold apartV
        rw [find_no fun i _ => ?_]
        cases e9 : (u i != v i) with
        | false => rfl
        | true =>
          obtain ⟨j, hj, ej⟩ := low i
          have e8 := (bad i).mp e9
          rw [show jn 94 (u i) (v i) = jn 94 (u j) (v j) from ej] at e8
          exact absurd ((pfx_at hj).trans (congrArg some e8)) (g j)
      have z := z G k
      rw [e2] at z
      exact z
    · rw [e]
      have hn9 : n < N := by
        have := (List.getElem?_eq_some_iff.mp h).1
        rw [pfx_len] at this
        exact this
      rw [pfx_at hn9] at h
      refine ⟨_, rfl, _, _, rfl, rfl, _, rfl, ?_⟩
      rw [show decide ((0 : Int) ≤ ((n : Nat) : Int)) = true from decide_eq_true (by omega)]
      refine iteT ⟨_, rfl, ?_⟩
      have e2 : apartV u v = .int ((n : Nat) : Int) := by
        unfold apartV
        rw [find_range (show n < 140 by omega) (fun i hi => ?_) ((bad n).mpr (Option.some.inj h))]
        cases e9 : (u i != v i) with
        | false => rfl
        | true => exact absurd ((pfx_at (show i < N by omega)).trans (congrArg some ((bad i).mp e9))) (g i hi)
      have z := z G k
      rw [e2] at z
      exact z
end
end K17

end
section
set_option Elab.async false
set_option linter.all false
set_option maxRecDepth 100000
set_option maxHeartbeats 4000000
namespace K17
open PySem PySem.Spec PyProof.Rows L2 Kit
section
variable {P : Program} {w : World} {K : PySem.W.Frag} {mg : Str → Option Value} {base : Heap} {a : Ad}
def spMGet (a : Ad) : Sp := fun vs H Q E => ∃ (p : Addr) (u : Nat → Nat) (s l : List Nat) (n : Int), vs = [.ref p, .int n] ∧ MaskAt a H p u s l ∧ (n < 0 → Ra E a.BadIndex "at" (.int n) H) ∧ (0 ≤ n → Q (.bl (decide (u n.toNat = 43))) H)
theorem c_Mask_getitem (T : Txt K mg a) : CanF P w K mg base 3 a.Mask "__getitem__" (spMGet a) := by
  refine canF_of T.c_Mask.cl T.m_Mask___getitem__ sc_Mask___getitem__ bd_Mask___getitem__ (fun vs H Q E h => ?_) (fun f cdv A outer s0 H vs Q E hr h => ?_)
  · obtain ⟨p, u, s, l, n, rfl, _⟩ := h
    rfl
  · obtain ⟨p, u, s, l, n, rfl, m1, y, z⟩ := h
    refine ⟨_, (pss_cons (ps_if (pt_cmpR op_lt (pv 1) pe_int (nomark _)) (pss_one (pr_err (c_BadIndex T) (takes_of rfl rfl rfl rfl) (by rfl) hr (by decide) (by rfl) (pv 1))) pss_nil)
      (pss_cons (ps_if (pt_cmpR op_lt (pv 1) (pe_callB call_len_str (by rfl) T.b_len (by decide +kernel) (pa_cons (kfld K (pv 0)) pa_nil)) (nomark _)) (pss_one (ps_ret (pe_cmpR op_eq (pe_ix ix_str (kfld K (pv 0)) (pv 1) (fun _ _ => rfl)) (C8.pe_gc (by rfl) T.g_OPEN) (nomark _)))) pss_nil)
      (pss_one (ps_ret (pe_cmpR op_eq (pe_ix ix_str (kfld K (pv 0)) (pe_op op_modN (pe_op op_sub (pv 1) (pe_callB call_len_str (by rfl) T.b_len (by decide +kernel) (pa_cons (kfld K (pv 0)) pa_nil))) (pe_callB call_len_str (by rfl) T.b_len (by decide +kernel) (pa_cons (kfld K (pv 0)) pa_nil))) (fun _ _ => rfl)) (C8.pe_gc (by rfl) T.g_OPEN) (nomark _)))))), ?_⟩
    obtain ⟨dx, hp⟩ := m1.ob
    have s6 := m1.s6
    have l6 := m1.le
    have l0 := m1.ls.pos
    have sz : ∀ {x : List Nat}, x.length ≤ 1000 → (S x).length ≤ sizeLine := fun h => by rw [S_len]; exact szl (by omega)
    rw [lit_open]
    refine ⟨_, rfl, _, _, rfl, rfl, _, rfl, ?_⟩
    by_cases c : n < 0
    · rw [decide_eq_true c]
      exact iteT ⟨_, rfl, (y c).now⟩
    · rw [decide_eq_false c]
      obtain ⟨i, rfl⟩ : ∃ i : Nat, n = (i : Int) := ⟨n.toNat, by omega⟩
      have z := z (by omega)
      rw [Int.toNat_natCast] at z
      refine iteF ⟨_, rfl, _, rfl, p, _, dx, _, _, rfl, hp, T.c_Mask.cl, T.n_start, ml_start s l, _, rfl, sz (by omega), _, _, rfl, rfl, _, rfl, ?_⟩
      rw [S_len]
      by_cases c2 : i < s.length
      · rw [decide_eq_true (show (i : Int) < ((s.length : Nat) : Int) by omega)]
        refine iteT ⟨_, rfl, p, _, dx, _, _, rfl, hp, T.c_Mask.cl, T.n_start, ml_start s l, _, rfl, _, _, u i, rfl, rfl, sz (by omega), atI_nat (by show s[i]? = _; rw [at_s (l := l) c2, m1.ls.wd]), rfl, ?_⟩
        show Q (.bl (decide (V.str ⟨#[u i]⟩ = V.str (S [43])))) H
        rw [one_eq]
        exact z
      · rw [decide_eq_false (show ¬ (i : Int) < ((s.length : Nat) : Int) by omega)]
        have lt := Nat.mod_lt (i - s.length) l0
        have e1 : ((i : Int) - ((s.length : Nat) : Int)).fmod ((l.length : Nat) : Int) = (((i - s.length) % l.length : Nat) : Int) := by
          rw [show (i : Int) - ((s.length : Nat) : Int) = ((i - s.length : Nat) : Int) by omega, fm]
        have ew : l[(i - s.length) % l.length]? = some (u i) := by
          rw [at_l (s := s) lt, ← m1.ls.wd i, at_ge (s := s) (by omega), at_ge (by omega), show s.length + (i - s.length) % l.length - s.length = (i - s.length) % l.length by omega, Nat.mod_mod]
        refine iteF ⟨_, rfl, p, _, dx, _, _, rfl, hp, T.c_Mask.cl, T.n_loop, ml_loop s l, ?_⟩
        refine ⟨_, rfl, _, rfl, p, _, dx, _, _, rfl, hp, T.c_Mask.cl, T.n_start, ml_start s l, _, rfl, sz (by omega), _, _, rfl, rfl, _, rfl, p, _, dx, _, _, rfl, hp, T.c_Mask.cl, T.n_loop, ml_loop s l, _, rfl, sz (by omega), _, _, rfl, rfl, by show ((S l).length : Int) ≠ 0; rw [S_len]; omega, ?_⟩
        rw [S_len, S_len]
        refine ⟨_, _, u i, rfl, rfl, sz (by omega), ?_, rfl, ?_⟩
        · rw [e1]
          exact atI_nat ew
        · show Q (.bl (decide (V.str ⟨#[u i]⟩ = V.str (S [43])))) H
          rw [one_eq]
          exact z
end
end K17

end
section
set_option Elab.async false
set_option linter.all false
set_option maxRecDepth 100000
set_option maxHeartbeats 4000000
namespace K17
open PySem PySem.Spec PyProof.Rows L2 Kit
theorem itN {c : Prop} [Decidable c] {A B : Prop} (h : ¬ c) (x : B) : if c then A else B := by
  rw [if_neg h]
  exact x
theorem neT {x : V} {A B : Prop} (h : B) : if (!decide (x = x)) = true then A else B := itN (by rw [decide_eq_true rfl]; decide) h
section
variable {P : Program} {w : World} {K : PySem.W.Frag} {mg : Str → Option Value} {base : Heap} {a : Ad}
def spLIsMask (a : Ad) : Sp := fun vs H Q _ => ∃ (p : Addr) (u : Nat → Nat) (s l : List Nat) (n i : Nat), vs = [.ref p, tx (pfx u 140), .int (n : Int), .int (i : Int)] ∧ MaskAt a H p u s l ∧ n ≤ 140 ∧ i < 140 ∧ ∀ G, Same H G → Q (.bl true) G
theorem c_law_is_mask (T : Txt K mg a) : Can P w K mg base 6 "_law_is_mask" (spLIsMask a) := by
  refine can_of T.d_law_is_mask sc_law_is_mask bd_law_is_mask (fun vs H Q E h => ?_) (fun f cdv A outer s0 H vs Q E hr h => ?_)
  · obtain ⟨p, u, s, l, n, i, rfl, _⟩ := h
    rfl
  · obtain ⟨p, u, s, l, n, i, rfl, m1, hn, hi, z⟩ := h
    refine ⟨_, (pss_cons (ps_set (i := 4) sc_law_is_mask.nd rfl (.inl rfl) (pc_f (c_law_least T) hr (by decide) (by rfl) (pa_cons (pv 1) pa_nil)))
      (pss_cons (ps_if (PW.pt (pw_or (pt_not (pt_val (pe_callB (kisi K) (by rfl) T.b_isinstance (by decide +kernel) (pa_cons (pv 0) (pa_cons (pe_glob (v := .ref a.Mask) (by rfl) T.c_Mask.gC rfl) pa_nil))))) (pw_or (pt_not (pt_val (pe_callB (kisi K) (by rfl) T.b_isinstance (by decide +kernel) (pa_cons (kfld K (pv 0)) (pa_cons (pe_bltn (v := .ty "str") (by rfl) T.b_str (by decide +kernel) rfl) pa_nil))))) (pw_or1 (pt_not (pt_val (pe_callB (kisi K) (by rfl) T.b_isinstance (by decide +kernel) (pa_cons (kfld K (pv 0)) (pa_cons (pe_bltn (v := .ty "str") (by rfl) T.b_str (by decide +kernel) rfl) pa_nil))))))))) (pss_one (ps_ret pe_bl)) pss_nil)
      (pss_cons (ps_if (PW.pt (pw_or (pt_cmpR op_ne (kfld K (pv 0)) (pe_ix (kix_tup K) (pv 4) pe_int (fun _ _ => rfl)) (nomark _)) (pw_or (pt_cmpR op_ne (kfld K (pv 0)) (pe_ix (kix_tup K) (pv 4) pe_int (fun _ _ => rfl)) (nomark _)) (pw_or1 (pt_cmpR op_ne (pe_callTy (strO (c_Mask_str T) hr (by decide)) (by rfl) T.b_str (by decide +kernel) (pa_cons (pv 0) pa_nil)) (pe_op op_add_str (pe_op op_add_str (pe_op op_add_str (pe_ix (kix_tup K) (pv 4) pe_int (fun _ _ => rfl)) pe_str) (pe_ix (kix_tup K) (pv 4) pe_int (fun _ _ => rfl))) pe_str) (nomark _)))))) (pss_one (ps_ret pe_bl)) pss_nil)
      (pss_cons (ps_if (PW.pt (pw_or (pt_cmpR op_ne (pc_m (c_Mask_marks T) hr (by decide) (pv 0) (pa_cons (pv 2) pa_nil)) (pe_slice sl_str (pv 1) po_none (po_some (pv 2))) (nomark _)) (pw_or1 (pt_not (pt_val (pe_callB (kisi K) (by rfl) T.b_isinstance (by decide +kernel) (pa_cons (pc_m (c_Mask_marks T) hr (by decide) (pv 0) (pa_cons (pv 2) pa_nil)) (pa_cons (pe_bltn (v := .ty "str") (by rfl) T.b_str (by decide +kernel) rfl) pa_nil)))))))) (pss_one (ps_ret pe_bl)) pss_nil)
      (pss_one (ps_ret (pe_and (pc_f (c_law_truth T) hr (by decide) (by rfl) (pa_cons (pe_ixO (c_Mask_getitem T) (takes_of rfl rfl rfl rfl) hr (by decide) (pv 0) (pv 3)) (pa_cons (pe_cmpR op_eq (pe_ix ix_str (pv 1) (pv 3) (fun _ _ => rfl)) pe_str (nomark _)) pa_nil))) (pe_one (pc_f (c_law_truth T) hr (by decide) (by rfl) (pa_cons (pe_ixO (c_Mask_getitem T) (takes_of rfl rfl rfl rfl) hr (by decide) (pv 0) pe_int) (pa_cons (pe_cmpR op_eq (pe_ix ix_str (pv 1) pe_int (fun _ _ => rfl)) pe_str (nomark _)) pa_nil))))))))))), ?_⟩
    have sz : ∀ {x : List Nat}, x.length ≤ 1000 → (S x).length ≤ sizeLine := fun h => by rw [S_len]; exact szl (by omega)
    have s6 := m1.s6
    have l6 := m1.le
    have lp := pfx_len u 140
    rw [lit_open, show Str.ofString "(" = S [40] by decide +kernel, show Str.ofString ")" = S [41] by decide +kernel]
    refine ⟨_, rfl, u, s, l, rfl, m1.ls, s6, l6, fun q G k _ hq => ?_⟩
    have m2 := m1.mono k
    obtain ⟨dx, hp⟩ := m2.ob
    refine ⟨_, rfl, _, _, _, _, true, rfl, .own _, .base (.ins hp T.c_Mask.cl T.i_ha T.i_hn T.i_ht T.i_hm), T.i_own, _, rfl, iteF ?_⟩
    refine ⟨_, rfl, p, _, dx, _, _, rfl, hp, T.c_Mask.cl, T.n_start, ml_start s l, _, _, _, _, true, rfl, .ty _, .base (.str _), rfl, _, rfl, iteF ?_⟩
    refine ⟨_, rfl, p, _, dx, _, _, rfl, hp, T.c_Mask.cl, T.n_loop, ml_loop s l, _, _, _, _, true, rfl, .ty _, .base (.str _), rfl, _, rfl, iteF ?_⟩
    refine ⟨_, rfl, p, _, dx, _, _, rfl, hp, T.c_Mask.cl, T.n_start, ml_start s l, _, rfl, q, _, 0, _, rfl, rfl, seqT_of hq, rfl, rfl, _, rfl, neT ?_⟩
    refine ⟨_, rfl, p, _, dx, _, _, rfl, hp, T.c_Mask.cl, T.n_loop, ml_loop s l, _, rfl, q, _, 1, _, rfl, rfl, seqT_of hq, rfl, rfl, _, rfl, neT ?_⟩
    refine ⟨_, rfl, p, dx, _, rfl, hp, p, u, s, l, rfl, m2, _, rfl, _, rfl, q, _, 0, _, rfl, rfl, seqT_of hq, rfl, _, _, rfl, rfl, by rw [S_len, S_len]; exact szl (by show s.length + 1 ≤ _; omega), ?_⟩
    rw [S_app]
    have n1 : (s ++ [40]).length = s.length + 1 := List.length_append
    have n2 : (s ++ [40] ++ l).length = s.length + 1 + l.length := by rw [List.length_append, n1]
    refine ⟨_, rfl, q, _, 1, _, rfl, rfl, seqT_of hq, rfl, _, _, rfl, rfl, by rw [S_len, S_len, n1]; exact szl (by omega), ?_⟩
    rw [S_app]
    refine ⟨_, _, rfl, rfl, by rw [S_len, S_len, n2]; exact szl (by show _ + 1 ≤ _; omega), ?_⟩
    rw [S_app]
    refine ⟨rfl, _, rfl, neT ?_⟩
    have c1 := cut_take (pfx u 140) n
    rw [pfx_take u hn] at c1
    refine ⟨_, rfl, p, dx, _, rfl, hp, ml_no _ _ (by decide +kernel) (by decide +kernel), _, rfl, p, u, s, l, n, rfl, m2, by omega, fun h => absurd h (by omega), fun _ => ?_⟩
    refine ⟨_, rfl, _, rfl, _, rfl, _, rfl, sz (by omega), ?_⟩
    rw [c1]
    refine ⟨rfl, _, rfl, neT ?_⟩
    refine ⟨_, rfl, p, dx, _, rfl, hp, ml_no _ _ (by decide +kernel) (by decide +kernel), _, rfl, p, u, s, l, n, rfl, m2, by omega, fun h => absurd h (by omega), fun _ => ?_⟩
    refine ⟨_, _, _, _, true, rfl, .ty _, .base (.str _), rfl, _, rfl, iteF ?_⟩
    have ix : ∀ j : Nat, j < 140 → atI (S (pfx u 140)).cps.toList ((j : Nat) : Int) = some (u j) := fun j hj => atI_nat (pfx_at hj)
    refine ⟨_, rfl, _, rfl, p, dx, _, rfl, hp, p, u, s, l, i, rfl, m2, fun h => absurd h (by omega), fun _ => ?_⟩
    refine ⟨_, rfl, _, rfl, _, _, u i, rfl, rfl, sz (by omega), ix i hi, rfl, ?_⟩
    rw [one_eq]
    refine ⟨_, _, rfl, _, rfl, ?_⟩
    rw [show (((i : Nat) : Int).toNat) = i from rfl, beq_self_eq_true]
    refine iteT ?_
    refine ⟨_, rfl, p, dx, _, rfl, hp, p, u, s, l, 0, rfl, m2, fun h => absurd h (by omega), fun _ => ?_⟩
    refine ⟨_, rfl, _, _, u 0, rfl, rfl, sz (by omega), ix 0 (by omega), rfl, ?_⟩
    rw [one_eq]
    refine ⟨_, _, rfl, ?_⟩
    rw [show ((0 : Int).toNat) = 0 from rfl, beq_self_eq_true]
    exact z G k
end
end K17

end
section
set_option Elab.async false
set_option linter.all false
set_option maxRecDepth 100000
set_option maxHeartbeats 4000000
namespace K17
open PySem PySem.Spec PyProof.Rows L2 Kit
theorem far {u v : Nat → Nat} (hu : PF u 6 60) (hv : PF v 6 60) (h : ∀ i < 140, (u i != v i) = false) : u = v := funext fun i => by
  have g : ∀ i < 140, u i = v i := fun i hi => by
    have := h i hi
    rw [bne_eq_false_iff_eq] at this
    exact this
  by_cases c : i < 6
  · exact g i (by omega)
  · have lt := Nat.mod_lt (i - 6) (show 0 < 60 by omega)
    have m := Nat.mod_add_div (i - 6) 60
    rw [Nat.mul_comm] at m
    have e1 := hu.mul ((i - 6) / 60) (i := 6 + (i - 6) % 60) (by omega)
    have e2 := hv.mul ((i - 6) / 60) (i := 6 + (i - 6) % 60) (by omega)
    rw [show 6 + (i - 6) % 60 + (i - 6) / 60 * 60 = i by omega] at e1 e2
    rw [e1, e2, g _ (by omega)]
theorem apart_none {u v : Nat → Nat} : apartV u v = .non ↔ ∀ i < 140, (u i != v i) = false := by
  unfold apartV
  constructor
  · intro h i hi
    cases e : (List.range 140).find? fun i => u i != v i with
    | none =>
      have := List.find?_eq_none.mp e i (List.mem_range.mpr hi)
      cases e9 : (u i != v i) with
      | false => rfl
      | true => exact absurd e9 this
    | some j =>
      rw [e] at h
      cases h
  · intro h
    rw [find_no h]
theorem apart_some {u v : Nat → Nat} (h : apartV u v ≠ .non) : ∃ n : Nat, apartV u v = .int (n : Int) := by
  unfold apartV at *
  cases e : (List.range 140).find? fun i => u i != v i with
  | none => rw [e] at h; exact absurd rfl h
  | some j => exact ⟨j, rfl⟩
theorem MaskAt.p60 {a : Ad} {H : Hp} {p : Addr} {u : Nat → Nat} {s l : List Nat} (h : MaskAt a H p u s l) : PF u 6 60 := by
  obtain ⟨k, hk⟩ := h.l60
  have := (h.ls.per.mono h.s6).mulp k
  rw [Nat.mul_comm, ← hk] at this
  exact this
theorem same_iff {a : Ad} {H G : Hp} {p q : Addr} {u v : Nat → Nat} {s l s2 l2 : List Nat} (h : MaskAt a H p u s l) (g : MaskAt a G q v s2 l2) : (decide (s = s2) && decide (l = l2)) = true ↔ apartV u v = .non := by
  rw [apart_none, Bool.and_eq_true, decide_eq_true_iff, decide_eq_true_iff]
  constructor
  · rintro ⟨rfl, rfl⟩ i _
    rw [← h.ls.wd, ← g.ls.wd]
    simp
  · intro e
    have e2 := far h.p60 g.p60 e
    subst e2
    exact h.ls.uniq g.ls
section
variable {P : Program} {w : World} {K : PySem.W.Frag} {mg : Str → Option Value} {base : Heap} {a : Ad}
def spLAH (a : Ad) : Sp := fun vs H Q _ => ∃ (p q : Addr) (u v : Nat → Nat) (s l s2 l2 : List Nat), vs = [.ref p, .ref q, tx (pfx u 140), tx (pfx v 140)] ∧ MaskAt a H p u s l ∧ MaskAt a H q v s2 l2 ∧ ∀ G, Same H G → Q (.bl true) G
theorem c_law_apart_holds (T : Txt K mg a) : Can P w K mg base 11 "_law_apart_holds" (spLAH a) := by
  refine can_of T.d_law_apart_holds sc_law_apart_holds bd_law_apart_holds (fun vs H Q E h => ?_) (fun f cdv A outer s0 H vs Q E hr h => ?_)
  · obtain ⟨p, q, u, v, s, l, s2, l2, rfl, _⟩ := h
    rfl
  · obtain ⟨p, q, u, v, s, l, s2, l2, rfl, m1, m2, z⟩ := h
    refine ⟨_, (pss_cons (ps_set (i := 4) sc_law_apart_holds.nd rfl (.inl rfl) (pc_f (c_law_apart T) hr (by decide) (by rfl) (pa_cons (pv 2) (pa_cons (pv 3) pa_nil))))
      (pss_cons (ps_set (i := 5) sc_law_apart_holds.nd rfl (.inl rfl) (pc_f (c_masks_apart T) hr (by decide) (by rfl) (pa_cons (pv 0) (pa_cons (pv 1) pa_nil))))
      (pss_cons (ps_if (pt_not (pt_val (pc_f (c_law_truth T) hr (by decide) (by rfl) (pa_cons (pe_cmpR (eqO K (c_Mask_eq T) hr (by decide) T.i_ni T.i_ns) (pv 0) (pv 1) (nomark _)) (pa_cons (pe_cmpR op_isN (pv 4) pe_non (nomark _)) pa_nil))))) (pss_one (ps_ret pe_bl)) pss_nil)
      (pss_cons (ps_if (pt_cmpR op_isN (pv 4) pe_non (nomark _)) (pss_one (ps_ret (pe_cmpR op_isN (pv 5) pe_non (nomark _)))) pss_nil)
      (pss_one (ps_ret (pe_and (pe_callB (kisi K) (by rfl) T.b_isinstance (by decide +kernel) (pa_cons (pv 5) (pa_cons (pe_bltn (v := .ty "int") (by rfl) T.b_int (by decide +kernel) rfl) pa_nil))) (pe_and (pe_not (pe_callB (kisi K) (by rfl) T.b_isinstance (by decide +kernel) (pa_cons (pv 5) (pa_cons (pe_bltn (v := .ty "bool") (by rfl) T.b_bool (by decide +kernel) rfl) pa_nil)))) (pe_one (pe_cmpR op_eq (pv 5) (pv 4) (nomark _))))))))))), ?_⟩
    refine ⟨_, rfl, _, rfl, u, v, rfl, ?_⟩
    refine ⟨_, rfl, _, rfl, p, q, u, v, s, l, s2, l2, rfl, m1, m2, fun G k => ?_⟩
    have n1 := m1.mono k
    have n2 := m2.mono k
    obtain ⟨dx, hp⟩ := n1.ob
    obtain ⟨dy, hq⟩ := n2.ob
    have iff := same_iff n1 n2
    have eqb : ((decide (s = s2) && decide (l = l2)) == decide (apartV u v = V.non)) = true := by
      rw [beq_iff_eq]
      cases e : (decide (s = s2) && decide (l = l2)) with
      | true => exact (decide_eq_true (iff.mp e)).symm
      | false => exact (decide_eq_false fun q => by rw [iff.mpr q] at e; cases e).symm
    refine ⟨_, rfl, _, rfl, p, dx, _, rfl, hp, .inr (.inr ⟨q, dy, _, rfl, hq⟩), p, u, s, l, _, rfl, n1, .inr ⟨q, v, s2, l2, rfl, n2, _, rfl, _, rfl, rfl, _, _, rfl, _, rfl, ?_⟩⟩
    rw [eqb]
    refine iteF ⟨_, rfl, rfl, _, rfl, ?_⟩
    by_cases c : apartV u v = .non
    · rw [decide_eq_true c]
      refine iteT ⟨_, rfl, rfl, ?_⟩
      show Q (V.bl (decide (apartV u v = V.non))) G
      rw [decide_eq_true c]
      exact z G k
    · rw [decide_eq_false c]
      obtain ⟨n, hn⟩ := apart_some c
      rw [hn]
      refine iteF ?_
      refine ⟨_, rfl, _, _, _, _, true, rfl, .ty _, .base (.int _), rfl, _, rfl, iteT ?_⟩
      refine ⟨_, rfl, _, _, _, _, false, rfl, .ty _, .base (.int _), rfl, _, rfl, _, rfl, ?_⟩
      refine iteT ⟨_, rfl, _, rfl, rfl, ?_⟩
      show Q (V.bl (decide (V.int (n : Int) = V.int (n : Int)))) G
      rw [decide_eq_true (p := V.int (n : Int) = V.int (n : Int)) rfl]
      exact z G k
end
end K17

end
section
set_option Elab.async false
set_option linter.all false
set_option maxRecDepth 100000
set_option maxHeartbeats 4000000
namespace K17
open PySem PySem.Spec PyProof.Rows L2 Kit
section
variable {P : Program} {w : World} {K : PySem.W.Frag} {mg : Str → Option Value} {base : Heap} {a : Ad}
def spLCnt (a : Ad) : Sp := fun vs H Q _ => ∃ (p : Addr) (u : Nat → Nat) (s l : List Nat) (n : Int), vs = [.ref p, .int n] ∧ MaskAt a H p u s l ∧ n < 0 ∧ ∀ G, Same H G → Q (.bl true) G
theorem c_law_count_refused (T : Txt K mg a) : Can P w K mg base 5 "_law_count_refused" (spLCnt a) := by
  refine can_of T.d_law_count_refused sc_law_count_refused bd_law_count_refused (fun vs H Q E h => ?_) (fun f cdv A outer s0 H vs Q E hr h => ?_)
  · obtain ⟨p, u, s, l, n, rfl, _⟩ := h
    rfl
  · obtain ⟨p, u, s, l, n, rfl, m1, hn, z⟩ := h
    refine ⟨_, (pss_cons (ps_try_as (i := 2) (tb := _) rfl rfl sc_law_count_refused.nd rfl rfl ⟨rfl, by decide, .inl T.e_BadCount.gC⟩ takes0 (fun W pn xe tk po => (pss_one (ps_expr (pc_mS (c_Mask_marks T) tk hr (by decide) (pv 0) (pa_cons (pv 1) pa_nil))))) (fun ae oe cls d pn hz hf => (pss_one (ps_ret (pe_and (pe_callB (call_isU hz hf) (by rfl) T.b_isinstance (by decide +kernel) (pa_cons (pv 2) (pa_cons (pe_glob (v := .ref a.GalloonError) (by rfl) T.g_GalloonError rfl) pa_nil))) (pe_and (pe_callB (call_isU hz hf) (by rfl) T.b_isinstance (by decide +kernel) (pa_cons (pv 2) (pa_cons (pe_bltn (v := .ty "ValueError") (by rfl) T.b_ValueError (by decide +kernel) rfl) pa_nil))) (pe_one (pe_cmpR op_eq (pe_xu hz hf (pv 2)) (pv 1) (nomark _)))))))))
      (pss_one (ps_ret pe_bl))), ?_⟩
    obtain ⟨dx, hp⟩ := m1.ob
    refine ⟨_, rfl, p, dx, _, rfl, hp, ml_no _ _ (by decide +kernel) (by decide +kernel), _, rfl, p, u, s, l, n, rfl, m1, by omega, fun _ d M s1 hd => ⟨true, T.xo_e 1 (by decide) 1 (by decide), fun _ x hx => ?_, nofun⟩, fun h => absurd h (by omega)⟩
    refine ⟨_, rfl, a.BadCount, _, _, true, rfl, T.x_BadCount, xdok hd, rfl, fun u h => h, T.kg_e 1 (by decide), _, rfl, iteT ⟨_, rfl, a.BadCount, _, _, true, rfl, T.x_BadCount, xdok hd, rfl, fun u h => h, T.kv_e 1 (by decide), _, rfl, iteT ?_⟩⟩
    refine ⟨_, rfl, a.BadCount, d, _, .int n, rfl, rfl, T.x_BadCount.xf, T.e_BadCount.noF, rfl, hd, by rw [List.lookup_cons, beq_self_eq_true], _, rfl, rfl, ?_⟩
    rw [decide_eq_true rfl]
    exact z M s1
theorem c_law_index_refused (T : Txt K mg a) : Can P w K mg base 6 "_law_index_refused" (spLCnt a) := by
  refine can_of T.d_law_index_refused sc_law_index_refused bd_law_index_refused (fun vs H Q E h => ?_) (fun f cdv A outer s0 H vs Q E hr h => ?_)
  · obtain ⟨p, u, s, l, n, rfl, _⟩ := h
    rfl
  · obtain ⟨p, u, s, l, n, rfl, m1, hn, z⟩ := h
    refine ⟨_, (pss_cons (ps_try_as (i := 3) (tb := _) rfl rfl sc_law_index_refused.nd rfl rfl ⟨rfl, by decide, .inl T.e_BadIndex.gC⟩ takes0 (fun W pn xe tk po => (pss_one (ps_set (i := 2) sc_law_index_refused.nd rfl (.inl rfl) (pe_ixO (c_Mask_getitem T) tk hr (by decide) (pv 0) (pv 1))))) (fun ae oe cls d pn hz hf => (pss_one (ps_ret (pe_and (pe_callB (call_isU hz hf) (by rfl) T.b_isinstance (by decide +kernel) (pa_cons (pv 3) (pa_cons (pe_glob (v := .ref a.GalloonError) (by rfl) T.g_GalloonError rfl) pa_nil))) (pe_and (pe_callB (call_isU hz hf) (by rfl) T.b_isinstance (by decide +kernel) (pa_cons (pv 3) (pa_cons (pe_bltn (v := .ty "ValueError") (by rfl) T.b_ValueError (by decide +kernel) rfl) pa_nil))) (pe_one (pe_cmpR op_eq (pe_xu hz hf (pv 3)) (pv 1) (nomark _)))))))))
      (pss_one (ps_ret (pe_and (pe_cmpR op_isN (pv 2) pe_non (nomark _)) (pe_one pe_bl))))), ?_⟩
    obtain ⟨dx, hp⟩ := m1.ob
    refine ⟨_, rfl, _, rfl, p, dx, _, rfl, hp, p, u, s, l, n, rfl, m1, fun _ d M s1 hd => ⟨true, T.xo_e 0 (by decide) 0 (by decide), fun _ x hx => ?_, nofun⟩, fun h => absurd h (by omega)⟩
    refine ⟨_, rfl, a.BadIndex, _, _, true, rfl, T.x_BadIndex, xdok hd, rfl, fun u h => h, T.kg_e 0 (by decide), _, rfl, iteT ⟨_, rfl, a.BadIndex, _, _, true, rfl, T.x_BadIndex, xdok hd, rfl, fun u h => h, T.kv_e 0 (by decide), _, rfl, iteT ?_⟩⟩
    refine ⟨_, rfl, a.BadIndex, d, _, .int n, rfl, rfl, T.x_BadIndex.xf, T.e_BadIndex.noF, rfl, hd, by rw [List.lookup_cons, beq_self_eq_true], _, rfl, rfl, ?_⟩
    rw [decide_eq_true rfl]
    exact z M s1
theorem below_at {d : Int} (h0 : 0 ≤ d) (h1 : d < 4) : ∃ z : Int, 0 ≤ z ∧ atI [V.int 0, .int 1, .int 6, .int (10 ^ 38)] d = some (.int z) := by
  rcases (show d = 0 ∨ d = 1 ∨ d = 2 ∨ d = 3 by omega) with rfl | rfl | rfl | rfl
  · exact ⟨0, by decide, rfl⟩
  · exact ⟨1, by decide, rfl⟩
  · exact ⟨6, by decide, rfl⟩
  · exact ⟨10 ^ 38, by decide, rfl⟩
end
end K17

end
section
set_option Elab.async false
set_option linter.all false
set_option maxRecDepth 100000
set_option maxHeartbeats 4000000
namespace K17
open PySem PySem.Spec PyProof.Rows L2 Kit
section
variable {P : Program} {w : World} {K : PySem.W.Frag} {mg : Str → Option Value} {base : Heap} {a : Ad}
def spLBelow (a : Ad) : Sp := fun vs H Q _ => ∃ (b p : Addr) (k : Nat) (u : Nat → Nat) (s l : List Nat), vs = [.ref b, .ref p] ∧ BoxAt (k + 1) H b ∧ MaskAt a H p u s l ∧ ∀ G, Bu k b H G → Q (.bl true) G
theorem ne_box {a : Ad} {k : Nat} {H : Hp} {p b : Addr} {u : Nat → Nat} {s l : List Nat} (hb : BoxAt k H b) (m : MaskAt a H p u s l) : p ≠ b := by
  obtain ⟨x, y, z, hp, _⟩ := hb
  obtain ⟨dx, h⟩ := m.ob
  intro e
  rw [e, hp] at h
  cases h
theorem MaskAt.bu {a : Ad} {n k : Nat} {H G : Hp} {p b : Addr} {u : Nat → Nat} {s l : List Nat} (m : MaskAt a H p u s l) (hb : BoxAt k H b) (e : Bu n b H G) : MaskAt a G p u s l :=
  ⟨let ⟨dx, h⟩ := m.ob; ⟨dx, e.at h (ne_box hb m)⟩, m.ls, m.s6, m.l60, m.sg⟩
theorem c_law_below_refused (T : Txt K mg a) : Can P w K mg base 8 "_law_below_refused" (spLBelow a) := by
  refine can_of T.d_law_below_refused sc_law_below_refused bd_law_below_refused (fun vs H Q E h => ?_) (fun f cdv A outer s0 H vs Q E hr h => ?_)
  · obtain ⟨b, p, k, u, s, l, rfl, _⟩ := h
    rfl
  · obtain ⟨b, p, k, u, s, l, rfl, hb, m1, z⟩ := h
    refine ⟨_, (pss_cons (ps_set (i := 2) sc_law_below_refused.nd rfl (.inl rfl) (pe_op op_sub (pe_un un_neg pe_int) (pe_ix (kix_list K) (pe_lst (pa_cons pe_int (pa_cons pe_int (pa_cons pe_int (pa_cons (pe_op op_pow pe_int pe_int) pa_nil))))) (pc_f (c_law_take T) hr (by decide) (by rfl) (pa_cons (pv 0) (pa_cons pe_int pa_nil))) (fun _ _ => rfl))))
      (pss_one (ps_ret (pe_and (pc_f (c_law_count_refused T) hr (by decide) (by rfl) (pa_cons (pv 1) (pa_cons (pv 2) pa_nil))) (pe_one (pc_f (c_law_index_refused T) hr (by decide) (by rfl) (pa_cons (pv 1) (pa_cons (pv 2) pa_nil)))))))), ?_⟩
    refine ⟨_, rfl, _, _, rfl, rfl, ⟨by decide, by decide, by decide⟩, by show 4 ≤ sizeLine; decide, fun l0 hl0 => ?_⟩
    have n0 := box_ne hb hl0
    have b0 := (Bu.refl hb).put (o := .lst [.int 0, .int 1, .int 6, .int (10 ^ 38)]) hl0 n0
    refine ⟨_, rfl, b, 4, k, rfl, b0.2, by decide, by decide, fun d G d0 d1 b1 => ?_⟩
    obtain ⟨y, y0, hix⟩ := below_at d0 d1
    refine ⟨l0, _, d, _, rfl, rfl, seqL_of (b1.at upd_same n0), hix, _, _, rfl, rfl, ?_⟩
    have bb := b0.trans b1
    have m2 := m1.bu hb bb
    refine ⟨_, rfl, _, rfl, p, u, s, l, _, rfl, m2, ?_, fun G2 k2 => ?_⟩
    · show (-1 : Int) - y < 0
      omega
    refine ⟨_, rfl, iteT ⟨_, rfl, _, rfl, p, u, s, l, _, rfl, m2.mono k2, ?_, fun G3 k3 => ?_⟩⟩
    · show (-1 : Int) - y < 0
      omega
    have k23 := k2.trans k3
    exact z G3 ⟨fun c o e h => k23 _ _ (bb.1 c o e h), bb.2.mono k23⟩
end
end K17

end
section
set_option Elab.async false
set_option linter.all false
set_option maxRecDepth 100000
set_option maxHeartbeats 4000000
namespace K17
open PySem PySem.Spec PyProof.Rows L2 Kit
/-- the words of n marks, in their order -/
def wordsN : Nat → List (List Nat)
  | 0 => [[]]
  | n + 1 => (wordsN n).flatMap fun m => [m ++ [43], m ++ [45]]
theorem words_le : ∀ n, ∀ m ∈ wordsN n, m.length = n := by
  intro n
  induction n with
  | zero =>
    intro m hm
    rw [List.mem_singleton.mp hm]
    rfl
  | succ n ih =>
    intro m hm
    obtain ⟨x, hx, hy⟩ := List.mem_flatMap.mp hm
    have := ih x hx
    rcases List.mem_cons.mp hy with rfl | hy
    · rw [List.length_append, this]
      rfl
    · rw [List.mem_singleton.mp hy, List.length_append, this]
      rfl
theorem words_n : ∀ n, (wordsN n).length = 2 ^ n := by
  intro n
  induction n with
  | zero => rfl
  | succ n ih =>
    show ((wordsN n).flatMap _).length = _
    rw [List.length_flatMap]
    have : ((wordsN n).map fun m => [m ++ [43], m ++ [45]].length) = (wordsN n).map fun _ => 2 := List.map_congr_left fun _ _ => rfl
    rw [this, List.map_const', List.sum_replicate_nat, ih, Nat.pow_succ]
section
variable {P : Program} {w : World} {K : PySem.W.Frag} {mg : Str → Option Value} {base : Heap} {a : Ad}
def spLWords : Sp := fun vs H Q _ => ∃ n : Nat, vs = [.int (n : Int)] ∧ n ≤ 3 ∧ ∀ G q, Same H G → H q = none → G q = some (.lst ((wordsN n).map tx)) → Q (.ref q) G
theorem c_law_words (T : Txt K mg a) : Can P w K mg base 1 "_law_words" spLWords := by
  refine can_of T.d_law_words sc_law_words bd_law_words (fun vs H Q E h => ?_) (fun f cdv A outer s0 H vs Q E hr h => ?_)
  · obtain ⟨n, rfl, _⟩ := h
    rfl
  · obtain ⟨n, rfl, hn, z⟩ := h
    refine ⟨_, (pss_cons (ps_set (i := 1) sc_law_words.nd rfl (.inl rfl) (pe_lst (pa_cons pe_str pa_nil)))
      (pss_cons (ps_for (passes_of rfl) (by rfl) (pi_range1 (by rfl) T.b_range (pa_cons (pv 0) pa_nil)) (pg_name (i := 2) sc_law_words.nd rfl (.inl rfl)) (pss_cons (ps_set (i := 3) sc_law_words.nd rfl (.inl rfl) (pe_lst pa_nil))
      (pss_cons (ps_for (passes_of rfl) (by rfl) (kpi_list K (pv 1)) (pg_name (i := 4) sc_law_words.nd rfl (.inl rfl)) (pss_cons (ps_expr (pe_bm PySem.F.plainAttrs_list PySem.F.slot_list_append PySem.F.type_list_append mt_append (pv 3) (pa_cons (pe_op op_add_str (pv 4) pe_str) pa_nil)))
      (pss_one (ps_expr (pe_bm PySem.F.plainAttrs_list PySem.F.slot_list_append PySem.F.type_list_append mt_append (pv 3) (pa_cons (pe_op op_add_str (pv 4) pe_str) pa_nil))))))
      (pss_one (ps_set (i := 1) sc_law_words.nd rfl (.inl rfl) (pv 3))))))
      (pss_one (ps_ret (pv 1))))), ?_⟩
    rw [lit_emp, lit_open, lit_closed]
    refine ⟨by show 1 ≤ sizeLine; decide, fun q0 hq0 => ?_⟩
    have k0 := ex_new (o := .lst [tx []]) hq0
    refine ⟨_, rfl, n, rfl, by omega, by omega, for_it (walk_range (lo := 0) (n := ((n : Nat) : Int).toNat)) (fun i σ G => Same H G ∧ ∃ (q : Addr) (x y z : Option V), H q = none ∧ G q = some (.lst ((wordsN i).map tx)) ∧ σ = [some (.int (n : Int)), some (.ref q), x, y, z]) ⟨k0, q0, none, none, none, hq0, upd_same, rfl⟩ (fun _ _ _ _ _ => True.intro) ?_ ?_⟩
    · rintro i x σ G M hi ⟨k1, q, v1, v2, v3, hq, hG, rfl⟩ ⟨rfl, rfl⟩
      have hi : i < n := hi
      refine ⟨by show 0 ≤ sizeLine; decide, fun q1 hq1 => ?_⟩
      have k2 := k1.trans (ex_new (o := .lst []) hq1)
      have n1 : q1 ≠ q := fun e => by rw [e, hG] at hq1; cases hq1
      have f1 : H q1 = none := free_same k1 hq1
      have w8 : (wordsN i).length ≤ 8 := by
        rw [words_n]
        rcases (show i = 0 ∨ i = 1 ∨ i = 2 by omega) with rfl | rfl | rfl <;> decide
      refine ⟨_, rfl, q, rfl, ⟨_, seqL_of (by rw [upd_ne (Ne.symm n1)]; exact hG)⟩, for_it (walk_list (xs := (wordsN i).map tx)) (fun j σ G => Same H G ∧ G q = some (.lst ((wordsN i).map tx)) ∧ (∃ ys : List (List Nat), ys = ((wordsN i).take j).flatMap (fun m => [m ++ [43], m ++ [45]]) ∧ ys.length = 2 * j ∧ G q1 = some (.lst (ys.map tx))) ∧ ∃ x : Option V, σ = [some (.int (n : Int)), some (.ref q), some (.int (0 + (i : Int))), some (.ref q1), x]) ⟨k2, by rw [upd_ne (Ne.symm n1)]; exact hG, ⟨[], rfl, rfl, upd_same⟩, v3, rfl⟩ (fun j σ G _ h => seqL_of h.2.1) ?_ ?_⟩
      · rintro j x σ G N hj ⟨k3, hGq, ⟨ys, hys, lys, hG1⟩, v4, rfl⟩ ⟨rfl, hx⟩
        rw [List.length_map] at hj
        have hm := List.getElem?_eq_getElem hj
        rw [List.getElem?_map, hm] at hx
        cases hx
        have lm : (wordsN i)[j].length = i := words_le i _ (List.getElem_mem _)
        have c1 : S (wordsN i)[j] ++ S [43] = S ((wordsN i)[j] ++ [43]) := S_app _ _
        have c2 : S (wordsN i)[j] ++ S [45] = S ((wordsN i)[j] ++ [45]) := S_app _ _
        have szm : ∀ c : Nat, (S (wordsN i)[j]).length + (S [c]).length ≤ sizeLine := fun c => by rw [S_len, S_len, lm]; exact szl (by show i + 1 ≤ _; omega)
        refine ⟨_, rfl, .inl ⟨rfl, _, seqL_of hG1⟩, _, rfl, _, _, rfl, rfl, szm 43, q1, _, _, rfl, rfl, hG1, by rw [List.length_map, lys]; exact szlt (by omega), ?_⟩
        refine ⟨_, rfl, .inl ⟨rfl, _, seqL_of upd_same⟩, _, rfl, _, _, rfl, rfl, szm 45, q1, _, _, rfl, rfl, upd_same, by rw [List.length_append, List.length_map, lys]; exact szlt (by show _ + 1 < _; omega), ?_⟩
        rw [c1, c2]
        refine ⟨ex_mut (ex_mut k3 f1) f1, by rw [upd_ne (Ne.symm n1), upd_ne (Ne.symm n1)]; exact hGq, ⟨ys ++ [(wordsN i)[j] ++ [43]] ++ [(wordsN i)[j] ++ [45]], ?_, ?_, ?_⟩, _, rfl⟩
        · rw [List.take_add_one, hm, List.flatMap_append, ← hys, List.append_assoc]
          rfl
        · rw [List.length_append, List.length_append, lys]
          show 2 * j + 1 + 1 = _
          omega
        · rw [upd_same, List.map_append, List.map_append]
          rfl
      · rintro σ G ⟨k3, hGq, ⟨ys, hys, _, hG1⟩, v4, rfl⟩
        rw [List.length_map, List.take_length] at hys
        exact ⟨_, rfl, k3, q1, _, _, _, f1, by rw [hG1, hys]; rfl, rfl⟩
    · rintro σ G ⟨k1, q, v1, v2, v3, hq, hG, rfl⟩
      exact ⟨_, rfl, z G q k1 hq hG⟩
end
end K17

end
section
set_option Elab.async false
set_option linter.all false
set_option maxRecDepth 100000
set_option maxHeartbeats 4000000
namespace K17
open PySem PySem.Spec PyProof.Rows L2 Kit
theorem at_some {x : List Nat} {d : Int} (h0 : 0 ≤ d) (h1 : d < (x.length : Int)) : ∃ c, atI (S x).cps.toList d = some c := by
  obtain ⟨j, rfl⟩ : ∃ j : Nat, (j : Int) = d := ⟨d.toNat, by omega⟩
  exact ⟨_, atI_nat (show x[j]? = some x[j] from List.getElem?_eq_getElem (by omega))⟩
theorem lit_q8 : (Str.ofString "?0a ()*#") = S [63, 48, 97, 32, 40, 41, 42, 35] := by decide +kernel
theorem lit_p7 : (Str.ofString "+-+-+-+") = S [43, 45, 43, 45, 43, 45, 43] := by decide +kernel
section
variable {P : Program} {w : World} {K : PySem.W.Frag} {mg : Str → Option Value} {base : Heap} {a : Ad}
def spLSpW : Sp := fun vs H Q _ => ∃ (b : Addr) (k : Nat) (x : List Nat), vs = [.ref b, tx x] ∧ BoxAt (k + 4) H b ∧ x.length ≤ 6 ∧ ∀ G m, Bu k b H G → m.length ≤ 13 → Q (tx m) G
theorem c_law_spoilt (T : Txt K mg a) : Can P w K mg base 3 "_law_spoilt" spLSpW := by
  refine can_of T.d_law_spoilt sc_law_spoilt bd_law_spoilt (fun vs H Q E h => ?_) (fun f cdv A outer s0 H vs Q E hr h => ?_)
  · obtain ⟨b, k, x, rfl, _⟩ := h
    rfl
  · obtain ⟨b, k, x, rfl, hb, hx, z⟩ := h
    refine ⟨_, (pss_cons (ps_set (i := 2) sc_law_spoilt.nd rfl (.inl rfl) (pc_f (c_law_take T) hr (by decide) (by rfl) (pa_cons (pv 0) (pa_cons pe_int pa_nil))))
      (pss_cons (ps_set (i := 3) sc_law_spoilt.nd rfl (.inl rfl) (pc_f (c_law_take T) hr (by decide) (by rfl) (pa_cons (pv 0) (pa_cons (pe_op op_add (pe_callB call_len_str (by rfl) T.b_len (by decide +kernel) (pa_cons (pv 1) pa_nil)) pe_int) pa_nil))))
      (pss_cons (ps_set (i := 4) sc_law_spoilt.nd rfl (.inl rfl) (pe_ix ix_str pe_str (pc_f (c_law_take T) hr (by decide) (by rfl) (pa_cons (pv 0) (pa_cons pe_int pa_nil))) (fun _ _ => rfl)))
      (pss_cons (ps_if (pt_cmpR op_eq (pv 2) pe_int (nomark _)) (pss_one (ps_ret (pe_op op_add_str (pe_op op_add_str (pe_slice sl_str (pv 1) po_none (po_some (pv 3))) (pv 4)) (pe_slice sl_str (pv 1) (po_some (pe_op op_add (pv 3) pe_int)) po_none)))) pss_nil)
      (pss_cons (ps_if (pt_cmpR op_eq (pv 2) pe_int (nomark _)) (pss_one (ps_ret (pe_op op_add_str (pe_op op_add_str (pe_slice sl_str (pv 1) po_none (po_some (pv 3))) (pv 4)) (pe_slice sl_str (pv 1) (po_some (pv 3)) po_none)))) pss_nil)
      (pss_cons (ps_if (pt_cmpR op_eq (pv 2) pe_int (nomark _)) (pss_one (ps_ret (pe_op op_add_str (pv 1) (pe_slice sl_str pe_str po_none (po_some (pc_f (c_law_take T) hr (by decide) (by rfl) (pa_cons (pv 0) (pa_cons pe_int pa_nil)))))))) pss_nil)
      (pss_cons (ps_if (pt_cmpR op_eq (pv 2) pe_int (nomark _)) (pss_one (ps_ret pe_str)) pss_nil)
      (pss_one (ps_ret (pv 1)))))))))), ?_⟩
    rw [lit_q8, lit_p7, lit_emp]
    have sz : ∀ {x : List Nat}, x.length ≤ 1000 → (S x).length ≤ sizeLine := fun h => by rw [S_len]; exact szl (by omega)
    refine ⟨_, rfl, b, 6, k + 3, rfl, hb, by decide, by decide, fun way G1 w0 w1 b1 => ?_⟩
    refine ⟨_, rfl, _, rfl, _, rfl, sz (by omega), _, _, rfl, rfl, b, _, k + 2, rfl, b1.2, by rw [S_len]; omega, by rw [S_len]; omega, fun t G2 t0 t1 b2 => ?_⟩
    refine ⟨_, rfl, b, 8, k + 1, rfl, b2.2, by decide, by decide, fun d G3 d0 d1 b3 => ?_⟩
    obtain ⟨sg, hsg⟩ := at_some (x := [63, 48, 97, 32, 40, 41, 42, 35]) d0 d1
    refine ⟨_, _, sg, rfl, rfl, sz (by decide), hsg, ?_⟩
    obtain ⟨t, rfl⟩ : ∃ j : Nat, (j : Int) = t := ⟨t.toNat, by omega⟩
    have bb := (b1.trans b2).trans b3
    have z3 : ∀ m : List Nat, m.length ≤ 13 → Q (tx m) G3 := fun m hm => z G3 m (bb.le (by omega)) hm
    have c1 := cut_take x t
    have c2 := cut_drop x (t + 1)
    have c3 := cut_drop x t
    have l1 : (x.take t).length ≤ 6 := by rw [List.length_take]; omega
    have l2 : ∀ t, (x.drop t).length ≤ 6 := fun t => by rw [List.length_drop]; omega
    have ct1 : ((t : Nat) : Int) + 1 = ((t + 1 : Nat) : Int) := by omega
    have sg1 : (x.take t ++ [sg]).length = (x.take t).length + 1 := List.length_append
    refine ⟨_, rfl, rfl, _, rfl, ite2 (fun _ => ?_) (fun _ => ?_)⟩
    · refine ⟨_, rfl, _, rfl, _, rfl, _, rfl, sz (by omega), ?_⟩
      rw [c1]
      refine ⟨_, rfl, S (x.take t), S [sg], rfl, rfl, by rw [S_len, S_len]; exact szl (by show _ + 1 ≤ _; omega), ?_⟩
      rw [S_app]
      refine ⟨_, rfl, _, rfl, _, _, rfl, rfl, _, rfl, _, rfl, sz (by omega), ?_⟩
      rw [ct1, c2]
      have := l2 (t + 1)
      refine ⟨_, _, rfl, rfl, by rw [S_len, S_len, sg1]; exact szl (by omega), ?_⟩
      rw [S_app]
      exact z3 _ (by rw [List.length_append, sg1]; omega)
    · refine ⟨_, rfl, rfl, _, rfl, ite2 (fun _ => ?_) (fun _ => ?_)⟩
      · refine ⟨_, rfl, _, rfl, _, rfl, _, rfl, sz (by omega), ?_⟩
        rw [c1]
        refine ⟨_, rfl, S (x.take t), S [sg], rfl, rfl, by rw [S_len, S_len]; exact szl (by show _ + 1 ≤ _; omega), ?_⟩
        rw [S_app]
        refine ⟨_, rfl, _, rfl, _, rfl, _, rfl, sz (by omega), ?_⟩
        rw [c3]
        have := l2 t
        refine ⟨_, _, rfl, rfl, by rw [S_len, S_len, sg1]; exact szl (by omega), ?_⟩
        rw [S_app]
        exact z3 _ (by rw [List.length_append, sg1]; omega)
      · refine ⟨_, rfl, rfl, _, rfl, ite2 (fun _ => ?_) (fun _ => ?_)⟩
        · refine ⟨_, rfl, _, rfl, b, 8, k, rfl, b3.2, by decide, by decide, fun e G4 e0 e1 b4 => ?_⟩
          obtain ⟨e, rfl⟩ : ∃ j : Nat, (j : Int) = e := ⟨e.toNat, by omega⟩
          refine ⟨_, rfl, _, rfl, sz (by decide), ?_⟩
          rw [cut_take]
          have l7 : ([43, 45, 43, 45, 43, 45, 43].take e).length ≤ 7 := by rw [List.length_take]; exact Nat.min_le_right _ _
          refine ⟨_, _, rfl, rfl, by rw [S_len, S_len]; exact szl (by omega), ?_⟩
          rw [S_app]
          exact z G4 _ (bb.trans b4) (by rw [List.length_append]; omega)
        · refine ⟨_, rfl, rfl, _, rfl, ite2 (fun _ => ?_) (fun _ => ?_)⟩
          · exact z3 [] (by decide)
          · exact ⟨_, rfl, z3 x (by omega)⟩
end
end K17

end
section
set_option Elab.async false
set_option linter.all false
set_option maxRecDepth 100000
set_option maxHeartbeats 4000000
namespace K17
open PySem PySem.Spec PyProof.Rows L2 Kit
theorem lit_t6 : (Str.ofString "()+-? ") = S [40, 41, 43, 45, 63, 32] := by decide +kernel
section
variable {P : Program} {w : World} {K : PySem.W.Frag} {mg : Str → Option Value} {base : Heap} {a : Ad}
def spLSpT : Sp := fun vs H Q _ => ∃ (b : Addr) (k : Nat) (x : List Nat), vs = [.ref b, tx x] ∧ BoxAt (k + 3) H b ∧ x.length ≤ 20 ∧ ∀ G m, Bu k b H G → m.length ≤ 41 → Q (tx m) G
theorem c_law_spoilt_text (T : Txt K mg a) : Can P w K mg base 3 "_law_spoilt_text" spLSpT := by
  refine can_of T.d_law_spoilt_text sc_law_spoilt_text bd_law_spoilt_text (fun vs H Q E h => ?_) (fun f cdv A outer s0 H vs Q E hr h => ?_)
  · obtain ⟨b, k, x, rfl, _⟩ := h
    rfl
  · obtain ⟨b, k, x, rfl, hb, hx, z⟩ := h
    refine ⟨_, (pss_cons (ps_set (i := 2) sc_law_spoilt_text.nd rfl (.inl rfl) (pc_f (c_law_take T) hr (by decide) (by rfl) (pa_cons (pv 0) (pa_cons (pe_op op_add (pe_callB call_len_str (by rfl) T.b_len (by decide +kernel) (pa_cons (pv 1) pa_nil)) pe_int) pa_nil))))
      (pss_cons (ps_set (i := 3) sc_law_spoilt_text.nd rfl (.inl rfl) (pe_ix ix_str pe_str (pc_f (c_law_take T) hr (by decide) (by rfl) (pa_cons (pv 0) (pa_cons pe_int pa_nil))) (fun _ _ => rfl)))
      (pss_cons (ps_set (i := 4) sc_law_spoilt_text.nd rfl (.inl rfl) (pc_f (c_law_take T) hr (by decide) (by rfl) (pa_cons (pv 0) (pa_cons pe_int pa_nil))))
      (pss_cons (ps_if (pt_cmpR op_eq (pv 4) pe_int (nomark _)) (pss_one (ps_ret (pe_op op_add_str (pe_slice sl_str (pv 1) po_none (po_some (pv 2))) (pe_slice sl_str (pv 1) (po_some (pe_op op_add (pv 2) pe_int)) po_none)))) pss_nil)
      (pss_cons (ps_if (pt_cmpR op_eq (pv 4) pe_int (nomark _)) (pss_one (ps_ret (pe_op op_add_str (pe_op op_add_str (pe_slice sl_str (pv 1) po_none (po_some (pv 2))) (pv 3)) (pe_slice sl_str (pv 1) (po_some (pv 2)) po_none)))) pss_nil)
      (pss_cons (ps_if (pt_cmpR op_eq (pv 4) pe_int (nomark _)) (pss_one (ps_ret (pe_op op_add_str (pe_slice sl_str (pv 1) (po_some (pv 2)) po_none) (pe_slice sl_str (pv 1) po_none (po_some (pv 2)))))) pss_nil)
      (pss_one (ps_ret (pe_op op_add_str (pe_op op_add_str (pe_slice sl_str (pv 1) po_none (po_some (pv 2))) (pv 3)) (pe_slice sl_str (pv 1) (po_some (pe_op op_add (pv 2) pe_int)) po_none)))))))))), ?_⟩
    rw [lit_t6]
    have sz : ∀ {x : List Nat}, x.length ≤ 1000 → (S x).length ≤ sizeLine := fun h => by rw [S_len]; exact szl (by omega)
    refine ⟨_, rfl, _, rfl, _, rfl, sz (by omega), _, _, rfl, rfl, b, _, k + 2, rfl, hb, by rw [S_len]; omega, by rw [S_len]; omega, fun t G2 t0 t1 b2 => ?_⟩
    refine ⟨_, rfl, b, 6, k + 1, rfl, b2.2, by decide, by decide, fun d G3 d0 d1 b3 => ?_⟩
    obtain ⟨sg, hsg⟩ := at_some (x := [40, 41, 43, 45, 63, 32]) d0 d1
    refine ⟨_, _, sg, rfl, rfl, sz (by decide), hsg, ?_⟩
    refine ⟨_, rfl, b, 4, k, rfl, b3.2, by decide, by decide, fun way G4 w0 w1 b4 => ?_⟩
    obtain ⟨t, rfl⟩ : ∃ j : Nat, (j : Int) = t := ⟨t.toNat, by omega⟩
    have bb := (b2.trans b3).trans b4
    have z3 : ∀ m : List Nat, m.length ≤ 41 → Q (tx m) G4 := fun m hm => z G4 m bb hm
    have c1 := cut_take x t
    have c2 := cut_drop x (t + 1)
    have c3 := cut_drop x t
    have l1 : (x.take t).length ≤ 20 := by rw [List.length_take]; omega
    have l2 : ∀ t, (x.drop t).length ≤ 20 := fun t => by rw [List.length_drop]; omega
    have l3 := l2 (t + 1)
    have l4 := l2 t
    have ct1 : ((t : Nat) : Int) + 1 = ((t + 1 : Nat) : Int) := by omega
    have sg1 : (x.take t ++ [sg]).length = (x.take t).length + 1 := List.length_append
    refine ⟨_, rfl, rfl, _, rfl, ite2 (fun _ => ?_) (fun _ => ?_)⟩
    · refine ⟨_, rfl, _, rfl, _, rfl, _, rfl, sz (by omega), ?_⟩
      rw [c1]
      refine ⟨_, rfl, _, rfl, _, _, rfl, rfl, _, rfl, _, rfl, sz (by omega), ?_⟩
      rw [ct1, c2]
      refine ⟨_, _, rfl, rfl, by rw [S_len, S_len]; exact szl (by omega), ?_⟩
      rw [S_app]
      exact z3 _ (by rw [List.length_append]; omega)
    · refine ⟨_, rfl, rfl, _, rfl, ite2 (fun _ => ?_) (fun _ => ?_)⟩
      · refine ⟨_, rfl, _, rfl, _, rfl, _, rfl, sz (by omega), ?_⟩
        rw [c1]
        refine ⟨_, rfl, S (x.take t), S [sg], rfl, rfl, by rw [S_len, S_len]; exact szl (by show _ + 1 ≤ _; omega), ?_⟩
        rw [S_app]
        refine ⟨_, rfl, _, rfl, _, rfl, _, rfl, sz (by omega), ?_⟩
        rw [c3]
        refine ⟨_, _, rfl, rfl, by rw [S_len, S_len, sg1]; exact szl (by omega), ?_⟩
        rw [S_app]
        exact z3 _ (by rw [List.length_append, sg1]; omega)
      · refine ⟨_, rfl, rfl, _, rfl, ite2 (fun _ => ?_) (fun _ => ?_)⟩
        · refine ⟨_, rfl, _, rfl, _, rfl, _, rfl, sz (by omega), ?_⟩
          rw [c3]
          refine ⟨_, rfl, _, rfl, _, rfl, _, rfl, sz (by omega), ?_⟩
          rw [c1]
          refine ⟨_, _, rfl, rfl, by rw [S_len, S_len]; exact szl (by omega), ?_⟩
          rw [S_app]
          exact z3 _ (by rw [List.length_append]; omega)
        · refine ⟨_, rfl, _, rfl, _, rfl, _, rfl, sz (by omega), ?_⟩
          rw [c1]
          refine ⟨_, rfl, S (x.take t), S [sg], rfl, rfl, by rw [S_len, S_len]; exact szl (by show _ + 1 ≤ _; omega), ?_⟩
          rw [S_app]
          refine ⟨_, rfl, _, rfl, _, _, rfl, rfl, _, rfl, _, rfl, sz (by omega), ?_⟩
          rw [ct1, c2]
          refine ⟨_, _, rfl, rfl, by rw [S_len, S_len, sg1]; exact szl (by omega), ?_⟩
          rw [S_app]
          exact z3 _ (by rw [List.length_append, sg1]; omega)
end
end K17

end
section
set_option Elab.async false
set_option linter.all false
set_option maxRecDepth 100000
set_option maxHeartbeats 4000000
namespace K17
open PySem PySem.Spec PyProof.Rows L2 Kit
/-- a word with one more mark -/
def two (m : List Nat) : List (List Nat) := [m ++ [43], m ++ [45]]
def allW (lo hi : Nat) : List (List Nat) := (List.range (hi - lo + 1)).flatMap fun k => wordsN (lo + k)
theorem allW_succ (lo i : Nat) : allW lo (lo + (i + 1)) = allW lo (lo + i) ++ wordsN (lo + (i + 1)) := by
  unfold allW
  rw [show lo + (i + 1) - lo + 1 = (i + 1) + 1 by omega, show lo + i - lo + 1 = i + 1 by omega, List.range_succ, List.flatMap_append]
  simp
theorem allW_self (lo : Nat) : allW lo (lo + 0) = wordsN lo := by
  unfold allW
  rw [show lo + 0 - lo + 1 = 1 by omega]
  simp [List.range_succ]
theorem allW_small {lo hi : Nat} (h : hi ≤ 3) (h2 : lo ≤ hi) : (allW lo hi).length ≤ 15 := by
  have z : ∀ hi ≤ 3, ∀ lo ≤ hi, (allW lo hi).length ≤ 15 := by decide +kernel
  exact z hi h lo h2
theorem words_small {n : Nat} (h : n ≤ 3) : (wordsN n).length ≤ 8 := by
  rw [words_n]
  rcases (show n = 0 ∨ n = 1 ∨ n = 2 ∨ n = 3 by omega) with rfl | rfl | rfl | rfl <;> decide
theorem two_take {xs : List (List Nat)} {i : Nat} {m : List Nat} (h : xs[i]? = some m) : (xs.take (i + 1)).flatMap two = (xs.take i).flatMap two ++ two m := by
  rw [List.take_add_one, h, List.flatMap_append]
  simp
theorem mark_ext {m : List Nat} {j c : Nat} (h : [43, 45][j]? = some c) : (two m).take (j + 1) = (two m).take j ++ [m ++ [c]] := by
  match j, h with
  | 0, h =>
    cases h
    rfl
  | 1, h =>
    cases h
    rfl
section
variable {P : Program} {w : World} {K : PySem.W.Frag} {mg : Str → Option Value} {base : Heap} {a : Ad}
def spAllM : Sp := fun vs H Q _ => ∃ lo hi : Nat, vs = [.int (lo : Int), .int (hi : Int)] ∧ lo ≤ hi ∧ hi ≤ 3 ∧ ∀ G q, Same H G → H q = none → G q = some (.lst ((allW lo hi).map tx)) → Q (.ref q) G
theorem c_all_marks (T : Txt K mg a) : Can P w K mg base 1 "_all_marks" spAllM := by
  refine can_of T.d_all_marks sc_all_marks bd_all_marks (fun vs H Q E h => ?_) (fun f cdv A outer s0 H vs Q E hr h => ?_)
  · obtain ⟨lo, hi, rfl, _⟩ := h
    rfl
  · obtain ⟨lo, hi, rfl, hl, hh, z⟩ := h
    refine ⟨_, (pss_cons (ps_set (i := 2) sc_all_marks.nd rfl (.inl rfl) (pe_lst (pa_cons pe_str pa_nil)))
      (pss_cons (ps_for (passes_of rfl) (by rfl) (pi_range1 (by rfl) T.b_range (pa_cons (pv 0) pa_nil)) (pg_name (i := 3) sc_all_marks.nd rfl (.inl rfl)) (pss_one (ps_setLc2 (i := 2) (own := [("text", 4), ("mark", 5)]) (vs1 := [5]) (g := gName 4) (g1 := gName 5) (tt := tYes) (tt1 := tYes)  (by rfl) sc_all_marks.nd rfl rfl (sw_true rfl rfl rfl (by decide +kernel)) (kpi_list K (pv 2)) (blkOk_by (N := N_all_marks) (sc := defScope s_all_marks) (by decide +kernel)) (by decide) (fun _ _ _ _ _ => (pg_name (i := 4) sc_all_marks.nd rfl (.inl rfl))) (fun _ _ _ _ _ => pts_nil) (fun _ _ _ _ _ => (pi_str (C8.pe_gc (by rfl) T.g_MARKS))) (fun _ _ _ _ _ => (pg_name (i := 5) sc_all_marks.nd rfl (.inl rfl))) (fun _ _ _ _ _ => pts_nil) (fun _ _ _ _ _ => (pe_op op_add_str (pv 4) (pv 5))))))
      (pss_cons (ps_set (i := 6) sc_all_marks.nd rfl (.inl rfl) (pv 2))
      (pss_cons (ps_for (passes_of rfl) (by rfl) (pi_range2 (by rfl) T.b_range (pa_cons (pv 0) (pa_cons (pv 1) pa_nil))) (pg_name (i := 3) sc_all_marks.nd rfl (.inl rfl)) (pss_cons (ps_setLc2 (i := 6) (own := [("text", 4), ("mark", 5)]) (vs1 := [5]) (g := gName 4) (g1 := gName 5) (tt := tYes) (tt1 := tYes)  (by rfl) sc_all_marks.nd rfl rfl (sw_true rfl rfl rfl (by decide +kernel)) (kpi_list K (pv 6)) (blkOk_by (N := N_all_marks) (sc := defScope s_all_marks) (by decide +kernel)) (by decide) (fun _ _ _ _ _ => (pg_name (i := 4) sc_all_marks.nd rfl (.inl rfl))) (fun _ _ _ _ _ => pts_nil) (fun _ _ _ _ _ => (pi_str (C8.pe_gc (by rfl) T.g_MARKS))) (fun _ _ _ _ _ => (pg_name (i := 5) sc_all_marks.nd rfl (.inl rfl))) (fun _ _ _ _ _ => pts_nil) (fun _ _ _ _ _ => (pe_op op_add_str (pv 4) (pv 5))))
      (pss_one (ps_set (i := 2) sc_all_marks.nd rfl (.inl rfl) (pe_op op_cat (pv 2) (pv 6))))))
      (pss_one (ps_ret (pv 2))))))), ?_⟩
    rw [lit_emp, lit_marks]
    refine ⟨by show 1 ≤ sizeLine; decide, fun q0 hq0 => ?_⟩
    have k0 := ex_new (o := .lst [tx []]) hq0
    refine ⟨_, rfl, lo, rfl, by omega, by omega, for_it (walk_range (lo := 0) (n := ((lo : Nat) : Int).toNat)) (fun i σ G => Same H G ∧ ∃ (q : Addr) (x : Option V), H q = none ∧ G q = some (.lst ((wordsN i).map tx)) ∧ σ = [some (.int (lo : Int)), some (.int (hi : Int)), some (.ref q), x, none, none, none]) ⟨k0, q0, none, hq0, upd_same, rfl⟩ (fun _ _ _ _ _ => True.intro) ?_ ?_⟩
    · rintro i x σ G' G hi' ⟨k1, q, v1, hq, hG, rfl⟩ ⟨rfl, rfl⟩
      have hi' : i < lo := hi'
      have w8 := words_small (show i ≤ 3 by omega)
      refine ⟨_, rfl, q, rfl, ⟨_, seqL_of hG⟩, fun D hD => ?_⟩
      have nD : D ≠ q := fun e => by rw [e, hG] at hD; cases hD
      have fD : H D = none := free_same k1 hD
      refine lc_out (walk_list (xs := (wordsN i).map tx)) _ (fun j M => Same G M ∧ ∃ ys : List (List Nat), ys = ((wordsN i).take j).flatMap two ∧ ys.length = 2 * j ∧ M D = some (.lst (ys.map tx))) ⟨ex_new hD, [], rfl, rfl, upd_same⟩ (fun j M _ h => seqL_of (h.1 _ _ hG)) ?_ ?_
      · rintro j x M' M hj ⟨k2, ys, hys, lys, hM⟩ ⟨rfl, hx⟩
        rw [List.length_map] at hj
        have hm := List.getElem?_eq_getElem hj
        rw [List.getElem?_map, hm] at hx
        cases hx
        have lm : (wordsN i)[j].length = i := words_le i _ (List.getElem_mem _)
        refine ⟨rfl, yesT (iteT ⟨_, rfl, lc_in walk_str (fun t M' => Same G M' ∧ M' D = some (.lst ((ys ++ (two (wordsN i)[j]).take t).map tx))) ⟨k2, by rw [List.take_zero, List.append_nil]; exact hM⟩ (fun _ _ _ _ => True.intro) ?_ ?_⟩)⟩
        · rintro t c M1' M1 ht ⟨k3, hM1⟩ ⟨rfl, c', hc, rfl⟩
          have hc := at_S hc
          have ht : t < 2 := ht
          refine ⟨rfl, yesT (iteT ⟨_, rfl, _, rfl, _, _, rfl, rfl, by rw [S_len, lm]; exact szl (by show i + 1 ≤ _; omega), _, hM1, ?_, ?_⟩)⟩
          · rw [List.length_map, List.length_append, lys, List.length_take]
            exact szlt (by omega)
          · refine ⟨ex_mut k3 hD, ?_⟩
            rw [upd_same, mark_ext hc, ← List.append_assoc, List.map_append (l₁ := ys ++ _)]
            exact congrArg some (congrArg HO.lst (congrArg _ (congrArg (fun x => [V.str x]) (S_app _ _))))
        · rintro M1 ⟨k3, hM1⟩
          refine ⟨k3, ys ++ two (wordsN i)[j], ?_, ?_, hM1⟩
          · rw [two_take hm, ← hys]
          · rw [List.length_append, lys]
            show 2 * j + 2 = _
            omega
      · rintro M ⟨k2, ys, hys, _, hM⟩
        rw [List.length_map, List.take_length] at hys
        exact ⟨k1.trans k2, D, _, fD, by rw [hM, hys]; rfl, rfl⟩
    · rintro σ G ⟨k1, q, v1, hq, hG, rfl⟩
      refine ⟨_, rfl, _, rfl, _, rfl, (lo : Int), (hi : Int), rfl, by omega, ?_⟩
      have en : ((hi : Int) - (lo : Int)).toNat = hi - lo := by omega
      refine for_it (walk_range (lo := (lo : Int)) (n := ((hi : Int) - (lo : Int)).toNat)) (fun i σ G => Same H G ∧ ∃ (q q2 : Addr) (x : Option V), H q = none ∧ G q = some (.lst ((allW lo (lo + i)).map tx)) ∧ G q2 = some (.lst ((wordsN (lo + i)).map tx)) ∧ σ = [some (.int (lo : Int)), some (.int (hi : Int)), some (.ref q), x, none, none, some (.ref q2)]) ⟨k1, q, q, _, hq, by rw [allW_self]; exact hG, hG, rfl⟩ (fun _ _ _ _ _ => True.intro) ?_ ?_
      · rintro i x σ G' G hi' ⟨k1, q, q2, v1, hq, hG, hG2, rfl⟩ ⟨rfl, rfl⟩
        rw [en] at hi'
        have w8 := words_small (show lo + i ≤ 3 by omega)
        refine ⟨_, rfl, q2, rfl, ⟨_, seqL_of hG2⟩, fun D hD => ?_⟩
        have nD : D ≠ q2 := fun e => by rw [e, hG2] at hD; cases hD
        have fD : H D = none := free_same k1 hD
        refine lc_out (walk_list (xs := (wordsN (lo + i)).map tx)) _ (fun j M => Same G M ∧ ∃ ys : List (List Nat), ys = ((wordsN (lo + i)).take j).flatMap two ∧ ys.length = 2 * j ∧ M D = some (.lst (ys.map tx))) ⟨ex_new hD, [], rfl, rfl, upd_same⟩ (fun j M _ h => seqL_of (h.1 _ _ hG2)) ?_ ?_
        · rintro j x M' M hj ⟨k2, ys, hys, lys, hM⟩ ⟨rfl, hx⟩
          rw [List.length_map] at hj
          have hm := List.getElem?_eq_getElem hj
          rw [List.getElem?_map, hm] at hx
          cases hx
          have lm : (wordsN (lo + i))[j].length = lo + i := words_le (lo + i) _ (List.getElem_mem _)
          refine ⟨rfl, yesT (iteT ⟨_, rfl, lc_in walk_str (fun t M' => Same G M' ∧ M' D = some (.lst ((ys ++ (two (wordsN (lo + i))[j]).take t).map tx))) ⟨k2, by rw [List.take_zero, List.append_nil]; exact hM⟩ (fun _ _ _ _ => True.intro) ?_ ?_⟩)⟩
          · rintro t c M1' M1 ht ⟨k3, hM1⟩ ⟨rfl, c', hc, rfl⟩
            have hc := at_S hc
            have ht : t < 2 := ht
            refine ⟨rfl, yesT (iteT ⟨_, rfl, _, rfl, _, _, rfl, rfl, by rw [S_len, lm]; exact szl (by show lo + i + 1 ≤ _; omega), _, hM1, ?_, ?_⟩)⟩
            · rw [List.length_map, List.length_append, lys, List.length_take]
              exact szlt (by omega)
            · refine ⟨ex_mut k3 hD, ?_⟩
              rw [upd_same, mark_ext hc, ← List.append_assoc, List.map_append (l₁ := ys ++ _)]
              exact congrArg some (congrArg HO.lst (congrArg _ (congrArg (fun x => [V.str x]) (S_app _ _))))
          · rintro M1 ⟨k3, hM1⟩
            refine ⟨k3, ys ++ two (wordsN (lo + i))[j], ?_, ?_, hM1⟩
            · rw [two_take hm, ← hys]
            · rw [List.length_append, lys]
              show 2 * j + 2 = _
              omega
        · rintro M ⟨k2, ys, hys, _, hM⟩
          rw [List.length_map, List.take_length] at hys
          have hw : M D = some (.lst ((wordsN (lo + (i + 1))).map tx)) := by rw [hM, hys]; rfl
          have a15 := allW_small (show lo + i ≤ 3 by omega) (show lo ≤ lo + i by omega)
          have b8 := words_small (show lo + (i + 1) ≤ 3 by omega)
          refine ⟨_, rfl, _, rfl, q, D, _, _, rfl, rfl, k2 _ _ hG, hw, by rw [List.length_map, List.length_map]; exact szl (by omega), fun D2 hD2 => ?_⟩
          have k4 := k2.trans (ex_new (o := .lst ((allW lo (lo + i)).map tx ++ (wordsN (lo + (i + 1))).map tx)) hD2)
          have n4 : D ≠ D2 := fun e => by rw [← e, hw] at hD2; cases hD2
          exact ⟨k1.trans k4, D2, D, _, free_same (k1.trans k2) hD2, by rw [upd_same, allW_succ, List.map_append], by rw [upd_ne n4]; exact hw, rfl⟩
      · rintro σ G ⟨k1, q, q2, v1, hq, hG, hG2, rfl⟩
        rw [en, show lo + (hi - lo) = hi by omega] at hG
        exact ⟨_, rfl, z G q k1 hq hG⟩
end
end K17

end
section
set_option Elab.async false
set_option linter.all false
set_option maxRecDepth 100000
set_option maxHeartbeats 4000000
namespace K17
open PySem PySem.Spec PyProof.Rows L2 Kit
theorem lit_po : (Str.ofString "(") = S [40] := by decide +kernel
theorem lit_pc : (Str.ofString ")") = S [41] := by decide +kernel
theorem has1 (l : List Nat) (c : Nat) : (!(PySem.Builtin.Str.occurrences (S l) (S [c]) 0 (S l).length 1).isEmpty) = decide (c ∈ l) := PySem.StrLaws.found_one (S l) c
/-- a text that is written as START(LOOP) -/
def Wr (l u v : List Nat) : Prop := l = u ++ 40 :: (v ++ [41]) ∧ (40 ∉ u ∧ 41 ∉ u) ∧ 40 ∉ v ∧ 41 ∉ v
theorem Wr.uniq {l u v u2 v2 : List Nat} (h : Wr l u v) (g : Wr l u2 v2) : u = u2 ∧ v = v2 := by
  obtain ⟨rfl, ⟨a1, _⟩, a2, _⟩ := h
  obtain ⟨e, ⟨b1, _⟩, b2, _⟩ := g
  have n1 : ∀ {w : List Nat}, 40 ∉ w → 40 ∉ w ++ [41] := fun h m => by
    rcases List.mem_append.mp m with q | q
    · exact h q
    · exact absurd (List.mem_singleton.mp q) (by decide)
  have c1 := cutc_at (c := 40) (acc := []) (v := v ++ [41]) a1
  have c2 := cutc_at (c := 40) (acc := []) (v := v2 ++ [41]) b1
  rw [cutc_none (n1 a2)] at c1
  rw [cutc_none (n1 b2), ← e, c1] at c2
  simp only [List.nil_append, List.cons.injEq, and_true] at c2
  obtain ⟨rfl, c2⟩ := c2
  exact ⟨rfl, (List.append_inj_left' c2 rfl)⟩
theorem Wr.two {u p u2 v2 : List Nat} (h : Wr (u ++ 40 :: p) u2 v2) (hu : 40 ∉ u) (hp : 40 ∉ p) : u = u2 ∧ p = v2 ++ [41] := by
  obtain ⟨e, ⟨b1, _⟩, b2, _⟩ := h
  have n1 : 40 ∉ v2 ++ [41] := fun m => by
    rcases List.mem_append.mp m with q | q
    · exact b2 q
    · exact absurd (List.mem_singleton.mp q) (by decide)
  have c1 := cutc_at (c := 40) (acc := []) (v := p) hu
  have c2 := cutc_at (c := 40) (acc := []) (v := v2 ++ [41]) b1
  rw [cutc_none hp] at c1
  rw [cutc_none n1, ← e, c1] at c2
  simp only [List.nil_append, List.cons.injEq, and_true] at c2
  exact c2
theorem Wr.one {l u v : List Nat} (h : Wr l u v) : l.count 40 = 1 ∧ l.count 41 = 1 := by
  obtain ⟨rfl, ⟨b1, b3⟩, b2, b4⟩ := h
  constructor
  · rw [List.count_append, List.count_cons_self, List.count_append, count_zero.mpr b1, count_zero.mpr b2]
    decide
  · rw [List.count_append, List.count_cons_of_ne (by decide), List.count_append, count_zero.mpr b3, count_zero.mpr b4]
    decide
theorem end_init (v : List Nat) (c : Nat) : (v ++ [c]).take ((v ++ [c]).length - 1) = v ∧ (v ++ [c]).drop ((v ++ [c]).length - 1) = [c] := by
  rw [List.length_append]
  show (v ++ [c]).take v.length = v ∧ (v ++ [c]).drop v.length = [c]
  exact ⟨List.take_left, List.drop_left⟩
theorem Wr.len {l u v : List Nat} (h : Wr l u v) : u.length + v.length + 2 = l.length := by
  rw [h.1, List.length_append, List.length_cons, List.length_append]
  show _ = _ + (_ + 1 + 1)
  omega
section
variable {P : Program} {w : World} {K : PySem.W.Frag} {mg : Str → Option Value} {base : Heap} {a : Ad}
theorem made2 {u v : List Nat} (hu : marksB u = true) (hv : marksB v = true) (h0 : v ≠ []) {H G : Hp} {y dx : Addr} {s l : List Nat} (hy : H y = none) (hdx : H dx = none) (ne : dx ≠ y) (k : ∀ b o, upd (upd H dx (.own y)) y (.ins a.Mask dx []) b = some o → b ≠ y → G b = some o) (g : G y = some (.ins a.Mask dx (ml s l))) (L : Lst (at_ u v) s l) (ls : s.length ≤ u.length) :
    Same H G ∧ MaskAt a G y (at_ u v) s l := by
  unfold marksB at hu hv
  rw [Bool.and_eq_true, decide_eq_true_iff] at hu hv
  refine ⟨fun b o hb => k b o (((ex_new hdx).trans (ex_new (by rw [upd_ne (Ne.symm ne)]; exact hy))) b o hb) (ne_of_none hb hy), ⟨dx, g⟩, L, by omega, ?_, fun i => ?_⟩
  · refine Nat.dvd_trans (L.dvd (at_per h0)) ?_
    have p := List.length_pos_iff.mpr h0
    rcases (show v.length = 1 ∨ v.length = 2 ∨ v.length = 3 ∨ v.length = 4 ∨ v.length = 5 ∨ v.length = 6 by omega) with e | e | e | e | e | e <;> rw [e] <;> decide
  · by_cases c : i < u.length
    · exact List.all_eq_true.mp hu.2 _ (List.mem_of_getElem? (at_s (l := v) c))
    · have lt := Nat.mod_lt (i - u.length) (List.length_pos_iff.mpr h0)
      have e := at_l (s := u) lt
      rw [at_ge (show u.length ≤ u.length + (i - u.length) % v.length by omega), show u.length + (i - u.length) % v.length - u.length = (i - u.length) % v.length by omega, Nat.mod_mod, ← at_ge (by omega)] at e
      exact List.all_eq_true.mp hv.2 _ (List.mem_of_getElem? e)
def spMRead (a : Ad) : Sp := fun vs H Q E => ∃ l : List Nat, vs = [.ref a.Mask, tx l] ∧ l.length ≤ 1000 ∧ ((∀ u v, ¬ Wr l u v) → Ra E a.BadMask "part" (.str "text") H) ∧
  ∀ u v, Wr l u v → (marksB u = false → Ra E a.BadMask "part" (.str "start") H) ∧ (marksB u = true → (v = [] ∨ marksB v = false) → Ra E a.BadMask "part" (.str "loop") H) ∧
    (marksB u = true → v ≠ [] → marksB v = true → ∀ G q s2 l2, Same H G → MaskAt a G q (at_ u v) s2 l2 → H q = none → Q (.ref q) G)
theorem c_Mask_read (T : Txt K mg a) : CanC P w K mg base 5 a.Mask "read" (spMRead a) := by
  refine canC_of T.m_Mask_read sc_Mask_read bd_Mask_read (fun vs H Q E h => ?_) (fun f cdv A outer s0 H vs Q E hr h => ?_)
  · obtain ⟨l, rfl, _⟩ := h
    rfl
  · obtain ⟨l, rfl, hl, y1, y2⟩ := h
    refine ⟨_, (pss_cons (ps_set (i := 2) sc_Mask_read.nd rfl (.inl rfl) (pe_split (pv 1) pe_str))
      (pss_cons (ps_if (pt_cmpR op_ne (pe_callB (klen_seq K) (by rfl) T.b_len (by decide +kernel) (pa_cons (pv 2) pa_nil)) pe_int (nomark _)) (pss_one (pr_err (c_BadMask T) (takes_of rfl rfl rfl rfl) (by rfl) hr (by decide) (by rfl) pe_str)) pss_nil)
      (pss_cons (ps_if (PW.pt (pw_or (pt_cmpR op_in_str pe_str (pe_op op_add_str (pe_ix (kix_list K) (pv 2) pe_int (fun _ _ => rfl)) (pe_slice sl_str (pe_ix (kix_list K) (pv 2) pe_int (fun _ _ => rfl)) po_none (po_some (pe_un un_neg pe_int)))) (by rfl)) (pw_or1 (pt_not (pt_val (pe_m1 PySem.F.slot_str_endswith PySem.F.type_str_endswith mt_endswith (pe_ix (kix_list K) (pv 2) pe_int (fun _ _ => rfl)) pe_str)))))) (pss_one (pr_err (c_BadMask T) (takes_of rfl rfl rfl rfl) (by rfl) hr (by decide) (by rfl) pe_str)) pss_nil)
      (pss_one (ps_ret (pc_nV (i := 0) (c_Mask_init T) (takes_of rfl rfl rfl rfl) hr (by decide) (by rfl) (.inl rfl) (pa_cons (pe_ix (kix_list K) (pv 2) pe_int (fun _ _ => rfl)) (pa_cons (pe_slice sl_str (pe_ix (kix_list K) (pv 2) pe_int (fun _ _ => rfl)) po_none (po_some (pe_un un_neg pe_int))) pa_nil)))))))), ?_⟩
    rw [lit_po, lit_pc]
    have sz : ∀ {x : List Nat}, x.length ≤ 1000 → (S x).length ≤ sizeLine := fun h => by rw [S_len]; exact szl (by omega)
    refine ⟨_, rfl, ⟨S l, rfl⟩, S l, S [40], rfl, rfl, by decide, by rw [S_len]; exact szl (by omega), fun q hq => ?_⟩
    rw [split1 l (by decide), List.map_map]
    have k1 := ex_new (o := .lst ((cutc 40 [] l).map (V.str ∘ S))) hq
    refine ⟨_, rfl, q, _, rfl, .inl (seqL_of upd_same), rfl, _, rfl, ?_⟩
    by_cases c1 : l.count 40 = 1
    · obtain ⟨u, p, rfl, hu, hp⟩ := one_cut c1
      have ec : cutc 40 [] (u ++ 40 :: p) = [u, p] := by rw [cutc_at hu, cutc_none hp]; rfl
      have ln : (u ++ 40 :: p).length = u.length + (p.length + 1) := by rw [List.length_append, List.length_cons]
      rw [ec]
      rw [ec] at k1
      refine neT ?_
      refine ⟨_, rfl, q, _, 0, _, rfl, rfl, seqL_of upd_same, rfl, _, rfl, q, _, 1, _, rfl, rfl, seqL_of upd_same, rfl, _, rfl, _, rfl, _, rfl, sz (by omega), ?_⟩
      rw [cut_init]
      refine ⟨_, _, rfl, rfl, by show (S u).length + _ ≤ _; rw [S_len, S_len, List.length_take]; exact szl (by omega), ?_⟩
      refine ⟨_, _, rfl, rfl, ?_⟩
      rw [S_app, has1]
      have bad : (∀ u2 v2, ¬ Wr (u ++ 40 :: p) u2 v2) → Ra E a.BadMask "part" (.str "text") (upd H q (.lst ([u, p].map (V.str ∘ S)))) := fun h => (y1 h).mono k1
      refine ⟨_, rfl, ?_⟩
      by_cases c2 : 41 ∈ u ++ p.take (p.length - 1)
      · rw [decide_eq_true c2]
        refine iteT (iteT ((bad fun u2 v2 h => ?_).now))
        obtain ⟨rfl, rfl⟩ := h.two hu hp
        obtain ⟨_, ⟨_, b3⟩, _, b4⟩ := h
        rw [(end_init v2 41).1] at c2
        exact (List.mem_append.mp c2).elim b3 b4
      · rw [decide_eq_false c2]
        refine iteF ⟨_, rfl, q, _, 1, _, rfl, rfl, seqL_of upd_same, rfl, ⟨S p, rfl⟩, S p, S [41], rfl, rfl, ?_⟩
        rw [ends1]
        refine ⟨_, rfl, ?_⟩
        by_cases c3 : p.drop (p.length - 1) = [41]
        · rw [decide_eq_true c3]
          refine iteF ?_
          obtain ⟨v, rfl⟩ : ∃ v, p = v ++ [41] := ⟨p.take (p.length - 1), by rw [← c3, List.take_append_drop]⟩
          rw [(end_init v 41).1] at c2
          have wr : Wr (u ++ 40 :: (v ++ [41])) u v := ⟨rfl, ⟨hu, fun m => c2 (List.mem_append_left _ m)⟩, fun m => hp (List.mem_append_left _ m), fun m => c2 (List.mem_append_right _ m)⟩
          obtain ⟨z1, z2, z3⟩ := y2 u v wr
          have n3 := wr.len
          refine ⟨rfl, _, rfl, q, _, 0, _, rfl, rfl, seqL_of upd_same, rfl, _, rfl, q, _, 1, _, rfl, rfl, seqL_of upd_same, rfl, _, rfl, _, rfl, _, rfl, sz (by omega), ?_⟩
          rw [cut_init, (end_init v 41).1]
          intro y dx hy hdx hne
          have nq : y ≠ q := fun e => by rw [e, upd_same] at hy; cases hy
          have k2 := k1.trans ((ex_new (o := .own y) hdx).trans (ex_new (o := .ins a.Mask dx []) (by rw [upd_ne (Ne.symm hne)]; exact hy)))
          refine ⟨y, dx, u, v, rfl, upd_same, by omega, by omega, fun h => (z1 h).mono k2, fun h g => (z2 h g).mono k2, fun h1 h2 h3 G s2 l2 k g L ls => ⟨rfl, ?_⟩⟩
          obtain ⟨sm, ma⟩ := made2 (a := a) h1 h3 h2 hy hdx hne k g L ls
          exact z3 h1 h2 h3 G y s2 l2 (k1.trans sm) ma (free_same k1 hy)
        · rw [decide_eq_false c3]
          refine iteT ((bad fun u2 v2 h => ?_).now)
          obtain ⟨rfl, rfl⟩ := h.two hu hp
          exact c3 (end_init v2 41).2
    · refine itP ?_ (((y1 fun u v h => c1 h.one.1).mono k1).now)
      rw [List.length_map, cutc_len, Bool.not_eq_true', decide_eq_false_iff_not]
      intro e
      injection e with e
      omega
end
end K17

end
section
set_option Elab.async false
set_option linter.all false
set_option maxRecDepth 100000
set_option maxHeartbeats 4000000
namespace K17
open PySem PySem.Spec PyProof.Rows L2 Kit
theorem wrong_start {u v : List Nat} (h : marksB u = false) : wrongP u v = .str "start" := if_pos h
theorem wrong_loop {u v : List Nat} (h : marksB u = true) (g : v = [] ∨ marksB v = false) : wrongP u v = .str "loop" := by
  unfold wrongP
  rw [if_neg (by rw [h]; decide), if_pos g]
theorem wrong_none {u v : List Nat} (h : marksB u = true) (g : v ≠ []) (k : marksB v = true) : wrongP u v = .non := by
  unfold wrongP
  rw [if_neg (by rw [h]; decide), if_neg (by rw [k]; exact fun q => q.elim g (by decide))]
section
variable {P : Program} {w : World} {K : PySem.W.Frag} {mg : Str → Option Value} {base : Heap} {a : Ad}
/-- what a text is refused with -/
def TextV (t : List Nat) (y : V) : Prop := ((∀ u v, ¬ Wr t u v) → y = .str "text") ∧ ∀ u v, Wr t u v → y = wrongP u v
def spLRef : Sp := fun vs H Q _ => ∃ (s l : List Nat) (y : V), vs = [tx s, tx l, y] ∧ ((y = .non ∧ s.length ≤ 1000 ∧ l.length ≤ 1000 ∧ ∀ G, Same H G → Q (wrongP s l) G) ∨
  ∃ (t : List Nat) (d : V), y = tx t ∧ t.length ≤ 1000 ∧ TextV t d ∧ ∀ G, Same H G → Q d G)
theorem c_law_refused (T : Txt K mg a) : Can P w K mg base 7 "_law_refused" spLRef := by
  refine can_of T.d_law_refused sc_law_refused bd_law_refused (fun vs H Q E h => ?_) (fun f cdv A outer s0 H vs Q E hr h => ?_)
  · obtain ⟨s, l, y, rfl, _⟩ := h
    rfl
  · obtain ⟨s, l, y, rfl, h⟩ := h
    refine ⟨_, (C8.pss_cut (ps_try_as (i := 3) (tb := _) rfl rfl sc_law_refused.nd rfl rfl ⟨rfl, by decide, .inl T.g_GalloonError⟩ takes0 (fun W pn xe tk po => (pss_one (ps_if (pt_cmpR op_isN (pv 2) pe_non (nomark _)) (pss_one (ps_expr (pc_nS (c_Mask_init T) tk hr (by decide) (by rfl) (pa_cons (pv 0) (pa_cons (pv 1) pa_nil))))) (pss_one (ps_expr (pc_cmS (c_Mask_read T) tk hr (by decide) (pe_glob (v := .ref a.Mask) (by rfl) T.c_Mask.gC rfl) (pa_cons (pv 2) pa_nil))))))) (fun ae oe cls d pn hz hf => (pss_cons (ps_if (PW.pt (pw_and (pt_val (pe_callB (call_isU hz hf) (by rfl) T.b_isinstance (by decide +kernel) (pa_cons (pv 3) (pa_cons (pe_glob (v := .ref a.BadMask) (by rfl) T.e_BadMask.gC rfl) pa_nil)))) (pw_and (pt_val (pe_callB (call_isU hz hf) (by rfl) T.b_isinstance (by decide +kernel) (pa_cons (pv 3) (pa_cons (pe_bltn (v := .ty "ValueError") (by rfl) T.b_ValueError (by decide +kernel) rfl) pa_nil)))) (pw_and1 (pt_val (pe_callB (kisi K) (by rfl) T.b_isinstance (by decide +kernel) (pa_cons (pe_xu hz hf (pv 3)) (pa_cons (pe_bltn (v := .ty "str") (by rfl) T.b_str (by decide +kernel) rfl) pa_nil)))))))) (pss_one (ps_if (PW.pt (pw_and (pt_not (pt_val (pe_callB (call_isU hz hf) (by rfl) T.b_isinstance (by decide +kernel) (pa_cons (pv 3) (pa_cons (pe_glob (v := .ref a.BadIndex) (by rfl) T.e_BadIndex.gC rfl) pa_nil))))) (pw_and (pt_not (pt_val (pe_callB (call_isU hz hf) (by rfl) T.b_isinstance (by decide +kernel) (pa_cons (pv 3) (pa_cons (pe_glob (v := .ref a.BadCount) (by rfl) T.e_BadCount.gC rfl) pa_nil))))) (pw_and1 (pt_not (pt_val (pe_callB (call_isU hz hf) (by rfl) T.b_isinstance (by decide +kernel) (pa_cons (pv 3) (pa_cons (pe_glob (v := .ref a.BadPaint) (by rfl) T.e_BadPaint.gC rfl) pa_nil))))))))) (pss_one (ps_ret (pe_xu hz hf (pv 3)))) pss_nil)) pss_nil)
      (pss_one (ps_ret pe_str)))))
      (pss_one (ps_ret pe_non))), ?_⟩
    refine ⟨fun σ G => Q .non G, ?_, fun σ G h => h⟩
    rcases h with ⟨rfl, hs, hl, z⟩ | ⟨t, d, rfl, ht, tv, z⟩
    · refine ⟨_, rfl, rfl, _, rfl, iteT ⟨_, rfl, _, rfl, fun y dx hy hdx hne => ?_⟩⟩
      have k2 : Same H (upd (upd H dx (.own y)) y (.ins a.Mask dx [])) := (ex_new (o := .own y) hdx).trans (ex_new (o := .ins a.Mask dx []) (by rw [upd_ne (Ne.symm hne)]; exact hy))
      refine ⟨y, dx, s, l, rfl, upd_same, hs, hl, fun h1 d M s1 hd => ⟨true, T.xm_e 3 (by decide), fun _ x hx => ?_, nofun⟩, fun h1 h2 d M s1 hd => ⟨true, T.xm_e 3 (by decide), fun _ x hx => ?_, nofun⟩, fun h1 h2 h3 G s2 l2 k g L ls => ⟨rfl, ?_⟩⟩
      · have zz := z M (k2.trans s1)
        rw [wrong_start h1] at zz
        refine ⟨_, rfl, a.BadMask, _, _, true, rfl, T.x_BadMask, xdok hd, rfl, fun u h => h, T.kk_e 3 (by decide) 3 (by decide), _, rfl, iteT ⟨_, rfl, a.BadMask, _, _, true, rfl, T.x_BadMask, xdok hd, rfl, fun u h => h, T.kv_e 3 (by decide), _, rfl, iteT ⟨_, rfl, a.BadMask, d, _, _, rfl, rfl, T.x_BadMask.xf, T.e_BadMask.noF, rfl, hd, by rw [List.lookup_cons, beq_self_eq_true], _, _, _, _, true, rfl, .ty _, .base (.str _), rfl, _, rfl, iteT ?_⟩⟩⟩
        refine ⟨_, rfl, a.BadMask, _, _, false, rfl, T.x_BadMask, xdok hd, rfl, fun u h => h, T.kk_e 3 (by decide) 0 (by decide), _, rfl, iteT ⟨_, rfl, a.BadMask, _, _, false, rfl, T.x_BadMask, xdok hd, rfl, fun u h => h, T.kk_e 3 (by decide) 1 (by decide), _, rfl, iteT ⟨_, rfl, a.BadMask, _, _, false, rfl, T.x_BadMask, xdok hd, rfl, fun u h => h, T.kk_e 3 (by decide) 2 (by decide), _, rfl, iteT ?_⟩⟩⟩
        exact ⟨_, rfl, a.BadMask, d, _, _, rfl, rfl, T.x_BadMask.xf, T.e_BadMask.noF, rfl, hd, by rw [List.lookup_cons, beq_self_eq_true], zz⟩
      · have zz := z M (k2.trans s1)
        rw [wrong_loop h1 h2] at zz
        refine ⟨_, rfl, a.BadMask, _, _, true, rfl, T.x_BadMask, xdok hd, rfl, fun u h => h, T.kk_e 3 (by decide) 3 (by decide), _, rfl, iteT ⟨_, rfl, a.BadMask, _, _, true, rfl, T.x_BadMask, xdok hd, rfl, fun u h => h, T.kv_e 3 (by decide), _, rfl, iteT ⟨_, rfl, a.BadMask, d, _, _, rfl, rfl, T.x_BadMask.xf, T.e_BadMask.noF, rfl, hd, by rw [List.lookup_cons, beq_self_eq_true], _, _, _, _, true, rfl, .ty _, .base (.str _), rfl, _, rfl, iteT ?_⟩⟩⟩
        refine ⟨_, rfl, a.BadMask, _, _, false, rfl, T.x_BadMask, xdok hd, rfl, fun u h => h, T.kk_e 3 (by decide) 0 (by decide), _, rfl, iteT ⟨_, rfl, a.BadMask, _, _, false, rfl, T.x_BadMask, xdok hd, rfl, fun u h => h, T.kk_e 3 (by decide) 1 (by decide), _, rfl, iteT ⟨_, rfl, a.BadMask, _, _, false, rfl, T.x_BadMask, xdok hd, rfl, fun u h => h, T.kk_e 3 (by decide) 2 (by decide), _, rfl, iteT ?_⟩⟩⟩
        exact ⟨_, rfl, a.BadMask, d, _, _, rfl, rfl, T.x_BadMask.xf, T.e_BadMask.noF, rfl, hd, by rw [List.lookup_cons, beq_self_eq_true], zz⟩
      · obtain ⟨sm, ma⟩ := made2 (a := a) h1 h3 h2 hy hdx hne k g L ls
        have zz := z G sm
        rw [wrong_none h1 h2 h3] at zz
        exact zz
    · have z1 : (∀ u v, ¬ Wr t u v) → ∀ G, Same H G → Q (.str "text") G := fun h G k => by rw [← tv.1 h]; exact z G k
      have z2 : ∀ u v, Wr t u v → ∀ G, Same H G → Q (wrongP u v) G := fun u v h G k => by rw [← tv.2 u v h]; exact z G k
      refine ⟨_, rfl, rfl, _, rfl, iteF ⟨rfl, _, rfl, t, rfl, ht, fun h1 d M s1 hd => ⟨true, T.xm_e 3 (by decide), fun _ x hx => ?_, nofun⟩, fun u v wr => ⟨fun h1 d M s1 hd => ⟨true, T.xm_e 3 (by decide), fun _ x hx => ?_, nofun⟩, fun h1 h2 d M s1 hd => ⟨true, T.xm_e 3 (by decide), fun _ x hx => ?_, nofun⟩, fun h1 h2 h3 G q s2 l2 k _ _ => ?_⟩⟩⟩
      · have zz := z1 h1 M s1
        refine ⟨_, rfl, a.BadMask, _, _, true, rfl, T.x_BadMask, xdok hd, rfl, fun u h => h, T.kk_e 3 (by decide) 3 (by decide), _, rfl, iteT ⟨_, rfl, a.BadMask, _, _, true, rfl, T.x_BadMask, xdok hd, rfl, fun u h => h, T.kv_e 3 (by decide), _, rfl, iteT ⟨_, rfl, a.BadMask, d, _, _, rfl, rfl, T.x_BadMask.xf, T.e_BadMask.noF, rfl, hd, by rw [List.lookup_cons, beq_self_eq_true], _, _, _, _, true, rfl, .ty _, .base (.str _), rfl, _, rfl, iteT ?_⟩⟩⟩
        refine ⟨_, rfl, a.BadMask, _, _, false, rfl, T.x_BadMask, xdok hd, rfl, fun u h => h, T.kk_e 3 (by decide) 0 (by decide), _, rfl, iteT ⟨_, rfl, a.BadMask, _, _, false, rfl, T.x_BadMask, xdok hd, rfl, fun u h => h, T.kk_e 3 (by decide) 1 (by decide), _, rfl, iteT ⟨_, rfl, a.BadMask, _, _, false, rfl, T.x_BadMask, xdok hd, rfl, fun u h => h, T.kk_e 3 (by decide) 2 (by decide), _, rfl, iteT ?_⟩⟩⟩
        exact ⟨_, rfl, a.BadMask, d, _, _, rfl, rfl, T.x_BadMask.xf, T.e_BadMask.noF, rfl, hd, by rw [List.lookup_cons, beq_self_eq_true], zz⟩
      · have zz := z2 u v wr M s1
        rw [wrong_start h1] at zz
        refine ⟨_, rfl, a.BadMask, _, _, true, rfl, T.x_BadMask, xdok hd, rfl, fun u h => h, T.kk_e 3 (by decide) 3 (by decide), _, rfl, iteT ⟨_, rfl, a.BadMask, _, _, true, rfl, T.x_BadMask, xdok hd, rfl, fun u h => h, T.kv_e 3 (by decide), _, rfl, iteT ⟨_, rfl, a.BadMask, d, _, _, rfl, rfl, T.x_BadMask.xf, T.e_BadMask.noF, rfl, hd, by rw [List.lookup_cons, beq_self_eq_true], _, _, _, _, true, rfl, .ty _, .base (.str _), rfl, _, rfl, iteT ?_⟩⟩⟩
        refine ⟨_, rfl, a.BadMask, _, _, false, rfl, T.x_BadMask, xdok hd, rfl, fun u h => h, T.kk_e 3 (by decide) 0 (by decide), _, rfl, iteT ⟨_, rfl, a.BadMask, _, _, false, rfl, T.x_BadMask, xdok hd, rfl, fun u h => h, T.kk_e 3 (by decide) 1 (by decide), _, rfl, iteT ⟨_, rfl, a.BadMask, _, _, false, rfl, T.x_BadMask, xdok hd, rfl, fun u h => h, T.kk_e 3 (by decide) 2 (by decide), _, rfl, iteT ?_⟩⟩⟩
        exact ⟨_, rfl, a.BadMask, d, _, _, rfl, rfl, T.x_BadMask.xf, T.e_BadMask.noF, rfl, hd, by rw [List.lookup_cons, beq_self_eq_true], zz⟩
      · have zz := z2 u v wr M s1
        rw [wrong_loop h1 h2] at zz
        refine ⟨_, rfl, a.BadMask, _, _, true, rfl, T.x_BadMask, xdok hd, rfl, fun u h => h, T.kk_e 3 (by decide) 3 (by decide), _, rfl, iteT ⟨_, rfl, a.BadMask, _, _, true, rfl, T.x_BadMask, xdok hd, rfl, fun u h => h, T.kv_e 3 (by decide), _, rfl, iteT ⟨_, rfl, a.BadMask, d, _, _, rfl, rfl, T.x_BadMask.xf, T.e_BadMask.noF, rfl, hd, by rw [List.lookup_cons, beq_self_eq_true], _, _, _, _, true, rfl, .ty _, .base (.str _), rfl, _, rfl, iteT ?_⟩⟩⟩
        refine ⟨_, rfl, a.BadMask, _, _, false, rfl, T.x_BadMask, xdok hd, rfl, fun u h => h, T.kk_e 3 (by decide) 0 (by decide), _, rfl, iteT ⟨_, rfl, a.BadMask, _, _, false, rfl, T.x_BadMask, xdok hd, rfl, fun u h => h, T.kk_e 3 (by decide) 1 (by decide), _, rfl, iteT ⟨_, rfl, a.BadMask, _, _, false, rfl, T.x_BadMask, xdok hd, rfl, fun u h => h, T.kk_e 3 (by decide) 2 (by decide), _, rfl, iteT ?_⟩⟩⟩
        exact ⟨_, rfl, a.BadMask, d, _, _, rfl, rfl, T.x_BadMask.xf, T.e_BadMask.noF, rfl, hd, by rw [List.lookup_cons, beq_self_eq_true], zz⟩
      · have zz := z2 u v wr G k
        rw [wrong_none h1 h2 h3] at zz
        exact zz
def spLBadT : Sp := fun vs H Q _ => ∃ (l : List Nat) (d : V), vs = [tx l] ∧ l.length ≤ 1000 ∧ TextV l d ∧ Q d H
theorem c_law_bad_text (T : Txt K mg a) : Can P w K mg base 4 "_law_bad_text" spLBadT := by
  refine can_of T.d_law_bad_text sc_law_bad_text bd_law_bad_text (fun vs H Q E h => ?_) (fun f cdv A outer s0 H vs Q E hr h => ?_)
  · obtain ⟨l, d, rfl, _⟩ := h
    rfl
  · obtain ⟨l, d, rfl, hl, tv, z⟩ := h
    have z1 : (∀ u v, ¬ Wr l u v) → Q (.str "text") H := fun h => by rw [← tv.1 h]; exact z
    have z2 : ∀ u v, Wr l u v → Q (wrongP u v) H := fun u v h => by rw [← tv.2 u v h]; exact z
    refine ⟨_, (pss_cons (ps_if (PW.pt (pw_or (pt_cmpR op_ne (pe_m1 PySem.F.slot_str_count PySem.F.type_str_count mt_count (pv 0) pe_str) pe_int (nomark _)) (pw_or (pt_cmpR op_ne (pe_m1 PySem.F.slot_str_count PySem.F.type_str_count mt_count (pv 0) pe_str) pe_int (nomark _)) (pw_or1 (pt_cmpR op_ne (pe_slice sl_str (pv 0) (po_some (pe_un un_neg pe_int)) po_none) pe_str (nomark _)))))) (pss_one (ps_ret pe_str)) pss_nil)
      (pss_cons (ps_set (i := 1) sc_law_bad_text.nd rfl (.inl rfl) (pe_m1 PySem.F.slot_str_find PySem.F.type_str_find mt_find (pv 0) pe_str))
      (pss_one (ps_ret (pc_f (c_law_bad_part T) hr (by decide) (by rfl) (pa_cons (pe_slice sl_str (pv 0) po_none (po_some (pv 1))) (pa_cons (pe_slice sl_str (pv 0) (po_some (pe_op op_add (pv 1) pe_int)) (po_some (pe_un un_neg pe_int))) pa_nil))))))), ?_⟩
    rw [lit_po, lit_pc]
    have sz : ∀ {x : List Nat}, x.length ≤ 1000 → (S x).length ≤ sizeLine := fun h => by rw [S_len]; exact szl (by omega)
    have cc : ∀ n : Nat, n = 1 → (!decide (V.int (n : Int) = V.int 1)) = false := fun n h => by subst h; rfl
    have cn : ∀ n : Nat, n ≠ 1 → (!decide (V.int (n : Int) = V.int 1)) = true := fun n h => by
      rw [decide_eq_false (fun e => h (by injection e with e; omega))]
      rfl
    refine ⟨_, rfl, ⟨S l, rfl⟩, S l, S [40], rfl, rfl, ?_⟩
    rw [count1]
    refine ⟨rfl, _, rfl, ?_⟩
    by_cases c1 : l.count 40 = 1
    · rw [cc _ c1]
      refine iteF ⟨_, rfl, ⟨S l, rfl⟩, S l, S [41], rfl, rfl, ?_⟩
      rw [count1]
      refine ⟨rfl, _, rfl, ?_⟩
      by_cases c2 : l.count 41 = 1
      · rw [cc _ c2]
        refine iteF ⟨_, rfl, _, rfl, _, rfl, _, rfl, sz hl, ?_⟩
        rw [cut_end]
        refine ⟨rfl, _, rfl, ?_⟩
        by_cases c3 : l.drop (l.length - 1) = [41]
        · rw [c3]
          refine neT ?_
          obtain ⟨w, rfl⟩ : ∃ w, l = w ++ [41] := ⟨l.take (l.length - 1), by rw [← c3, List.take_append_drop]⟩
          rw [List.count_append] at c1 c2
          have n41 : 41 ∉ w := count_zero.mp (by have : List.count 41 [41] = 1 := rfl; omega)
          obtain ⟨u, v, rfl, hu, hv⟩ := one_cut (show w.count 40 = 1 by have : List.count 40 [41] = 0 := rfl; omega)
          have wr : Wr (u ++ 40 :: v ++ [41]) u v := ⟨by rw [List.append_assoc, List.cons_append], ⟨hu, fun m => n41 (List.mem_append_left _ m)⟩, hv, fun m => n41 (List.mem_append_right _ (List.mem_cons_of_mem _ m))⟩
          have n3 := wr.len
          have ef : Txt.find (S (u ++ 40 :: v ++ [41])) (S [40]) = (u.length : Int) := by
            have at0 : (u ++ 40 :: v ++ [41])[u.length]? = some 40 := by
              rw [List.append_assoc, List.getElem?_append_right (Nat.le_refl _), Nat.sub_self]
              rfl
            rcases find1 (u ++ 40 :: v ++ [41]) 40 with ⟨_, h⟩ | ⟨n, h, h1, h2⟩
            · exact absurd at0 (h _)
            · rw [h]
              rcases Nat.lt_trichotomy n u.length with lt | e | gt
              · rw [List.append_assoc, List.getElem?_append_left lt] at h1
                exact absurd (List.mem_of_getElem? h1) hu
              · rw [e]
              · exact absurd at0 (h2 _ gt)
          refine ⟨_, rfl, ⟨_, rfl⟩, _, S [40], rfl, rfl, ?_⟩
          rw [ef]
          refine ⟨_, rfl, _, rfl, _, rfl, _, rfl, sz hl, ?_⟩
          rw [cut_take]
          refine ⟨_, rfl, _, rfl, _, _, rfl, rfl, _, rfl, _, rfl, _, rfl, _, rfl, sz hl, ?_⟩
          rw [show ((u.length : Nat) : Int) + 1 = ((u.length + 1 : Nat) : Int) by omega, cut_in, (end_init _ 41).1]
          have e1 : (u ++ 40 :: v ++ [41]).take u.length = u := by rw [List.append_assoc, List.take_left]
          have e2 : (u ++ 40 :: v).drop (u.length + 1) = v := by
            rw [List.drop_append, List.drop_eq_nil_of_le (by omega), show u.length + 1 - u.length = 1 by omega]
            rfl
          rw [e1, e2]
          exact ⟨u, v, rfl, by omega, by omega, z2 u v wr⟩
        · rw [decide_eq_false (fun e => c3 (S_inj (V.str.inj e)))]
          refine iteT (z1 fun u v wr => c3 ?_)
          obtain ⟨rfl, _⟩ := wr
          have e := (end_init (u ++ 40 :: v) 41).2
          rw [List.append_assoc, List.cons_append] at e
          exact e
      · rw [cn _ c2]
        exact iteT (iteT (z1 fun u v wr => c2 wr.one.2))
    · rw [cn _ c1]
      exact iteT (iteT (z1 fun u v wr => c1 wr.one.1))
end
end K17


end
section
set_option Elab.async false
set_option linter.all false
set_option maxRecDepth 100000
set_option maxHeartbeats 4000000
namespace K17
open PySem PySem.Spec PyProof.Rows L2 Kit
noncomputable def own (s l : List Nat) : Bool := @decide (Lst (at_ s l) s l) (Classical.propDecidable _)
theorem own_iff {s l : List Nat} : own s l = true ↔ Lst (at_ s l) s l := @decide_eq_true_iff _ (Classical.propDecidable _)
theorem own_of {s l s2 l2 : List Nat} (h : Lst (at_ s l) s2 l2) : (decide (s2 = s) && decide (l2 = l)) = own s l := by
  cases c : own s l with
  | true =>
    obtain ⟨rfl, rfl⟩ := h.uniq (own_iff.mp c)
    rw [decide_eq_true rfl, decide_eq_true rfl]
    rfl
  | false =>
    by_cases e1 : s2 = s
    · by_cases e2 : l2 = l
      · subst e1 e2
        rw [own_iff.mpr h] at c
        cases c
      · rw [decide_eq_false e2, Bool.and_false]
    · rw [decide_eq_false e1, Bool.false_and]
noncomputable def row (l : List Nat) (ss : List (List Nat)) : List (List Nat × List Nat) := (ss.filter fun s => own s l).map fun s => (s, l)
noncomputable def pairs (ss ls : List (List Nat)) : List (List Nat × List Nat) := ls.flatMap fun l => row l ss
theorem row_snoc (l s : List Nat) (ss : List (List Nat)) : row l (ss ++ [s]) = row l ss ++ if own s l = true then [(s, l)] else [] := by
  unfold row
  rw [List.filter_append, List.map_append]
  by_cases c : own s l = true
  · rw [if_pos c, List.filter_cons_of_pos (p := fun s => own s l) c]
    rfl
  · rw [if_neg c, List.filter_cons_of_neg (p := fun s => own s l) c]
    rfl
theorem row_take {l s : List Nat} {ss : List (List Nat)} {j : Nat} (h : ss[j]? = some s) : row l (ss.take (j + 1)) = row l (ss.take j) ++ if own s l = true then [(s, l)] else [] := by
  rw [List.take_add_one, h]
  exact row_snoc l s _
theorem pairs_take {ss ls : List (List Nat)} {l : List Nat} {i : Nat} (h : ls[i]? = some l) : pairs ss (ls.take (i + 1)) = pairs ss (ls.take i) ++ row l ss := by
  unfold pairs
  rw [List.take_add_one, h, List.flatMap_append]
  simp
theorem row_len (l : List Nat) (ss : List (List Nat)) : (row l ss).length ≤ ss.length := by
  unfold row
  rw [List.length_map]
  exact List.length_filter_le _ _
theorem pairs_len (ss ls : List (List Nat)) : (pairs ss ls).length ≤ ls.length * ss.length := by
  induction ls with
  | nil => exact Nat.zero_le _
  | cons l ls ih =>
    show ((l :: ls).flatMap _).length ≤ _
    rw [List.flatMap_cons, List.length_append, List.length_cons, Nat.succ_mul]
    have := row_len l ss
    have e : (ls.flatMap fun l => row l ss).length = (pairs ss ls).length := rfl
    omega
def txt2 (x : List Nat × List Nat) : List Nat := x.1 ++ [40] ++ x.2 ++ [41]
theorem eqv_two (s l s2 l2 : List Nat) : PyData.eqv (.tuple [.str (S s2), .str (S l2)]) (.tuple [.str (S s), .str (S l)]) = (decide (s2 = s) && decide (l2 = l)) := by
  have e : ∀ x y : List Nat, (S x == S y) = decide (x = y) := fun x y => by
    by_cases c : x = y
    · subst c
      rw [decide_eq_true rfl]
      exact beq_self_eq_true _
    · rw [decide_eq_false c]
      exact beq_eq_false_iff_ne.mpr fun q => c (S_inj q)
  show ((S s2 == S s) && ((S l2 == S l) && true)) = _
  rw [e, e, Bool.and_true]
def pd2 (s l : List Nat) : PyData := .tuple [.str (S s), .str (S l)]
theorem pd2_ok (s l : List Nat) : (pd2 s l).plain = true ∧ (pd2 s l).depth ≤ 64 := by
  unfold pd2
  constructor
  · simp [PyData.plain, PyData.plainAll]
  · simp [PyData.depth, PyData.depthAll]
theorem dp2 {K : PySem.W.Frag} {H : Hp} {p : Addr} {s l : List Nat} (h : H p = some (.tup [tx s, tx l])) : Dp K H (.ref p) (pd2 s l) := .tup (seqT_of h) (.cons (.str _) (.cons (.str _) .nil))
/-- masks of these forms at these places -/
def MenuAt (a : Ad) (G : Hp) (xs : List (List Nat × List Nat)) (ps : List Addr) : Prop := ps.length = xs.length ∧ ∀ (i : Nat) (x : List Nat × List Nat) (p : Addr), xs[i]? = some x → ps[i]? = some p → MaskAt a G p (at_ x.1 x.2) x.1 x.2
theorem MenuAt.nil {a : Ad} {G : Hp} : MenuAt a G [] [] := ⟨rfl, fun i x p h => by simp at h⟩
theorem MenuAt.snoc {a : Ad} {G : Hp} {xs : List (List Nat × List Nat)} {ps : List Addr} {x : List Nat × List Nat} {p : Addr} (h : MenuAt a G xs ps) (m : MaskAt a G p (at_ x.1 x.2) x.1 x.2) : MenuAt a G (xs ++ [x]) (ps ++ [p]) := by
  refine ⟨by rw [List.length_append, List.length_append, h.1]; rfl, fun i y q hy hq => ?_⟩
  by_cases c : i < xs.length
  · rw [List.getElem?_append_left c] at hy
    rw [List.getElem?_append_left (h.1 ▸ c)] at hq
    exact h.2 i y q hy hq
  · rw [List.getElem?_append_right (by omega)] at hy
    rw [List.getElem?_append_right (by rw [h.1]; omega), h.1] at hq
    by_cases z : i - xs.length = 0
    · rw [z] at hy hq
      cases hy
      cases hq
      exact m
    · rw [List.getElem?_eq_none (by show 1 ≤ _; omega)] at hy
      cases hy
theorem MaskAt.off {a : Ad} {H G : Hp} {p q : Addr} {u : Nat → Nat} {s l : List Nat} {ys : List V} (h : MaskAt a H p u s l) (hq : H q = some (.lst ys)) (e : ∀ b o, H b = some o → b ≠ q → G b = some o) : MaskAt a G p u s l :=
  ⟨let ⟨dx, z⟩ := h.ob; ⟨dx, e _ _ z fun c => by rw [c, hq] at z; cases z⟩, h.ls, h.s6, h.l60, h.sg⟩
theorem MenuAt.off {a : Ad} {H G : Hp} {xs : List (List Nat × List Nat)} {ps : List Addr} {q : Addr} {ys : List V} (h : MenuAt a H xs ps) (hq : H q = some (.lst ys)) (e : ∀ b o, H b = some o → b ≠ q → G b = some o) : MenuAt a G xs ps :=
  ⟨h.1, fun i x p hx hp => (h.2 i x p hx hp).off hq e⟩
theorem MenuAt.mono {a : Ad} {H G : Hp} {xs : List (List Nat × List Nat)} {ps : List Addr} (h : MenuAt a H xs ps) (e : Same H G) : MenuAt a G xs ps := ⟨h.1, fun i x p hx hp => (h.2 i x p hx hp).mono e⟩
theorem words_m : ∀ n, ∀ m ∈ wordsN n, m.all isM = true := by
  intro n
  induction n with
  | zero =>
    intro m hm
    rw [List.mem_singleton.mp hm]
    rfl
  | succ n ih =>
    intro m hm
    obtain ⟨x, hx, hy⟩ := List.mem_flatMap.mp hm
    have := ih x hx
    rcases List.mem_cons.mp hy with rfl | hy
    · rw [List.all_append, this]
      rfl
    · rw [List.mem_singleton.mp hy, List.all_append, this]
      rfl
theorem allW_mem {lo hi : Nat} {m : List Nat} (h : m ∈ allW lo hi) (hl : lo ≤ hi) (h3 : hi ≤ 3) : m.length ≤ 3 ∧ lo ≤ m.length ∧ marksB m = true := by
  unfold allW at h
  obtain ⟨k, hk, hm⟩ := List.mem_flatMap.mp h
  have hk := List.mem_range.mp hk
  have e := words_le _ m hm
  refine ⟨by omega, by omega, ?_⟩
  unfold marksB
  rw [words_m _ m hm, decide_eq_true (by omega)]
  rfl
end K17

end
section
set_option Elab.async false
set_option linter.all false
set_option maxRecDepth 100000
set_option maxHeartbeats 4000000
namespace K17
open PySem PySem.Spec PyProof.Rows L2 Kit
section
variable {P : Program} {w : World} {K : PySem.W.Frag} {mg : Str → Option Value} {base : Heap} {a : Ad}
def spMMenu (a : Ad) : Sp := fun vs H Q E => ∃ st lo : Int, vs = [.ref a.Mask, .int st, .int lo] ∧ (¬ (0 ≤ st ∧ st ≤ 2) → Ra E a.BadCount "count" (.int st) H) ∧ (0 ≤ st → st ≤ 2 → ¬ (1 ≤ lo ∧ lo ≤ 3) → Ra E a.BadCount "count" (.int lo) H) ∧
  (0 ≤ st → st ≤ 2 → 1 ≤ lo → lo ≤ 3 → ∀ G q ps, Same H G → H q = none → G q = some (.lst (ps.map V.ref)) → MenuAt a G (pairs (allW 0 st.toNat) (allW 1 lo.toNat)) ps → Q (.ref q) G)
theorem c_Mask_menu (T : Txt K mg a) : CanC P w K mg base 5 a.Mask "menu" (spMMenu a) := by
  refine canC_of T.m_Mask_menu sc_Mask_menu bd_Mask_menu (fun vs H Q E h => ?_) (fun f cdv A outer s0 H vs Q E hr h => ?_)
  · obtain ⟨st, lo, rfl, _⟩ := h
    rfl
  · obtain ⟨st, lo, rfl, y1, y2, z⟩ := h
    refine ⟨_, (pss_cons (ps_if (pt_not (pt_chain op_le op_le pe_int (pv 1) pe_int)) (pss_one (pr_err (c_BadCount T) (takes_of rfl rfl rfl rfl) (by rfl) hr (by decide) (by rfl) (pv 1))) pss_nil)
      (pss_cons (ps_if (pt_not (pt_chain op_le op_le pe_int (pv 2) pe_int)) (pss_one (pr_err (c_BadCount T) (takes_of rfl rfl rfl rfl) (by rfl) hr (by decide) (by rfl) (pv 2))) pss_nil)
      (pss_cons (ps_set (i := 3) sc_Mask_menu.nd rfl (.inl rfl) (pe_lst pa_nil))
      (pss_cons (ps_for (passes_of rfl) (by rfl) (kpi_list K (pc_f (c_all_marks T) hr (by decide) (by rfl) (pa_cons pe_int (pa_cons (pv 2) pa_nil)))) (pg_name (i := 4) sc_Mask_menu.nd rfl (.inl rfl)) (pss_one (ps_for (passes_of rfl) (by rfl) (kpi_list K (pc_f (c_all_marks T) hr (by decide) (by rfl) (pa_cons pe_int (pa_cons (pv 1) pa_nil)))) (pg_name (i := 5) sc_Mask_menu.nd rfl (.inl rfl)) (pss_one (ps_if (pt_cmpR (keqP K hr.units) (pc_f (c_least_form T) hr (by decide) (by rfl) (pa_cons (pv 5) (pa_cons (pv 4) pa_nil))) (pe_tup (pa_cons (pv 5) (pa_cons (pv 4) pa_nil))) (nomark _)) (pss_one (ps_expr (pe_bm PySem.F.plainAttrs_list PySem.F.slot_list_append PySem.F.type_list_append mt_append (pv 3) (pa_cons (pc_nV (i := 0) (c_Mask_init T) (takes_of rfl rfl rfl rfl) hr (by decide) (by rfl) (.inl rfl) (pa_cons (pv 5) (pa_cons (pv 4) pa_nil))) pa_nil)))) pss_nil)))))
      (pss_one (ps_ret (pv 3))))))), ?_⟩
    by_cases c1 : 0 ≤ st
    · refine ⟨_, rfl, _, _, rfl, rfl, _, rfl, itP (decide_eq_true c1) ⟨_, _, rfl, rfl, _, rfl, ?_⟩⟩
      by_cases c2 : st ≤ 2
      · rw [decide_eq_true c2]
        refine iteF ?_
        by_cases c3 : 1 ≤ lo
        · refine ⟨_, rfl, _, _, rfl, rfl, _, rfl, itP (decide_eq_true c3) ⟨_, _, rfl, rfl, _, rfl, ?_⟩⟩
          by_cases c4 : lo ≤ 3
          · rw [decide_eq_true c4]
            refine iteF ?_
            obtain ⟨st, rfl⟩ : ∃ n : Nat, (n : Int) = st := ⟨st.toNat, by omega⟩
            obtain ⟨lo, rfl⟩ : ∃ n : Nat, (n : Int) = lo := ⟨lo.toNat, by omega⟩
            have z := z c1 c2 c3 c4
            rw [Int.toNat_natCast, Int.toNat_natCast] at z
            refine ⟨by show 0 ≤ sizeLine; decide, fun qf hqf => ?_⟩
            have k0 := ex_new (o := .lst []) hqf
            have a15 := allW_small (show lo ≤ 3 by omega) (show 1 ≤ lo by omega)
            have b15 := allW_small (show st ≤ 3 by omega) (show 0 ≤ st by omega)
            refine ⟨_, rfl, 1, lo, rfl, by omega, by omega, fun G1 q1 k1 f1 hq1 => ?_⟩
            have fq1 : q1 ≠ qf := fun e => by rw [e, upd_same] at f1; cases f1
            refine ⟨q1, rfl, ⟨_, seqL_of hq1⟩, for_it (walk_list (xs := (allW 1 lo).map tx)) (fun i σ G => Same H G ∧ G q1 = some (.lst ((allW 1 lo).map tx)) ∧ (∃ ps, G qf = some (.lst (ps.map V.ref)) ∧ MenuAt a G (pairs (allW 0 st) ((allW 1 lo).take i)) ps) ∧ ∃ x y, σ = [some (.ref a.Mask), some (.int (st : Int)), some (.int (lo : Int)), some (.ref qf), x, y]) ⟨k0.trans k1, hq1, ⟨[], k1 _ _ upd_same, .nil⟩, none, none, rfl⟩ (fun i σ G _ h => seqL_of h.2.1) ?_ ?_⟩
            · rintro i x σ G' G hi ⟨k2, hGq, ⟨ps, hps, mn⟩, v1, v2, rfl⟩ ⟨rfl, hx⟩
              rw [List.length_map] at hi
              have hm := List.getElem?_eq_getElem hi
              rw [List.getElem?_map, hm] at hx
              cases hx
              generalize hl : (allW 1 lo)[i] = l at *
              have lm := allW_mem (show l ∈ allW 1 lo from hl ▸ List.getElem_mem hi) (by omega) (by omega)
              have l0 : l ≠ [] := fun e => by rw [e] at lm; simp at lm
              refine ⟨_, rfl, 0, st, rfl, by omega, by omega, fun G2 q2 k3 f2 hq2 => ?_⟩
              have fq2 : q2 ≠ qf := fun e => by rw [e, hps] at f2; cases f2
              refine ⟨q2, rfl, ⟨_, seqL_of hq2⟩, for_it (walk_list (xs := (allW 0 st).map tx)) (fun j σ G => Same H G ∧ G q1 = some (.lst ((allW 1 lo).map tx)) ∧ G q2 = some (.lst ((allW 0 st).map tx)) ∧ (∃ ps, G qf = some (.lst (ps.map V.ref)) ∧ MenuAt a G (pairs (allW 0 st) ((allW 1 lo).take i) ++ row l ((allW 0 st).take j)) ps) ∧ ∃ y, σ = [some (.ref a.Mask), some (.int (st : Int)), some (.int (lo : Int)), some (.ref qf), some (tx l), y]) ⟨k2.trans k3, k3 _ _ hGq, hq2, ⟨ps, k3 _ _ hps, by rw [List.take_zero]; show MenuAt a G2 (_ ++ []) ps; rw [List.append_nil]; exact mn.mono k3⟩, v2, rfl⟩ (fun j σ G _ h => seqL_of h.2.2.1) ?_ ?_⟩
              · rintro j x σ G'' M hj ⟨k4, hM1, hM2, ⟨ps, hps, mn⟩, v2, rfl⟩ ⟨rfl, hx⟩
                rw [List.length_map] at hj
                have hs := List.getElem?_eq_getElem hj
                rw [List.getElem?_map, hs] at hx
                cases hx
                generalize hs2 : (allW 0 st)[j] = s at *
                have sm := allW_mem (show s ∈ allW 0 st from hs2 ▸ List.getElem_mem hj) (by omega) (by omega)
                refine ⟨_, rfl, _, rfl, s, l, rfl, l0, by omega, by omega, fun q N s2 l2 k5 f5 hq L _ => ?_⟩
                refine ⟨_, rfl, _, rfl, by show 2 ≤ sizeLine; decide, fun t ht => ?_⟩
                refine ⟨pd2 s2 l2, pd2 s l, dp2 (ex_new ht _ _ hq), dp2 upd_same, (pd2_ok _ _).1, (pd2_ok _ _).1, (pd2_ok _ _).2, _, rfl, ?_⟩
                have eqo := (eqv_two s l s2 l2).trans (own_of L)
                have e9 : PyData.eqv (pd2 s2 l2) (pd2 s l) = own s l := eqv_two s l s2 l2 ▸ eqo
                have k6 := k5.trans (ex_new (o := .tup [tx s, tx l]) ht)
                rw [e9]
                have rt := row_take (l := l) hs
                cases eo : own s l with
                | false =>
                  rw [eo, if_neg (by decide), List.append_nil] at rt
                  exact iteF ⟨k4.trans k6, k6 _ _ hM1, k6 _ _ hM2, ⟨ps, k6 _ _ hps, by rw [rt]; exact mn.mono k6⟩, _, rfl⟩
                | true =>
                  rw [eo, if_pos rfl] at rt
                  refine iteT ⟨_, rfl, .inl ⟨rfl, _, seqL_of (k6 _ _ hps)⟩, ?_⟩
                  refine ⟨rfl, _, rfl, _, rfl, fun y dx hy hdx hne => ⟨y, dx, s, l, rfl, upd_same, by omega, by omega, fun h => absurd (sm.2.2.symm.trans h) (by decide), fun _ h => ?_, fun h1 h2 h3 N2 s3 l3 k8 g L3 ls => ⟨rfl, ?_⟩⟩⟩
                  · rcases h with h | h
                    · exact absurd h l0
                    · exact absurd (lm.2.2.symm.trans h) (by decide)
                  · obtain ⟨sm9, ma⟩ := made2 (a := a) h1 h3 h2 hy hdx hne k8 g L3 ls
                    obtain ⟨rfl, rfl⟩ := L3.uniq (own_iff.mp eo)
                    have k9 := k6.trans sm9
                    have lp : ps.length ≤ 300 := by
                      rw [mn.1, List.length_append]
                      have e1 := pairs_len (allW 0 st) ((allW 1 lo).take i)
                      have e2 := row_len l3 ((allW 0 st).take j)
                      rw [List.length_take] at e1 e2
                      have e3 : min i (allW 1 lo).length * (allW 0 st).length ≤ 15 * 15 := Nat.mul_le_mul (by omega) (by omega)
                      omega
                    refine ⟨qf, _, _, rfl, rfl, k9 _ _ hps, by rw [List.length_map]; exact szlt (by omega), ?_⟩
                    have nq1 : q1 ≠ qf := fq1
                    have hb : ∀ b o, N2 b = some o → b ≠ qf → upd N2 qf (.lst (ps.map V.ref ++ [V.ref y])) b = some o := fun b o e n => by rw [upd_ne n]; exact e
                    refine ⟨ex_mut (k4.trans k9) hqf, hb _ _ (k9 _ _ hM1) fq1, hb _ _ (k9 _ _ hM2) fq2, ⟨ps ++ [y], by rw [upd_same, List.map_append]; rfl, ?_⟩, _, rfl⟩
                    rw [rt, ← List.append_assoc]
                    exact ((mn.mono k9).off (k9 _ _ hps) hb).snoc (x := (s3, l3)) (ma.off (k9 _ _ hps) hb)
              · rintro σ M ⟨k4, hM1, hM2, ⟨ps, hps, mn⟩, v2, rfl⟩
                rw [List.length_map, List.take_length, ← pairs_take hm] at mn
                exact ⟨k4, hM1, ⟨ps, hps, mn⟩, _, _, rfl⟩
            · rintro σ G ⟨k2, hGq, ⟨ps, hps, mn⟩, v1, v2, rfl⟩
              rw [List.length_map, List.take_length] at mn
              exact ⟨_, rfl, z G qf ps k2 hqf hps mn⟩
          · rw [decide_eq_false c4]
            exact iteT ⟨_, rfl, (y2 c1 c2 fun h => c4 h.2).now⟩
        · exact ⟨_, rfl, _, _, rfl, rfl, _, rfl, itN (by rw [decide_eq_false c3]; decide) ⟨_, rfl, iteT ⟨_, rfl, (y2 c1 c2 fun h => c3 h.1).now⟩⟩⟩
      · rw [decide_eq_false c2]
        exact iteT ⟨_, rfl, (y1 fun h => c2 h.2).now⟩
    · exact ⟨_, rfl, _, _, rfl, rfl, _, rfl, itN (by rw [decide_eq_false c1]; decide) ⟨_, rfl, iteT ⟨_, rfl, (y1 fun h => c1 h.1).now⟩⟩⟩
end
end K17

end
section
set_option Elab.async false
set_option linter.all false
set_option maxRecDepth 100000
set_option maxHeartbeats 4000000
namespace K17
open PySem PySem.Spec PyProof.Rows L2 Kit
def upW (lo n : Nat) : List (List Nat) := (List.range n).flatMap fun k => wordsN (lo + k)
theorem upW_succ (lo n : Nat) : upW lo (n + 1) = upW lo n ++ wordsN (lo + n) := by
  unfold upW
  rw [List.range_succ, List.flatMap_append]
  simp
theorem pairs_app (ss ls ms : List (List Nat)) : pairs ss (ls ++ ms) = pairs ss ls ++ pairs ss ms := List.flatMap_append
theorem pairs_one (ss : List (List Nat)) (l : List Nat) : pairs ss [l] = row l ss := by
  unfold pairs
  simp
theorem pairs_nil (ss : List (List Nat)) : pairs ss [] = [] := rfl
theorem row_nil (l : List Nat) : row l [] = [] := rfl
theorem take_snoc {x : List Nat} {xs : List (List Nat)} {j : Nat} (h : xs[j]? = some x) : xs.take (j + 1) = xs.take j ++ [x] := by
  rw [List.take_add_one, h]
  rfl
def tp (xs : List (List Nat × List Nat)) : List V := xs.map fun x => tx (txt2 x)
theorem upW_small {lo n : Nat} (h : lo + n ≤ 4) : (upW lo n).length ≤ 15 := by
  have z : ∀ lo ≤ 4, ∀ n ≤ 4, lo + n ≤ 4 → (upW lo n).length ≤ 15 := by decide +kernel
  exact z lo (by omega) n (by omega) h
theorem least_nat {p : Nat → Prop} : ∀ n, p n → ∃ m, m ≤ n ∧ p m ∧ ∀ k, k < m → ¬ p k := by
  intro n
  induction n using Nat.strongRecOn with
  | ind n ih =>
    intro h
    by_cases c : ∃ k, k < n ∧ p k
    · obtain ⟨k, hk, hp⟩ := c
      obtain ⟨m, h1, h2, h3⟩ := ih k hk hp
      exact ⟨m, by omega, h2, h3⟩
    · exact ⟨n, Nat.le_refl _, h, fun k hk hp => c ⟨k, hk, hp⟩⟩
theorem has_least {s l : List Nat} (hl : l ≠ []) : ∃ s2 l2, Lst (at_ s l) s2 l2 ∧ s2.length ≤ s.length ∧ l2.length ≤ l.length := by
  have l0 := List.length_pos_iff.mpr hl
  have per := at_per (s := s) hl
  obtain ⟨d, hd, ⟨d0, t, pt⟩, mn⟩ := least_nat (p := fun q => 0 < q ∧ ∃ t, PF (at_ s l) t q) l.length ⟨l0, s.length, per⟩
  obtain ⟨b, hb, pb, mb⟩ := least_nat (p := fun t => PF (at_ s l) t d) s.length (per.back l0 pt)
  have e1 : (pfx (at_ s l) b).length = b := pfx_len _ _
  have e2 : ((pfx (at_ s l) (b + d)).drop b).length = d := by rw [List.length_drop, pfx_len]; omega
  refine ⟨pfx (at_ s l) b, (pfx (at_ s l) (b + d)).drop b, ⟨?_, at_cut (by omega) (by rw [show b + d - b = d by omega]; exact pb), fun t q q0 hq => ?_, ?_⟩, by rw [e1]; exact hb, by rw [e2]; exact hd⟩
  · intro e
    rw [e] at e2
    simp at e2
    omega
  · rw [e2]
    exact Nat.le_of_not_lt fun c => mn q c ⟨q0, t, hq⟩
  · rw [e1, e2]
    by_cases z : b = 0
    · exact .inl (by rw [z]; rfl)
    · refine .inr fun e => mb (b - 1) (by omega) fun i hi => ?_
      by_cases c : i = b - 1
      · rw [c]
        exact e.symm
      · exact pb i (by omega)
section
variable {P : Program} {w : World} {K : PySem.W.Frag} {mg : Str → Option Value} {base : Heap} {a : Ad}
def spLMenu : Sp := fun vs H Q _ => ∃ st lo : Nat, vs = [.int (st : Int), .int (lo : Int)] ∧ st ≤ 2 ∧ 1 ≤ lo ∧ lo ≤ 3 ∧ ∀ G q, Same H G → H q = none → G q = some (.lst (tp (pairs (allW 0 st) (allW 1 lo)))) → Q (.ref q) G
theorem c_law_menu (T : Txt K mg a) : Can P w K mg base 2 "_law_menu" spLMenu := by
  refine can_of T.d_law_menu sc_law_menu bd_law_menu (fun vs H Q E h => ?_) (fun f cdv A outer s0 H vs Q E hr h => ?_)
  · obtain ⟨st, lo, rfl, _⟩ := h
    rfl
  · obtain ⟨st, lo, rfl, hs, h1, h3, z⟩ := h
    refine ⟨_, (pss_cons (ps_set (i := 2) sc_law_menu.nd rfl (.inl rfl) (pe_lst pa_nil))
      (pss_cons (ps_for (passes_of rfl) (by rfl) (pi_range2 (by rfl) T.b_range (pa_cons pe_int (pa_cons (pe_op op_add (pv 1) pe_int) pa_nil))) (pg_name (i := 3) sc_law_menu.nd rfl (.inl rfl)) (pss_one (ps_for (passes_of rfl) (by rfl) (kpi_list K (pc_f (c_law_words T) hr (by decide) (by rfl) (pa_cons (pv 3) pa_nil))) (pg_name (i := 4) sc_law_menu.nd rfl (.inl rfl)) (pss_one (ps_for (passes_of rfl) (by rfl) (pi_range1 (by rfl) T.b_range (pa_cons (pe_op op_add (pv 0) pe_int) pa_nil)) (pg_name (i := 5) sc_law_menu.nd rfl (.inl rfl)) (pss_one (ps_for (passes_of rfl) (by rfl) (kpi_list K (pc_f (c_law_words T) hr (by decide) (by rfl) (pa_cons (pv 5) pa_nil))) (pg_name (i := 6) sc_law_menu.nd rfl (.inl rfl)) (pss_one (ps_if (pt_cmpR (keqP K hr.units) (pc_f (c_law_least T) hr (by decide) (by rfl) (pa_cons (pc_f (c_law_marks T) hr (by decide) (by rfl) (pa_cons (pv 6) (pa_cons (pv 4) (pa_cons pe_int pa_nil)))) pa_nil)) (pe_tup (pa_cons (pv 6) (pa_cons (pv 4) pa_nil))) (nomark _)) (pss_one (ps_expr (pe_bm PySem.F.plainAttrs_list PySem.F.slot_list_append PySem.F.type_list_append mt_append (pv 2) (pa_cons (pe_op op_add_str (pe_op op_add_str (pe_op op_add_str (pv 6) pe_str) (pv 4)) pe_str) pa_nil)))) pss_nil)))))))))
      (pss_one (ps_ret (pv 2))))), ?_⟩
    rw [lit_po, lit_pc]
    have e0 : allW 0 st = upW 0 (st + 1) := rfl
    have e1 : allW 1 lo = upW 1 lo := by unfold allW upW; rw [show lo - 1 + 1 = lo by omega]
    rw [e0, e1] at z
    generalize hss : upW 0 (st + 1) = ss at *
    have ss15 : ss.length ≤ 15 := hss ▸ upW_small (by omega)
    refine ⟨by show 0 ≤ sizeLine; decide, fun qf hqf => ?_⟩
    have k0 := ex_new (o := .lst []) hqf
    have en : ((lo : Int) + 1 - 1).toNat = lo := by omega
    refine ⟨_, rfl, _, _, rfl, rfl, 1, (lo : Int) + 1, rfl, by omega, for_it (walk_range (lo := 1) (n := ((lo : Int) + 1 - 1).toNat)) (fun i σ G => Same H G ∧ G qf = some (.lst (tp (pairs ss (upW 1 i)))) ∧ ∃ x y u v, σ = [some (.int (st : Int)), some (.int (lo : Int)), some (.ref qf), x, y, u, v]) ⟨k0, upd_same, none, none, none, none, rfl⟩ (fun _ _ _ _ _ => True.intro) ?_ ?_⟩
    · rintro i x σ G' G hi ⟨k1, hG, x, y, u, v, rfl⟩ ⟨rfl, rfl⟩
      rw [en] at hi
      have w8 := words_small (show 1 + i ≤ 3 by omega)
      refine ⟨_, rfl, 1 + i, congrArg (fun x => [V.int x]) (by omega), by omega, fun G1 q1 k2 f1 hq1 => ?_⟩
      have n1' : q1 ≠ qf := fun e => by rw [e, hG] at f1; cases f1
      refine ⟨q1, rfl, ⟨_, seqL_of hq1⟩, for_it (walk_list (xs := (wordsN (1 + i)).map tx)) (fun j σ G => Same H G ∧ G q1 = some (.lst ((wordsN (1 + i)).map tx)) ∧ G qf = some (.lst (tp (pairs ss (upW 1 i ++ (wordsN (1 + i)).take j)))) ∧ ∃ y u v, σ = [some (.int (st : Int)), some (.int (lo : Int)), some (.ref qf), some (.int (1 + (i : Int))), y, u, v]) ⟨k1.trans k2, hq1, by rw [List.take_zero, List.append_nil]; exact k2 _ _ hG, y, u, v, rfl⟩ (fun j σ G _ h => seqL_of h.2.1) ?_ ?_⟩
      · rintro j x σ M' M hj ⟨k3, hM1, hM, y, u, v, rfl⟩ ⟨rfl, hx⟩
        rw [List.length_map] at hj
        have hm := List.getElem?_eq_getElem hj
        rw [List.getElem?_map, hm] at hx
        cases hx
        generalize hl : (wordsN (1 + i))[j] = l at *
        have ll : l.length = 1 + i := words_le _ l (hl ▸ List.getElem_mem hj)
        have l0 : l ≠ [] := fun e => by rw [e] at ll; simp at ll; omega
        have big : (pairs ss (upW 1 i ++ (wordsN (1 + i)).take j)).length ≤ 400 := by
          have e1 := pairs_len ss (upW 1 i ++ (wordsN (1 + i)).take j)
          have e2 := upW_small (show 1 + i ≤ 4 by omega)
          rw [List.length_append, List.length_take] at e1
          have e3 : ((upW 1 i).length + min j (wordsN (1 + i)).length) * ss.length ≤ 23 * 15 := Nat.mul_le_mul (by omega) (by omega)
          omega
        refine ⟨_, rfl, _, _, rfl, rfl, _, rfl, by omega, by omega, for_it (walk_range (lo := 0) (n := ((st : Int) + 1).toNat)) (fun k σ G => Same H G ∧ G q1 = some (.lst ((wordsN (1 + i)).map tx)) ∧ G qf = some (.lst (tp (pairs ss (upW 1 i ++ (wordsN (1 + i)).take j) ++ row l (upW 0 k)))) ∧ ∃ u v, σ = [some (.int (st : Int)), some (.int (lo : Int)), some (.ref qf), some (.int (1 + (i : Int))), some (tx l), u, v]) ⟨k3, hM1, by show M qf = some (.lst (tp (_ ++ row l []))); rw [row_nil, List.append_nil]; exact hM, u, v, rfl⟩ (fun _ _ _ _ _ => True.intro) ?_ ?_⟩
        · rintro k x σ N' N hk ⟨k4, hN1, hN, u, v, rfl⟩ ⟨rfl, rfl⟩
          have hk : k ≤ st := by omega
          have v8 := words_small (show 0 + k ≤ 3 by omega)
          refine ⟨_, rfl, 0 + k, congrArg (fun x => [V.int x]) (by omega), by omega, fun N1 q2 k5 f2 hq2 => ?_⟩
          have n2' : q2 ≠ qf := fun e => by rw [e, hN] at f2; cases f2
          refine ⟨q2, rfl, ⟨_, seqL_of hq2⟩, for_it (walk_list (xs := (wordsN (0 + k)).map tx)) (fun t σ G => Same H G ∧ G q1 = some (.lst ((wordsN (1 + i)).map tx)) ∧ G q2 = some (.lst ((wordsN (0 + k)).map tx)) ∧ G qf = some (.lst (tp (pairs ss (upW 1 i ++ (wordsN (1 + i)).take j) ++ row l (upW 0 k ++ (wordsN (0 + k)).take t)))) ∧ ∃ v, σ = [some (.int (st : Int)), some (.int (lo : Int)), some (.ref qf), some (.int (1 + (i : Int))), some (tx l), some (.int (0 + (k : Int))), v]) ⟨k4.trans k5, k5 _ _ hN1, hq2, by rw [List.take_zero, List.append_nil]; exact k5 _ _ hN, v, rfl⟩ (fun t σ G _ h => seqL_of h.2.2.1) ?_ ?_⟩
          · rintro t x σ R' R ht ⟨k6, hR1, hR2, hR, v, rfl⟩ ⟨rfl, hx⟩
            rw [List.length_map] at ht
            have hs := List.getElem?_eq_getElem ht
            rw [List.getElem?_map, hs] at hx
            cases hx
            generalize hs2 : (wordsN (0 + k))[t] = s at *
            have sl : s.length = 0 + k := words_le _ s (hs2 ▸ List.getElem_mem ht)
            have tk := take_snoc hs
            refine ⟨_, rfl, _, rfl, s, l, rfl, l0, by omega, by omega, ?_⟩
            obtain ⟨s2, l2, L, ls2, ll2⟩ := has_least (s := s) l0
            refine ⟨at_ s l, s2, l2, rfl, L, by omega, by omega, fun q S1 k7 f7 hq => ?_⟩
            refine ⟨_, rfl, _, rfl, by show 2 ≤ sizeLine; decide, fun tt htt => ?_⟩
            refine ⟨pd2 s2 l2, pd2 s l, dp2 (ex_new htt _ _ hq), dp2 upd_same, (pd2_ok _ _).1, (pd2_ok _ _).1, (pd2_ok _ _).2, _, rfl, ?_⟩
            have e9 : PyData.eqv (pd2 s2 l2) (pd2 s l) = own s l := (eqv_two s l s2 l2).trans (own_of L)
            have k8 := k7.trans (ex_new (o := .tup [tx s, tx l]) htt)
            rw [e9]
            have rt := row_snoc l s (upW 0 k ++ (wordsN (0 + k)).take t)
            rw [List.append_assoc, ← tk] at rt
            cases eo : own s l with
            | false =>
              rw [eo, if_neg (by decide), List.append_nil] at rt
              exact iteF ⟨k6.trans k8, k8 _ _ hR1, k8 _ _ hR2, by rw [rt]; exact k8 _ _ hR, _, rfl⟩
            | true =>
              rw [eo, if_pos rfl] at rt
              have b2 : (row l (upW 0 k ++ (wordsN (0 + k)).take t)).length ≤ 30 := by
                have r1 := row_len l (upW 0 k ++ (wordsN (0 + k)).take t)
                have r2 := upW_small (show 0 + k ≤ 4 by omega)
                rw [List.length_append, List.length_take] at r1
                omega
              refine iteT ⟨_, rfl, .inl ⟨rfl, _, seqL_of (k8 _ _ hR)⟩, _, rfl, _, _, rfl, rfl, by rw [S_len, S_len]; exact szl (by show _ + 1 ≤ _; omega), ?_⟩
              rw [S_app]
              have n1 : (s ++ [40]).length = s.length + 1 := List.length_append
              refine ⟨_, rfl, _, _, rfl, rfl, by rw [S_len, S_len, n1]; exact szl (by omega), ?_⟩
              rw [S_app]
              have n2 : (s ++ [40] ++ l).length = s.length + 1 + l.length := by rw [List.length_append, n1]
              refine ⟨_, _, rfl, rfl, by rw [S_len, S_len, n2]; exact szl (by show _ + 1 ≤ _; omega), ?_⟩
              rw [S_app]
              refine ⟨qf, _, _, rfl, rfl, k8 _ _ hR, by unfold tp; rw [List.length_map, List.length_append]; exact szlt (by omega), ?_⟩
              refine ⟨ex_mut (k6.trans k8) hqf, by rw [upd_ne n1']; exact k8 _ _ hR1, by rw [upd_ne n2']; exact k8 _ _ hR2, ?_, _, rfl⟩
              rw [upd_same, rt, ← List.append_assoc]
              unfold tp
              rw [List.map_append (l₂ := [(s, l)])]
              rfl
          · rintro σ R ⟨k6, hR1, hR2, hR, v, rfl⟩
            rw [List.length_map, List.take_length, ← upW_succ] at hR
            exact ⟨k6, hR1, hR, _, _, rfl⟩
        · rintro σ N ⟨k4, hN1, hN, u, v, rfl⟩
          rw [show ((st : Int) + 1).toNat = st + 1 by omega, hss] at hN
          refine ⟨k4, hN1, ?_, _, _, _, rfl⟩
          rw [take_snoc hm, ← List.append_assoc, pairs_app ss _ [l], pairs_one]
          exact hN
      · rintro σ M ⟨k3, hM1, hM, y, u, v, rfl⟩
        rw [List.length_map, List.take_length, ← upW_succ] at hM
        exact ⟨k3, hM, _, _, _, _, rfl⟩
    · rintro σ G ⟨k1, hG, x, y, u, v, rfl⟩
      rw [en] at hG
      exact ⟨_, rfl, z G qf k1 hqf hG⟩
end
end K17

end
section
set_option Elab.async false
set_option linter.all false
set_option maxRecDepth 100000
set_option maxHeartbeats 4000000
namespace K17
open PySem PySem.Spec PyProof.Rows L2 Kit
def dueV (st lo : Int) : V := if st < 0 ∨ 2 < st then .int st else if lo < 1 ∨ 3 < lo then .int lo else .non
theorem due_dp (st lo : Int) : ∃ d : PyData, (∀ (K : PySem.W.Frag) (H : Hp), Dp K H (dueV st lo) d) ∧ d.plain = true ∧ d.depth ≤ 64 := by
  unfold dueV
  by_cases c1 : st < 0 ∨ 2 < st
  · rw [if_pos c1]
    exact ⟨.int st, fun _ _ => .int _, by simp [PyData.plain], by simp [PyData.depth]⟩
  · rw [if_neg c1]
    by_cases c2 : lo < 1 ∨ 3 < lo
    · rw [if_pos c2]
      exact ⟨.int lo, fun _ _ => .int _, by simp [PyData.plain], by simp [PyData.depth]⟩
    · rw [if_neg c2]
      exact ⟨.none, fun _ _ => .non, by simp [PyData.plain], by simp [PyData.depth]⟩
theorem some8 {xs : List Int} (hx : xs.length = 8) {d : Int} (h0 : 0 ≤ d) (h1 : d < 8) : ∃ z : Int, atI (xs.map V.int) d = some (.int z) := by
  obtain ⟨n, rfl⟩ : ∃ n : Nat, (n : Int) = d := ⟨d.toNat, by omega⟩
  refine ⟨xs[n]'(by omega), atI_nat ?_⟩
  rw [List.getElem?_map, List.getElem?_eq_getElem (by omega)]
  rfl
section
variable {P : Program} {w : World} {K : PySem.W.Frag} {mg : Str → Option Value} {base : Heap} {a : Ad}
def spLMRef : Sp := fun vs H Q _ => ∃ st lo : Int, vs = [.int st, .int lo] ∧ ∀ G, Same H G → Q (dueV st lo) G
theorem c_law_menu_refused (T : Txt K mg a) : Can P w K mg base 7 "_law_menu_refused" spLMRef := by
  refine can_of T.d_law_menu_refused sc_law_menu_refused bd_law_menu_refused (fun vs H Q E h => ?_) (fun f cdv A outer s0 H vs Q E hr h => ?_)
  · obtain ⟨st, lo, rfl, _⟩ := h
    rfl
  · obtain ⟨st, lo, rfl, z⟩ := h
    refine ⟨_, (pss_cons (ps_try_as (i := 2) (tb := _) rfl rfl sc_law_menu_refused.nd rfl rfl ⟨rfl, by decide, .inl T.e_BadCount.gC⟩ takes0 (fun W pn xe tk po => (pss_one (ps_expr (pc_cmS (c_Mask_menu T) tk hr (by decide) (pe_glob (v := .ref a.Mask) (by rfl) T.c_Mask.gC rfl) (pa_cons (pv 0) (pa_cons (pv 1) pa_nil)))))) (fun ae oe cls d pn hz hf => (pss_cons (ps_if (PW.pt (pw_or (pt_not (pt_val (pe_callB (call_isU hz hf) (by rfl) T.b_isinstance (by decide +kernel) (pa_cons (pv 2) (pa_cons (pe_glob (v := .ref a.GalloonError) (by rfl) T.g_GalloonError rfl) pa_nil))))) (pw_or (pt_not (pt_val (pe_callB (call_isU hz hf) (by rfl) T.b_isinstance (by decide +kernel) (pa_cons (pv 2) (pa_cons (pe_bltn (v := .ty "ValueError") (by rfl) T.b_ValueError (by decide +kernel) rfl) pa_nil))))) (pw_or1 (pt_val (pe_callB (call_isU hz hf) (by rfl) T.b_isinstance (by decide +kernel) (pa_cons (pv 2) (pa_cons (pe_glob (v := .ref a.BadMask) (by rfl) T.e_BadMask.gC rfl) pa_nil)))))))) (pss_one (ps_ret pe_str)) pss_nil)
      (pss_one (ps_ret (pe_xu hz hf (pv 2)))))))
      (pss_one (ps_ret pe_non))), ?_⟩
    have z1 : ¬ (0 ≤ st ∧ st ≤ 2) → dueV st lo = .int st := fun h => if_pos (by omega)
    have z2 : 0 ≤ st → st ≤ 2 → ¬ (1 ≤ lo ∧ lo ≤ 3) → dueV st lo = .int lo := fun h1 h2 h3 => by
      unfold dueV
      rw [if_neg (by omega), if_pos (by omega)]
    have z3 : 0 ≤ st → st ≤ 2 → 1 ≤ lo → lo ≤ 3 → dueV st lo = .non := fun h1 h2 h3 h4 => by
      unfold dueV
      rw [if_neg (by omega), if_neg (by omega)]
    refine ⟨rfl, _, rfl, _, rfl, st, lo, rfl, fun h d M s1 hd => ⟨true, T.xo_e 1 (by decide) 1 (by decide), fun _ x hx => ?_, nofun⟩, fun h1 h2 h3 d M s1 hd => ⟨true, T.xo_e 1 (by decide) 1 (by decide), fun _ x hx => ?_, nofun⟩, fun h1 h2 h3 h4 G q ps k _ _ _ => ?_⟩
    · have zz := z M s1
      rw [z1 h] at zz
      refine ⟨_, rfl, a.BadCount, _, _, true, rfl, T.x_BadCount, xdok hd, rfl, fun u h => h, T.kg_e 1 (by decide), _, rfl, iteF ⟨_, rfl, a.BadCount, _, _, true, rfl, T.x_BadCount, xdok hd, rfl, fun u h => h, T.kv_e 1 (by decide), _, rfl, iteF ⟨_, rfl, a.BadCount, _, _, false, rfl, T.x_BadCount, xdok hd, rfl, fun u h => h, T.kk_e 1 (by decide) 3 (by decide), _, rfl, iteF ?_⟩⟩⟩
      exact ⟨_, rfl, a.BadCount, d, _, _, rfl, rfl, T.x_BadCount.xf, T.e_BadCount.noF, rfl, hd, by rw [List.lookup_cons, beq_self_eq_true], zz⟩
    · have zz := z M s1
      rw [z2 h1 h2 h3] at zz
      refine ⟨_, rfl, a.BadCount, _, _, true, rfl, T.x_BadCount, xdok hd, rfl, fun u h => h, T.kg_e 1 (by decide), _, rfl, iteF ⟨_, rfl, a.BadCount, _, _, true, rfl, T.x_BadCount, xdok hd, rfl, fun u h => h, T.kv_e 1 (by decide), _, rfl, iteF ⟨_, rfl, a.BadCount, _, _, false, rfl, T.x_BadCount, xdok hd, rfl, fun u h => h, T.kk_e 1 (by decide) 3 (by decide), _, rfl, iteF ?_⟩⟩⟩
      exact ⟨_, rfl, a.BadCount, d, _, _, rfl, rfl, T.x_BadCount.xf, T.e_BadCount.noF, rfl, hd, by rw [List.lookup_cons, beq_self_eq_true], zz⟩
    · have zz := z G k
      rw [z3 h1 h2 h3 h4] at zz
      exact zz
def spLBnd : Sp := fun vs H Q _ => ∃ (b : Addr) (k : Nat), vs = [.ref b] ∧ BoxAt (k + 2) H b ∧ ∀ G, Bu k b H G → Q (.bl true) G
theorem c_law_menu_bounds_hold (T : Txt K mg a) : Can P w K mg base 8 "_law_menu_bounds_hold" spLBnd := by
  refine can_of T.d_law_menu_bounds_hold sc_law_menu_bounds_hold bd_law_menu_bounds_hold (fun vs H Q E h => ?_) (fun f cdv A outer s0 H vs Q E hr h => ?_)
  · obtain ⟨b, k, rfl, _⟩ := h
    rfl
  · obtain ⟨b, k, rfl, hb, z⟩ := h
    refine ⟨_, (pss_cons (ps_set (i := 1) sc_law_menu_bounds_hold.nd rfl (.inl rfl) (pe_ix (kix_list K) (pe_lst (pa_cons pe_int (pa_cons (pe_un un_neg pe_int) (pa_cons pe_int (pa_cons pe_int (pa_cons pe_int (pa_cons pe_int (pa_cons (pe_op op_pow pe_int pe_int) (pa_cons (pe_un un_neg (pe_op op_pow pe_int pe_int)) pa_nil))))))))) (pc_f (c_law_take T) hr (by decide) (by rfl) (pa_cons (pv 0) (pa_cons pe_int pa_nil))) (fun _ _ => rfl)))
      (pss_cons (ps_set (i := 2) sc_law_menu_bounds_hold.nd rfl (.inl rfl) (pe_ix (kix_list K) (pe_lst (pa_cons pe_int (pa_cons pe_int (pa_cons pe_int (pa_cons pe_int (pa_cons (pe_un un_neg pe_int) (pa_cons pe_int (pa_cons (pe_op op_pow pe_int pe_int) (pa_cons (pe_un un_neg (pe_op op_pow pe_int pe_int)) pa_nil))))))))) (pc_f (c_law_take T) hr (by decide) (by rfl) (pa_cons (pv 0) (pa_cons pe_int pa_nil))) (fun _ _ => rfl)))
      (pss_cons (ps_set (i := 3) sc_law_menu_bounds_hold.nd rfl (.inl rfl) pe_non)
      (C8.pss_cut (ps_if (PW.pt (pw_or (pt_cmpR op_lt (pv 1) pe_int (nomark _)) (pw_or1 (pt_cmpR op_gt (pv 1) pe_int (nomark _))))) (pss_one (ps_set (i := 3) sc_law_menu_bounds_hold.nd rfl (.inl rfl) (pv 1))) (pss_one (ps_if (PW.pt (pw_or (pt_cmpR op_lt (pv 2) pe_int (nomark _)) (pw_or1 (pt_cmpR op_gt (pv 2) pe_int (nomark _))))) (pss_one (ps_set (i := 3) sc_law_menu_bounds_hold.nd rfl (.inl rfl) (pv 2))) pss_nil)))
      (pss_one (ps_ret (pe_cmpR (keqP K hr.units) (pc_f (c_law_menu_refused T) hr (by decide) (by rfl) (pa_cons (pv 1) (pa_cons (pv 2) pa_nil))) (pv 3) (nomark _)))))))), ?_⟩
    refine ⟨_, rfl, _, _, rfl, rfl, ⟨by decide, by decide, by decide⟩, _, _, rfl, rfl, ⟨by decide, by decide, by decide⟩, _, rfl, by show 8 ≤ sizeLine; decide, fun l0 hl0 => ?_⟩
    have n0 := box_ne hb hl0
    have b0 := (Bu.refl hb).put (o := .lst ([3, -1, 0, 1, 2, 4, 10 ^ 30, -10 ^ 30].map V.int)) hl0 n0
    refine ⟨_, rfl, b, 8, k + 1, rfl, b0.2, by decide, by decide, fun d G d0 d1 b1 => ?_⟩
    obtain ⟨st, hst⟩ := some8 (xs := [3, -1, 0, 1, 2, 4, 10 ^ 30, -10 ^ 30]) rfl d0 d1
    refine ⟨l0, _, d, _, rfl, rfl, seqL_of (b1.at upd_same n0), hst, ?_⟩
    have b01 := b0.trans b1
    refine ⟨_, rfl, _, _, rfl, rfl, ⟨by decide, by decide, by decide⟩, _, _, rfl, rfl, ⟨by decide, by decide, by decide⟩, _, rfl, by show 8 ≤ sizeLine; decide, fun l1 hl1 => ?_⟩
    have n1 := box_ne b01.2 hl1
    have b2 := b01.put (o := .lst ([4, 0, 1, 2, -1, 5, 10 ^ 30, -10 ^ 30].map V.int)) (bu_free b01 hl1 n1) n1
    refine ⟨_, rfl, b, 8, k, rfl, b2.2, by decide, by decide, fun d2 G2 e0 e1 b3 => ?_⟩
    obtain ⟨lo, hlo⟩ := some8 (xs := [4, 0, 1, 2, -1, 5, 10 ^ 30, -10 ^ 30]) rfl e0 e1
    refine ⟨l1, _, d2, _, rfl, rfl, seqL_of (b3.at upd_same n1), hlo, ?_⟩
    have bb := b2.trans b3
    refine ⟨fun σ M => M = G2 ∧ σ = [some (.ref b), some (.int st), some (.int lo), some (dueV st lo)], ?_, ?_⟩
    · unfold dueV
      by_cases c1 : st < 0
      · exact ⟨_, rfl, _, _, rfl, rfl, _, rfl, itP (decide_eq_true c1) (iteT ⟨_, rfl, rfl, by rw [if_pos (.inl c1)]; rfl⟩)⟩
      · refine ⟨_, rfl, _, _, rfl, rfl, _, rfl, itN (by rw [decide_eq_false c1]; decide) ⟨_, rfl, _, _, rfl, rfl, _, rfl, ?_⟩⟩
        by_cases c2 : 2 < st
        · exact itP (decide_eq_true c2) ⟨_, rfl, rfl, by rw [if_pos (.inr c2)]; rfl⟩
        · refine itN (by rw [decide_eq_false c2]; decide) ?_
          rw [if_neg (by omega)]
          by_cases c3 : lo < 1
          · exact ⟨_, rfl, _, _, rfl, rfl, _, rfl, itP (decide_eq_true c3) (iteT ⟨_, rfl, rfl, by rw [if_pos (.inl c3)]; rfl⟩)⟩
          · refine ⟨_, rfl, _, _, rfl, rfl, _, rfl, itN (by rw [decide_eq_false c3]; decide) ⟨_, rfl, _, _, rfl, rfl, _, rfl, ?_⟩⟩
            by_cases c4 : 3 < lo
            · exact itP (decide_eq_true c4) ⟨_, rfl, rfl, by rw [if_pos (.inr c4)]; rfl⟩
            · refine itN (by rw [decide_eq_false c4]; decide) ?_
              exact ⟨rfl, by rw [if_neg (by omega)]; rfl⟩
    · rintro σ M ⟨rfl, rfl⟩
      refine ⟨_, rfl, _, rfl, st, lo, rfl, fun G3 k3 => ?_⟩
      obtain ⟨d, h1, h2, h3⟩ := due_dp st lo
      refine ⟨_, rfl, d, d, h1 _ _, h1 _ _, h2, h2, h3, ?_⟩
      show Q (V.bl (PyData.eqv d d)) G3
      rw [SeqAt.eqv_refl_plain _ h2]
      exact z G3 (bb.same k3)
end
end K17

end
section
set_option Elab.async false
set_option linter.all false
set_option maxRecDepth 100000
set_option maxHeartbeats 4000000
namespace K17
open PySem PySem.Spec PyProof.Rows L2 Kit
theorem tp_eq (A : List (List Nat × List Nat)) : tp A = (A.map txt2).map tx := by
  unfold tp
  rw [List.map_map]
  rfl
theorem own_plus : own [] [43] = true := by
  refine own_iff.mpr ⟨by simp, fun _ => rfl, fun t q h _ => h, .inl rfl⟩
theorem menu_ne (st lo : Nat) : ∃ x xs, pairs (allW 0 st) (allW 1 (1 + lo)) = x :: xs := by
  have e0 : ∃ ys, allW 0 st = [] :: ys := by
    unfold allW
    rw [show st - 0 + 1 = st + 1 by omega, List.range_succ_eq_map]
    exact ⟨_, rfl⟩
  have e1 : ∃ ys, allW 1 (1 + lo) = [43] :: ys := by
    unfold allW
    rw [show 1 + lo - 1 + 1 = lo + 1 by omega, List.range_succ_eq_map]
    exact ⟨_, rfl⟩
  obtain ⟨ys, e0⟩ := e0
  obtain ⟨zs, e1⟩ := e1
  rw [e0, e1]
  unfold pairs
  rw [List.flatMap_cons]
  unfold row
  rw [List.filter_cons_of_pos (p := fun s => own s [43]) own_plus]
  exact ⟨_, _, rfl⟩
theorem each {a : Ad} {B : List (List Nat × List Nat)} {ps : List Addr} {M : Hp} {i : Nat} {x v : V} (m : MenuAt a M B ps) (hx : (ps.map V.ref)[i]? = some x) (hv : (tp B)[i]? = some v) : ∃ p dx s l, x = .ref p ∧ M p = some (.ins a.Mask dx (ml s l)) ∧ MaskAt a M p (at_ s l) s l ∧ v = tx (s ++ [40] ++ l ++ [41]) := by
  rw [List.getElem?_map] at hx
  unfold tp at hv
  rw [List.getElem?_map] at hv
  cases hp : ps[i]? with
  | none => rw [hp] at hx; cases hx
  | some p =>
    cases hy : B[i]? with
    | none => rw [hy] at hv; cases hv
    | some y =>
      rw [hp] at hx
      rw [hy] at hv
      cases hx
      cases hv
      have ma := m.2 i y p hy hp
      obtain ⟨dx, ob⟩ := ma.ob
      exact ⟨p, dx, y.1, y.2, rfl, ob, ma, rfl⟩
section
variable {P : Program} {w : World} {K : PySem.W.Frag} {mg : Str → Option Value} {base : Heap} {a : Ad}
def spLMH : Sp := fun vs H Q _ => ∃ st lo : Nat, vs = [.int (st : Int), .int (lo : Int)] ∧ st ≤ 2 ∧ 1 ≤ lo ∧ lo ≤ 3 ∧ ∀ G, Same H G → Q (.bl true) G
theorem c_law_menu_holds (T : Txt K mg a) : Can P w K mg base 6 "_law_menu_holds" spLMH := by
  refine can_of T.d_law_menu_holds sc_law_menu_holds bd_law_menu_holds (fun vs H Q E h => ?_) (fun f cdv A outer s0 H vs Q E hr h => ?_)
  · obtain ⟨st, lo, rfl, _⟩ := h
    rfl
  · obtain ⟨st, lo, rfl, h2, h1, h3, z⟩ := h
    refine ⟨_, (pss_cons (ps_set (i := 2) sc_law_menu_holds.nd rfl (.inl rfl) (pc_f (c_law_menu T) hr (by decide) (by rfl) (pa_cons (pv 0) (pa_cons (pv 1) pa_nil))))
      (pss_cons (ps_set (i := 3) sc_law_menu_holds.nd rfl (.inl rfl) (pc_cm (c_Mask_menu T) hr (by decide) (pe_glob (v := .ref a.Mask) (by rfl) T.c_Mask.gC rfl) (pa_cons (pv 0) (pa_cons (pv 1) pa_nil))))
      (pss_cons (ps_if (PW.pt (pw_or (pt_not (pt_val (pe_callB (kisi K) (by rfl) T.b_isinstance (by decide +kernel) (pa_cons (pv 3) (pa_cons (pe_bltn (v := .ty "list") (by rfl) T.b_list (by decide +kernel) rfl) pa_nil))))) (pw_or1 (pt_cmpR (kneP K hr.units) (pe_lc (own := [("mask", 4)]) (g := gName 4) (tt := tYes) (by rfl) sc_law_menu_holds.nd (kpi_list K (pv 3)) (blkOk_by (N := N_law_menu_holds) (sc := defScope s_law_menu_holds) (by decide +kernel)) (fun _ _ _ _ _ => (pg_name (i := 4) sc_law_menu_holds.nd rfl (.inl rfl))) (fun _ _ _ _ _ => pts_nil) (fun _ _ _ _ _ => (pe_callTy (strO (c_Mask_str T) hr (by decide)) (by rfl) T.b_str (by decide +kernel) (pa_cons (pv 4) pa_nil)))) (pv 2) (nomark _))))) (pss_one (ps_ret pe_bl)) pss_nil)
      (pss_cons (ps_for (passes_of rfl) (by rfl) (kpi_list K (pv 3)) (pg_name (i := 4) sc_law_menu_holds.nd rfl (.inl rfl)) (pss_one (ps_if (pt_not (pt_val (pe_callB (kisi K) (by rfl) T.b_isinstance (by decide +kernel) (pa_cons (pv 4) (pa_cons (pe_glob (v := .ref a.Mask) (by rfl) T.c_Mask.gC rfl) pa_nil))))) (pss_one (ps_ret pe_bl)) pss_nil)))
      (pss_cons (ps_expr (pe_bm PySem.F.plainAttrs_list PySem.F.slot_list_append PySem.F.type_list_append mt_append (pv 3) (pa_cons (pe_ix (kix_list K) (pv 3) pe_int (fun _ _ => rfl)) pa_nil)))
      (pss_one (ps_ret (pe_cmpR (keqP K hr.units) (pe_lc (own := [("mask", 4)]) (g := gName 4) (tt := tYes) (by rfl) sc_law_menu_holds.nd (kpi_list K (pc_cm (c_Mask_menu T) hr (by decide) (pe_glob (v := .ref a.Mask) (by rfl) T.c_Mask.gC rfl) (pa_cons (pv 0) (pa_cons (pv 1) pa_nil)))) (blkOk_by (N := N_law_menu_holds) (sc := defScope s_law_menu_holds) (by decide +kernel)) (fun _ _ _ _ _ => (pg_name (i := 4) sc_law_menu_holds.nd rfl (.inl rfl))) (fun _ _ _ _ _ => pts_nil) (fun _ _ _ _ _ => (pe_callTy (strO (c_Mask_str T) hr (by decide)) (by rfl) T.b_str (by decide +kernel) (pa_cons (pv 4) pa_nil)))) (pv 2) (nomark _))))))))), ?_⟩
    refine ⟨_, rfl, _, rfl, st, lo, rfl, h2, h1, h3, fun G1 qd k1 f1 hqd => ?_⟩
    generalize hA : pairs (allW 0 st) (allW 1 lo) = B at *
    have bn : B.length ≤ 225 := by
      have e1 := pairs_len (allW 0 st) (allW 1 lo)
      have e2 := allW_small (show lo ≤ 3 by omega) h1
      have e3 := allW_small (show st ≤ 3 by omega) (show 0 ≤ st by omega)
      have e4 : (allW 1 lo).length * (allW 0 st).length ≤ 15 * 15 := Nat.mul_le_mul e2 e3
      rw [hA] at e1
      omega
    obtain ⟨b0, bs, hb0⟩ : ∃ x xs, B = x :: xs := by
      obtain ⟨l1, rfl⟩ : ∃ n, lo = 1 + n := ⟨lo - 1, by omega⟩
      rw [← hA]
      exact menu_ne st l1
    refine ⟨rfl, _, rfl, _, rfl, (st : Int), (lo : Int), rfl, fun h => absurd ⟨by omega, by omega⟩ h, fun _ _ h => absurd ⟨by omega, by omega⟩ h, fun _ _ _ _ G2 q ps k2 f2 hq mn => ?_⟩
    rw [Int.toNat_natCast, Int.toNat_natCast, hA] at mn
    have nqd : qd ≠ q := fun e => by rw [← e, hqd] at f2; cases f2
    have hqd2 := k2 _ _ hqd
    have hnl : (tp B).length = (ps.map V.ref).length := by unfold tp; rw [List.length_map, List.length_map, mn.1]
    refine ⟨_, rfl, _, _, _, _, true, rfl, .ty _, .base (.lst hq), rfl, _, rfl, iteF ?_⟩
    refine ⟨_, rfl, q, rfl, ⟨_, seqL_of hq⟩, fun D hD => lc_one walk_list (tp B) hnl (by rw [← hnl]; unfold tp; rw [List.length_map]; omega) hD (fun M s => seqL_of (s _ _ hq)) ?_ ?_⟩
    · rintro i x M M' v hi s1 ⟨rfl, hx⟩ hv
      obtain ⟨p, dx, s, l, rfl, ob, ma, rfl⟩ := each (mn.mono s1) hx hv
      exact ⟨.refl _, fun Q' z' => ⟨_, rfl, p, dx, _, rfl, ob, p, _, s, l, rfl, ma, _, rfl, z' _ (.refl _)⟩⟩
    · intro G3 k3 hD3
      rw [tp_eq] at hD3 hqd2
      refine ⟨_, rfl, pdL (B.map txt2), pdL (B.map txt2), dp_txt hD3, dp_txt (k3 _ _ hqd2), plainL _, plainL _, depthL _, _, rfl, itN (by rw [SeqAt.eqv_refl_plain _ (plainL _)]; decide) ?_⟩
      refine ⟨_, rfl, q, rfl, ⟨_, seqL_of (k3 _ _ hq)⟩, for_it (walk_list (xs := ps.map V.ref)) (fun i σ M => M = G3 ∧ ∃ x, σ = [some (.int (st : Int)), some (.int (lo : Int)), some (.ref qd), some (.ref q), x]) ⟨rfl, none, rfl⟩ (fun i σ M _ h => by rw [h.1]; exact seqL_of (k3 _ _ hq)) ?_ ?_⟩
      · rintro i x σ M M' hi ⟨rfl, x0, rfl⟩ ⟨rfl, hx⟩
        have hv : (tp B)[i]? = some ((tp B)[i]'(by rw [hnl]; exact hi)) := List.getElem?_eq_getElem _
        obtain ⟨p, dx, s, l, rfl, ob, ma, _⟩ := each (mn.mono k3) hx hv
        exact ⟨_, rfl, _, _, _, _, true, rfl, .own _, .base (.ins ob T.c_Mask.cl T.i_ha T.i_hn T.i_ht T.i_hm), T.i_own, _, rfl, iteF ⟨rfl, _, rfl⟩⟩
      · rintro σ M ⟨rfl, x0, rfl⟩
        have hq3 := k3 _ _ hq
        obtain ⟨p0, pr, hp0⟩ : ∃ y ys, ps = y :: ys := by
          match ps, mn.1 with
          | [], e => rw [hb0] at e; cases e
          | y :: ys, _ => exact ⟨y, ys, rfl⟩
        subst hp0
        have lps : ((p0 :: pr).map V.ref).length ≤ 225 := by rw [← hnl]; unfold tp; rw [List.length_map]; exact bn
        refine ⟨_, rfl, .inl ⟨rfl, _, seqL_of hq3⟩, _, rfl, q, _, 0, _, rfl, rfl, seqL_of hq3, atI_nat (j := 0) rfl, q, _, _, rfl, rfl, hq3, szlt (by omega), ?_⟩
        have qd5 : ∀ o, upd M q o qd = M qd := fun o => upd_ne nqd
        have fq : H q = none := free_same k1 f2
        have k5 : Same H (upd M q (.lst ((p0 :: pr).map V.ref ++ [.ref p0]))) := ex_mut ((k1.trans k2).trans k3) fq
        refine ⟨rfl, _, rfl, _, rfl, (st : Int), (lo : Int), rfl, fun h => absurd ⟨by omega, by omega⟩ h, fun _ _ h => absurd ⟨by omega, by omega⟩ h, fun _ _ _ _ G6 q6 ps6 k6 f6 hq6 mn6 => ?_⟩
        rw [Int.toNat_natCast, Int.toNat_natCast, hA] at mn6
        have hnl6 : (tp B).length = (ps6.map V.ref).length := by unfold tp; rw [List.length_map, List.length_map, mn6.1]
        refine ⟨q6, rfl, ⟨_, seqL_of hq6⟩, fun D6 hD6 => lc_one walk_list (tp B) hnl6 (by rw [← hnl6, hnl]; omega) hD6 (fun M s => seqL_of (s _ _ hq6)) ?_ ?_⟩
        · rintro i x M5 M' v hi s1 ⟨rfl, hx⟩ hv
          obtain ⟨p, dx, s, l, rfl, ob, ma, rfl⟩ := each (mn6.mono s1) hx hv
          exact ⟨.refl _, fun Q' z' => ⟨_, rfl, p, dx, _, rfl, ob, p, _, s, l, rfl, ma, _, rfl, z' _ (.refl _)⟩⟩
        · intro G7 k7 hD7
          rw [tp_eq] at hD7
          refine ⟨_, rfl, pdL (B.map txt2), pdL (B.map txt2), dp_txt hD7, dp_txt (k7 _ _ (k6 _ _ (by rw [upd_ne nqd]; exact k3 _ _ hqd2))), plainL _, plainL _, depthL _, ?_⟩
          rw [SeqAt.eqv_refl_plain _ (plainL _)]
          exact z G7 ((k5.trans k6).trans k7)
end
end K17

end
section
set_option Elab.async false
set_option linter.all false
set_option maxRecDepth 100000
set_option maxHeartbeats 4000000
namespace K17
open PySem PySem.Spec PyProof.Rows L2 Kit
theorem text_ex (t : List Nat) : ∃ y : V, TextV t y := by
  by_cases c : ∃ u v, Wr t u v
  · obtain ⟨u, v, h⟩ := c
    exact ⟨wrongP u v, fun g => absurd h (g u v), fun u2 v2 g => by obtain ⟨rfl, rfl⟩ := h.uniq g; rfl⟩
  · exact ⟨.str "text", fun _ => rfl, fun u v h => absurd ⟨u, v, h⟩ c⟩
theorem wrong_dp (u v : List Nat) : ∃ d : PyData, (∀ (K : PySem.W.Frag) (H : Hp), Dp K H (wrongP u v) d) ∧ d.plain = true ∧ d.depth ≤ 64 := by
  unfold wrongP
  by_cases c1 : marksB u = false
  · rw [if_pos c1]
    exact ⟨.str "start", fun _ _ => .str _, by simp [PyData.plain], by simp [PyData.depth]⟩
  · rw [if_neg c1]
    by_cases c2 : v = [] ∨ marksB v = false
    · rw [if_pos c2]
      exact ⟨.str "loop", fun _ _ => .str _, by simp [PyData.plain], by simp [PyData.depth]⟩
    · rw [if_neg c2]
      exact ⟨.none, fun _ _ => .non, by simp [PyData.plain], by simp [PyData.depth]⟩
theorem text_dp {t : List Nat} {y : V} (tv : TextV t y) : ∃ d : PyData, (∀ (K : PySem.W.Frag) (H : Hp), Dp K H y d) ∧ d.plain = true ∧ d.depth ≤ 64 := by
  by_cases c : ∃ u v, Wr t u v
  · obtain ⟨u, v, h⟩ := c
    rw [tv.2 u v h]
    exact wrong_dp u v
  · rw [tv.1 fun u v h => c ⟨u, v, h⟩]
    exact ⟨.str "text", fun _ _ => .str _, by simp [PyData.plain], by simp [PyData.depth]⟩
section
variable {P : Program} {w : World} {K : PySem.W.Frag} {mg : Str → Option Value} {base : Heap} {a : Ad}
def spLRH : Sp := fun vs H Q _ => ∃ (b : Addr) (k : Nat) (s l : List Nat), vs = [.ref b, tx s, tx l] ∧ BoxAt (k + 11) H b ∧ s.length ≤ 6 ∧ l.length ≤ 6 ∧ ∀ G, Bu k b H G → Q (.bl true) G
theorem c_law_refusals_hold (T : Txt K mg a) : Can P w K mg base 8 "_law_refusals_hold" spLRH := by
  refine can_of T.d_law_refusals_hold sc_law_refusals_hold bd_law_refusals_hold (fun vs H Q E h => ?_) (fun f cdv A outer s0 H vs Q E hr h => ?_)
  · obtain ⟨b, k, s, l, rfl, _⟩ := h
    rfl
  · obtain ⟨b, k, s, l, rfl, hb, hs, hl, z⟩ := h
    refine ⟨_, (pss_cons (ps_set (i := 3) sc_law_refusals_hold.nd rfl (.inl rfl) (pc_f (c_law_spoilt T) hr (by decide) (by rfl) (pa_cons (pv 0) (pa_cons (pv 1) pa_nil))))
      (pss_cons (ps_set (i := 4) sc_law_refusals_hold.nd rfl (.inl rfl) (pc_f (c_law_spoilt T) hr (by decide) (by rfl) (pa_cons (pv 0) (pa_cons (pv 2) pa_nil))))
      (pss_cons (ps_if (pt_cmpR (kneP K hr.units) (pc_f (c_law_refused T) hr (by decide) (by rfl) (pa_cons (pv 3) (pa_cons (pv 4) (pa_cons pe_non pa_nil)))) (pc_f (c_law_bad_part T) hr (by decide) (by rfl) (pa_cons (pv 3) (pa_cons (pv 4) pa_nil))) (nomark _)) (pss_one (ps_ret pe_bl)) pss_nil)
      (pss_cons (ps_set (i := 5) sc_law_refusals_hold.nd rfl (.inl rfl) (pe_op op_add_str (pe_op op_add_str (pe_op op_add_str (pv 3) pe_str) (pv 4)) pe_str))
      (pss_cons (ps_if (pt_cmpR (kneP K hr.units) (pc_f (c_law_refused T) hr (by decide) (by rfl) (pa_cons pe_str (pa_cons pe_str (pa_cons (pv 5) pa_nil)))) (pc_f (c_law_bad_text T) hr (by decide) (by rfl) (pa_cons (pv 5) pa_nil)) (nomark _)) (pss_one (ps_ret pe_bl)) pss_nil)
      (pss_cons (ps_set (i := 5) sc_law_refusals_hold.nd rfl (.inl rfl) (pc_f (c_law_spoilt_text T) hr (by decide) (by rfl) (pa_cons (pv 0) (pa_cons (pe_op op_add_str (pe_op op_add_str (pe_op op_add_str (pv 1) pe_str) (pv 2)) pe_str) pa_nil))))
      (pss_one (ps_ret (pe_cmpR (keqP K hr.units) (pc_f (c_law_refused T) hr (by decide) (by rfl) (pa_cons pe_str (pa_cons pe_str (pa_cons (pv 5) pa_nil)))) (pc_f (c_law_bad_text T) hr (by decide) (by rfl) (pa_cons (pv 5) pa_nil)) (nomark _)))))))))), ?_⟩
    rw [lit_po, lit_pc, lit_emp]
    refine ⟨_, rfl, _, rfl, b, k + 7, s, rfl, hb, hs, fun G1 m b1 lm => ?_⟩
    refine ⟨_, rfl, _, rfl, b, k + 3, l, rfl, b1.2, hl, fun G2 n b2 ln => ?_⟩
    have b12 := b1.trans b2
    obtain ⟨d, dp, pl, de⟩ := wrong_dp m n
    refine ⟨_, rfl, _, rfl, m, n, .non, rfl, .inl ⟨rfl, by omega, by omega, fun G3 k3 => ?_⟩⟩
    refine ⟨_, rfl, _, rfl, m, n, rfl, by omega, by omega, ?_⟩
    refine ⟨d, d, dp _ _, dp _ _, pl, pl, de, _, rfl, itN (by rw [SeqAt.eqv_refl_plain _ pl]; decide) ?_⟩
    have n1 : (m ++ [40]).length = m.length + 1 := List.length_append
    have n2 : (m ++ [40] ++ n).length = m.length + 1 + n.length := by rw [List.length_append, n1]
    have n3 : (m ++ [40] ++ n ++ [41]).length = m.length + 1 + n.length + 1 := by rw [List.length_append, n2]; rfl
    refine ⟨_, rfl, _, _, rfl, rfl, by rw [S_len, S_len]; exact szl (by show _ + 1 ≤ _; omega), ?_⟩
    rw [S_app]
    refine ⟨_, rfl, _, _, rfl, rfl, by rw [S_len, S_len, n1]; exact szl (by omega), ?_⟩
    rw [S_app]
    refine ⟨_, _, rfl, rfl, by rw [S_len, S_len, n2]; exact szl (by show _ + 1 ≤ _; omega), ?_⟩
    rw [S_app]
    obtain ⟨y, tv⟩ := text_ex (m ++ [40] ++ n ++ [41])
    obtain ⟨d2, dp2, pl2, de2⟩ := text_dp tv
    refine ⟨_, rfl, [], [], _, rfl, .inr ⟨_, y, rfl, by rw [n3]; omega, tv, fun G4 k4 => ?_⟩⟩
    refine ⟨_, rfl, _, y, rfl, by rw [n3]; omega, tv, ?_⟩
    refine ⟨d2, d2, dp2 _ _, dp2 _ _, pl2, pl2, de2, _, rfl, itN (by rw [SeqAt.eqv_refl_plain _ pl2]; decide) ?_⟩
    have m1 : (s ++ [40]).length = s.length + 1 := List.length_append
    have m2 : (s ++ [40] ++ l).length = s.length + 1 + l.length := by rw [List.length_append, m1]
    have m3 : (s ++ [40] ++ l ++ [41]).length = s.length + 1 + l.length + 1 := by rw [List.length_append, m2]; rfl
    refine ⟨_, rfl, _, rfl, _, _, rfl, rfl, by rw [S_len, S_len]; exact szl (by show _ + 1 ≤ _; omega), ?_⟩
    rw [S_app]
    refine ⟨_, rfl, _, _, rfl, rfl, by rw [S_len, S_len, m1]; exact szl (by omega), ?_⟩
    rw [S_app]
    refine ⟨_, _, rfl, rfl, by rw [S_len, S_len, m2]; exact szl (by show _ + 1 ≤ _; omega), ?_⟩
    rw [S_app]
    have b4 := (b12.same k3).same k4
    refine ⟨b, k, s ++ [40] ++ l ++ [41], rfl, b4.2, by rw [m3]; omega, fun G5 x b5 lx => ?_⟩
    obtain ⟨y3, tv3⟩ := text_ex x
    obtain ⟨d3, dp3, pl3, de3⟩ := text_dp tv3
    refine ⟨_, rfl, [], [], _, rfl, .inr ⟨_, y3, rfl, by omega, tv3, fun G6 k6 => ?_⟩⟩
    refine ⟨_, rfl, _, y3, rfl, by omega, tv3, ?_⟩
    refine ⟨d3, d3, dp3 _ _, dp3 _ _, pl3, pl3, de3, ?_⟩
    rw [SeqAt.eqv_refl_plain _ pl3]
    exact z G6 ((b4.trans b5).same k6)
end
end K17

end
section
set_option Elab.async false
set_option linter.all false
set_option maxRecDepth 100000
set_option maxHeartbeats 4000000
namespace K17
open PySem PySem.Spec PyProof.Rows L2 Kit
theorem marks_no {x : List Nat} (h : marksB x = true) {c : Nat} (hc : isM c = false) : c ∉ x := fun m => by
  unfold marksB at h
  rw [Bool.and_eq_true] at h
  have := List.all_eq_true.mp h.2 c m
  rw [hc] at this
  cases this
theorem wr_marks {x y : List Nat} (hx : marksB x = true) (hy : marksB y = true) : Wr (x ++ [40] ++ y ++ [41]) x y :=
  ⟨by rw [List.append_assoc, List.append_assoc]; rfl, ⟨marks_no hx rfl, marks_no hx rfl⟩, marks_no hy rfl, marks_no hy rfl⟩
theorem marks_app {x y : List Nat} (hx : marksB x = true) (hy : marksB y = true) (h : x.length + y.length ≤ 6) : marksB (x ++ y) = true := by
  unfold marksB at *
  rw [Bool.and_eq_true] at *
  rw [decide_eq_true_iff, List.length_append, List.all_append, hx.2, hy.2]
  exact ⟨h, rfl⟩
theorem marks_len {x : List Nat} (hx : marksB x = true) : x.length ≤ 6 := by
  unfold marksB at hx
  rw [Bool.and_eq_true, decide_eq_true_iff] at hx
  exact hx.1
theorem at_two {s l : List Nat} (h : l ≠ []) : at_ s (l ++ l) = at_ s l := funext fun i => by
  by_cases c : i < s.length
  · rw [at_lt c, at_lt c]
  · rw [at_ge (by omega), at_ge (by omega)]
    have h0 := List.length_pos_iff.mpr h
    have e : (l ++ l).length = l.length + l.length := List.length_append
    have lt := Nat.mod_lt (i - s.length) (show 0 < (l ++ l).length by omega)
    have d := dbl l (j := (i - s.length) % (l ++ l).length) (by omega)
    rw [List.getD_eq_getElem?_getD, d, at_ge (Nat.zero_le _)]
    show l.getD (((i - s.length) % (l ++ l).length - 0) % l.length) 0 = _
    rw [Nat.sub_zero, e, Nat.mod_mod_of_dvd _ ⟨2, by omega⟩]
theorem same_mask {a : Ad} {H G : Hp} {p q : Addr} {u : Nat → Nat} {s l s2 l2 : List Nat} (h : MaskAt a H p u s l) (g : MaskAt a G q u s2 l2) : (decide (s = s2) && decide (l = l2)) = true := by
  obtain ⟨rfl, rfl⟩ := h.ls.uniq g.ls
  rw [decide_eq_true rfl, decide_eq_true rfl]
  rfl
section
variable {P : Program} {w : World} {K : PySem.W.Frag} {mg : Str → Option Value} {base : Heap} {a : Ad}
def spLWA (a : Ad) : Sp := fun vs H Q _ => ∃ (p : Addr) (x y s l : List Nat), vs = [.ref p, tx x, tx y] ∧ MaskAt a H p (at_ x y) s l ∧ marksB x = true ∧ marksB y = true ∧ y ≠ [] ∧ ∀ G, Same H G → Q (.bl true) G
theorem c_law_written_again (T : Txt K mg a) : Can P w K mg base 6 "_law_written_again" (spLWA a) := by
  refine can_of T.d_law_written_again sc_law_written_again bd_law_written_again (fun vs H Q E h => ?_) (fun f cdv A outer s0 H vs Q E hr h => ?_)
  · obtain ⟨p, x, y, s, l, rfl, _⟩ := h
    rfl
  · obtain ⟨p, x, y, s, l, rfl, m1, hx, hy, h0, z⟩ := h
    refine ⟨_, (pss_cons (ps_if (pt_not (pt_val (pc_f (c_law_truth T) hr (by decide) (by rfl) (pa_cons (pe_cmpR (eqO K (c_Mask_eq T) hr (by decide) T.i_ni T.i_ns) (pc_cm (c_Mask_read T) hr (by decide) (pe_glob (v := .ref a.Mask) (by rfl) T.c_Mask.gC rfl) (pa_cons (pe_op op_add_str (pe_op op_add_str (pe_op op_add_str (pv 1) pe_str) (pv 2)) pe_str) pa_nil)) (pv 0) (nomark _)) (pa_cons pe_bl pa_nil))))) (pss_one (ps_ret pe_bl)) pss_nil)
      (C8.pss_cut (ps_if (PW.pt (pw_and (pt_cmpR op_lt (pe_callB call_len_str (by rfl) T.b_len (by decide +kernel) (pa_cons (pv 1) pa_nil)) pe_int (nomark _)) (pw_and1 (pt_not (pt_val (pc_f (c_law_truth T) hr (by decide) (by rfl) (pa_cons (pe_cmpR (eqO K (c_Mask_eq T) hr (by decide) T.i_ni T.i_ns) (pc_n (c_Mask_init T) hr (by decide) (by rfl) (pa_cons (pe_op op_add_str (pv 1) (pe_ix ix_str (pv 2) pe_int (fun _ _ => rfl))) (pa_cons (pe_op op_add_str (pe_slice sl_str (pv 2) (po_some pe_int) po_none) (pe_ix ix_str (pv 2) pe_int (fun _ _ => rfl))) pa_nil))) (pv 0) (nomark _)) (pa_cons pe_bl pa_nil)))))))) (pss_one (ps_ret pe_bl)) pss_nil)
      (C8.pss_cut (ps_if (PW.pt (pw_and (pt_cmpR op_lt (pe_callB call_len_str (by rfl) T.b_len (by decide +kernel) (pa_cons (pv 2) pa_nil)) pe_int (nomark _)) (pw_and1 (pt_not (pt_val (pc_f (c_law_truth T) hr (by decide) (by rfl) (pa_cons (pe_cmpR (eqO K (c_Mask_eq T) hr (by decide) T.i_ni T.i_ns) (pv 0) (pc_n (c_Mask_init T) hr (by decide) (by rfl) (pa_cons (pv 1) (pa_cons (pe_op op_add_str (pv 2) (pv 2)) pa_nil))) (nomark _)) (pa_cons pe_bl pa_nil)))))))) (pss_one (ps_ret pe_bl)) pss_nil)
      (pss_one (ps_ret (pe_and (pc_f (c_law_truth T) hr (by decide) (by rfl) (pa_cons (pe_cmpR (eqO K (c_Mask_eq T) hr (by decide) T.i_ni T.i_ns) (pv 0) (pe_op op_add_str (pe_op op_add_str (pe_op op_add_str (pv 1) pe_str) (pv 2)) pe_str) (nomark _)) (pa_cons pe_bl pa_nil))) (pe_one (pc_f (c_law_truth T) hr (by decide) (by rfl) (pa_cons (pe_cmpR (eqO K (c_Mask_eq T) hr (by decide) T.i_ni T.i_ns) (pv 0) (pe_callTy (strO (c_Mask_str T) hr (by decide)) (by rfl) T.b_str (by decide +kernel) (pa_cons (pv 0) pa_nil)) (nomark _)) (pa_cons pe_bl pa_nil)))))))))), ?_⟩
    rw [lit_po, lit_pc]
    have lx := marks_len hx
    have ly := marks_len hy
    have n1 : (x ++ [40]).length = x.length + 1 := List.length_append
    have n2 : (x ++ [40] ++ y).length = x.length + 1 + y.length := by rw [List.length_append, n1]
    have n3 : (x ++ [40] ++ y ++ [41]).length = x.length + 1 + y.length + 1 := by rw [List.length_append, n2]; rfl
    have wr := wr_marks hx hy
    have sz : ∀ {x : List Nat}, x.length ≤ 1000 → (S x).length ≤ sizeLine := fun h => by rw [S_len]; exact szl (by omega)
    refine ⟨rfl, _, rfl, _, _, rfl, rfl, by rw [S_len, S_len]; exact szl (by show _ + 1 ≤ _; omega), ?_⟩
    rw [S_app]
    refine ⟨_, rfl, _, _, rfl, rfl, by rw [S_len, S_len, n1]; exact szl (by omega), ?_⟩
    rw [S_app]
    refine ⟨_, _, rfl, rfl, by rw [S_len, S_len, n2]; exact szl (by show _ + 1 ≤ _; omega), ?_⟩
    rw [S_app]
    refine ⟨_, rfl, by rw [n3]; omega, fun h => absurd wr (h x y), fun u v g => ?_⟩
    obtain ⟨rfl, rfl⟩ := wr.uniq g
    refine ⟨fun h => absurd (hx.symm.trans h) (by decide), fun _ h => ?_, fun _ _ _ G q s2 l2 k1 m2 _ => ?_⟩
    · exact h.elim (fun e => absurd e h0) (fun e => absurd (hy.symm.trans e) (by decide))
    have m1G := m1.mono k1
    obtain ⟨dx, hp⟩ := m1G.ob
    obtain ⟨dy, hq⟩ := m2.ob
    refine ⟨_, rfl, q, dy, _, rfl, hq, .inr (.inr ⟨p, dx, _, rfl, hp⟩), q, _, s2, l2, _, rfl, m2, .inr ⟨p, _, s, l, rfl, m1G, _, rfl, ?_⟩⟩
    rw [same_mask m2 m1G]
    refine ⟨true, true, rfl, _, rfl, iteF ?_⟩
    obtain ⟨y0, y', rfl⟩ : ∃ y0 y', y = y0 :: y' := by
      match y, h0 with
      | y0 :: y', _ => exact ⟨y0, y', rfl⟩
    have ly1 : (y0 :: y').length = y'.length + 1 := rfl
    have y0m : isM y0 = true := by
      unfold marksB at hy
      rw [Bool.and_eq_true] at hy
      exact List.all_eq_true.mp hy.2 _ List.mem_cons_self
    have one0 : marksB [y0] = true := by
      unfold marksB
      rw [List.all_cons, y0m]
      rfl
    have y'm : marksB y' = true := by
      unfold marksB at hy ⊢
      rw [Bool.and_eq_true, decide_eq_true_iff, List.all_cons, Bool.and_eq_true] at hy
      rw [hy.2.2, decide_eq_true (by omega)]
      rfl
    have at0 : atI (S (y0 :: y')).cps.toList 0 = some y0 := atI_nat (j := 0) rfl
    have mid : Same H G := k1
    refine ⟨fun σ M => Same H M ∧ σ = [some (.ref p), some (tx x), some (tx (y0 :: y'))], ?_, ?_⟩
    · refine ⟨_, rfl, _, rfl, sz (by omega), _, _, rfl, rfl, _, rfl, ?_⟩
      rw [S_len]
      by_cases c : x.length < 6
      · rw [decide_eq_true (by omega)]
        refine iteT ⟨_, rfl, _, rfl, _, _, y0, rfl, rfl, sz (by omega), at0, S x, S [y0], rfl, rfl, by rw [S_len, S_len]; exact szl (by show _ + 1 ≤ _; omega), ?_⟩
        rw [S_app]
        refine ⟨_, rfl, _, rfl, _, rfl, sz (by omega), ?_⟩
        rw [show cutS (S (y0 :: y')) (some 1) none = S y' from cut_drop (y0 :: y') 1]
        refine ⟨_, rfl, _, _, y0, rfl, rfl, sz (by omega), at0, S y', S [y0], rfl, rfl, by rw [S_len, S_len]; exact szl (by show _ + 1 ≤ _; omega), ?_⟩
        rw [S_app]
        intro q dq hq hdq hne
        have k9 : Same G (upd (upd G dq (.own q)) q (.ins a.Mask dq [])) := (ex_new (o := .own q) hdq).trans (ex_new (o := .ins a.Mask dq []) (by rw [upd_ne (Ne.symm hne)]; exact hq))
        have r1 : (x ++ [y0]).length = x.length + 1 := List.length_append
        have r2 : (y' ++ [y0]).length = y'.length + 1 := List.length_append
        have g1 : marksB (x ++ [y0]) = true := marks_app hx one0 (by show _ + 1 ≤ 6; omega)
        have g2 : marksB (y' ++ [y0]) = true := marks_app y'm one0 (by show _ + 1 ≤ 6; omega)
        have g3 : y' ++ [y0] ≠ [] := by simp
        refine ⟨q, dq, _, _, rfl, upd_same, by omega, by omega, fun h => absurd (g1.symm.trans h) (by decide), fun _ h => ?_, fun _ _ _ M s3 l3 k3 g L ls => ⟨rfl, ?_⟩⟩
        · exact h.elim (fun e => absurd e g3) (fun e => absurd (g2.symm.trans e) (by decide))
        obtain ⟨sm, ma⟩ := made2 (a := a) g1 g2 g3 hq hdq hne k3 g L ls
        have e : at_ (x ++ [y0]) (y' ++ [y0]) = at_ x (y0 :: y') := funext at_rot
        rw [e] at ma
        have mM := m1G.mono sm
        obtain ⟨dx', hp'⟩ := mM.ob
        obtain ⟨dy', hq'⟩ := ma.ob
        refine ⟨_, rfl, q, dy', _, rfl, hq', .inr (.inr ⟨p, dx', _, rfl, hp'⟩), q, _, s3, l3, _, rfl, ma, .inr ⟨p, _, s, l, rfl, mM, _, rfl, ?_⟩⟩
        rw [same_mask ma mM]
        exact ⟨true, true, rfl, _, rfl, iteF ⟨k1.trans sm, rfl⟩⟩
      · rw [decide_eq_false (by omega)]
        exact iteF ⟨k1, rfl⟩
    · rintro σ G2 ⟨k2, rfl⟩
      have m2G := m1.mono k2
      obtain ⟨dx2, hp2⟩ := m2G.ob
      refine ⟨fun σ M => Same H M ∧ σ = [some (.ref p), some (tx x), some (tx (y0 :: y'))], ?_, ?_⟩
      · refine ⟨_, rfl, _, rfl, sz (by omega), _, _, rfl, rfl, _, rfl, ?_⟩
        rw [S_len]
        by_cases c : (y0 :: y').length < 4
        · rw [decide_eq_true (by omega)]
          refine iteT ⟨_, rfl, _, rfl, _, rfl, _, rfl, S (y0 :: y'), S (y0 :: y'), rfl, rfl, by rw [S_len]; exact szl (by omega), ?_⟩
          rw [S_app]
          intro q dq hq hdq hne
          have g2 : marksB ((y0 :: y') ++ (y0 :: y')) = true := marks_app hy hy (by omega)
          have g3 : (y0 :: y') ++ (y0 :: y') ≠ [] := by simp
          have r2 : ((y0 :: y') ++ (y0 :: y')).length = (y0 :: y').length + (y0 :: y').length := List.length_append
          refine ⟨q, dq, _, _, rfl, upd_same, by omega, by omega, fun h => absurd (hx.symm.trans h) (by decide), fun _ h => ?_, fun _ _ _ M s3 l3 k3 g L ls => ⟨rfl, ?_⟩⟩
          · exact h.elim (fun e => absurd e g3) (fun e => absurd (g2.symm.trans e) (by decide))
          obtain ⟨sm, ma⟩ := made2 (a := a) hx g2 g3 hq hdq hne k3 g L ls
          rw [at_two h0] at ma
          have mM := m2G.mono sm
          obtain ⟨dx', hp'⟩ := mM.ob
          obtain ⟨dy', hq'⟩ := ma.ob
          refine ⟨p, dx', _, rfl, hp', .inr (.inr ⟨q, dy', _, rfl, hq'⟩), p, _, s, l, _, rfl, mM, .inr ⟨q, _, s3, l3, rfl, ma, _, rfl, ?_⟩⟩
          rw [same_mask mM ma]
          exact ⟨true, true, rfl, _, rfl, iteF ⟨k2.trans sm, rfl⟩⟩
        · rw [decide_eq_false (by omega)]
          exact iteF ⟨k2, rfl⟩
      · rintro σ G3 ⟨k3, rfl⟩
        have m3G := m1.mono k3
        obtain ⟨dx3, hp3⟩ := m3G.ob
        refine ⟨_, rfl, _, rfl, _, _, rfl, rfl, by rw [S_len, S_len]; exact szl (by show _ + 1 ≤ _; omega), ?_⟩
        rw [S_app]
        refine ⟨_, rfl, _, _, rfl, rfl, by rw [S_len, S_len, n1]; exact szl (by omega), ?_⟩
        rw [S_app]
        refine ⟨_, _, rfl, rfl, by rw [S_len, S_len, n2]; exact szl (by show _ + 1 ≤ _; omega), ?_⟩
        rw [S_app]
        refine ⟨p, dx3, _, rfl, hp3, .inr (.inl ⟨_, rfl⟩), p, _, s, l, _, rfl, m3G, .inl ⟨_, rfl, _, rfl, false, false, rfl, _, rfl, iteT ?_⟩⟩
        refine ⟨_, rfl, _, rfl, p, dx3, _, rfl, hp3, p, _, s, l, rfl, m3G, _, rfl, ?_⟩
        refine ⟨p, dx3, _, rfl, hp3, .inr (.inl ⟨_, rfl⟩), p, _, s, l, _, rfl, m3G, .inl ⟨_, rfl, _, rfl, false, false, rfl, z G3 k3⟩⟩
end
end K17

end
section
set_option Elab.async false
set_option linter.all false
set_option maxRecDepth 100000
set_option maxHeartbeats 4000000
namespace K17
open PySem PySem.Spec PyProof.Rows L2 Kit
theorem MaskAt.sm {a : Ad} {H : Hp} {p : Addr} {u : Nat → Nat} {s l : List Nat} (h : MaskAt a H p u s l) : s.all isM = true ∧ l.all isM = true := by
  constructor
  · refine List.all_eq_true.mpr fun x hx => ?_
    obtain ⟨i, hi⟩ := List.getElem?_of_mem hx
    have c : i < s.length := (List.getElem?_eq_some_iff.mp hi).1
    rw [at_s (l := l) c, h.ls.wd] at hi
    cases hi
    exact h.sg i
  · refine List.all_eq_true.mpr fun x hx => ?_
    obtain ⟨i, hi⟩ := List.getElem?_of_mem hx
    have c : i < l.length := (List.getElem?_eq_some_iff.mp hi).1
    rw [at_l (s := s) c, h.ls.wd] at hi
    cases hi
    exact h.sg _
theorem all_no {x : List Nat} (h : x.all isM = true) {c : Nat} (hc : isM c = false) : c ∉ x := fun m => by
  have := List.all_eq_true.mp h c m
  rw [hc] at this
  cases this
section
variable {P : Program} {w : World} {K : PySem.W.Frag} {mg : Str → Option Value} {base : Heap} {a : Ad}
def spLRB (a : Ad) : Sp := fun vs H Q _ => ∃ (p q : Addr) (u : Nat → Nat) (s l : List Nat), vs = [.ref p, .ref q] ∧ MaskAt a H p u s l ∧ H q = some (.tup [tx s, tx l]) ∧ ∀ G, Same H G → Q (.bl true) G
theorem c_law_read_back (T : Txt K mg a) : Can P w K mg base 8 "_law_read_back" (spLRB a) := by
  refine can_of T.d_law_read_back sc_law_read_back bd_law_read_back (fun vs H Q E h => ?_) (fun f cdv A outer s0 H vs Q E hr h => ?_)
  · obtain ⟨p, q, u, s, l, rfl, _⟩ := h
    rfl
  · obtain ⟨p, q, u, s, l, rfl, m1, hq, z⟩ := h
    refine ⟨_, (pss_cons (ps_set (i := 2) sc_law_read_back.nd rfl (.inl rfl) (pc_f (c_law_refused T) hr (by decide) (by rfl) (pa_cons pe_str (pa_cons pe_str (pa_cons (pe_callTy (strO (c_Mask_str T) hr (by decide)) (by rfl) T.b_str (by decide +kernel) (pa_cons (pv 0) pa_nil)) pa_nil)))))
      (pss_cons (ps_if (pt_cmpR op_gt (pe_callB call_len_str (by rfl) T.b_len (by decide +kernel) (pa_cons (pe_ix (kix_tup K) (pv 1) pe_int (fun _ _ => rfl)) pa_nil)) pe_int (nomark _)) (pss_one (ps_ret (pe_cmpR (keqP K hr.units) (pv 2) pe_str (nomark _)))) pss_nil)
      (pss_one (ps_ret (pe_and (pe_cmpR op_isN (pv 2) pe_non (nomark _)) (pe_one (pc_f (c_law_truth T) hr (by decide) (by rfl) (pa_cons (pe_cmpR (eqO K (c_Mask_eq T) hr (by decide) T.i_ni T.i_ns) (pc_cm (c_Mask_read T) hr (by decide) (pe_glob (v := .ref a.Mask) (by rfl) T.c_Mask.gC rfl) (pa_cons (pe_callTy (strO (c_Mask_str T) hr (by decide)) (by rfl) T.b_str (by decide +kernel) (pa_cons (pv 0) pa_nil)) pa_nil)) (pv 0) (nomark _)) (pa_cons pe_bl pa_nil))))))))), ?_⟩
    rw [lit_emp]
    have sz : ∀ {x : List Nat}, x.length ≤ 1000 → (S x).length ≤ sizeLine := fun h => by rw [S_len]; exact szl (by omega)
    obtain ⟨as, al⟩ := m1.sm
    have ls := m1.s6
    have ll := m1.le
    have wr : Wr (s ++ [40] ++ l ++ [41]) s l := ⟨by rw [List.append_assoc, List.append_assoc]; rfl, ⟨all_no as rfl, all_no as rfl⟩, all_no al rfl, all_no al rfl⟩
    have hs : marksB s = true := by unfold marksB; rw [as, decide_eq_true ls]; rfl
    have n1 : (s ++ [40]).length = s.length + 1 := List.length_append
    have n2 : (s ++ [40] ++ l).length = s.length + 1 + l.length := by rw [List.length_append, n1]
    have n3 : (s ++ [40] ++ l ++ [41]).length = s.length + 1 + l.length + 1 := by rw [List.length_append, n2]; rfl
    obtain ⟨dx, hp⟩ := m1.ob
    obtain ⟨y, tv⟩ := text_ex (s ++ [40] ++ l ++ [41])
    have ey := tv.2 s l wr
    refine ⟨_, rfl, p, dx, _, rfl, hp, p, u, s, l, rfl, m1, _, rfl, ?_⟩
    refine ⟨[], [], _, rfl, .inr ⟨_, y, rfl, by rw [n3]; omega, tv, fun G k1 => ?_⟩⟩
    rw [ey]
    refine ⟨_, rfl, q, _, 1, _, rfl, rfl, seqT_of (k1 _ _ hq), rfl, _, rfl, sz (by omega), _, _, rfl, rfl, _, rfl, ?_⟩
    rw [S_len]
    by_cases c : 6 < l.length
    · rw [show decide ((l.length : Int) > 6) = true from decide_eq_true (by omega)]
      have hw : wrongP s l = .str "loop" := wrong_loop hs (.inr (by unfold marksB; rw [decide_eq_false (by omega)]; rfl))
      rw [hw]
      refine iteT ⟨_, rfl, .str "loop", .str "loop", .str _, .str _, by simp [PyData.plain], by simp [PyData.plain], by simp [PyData.depth], ?_⟩
      rw [SeqAt.eqv_refl_plain _ (by simp [PyData.plain])]
      exact z G k1
    · rw [show decide ((l.length : Int) > 6) = false from decide_eq_false (by omega)]
      have hl : marksB l = true := by unfold marksB; rw [al, decide_eq_true (by omega)]; rfl
      rw [wrong_none hs m1.ls.ne hl]
      refine iteF ⟨_, rfl, rfl, _, rfl, iteT ?_⟩
      have m2 := m1.mono k1
      obtain ⟨dx2, hp2⟩ := m2.ob
      refine ⟨rfl, _, rfl, p, dx2, _, rfl, hp2, p, u, s, l, rfl, m2, _, rfl, _, rfl, by rw [n3]; omega, fun h => absurd wr (h s l), fun v v2 g => ?_⟩
      obtain ⟨rfl, rfl⟩ := wr.uniq g
      refine ⟨fun h => absurd (hs.symm.trans h) (by decide), fun _ h => ?_, fun _ _ _ M t s3 l3 k3 m3 _ => ?_⟩
      · exact h.elim (fun e => absurd e m1.ls.ne) (fun e => absurd (hl.symm.trans e) (by decide))
      have e : at_ s l = u := funext m1.ls.wd
      rw [e] at m3
      have mM := m2.mono k3
      obtain ⟨dx', hp'⟩ := mM.ob
      obtain ⟨dy', hq'⟩ := m3.ob
      refine ⟨_, rfl, t, dy', _, rfl, hq', .inr (.inr ⟨p, dx', _, rfl, hp'⟩), t, _, s3, l3, _, rfl, m3, .inr ⟨p, _, s, l, rfl, mM, _, rfl, ?_⟩⟩
      rw [same_mask m3 mM]
      exact ⟨true, true, rfl, z M (k1.trans k3)⟩
end
end K17

end
section
set_option Elab.async false
set_option linter.all false
set_option maxRecDepth 100000
set_option maxHeartbeats 4000000
namespace K17
open PySem PySem.Spec PyProof.Rows L2 Kit
theorem nat_at {xs : List Nat} {m : Nat} (hx : ∀ z ∈ xs, z ≤ m) {d : Int} (h0 : 0 ≤ d) (h1 : d < (xs.length : Int)) : ∃ z : Nat, z ≤ m ∧ atI (xs.map fun n => V.int ((n : Nat) : Int)) d = some (.int (z : Int)) := by
  obtain ⟨n, rfl⟩ : ∃ n : Nat, (n : Int) = d := ⟨d.toNat, by omega⟩
  have c : n < xs.length := by omega
  refine ⟨xs[n], hx _ (List.getElem_mem c), atI_nat ?_⟩
  rw [List.getElem?_map, List.getElem?_eq_getElem c]
  rfl
theorem sign_a {d : Int} (h0 : 0 ≤ d) (h1 : d < 3) : ∃ c : Nat, atI (Str.ofString "&|^").cps.toList d = some c ∧ (c = 38 ∨ c = 124 ∨ c = 94) := by
  rw [show Str.ofString "&|^" = S [38, 124, 94] by decide +kernel]
  rcases (show d = 0 ∨ d = 1 ∨ d = 2 by omega) with rfl | rfl | rfl
  · exact ⟨38, rfl, .inl rfl⟩
  · exact ⟨124, rfl, .inr (.inl rfl)⟩
  · exact ⟨94, rfl, .inr (.inr rfl)⟩
theorem sign_b {d : Int} (h0 : 0 ≤ d) (h1 : d < 3) : ∃ c : Nat, atI (Str.ofString "^&|").cps.toList d = some c ∧ (c = 38 ∨ c = 124 ∨ c = 94) := by
  rw [show Str.ofString "^&|" = S [94, 38, 124] by decide +kernel]
  rcases (show d = 0 ∨ d = 1 ∨ d = 2 by omega) with rfl | rfl | rfl
  · exact ⟨94, rfl, .inr (.inr rfl)⟩
  · exact ⟨38, rfl, .inl rfl⟩
  · exact ⟨124, rfl, .inr (.inl rfl)⟩
theorem small3 {s : String} (h : (Str.ofString s).length = 3) : (Str.ofString s).length ≤ sizeLine := by rw [h, sizeLine_eq]; omega
theorem rep140 (c : Nat) : (List.replicate 140 [c]).flatten = pfx (fun _ => c) 140 := by
  refine List.ext_getElem? fun i => ?_
  by_cases h : i < 140
  · rw [pfx_at h, rep_at [c] 140 (by show i < 140 * 1; omega)]
    show some ([c].getD (i % 1) 0) = _
    rw [Nat.mod_one]
    rfl
  · rw [List.getElem?_eq_none (by rw [rep_len]; show 140 * 1 ≤ i; omega), List.getElem?_eq_none (by rw [pfx_len]; omega)]
structure Dat where
  (sc t1 t2 p1 p2 p3 qm : Addr)
  ns : List Int
  (x1 y1 x2 y2 x3 y3 s1 l1 s2 l2 s3 l3 : List Nat)
structure LS (K : PySem.W.Frag) (a : Ad) (d : Dat) (G : Hp) : Prop where
  sq : SqL K G d.sc (d.ns.map V.int)
  t1 : G d.t1 = some (.tup [tx d.x1, tx d.y1])
  t2 : G d.t2 = some (.tup [tx d.x2, tx d.y2])
  m1 : MaskAt a G d.p1 (at_ d.x1 d.y1) d.s1 d.l1
  m2 : MaskAt a G d.p2 (at_ d.x2 d.y2) d.s2 d.l2
  m3 : MaskAt a G d.p3 (at_ d.x3 d.y3) d.s3 d.l3
  qm : G d.qm = some (.lst [tx (pfx (at_ d.x1 d.y1) 140), tx (pfx (at_ d.x2 d.y2) 140), tx (pfx (at_ d.x3 d.y3) 140)])
structure Sta (d : Dat) (len at1 : Nat) : Prop where
  x1 : marksB d.x1 = true
  y1 : marksB d.y1 = true
  e1 : d.y1 ≠ []
  x2 : marksB d.x2 = true
  y2 : marksB d.y2 = true
  e2 : d.y2 ≠ []
  hl : d.ns.length ≤ 63
  hlen : len ≤ 140
  hat : at1 ≤ 139
def sbase (d : Dat) (t3 b : Addr) (len at1 : Nat) (y : Option V) : List (Option V) := [some (.ref d.sc), some (.ref b), some (.ref d.t1), some (.ref d.t2), some (.ref t3), some (.int (len : Int)), some (.int (at1 : Int)), some (.ref d.p1), some (.ref d.p2), some (.ref d.p3), some (.ref d.qm), y]
def Sq (K : PySem.W.Frag) (d : Dat) (b : Addr) : Prop := (∀ M : Hp, SqL K M d.sc (d.ns.map V.int)) ∨ d.sc ≠ b
theorem LS.mono {K : PySem.W.Frag} {a : Ad} {d : Dat} {G M : Hp} (h : LS K a d G) (e : Same G M) : LS K a d M :=
  ⟨SqLm h.sq e, e _ _ h.t1, e _ _ h.t2, h.m1.mono e, h.m2.mono e, h.m3.mono e, e _ _ h.qm⟩
theorem LS.bu {K : PySem.W.Frag} {a : Ad} {d : Dat} {G M : Hp} {b : Addr} {n k : Nat} (h : LS K a d G) (hb : BoxAt n G b) (hs : (∀ M : Hp, SqL K M d.sc (d.ns.map V.int)) ∨ d.sc ≠ b) (e : Bu k b G M) : LS K a d M := by
  have ⟨x, y, z, hp, _⟩ := hb
  refine ⟨?_, e.at h.t1 (fun q => by have := h.t1; rw [q, hp] at this; cases this), e.at h.t2 (fun q => by have := h.t2; rw [q, hp] at this; cases this), h.m1.bu hb e, h.m2.bu hb e, h.m3.bu hb e, e.at h.qm (fun q => by have := h.qm; rw [q, hp] at this; cases this)⟩
  rcases hs with hs | hs
  · exact hs M
  rcases h.sq with g | g
  · rcases g with g | ⟨o, g⟩
    · exact .inl (.inl (e.at g hs))
    · exact .inl (.inr ⟨o, e.at g hs⟩)
  · exact .inr g
theorem same_of_bu {n : Nat} {p : Addr} {H M G : Hp} (h0 : H p = none) (s : Same H M) (h : Bu n p M G) : Same H G := fun b o e => h.1 b o (s b o e) (ne_of_none e h0)
theorem sq_ne {K : PySem.W.Frag} {H : Hp} {q b : Addr} {xs : List V} (h : SqL K H q xs) (hb : H b = none) : (∀ M : Hp, SqL K M q xs) ∨ q ≠ b := by
  rcases h with g | g
  · refine .inr fun e => ?_
    rcases g with g | ⟨o, g⟩
    · rw [e, hb] at g; cases g
    · rw [e, hb] at g; cases g
  · exact .inl fun M => .inr g
theorem marksB_of {l : List Nat} (h : l.length ≤ 6) (g : l.all isM = true) : marksB l = true := by
  unfold marksB
  rw [g, decide_eq_true h]
  rfl
theorem init_mask {a : Ad} {H : Hp} {y dx : Addr} {x z : List Nat} {Q : Hp → Prop} (hx : marksB x = true) (hz : marksB z = true) (h0 : z ≠ []) (hy : H y = none) (hdx : H dx = none) (ne : dx ≠ y) (k : ∀ G s l, Same H G → MaskAt a G y (at_ x z) s l → Q G) :
    spMInit a (.ref y :: ([tx x, tx z] ++ [])) (upd (upd H dx (.own y)) y (.ins a.Mask dx [])) (fun v G => v = .non ∧ Q G) E0 := by
  refine ⟨y, dx, x, z, rfl, upd_same, by have := marks_len hx; omega, by have := marks_len hz; omega, fun h => absurd (hx.symm.trans h) (by decide), fun _ h => ?_, fun _ _ _ G s l k9 g L ls => ⟨rfl, ?_⟩⟩
  · exact h.elim (fun e => absurd e h0) (fun e => absurd (hz.symm.trans e) (by decide))
  · obtain ⟨sm, ma⟩ := made2 (a := a) hx hz h0 hy hdx ne k9 g L ls
    exact k G s l sm ma
section
variable {P : Program} {w : World} {K : PySem.W.Frag} {mg : Str → Option Value} {base : Heap} {a : Ad}
def spLaw (K : PySem.W.Frag) : Sp := fun vs H Q _ => ∃ (q : Addr) (ns : List Int), vs = [.ref q] ∧ SqL K H q (ns.map V.int) ∧ ns.length ≤ 63 ∧ ∀ G, Q (.bl true) G
theorem ok_law (T : Txt K mg a) {f : Addr} {fd : FuncData} (F : Fun K "law" "law" s_law f fd) : FnOk P w K mg base (L2.CX P w) 13 f fd P_law (spLaw K) := by
  refine F.okX sc_law (fun vs H Q E h => ?_) (fun cdv A outer s H vs Q E hr h => ?_)
  · obtain ⟨q, ns, rfl, _⟩ := h
    rfl
  · obtain ⟨sc, ns, rfl, hs, hl, z⟩ := h
    refine ⟨_, (pss_cons (ps_set (i := 1) sc_law.nd rfl (.inl rfl) (pc_f (c_law_box T) hr (by decide) (by rfl) (pa_cons (pv 0) (pa_cons pe_int pa_nil))))
      (pss_cons (ps_set (i := 2) sc_law.nd rfl (.inl rfl) (pc_f (c_law_parts T) hr (by decide) (by rfl) (pa_cons (pc_f (c_law_box T) hr (by decide) (by rfl) (pa_cons (pv 0) (pa_cons pe_int pa_nil))) (pa_cons pe_int pa_nil))))
      (pss_cons (ps_set (i := 3) sc_law.nd rfl (.inl rfl) (pc_f (c_law_parts T) hr (by decide) (by rfl) (pa_cons (pc_f (c_law_box T) hr (by decide) (by rfl) (pa_cons (pv 0) (pa_cons pe_int pa_nil))) (pa_cons pe_int pa_nil))))
      (pss_cons (ps_set (i := 4) sc_law.nd rfl (.inl rfl) (pc_f (c_law_parts T) hr (by decide) (by rfl) (pa_cons (pc_f (c_law_box T) hr (by decide) (by rfl) (pa_cons (pv 0) (pa_cons pe_int pa_nil))) (pa_cons pe_int pa_nil))))
      (pss_cons (ps_set (i := 5) sc_law.nd rfl (.inl rfl) (pe_ix (kix_list K) (pe_lst (pa_cons pe_int (pa_cons pe_int (pa_cons pe_int (pa_cons pe_int (pa_cons pe_int (pa_cons pe_int (pa_cons pe_int (pa_cons pe_int (pa_cons pe_int (pa_cons pe_int (pa_cons pe_int (pa_cons pe_int pa_nil))))))))))))) (pc_f (c_law_take T) hr (by decide) (by rfl) (pa_cons (pv 1) (pa_cons pe_int pa_nil))) (fun _ _ => rfl)))
      (pss_cons (ps_set (i := 6) sc_law.nd rfl (.inl rfl) (pe_ix (kix_list K) (pe_lst (pa_cons pe_int (pa_cons pe_int (pa_cons pe_int (pa_cons pe_int (pa_cons pe_int (pa_cons pe_int (pa_cons pe_int (pa_cons pe_int (pa_cons pe_int (pa_cons pe_int (pa_cons pe_int (pa_cons pe_int pa_nil))))))))))))) (pc_f (c_law_take T) hr (by decide) (by rfl) (pa_cons (pv 1) (pa_cons pe_int pa_nil))) (fun _ _ => rfl)))
      (pss_cons (ps_set (i := 7) sc_law.nd rfl (.inl rfl) (pc_n (c_Mask_init T) hr (by decide) (by rfl) (pa_cons (pe_ix (kix_tup K) (pv 2) pe_int (fun _ _ => rfl)) (pa_cons (pe_ix (kix_tup K) (pv 2) pe_int (fun _ _ => rfl)) pa_nil))))
      (pss_cons (ps_set (i := 8) sc_law.nd rfl (.inl rfl) (pc_n (c_Mask_init T) hr (by decide) (by rfl) (pa_cons (pe_ix (kix_tup K) (pv 3) pe_int (fun _ _ => rfl)) (pa_cons (pe_ix (kix_tup K) (pv 3) pe_int (fun _ _ => rfl)) pa_nil))))
      (pss_cons (ps_set (i := 9) sc_law.nd rfl (.inl rfl) (pc_n (c_Mask_init T) hr (by decide) (by rfl) (pa_cons (pe_ix (kix_tup K) (pv 4) pe_int (fun _ _ => rfl)) (pa_cons (pe_ix (kix_tup K) (pv 4) pe_int (fun _ _ => rfl)) pa_nil))))
      (C8.pss_cut (ps_setLc (i := 10) (own := [("parts", 11)]) (g := gName 11) (tt := tYes) (by rfl) sc_law.nd rfl rfl (sw_true rfl rfl rfl (by decide +kernel)) (kpi_list K (pe_lst (pa_cons (pv 2) (pa_cons (pv 3) (pa_cons (pv 4) pa_nil))))) (blkOk_by (N := N_law) (sc := defScope s_law) (by decide +kernel)) (fun _ _ _ _ _ => (pg_name (i := 11) sc_law.nd rfl (.inl rfl))) (fun _ _ _ _ _ => pts_nil) (fun _ _ _ _ _ => (pc_f (c_law_marks T) hr (by decide) (by rfl) (pa_cons (pe_ix (kix_tup K) (pv 11) pe_int (fun _ _ => rfl)) (pa_cons (pe_ix (kix_tup K) (pv 11) pe_int (fun _ _ => rfl)) (pa_cons pe_int pa_nil))))))
      (pss_cons (ps_if (PW.pt (pw_or (pt_not (pt_val (pc_f (c_law_is_mask T) hr (by decide) (by rfl) (pa_cons (pv 7) (pa_cons (pe_ix (kix_list K) (pv 10) pe_int (fun _ _ => rfl)) (pa_cons (pv 5) (pa_cons (pv 6) pa_nil))))))) (pw_or1 (pt_not (pt_val (pc_f (c_law_is_mask T) hr (by decide) (by rfl) (pa_cons (pv 8) (pa_cons (pe_ix (kix_list K) (pv 10) pe_int (fun _ _ => rfl)) (pa_cons (pv 5) (pa_cons (pv 6) pa_nil)))))))))) (pss_one (ps_ret pe_bl)) pss_nil)
      (pss_cons (ps_if (PW.pt (pw_or (pt_not (pt_val (pc_f (c_law_written_again T) hr (by decide) (by rfl) (pa_cons (pv 7) (pa_cons (pe_ix (kix_tup K) (pv 2) pe_int (fun _ _ => rfl)) (pa_cons (pe_ix (kix_tup K) (pv 2) pe_int (fun _ _ => rfl)) pa_nil)))))) (pw_or1 (pt_not (pt_val (pc_f (c_law_written_again T) hr (by decide) (by rfl) (pa_cons (pv 8) (pa_cons (pe_ix (kix_tup K) (pv 3) pe_int (fun _ _ => rfl)) (pa_cons (pe_ix (kix_tup K) (pv 3) pe_int (fun _ _ => rfl)) pa_nil))))))))) (pss_one (ps_ret pe_bl)) pss_nil)
      (pss_cons (ps_set (i := 12) sc_law.nd rfl (.inl rfl) (pe_ix ix_str pe_str (pc_f (c_law_take T) hr (by decide) (by rfl) (pa_cons (pv 1) (pa_cons pe_int pa_nil))) (fun _ _ => rfl)))
      (pss_cons (ps_set (i := 13) sc_law.nd rfl (.inl rfl) (pc_f (c_law_joined T) hr (by decide) (by rfl) (pa_cons (pe_ix (kix_list K) (pv 10) pe_int (fun _ _ => rfl)) (pa_cons (pe_ix (kix_list K) (pv 10) pe_int (fun _ _ => rfl)) (pa_cons (pv 12) pa_nil)))))
      (pss_cons (ps_set (i := 14) sc_law.nd rfl (.inl rfl) (pc_f (c_law_combined T) hr (by decide) (by rfl) (pa_cons (pv 7) (pa_cons (pv 8) (pa_cons (pv 12) pa_nil)))))
      (pss_cons (ps_if (pt_not (pt_val (pc_f (c_law_is_mask T) hr (by decide) (by rfl) (pa_cons (pv 14) (pa_cons (pv 13) (pa_cons (pv 5) (pa_cons (pv 6) pa_nil))))))) (pss_one (ps_ret pe_bl)) pss_nil)
      (pss_cons (ps_set (i := 12) sc_law.nd rfl (.inl rfl) (pe_ix ix_str pe_str (pc_f (c_law_take T) hr (by decide) (by rfl) (pa_cons (pv 1) (pa_cons pe_int pa_nil))) (fun _ _ => rfl)))
      (pss_cons (ps_set (i := 13) sc_law.nd rfl (.inl rfl) (pc_f (c_law_joined T) hr (by decide) (by rfl) (pa_cons (pv 13) (pa_cons (pe_ix (kix_list K) (pv 10) pe_int (fun _ _ => rfl)) (pa_cons (pv 12) pa_nil)))))
      (pss_cons (ps_set (i := 14) sc_law.nd rfl (.inl rfl) (pc_f (c_law_combined T) hr (by decide) (by rfl) (pa_cons (pv 14) (pa_cons (pv 9) (pa_cons (pv 12) pa_nil)))))
      (C8.pss_cut (ps_if (pt_cmpR op_eq (pc_f (c_law_take T) hr (by decide) (by rfl) (pa_cons (pv 1) (pa_cons pe_int pa_nil))) pe_int (nomark _)) (pss_cons (ps_set (i := 13) sc_law.nd rfl (.inl rfl) (pc_f (c_law_joined T) hr (by decide) (by rfl) (pa_cons (pv 13) (pa_cons (pe_op op_repS pe_str pe_int) (pa_cons pe_str pa_nil)))))
      (pss_one (ps_set (i := 14) sc_law.nd rfl (.inl rfl) (pe_un (invO (c_Mask_invert T) hr (by decide)) (pv 14))))) pss_nil)
      (pss_cons (ps_if (pt_not (pt_val (pc_f (c_law_is_mask T) hr (by decide) (by rfl) (pa_cons (pv 14) (pa_cons (pv 13) (pa_cons (pv 5) (pa_cons (pv 6) pa_nil))))))) (pss_one (ps_ret pe_bl)) pss_nil)
      (pss_cons (ps_if (pt_not (pt_val (pc_f (c_law_read_back T) hr (by decide) (by rfl) (pa_cons (pv 14) (pa_cons (pc_f (c_law_least T) hr (by decide) (by rfl) (pa_cons (pv 13) pa_nil)) pa_nil))))) (pss_one (ps_ret pe_bl)) pss_nil)
      (pss_cons (ps_if (PW.pt (pw_or (pt_not (pt_val (pc_f (c_law_apart_holds T) hr (by decide) (by rfl) (pa_cons (pv 7) (pa_cons (pv 8) (pa_cons (pe_ix (kix_list K) (pv 10) pe_int (fun _ _ => rfl)) (pa_cons (pe_ix (kix_list K) (pv 10) pe_int (fun _ _ => rfl)) pa_nil))))))) (pw_or1 (pt_not (pt_val (pc_f (c_law_apart_holds T) hr (by decide) (by rfl) (pa_cons (pv 14) (pa_cons (pv 9) (pa_cons (pv 13) (pa_cons (pe_ix (kix_list K) (pv 10) pe_int (fun _ _ => rfl)) pa_nil)))))))))) (pss_one (ps_ret pe_bl)) pss_nil)
      (pss_cons (ps_if (pt_not (pt_val (pc_f (c_law_apart_holds T) hr (by decide) (by rfl) (pa_cons (pv 8) (pa_cons (pv 8) (pa_cons (pe_ix (kix_list K) (pv 10) pe_int (fun _ _ => rfl)) (pa_cons (pe_ix (kix_list K) (pv 10) pe_int (fun _ _ => rfl)) pa_nil))))))) (pss_one (ps_ret pe_bl)) pss_nil)
      (pss_cons (ps_if (PW.pt (pw_or (pt_not (pt_val (pc_f (c_law_is_mask T) hr (by decide) (by rfl) (pa_cons (pc_cm0 (c_Mask_every T) hr (by decide) (pe_glob (v := .ref a.Mask) (by rfl) T.c_Mask.gC rfl)) (pa_cons (pe_op op_repS pe_str pe_int) (pa_cons (pv 5) (pa_cons (pv 6) pa_nil))))))) (pw_or1 (pt_not (pt_val (pc_f (c_law_is_mask T) hr (by decide) (by rfl) (pa_cons (pc_cm0 (c_Mask_none T) hr (by decide) (pe_glob (v := .ref a.Mask) (by rfl) T.c_Mask.gC rfl)) (pa_cons (pe_op op_repS pe_str pe_int) (pa_cons (pv 5) (pa_cons (pv 6) pa_nil)))))))))) (pss_one (ps_ret pe_bl)) pss_nil)
      (C8.pss_cut (ps_set (i := 15) sc_law.nd rfl (.inl rfl) (pc_f (c_law_box T) hr (by decide) (by rfl) (pa_cons (pv 0) (pa_cons pe_int pa_nil))))
      (pss_cons (ps_if (PW.pt (pw_or (pt_not (pt_val (pc_f (c_law_refusals_hold T) hr (by decide) (by rfl) (pa_cons (pv 15) (pa_cons (pe_ix (kix_tup K) (pv 2) pe_int (fun _ _ => rfl)) (pa_cons (pe_ix (kix_tup K) (pv 2) pe_int (fun _ _ => rfl)) pa_nil)))))) (pw_or1 (pt_not (pt_val (pc_f (c_law_refusals_hold T) hr (by decide) (by rfl) (pa_cons (pv 15) (pa_cons (pe_ix (kix_tup K) (pv 3) pe_int (fun _ _ => rfl)) (pa_cons (pe_ix (kix_tup K) (pv 3) pe_int (fun _ _ => rfl)) pa_nil))))))))) (pss_one (ps_ret pe_bl)) pss_nil)
      (pss_cons (ps_if (PW.pt (pw_or (pt_not (pt_val (pc_f (c_law_below_refused T) hr (by decide) (by rfl) (pa_cons (pv 15) (pa_cons (pv 7) pa_nil))))) (pw_or (pt_not (pt_val (pc_f (c_law_below_refused T) hr (by decide) (by rfl) (pa_cons (pv 15) (pa_cons (pv 14) pa_nil))))) (pw_or1 (pt_not (pt_val (pc_f (c_law_menu_bounds_hold T) hr (by decide) (by rfl) (pa_cons (pv 15) pa_nil)))))))) (pss_one (ps_ret pe_bl)) pss_nil)
      (pss_cons (ps_if (pt_not (pt_val (pc_f (c_law_menu_holds T) hr (by decide) (by rfl) (pa_cons (pe_ix (kix_list K) (pe_lst (pa_cons pe_int (pa_cons pe_int (pa_cons pe_int pa_nil)))) (pc_f (c_law_take T) hr (by decide) (by rfl) (pa_cons (pv 15) (pa_cons pe_int pa_nil))) (fun _ _ => rfl)) (pa_cons (pe_ix (kix_list K) (pe_lst (pa_cons pe_int (pa_cons pe_int (pa_cons pe_int pa_nil)))) (pc_f (c_law_take T) hr (by decide) (by rfl) (pa_cons (pv 15) (pa_cons pe_int pa_nil))) (fun _ _ => rfl)) pa_nil))))) (pss_one (ps_ret pe_bl)) pss_nil)
      (pss_one (ps_ret (pe_and (pc_f (c_law_is_mask T) hr (by decide) (by rfl) (pa_cons (pv 7) (pa_cons (pe_ix (kix_list K) (pv 10) pe_int (fun _ _ => rfl)) (pa_cons (pv 5) (pa_cons (pv 6) pa_nil))))) (pe_one (pc_f (c_law_is_mask T) hr (by decide) (by rfl) (pa_cons (pv 14) (pa_cons (pv 13) (pa_cons (pv 5) (pa_cons (pv 6) pa_nil)))))))))))))))))))))))))))))))))))))), ?_⟩
    refine ⟨_, rfl, sc, ns, 0, rfl, hs, hl, by decide, by decide, fun b G1 k1 f1 bA => ?_⟩
    have nsb := sq_ne hs f1
    -- the three parts
    refine ⟨_, rfl, sc, ns, 1, rfl, SqLm hs k1, hl, by decide, by decide, fun b1 G2 k2 f2 bB => ⟨b1, 99980, 0, rfl, bB, by decide, by decide, fun G3 t1 x1 y1 u3 f3 n3 h3 lx1 mx1 ne1 ly1 my1 => ?_⟩⟩
    have s3 := same_of_bu f2 k2 u3
    refine ⟨_, rfl, sc, ns, 2, rfl, SqLm hs (k1.trans s3), hl, by decide, by decide, fun b2 G4 k4 f4 bC => ⟨b2, 99980, 1, rfl, bC, by decide, by decide, fun G5 t2 x2 y2 u5 f5 n5 h5 lx2 mx2 ne2 ly2 my2 => ?_⟩⟩
    have s5 := same_of_bu f4 k4 u5
    refine ⟨_, rfl, sc, ns, 3, rfl, SqLm hs ((k1.trans s3).trans s5), hl, by decide, by decide, fun b3 G6 k6 f6 bD => ⟨b3, 99980, 0, rfl, bD, by decide, by decide, fun G7 t3 x3 y3 u7 f7 n7 h7 lx3 mx3 ne3 ly3 my3 => ?_⟩⟩
    have s7 := same_of_bu f6 k6 u7
    have s17 := (s3.trans s5).trans s7
    have bE := bA.mono s17
    -- length and at
    refine ⟨by show 12 ≤ sizeLine; decide, fun q8 hq8 => ?_⟩
    have n8 := box_ne bE hq8
    have u8 := (Bu.refl bE).put (o := .lst ([5, 0, 1, 2, 3, 4, 6, 7, 8, 13, 40, 140].map fun n => V.int ((n : Nat) : Int))) hq8 n8
    refine ⟨_, rfl, b, 12, 99999, rfl, u8.2, by decide, by decide, fun d8 G9 d80 d81 u9 => ?_⟩
    obtain ⟨len, hlen, ix9⟩ := nat_at (xs := [5, 0, 1, 2, 3, 4, 6, 7, 8, 13, 40, 140]) (m := 140) (by decide) d80 d81
    refine ⟨q8, _, d8, _, rfl, rfl, seqL_of (u9.at upd_same n8), ix9, ?_⟩
    have u89 := u8.trans u9
    refine ⟨by show 12 ≤ sizeLine; decide, fun q10 hq10 => ?_⟩
    have n10 := box_ne u89.2 hq10
    have u10 := u89.put (o := .lst ([3, 0, 1, 2, 4, 5, 6, 7, 8, 12, 59, 139].map fun n => V.int ((n : Nat) : Int))) (bu_free u89 hq10 n10) n10
    refine ⟨_, rfl, b, 12, 99998, rfl, u10.2, by decide, by decide, fun d10 G11 d100 d101 u11 => ?_⟩
    obtain ⟨at1, hat1, ix11⟩ := nat_at (xs := [3, 0, 1, 2, 4, 5, 6, 7, 8, 12, 59, 139]) (m := 139) (by decide) d100 d101
    refine ⟨q10, _, d10, _, rfl, rfl, seqL_of (u11.at upd_same n10), ix11, ?_⟩
    have u711 := u10.trans u11
    have h3' := u711.at (s7 _ _ (s5 _ _ h3)) (fun e => by have := s7 _ _ (s5 _ _ h3); obtain ⟨x, y, zz, hp, _⟩ := bE; rw [e, hp] at this; cases this)
    have h5' := u711.at (s7 _ _ h5) (fun e => by have := s7 _ _ h5; obtain ⟨x, y, zz, hp, _⟩ := bE; rw [e, hp] at this; cases this)
    have h7' := u711.at h7 (fun e => by have := h7; obtain ⟨x, y, zz, hp, _⟩ := bE; rw [e, hp] at this; cases this)
    -- the three masks
    refine ⟨_, rfl, t1, _, 0, _, rfl, rfl, seqT_of h3', rfl, _, rfl, t1, _, 1, _, rfl, rfl, seqT_of h3', rfl, fun p1 e1 f12 f12' n12 => init_mask (marksB_of lx1 mx1) (marksB_of ly1 my1) ne1 f12 f12' n12 fun G12 s1 l1 k12 m1 => ?_⟩
    refine ⟨_, rfl, t2, _, 0, _, rfl, rfl, seqT_of (k12 _ _ h5'), rfl, _, rfl, t2, _, 1, _, rfl, rfl, seqT_of (k12 _ _ h5'), rfl, fun p2 e2 f13 f13' n13 => init_mask (marksB_of lx2 mx2) (marksB_of ly2 my2) ne2 f13 f13' n13 fun G13 s2 l2 k13 m2 => ?_⟩
    have k123 := k12.trans k13
    refine ⟨_, rfl, t3, _, 0, _, rfl, rfl, seqT_of (k123 _ _ h7'), rfl, _, rfl, t3, _, 1, _, rfl, rfl, seqT_of (k123 _ _ h7'), rfl, fun p3 e3 f14 f14' n14 => init_mask (marksB_of lx3 mx3) (marksB_of ly3 my3) ne3 f14 f14' n14 fun G14 s3 l3 k14 m3 => ?_⟩
    have k124 := k123.trans k14
    have h3c := k124 _ _ h3'
    have h5c := k124 _ _ h5'
    have h7c := k124 _ _ h7'
    refine ⟨fun σ G => ∃ (d : Dat) (t3 b : Addr) (len at1 : Nat) (y : Option V), σ = sbase d t3 b len at1 y ++ [none, none, none, none] ∧ LS K a d G ∧ BoxAt 99998 G b ∧ Sq K d b ∧ Sta d len at1, ?_, ?_⟩
    · refine ⟨_, rfl, _, rfl, _, rfl, by show 3 ≤ sizeLine; decide, fun q15 hq15 => ⟨q15, rfl, ⟨_, seqL_of upd_same⟩, fun qm hqm => lc_one (walk_list (xs := [V.ref t1, V.ref t2, V.ref t3])) [tx (pfx (at_ x1 y1) 140), tx (pfx (at_ x2 y2) 140), tx (pfx (at_ x3 y3) 140)] rfl (by show 3 ≤ 100000; decide) hqm (fun M s => seqL_of (s _ _ upd_same)) ?_ ?_⟩⟩
      · rintro i x M M' v hi s1 ⟨rfl, hx⟩ hv
        have e15 := (ex_new (o := .lst [V.ref t1, V.ref t2, V.ref t3]) hq15).trans s1
        refine ⟨.refl _, fun Q' z' => ?_⟩
        match i, hi with
        | 0, _ =>
          cases hx
          cases hv
          exact ⟨_, rfl, t1, _, 0, _, rfl, rfl, seqT_of (e15 _ _ h3c), rfl, _, rfl, t1, _, 1, _, rfl, rfl, seqT_of (e15 _ _ h3c), rfl, x1, y1, rfl, ne1, by omega, by omega, z' _ (.refl _)⟩
        | 1, _ =>
          cases hx
          cases hv
          exact ⟨_, rfl, t2, _, 0, _, rfl, rfl, seqT_of (e15 _ _ h5c), rfl, _, rfl, t2, _, 1, _, rfl, rfl, seqT_of (e15 _ _ h5c), rfl, x2, y2, rfl, ne2, by omega, by omega, z' _ (.refl _)⟩
        | 2, _ =>
          cases hx
          cases hv
          exact ⟨_, rfl, t3, _, 0, _, rfl, rfl, seqT_of (e15 _ _ h7c), rfl, _, rfl, t3, _, 1, _, rfl, rfl, seqT_of (e15 _ _ h7c), rfl, x3, y3, rfl, ne3, by omega, by omega, z' _ (.refl _)⟩
      intro G15 s15 hG15
      have e15 := (ex_new (o := .lst [V.ref t1, V.ref t2, V.ref t3]) hq15).trans s15
      have sq7 : SqL K G7 sc (ns.map V.int) := SqLm hs (k1.trans s17)
      have sq11 : SqL K G11 sc (ns.map V.int) := by
        rcases nsb with g | g
        · exact g _
        · rcases sq7 with w | w
          · rcases w with w | ⟨o, w⟩
            · exact .inl (.inl (u711.at w g))
            · exact .inl (.inr ⟨o, u711.at w g⟩)
          · exact .inr w
      have L15 : LS K a ⟨sc, t1, t2, p1, p2, p3, qm, ns, x1, y1, x2, y2, x3, y3, s1, l1, s2, l2, s3, l3⟩ G15 := ⟨SqLm sq11 (k124.trans e15), e15 _ _ h3c, e15 _ _ h5c, (m1.mono (k13.trans k14)).mono e15, (m2.mono k14).mono e15, m3.mono e15, hG15⟩
      have b15 : BoxAt 99998 G15 b := (u711.2.mono k124).mono e15
      exact ⟨_, t3, b, len, at1, _, rfl, L15, b15, nsb, ⟨marksB_of lx1 mx1, marksB_of ly1 my1, ne1, marksB_of lx2 mx2, marksB_of ly2 my2, ne2, hl, hlen, hat1⟩⟩
    rintro σ G15 ⟨d, t3, b, len, at1, y, rfl, L15, b15, nsb, st⟩
    refine ⟨_, rfl, _, rfl, d.qm, _, 0, _, rfl, rfl, seqL_of L15.qm, rfl, _, rfl, _, rfl, d.p1, _, d.s1, d.l1, len, at1, rfl, L15.m1, st.hlen, by have := st.hat; omega, fun G16 k16 => ⟨_, rfl, iteF ?_⟩⟩
    have L16 := L15.mono k16
    refine ⟨_, rfl, _, rfl, d.qm, _, 1, _, rfl, rfl, seqL_of L16.qm, rfl, _, rfl, _, rfl, d.p2, _, d.s2, d.l2, len, at1, rfl, L16.m2, st.hlen, by have := st.hat; omega, fun G17 k17 => ⟨_, rfl, iteF ?_⟩⟩
    have L17 := L16.mono k17
    refine ⟨_, rfl, _, rfl, d.t1, _, 0, _, rfl, rfl, seqT_of L17.t1, rfl, _, rfl, d.t1, _, 1, _, rfl, rfl, seqT_of L17.t1, rfl, d.p1, d.x1, d.y1, d.s1, d.l1, rfl, L17.m1, st.x1, st.y1, st.e1, fun G18 k18 => ⟨_, rfl, iteF ?_⟩⟩
    have L18 := L17.mono k18
    refine ⟨_, rfl, _, rfl, d.t2, _, 0, _, rfl, rfl, seqT_of L18.t2, rfl, _, rfl, d.t2, _, 1, _, rfl, rfl, seqT_of L18.t2, rfl, d.p2, d.x2, d.y2, d.s2, d.l2, rfl, L18.m2, st.x2, st.y2, st.e2, fun G19 k19 => ⟨_, rfl, iteF ?_⟩⟩
    have L19 := L18.mono k19
    have b19 := (((b15.mono k16).mono k17).mono k18).mono k19
    -- the first sign
    refine ⟨_, rfl, b, 3, 99997, rfl, b19, by decide, by decide, fun d20 G20 d200 d201 u20 => ?_⟩
    have L20 := L19.bu b19 nsb u20
    obtain ⟨c1, ix1, hc1⟩ := sign_a d200 d201
    refine ⟨_, _, c1, rfl, rfl, small3 (by decide +kernel), ix1, ?_⟩
    refine ⟨_, rfl, d.qm, _, 0, _, rfl, rfl, seqL_of L20.qm, rfl, _, rfl, d.qm, _, 1, _, rfl, rfl, seqL_of L20.qm, rfl, _, rfl, at_ d.x1 d.y1, at_ d.x2 d.y2, c1, rfl, hc1, ?_⟩
    refine ⟨_, rfl, _, rfl, _, rfl, d.p1, d.p2, at_ d.x1 d.y1, at_ d.x2 d.y2, d.s1, d.l1, d.s2, d.l2, c1, rfl, hc1, L20.m1, L20.m2, fun G21 q21 s21 l21 k21 m21 _ => ?_⟩
    have L21 := L20.mono k21
    generalize (fun i => jn c1 (at_ d.x1 d.y1 i) (at_ d.x2 d.y2 i)) = u4 at m21 ⊢
    refine ⟨_, rfl, _, rfl, _, rfl, _, rfl, q21, u4, s21, l21, len, at1, rfl, m21, st.hlen, by have := st.hat; omega, fun G22 k22 => ⟨_, rfl, iteF ?_⟩⟩
    have L22 := L21.mono k22
    have b22 := (u20.2.mono k21).mono k22
    -- the second sign
    refine ⟨_, rfl, b, 3, 99996, rfl, b22, by decide, by decide, fun d23 G23 d230 d231 u23 => ?_⟩
    have L23 := L22.bu b22 nsb u23
    have m23 := (m21.mono k22).bu b22 u23
    obtain ⟨c2, ix2, hc2⟩ := sign_b d230 d231
    refine ⟨_, _, c2, rfl, rfl, small3 (by decide +kernel), ix2, ?_⟩
    refine ⟨_, rfl, _, rfl, d.qm, _, 2, _, rfl, rfl, seqL_of L23.qm, rfl, _, rfl, u4, at_ d.x3 d.y3, c2, rfl, hc2, ?_⟩
    refine ⟨_, rfl, _, rfl, _, rfl, q21, d.p3, u4, at_ d.x3 d.y3, s21, l21, d.s3, d.l3, c2, rfl, hc2, m23, L23.m3, fun G24 q24 s24 l24 k24 m24 _ => ?_⟩
    have L24 := L23.mono k24
    have b24 := u23.2.mono k24
    generalize (fun i => jn c2 (u4 i) (at_ d.x3 d.y3 i)) = u5 at m24 ⊢
    -- the complement, or not
    refine ⟨fun σ G => ∃ (d : Dat) (t3 b : Addr) (len at1 : Nat) (y v12 : Option V) (u : Nat → Nat) (q : Addr) (s l : List Nat), σ = sbase d t3 b len at1 y ++ [v12, some (tx (pfx u 140)), some (.ref q), none] ∧ LS K a d G ∧ Sq K d b ∧ Sta d len at1 ∧ MaskAt a G q u s l, ?_, ?_⟩
    · refine ⟨_, rfl, b, 2, 99995, rfl, b24, by decide, by decide, fun d25 G25 d250 d251 u25 => ?_⟩
      have L25 := L24.bu b24 nsb u25
      have m25 := m24.bu b24 u25
      refine ⟨rfl, _, rfl, ite2 (fun _ => ?_) (fun _ => ?_)⟩
      · rw [lit_open, lit_hat]
        refine ⟨_, rfl, S [43], 140, rfl, rfl, repOk (k := 140) (by decide) (by decide), ?_⟩
        rw [show (140 : Int) = ((140 : Nat) : Int) from rfl, mul_S, rep140]
        refine ⟨u5, fun _ => 43, 94, rfl, .inr (.inr rfl), ?_⟩
        obtain ⟨dx, hp⟩ := m25.ob
        refine ⟨_, rfl, q24, dx, _, rfl, hp, q24, u5, s24, l24, rfl, m25, fun G q s l k m _ => ⟨⟨q, rfl⟩, ?_⟩⟩
        exact ⟨d, t3, b, len, at1, _, _, _, q, s, l, rfl, L25.mono k, nsb, st, m⟩
      · exact ⟨d, t3, b, len, at1, _, _, u5, q24, s24, l24, rfl, L25, nsb, st, m25⟩
    rintro σ G26 ⟨d, t3, b, len, at1, y, v12, u, q, s, l, rfl, L26, nsb, st, m26⟩
    refine ⟨_, rfl, _, rfl, _, rfl, _, rfl, q, u, s, l, len, at1, rfl, m26, st.hlen, by have := st.hat; omega, fun G27 k27 => ⟨_, rfl, iteF ?_⟩⟩
    have L27 := L26.mono k27
    have m27 := m26.mono k27
    refine ⟨_, rfl, _, rfl, u, s, l, rfl, m27.ls, m27.s6, m27.le, fun q28 G28 k28 _ h28 => ⟨q, q28, u, s, l, rfl, m27.mono k28, h28, fun G29 k29 => ⟨_, rfl, iteF ?_⟩⟩⟩
    have L29 := (L27.mono k28).mono k29
    have m29 := (m27.mono k28).mono k29
    refine ⟨_, rfl, _, rfl, _, rfl, d.qm, _, 0, _, rfl, rfl, seqL_of L29.qm, rfl, _, rfl, d.qm, _, 1, _, rfl, rfl, seqL_of L29.qm, rfl, d.p1, d.p2, at_ d.x1 d.y1, at_ d.x2 d.y2, d.s1, d.l1, d.s2, d.l2, rfl, L29.m1, L29.m2, fun G30 k30 => ⟨_, rfl, iteF ?_⟩⟩
    have L30 := L29.mono k30
    have m30 := m29.mono k30
    refine ⟨_, rfl, _, rfl, _, rfl, _, rfl, d.qm, _, 2, _, rfl, rfl, seqL_of L30.qm, rfl, q, d.p3, u, at_ d.x3 d.y3, s, l, d.s3, d.l3, rfl, m30, L30.m3, fun G31 k31 => ⟨_, rfl, iteF ?_⟩⟩
    have L31 := L30.mono k31
    have m31 := m30.mono k31
    refine ⟨_, rfl, _, rfl, _, rfl, d.qm, _, 1, _, rfl, rfl, seqL_of L31.qm, rfl, _, rfl, d.qm, _, 1, _, rfl, rfl, seqL_of L31.qm, rfl, d.p2, d.p2, at_ d.x2 d.y2, at_ d.x2 d.y2, d.s2, d.l2, d.s2, d.l2, rfl, L31.m2, L31.m2, fun G32 k32 => ⟨_, rfl, iteF ?_⟩⟩
    have L32 := L31.mono k32
    have m32 := m31.mono k32
    refine ⟨rfl, rfl, fun G33 q33 s33 l33 k33 m33 _ => ?_⟩
    rw [lit_open]
    refine ⟨S [43], 140, rfl, rfl, repOk (k := 140) (by decide) (by decide), ?_⟩
    rw [show (140 : Int) = ((140 : Nat) : Int) from rfl, mul_S, rep140]
    refine ⟨_, rfl, _, rfl, q33, fun _ => 43, s33, l33, len, at1, rfl, m33, st.hlen, by have := st.hat; omega, fun G34 k34 => ⟨_, rfl, iteF ?_⟩⟩
    have L34 := (L32.mono k33).mono k34
    have m34 := (m32.mono k33).mono k34
    refine ⟨rfl, rfl, fun G35 q35 s35 l35 k35 m35 _ => ?_⟩
    rw [lit_closed]
    refine ⟨S [45], 140, rfl, rfl, repOk (k := 140) (by decide) (by decide), ?_⟩
    rw [show (140 : Int) = ((140 : Nat) : Int) from rfl, mul_S, rep140]
    refine ⟨_, rfl, _, rfl, q35, fun _ => 45, s35, l35, len, at1, rfl, m35, st.hlen, by have := st.hat; omega, fun G36 k36 => ⟨_, rfl, iteF ?_⟩⟩
    have L36 := (L34.mono k35).mono k36
    have m36 := (m34.mono k35).mono k36
    -- what is refused
    refine ⟨fun σ G => ∃ (d : Dat) (t3 b bad : Addr) (len at1 : Nat) (y v12 : Option V) (u : Nat → Nat) (q : Addr) (s l : List Nat), σ = sbase d t3 b len at1 y ++ [v12, some (tx (pfx u 140)), some (.ref q), some (.ref bad)] ∧ LS K a d G ∧ Sq K d bad ∧ Sta d len at1 ∧ MaskAt a G q u s l ∧ BoxAt 100000 G bad, ?_, ?_⟩
    · refine ⟨_, rfl, d.sc, d.ns, 4, rfl, L36.sq, st.hl, by decide, by decide, fun bad G37 k37 f37 b37 => ?_⟩
      exact ⟨d, t3, b, bad, len, at1, _, _, u, q, s, l, rfl, L36.mono k37, sq_ne L36.sq f37, st, m36.mono k37, b37⟩
    clear L36 m36 L34 m34 L32 m32 L31 m31 L30 m30 L29 m29 L27 m27
    rintro σ G40 ⟨d, t3, b, bad, len, at1, y, v12, u, q, s, l, rfl, L40, nsb, st, m40, b40⟩
    refine ⟨_, rfl, _, rfl, d.t1, _, 0, _, rfl, rfl, seqT_of L40.t1, rfl, _, rfl, d.t1, _, 1, _, rfl, rfl, seqT_of L40.t1, rfl, bad, 99989, d.x1, d.y1, rfl, b40, marks_len st.x1, marks_len st.y1, fun G41 u41 => ⟨_, rfl, iteF ?_⟩⟩
    have L41 := L40.bu b40 nsb u41
    have m41 := m40.bu b40 u41
    refine ⟨_, rfl, _, rfl, d.t2, _, 0, _, rfl, rfl, seqT_of L41.t2, rfl, _, rfl, d.t2, _, 1, _, rfl, rfl, seqT_of L41.t2, rfl, bad, 99978, d.x2, d.y2, rfl, u41.2, marks_len st.x2, marks_len st.y2, fun G42 u42 => ⟨_, rfl, iteF ?_⟩⟩
    have L42 := L41.bu u41.2 nsb u42
    have m42 := m41.bu u41.2 u42
    refine ⟨_, rfl, _, rfl, bad, d.p1, 99977, at_ d.x1 d.y1, d.s1, d.l1, rfl, u42.2, L42.m1, fun G43 u43 => ⟨_, rfl, iteF ?_⟩⟩
    have L43 := L42.bu u42.2 nsb u43
    have m43 := m42.bu u42.2 u43
    refine ⟨_, rfl, _, rfl, bad, q, 99976, u, s, l, rfl, u43.2, m43, fun G44 u44 => ⟨_, rfl, iteF ?_⟩⟩
    have L44 := L43.bu u43.2 nsb u44
    have m44 := m43.bu u43.2 u44
    refine ⟨_, rfl, bad, 99974, rfl, u44.2, fun G45 u45 => ⟨_, rfl, iteF ?_⟩⟩
    have L45 := L44.bu u44.2 nsb u45
    have m45 := m44.bu u44.2 u45
    refine ⟨by show 3 ≤ sizeLine; decide, fun q46 hq46 => ?_⟩
    have n46 := box_ne u45.2 hq46
    have u46 := (Bu.refl u45.2).put (o := .lst ([1, 0, 2].map fun n => V.int ((n : Nat) : Int))) hq46 n46
    refine ⟨_, rfl, bad, 3, 99973, rfl, u46.2, by decide, by decide, fun d47 G47 d470 d471 u47 => ?_⟩
    obtain ⟨st2, hst2, ix47⟩ := nat_at (xs := [1, 0, 2]) (m := 2) (by decide) d470 d471
    refine ⟨q46, _, d47, _, rfl, rfl, seqL_of (u47.at upd_same n46), ix47, ?_⟩
    have u467 := u46.trans u47
    refine ⟨by show 3 ≤ sizeLine; decide, fun q48 hq48 => ?_⟩
    have n48 := box_ne u467.2 hq48
    have u48 := u467.put (o := .lst ([1 + 1, 1 + 0, 1 + 2].map fun n => V.int ((n : Nat) : Int))) (bu_free u467 hq48 n48) n48
    refine ⟨_, rfl, bad, 3, 99972, rfl, u48.2, by decide, by decide, fun d49 G49 d490 d491 u49 => ?_⟩
    obtain ⟨lo2, hlo2, ix49⟩ := nat_at (xs := [1, 0, 2]) (m := 2) (by decide) d490 d491
    have ix49' : atI ([1 + 1, 1 + 0, 1 + 2].map fun n => V.int ((n : Nat) : Int)) d49 = some (.int ((1 + lo2 : Nat) : Int)) := by
      obtain ⟨n, rfl⟩ : ∃ n : Nat, (n : Int) = d49 := ⟨d49.toNat, by omega⟩
      have hn : n < 3 := by have : ([1, 0, 2] : List Nat).length = 3 := rfl; omega
      match n, hn with
      | 0, _ => have e : some (V.int ((1 : Nat) : Int)) = some (.int (lo2 : Int)) := ix49
                have e2 : lo2 = 1 := by injection e with e; injection e with e; omega
                subst e2; rfl
      | 1, _ => have e : some (V.int ((0 : Nat) : Int)) = some (.int (lo2 : Int)) := ix49
                have e2 : lo2 = 0 := by injection e with e; injection e with e; omega
                subst e2; rfl
      | 2, _ => have e : some (V.int ((2 : Nat) : Int)) = some (.int (lo2 : Int)) := ix49
                have e2 : lo2 = 2 := by injection e with e; injection e with e; omega
                subst e2; rfl
    refine ⟨q48, _, d49, _, rfl, rfl, seqL_of (u49.at upd_same n48), ix49', ?_⟩
    have u459 := u48.trans u49
    have L49 := L45.bu u45.2 nsb u459
    have m49 := m45.bu u45.2 u459
    refine ⟨st2, 1 + lo2, rfl, hst2, by omega, by omega, fun G50 k50 => ⟨_, rfl, iteF ?_⟩⟩
    have L50 := L49.mono k50
    have m50 := m49.mono k50
    refine ⟨_, rfl, _, rfl, d.qm, _, 0, _, rfl, rfl, seqL_of L50.qm, rfl, _, rfl, _, rfl, d.p1, _, d.s1, d.l1, len, at1, rfl, L50.m1, st.hlen, by have := st.hat; omega, fun G51 k51 => ⟨_, rfl, iteT ?_⟩⟩
    exact ⟨_, rfl, _, rfl, _, rfl, _, rfl, q, u, s, l, len, at1, rfl, m50.mono k51, st.hlen, by have := st.hat; omega, fun G52 k52 => z G52⟩
end
theorem law_F {l : PySem.W.OpenLaw} {w : World} {K : PySem.W.Frag} {mg : Str → Option Value} {fa : Addr} {a : Ad} (T : Txt K mg a) (hfa : mg "law" = some (.ref fa)) :
    ∃ fd : FuncData, (∀ (s : Shared) (v : Value), BindsTo s fd ⟨[v], []⟩ [("script", v)]) ∧ ∀ base : Heap, K.In base → base.Ns mainGlobals mg → FnOk l.prog w K mg base (L2.CX l.prog w) 13 fa fd ["script"] (spLaw K) := by
  obtain ⟨f, fd, F, g⟩ := T.d_law.ex
  have e := hfa.symm.trans g
  cases e
  refine ⟨fd, fun s v => ?_, fun base _ _ => ok_law T F⟩
  obtain ⟨oc, od, kV, doc, pm, an, cdv, ct, osl, rfl, lk, hcd⟩ := F.ex
  exact .of_eq rfl
theorem walk {l : PySem.W.OpenLaw} {q : Program} {loose : List Str} {XP : (Str → Option Value) → Heap → Prop} {YP : World → Heap → Prop} {d : DefRec} {K : Params → PySem.W.Frag} (hn : l.most = some 63) (hdf : d.params.defaults = [])
    (hY : ∀ (w : World) (h : Heap), YP w h → (K w.params).In h) (hd : d.name = "law")
    (F : ∀ (w : World) (mg : Str → Option Value) (h : Heap), (K w.params).In h → h.Ns mainGlobals mg → ∃ a, Txt (K w.params) mg a) :
    PySem.W.WalkO q loose XP YP l.row.toRowW d [] (fun f vs => PySem.call f vs) :=
  L2.walk_of (n := 63) (k := 13) (x := "script") (CX := fun w => L2.CX l.prog w) (sp := fun w => spLaw (K w.params)) hn (by decide) hdf ⟨rfl, by decide, by decide⟩ hY
    (fun w mg fa h KX G hmg => let ⟨a, T⟩ := F w mg h KX G; law_F T (hd ▸ hmg))
    (fun _ _ a ns hl _ hS => ⟨a, ns, rfl, hS, hl, fun _ => rfl⟩) fun _ _ _ _ _ z => by
      obtain ⟨_, _, _, _, _, _, _, _, _, _, _, _, x⟩ := z
      exact x
end K17

end
section
set_option Elab.async false
set_option linter.all false
set_option maxRecDepth 100000
set_option maxHeartbeats 4000000
namespace Kit
open PySem PySem.Spec PyProof.Rows L2
/-! ### from what the head wrote down to the text's facts -/
section
variable {K : PySem.W.Frag} {h : Heap} {mg : Str → Option Value}
theorem defT_of {x : Str} {st : Stmt} {f : Addr} {od an : Option Addr} {sl : Array (Option Value)} {oc kV dc pm cd ct : Value} (X : K.In h) (G : h.Ns mainGlobals mg) (a1 : PySem.W.nsIn K mainGlobals x = some (some (.ref f)))
    (l1 : K.lookup f = some ⟨oc, od, .func (PySem.W.fnOf x x (defArgs st) (defBody st) (defScope st) .none kV dc pm an cd ct), sl⟩) (c1 : PySem.W.codeIn K cd x = true) (k1 : PySem.W.keepIn K (.ref f) = true) : DefT K mg x st :=
  ⟨f, _, fun_mk (st := st) l1 c1 k1, PySem.W.mg_of X G a1⟩
theorem metT_of {C : Addr} {m q : Str} {st : Stmt} {f : Addr} {od an : Option Addr} {sl : Array (Option Value)} {oc kV dc pm cd ct : Value} (a1 : PySem.W.findIn K (.ref C) m = some (some (.ref f))) (i1 : PySem.W.isFn K (.ref f) = true)
    (l1 : K.lookup f = some ⟨oc, od, .func (PySem.W.fnOf m q (defArgs st) (defBody st) (defScope st) .none kV dc pm an cd ct), sl⟩) (c1 : PySem.W.codeIn K cd q = true) (k1 : PySem.W.keepIn K (.ref f) = true) : MetT K C m q st :=
  ⟨f, _, fun_mk (st := st) l1 c1 k1, ⟨a1, i1, k1⟩⟩
theorem clsT_of {C : Addr} {x : Str} (X : K.In h) (G : h.Ns mainGlobals mg) (aC : PySem.W.nsIn K mainGlobals x = some (some (.ref C))) (pg : PySem.W.plainGet K C Str.empty = true) (hd : PySem.W.hasDictIn K C = true) (po : PySem.W.plainOver K C = true)
    (sa : PySem.W.findIn K (.ref C) "__setattr__" = some (some (.builtin "object.__setattr__"))) (mk : PySem.W.makesIn K C = true) (kc : PySem.W.keepIn K (.ref C) = true) : ClsT K mg C x := ⟨⟨pg, hd, po, sa⟩, PySem.W.mg_of X G aC, mk, kc⟩
theorem errT_of {C : Addr} {x q fld : Str} {st : Stmt} {f : Addr} {od an : Option Addr} {sl : Array (Option Value)} {oc kV dc pm cd ct : Value}
    {nm qn : Str} {N : Addr} {bs bm : List Value} {sn : List Str} {sub : List Value} {ab : Bool} {col : Option Bool} {dd : Option Addr} {m0 m1 m2 m3 m5 : Option Value}
    (X : K.In h) (G : h.Ns mainGlobals mg) (aC : PySem.W.nsIn K mainGlobals x = some (some (.ref C)))
    (xL : K.lookup C = some (excClassObj nm qn C N bs bm true sn sub ab col dd m0 m1 m2 m3 m5 "ValueError.__new__")) (rf : PySem.HandSPX.refsVE bm = true)
    (sa : PySem.W.findIn K (.ref C) "__setattr__" = some (some (.builtin "object.__setattr__"))) (eC : PySem.W.subIn K (.ref C) (.type "BaseException") = some true) (tC : PySem.W.typeIn K (.ref C) = some (.type "type")) (kC : PySem.W.keepIn K (.ref C) = true)
    (nb : PySem.W.findIn K (.ref C) fld = some none)
    (a1 : PySem.W.findIn K (.ref C) "__init__" = some (some (.ref f))) (t1 : PySem.W.typeIn K (.ref f) = some (.type "function"))
    (l1 : K.lookup f = some ⟨oc, od, .func (PySem.W.fnOf "__init__" q (defArgs st) (defBody st) (defScope st) .none kV dc pm an cd ct), sl⟩) (c1 : PySem.W.codeIn K cd q = true) (k1 : PySem.W.keepIn K (.ref f) = true) : ErrT K mg C x q fld st :=
  ⟨PySem.W.mg_of X G aC, ⟨⟨nm, qn, N, bs, bm, sn, sub, ab, col, dd, m0, m1, m2, m3, m5, xL, rf⟩, sa, eC, tC, kC⟩, nb, f, _, fun_mk (st := st) l1 c1 k1, a1, t1⟩
theorem errC_of {C : Addr} (ga : PySem.W.findIn K (.ref C) "__getattribute__" = some (some (.builtin "BaseException.__getattribute__"))) (gg : PySem.W.findIn K (.ref C) "__getattr__" = some none) (eC : PySem.W.subIn K (.ref C) (.type "BaseException") = some true) (hd : PySem.W.hasDictIn K C = true)
    (ha : PySem.W.findIn K (.ref C) "__class__" = some (some (.builtin "object.__class__"))) (hn : PySem.W.specialIn K (.builtin "object.__class__") "__get__" = some (some (.builtin "getset_descriptor.__get__")))
    (ht : PySem.W.takesIn K (.builtin "object.__class__") = some true) (hm : PySem.W.mroIn K C (.type "object") = some true) (hc : PySem.W.isClsIn K C = true) : ErrC K C := ⟨⟨ga, gg, eC, hd⟩, ha, hn, ht, hm, hc⟩
theorem gval_of {x : Str} {v : V} {u : Value} (X : K.In h) (G : h.Ns mainGlobals mg) (a1 : PySem.W.nsIn K mainGlobals x = some (some u)) (r : RelV v u) : ∃ u, mg x = some u ∧ RelV v u := ⟨u, PySem.W.mg_of X G a1, r⟩
theorem kitR_of {t : Value} {C : Addr} {b : Bool} (hc : PySem.W.isClsIn K C = true) (tC : PySem.W.typeIn K (.ref C) = some (.type "type")) (s : PySem.W.subIn K t (.ref C) = some b) (ne : (t == .ref C) = false) : PySem.W.kitOne K t (.ref C) = some b := by
  have hc : (PySem.W.clsIn K C).isSome = true := hc
  show (if (t == .ref C) = true then some true else if ((PySem.W.clsIn K C).isSome && PySem.W.typeIn K (.ref C) == some (.type "type")) = true then PySem.W.subIn K t (.ref C) else none) = some b
  rw [ne, if_neg (by decide), hc, tC, if_pos (by rfl)]
  exact s
theorem kitS_of {C : Addr} : PySem.W.kitOne K (.ref C) (.ref C) = some true := by
  show (if ((Value.ref C) == .ref C) = true then some true else _) = some true
  rw [if_pos (by simp)]
theorem kitT_of {C : Addr} {n : String} {b : Bool} (m : PySem.W.kitMeta n = true) (s : PySem.W.subIn K (.ref C) (.type n) = some b) : PySem.W.kitOne K (.ref C) (.type n) = some b := by
  show (if ((Value.ref C) == .type n) = true then some true else if PySem.W.kitMeta n = true then PySem.W.subIn K (.ref C) (.type n) else none) = some b
  rw [if_neg (fun q => by cases q), if_pos m]
  exact s
theorem exm_of {cls : Value} {S : Addr} {b : Bool} (h1 : PySem.W.subIn K (.ref S) (.type "BaseException") = some true) (h2 : PySem.W.isClsIn K S = true) (h3 : PySem.W.typeIn K (.ref S) = some (.type "type")) (h4 : PySem.W.subIn K cls (.ref S) = some b) : PySem.W.exmOne K cls (.ref S) = some b := by
  have e1 : (PySem.W.subIn K (.ref S) (.type "BaseException") == some true) = true := by rw [h1] <;> rfl
  have e2 : ((PySem.W.clsIn K S).isSome && PySem.W.typeIn K (.ref S) == some (.type "type")) = true := by
    have h2' : (PySem.W.clsIn K S).isSome = true := h2
    rw [h2', h3] <;> rfl
  show (if (PySem.W.subIn K (.ref S) (.type "BaseException") == some true) = true then (if ((PySem.W.clsIn K S).isSome && PySem.W.typeIn K (.ref S) == some (.type "type")) = true then PySem.W.subIn K cls (.ref S) else none) else none) = some b
  rw [if_pos e1, if_pos e2]
  exact h4
end
end Kit

end
section
set_option Elab.async false
set_option linter.all false
set_option maxRecDepth 100000
set_option maxHeartbeats 4000000
namespace K17
open PySem PySem.Spec PyProof.Rows L2 Kit
theorem kk_of {K : PySem.W.Frag} {CGalloonError CBadIndex CBadCount CBadPaint CBadMask CMask : Addr}
    (ic_BadIndex : PySem.W.isClsIn K CBadIndex = true)
    (tc_BadIndex : PySem.W.typeIn K (.ref CBadIndex) = some (.type "type"))
    (ic_BadCount : PySem.W.isClsIn K CBadCount = true)
    (tc_BadCount : PySem.W.typeIn K (.ref CBadCount) = some (.type "type"))
    (ic_BadPaint : PySem.W.isClsIn K CBadPaint = true)
    (tc_BadPaint : PySem.W.typeIn K (.ref CBadPaint) = some (.type "type"))
    (ic_BadMask : PySem.W.isClsIn K CBadMask = true)
    (tc_BadMask : PySem.W.typeIn K (.ref CBadMask) = some (.type "type"))
    (s_0_1 : PySem.W.subIn K (.ref CBadIndex) (.ref CBadCount) = some false)
    (ne_0_1 : ((Value.ref CBadIndex) == Value.ref CBadCount) = false)
    (s_0_2 : PySem.W.subIn K (.ref CBadIndex) (.ref CBadPaint) = some false)
    (ne_0_2 : ((Value.ref CBadIndex) == Value.ref CBadPaint) = false)
    (s_0_3 : PySem.W.subIn K (.ref CBadIndex) (.ref CBadMask) = some false)
    (ne_0_3 : ((Value.ref CBadIndex) == Value.ref CBadMask) = false)
    (s_1_0 : PySem.W.subIn K (.ref CBadCount) (.ref CBadIndex) = some false)
    (ne_1_0 : ((Value.ref CBadCount) == Value.ref CBadIndex) = false)
    (s_1_2 : PySem.W.subIn K (.ref CBadCount) (.ref CBadPaint) = some false)
    (ne_1_2 : ((Value.ref CBadCount) == Value.ref CBadPaint) = false)
    (s_1_3 : PySem.W.subIn K (.ref CBadCount) (.ref CBadMask) = some false)
    (ne_1_3 : ((Value.ref CBadCount) == Value.ref CBadMask) = false)
    (s_2_0 : PySem.W.subIn K (.ref CBadPaint) (.ref CBadIndex) = some false)
    (ne_2_0 : ((Value.ref CBadPaint) == Value.ref CBadIndex) = false)
    (s_2_1 : PySem.W.subIn K (.ref CBadPaint) (.ref CBadCount) = some false)
    (ne_2_1 : ((Value.ref CBadPaint) == Value.ref CBadCount) = false)
    (s_2_3 : PySem.W.subIn K (.ref CBadPaint) (.ref CBadMask) = some false)
    (ne_2_3 : ((Value.ref CBadPaint) == Value.ref CBadMask) = false)
    (s_3_0 : PySem.W.subIn K (.ref CBadMask) (.ref CBadIndex) = some false)
    (ne_3_0 : ((Value.ref CBadMask) == Value.ref CBadIndex) = false)
    (s_3_1 : PySem.W.subIn K (.ref CBadMask) (.ref CBadCount) = some false)
    (ne_3_1 : ((Value.ref CBadMask) == Value.ref CBadCount) = false)
    (s_3_2 : PySem.W.subIn K (.ref CBadMask) (.ref CBadPaint) = some false)
    (ne_3_2 : ((Value.ref CBadMask) == Value.ref CBadPaint) = false) : ∀ i < 4, ∀ j < 4, PySem.W.kitOne K (.ref (eAd ⟨CGalloonError, CBadIndex, CBadCount, CBadPaint, CBadMask, CMask⟩ i)) (.ref (eAd ⟨CGalloonError, CBadIndex, CBadCount, CBadPaint, CBadMask, CMask⟩ j)) = some (decide (i = j)) := by
  intro i hi j hj
  match i, hi, j, hj with
  | 0, _, 0, _ => exact kitS_of
  | 0, _, 1, _ => exact kitR_of ic_BadCount tc_BadCount s_0_1 ne_0_1
  | 0, _, 2, _ => exact kitR_of ic_BadPaint tc_BadPaint s_0_2 ne_0_2
  | 0, _, 3, _ => exact kitR_of ic_BadMask tc_BadMask s_0_3 ne_0_3
  | 1, _, 0, _ => exact kitR_of ic_BadIndex tc_BadIndex s_1_0 ne_1_0
  | 1, _, 1, _ => exact kitS_of
  | 1, _, 2, _ => exact kitR_of ic_BadPaint tc_BadPaint s_1_2 ne_1_2
  | 1, _, 3, _ => exact kitR_of ic_BadMask tc_BadMask s_1_3 ne_1_3
  | 2, _, 0, _ => exact kitR_of ic_BadIndex tc_BadIndex s_2_0 ne_2_0
  | 2, _, 1, _ => exact kitR_of ic_BadCount tc_BadCount s_2_1 ne_2_1
  | 2, _, 2, _ => exact kitS_of
  | 2, _, 3, _ => exact kitR_of ic_BadMask tc_BadMask s_2_3 ne_2_3
  | 3, _, 0, _ => exact kitR_of ic_BadIndex tc_BadIndex s_3_0 ne_3_0
  | 3, _, 1, _ => exact kitR_of ic_BadCount tc_BadCount s_3_1 ne_3_1
  | 3, _, 2, _ => exact kitR_of ic_BadPaint tc_BadPaint s_3_2 ne_3_2
  | 3, _, 3, _ => exact kitS_of
theorem kv_of {K : PySem.W.Frag} {CGalloonError CBadIndex CBadCount CBadPaint CBadMask CMask : Addr}
    (sv_0 : PySem.W.subIn K (.ref CBadIndex) (.type "ValueError") = some true)
    (sv_1 : PySem.W.subIn K (.ref CBadCount) (.type "ValueError") = some true)
    (sv_2 : PySem.W.subIn K (.ref CBadPaint) (.type "ValueError") = some true)
    (sv_3 : PySem.W.subIn K (.ref CBadMask) (.type "ValueError") = some true) : ∀ i < 4, PySem.W.kitOne K (.ref (eAd ⟨CGalloonError, CBadIndex, CBadCount, CBadPaint, CBadMask, CMask⟩ i)) (.type "ValueError") = some true := by
  intro i hi
  match i, hi with
  | 0, _ => exact kitT_of (by decide +kernel) sv_0
  | 1, _ => exact kitT_of (by decide +kernel) sv_1
  | 2, _ => exact kitT_of (by decide +kernel) sv_2
  | 3, _ => exact kitT_of (by decide +kernel) sv_3
theorem xm_of {K : PySem.W.Frag} {CGalloonError CBadIndex CBadCount CBadPaint CBadMask CMask : Addr}
    (sB_GalloonError : PySem.W.subIn K (.ref CGalloonError) (.type "BaseException") = some true)
    (ic_GalloonError : PySem.W.isClsIn K CGalloonError = true)
    (tc_GalloonError : PySem.W.typeIn K (.ref CGalloonError) = some (.type "type"))
    (sg_0 : PySem.W.subIn K (.ref CBadIndex) (.ref CGalloonError) = some true)
    (sg_1 : PySem.W.subIn K (.ref CBadCount) (.ref CGalloonError) = some true)
    (sg_2 : PySem.W.subIn K (.ref CBadPaint) (.ref CGalloonError) = some true)
    (sg_3 : PySem.W.subIn K (.ref CBadMask) (.ref CGalloonError) = some true) : ∀ i < 4, PySem.W.exmOne K (.ref (eAd ⟨CGalloonError, CBadIndex, CBadCount, CBadPaint, CBadMask, CMask⟩ i)) (.ref CGalloonError) = some true := by
  intro i hi
  match i, hi with
  | 0, _ => exact exm_of sB_GalloonError ic_GalloonError tc_GalloonError sg_0
  | 1, _ => exact exm_of sB_GalloonError ic_GalloonError tc_GalloonError sg_1
  | 2, _ => exact exm_of sB_GalloonError ic_GalloonError tc_GalloonError sg_2
  | 3, _ => exact exm_of sB_GalloonError ic_GalloonError tc_GalloonError sg_3
theorem kg_of {K : PySem.W.Frag} {CGalloonError CBadIndex CBadCount CBadPaint CBadMask CMask : Addr}
    (ic_GalloonError : PySem.W.isClsIn K CGalloonError = true)
    (tc_GalloonError : PySem.W.typeIn K (.ref CGalloonError) = some (.type "type"))
    (sg_0 : PySem.W.subIn K (.ref CBadIndex) (.ref CGalloonError) = some true)
    (sg_1 : PySem.W.subIn K (.ref CBadCount) (.ref CGalloonError) = some true)
    (sg_2 : PySem.W.subIn K (.ref CBadPaint) (.ref CGalloonError) = some true)
    (sg_3 : PySem.W.subIn K (.ref CBadMask) (.ref CGalloonError) = some true)
    (ne_g_0 : ((Value.ref CBadIndex) == Value.ref CGalloonError) = false)
    (ne_g_1 : ((Value.ref CBadCount) == Value.ref CGalloonError) = false)
    (ne_g_2 : ((Value.ref CBadPaint) == Value.ref CGalloonError) = false)
    (ne_g_3 : ((Value.ref CBadMask) == Value.ref CGalloonError) = false) : ∀ i < 4, PySem.W.kitOne K (.ref (eAd ⟨CGalloonError, CBadIndex, CBadCount, CBadPaint, CBadMask, CMask⟩ i)) (.ref CGalloonError) = some true := by
  intro i hi
  match i, hi with
  | 0, _ => exact kitR_of ic_GalloonError tc_GalloonError sg_0 ne_g_0
  | 1, _ => exact kitR_of ic_GalloonError tc_GalloonError sg_1 ne_g_1
  | 2, _ => exact kitR_of ic_GalloonError tc_GalloonError sg_2 ne_g_2
  | 3, _ => exact kitR_of ic_GalloonError tc_GalloonError sg_3 ne_g_3
theorem xo_of {K : PySem.W.Frag} {CGalloonError CBadIndex CBadCount CBadPaint CBadMask CMask : Addr}
    (sB_BadIndex : PySem.W.subIn K (.ref CBadIndex) (.type "BaseException") = some true)
    (ic_BadIndex : PySem.W.isClsIn K CBadIndex = true)
    (tc_BadIndex : PySem.W.typeIn K (.ref CBadIndex) = some (.type "type"))
    (sB_BadCount : PySem.W.subIn K (.ref CBadCount) (.type "BaseException") = some true)
    (ic_BadCount : PySem.W.isClsIn K CBadCount = true)
    (tc_BadCount : PySem.W.typeIn K (.ref CBadCount) = some (.type "type"))
    (sB_BadPaint : PySem.W.subIn K (.ref CBadPaint) (.type "BaseException") = some true)
    (ic_BadPaint : PySem.W.isClsIn K CBadPaint = true)
    (tc_BadPaint : PySem.W.typeIn K (.ref CBadPaint) = some (.type "type"))
    (sB_BadMask : PySem.W.subIn K (.ref CBadMask) (.type "BaseException") = some true)
    (ic_BadMask : PySem.W.isClsIn K CBadMask = true)
    (tc_BadMask : PySem.W.typeIn K (.ref CBadMask) = some (.type "type"))
    (ss_0 : PySem.W.subIn K (.ref CBadIndex) (.ref CBadIndex) = some true)
    (s_0_1 : PySem.W.subIn K (.ref CBadIndex) (.ref CBadCount) = some false)
    (s_0_2 : PySem.W.subIn K (.ref CBadIndex) (.ref CBadPaint) = some false)
    (s_0_3 : PySem.W.subIn K (.ref CBadIndex) (.ref CBadMask) = some false)
    (s_1_0 : PySem.W.subIn K (.ref CBadCount) (.ref CBadIndex) = some false)
    (ss_1 : PySem.W.subIn K (.ref CBadCount) (.ref CBadCount) = some true)
    (s_1_2 : PySem.W.subIn K (.ref CBadCount) (.ref CBadPaint) = some false)
    (s_1_3 : PySem.W.subIn K (.ref CBadCount) (.ref CBadMask) = some false)
    (s_2_0 : PySem.W.subIn K (.ref CBadPaint) (.ref CBadIndex) = some false)
    (s_2_1 : PySem.W.subIn K (.ref CBadPaint) (.ref CBadCount) = some false)
    (ss_2 : PySem.W.subIn K (.ref CBadPaint) (.ref CBadPaint) = some true)
    (s_2_3 : PySem.W.subIn K (.ref CBadPaint) (.ref CBadMask) = some false)
    (s_3_0 : PySem.W.subIn K (.ref CBadMask) (.ref CBadIndex) = some false)
    (s_3_1 : PySem.W.subIn K (.ref CBadMask) (.ref CBadCount) = some false)
    (s_3_2 : PySem.W.subIn K (.ref CBadMask) (.ref CBadPaint) = some false)
    (ss_3 : PySem.W.subIn K (.ref CBadMask) (.ref CBadMask) = some true) : ∀ i < 4, ∀ j < 4, PySem.W.exmOne K (.ref (eAd ⟨CGalloonError, CBadIndex, CBadCount, CBadPaint, CBadMask, CMask⟩ i)) (.ref (eAd ⟨CGalloonError, CBadIndex, CBadCount, CBadPaint, CBadMask, CMask⟩ j)) = some (decide (i = j)) := by
  intro i hi j hj
  match i, hi, j, hj with
  | 0, _, 0, _ => exact exm_of sB_BadIndex ic_BadIndex tc_BadIndex ss_0
  | 0, _, 1, _ => exact exm_of sB_BadCount ic_BadCount tc_BadCount s_0_1
  | 0, _, 2, _ => exact exm_of sB_BadPaint ic_BadPaint tc_BadPaint s_0_2
  | 0, _, 3, _ => exact exm_of sB_BadMask ic_BadMask tc_BadMask s_0_3
  | 1, _, 0, _ => exact exm_of sB_BadIndex ic_BadIndex tc_BadIndex s_1_0
  | 1, _, 1, _ => exact exm_of sB_BadCount ic_BadCount tc_BadCount ss_1
  | 1, _, 2, _ => exact exm_of sB_BadPaint ic_BadPaint tc_BadPaint s_1_2
  | 1, _, 3, _ => exact exm_of sB_BadMask ic_BadMask tc_BadMask s_1_3
  | 2, _, 0, _ => exact exm_of sB_BadIndex ic_BadIndex tc_BadIndex s_2_0
  | 2, _, 1, _ => exact exm_of sB_BadCount ic_BadCount tc_BadCount s_2_1
  | 2, _, 2, _ => exact exm_of sB_BadPaint ic_BadPaint tc_BadPaint ss_2
  | 2, _, 3, _ => exact exm_of sB_BadMask ic_BadMask tc_BadMask s_2_3
  | 3, _, 0, _ => exact exm_of sB_BadIndex ic_BadIndex tc_BadIndex s_3_0
  | 3, _, 1, _ => exact exm_of sB_BadCount ic_BadCount tc_BadCount s_3_1
  | 3, _, 2, _ => exact exm_of sB_BadPaint ic_BadPaint tc_BadPaint s_3_2
  | 3, _, 3, _ => exact exm_of sB_BadMask ic_BadMask tc_BadMask ss_3
theorem mkTxt {K : PySem.W.Frag} {h : Heap} {mg : Str → Option Value} (X : K.In h) (G : h.Ns mainGlobals mg)
    {CGalloonError CBadIndex CBadCount CBadPaint CBadMask CMask : Addr}
    {tk_MARKS : Nat}
    {tk_OPEN : Nat}
    {tk_CLOSED : Nat}
    {tk_MOST_MARKS : Nat}
    {f1 : Addr} {od1 an1 : Option Addr} {sl1 : Array (Option Value)} {oc1 kV1 dc1 pm1 cd1 ct1 : Value}
    {nm1 qn1 : Str} {N1 : Addr} {bs1 bm1 : List Value} {sn1 : List Str} {sub1 : List Value} {ab1 : Bool} {col1 : Option Bool} {dd1 : Option Addr} {m01 m11 m21 m31 m51 : Option Value}
    {f2 : Addr} {od2 an2 : Option Addr} {sl2 : Array (Option Value)} {oc2 kV2 dc2 pm2 cd2 ct2 : Value}
    {nm2 qn2 : Str} {N2 : Addr} {bs2 bm2 : List Value} {sn2 : List Str} {sub2 : List Value} {ab2 : Bool} {col2 : Option Bool} {dd2 : Option Addr} {m02 m12 m22 m32 m52 : Option Value}
    {f3 : Addr} {od3 an3 : Option Addr} {sl3 : Array (Option Value)} {oc3 kV3 dc3 pm3 cd3 ct3 : Value}
    {nm3 qn3 : Str} {N3 : Addr} {bs3 bm3 : List Value} {sn3 : List Str} {sub3 : List Value} {ab3 : Bool} {col3 : Option Bool} {dd3 : Option Addr} {m03 m13 m23 m33 m53 : Option Value}
    {f4 : Addr} {od4 an4 : Option Addr} {sl4 : Array (Option Value)} {oc4 kV4 dc4 pm4 cd4 ct4 : Value}
    {nm4 qn4 : Str} {N4 : Addr} {bs4 bm4 : List Value} {sn4 : List Str} {sub4 : List Value} {ab4 : Bool} {col4 : Option Bool} {dd4 : Option Addr} {m04 m14 m24 m34 m54 : Option Value}
    {f5 : Addr} {od5 an5 : Option Addr} {sl5 : Array (Option Value)} {oc5 kV5 dc5 pm5 cd5 ct5 : Value}
    {f6 : Addr} {od6 an6 : Option Addr} {sl6 : Array (Option Value)} {oc6 kV6 dc6 pm6 cd6 ct6 : Value}
    {p6 : Addr} {rs6 : List Value}
    {f7 : Addr} {od7 an7 : Option Addr} {sl7 : Array (Option Value)} {oc7 kV7 dc7 pm7 cd7 ct7 : Value}
    {p7 : Addr} {rs7 : List Value}
    {f8 : Addr} {od8 an8 : Option Addr} {sl8 : Array (Option Value)} {oc8 kV8 dc8 pm8 cd8 ct8 : Value}
    {p8 : Addr} {rs8 : List Value}
    {f9 : Addr} {od9 an9 : Option Addr} {sl9 : Array (Option Value)} {oc9 kV9 dc9 pm9 cd9 ct9 : Value}
    {p9 : Addr} {rs9 : List Value}
    {f10 : Addr} {od10 an10 : Option Addr} {sl10 : Array (Option Value)} {oc10 kV10 dc10 pm10 cd10 ct10 : Value}
    {f11 : Addr} {od11 an11 : Option Addr} {sl11 : Array (Option Value)} {oc11 kV11 dc11 pm11 cd11 ct11 : Value}
    {f12 : Addr} {od12 an12 : Option Addr} {sl12 : Array (Option Value)} {oc12 kV12 dc12 pm12 cd12 ct12 : Value}
    {f13 : Addr} {od13 an13 : Option Addr} {sl13 : Array (Option Value)} {oc13 kV13 dc13 pm13 cd13 ct13 : Value}
    {f14 : Addr} {od14 an14 : Option Addr} {sl14 : Array (Option Value)} {oc14 kV14 dc14 pm14 cd14 ct14 : Value}
    {f15 : Addr} {od15 an15 : Option Addr} {sl15 : Array (Option Value)} {oc15 kV15 dc15 pm15 cd15 ct15 : Value}
    {f16 : Addr} {od16 an16 : Option Addr} {sl16 : Array (Option Value)} {oc16 kV16 dc16 pm16 cd16 ct16 : Value}
    {f17 : Addr} {od17 an17 : Option Addr} {sl17 : Array (Option Value)} {oc17 kV17 dc17 pm17 cd17 ct17 : Value}
    {f18 : Addr} {od18 an18 : Option Addr} {sl18 : Array (Option Value)} {oc18 kV18 dc18 pm18 cd18 ct18 : Value}
    {f19 : Addr} {od19 an19 : Option Addr} {sl19 : Array (Option Value)} {oc19 kV19 dc19 pm19 cd19 ct19 : Value}
    {f20 : Addr} {od20 an20 : Option Addr} {sl20 : Array (Option Value)} {oc20 kV20 dc20 pm20 cd20 ct20 : Value}
    {f21 : Addr} {od21 an21 : Option Addr} {sl21 : Array (Option Value)} {oc21 kV21 dc21 pm21 cd21 ct21 : Value}
    {f22 : Addr} {od22 an22 : Option Addr} {sl22 : Array (Option Value)} {oc22 kV22 dc22 pm22 cd22 ct22 : Value}
    {f23 : Addr} {od23 an23 : Option Addr} {sl23 : Array (Option Value)} {oc23 kV23 dc23 pm23 cd23 ct23 : Value}
    {f24 : Addr} {od24 an24 : Option Addr} {sl24 : Array (Option Value)} {oc24 kV24 dc24 pm24 cd24 ct24 : Value}
    {f25 : Addr} {od25 an25 : Option Addr} {sl25 : Array (Option Value)} {oc25 kV25 dc25 pm25 cd25 ct25 : Value}
    {f26 : Addr} {od26 an26 : Option Addr} {sl26 : Array (Option Value)} {oc26 kV26 dc26 pm26 cd26 ct26 : Value}
    {f27 : Addr} {od27 an27 : Option Addr} {sl27 : Array (Option Value)} {oc27 kV27 dc27 pm27 cd27 ct27 : Value}
    {f28 : Addr} {od28 an28 : Option Addr} {sl28 : Array (Option Value)} {oc28 kV28 dc28 pm28 cd28 ct28 : Value}
    {f29 : Addr} {od29 an29 : Option Addr} {sl29 : Array (Option Value)} {oc29 kV29 dc29 pm29 cd29 ct29 : Value}
    {f30 : Addr} {od30 an30 : Option Addr} {sl30 : Array (Option Value)} {oc30 kV30 dc30 pm30 cd30 ct30 : Value}
    {f31 : Addr} {od31 an31 : Option Addr} {sl31 : Array (Option Value)} {oc31 kV31 dc31 pm31 cd31 ct31 : Value}
    {f32 : Addr} {od32 an32 : Option Addr} {sl32 : Array (Option Value)} {oc32 kV32 dc32 pm32 cd32 ct32 : Value}
    {f33 : Addr} {od33 an33 : Option Addr} {sl33 : Array (Option Value)} {oc33 kV33 dc33 pm33 cd33 ct33 : Value}
    {f34 : Addr} {od34 an34 : Option Addr} {sl34 : Array (Option Value)} {oc34 kV34 dc34 pm34 cd34 ct34 : Value}
    {f35 : Addr} {od35 an35 : Option Addr} {sl35 : Array (Option Value)} {oc35 kV35 dc35 pm35 cd35 ct35 : Value}
    {f36 : Addr} {od36 an36 : Option Addr} {sl36 : Array (Option Value)} {oc36 kV36 dc36 pm36 cd36 ct36 : Value}
    {f37 : Addr} {od37 an37 : Option Addr} {sl37 : Array (Option Value)} {oc37 kV37 dc37 pm37 cd37 ct37 : Value}
    {f38 : Addr} {od38 an38 : Option Addr} {sl38 : Array (Option Value)} {oc38 kV38 dc38 pm38 cd38 ct38 : Value}
    {f39 : Addr} {od39 an39 : Option Addr} {sl39 : Array (Option Value)} {oc39 kV39 dc39 pm39 cd39 ct39 : Value}
    {f40 : Addr} {od40 an40 : Option Addr} {sl40 : Array (Option Value)} {oc40 kV40 dc40 pm40 cd40 ct40 : Value}
    {f41 : Addr} {od41 an41 : Option Addr} {sl41 : Array (Option Value)} {oc41 kV41 dc41 pm41 cd41 ct41 : Value}
    {f42 : Addr} {od42 an42 : Option Addr} {sl42 : Array (Option Value)} {oc42 kV42 dc42 pm42 cd42 ct42 : Value}
    {f43 : Addr} {od43 an43 : Option Addr} {sl43 : Array (Option Value)} {oc43 kV43 dc43 pm43 cd43 ct43 : Value}
    {f44 : Addr} {od44 an44 : Option Addr} {sl44 : Array (Option Value)} {oc44 kV44 dc44 pm44 cd44 ct44 : Value}
    {f45 : Addr} {od45 an45 : Option Addr} {sl45 : Array (Option Value)} {oc45 kV45 dc45 pm45 cd45 ct45 : Value}
    {f46 : Addr} {od46 an46 : Option Addr} {sl46 : Array (Option Value)} {oc46 kV46 dc46 pm46 cd46 ct46 : Value}
    {f47 : Addr} {od47 an47 : Option Addr} {sl47 : Array (Option Value)} {oc47 kV47 dc47 pm47 cd47 ct47 : Value}
    {f48 : Addr} {od48 an48 : Option Addr} {sl48 : Array (Option Value)} {oc48 kV48 dc48 pm48 cd48 ct48 : Value}
    {f49 : Addr} {od49 an49 : Option Addr} {sl49 : Array (Option Value)} {oc49 kV49 dc49 pm49 cd49 ct49 : Value}
    {f50 : Addr} {od50 an50 : Option Addr} {sl50 : Array (Option Value)} {oc50 kV50 dc50 pm50 cd50 ct50 : Value}
    {f51 : Addr} {od51 an51 : Option Addr} {sl51 : Array (Option Value)} {oc51 kV51 dc51 pm51 cd51 ct51 : Value}
    {f52 : Addr} {od52 an52 : Option Addr} {sl52 : Array (Option Value)} {oc52 kV52 dc52 pm52 cd52 ct52 : Value}
    (a_GalloonError : PySem.W.nsIn K mainGlobals "GalloonError" = some (some (.ref CGalloonError)))
    (a_BadIndex : PySem.W.nsIn K mainGlobals "BadIndex" = some (some (.ref CBadIndex)))
    (a_BadCount : PySem.W.nsIn K mainGlobals "BadCount" = some (some (.ref CBadCount)))
    (a_BadPaint : PySem.W.nsIn K mainGlobals "BadPaint" = some (some (.ref CBadPaint)))
    (a_BadMask : PySem.W.nsIn K mainGlobals "BadMask" = some (some (.ref CBadMask)))
    (a_Mask : PySem.W.nsIn K mainGlobals "Mask" = some (some (.ref CMask)))
    (z_ValueError : PySem.W.nsIn K mainGlobals "ValueError" = some none)
    (z_abs : PySem.W.nsIn K mainGlobals "abs" = some none)
    (z_all : PySem.W.nsIn K mainGlobals "all" = some none)
    (z_bool : PySem.W.nsIn K mainGlobals "bool" = some none)
    (z_classmethod : PySem.W.nsIn K mainGlobals "classmethod" = some none)
    (z_int : PySem.W.nsIn K mainGlobals "int" = some none)
    (z_isinstance : PySem.W.nsIn K mainGlobals "isinstance" = some none)
    (z_len : PySem.W.nsIn K mainGlobals "len" = some none)
    (z_list : PySem.W.nsIn K mainGlobals "list" = some none)
    (z_max : PySem.W.nsIn K mainGlobals "max" = some none)
    (z_range : PySem.W.nsIn K mainGlobals "range" = some none)
    (z_str : PySem.W.nsIn K mainGlobals "str" = some none)
    (z_sum : PySem.W.nsIn K mainGlobals "sum" = some none)
    (z_zip : PySem.W.nsIn K mainGlobals "zip" = some none)
    (v_MARKS : PySem.W.nsIn K mainGlobals "MARKS" = some (some (.str "+-" tk_MARKS)))
    (v_OPEN : PySem.W.nsIn K mainGlobals "OPEN" = some (some (.str "+" tk_OPEN)))
    (v_CLOSED : PySem.W.nsIn K mainGlobals "CLOSED" = some (some (.str "-" tk_CLOSED)))
    (v_MOST_MARKS : PySem.W.nsIn K mainGlobals "MOST_MARKS" = some (some (.int 6 tk_MOST_MARKS)))
    (sB_GalloonError : PySem.W.subIn K (.ref CGalloonError) (.type "BaseException") = some true)
    (ic_GalloonError : PySem.W.isClsIn K CGalloonError = true)
    (tc_GalloonError : PySem.W.typeIn K (.ref CGalloonError) = some (.type "type"))
    (sB_BadIndex : PySem.W.subIn K (.ref CBadIndex) (.type "BaseException") = some true)
    (ic_BadIndex : PySem.W.isClsIn K CBadIndex = true)
    (tc_BadIndex : PySem.W.typeIn K (.ref CBadIndex) = some (.type "type"))
    (sB_BadCount : PySem.W.subIn K (.ref CBadCount) (.type "BaseException") = some true)
    (ic_BadCount : PySem.W.isClsIn K CBadCount = true)
    (tc_BadCount : PySem.W.typeIn K (.ref CBadCount) = some (.type "type"))
    (sB_BadPaint : PySem.W.subIn K (.ref CBadPaint) (.type "BaseException") = some true)
    (ic_BadPaint : PySem.W.isClsIn K CBadPaint = true)
    (tc_BadPaint : PySem.W.typeIn K (.ref CBadPaint) = some (.type "type"))
    (sB_BadMask : PySem.W.subIn K (.ref CBadMask) (.type "BaseException") = some true)
    (ic_BadMask : PySem.W.isClsIn K CBadMask = true)
    (tc_BadMask : PySem.W.typeIn K (.ref CBadMask) = some (.type "type"))
    (ic_Mask : PySem.W.isClsIn K CMask = true)
    (tc_Mask : PySem.W.typeIn K (.ref CMask) = some (.type "type"))
    (x_BadIndex : K.lookup CBadIndex = some (excClassObj nm1 qn1 CBadIndex N1 bs1 bm1 true sn1 sub1 ab1 col1 dd1 m01 m11 m21 m31 m51 "ValueError.__new__"))
    (rf_BadIndex : PySem.HandSPX.refsVE bm1 = true)
    (sa_BadIndex : PySem.W.findIn K (.ref CBadIndex) "__setattr__" = some (some (.builtin "object.__setattr__")))
    (kc_BadIndex : PySem.W.keepIn K (.ref CBadIndex) = true)
    (nb_BadIndex : PySem.W.findIn K (.ref CBadIndex) "at" = some none)
    (ai_BadIndex : PySem.W.findIn K (.ref CBadIndex) "__init__" = some (some (.ref f1)))
    (ti_BadIndex : PySem.W.typeIn K (.ref f1) = some (.type "function"))
    (li_BadIndex : K.lookup f1 = some ⟨oc1, od1, .func (PySem.W.fnOf "__init__" "BadIndex.__init__" (defArgs s_BadIndex___init__) (defBody s_BadIndex___init__) (defScope s_BadIndex___init__) .none kV1 dc1 pm1 an1 cd1 ct1), sl1⟩)
    (ci_BadIndex : PySem.W.codeIn K cd1 "BadIndex.__init__" = true)
    (ki_BadIndex : PySem.W.keepIn K (.ref f1) = true)
    (ga_BadIndex : PySem.W.findIn K (.ref CBadIndex) "__getattribute__" = some (some (.builtin "BaseException.__getattribute__")))
    (gg_BadIndex : PySem.W.findIn K (.ref CBadIndex) "__getattr__" = some none)
    (hd_BadIndex : PySem.W.hasDictIn K CBadIndex = true)
    (ha_BadIndex : PySem.W.findIn K (.ref CBadIndex) "__class__" = some (some (.builtin "object.__class__")))
    (hm_BadIndex : PySem.W.mroIn K CBadIndex (.type "object") = some true)
    (x_BadCount : K.lookup CBadCount = some (excClassObj nm2 qn2 CBadCount N2 bs2 bm2 true sn2 sub2 ab2 col2 dd2 m02 m12 m22 m32 m52 "ValueError.__new__"))
    (rf_BadCount : PySem.HandSPX.refsVE bm2 = true)
    (sa_BadCount : PySem.W.findIn K (.ref CBadCount) "__setattr__" = some (some (.builtin "object.__setattr__")))
    (kc_BadCount : PySem.W.keepIn K (.ref CBadCount) = true)
    (nb_BadCount : PySem.W.findIn K (.ref CBadCount) "count" = some none)
    (ai_BadCount : PySem.W.findIn K (.ref CBadCount) "__init__" = some (some (.ref f2)))
    (ti_BadCount : PySem.W.typeIn K (.ref f2) = some (.type "function"))
    (li_BadCount : K.lookup f2 = some ⟨oc2, od2, .func (PySem.W.fnOf "__init__" "BadCount.__init__" (defArgs s_BadCount___init__) (defBody s_BadCount___init__) (defScope s_BadCount___init__) .none kV2 dc2 pm2 an2 cd2 ct2), sl2⟩)
    (ci_BadCount : PySem.W.codeIn K cd2 "BadCount.__init__" = true)
    (ki_BadCount : PySem.W.keepIn K (.ref f2) = true)
    (ga_BadCount : PySem.W.findIn K (.ref CBadCount) "__getattribute__" = some (some (.builtin "BaseException.__getattribute__")))
    (gg_BadCount : PySem.W.findIn K (.ref CBadCount) "__getattr__" = some none)
    (hd_BadCount : PySem.W.hasDictIn K CBadCount = true)
    (ha_BadCount : PySem.W.findIn K (.ref CBadCount) "__class__" = some (some (.builtin "object.__class__")))
    (hm_BadCount : PySem.W.mroIn K CBadCount (.type "object") = some true)
    (x_BadPaint : K.lookup CBadPaint = some (excClassObj nm3 qn3 CBadPaint N3 bs3 bm3 true sn3 sub3 ab3 col3 dd3 m03 m13 m23 m33 m53 "ValueError.__new__"))
    (rf_BadPaint : PySem.HandSPX.refsVE bm3 = true)
    (sa_BadPaint : PySem.W.findIn K (.ref CBadPaint) "__setattr__" = some (some (.builtin "object.__setattr__")))
    (kc_BadPaint : PySem.W.keepIn K (.ref CBadPaint) = true)
    (nb_BadPaint : PySem.W.findIn K (.ref CBadPaint) "row" = some none)
    (ai_BadPaint : PySem.W.findIn K (.ref CBadPaint) "__init__" = some (some (.ref f3)))
    (ti_BadPaint : PySem.W.typeIn K (.ref f3) = some (.type "function"))
    (li_BadPaint : K.lookup f3 = some ⟨oc3, od3, .func (PySem.W.fnOf "__init__" "BadPaint.__init__" (defArgs s_BadPaint___init__) (defBody s_BadPaint___init__) (defScope s_BadPaint___init__) .none kV3 dc3 pm3 an3 cd3 ct3), sl3⟩)
    (ci_BadPaint : PySem.W.codeIn K cd3 "BadPaint.__init__" = true)
    (ki_BadPaint : PySem.W.keepIn K (.ref f3) = true)
    (ga_BadPaint : PySem.W.findIn K (.ref CBadPaint) "__getattribute__" = some (some (.builtin "BaseException.__getattribute__")))
    (gg_BadPaint : PySem.W.findIn K (.ref CBadPaint) "__getattr__" = some none)
    (hd_BadPaint : PySem.W.hasDictIn K CBadPaint = true)
    (ha_BadPaint : PySem.W.findIn K (.ref CBadPaint) "__class__" = some (some (.builtin "object.__class__")))
    (hm_BadPaint : PySem.W.mroIn K CBadPaint (.type "object") = some true)
    (x_BadMask : K.lookup CBadMask = some (excClassObj nm4 qn4 CBadMask N4 bs4 bm4 true sn4 sub4 ab4 col4 dd4 m04 m14 m24 m34 m54 "ValueError.__new__"))
    (rf_BadMask : PySem.HandSPX.refsVE bm4 = true)
    (sa_BadMask : PySem.W.findIn K (.ref CBadMask) "__setattr__" = some (some (.builtin "object.__setattr__")))
    (kc_BadMask : PySem.W.keepIn K (.ref CBadMask) = true)
    (nb_BadMask : PySem.W.findIn K (.ref CBadMask) "part" = some none)
    (ai_BadMask : PySem.W.findIn K (.ref CBadMask) "__init__" = some (some (.ref f4)))
    (ti_BadMask : PySem.W.typeIn K (.ref f4) = some (.type "function"))
    (li_BadMask : K.lookup f4 = some ⟨oc4, od4, .func (PySem.W.fnOf "__init__" "BadMask.__init__" (defArgs s_BadMask___init__) (defBody s_BadMask___init__) (defScope s_BadMask___init__) .none kV4 dc4 pm4 an4 cd4 ct4), sl4⟩)
    (ci_BadMask : PySem.W.codeIn K cd4 "BadMask.__init__" = true)
    (ki_BadMask : PySem.W.keepIn K (.ref f4) = true)
    (ga_BadMask : PySem.W.findIn K (.ref CBadMask) "__getattribute__" = some (some (.builtin "BaseException.__getattribute__")))
    (gg_BadMask : PySem.W.findIn K (.ref CBadMask) "__getattr__" = some none)
    (hd_BadMask : PySem.W.hasDictIn K CBadMask = true)
    (ha_BadMask : PySem.W.findIn K (.ref CBadMask) "__class__" = some (some (.builtin "object.__class__")))
    (hm_BadMask : PySem.W.mroIn K CBadMask (.type "object") = some true)
    (pg_Mask : PySem.W.plainGet K CMask Str.empty = true)
    (hd_Mask : PySem.W.hasDictIn K CMask = true)
    (po_Mask : PySem.W.plainOver K CMask = true)
    (sa_Mask : PySem.W.findIn K (.ref CMask) "__setattr__" = some (some (.builtin "object.__setattr__")))
    (mk_Mask : PySem.W.makesIn K CMask = true)
    (kc_Mask : PySem.W.keepIn K (.ref CMask) = true)
    (am_Mask___init__ : PySem.W.findIn K (.ref CMask) "__init__" = some (some (.ref f5)))
    (im_Mask___init__ : PySem.W.isFn K (.ref f5) = true)
    (lm_Mask___init__ : K.lookup f5 = some ⟨oc5, od5, .func (PySem.W.fnOf "__init__" "Mask.__init__" (defArgs s_Mask___init__) (defBody s_Mask___init__) (defScope s_Mask___init__) .none kV5 dc5 pm5 an5 cd5 ct5), sl5⟩)
    (cm_Mask___init__ : PySem.W.codeIn K cd5 "Mask.__init__" = true)
    (km_Mask___init__ : PySem.W.keepIn K (.ref f5) = true)
    (cg_Mask_every : PySem.W.findCls K (.ref CMask) (.type "type") "every" = some (.get (.builtin "classmethod.__get__") (.ref p6) .none (.ref CMask)))
    (cr_Mask_every : PySem.W.recIn K p6 "classmethod" = some (.ref f6 :: rs6))
    (cf_Mask_every : PySem.W.fnIn K f6 = true)
    (lm_Mask_every : K.lookup f6 = some ⟨oc6, od6, .func (PySem.W.fnOf "every" "Mask.every" (defArgs s_Mask_every) (defBody s_Mask_every) (defScope s_Mask_every) .none kV6 dc6 pm6 an6 cd6 ct6), sl6⟩)
    (cm_Mask_every : PySem.W.codeIn K cd6 "Mask.every" = true)
    (km_Mask_every : PySem.W.keepIn K (.ref f6) = true)
    (cg_Mask_none : PySem.W.findCls K (.ref CMask) (.type "type") "none" = some (.get (.builtin "classmethod.__get__") (.ref p7) .none (.ref CMask)))
    (cr_Mask_none : PySem.W.recIn K p7 "classmethod" = some (.ref f7 :: rs7))
    (cf_Mask_none : PySem.W.fnIn K f7 = true)
    (lm_Mask_none : K.lookup f7 = some ⟨oc7, od7, .func (PySem.W.fnOf "none" "Mask.none" (defArgs s_Mask_none) (defBody s_Mask_none) (defScope s_Mask_none) .none kV7 dc7 pm7 an7 cd7 ct7), sl7⟩)
    (cm_Mask_none : PySem.W.codeIn K cd7 "Mask.none" = true)
    (km_Mask_none : PySem.W.keepIn K (.ref f7) = true)
    (cg_Mask_read : PySem.W.findCls K (.ref CMask) (.type "type") "read" = some (.get (.builtin "classmethod.__get__") (.ref p8) .none (.ref CMask)))
    (cr_Mask_read : PySem.W.recIn K p8 "classmethod" = some (.ref f8 :: rs8))
    (cf_Mask_read : PySem.W.fnIn K f8 = true)
    (lm_Mask_read : K.lookup f8 = some ⟨oc8, od8, .func (PySem.W.fnOf "read" "Mask.read" (defArgs s_Mask_read) (defBody s_Mask_read) (defScope s_Mask_read) .none kV8 dc8 pm8 an8 cd8 ct8), sl8⟩)
    (cm_Mask_read : PySem.W.codeIn K cd8 "Mask.read" = true)
    (km_Mask_read : PySem.W.keepIn K (.ref f8) = true)
    (cg_Mask_menu : PySem.W.findCls K (.ref CMask) (.type "type") "menu" = some (.get (.builtin "classmethod.__get__") (.ref p9) .none (.ref CMask)))
    (cr_Mask_menu : PySem.W.recIn K p9 "classmethod" = some (.ref f9 :: rs9))
    (cf_Mask_menu : PySem.W.fnIn K f9 = true)
    (lm_Mask_menu : K.lookup f9 = some ⟨oc9, od9, .func (PySem.W.fnOf "menu" "Mask.menu" (defArgs s_Mask_menu) (defBody s_Mask_menu) (defScope s_Mask_menu) .none kV9 dc9 pm9 an9 cd9 ct9), sl9⟩)
    (cm_Mask_menu : PySem.W.codeIn K cd9 "Mask.menu" = true)
    (km_Mask_menu : PySem.W.keepIn K (.ref f9) = true)
    (am_Mask___eq__ : PySem.W.findIn K (.ref CMask) "__eq__" = some (some (.ref f10)))
    (im_Mask___eq__ : PySem.W.isFn K (.ref f10) = true)
    (lm_Mask___eq__ : K.lookup f10 = some ⟨oc10, od10, .func (PySem.W.fnOf "__eq__" "Mask.__eq__" (defArgs s_Mask___eq__) (defBody s_Mask___eq__) (defScope s_Mask___eq__) .none kV10 dc10 pm10 an10 cd10 ct10), sl10⟩)
    (cm_Mask___eq__ : PySem.W.codeIn K cd10 "Mask.__eq__" = true)
    (km_Mask___eq__ : PySem.W.keepIn K (.ref f10) = true)
    (am_Mask___getitem__ : PySem.W.findIn K (.ref CMask) "__getitem__" = some (some (.ref f11)))
    (im_Mask___getitem__ : PySem.W.isFn K (.ref f11) = true)
    (lm_Mask___getitem__ : K.lookup f11 = some ⟨oc11, od11, .func (PySem.W.fnOf "__getitem__" "Mask.__getitem__" (defArgs s_Mask___getitem__) (defBody s_Mask___getitem__) (defScope s_Mask___getitem__) .none kV11 dc11 pm11 an11 cd11 ct11), sl11⟩)
    (cm_Mask___getitem__ : PySem.W.codeIn K cd11 "Mask.__getitem__" = true)
    (km_Mask___getitem__ : PySem.W.keepIn K (.ref f11) = true)
    (am_Mask___and__ : PySem.W.findIn K (.ref CMask) "__and__" = some (some (.ref f12)))
    (im_Mask___and__ : PySem.W.isFn K (.ref f12) = true)
    (lm_Mask___and__ : K.lookup f12 = some ⟨oc12, od12, .func (PySem.W.fnOf "__and__" "Mask.__and__" (defArgs s_Mask___and__) (defBody s_Mask___and__) (defScope s_Mask___and__) .none kV12 dc12 pm12 an12 cd12 ct12), sl12⟩)
    (cm_Mask___and__ : PySem.W.codeIn K cd12 "Mask.__and__" = true)
    (km_Mask___and__ : PySem.W.keepIn K (.ref f12) = true)
    (am_Mask___or__ : PySem.W.findIn K (.ref CMask) "__or__" = some (some (.ref f13)))
    (im_Mask___or__ : PySem.W.isFn K (.ref f13) = true)
    (lm_Mask___or__ : K.lookup f13 = some ⟨oc13, od13, .func (PySem.W.fnOf "__or__" "Mask.__or__" (defArgs s_Mask___or__) (defBody s_Mask___or__) (defScope s_Mask___or__) .none kV13 dc13 pm13 an13 cd13 ct13), sl13⟩)
    (cm_Mask___or__ : PySem.W.codeIn K cd13 "Mask.__or__" = true)
    (km_Mask___or__ : PySem.W.keepIn K (.ref f13) = true)
    (am_Mask___xor__ : PySem.W.findIn K (.ref CMask) "__xor__" = some (some (.ref f14)))
    (im_Mask___xor__ : PySem.W.isFn K (.ref f14) = true)
    (lm_Mask___xor__ : K.lookup f14 = some ⟨oc14, od14, .func (PySem.W.fnOf "__xor__" "Mask.__xor__" (defArgs s_Mask___xor__) (defBody s_Mask___xor__) (defScope s_Mask___xor__) .none kV14 dc14 pm14 an14 cd14 ct14), sl14⟩)
    (cm_Mask___xor__ : PySem.W.codeIn K cd14 "Mask.__xor__" = true)
    (km_Mask___xor__ : PySem.W.keepIn K (.ref f14) = true)
    (am_Mask___invert__ : PySem.W.findIn K (.ref CMask) "__invert__" = some (some (.ref f15)))
    (im_Mask___invert__ : PySem.W.isFn K (.ref f15) = true)
    (lm_Mask___invert__ : K.lookup f15 = some ⟨oc15, od15, .func (PySem.W.fnOf "__invert__" "Mask.__invert__" (defArgs s_Mask___invert__) (defBody s_Mask___invert__) (defScope s_Mask___invert__) .none kV15 dc15 pm15 an15 cd15 ct15), sl15⟩)
    (cm_Mask___invert__ : PySem.W.codeIn K cd15 "Mask.__invert__" = true)
    (km_Mask___invert__ : PySem.W.keepIn K (.ref f15) = true)
    (am_Mask___str__ : PySem.W.findIn K (.ref CMask) "__str__" = some (some (.ref f16)))
    (im_Mask___str__ : PySem.W.isFn K (.ref f16) = true)
    (lm_Mask___str__ : K.lookup f16 = some ⟨oc16, od16, .func (PySem.W.fnOf "__str__" "Mask.__str__" (defArgs s_Mask___str__) (defBody s_Mask___str__) (defScope s_Mask___str__) .none kV16 dc16 pm16 an16 cd16 ct16), sl16⟩)
    (cm_Mask___str__ : PySem.W.codeIn K cd16 "Mask.__str__" = true)
    (km_Mask___str__ : PySem.W.keepIn K (.ref f16) = true)
    (am_Mask_marks : PySem.W.findIn K (.ref CMask) "marks" = some (some (.ref f17)))
    (im_Mask_marks : PySem.W.isFn K (.ref f17) = true)
    (lm_Mask_marks : K.lookup f17 = some ⟨oc17, od17, .func (PySem.W.fnOf "marks" "Mask.marks" (defArgs s_Mask_marks) (defBody s_Mask_marks) (defScope s_Mask_marks) .none kV17 dc17 pm17 an17 cd17 ct17), sl17⟩)
    (cm_Mask_marks : PySem.W.codeIn K cd17 "Mask.marks" = true)
    (km_Mask_marks : PySem.W.keepIn K (.ref f17) = true)
    (ad_masks_apart : PySem.W.nsIn K mainGlobals "masks_apart" = some (some (.ref f18)))
    (ld_masks_apart : K.lookup f18 = some ⟨oc18, od18, .func (PySem.W.fnOf "masks_apart" "masks_apart" (defArgs s_masks_apart) (defBody s_masks_apart) (defScope s_masks_apart) .none kV18 dc18 pm18 an18 cd18 ct18), sl18⟩)
    (cd_masks_apart : PySem.W.codeIn K cd18 "masks_apart" = true)
    (kd_masks_apart : PySem.W.keepIn K (.ref f18) = true)
    (ad_are_marks : PySem.W.nsIn K mainGlobals "_are_marks" = some (some (.ref f19)))
    (ld_are_marks : K.lookup f19 = some ⟨oc19, od19, .func (PySem.W.fnOf "_are_marks" "_are_marks" (defArgs s_are_marks) (defBody s_are_marks) (defScope s_are_marks) .none kV19 dc19 pm19 an19 cd19 ct19), sl19⟩)
    (cd_are_marks : PySem.W.codeIn K cd19 "_are_marks" = true)
    (kd_are_marks : PySem.W.keepIn K (.ref f19) = true)
    (ad_all_marks : PySem.W.nsIn K mainGlobals "_all_marks" = some (some (.ref f20)))
    (ld_all_marks : K.lookup f20 = some ⟨oc20, od20, .func (PySem.W.fnOf "_all_marks" "_all_marks" (defArgs s_all_marks) (defBody s_all_marks) (defScope s_all_marks) .none kV20 dc20 pm20 an20 cd20 ct20), sl20⟩)
    (cd_all_marks : PySem.W.codeIn K cd20 "_all_marks" = true)
    (kd_all_marks : PySem.W.keepIn K (.ref f20) = true)
    (ad_least_form : PySem.W.nsIn K mainGlobals "_least_form" = some (some (.ref f21)))
    (ld_least_form : K.lookup f21 = some ⟨oc21, od21, .func (PySem.W.fnOf "_least_form" "_least_form" (defArgs s_least_form) (defBody s_least_form) (defScope s_least_form) .none kV21 dc21 pm21 an21 cd21 ct21), sl21⟩)
    (cd_least_form : PySem.W.codeIn K cd21 "_least_form" = true)
    (kd_least_form : PySem.W.keepIn K (.ref f21) = true)
    (ad_combined : PySem.W.nsIn K mainGlobals "_combined" = some (some (.ref f22)))
    (ld_combined : K.lookup f22 = some ⟨oc22, od22, .func (PySem.W.fnOf "_combined" "_combined" (defArgs s_combined) (defBody s_combined) (defScope s_combined) .none kV22 dc22 pm22 an22 cd22 ct22), sl22⟩)
    (cd_combined : PySem.W.codeIn K cd22 "_combined" = true)
    (kd_combined : PySem.W.keepIn K (.ref f22) = true)
    (ad_law_box : PySem.W.nsIn K mainGlobals "_law_box" = some (some (.ref f23)))
    (ld_law_box : K.lookup f23 = some ⟨oc23, od23, .func (PySem.W.fnOf "_law_box" "_law_box" (defArgs s_law_box) (defBody s_law_box) (defScope s_law_box) .none kV23 dc23 pm23 an23 cd23 ct23), sl23⟩)
    (cd_law_box : PySem.W.codeIn K cd23 "_law_box" = true)
    (kd_law_box : PySem.W.keepIn K (.ref f23) = true)
    (ad_law_take : PySem.W.nsIn K mainGlobals "_law_take" = some (some (.ref f24)))
    (ld_law_take : K.lookup f24 = some ⟨oc24, od24, .func (PySem.W.fnOf "_law_take" "_law_take" (defArgs s_law_take) (defBody s_law_take) (defScope s_law_take) .none kV24 dc24 pm24 an24 cd24 ct24), sl24⟩)
    (cd_law_take : PySem.W.codeIn K cd24 "_law_take" = true)
    (kd_law_take : PySem.W.keepIn K (.ref f24) = true)
    (ad_law_word : PySem.W.nsIn K mainGlobals "_law_word" = some (some (.ref f25)))
    (ld_law_word : K.lookup f25 = some ⟨oc25, od25, .func (PySem.W.fnOf "_law_word" "_law_word" (defArgs s_law_word) (defBody s_law_word) (defScope s_law_word) .none kV25 dc25 pm25 an25 cd25 ct25), sl25⟩)
    (cd_law_word : PySem.W.codeIn K cd25 "_law_word" = true)
    (kd_law_word : PySem.W.keepIn K (.ref f25) = true)
    (ad_law_parts : PySem.W.nsIn K mainGlobals "_law_parts" = some (some (.ref f26)))
    (ld_law_parts : K.lookup f26 = some ⟨oc26, od26, .func (PySem.W.fnOf "_law_parts" "_law_parts" (defArgs s_law_parts) (defBody s_law_parts) (defScope s_law_parts) .none kV26 dc26 pm26 an26 cd26 ct26), sl26⟩)
    (cd_law_parts : PySem.W.codeIn K cd26 "_law_parts" = true)
    (kd_law_parts : PySem.W.keepIn K (.ref f26) = true)
    (ad_law_marks : PySem.W.nsIn K mainGlobals "_law_marks" = some (some (.ref f27)))
    (ld_law_marks : K.lookup f27 = some ⟨oc27, od27, .func (PySem.W.fnOf "_law_marks" "_law_marks" (defArgs s_law_marks) (defBody s_law_marks) (defScope s_law_marks) .none kV27 dc27 pm27 an27 cd27 ct27), sl27⟩)
    (cd_law_marks : PySem.W.codeIn K cd27 "_law_marks" = true)
    (kd_law_marks : PySem.W.keepIn K (.ref f27) = true)
    (ad_law_joined : PySem.W.nsIn K mainGlobals "_law_joined" = some (some (.ref f28)))
    (ld_law_joined : K.lookup f28 = some ⟨oc28, od28, .func (PySem.W.fnOf "_law_joined" "_law_joined" (defArgs s_law_joined) (defBody s_law_joined) (defScope s_law_joined) .none kV28 dc28 pm28 an28 cd28 ct28), sl28⟩)
    (cd_law_joined : PySem.W.codeIn K cd28 "_law_joined" = true)
    (kd_law_joined : PySem.W.keepIn K (.ref f28) = true)
    (ad_law_least : PySem.W.nsIn K mainGlobals "_law_least" = some (some (.ref f29)))
    (ld_law_least : K.lookup f29 = some ⟨oc29, od29, .func (PySem.W.fnOf "_law_least" "_law_least" (defArgs s_law_least) (defBody s_law_least) (defScope s_law_least) .none kV29 dc29 pm29 an29 cd29 ct29), sl29⟩)
    (cd_law_least : PySem.W.codeIn K cd29 "_law_least" = true)
    (kd_law_least : PySem.W.keepIn K (.ref f29) = true)
    (ad_law_apart : PySem.W.nsIn K mainGlobals "_law_apart" = some (some (.ref f30)))
    (ld_law_apart : K.lookup f30 = some ⟨oc30, od30, .func (PySem.W.fnOf "_law_apart" "_law_apart" (defArgs s_law_apart) (defBody s_law_apart) (defScope s_law_apart) .none kV30 dc30 pm30 an30 cd30 ct30), sl30⟩)
    (cd_law_apart : PySem.W.codeIn K cd30 "_law_apart" = true)
    (kd_law_apart : PySem.W.keepIn K (.ref f30) = true)
    (ad_law_is_marks : PySem.W.nsIn K mainGlobals "_law_is_marks" = some (some (.ref f31)))
    (ld_law_is_marks : K.lookup f31 = some ⟨oc31, od31, .func (PySem.W.fnOf "_law_is_marks" "_law_is_marks" (defArgs s_law_is_marks) (defBody s_law_is_marks) (defScope s_law_is_marks) .none kV31 dc31 pm31 an31 cd31 ct31), sl31⟩)
    (cd_law_is_marks : PySem.W.codeIn K cd31 "_law_is_marks" = true)
    (kd_law_is_marks : PySem.W.keepIn K (.ref f31) = true)
    (ad_law_bad_part : PySem.W.nsIn K mainGlobals "_law_bad_part" = some (some (.ref f32)))
    (ld_law_bad_part : K.lookup f32 = some ⟨oc32, od32, .func (PySem.W.fnOf "_law_bad_part" "_law_bad_part" (defArgs s_law_bad_part) (defBody s_law_bad_part) (defScope s_law_bad_part) .none kV32 dc32 pm32 an32 cd32 ct32), sl32⟩)
    (cd_law_bad_part : PySem.W.codeIn K cd32 "_law_bad_part" = true)
    (kd_law_bad_part : PySem.W.keepIn K (.ref f32) = true)
    (ad_law_bad_text : PySem.W.nsIn K mainGlobals "_law_bad_text" = some (some (.ref f33)))
    (ld_law_bad_text : K.lookup f33 = some ⟨oc33, od33, .func (PySem.W.fnOf "_law_bad_text" "_law_bad_text" (defArgs s_law_bad_text) (defBody s_law_bad_text) (defScope s_law_bad_text) .none kV33 dc33 pm33 an33 cd33 ct33), sl33⟩)
    (cd_law_bad_text : PySem.W.codeIn K cd33 "_law_bad_text" = true)
    (kd_law_bad_text : PySem.W.keepIn K (.ref f33) = true)
    (ad_law_refused : PySem.W.nsIn K mainGlobals "_law_refused" = some (some (.ref f34)))
    (ld_law_refused : K.lookup f34 = some ⟨oc34, od34, .func (PySem.W.fnOf "_law_refused" "_law_refused" (defArgs s_law_refused) (defBody s_law_refused) (defScope s_law_refused) .none kV34 dc34 pm34 an34 cd34 ct34), sl34⟩)
    (cd_law_refused : PySem.W.codeIn K cd34 "_law_refused" = true)
    (kd_law_refused : PySem.W.keepIn K (.ref f34) = true)
    (ad_law_spoilt : PySem.W.nsIn K mainGlobals "_law_spoilt" = some (some (.ref f35)))
    (ld_law_spoilt : K.lookup f35 = some ⟨oc35, od35, .func (PySem.W.fnOf "_law_spoilt" "_law_spoilt" (defArgs s_law_spoilt) (defBody s_law_spoilt) (defScope s_law_spoilt) .none kV35 dc35 pm35 an35 cd35 ct35), sl35⟩)
    (cd_law_spoilt : PySem.W.codeIn K cd35 "_law_spoilt" = true)
    (kd_law_spoilt : PySem.W.keepIn K (.ref f35) = true)
    (ad_law_spoilt_text : PySem.W.nsIn K mainGlobals "_law_spoilt_text" = some (some (.ref f36)))
    (ld_law_spoilt_text : K.lookup f36 = some ⟨oc36, od36, .func (PySem.W.fnOf "_law_spoilt_text" "_law_spoilt_text" (defArgs s_law_spoilt_text) (defBody s_law_spoilt_text) (defScope s_law_spoilt_text) .none kV36 dc36 pm36 an36 cd36 ct36), sl36⟩)
    (cd_law_spoilt_text : PySem.W.codeIn K cd36 "_law_spoilt_text" = true)
    (kd_law_spoilt_text : PySem.W.keepIn K (.ref f36) = true)
    (ad_law_words : PySem.W.nsIn K mainGlobals "_law_words" = some (some (.ref f37)))
    (ld_law_words : K.lookup f37 = some ⟨oc37, od37, .func (PySem.W.fnOf "_law_words" "_law_words" (defArgs s_law_words) (defBody s_law_words) (defScope s_law_words) .none kV37 dc37 pm37 an37 cd37 ct37), sl37⟩)
    (cd_law_words : PySem.W.codeIn K cd37 "_law_words" = true)
    (kd_law_words : PySem.W.keepIn K (.ref f37) = true)
    (ad_law_menu : PySem.W.nsIn K mainGlobals "_law_menu" = some (some (.ref f38)))
    (ld_law_menu : K.lookup f38 = some ⟨oc38, od38, .func (PySem.W.fnOf "_law_menu" "_law_menu" (defArgs s_law_menu) (defBody s_law_menu) (defScope s_law_menu) .none kV38 dc38 pm38 an38 cd38 ct38), sl38⟩)
    (cd_law_menu : PySem.W.codeIn K cd38 "_law_menu" = true)
    (kd_law_menu : PySem.W.keepIn K (.ref f38) = true)
    (ad_law_menu_refused : PySem.W.nsIn K mainGlobals "_law_menu_refused" = some (some (.ref f39)))
    (ld_law_menu_refused : K.lookup f39 = some ⟨oc39, od39, .func (PySem.W.fnOf "_law_menu_refused" "_law_menu_refused" (defArgs s_law_menu_refused) (defBody s_law_menu_refused) (defScope s_law_menu_refused) .none kV39 dc39 pm39 an39 cd39 ct39), sl39⟩)
    (cd_law_menu_refused : PySem.W.codeIn K cd39 "_law_menu_refused" = true)
    (kd_law_menu_refused : PySem.W.keepIn K (.ref f39) = true)
    (ad_law_count_refused : PySem.W.nsIn K mainGlobals "_law_count_refused" = some (some (.ref f40)))
    (ld_law_count_refused : K.lookup f40 = some ⟨oc40, od40, .func (PySem.W.fnOf "_law_count_refused" "_law_count_refused" (defArgs s_law_count_refused) (defBody s_law_count_refused) (defScope s_law_count_refused) .none kV40 dc40 pm40 an40 cd40 ct40), sl40⟩)
    (cd_law_count_refused : PySem.W.codeIn K cd40 "_law_count_refused" = true)
    (kd_law_count_refused : PySem.W.keepIn K (.ref f40) = true)
    (ad_law_index_refused : PySem.W.nsIn K mainGlobals "_law_index_refused" = some (some (.ref f41)))
    (ld_law_index_refused : K.lookup f41 = some ⟨oc41, od41, .func (PySem.W.fnOf "_law_index_refused" "_law_index_refused" (defArgs s_law_index_refused) (defBody s_law_index_refused) (defScope s_law_index_refused) .none kV41 dc41 pm41 an41 cd41 ct41), sl41⟩)
    (cd_law_index_refused : PySem.W.codeIn K cd41 "_law_index_refused" = true)
    (kd_law_index_refused : PySem.W.keepIn K (.ref f41) = true)
    (ad_law_truth : PySem.W.nsIn K mainGlobals "_law_truth" = some (some (.ref f42)))
    (ld_law_truth : K.lookup f42 = some ⟨oc42, od42, .func (PySem.W.fnOf "_law_truth" "_law_truth" (defArgs s_law_truth) (defBody s_law_truth) (defScope s_law_truth) .none kV42 dc42 pm42 an42 cd42 ct42), sl42⟩)
    (cd_law_truth : PySem.W.codeIn K cd42 "_law_truth" = true)
    (kd_law_truth : PySem.W.keepIn K (.ref f42) = true)
    (ad_law_is_mask : PySem.W.nsIn K mainGlobals "_law_is_mask" = some (some (.ref f43)))
    (ld_law_is_mask : K.lookup f43 = some ⟨oc43, od43, .func (PySem.W.fnOf "_law_is_mask" "_law_is_mask" (defArgs s_law_is_mask) (defBody s_law_is_mask) (defScope s_law_is_mask) .none kV43 dc43 pm43 an43 cd43 ct43), sl43⟩)
    (cd_law_is_mask : PySem.W.codeIn K cd43 "_law_is_mask" = true)
    (kd_law_is_mask : PySem.W.keepIn K (.ref f43) = true)
    (ad_law_combined : PySem.W.nsIn K mainGlobals "_law_combined" = some (some (.ref f44)))
    (ld_law_combined : K.lookup f44 = some ⟨oc44, od44, .func (PySem.W.fnOf "_law_combined" "_law_combined" (defArgs s_law_combined) (defBody s_law_combined) (defScope s_law_combined) .none kV44 dc44 pm44 an44 cd44 ct44), sl44⟩)
    (cd_law_combined : PySem.W.codeIn K cd44 "_law_combined" = true)
    (kd_law_combined : PySem.W.keepIn K (.ref f44) = true)
    (ad_law_written_again : PySem.W.nsIn K mainGlobals "_law_written_again" = some (some (.ref f45)))
    (ld_law_written_again : K.lookup f45 = some ⟨oc45, od45, .func (PySem.W.fnOf "_law_written_again" "_law_written_again" (defArgs s_law_written_again) (defBody s_law_written_again) (defScope s_law_written_again) .none kV45 dc45 pm45 an45 cd45 ct45), sl45⟩)
    (cd_law_written_again : PySem.W.codeIn K cd45 "_law_written_again" = true)
    (kd_law_written_again : PySem.W.keepIn K (.ref f45) = true)
    (ad_law_menu_holds : PySem.W.nsIn K mainGlobals "_law_menu_holds" = some (some (.ref f46)))
    (ld_law_menu_holds : K.lookup f46 = some ⟨oc46, od46, .func (PySem.W.fnOf "_law_menu_holds" "_law_menu_holds" (defArgs s_law_menu_holds) (defBody s_law_menu_holds) (defScope s_law_menu_holds) .none kV46 dc46 pm46 an46 cd46 ct46), sl46⟩)
    (cd_law_menu_holds : PySem.W.codeIn K cd46 "_law_menu_holds" = true)
    (kd_law_menu_holds : PySem.W.keepIn K (.ref f46) = true)
    (ad_law_refusals_hold : PySem.W.nsIn K mainGlobals "_law_refusals_hold" = some (some (.ref f47)))
    (ld_law_refusals_hold : K.lookup f47 = some ⟨oc47, od47, .func (PySem.W.fnOf "_law_refusals_hold" "_law_refusals_hold" (defArgs s_law_refusals_hold) (defBody s_law_refusals_hold) (defScope s_law_refusals_hold) .none kV47 dc47 pm47 an47 cd47 ct47), sl47⟩)
    (cd_law_refusals_hold : PySem.W.codeIn K cd47 "_law_refusals_hold" = true)
    (kd_law_refusals_hold : PySem.W.keepIn K (.ref f47) = true)
    (ad_law_menu_bounds_hold : PySem.W.nsIn K mainGlobals "_law_menu_bounds_hold" = some (some (.ref f48)))
    (ld_law_menu_bounds_hold : K.lookup f48 = some ⟨oc48, od48, .func (PySem.W.fnOf "_law_menu_bounds_hold" "_law_menu_bounds_hold" (defArgs s_law_menu_bounds_hold) (defBody s_law_menu_bounds_hold) (defScope s_law_menu_bounds_hold) .none kV48 dc48 pm48 an48 cd48 ct48), sl48⟩)
    (cd_law_menu_bounds_hold : PySem.W.codeIn K cd48 "_law_menu_bounds_hold" = true)
    (kd_law_menu_bounds_hold : PySem.W.keepIn K (.ref f48) = true)
    (ad_law_below_refused : PySem.W.nsIn K mainGlobals "_law_below_refused" = some (some (.ref f49)))
    (ld_law_below_refused : K.lookup f49 = some ⟨oc49, od49, .func (PySem.W.fnOf "_law_below_refused" "_law_below_refused" (defArgs s_law_below_refused) (defBody s_law_below_refused) (defScope s_law_below_refused) .none kV49 dc49 pm49 an49 cd49 ct49), sl49⟩)
    (cd_law_below_refused : PySem.W.codeIn K cd49 "_law_below_refused" = true)
    (kd_law_below_refused : PySem.W.keepIn K (.ref f49) = true)
    (ad_law_read_back : PySem.W.nsIn K mainGlobals "_law_read_back" = some (some (.ref f50)))
    (ld_law_read_back : K.lookup f50 = some ⟨oc50, od50, .func (PySem.W.fnOf "_law_read_back" "_law_read_back" (defArgs s_law_read_back) (defBody s_law_read_back) (defScope s_law_read_back) .none kV50 dc50 pm50 an50 cd50 ct50), sl50⟩)
    (cd_law_read_back : PySem.W.codeIn K cd50 "_law_read_back" = true)
    (kd_law_read_back : PySem.W.keepIn K (.ref f50) = true)
    (ad_law_apart_holds : PySem.W.nsIn K mainGlobals "_law_apart_holds" = some (some (.ref f51)))
    (ld_law_apart_holds : K.lookup f51 = some ⟨oc51, od51, .func (PySem.W.fnOf "_law_apart_holds" "_law_apart_holds" (defArgs s_law_apart_holds) (defBody s_law_apart_holds) (defScope s_law_apart_holds) .none kV51 dc51 pm51 an51 cd51 ct51), sl51⟩)
    (cd_law_apart_holds : PySem.W.codeIn K cd51 "_law_apart_holds" = true)
    (kd_law_apart_holds : PySem.W.keepIn K (.ref f51) = true)
    (ad_law : PySem.W.nsIn K mainGlobals "law" = some (some (.ref f52)))
    (ld_law : K.lookup f52 = some ⟨oc52, od52, .func (PySem.W.fnOf "law" "law" (defArgs s_law) (defBody s_law) (defScope s_law) .none kV52 dc52 pm52 an52 cd52 ct52), sl52⟩)
    (cd_law : PySem.W.codeIn K cd52 "law" = true)
    (kd_law : PySem.W.keepIn K (.ref f52) = true)
    (i_hn : PySem.W.specialIn K (.builtin "object.__class__") "__get__" = some (some (.builtin "getset_descriptor.__get__")))
    (i_ht : PySem.W.takesIn K (.builtin "object.__class__") = some true)
    (nn_Mask_start : PySem.W.findIn K (.ref CMask) "start" = some none)
    (nn_Mask_loop : PySem.W.findIn K (.ref CMask) "loop" = some none)
    (rS_Mask : PySem.W.readsIn K CMask (.type "type") = true)
    (gS_Mask : PySem.W.specialIn K (.ref CMask) "__getattribute__" = some (some (.builtin "type.__getattribute__")))
    (i_ha : PySem.W.findIn K (.ref CMask) "__class__" = some (some (.builtin "object.__class__")))
    (i_hm : PySem.W.mroIn K CMask (.type "object") = some true)
    (nf_Mask_int : PySem.W.notFirst K CMask (.type "int") = true)
    (nf_Mask_str : PySem.W.notFirst K CMask (.type "str") = true)
    (s_str_Mask : PySem.W.subIn K (.type "str") (.ref CMask) = some false)
    (sf_Mask : PySem.W.selfFirst K CMask = true)
    (im_lcm : PySem.W.nsIn K mainGlobals "lcm" = some (some (.builtin "math.lcm")))
    (ss_0 : PySem.W.subIn K (.ref CBadIndex) (.ref CBadIndex) = some true)
    (s_0_1 : PySem.W.subIn K (.ref CBadIndex) (.ref CBadCount) = some false)
    (ne_0_1 : ((Value.ref CBadIndex) == Value.ref CBadCount) = false)
    (s_0_2 : PySem.W.subIn K (.ref CBadIndex) (.ref CBadPaint) = some false)
    (ne_0_2 : ((Value.ref CBadIndex) == Value.ref CBadPaint) = false)
    (s_0_3 : PySem.W.subIn K (.ref CBadIndex) (.ref CBadMask) = some false)
    (ne_0_3 : ((Value.ref CBadIndex) == Value.ref CBadMask) = false)
    (s_1_0 : PySem.W.subIn K (.ref CBadCount) (.ref CBadIndex) = some false)
    (ne_1_0 : ((Value.ref CBadCount) == Value.ref CBadIndex) = false)
    (ss_1 : PySem.W.subIn K (.ref CBadCount) (.ref CBadCount) = some true)
    (s_1_2 : PySem.W.subIn K (.ref CBadCount) (.ref CBadPaint) = some false)
    (ne_1_2 : ((Value.ref CBadCount) == Value.ref CBadPaint) = false)
    (s_1_3 : PySem.W.subIn K (.ref CBadCount) (.ref CBadMask) = some false)
    (ne_1_3 : ((Value.ref CBadCount) == Value.ref CBadMask) = false)
    (s_2_0 : PySem.W.subIn K (.ref CBadPaint) (.ref CBadIndex) = some false)
    (ne_2_0 : ((Value.ref CBadPaint) == Value.ref CBadIndex) = false)
    (s_2_1 : PySem.W.subIn K (.ref CBadPaint) (.ref CBadCount) = some false)
    (ne_2_1 : ((Value.ref CBadPaint) == Value.ref CBadCount) = false)
    (ss_2 : PySem.W.subIn K (.ref CBadPaint) (.ref CBadPaint) = some true)
    (s_2_3 : PySem.W.subIn K (.ref CBadPaint) (.ref CBadMask) = some false)
    (ne_2_3 : ((Value.ref CBadPaint) == Value.ref CBadMask) = false)
    (s_3_0 : PySem.W.subIn K (.ref CBadMask) (.ref CBadIndex) = some false)
    (ne_3_0 : ((Value.ref CBadMask) == Value.ref CBadIndex) = false)
    (s_3_1 : PySem.W.subIn K (.ref CBadMask) (.ref CBadCount) = some false)
    (ne_3_1 : ((Value.ref CBadMask) == Value.ref CBadCount) = false)
    (s_3_2 : PySem.W.subIn K (.ref CBadMask) (.ref CBadPaint) = some false)
    (ne_3_2 : ((Value.ref CBadMask) == Value.ref CBadPaint) = false)
    (ss_3 : PySem.W.subIn K (.ref CBadMask) (.ref CBadMask) = some true)
    (sv_0 : PySem.W.subIn K (.ref CBadIndex) (.type "ValueError") = some true)
    (sv_1 : PySem.W.subIn K (.ref CBadCount) (.type "ValueError") = some true)
    (sv_2 : PySem.W.subIn K (.ref CBadPaint) (.type "ValueError") = some true)
    (sv_3 : PySem.W.subIn K (.ref CBadMask) (.type "ValueError") = some true)
    (sg_0 : PySem.W.subIn K (.ref CBadIndex) (.ref CGalloonError) = some true)
    (sg_1 : PySem.W.subIn K (.ref CBadCount) (.ref CGalloonError) = some true)
    (sg_2 : PySem.W.subIn K (.ref CBadPaint) (.ref CGalloonError) = some true)
    (sg_3 : PySem.W.subIn K (.ref CBadMask) (.ref CGalloonError) = some true)
    (ne_g_0 : ((Value.ref CBadIndex) == Value.ref CGalloonError) = false)
    (ne_g_1 : ((Value.ref CBadCount) == Value.ref CGalloonError) = false)
    (ne_g_2 : ((Value.ref CBadPaint) == Value.ref CGalloonError) = false)
    (ne_g_3 : ((Value.ref CBadMask) == Value.ref CGalloonError) = false) :
    Txt K mg ⟨CGalloonError, CBadIndex, CBadCount, CBadPaint, CBadMask, CMask⟩ :=
  { b_ValueError := PySem.W.mg_none_of X G z_ValueError
    b_abs := PySem.W.mg_none_of X G z_abs
    b_all := PySem.W.mg_none_of X G z_all
    b_bool := PySem.W.mg_none_of X G z_bool
    b_classmethod := PySem.W.mg_none_of X G z_classmethod
    b_int := PySem.W.mg_none_of X G z_int
    b_isinstance := PySem.W.mg_none_of X G z_isinstance
    b_len := PySem.W.mg_none_of X G z_len
    b_list := PySem.W.mg_none_of X G z_list
    b_max := PySem.W.mg_none_of X G z_max
    b_range := PySem.W.mg_none_of X G z_range
    b_str := PySem.W.mg_none_of X G z_str
    b_sum := PySem.W.mg_none_of X G z_sum
    b_zip := PySem.W.mg_none_of X G z_zip
    g_MARKS := gval_of X G v_MARKS ⟨_, rfl⟩
    g_OPEN := gval_of X G v_OPEN ⟨_, rfl⟩
    g_CLOSED := gval_of X G v_CLOSED ⟨_, rfl⟩
    g_MOST_MARKS := gval_of X G v_MOST_MARKS ⟨_, rfl⟩
    g_GalloonError := PySem.W.mg_of X G a_GalloonError
    e_BadIndex := errT_of X G a_BadIndex x_BadIndex rf_BadIndex sa_BadIndex sB_BadIndex tc_BadIndex kc_BadIndex nb_BadIndex ai_BadIndex ti_BadIndex li_BadIndex ci_BadIndex ki_BadIndex
    x_BadIndex := errC_of ga_BadIndex gg_BadIndex sB_BadIndex hd_BadIndex ha_BadIndex i_hn i_ht hm_BadIndex ic_BadIndex
    e_BadCount := errT_of X G a_BadCount x_BadCount rf_BadCount sa_BadCount sB_BadCount tc_BadCount kc_BadCount nb_BadCount ai_BadCount ti_BadCount li_BadCount ci_BadCount ki_BadCount
    x_BadCount := errC_of ga_BadCount gg_BadCount sB_BadCount hd_BadCount ha_BadCount i_hn i_ht hm_BadCount ic_BadCount
    e_BadPaint := errT_of X G a_BadPaint x_BadPaint rf_BadPaint sa_BadPaint sB_BadPaint tc_BadPaint kc_BadPaint nb_BadPaint ai_BadPaint ti_BadPaint li_BadPaint ci_BadPaint ki_BadPaint
    x_BadPaint := errC_of ga_BadPaint gg_BadPaint sB_BadPaint hd_BadPaint ha_BadPaint i_hn i_ht hm_BadPaint ic_BadPaint
    e_BadMask := errT_of X G a_BadMask x_BadMask rf_BadMask sa_BadMask sB_BadMask tc_BadMask kc_BadMask nb_BadMask ai_BadMask ti_BadMask li_BadMask ci_BadMask ki_BadMask
    x_BadMask := errC_of ga_BadMask gg_BadMask sB_BadMask hd_BadMask ha_BadMask i_hn i_ht hm_BadMask ic_BadMask
    c_Mask := clsT_of X G a_Mask pg_Mask hd_Mask po_Mask sa_Mask mk_Mask kc_Mask
    m_Mask___init__ := metT_of am_Mask___init__ im_Mask___init__ lm_Mask___init__ cm_Mask___init__ km_Mask___init__
    m_Mask_every := ⟨_, _, _, _, fun_mk (st := s_Mask_every) lm_Mask_every cm_Mask_every km_Mask_every, ⟨rS_Mask, gS_Mask⟩, ⟨cg_Mask_every, ⟨_, cr_Mask_every⟩, cf_Mask_every⟩⟩
    m_Mask_none := ⟨_, _, _, _, fun_mk (st := s_Mask_none) lm_Mask_none cm_Mask_none km_Mask_none, ⟨rS_Mask, gS_Mask⟩, ⟨cg_Mask_none, ⟨_, cr_Mask_none⟩, cf_Mask_none⟩⟩
    m_Mask_read := ⟨_, _, _, _, fun_mk (st := s_Mask_read) lm_Mask_read cm_Mask_read km_Mask_read, ⟨rS_Mask, gS_Mask⟩, ⟨cg_Mask_read, ⟨_, cr_Mask_read⟩, cf_Mask_read⟩⟩
    m_Mask_menu := ⟨_, _, _, _, fun_mk (st := s_Mask_menu) lm_Mask_menu cm_Mask_menu km_Mask_menu, ⟨rS_Mask, gS_Mask⟩, ⟨cg_Mask_menu, ⟨_, cr_Mask_menu⟩, cf_Mask_menu⟩⟩
    m_Mask___eq__ := metT_of am_Mask___eq__ im_Mask___eq__ lm_Mask___eq__ cm_Mask___eq__ km_Mask___eq__
    m_Mask___getitem__ := metT_of am_Mask___getitem__ im_Mask___getitem__ lm_Mask___getitem__ cm_Mask___getitem__ km_Mask___getitem__
    m_Mask___and__ := metT_of am_Mask___and__ im_Mask___and__ lm_Mask___and__ cm_Mask___and__ km_Mask___and__
    m_Mask___or__ := metT_of am_Mask___or__ im_Mask___or__ lm_Mask___or__ cm_Mask___or__ km_Mask___or__
    m_Mask___xor__ := metT_of am_Mask___xor__ im_Mask___xor__ lm_Mask___xor__ cm_Mask___xor__ km_Mask___xor__
    m_Mask___invert__ := metT_of am_Mask___invert__ im_Mask___invert__ lm_Mask___invert__ cm_Mask___invert__ km_Mask___invert__
    m_Mask___str__ := metT_of am_Mask___str__ im_Mask___str__ lm_Mask___str__ cm_Mask___str__ km_Mask___str__
    m_Mask_marks := metT_of am_Mask_marks im_Mask_marks lm_Mask_marks cm_Mask_marks km_Mask_marks
    d_masks_apart := defT_of X G ad_masks_apart ld_masks_apart cd_masks_apart kd_masks_apart
    d_are_marks := defT_of X G ad_are_marks ld_are_marks cd_are_marks kd_are_marks
    d_all_marks := defT_of X G ad_all_marks ld_all_marks cd_all_marks kd_all_marks
    d_least_form := defT_of X G ad_least_form ld_least_form cd_least_form kd_least_form
    d_combined := defT_of X G ad_combined ld_combined cd_combined kd_combined
    d_law_box := defT_of X G ad_law_box ld_law_box cd_law_box kd_law_box
    d_law_take := defT_of X G ad_law_take ld_law_take cd_law_take kd_law_take
    d_law_word := defT_of X G ad_law_word ld_law_word cd_law_word kd_law_word
    d_law_parts := defT_of X G ad_law_parts ld_law_parts cd_law_parts kd_law_parts
    d_law_marks := defT_of X G ad_law_marks ld_law_marks cd_law_marks kd_law_marks
    d_law_joined := defT_of X G ad_law_joined ld_law_joined cd_law_joined kd_law_joined
    d_law_least := defT_of X G ad_law_least ld_law_least cd_law_least kd_law_least
    d_law_apart := defT_of X G ad_law_apart ld_law_apart cd_law_apart kd_law_apart
    d_law_is_marks := defT_of X G ad_law_is_marks ld_law_is_marks cd_law_is_marks kd_law_is_marks
    d_law_bad_part := defT_of X G ad_law_bad_part ld_law_bad_part cd_law_bad_part kd_law_bad_part
    d_law_bad_text := defT_of X G ad_law_bad_text ld_law_bad_text cd_law_bad_text kd_law_bad_text
    d_law_refused := defT_of X G ad_law_refused ld_law_refused cd_law_refused kd_law_refused
    d_law_spoilt := defT_of X G ad_law_spoilt ld_law_spoilt cd_law_spoilt kd_law_spoilt
    d_law_spoilt_text := defT_of X G ad_law_spoilt_text ld_law_spoilt_text cd_law_spoilt_text kd_law_spoilt_text
    d_law_words := defT_of X G ad_law_words ld_law_words cd_law_words kd_law_words
    d_law_menu := defT_of X G ad_law_menu ld_law_menu cd_law_menu kd_law_menu
    d_law_menu_refused := defT_of X G ad_law_menu_refused ld_law_menu_refused cd_law_menu_refused kd_law_menu_refused
    d_law_count_refused := defT_of X G ad_law_count_refused ld_law_count_refused cd_law_count_refused kd_law_count_refused
    d_law_index_refused := defT_of X G ad_law_index_refused ld_law_index_refused cd_law_index_refused kd_law_index_refused
    d_law_truth := defT_of X G ad_law_truth ld_law_truth cd_law_truth kd_law_truth
    d_law_is_mask := defT_of X G ad_law_is_mask ld_law_is_mask cd_law_is_mask kd_law_is_mask
    d_law_combined := defT_of X G ad_law_combined ld_law_combined cd_law_combined kd_law_combined
    d_law_written_again := defT_of X G ad_law_written_again ld_law_written_again cd_law_written_again kd_law_written_again
    d_law_menu_holds := defT_of X G ad_law_menu_holds ld_law_menu_holds cd_law_menu_holds kd_law_menu_holds
    d_law_refusals_hold := defT_of X G ad_law_refusals_hold ld_law_refusals_hold cd_law_refusals_hold kd_law_refusals_hold
    d_law_menu_bounds_hold := defT_of X G ad_law_menu_bounds_hold ld_law_menu_bounds_hold cd_law_menu_bounds_hold kd_law_menu_bounds_hold
    d_law_below_refused := defT_of X G ad_law_below_refused ld_law_below_refused cd_law_below_refused kd_law_below_refused
    d_law_read_back := defT_of X G ad_law_read_back ld_law_read_back cd_law_read_back kd_law_read_back
    d_law_apart_holds := defT_of X G ad_law_apart_holds ld_law_apart_holds cd_law_apart_holds kd_law_apart_holds
    d_law := defT_of X G ad_law ld_law cd_law kd_law
    i_hn := i_hn
    i_ht := i_ht
    n_start := nn_Mask_start
    n_loop := nn_Mask_loop
    i_ha := i_ha
    i_hm := i_hm
    i_own := kitS_of
    i_ni := nf_Mask_int
    i_ns := nf_Mask_str
    i_str := kitR_of ic_Mask tc_Mask s_str_Mask rfl
    i_sf := sf_Mask
    m_lcm := PySem.W.mg_of X G im_lcm
    kk_e := kk_of ic_BadIndex tc_BadIndex ic_BadCount tc_BadCount ic_BadPaint tc_BadPaint ic_BadMask tc_BadMask s_0_1 ne_0_1 s_0_2 ne_0_2 s_0_3 ne_0_3 s_1_0 ne_1_0 s_1_2 ne_1_2 s_1_3 ne_1_3 s_2_0 ne_2_0 s_2_1 ne_2_1 s_2_3 ne_2_3 s_3_0 ne_3_0 s_3_1 ne_3_1 s_3_2 ne_3_2
    kv_e := kv_of sv_0 sv_1 sv_2 sv_3
    xm_e := xm_of sB_GalloonError ic_GalloonError tc_GalloonError sg_0 sg_1 sg_2 sg_3
    kg_e := kg_of ic_GalloonError tc_GalloonError sg_0 sg_1 sg_2 sg_3 ne_g_0 ne_g_1 ne_g_2 ne_g_3
    xo_e := xo_of sB_BadIndex ic_BadIndex tc_BadIndex sB_BadCount ic_BadCount tc_BadCount sB_BadPaint ic_BadPaint tc_BadPaint sB_BadMask ic_BadMask tc_BadMask ss_0 s_0_1 s_0_2 s_0_3 s_1_0 ss_1 s_1_2 s_1_3 s_2_0 s_2_1 ss_2 s_2_3 s_3_0 s_3_1 s_3_2 ss_3 }
end K17

end
set_option Elab.async false
set_option maxRecDepth 100000
open PySem PySem.W PyProof.Rows
set_option maxRecDepth 100000 in
set_option maxHeartbeats 0 in
theorem PySem.Challenge.cw_galloon_k17_masks_holds : PySem.Challenge.rw_galloon_k17_masks.Holds := by
  w_on; o_law; k_head; (case hw => w_witness2)
  k_fill
  refine K17.walk (l := PySem.Challenge.rw_galloon_k17_masks) rfl rfl (fun w h Y => PySem.W.kIn_of Y) rfl ?F
  case F =>
    intro w mg h KX G
    refine' ⟨_, K17.mkTxt KX G ?a_GalloonError ?a_BadIndex ?a_BadCount ?a_BadPaint ?a_BadMask ?a_Mask ?z_ValueError ?z_abs ?z_all ?z_bool ?z_classmethod ?z_int ?z_isinstance ?z_len ?z_list ?z_max ?z_range ?z_str ?z_sum ?z_zip ?v_MARKS ?v_OPEN ?v_CLOSED ?v_MOST_MARKS ?sB_GalloonError ?ic_GalloonError ?tc_GalloonError ?sB_BadIndex ?ic_BadIndex ?tc_BadIndex ?sB_BadCount ?ic_BadCount ?tc_BadCount ?sB_BadPaint ?ic_BadPaint ?tc_BadPaint ?sB_BadMask ?ic_BadMask ?tc_BadMask ?ic_Mask ?tc_Mask ?x_BadIndex ?rf_BadIndex ?sa_BadIndex ?kc_BadIndex ?nb_BadIndex ?ai_BadIndex ?ti_BadIndex ?li_BadIndex ?ci_BadIndex ?ki_BadIndex ?ga_BadIndex ?gg_BadIndex ?hd_BadIndex ?ha_BadIndex ?hm_BadIndex ?x_BadCount ?rf_BadCount ?sa_BadCount ?kc_BadCount ?nb_BadCount ?ai_BadCount ?ti_BadCount ?li_BadCount ?ci_BadCount ?ki_BadCount ?ga_BadCount ?gg_BadCount ?hd_BadCount ?ha_BadCount ?hm_BadCount ?x_BadPaint ?rf_BadPaint ?sa_BadPaint ?kc_BadPaint ?nb_BadPaint ?ai_BadPaint ?ti_BadPaint ?li_BadPaint ?ci_BadPaint ?ki_BadPaint ?ga_BadPaint ?gg_BadPaint ?hd_BadPaint ?ha_BadPaint ?hm_BadPaint ?x_BadMask ?rf_BadMask ?sa_BadMask ?kc_BadMask ?nb_BadMask ?ai_BadMask ?ti_BadMask ?li_BadMask ?ci_BadMask ?ki_BadMask ?ga_BadMask ?gg_BadMask ?hd_BadMask ?ha_BadMask ?hm_BadMask ?pg_Mask ?hd_Mask ?po_Mask ?sa_Mask ?mk_Mask ?kc_Mask ?am_Mask___init__ ?im_Mask___init__ ?lm_Mask___init__ ?cm_Mask___init__ ?km_Mask___init__ ?cg_Mask_every ?cr_Mask_every ?cf_Mask_every ?lm_Mask_every ?cm_Mask_every ?km_Mask_every ?cg_Mask_none ?cr_Mask_none ?cf_Mask_none ?lm_Mask_none ?cm_Mask_none ?km_Mask_none ?cg_Mask_read ?cr_Mask_read ?cf_Mask_read ?lm_Mask_read ?cm_Mask_read ?km_Mask_read ?cg_Mask_menu ?cr_Mask_menu ?cf_Mask_menu ?lm_Mask_menu ?cm_Mask_menu ?km_Mask_menu ?am_Mask___eq__ ?im_Mask___eq__ ?lm_Mask___eq__ ?cm_Mask___eq__ ?km_Mask___eq__ ?am_Mask___getitem__ ?im_Mask___getitem__ ?lm_Mask___getitem__ ?cm_Mask___getitem__ ?km_Mask___getitem__ ?am_Mask___and__ ?im_Mask___and__ ?lm_Mask___and__ ?cm_Mask___and__ ?km_Mask___and__ ?am_Mask___or__ ?im_Mask___or__ ?lm_Mask___or__ ?cm_Mask___or__ ?km_Mask___or__ ?am_Mask___xor__ ?im_Mask___xor__ ?lm_Mask___xor__ ?cm_Mask___xor__ ?km_Mask___xor__ ?am_Mask___invert__ ?im_Mask___invert__ ?lm_Mask___invert__ ?cm_Mask___invert__ ?km_Mask___invert__ ?am_Mask___str__ ?im_Mask___str__ ?lm_Mask___str__ ?cm_Mask___str__ ?km_Mask___str__ ?am_Mask_marks ?im_Mask_marks ?lm_Mask_marks ?cm_Mask_marks ?km_Mask_marks ?ad_masks_apart ?ld_masks_apart ?cd_masks_apart ?kd_masks_apart ?ad_are_marks ?ld_are_marks ?cd_are_marks ?kd_are_marks ?ad_all_marks ?ld_all_marks ?cd_all_marks ?kd_all_marks ?ad_least_form ?ld_least_form ?cd_least_form ?kd_least_form ?ad_combined ?ld_combined ?cd_combined ?kd_combined ?ad_law_box ?ld_law_box ?cd_law_box ?kd_law_box ?ad_law_take ?ld_law_take ?cd_law_take ?kd_law_take ?ad_law_word ?ld_law_word ?cd_law_word ?kd_law_word ?ad_law_parts ?ld_law_parts ?cd_law_parts ?kd_law_parts ?ad_law_marks ?ld_law_marks ?cd_law_marks ?kd_law_marks ?ad_law_joined ?ld_law_joined ?cd_law_joined ?kd_law_joined ?ad_law_least ?ld_law_least ?cd_law_least ?kd_law_least ?ad_law_apart ?ld_law_apart ?cd_law_apart ?kd_law_apart ?ad_law_is_marks ?ld_law_is_marks ?cd_law_is_marks ?kd_law_is_marks ?ad_law_bad_part ?ld_law_bad_part ?cd_law_bad_part ?kd_law_bad_part ?ad_law_bad_text ?ld_law_bad_text ?cd_law_bad_text ?kd_law_bad_text ?ad_law_refused ?ld_law_refused ?cd_law_refused ?kd_law_refused ?ad_law_spoilt ?ld_law_spoilt ?cd_law_spoilt ?kd_law_spoilt ?ad_law_spoilt_text ?ld_law_spoilt_text ?cd_law_spoilt_text ?kd_law_spoilt_text ?ad_law_words ?ld_law_words ?cd_law_words ?kd_law_words ?ad_law_menu ?ld_law_menu ?cd_law_menu ?kd_law_menu ?ad_law_menu_refused ?ld_law_menu_refused ?cd_law_menu_refused ?kd_law_menu_refused ?ad_law_count_refused ?ld_law_count_refused ?cd_law_count_refused ?kd_law_count_refused ?ad_law_index_refused ?ld_law_index_refused ?cd_law_index_refused ?kd_law_index_refused ?ad_law_truth ?ld_law_truth ?cd_law_truth ?kd_law_truth ?ad_law_is_mask ?ld_law_is_mask ?cd_law_is_mask ?kd_law_is_mask ?ad_law_combined ?ld_law_combined ?cd_law_combined ?kd_law_combined ?ad_law_written_again ?ld_law_written_again ?cd_law_written_again ?kd_law_written_again ?ad_law_menu_holds ?ld_law_menu_holds ?cd_law_menu_holds ?kd_law_menu_holds ?ad_law_refusals_hold ?ld_law_refusals_hold ?cd_law_refusals_hold ?kd_law_refusals_hold ?ad_law_menu_bounds_hold ?ld_law_menu_bounds_hold ?cd_law_menu_bounds_hold ?kd_law_menu_bounds_hold ?ad_law_below_refused ?ld_law_below_refused ?cd_law_below_refused ?kd_law_below_refused ?ad_law_read_back ?ld_law_read_back ?cd_law_read_back ?kd_law_read_back ?ad_law_apart_holds ?ld_law_apart_holds ?cd_law_apart_holds ?kd_law_apart_holds ?ad_law ?ld_law ?cd_law ?kd_law ?i_hn ?i_ht ?nn_Mask_start ?nn_Mask_loop ?rS_Mask ?gS_Mask ?i_ha ?i_hm ?nf_Mask_int ?nf_Mask_str ?s_str_Mask ?sf_Mask ?im_lcm ?ss_0 ?s_0_1 ?ne_0_1 ?s_0_2 ?ne_0_2 ?s_0_3 ?ne_0_3 ?s_1_0 ?ne_1_0 ?ss_1 ?s_1_2 ?ne_1_2 ?s_1_3 ?ne_1_3 ?s_2_0 ?ne_2_0 ?s_2_1 ?ne_2_1 ?ss_2 ?s_2_3 ?ne_2_3 ?s_3_0 ?ne_3_0 ?s_3_1 ?ne_3_1 ?s_3_2 ?ne_3_2 ?ss_3 ?sv_0 ?sv_1 ?sv_2 ?sv_3 ?sg_0 ?sg_1 ?sg_2 ?sg_3 ?ne_g_0 ?ne_g_1 ?ne_g_2 ?ne_g_3⟩
    (case a_GalloonError => k_is)
    (case a_BadIndex => k_is)
    (case a_BadCount => k_is)
    (case a_BadPaint => k_is)
    (case a_BadMask => k_is)
    (case a_Mask => k_is)
    (case z_ValueError => k_is)
    (case z_abs => k_is)
    (case z_all => k_is)
    (case z_bool => k_is)
    (case z_classmethod => k_is)
    (case z_int => k_is)
    (case z_isinstance => k_is)
    (case z_len => k_is)
    (case z_list => k_is)
    (case z_max => k_is)
    (case z_range => k_is)
    (case z_str => k_is)
    (case z_sum => k_is)
    (case z_zip => k_is)
    (case v_MARKS => k_is)
    (case v_OPEN => k_is)
    (case v_CLOSED => k_is)
    (case v_MOST_MARKS => k_is)
    (case sB_GalloonError => k_is)
    (case ic_GalloonError => k_is)
    (case tc_GalloonError => k_is)
    (case sB_BadIndex => k_is)
    (case ic_BadIndex => k_is)
    (case tc_BadIndex => k_is)
    (case sB_BadCount => k_is)
    (case ic_BadCount => k_is)
    (case tc_BadCount => k_is)
    (case sB_BadPaint => k_is)
    (case ic_BadPaint => k_is)
    (case tc_BadPaint => k_is)
    (case sB_BadMask => k_is)
    (case ic_BadMask => k_is)
    (case tc_BadMask => k_is)
    (case ic_Mask => k_is)
    (case tc_Mask => k_is)
    (case x_BadIndex => k_is)
    (case rf_BadIndex => decide +kernel)
    (case sa_BadIndex => k_is)
    (case kc_BadIndex => k_is)
    (case nb_BadIndex => k_is)
    (case ai_BadIndex => k_is)
    (case ti_BadIndex => k_is)
    (case li_BadIndex => k_is)
    (case ci_BadIndex => k_is)
    (case ki_BadIndex => k_is)
    (case ga_BadIndex => k_is)
    (case gg_BadIndex => k_is)
    (case hd_BadIndex => k_is)
    (case ha_BadIndex => k_is)
    (case hm_BadIndex => k_is)
    (case x_BadCount => k_is)
    (case rf_BadCount => decide +kernel)
    (case sa_BadCount => k_is)
    (case kc_BadCount => k_is)
    (case nb_BadCount => k_is)
    (case ai_BadCount => k_is)
    (case ti_BadCount => k_is)
    (case li_BadCount => k_is)
    (case ci_BadCount => k_is)
    (case ki_BadCount => k_is)
    (case ga_BadCount => k_is)
    (case gg_BadCount => k_is)
    (case hd_BadCount => k_is)
    (case ha_BadCount => k_is)
    (case hm_BadCount => k_is)
    (case x_BadPaint => k_is)
    (case rf_BadPaint => decide +kernel)
    (case sa_BadPaint => k_is)
    (case kc_BadPaint => k_is)
    (case nb_BadPaint => k_is)
    (case ai_BadPaint => k_is)
    (case ti_BadPaint => k_is)
    (case li_BadPaint => k_is)
    (case ci_BadPaint => k_is)
    (case ki_BadPaint => k_is)
    (case ga_BadPaint => k_is)
    (case gg_BadPaint => k_is)
    (case hd_BadPaint => k_is)
    (case ha_BadPaint => k_is)
    (case hm_BadPaint => k_is)
    (case x_BadMask => k_is)
    (case rf_BadMask => decide +kernel)
    (case sa_BadMask => k_is)
    (case kc_BadMask => k_is)
    (case nb_BadMask => k_is)
    (case ai_BadMask => k_is)
    (case ti_BadMask => k_is)
    (case li_BadMask => k_is)
    (case ci_BadMask => k_is)
    (case ki_BadMask => k_is)
    (case ga_BadMask => k_is)
    (case gg_BadMask => k_is)
    (case hd_BadMask => k_is)
    (case ha_BadMask => k_is)
    (case hm_BadMask => k_is)
    (case pg_Mask => k_is)
    (case hd_Mask => k_is)
    (case po_Mask => k_is)
    (case sa_Mask => k_is)
    (case mk_Mask => k_is)
    (case kc_Mask => k_is)
    (case am_Mask___init__ => k_is)
    (case im_Mask___init__ => k_is)
    (case lm_Mask___init__ => k_is)
    (case cm_Mask___init__ => k_is)
    (case km_Mask___init__ => k_is)
    (case cg_Mask_every => k_is)
    (case cr_Mask_every => k_is)
    (case cf_Mask_every => k_is)
    (case lm_Mask_every => k_is)
    (case cm_Mask_every => k_is)
    (case km_Mask_every => k_is)
    (case cg_Mask_none => k_is)
    (case cr_Mask_none => k_is)
    (case cf_Mask_none => k_is)
    (case lm_Mask_none => k_is)
    (case cm_Mask_none => k_is)
    (case km_Mask_none => k_is)
    (case cg_Mask_read => k_is)
    (case cr_Mask_read => k_is)
    (case cf_Mask_read => k_is)
    (case lm_Mask_read => k_is)
    (case cm_Mask_read => k_is)
    (case km_Mask_read => k_is)
    (case cg_Mask_menu => k_is)
    (case cr_Mask_menu => k_is)
    (case cf_Mask_menu => k_is)
    (case lm_Mask_menu => k_is)
    (case cm_Mask_menu => k_is)
    (case km_Mask_menu => k_is)
    (case am_Mask___eq__ => k_is)
    (case im_Mask___eq__ => k_is)
    (case lm_Mask___eq__ => k_is)
    (case cm_Mask___eq__ => k_is)
    (case km_Mask___eq__ => k_is)
    (case am_Mask___getitem__ => k_is)
    (case im_Mask___getitem__ => k_is)
    (case lm_Mask___getitem__ => k_is)
    (case cm_Mask___getitem__ => k_is)
    (case km_Mask___getitem__ => k_is)
    (case am_Mask___and__ => k_is)
    (case im_Mask___and__ => k_is)
    (case lm_Mask___and__ => k_is)
    (case cm_Mask___and__ => k_is)
    (case km_Mask___and__ => k_is)
    (case am_Mask___or__ => k_is)
    (case im_Mask___or__ => k_is)
    (case lm_Mask___or__ => k_is)
    (case cm_Mask___or__ => k_is)
    (case km_Mask___or__ => k_is)
    (case am_Mask___xor__ => k_is)
    (case im_Mask___xor__ => k_is)
    (case lm_Mask___xor__ => k_is)
    (case cm_Mask___xor__ => k_is)
    (case km_Mask___xor__ => k_is)
    (case am_Mask___invert__ => k_is)
    (case im_Mask___invert__ => k_is)
    (case lm_Mask___invert__ => k_is)
    (case cm_Mask___invert__ => k_is)
    (case km_Mask___invert__ => k_is)
    (case am_Mask___str__ => k_is)
    (case im_Mask___str__ => k_is)
    (case lm_Mask___str__ => k_is)
    (case cm_Mask___str__ => k_is)
    (case km_Mask___str__ => k_is)
    (case am_Mask_marks => k_is)
    (case im_Mask_marks => k_is)
    (case lm_Mask_marks => k_is)
    (case cm_Mask_marks => k_is)
    (case km_Mask_marks => k_is)
    (case ad_masks_apart => k_is)
    (case ld_masks_apart => k_is)
    (case cd_masks_apart => k_is)
    (case kd_masks_apart => k_is)
    (case ad_are_marks => k_is)
    (case ld_are_marks => k_is)
    (case cd_are_marks => k_is)
    (case kd_are_marks => k_is)
    (case ad_all_marks => k_is)
    (case ld_all_marks => k_is)
    (case cd_all_marks => k_is)
    (case kd_all_marks => k_is)
    (case ad_least_form => k_is)
    (case ld_least_form => k_is)
    (case cd_least_form => k_is)
    (case kd_least_form => k_is)
    (case ad_combined => k_is)
    (case ld_combined => k_is)
    (case cd_combined => k_is)
    (case kd_combined => k_is)
    (case ad_law_box => k_is)
    (case ld_law_box => k_is)
    (case cd_law_box => k_is)
    (case kd_law_box => k_is)
    (case ad_law_take => k_is)
    (case ld_law_take => k_is)
    (case cd_law_take => k_is)
    (case kd_law_take => k_is)
    (case ad_law_word => k_is)
    (case ld_law_word => k_is)
    (case cd_law_word => k_is)
    (case kd_law_word => k_is)
    (case ad_law_parts => k_is)
    (case ld_law_parts => k_is)
    (case cd_law_parts => k_is)
    (case kd_law_parts => k_is)
    (case ad_law_marks => k_is)
    (case ld_law_marks => k_is)
    (case cd_law_marks => k_is)
    (case kd_law_marks => k_is)
    (case ad_law_joined => k_is)
    (case ld_law_joined => k_is)
    (case cd_law_joined => k_is)
    (case kd_law_joined => k_is)
    (case ad_law_least => k_is)
    (case ld_law_least => k_is)
    (case cd_law_least => k_is)
    (case kd_law_least => k_is)
    (case ad_law_apart => k_is)
    (case ld_law_apart => k_is)
    (case cd_law_apart => k_is)
    (case kd_law_apart => k_is)
    (case ad_law_is_marks => k_is)
    (case ld_law_is_marks => k_is)
    (case cd_law_is_marks => k_is)
    (case kd_law_is_marks => k_is)
    (case ad_law_bad_part => k_is)
    (case ld_law_bad_part => k_is)
    (case cd_law_bad_part => k_is)
    (case kd_law_bad_part => k_is)
    (case ad_law_bad_text => k_is)
    (case ld_law_bad_text => k_is)
    (case cd_law_bad_text => k_is)
    (case kd_law_bad_text => k_is)
    (case ad_law_refused => k_is)
    (case ld_law_refused => k_is)
    (case cd_law_refused => k_is)
    (case kd_law_refused => k_is)
    (case ad_law_spoilt => k_is)
    (case ld_law_spoilt => k_is)
    (case cd_law_spoilt => k_is)
    (case kd_law_spoilt => k_is)
    (case ad_law_spoilt_text => k_is)
    (case ld_law_spoilt_text => k_is)
    (case cd_law_spoilt_text => k_is)
    (case kd_law_spoilt_text => k_is)
    (case ad_law_words => k_is)
    (case ld_law_words => k_is)
    (case cd_law_words => k_is)
    (case kd_law_words => k_is)
    (case ad_law_menu => k_is)
    (case ld_law_menu => k_is)
    (case cd_law_menu => k_is)
    (case kd_law_menu => k_is)
    (case ad_law_menu_refused => k_is)
    (case ld_law_menu_refused => k_is)
    (case cd_law_menu_refused => k_is)
    (case kd_law_menu_refused => k_is)
    (case ad_law_count_refused => k_is)
    (case ld_law_count_refused => k_is)
    (case cd_law_count_refused => k_is)
    (case kd_law_count_refused => k_is)
    (case ad_law_index_refused => k_is)
    (case ld_law_index_refused => k_is)
    (case cd_law_index_refused => k_is)
    (case kd_law_index_refused => k_is)
    (case ad_law_truth => k_is)
    (case ld_law_truth => k_is)
    (case cd_law_truth => k_is)
    (case kd_law_truth => k_is)
    (case ad_law_is_mask => k_is)
    (case ld_law_is_mask => k_is)
    (case cd_law_is_mask => k_is)
    (case kd_law_is_mask => k_is)
    (case ad_law_combined => k_is)
    (case ld_law_combined => k_is)
    (case cd_law_combined => k_is)
    (case kd_law_combined => k_is)
    (case ad_law_written_again => k_is)
    (case ld_law_written_again => k_is)
    (case cd_law_written_again => k_is)
    (case kd_law_written_again => k_is)
    (case ad_law_menu_holds => k_is)
    (case ld_law_menu_holds => k_is)
    (case cd_law_menu_holds => k_is)
    (case kd_law_menu_holds => k_is)
    (case ad_law_refusals_hold => k_is)
    (case ld_law_refusals_hold => k_is)
    (case cd_law_refusals_hold => k_is)
    (case kd_law_refusals_hold => k_is)
    (case ad_law_menu_bounds_hold => k_is)
    (case ld_law_menu_bounds_hold => k_is)
    (case cd_law_menu_bounds_hold => k_is)
    (case kd_law_menu_bounds_hold => k_is)
    (case ad_law_below_refused => k_is)
    (case ld_law_below_refused => k_is)
    (case cd_law_below_refused => k_is)
    (case kd_law_below_refused => k_is)
    (case ad_law_read_back => k_is)
    (case ld_law_read_back => k_is)
    (case cd_law_read_back => k_is)
    (case kd_law_read_back => k_is)
    (case ad_law_apart_holds => k_is)
    (case ld_law_apart_holds => k_is)
    (case cd_law_apart_holds => k_is)
    (case kd_law_apart_holds => k_is)
    (case ad_law => k_is)
    (case ld_law => k_is)
    (case cd_law => k_is)
    (case kd_law => k_is)
    (case i_hn => k_is)
    (case i_ht => k_is)
    (case nn_Mask_start => k_is)
    (case nn_Mask_loop => k_is)
    (case rS_Mask => k_is)
    (case gS_Mask => k_is)
    (case i_ha => k_is)
    (case i_hm => k_is)
    (case nf_Mask_int => k_is)
    (case nf_Mask_str => k_is)
    (case s_str_Mask => k_is)
    (case sf_Mask => k_is)
    (case im_lcm => k_is)
    (case ss_0 => k_is)
    (case s_0_1 => k_is)
    (case ne_0_1 => first | rfl | decide)
    (case s_0_2 => k_is)
    (case ne_0_2 => first | rfl | decide)
    (case s_0_3 => k_is)
    (case ne_0_3 => first | rfl | decide)
    (case s_1_0 => k_is)
    (case ne_1_0 => first | rfl | decide)
    (case ss_1 => k_is)
    (case s_1_2 => k_is)
    (case ne_1_2 => first | rfl | decide)
    (case s_1_3 => k_is)
    (case ne_1_3 => first | rfl | decide)
    (case s_2_0 => k_is)
    (case ne_2_0 => first | rfl | decide)
    (case s_2_1 => k_is)
    (case ne_2_1 => first | rfl | decide)
    (case ss_2 => k_is)
    (case s_2_3 => k_is)
    (case ne_2_3 => first | rfl | decide)
    (case s_3_0 => k_is)
    (case ne_3_0 => first | rfl | decide)
    (case s_3_1 => k_is)
    (case ne_3_1 => first | rfl | decide)
    (case s_3_2 => k_is)
    (case ne_3_2 => first | rfl | decide)
    (case ss_3 => k_is)
    (case sv_0 => k_is)
    (case sv_1 => k_is)
    (case sv_2 => k_is)
    (case sv_3 => k_is)
    (case sg_0 => k_is)
    (case sg_1 => k_is)
    (case sg_2 => k_is)
    (case sg_3 => k_is)
    (case ne_g_0 => first | rfl | decide)
    (case ne_g_1 => first | rfl | decide)
    (case ne_g_2 => first | rfl | decide)
    (case ne_g_3 => first | rfl | decide)

