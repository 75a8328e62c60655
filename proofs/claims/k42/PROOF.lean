import PyProof.Rows.All
import Wide.All
import OpenK.AllK
import Wide.FinOn
import HandS.ForMost
import HandS.Exc
import HandS.TryOnly
import HandS.ExcOwn
import HandS.WordsExc
import HandS.ExcInit
import HandS.ExcField
import HandS.ExcIs
import HandS.HotCalls
import HandS.IsInst
import HandS.ClsMeth
import HandS.More
import KE.KExcIs
import HandS.StrMore
import HandS.Walk
import HandS.Codes
import KE.GoesEnumKw
import KE.GoesMore
import PyProof.ListStr
import KE.DataEq
import KE.KCallOwn
import HandS.Star
import PyProof.CollectStr
import HandS.Strs
import KE.GoesZip
import HandS.Zip
import HandS.Small
import HandS.DictComp
import PyProof.Rows.StrCountLaw
import KE.KDictZip
import KE.GoesEnum
import HandS.MakeKwOnly
import KE.KRevSl
import HandS.Style
import HandS.Sort
import PyProof.StrBlock2
import HandS.Gcd
import KE.KOpsOwn
import HandS.Conv
import HandS.FStr
import PySem.Challenge.RW_galloon_k42_products_and_calls
set_option Elab.async false
set_option linter.all false
set_option maxRecDepth 100000
section
set_option Elab.async false
set_option maxRecDepth 100000
set_option maxHeartbeats 4000000
namespace Kit
open PySem PySem.Spec PyProof.Rows L2
abbrev St := L2.St

/-! ### defs as they stand in the text, and what they promise -/
structure DefT (K : PySem.W.Frag) (mg : Str → Option Value) (x : Str) (st : Stmt) : Prop where
  ex : ∃ (f : Addr) (fd : FuncData), Fun K x x st f fd ∧ mg x = some (.ref f)
structure MetT (K : PySem.W.Frag) (C : Addr) (m q : Str) (st : Stmt) : Prop where
  ex : ∃ (f : Addr) (fd : FuncData), Fun K m q st f fd ∧ Meth K C m f
structure ClsT (K : PySem.W.Frag) (mg : Str → Option Value) (C : Addr) (x : Str) : Prop where
  cl : Cls K C
  gC : mg x = some (.ref C)
  mak : PySem.W.makesIn K C = true
  kp : PySem.W.keepIn K (.ref C) = true
section
variable (P : Program) (w : World) (K : PySem.W.Frag) (mg : Str → Option Value) (base : Heap)
structure Can (k : Nat) (x : Str) (sp : Sp) : Prop where
  ex : ∃ (f : Addr) (fd : FuncData) (ps : List Str), FnOk P w K mg base (L2.CX P w) k f fd ps sp ∧ mg x = some (.ref f) ∧ PySem.W.keepIn K (.ref f) = true ∧ Binds K fd ps []
structure CanM (k : Nat) (C : Addr) (m : Str) (sp : Sp) : Prop where
  ex : ∃ (f : Addr) (fd : FuncData) (ps : List Str), FnOk P w K mg base (L2.CX P w) k f fd ps sp ∧ Cls K C ∧ Meth K C m f ∧ Binds K fd ps []
structure CanN (k : Nat) (C : Addr) (x : Str) (sp : Sp) : Prop where
  ex : ∃ (f : Addr) (fd : FuncData) (ps : List Str), FnOk P w K mg base (L2.CX P w) k f fd ps sp ∧ Mk K C f ∧ mg x = some (.ref C) ∧ Binds K fd ps []
end
/-- how n plain parameters bind -/
def BindsPlain (st : Stmt) (x q : Str) (ps : List Str) : Prop := ∀ (kV doc pm : Value) (an : Option Addr) (cdv ct : Value) (us : List Value), us.length = ps.length →
  bindArgs (PySem.W.fnOf x q (defArgs st) (defBody st) (defScope st) .none kV doc pm an cdv ct) ⟨us, []⟩ = pure (ps.zip us)
section
variable {P : Program} {w : World} {K : PySem.W.Frag} {mg : Str → Option Value} {base : Heap}
theorem can_of {x : Str} {st : Stmt} {N ps : List Str} {k : Nat} {sp : Sp} (D : DefT K mg x st) (S : FnScope N ps (defScope st)) (hb : BindsPlain st x x ps) (len : ∀ vs H Q E, sp vs H Q E → vs.length = ps.length)
    (body : ∀ (f : Addr) (cdv : Value) (A : Around) (outer : List Env) (s : Shared) (H : Hp) (vs : List V) (Q : VK) (E : XK), Room k (A.deeper (envOfC x (defScope st) s.heap.objs.size f cdv)) → sp vs H Q E →
      ∃ t, PSs (cxOf (L2.CX P w) P w K mg base N x (defScope st) f cdv A outer s H E) (defBody st) t ∧ t { nx := fun _ H' => Q .non H', rt := Q } (start N vs) H) : Can P w K mg base (k + 1) x sp := by
  obtain ⟨f, fd, F, g⟩ := D.ex
  exact ⟨f, fd, ps, F.okX S len (body f), g, F.kp, F.binds hb⟩
theorem canM_of {m q : Str} {C : Addr} {st : Stmt} {N ps : List Str} {k : Nat} {sp : Sp} (c : Cls K C) (D : MetT K C m q st) (S : FnScope N ps (defScope st)) (hb : BindsPlain st m q ps) (len : ∀ vs H Q E, sp vs H Q E → vs.length = ps.length)
    (body : ∀ (f : Addr) (cdv : Value) (A : Around) (outer : List Env) (s : Shared) (H : Hp) (vs : List V) (Q : VK) (E : XK), Room k (A.deeper (envOfC q (defScope st) s.heap.objs.size f cdv)) → sp vs H Q E →
      ∃ t, PSs (cxOf (L2.CX P w) P w K mg base N q (defScope st) f cdv A outer s H E) (defBody st) t ∧ t { nx := fun _ H' => Q .non H', rt := Q } (start N vs) H) : CanM P w K mg base (k + 1) C m sp := by
  obtain ⟨f, fd, F, g⟩ := D.ex
  exact ⟨f, fd, ps, F.okX S len (body f), c, g, F.binds hb⟩
theorem canN_of {x q : Str} {C : Addr} {st : Stmt} {N ps : List Str} {k : Nat} {sp : Sp} (c : ClsT K mg C x) (D : MetT K C "__init__" q st) (S : FnScope N ps (defScope st)) (hb : BindsPlain st "__init__" q ps) (len : ∀ vs H Q E, sp vs H Q E → vs.length = ps.length)
    (body : ∀ (f : Addr) (cdv : Value) (A : Around) (outer : List Env) (s : Shared) (H : Hp) (vs : List V) (Q : VK) (E : XK), Room k (A.deeper (envOfC q (defScope st) s.heap.objs.size f cdv)) → sp vs H Q E →
      ∃ t, PSs (cxOf (L2.CX P w) P w K mg base N q (defScope st) f cdv A outer s H E) (defBody st) t ∧ t { nx := fun _ H' => Q .non H', rt := Q } (start N vs) H) : CanN P w K mg base (k + 1) C x sp := by
  obtain ⟨f, fd, F, g⟩ := D.ex
  exact ⟨f, fd, ps, F.okX S len (body f), ⟨c.mak, g.at_, g.fn, c.kp⟩, c.gC, F.binds hb⟩
end

/-! ### calls: E0 where nothing is raised; a wish at the slots where something may be -/
section
variable {X : Cx} {k j : Nat} {C : Addr} {x m : Str} {sp : Sp} {W : WX} {p pos apos : Pos} {e o : Expr} {es : List Expr} {ta : TE} {t : TA}
theorem pc_f (c : Can X.prog X.w X.K X.mg X.base k x sp) (hr : Room j X.A) (hk : k ≤ j) (hg : Gl X x) (ha : PA X (e :: es) t)
    (hdb : (x == ("__debug__" : Str)) = false := by decide) (he : starEach (e :: es) X.env = (false, eval e X.env) :: starEach es X.env := by rfl) (hpl : (backTo pos (starEach es X.env)).any (·.1) = false := by rfl) :
    PE X (.Call (.Name x p) (e :: es) [] pos) (tCall sp [] E0 t) := by
  obtain ⟨f, fd, ps, F, hm, kp, b⟩ := c.ex
  exact pe_call F (hr.mono hk) hg hm kp b .nil passL ha hdb he hpl
theorem pc_fS (c : Can X.prog X.w X.K X.mg X.base k x sp) (tk : Takes X W) (hr : Room j X.A) (hk : k ≤ j) (hg : Gl X x) (ha : PA X (e :: es) t)
    (hdb : (x == ("__debug__" : Str)) = false := by decide) (he : starEach (e :: es) X.env = (false, eval e X.env) :: starEach es X.env := by rfl) (hpl : (backTo pos (starEach es X.env)).any (·.1) = false := by rfl) :
    PE X (.Call (.Name x p) (e :: es) [] pos) (tCallS sp (WE W) t) := by
  obtain ⟨f, fd, ps, F, hm, kp, b⟩ := c.ex
  exact pe_callS F (hr.mono hk) hg hm kp b (passAt tk) ha hdb he hpl
theorem pc_m {pl : Sem Bool} (c : CanM X.prog X.w X.K X.mg X.base k C m sp) (hr : Room j X.A) (hk : k ≤ j) (he : PE X o ta) (ha : PA X (e :: es) t)
    (hst : starEach (e :: es) X.env = (false, eval e X.env) :: starEach es X.env := by rfl) (hpl : (backTo pos (starEach es X.env)).any (·.1) = false := by rfl)
    (ht : eval (.Call (.Attribute o m apos) (e :: es) [] pos) X.env = (do
      let v ← eval o X.env
      standAt apos.atName
      let (f, first) ← holding [v] (getMethod v m pl)
      callWith pos f first (backTo pos (starEach (e :: es) X.env)) (backToKw pos (keywordEach [] X.env))) := by rfl) :
    PE X (.Call (.Attribute o m apos) (e :: es) [] pos) (tMeth C m sp [] E0 ta t) := by
  obtain ⟨f, fd, ps, F, hc, hm, b⟩ := c.ex
  exact pe_meth (pl := pl) he hc hm F (hr.mono hk) b .nil passL ha hst hpl ht
/-- o.m(e, ..) that may raise, the wish at the slots -/
def tMethS (C : Addr) (m : Str) (sp : Sp) (W : WX) (ta : TE) (t : TA) : TE := fun σ H Q => ta σ H fun y G => ∃ a dx fs, y = .ref a ∧ G a = some (.ins C dx fs) ∧ fs.lookup m = none ∧ t σ G fun vs G' => sp (y :: vs) G' Q (WE W σ)
theorem pc_mS {pl : Sem Bool} (c : CanM X.prog X.w X.K X.mg X.base k C m sp) (tk : Takes X W) (hr : Room j X.A) (hk : k ≤ j) (he : PE X o ta) (ha : PA X (e :: es) t)
    (hst : starEach (e :: es) X.env = (false, eval e X.env) :: starEach es X.env := by rfl) (hpl : (backTo pos (starEach es X.env)).any (·.1) = false := by rfl)
    (ht : eval (.Call (.Attribute o m apos) (e :: es) [] pos) X.env = (do
      let v ← eval o X.env
      standAt apos.atName
      let (f, first) ← holding [v] (getMethod v m pl)
      callWith pos f first (backTo pos (starEach (e :: es) X.env)) (backToKw pos (keywordEach [] X.env))) := by rfl) :
    PE X (.Call (.Attribute o m apos) (e :: es) [] pos) (tMethS C m sp W ta t) := by
  obtain ⟨f, fd, ps, F, hc, hm, b⟩ := c.ex
  constructor
  intro pins s σ H Q I h
  refine PySem.W.methodCall_KW (pl := pl) (thn (he.run pins s σ H _ I h) ?_) ht
  rintro u s1 ⟨y, G, I1, ry, a, dx, fs, rfl, ga, l, q⟩
  cases ry
  refine getmeth_ok I1 ga hc hm l ?_
  refine PySem.W.callWith_K (first := [.ref a]) (h₀ := X.base) I.ok.mod.kin hm.kp (thn (ha.run pos pins s1 σ G _ I1 q) ?_) hst hpl
  rintro us s2 ⟨vs, G', I2, r, q2⟩
  exact ⟨I2.kIn, run_fnS (us := .ref a :: us) (vs := .ref a :: vs) F (hr.mono hk) b (passAt tk σ) I2 (.cons rfl r) q2⟩
theorem pc_n (c : CanN X.prog X.w X.K X.mg X.base k C x sp) (hr : Room j X.A) (hk : k + 1 ≤ j) (hg : Gl X x) (ha : PA X (e :: es) t)
    (hdb : (x == ("__debug__" : Str)) = false := by decide) (he : starEach (e :: es) X.env = (false, eval e X.env) :: starEach es X.env := by rfl) (hpl : (backTo pos (starEach es X.env)).any (·.1) = false := by rfl) :
    PE X (.Call (.Name x p) (e :: es) [] pos) (tMake C sp [] E0 t) := by
  obtain ⟨f, fd, ps, F, M, hm, b⟩ := c.ex
  exact pe_make M F (hr.mono hk) hg hm b .nil passL ha hdb he hpl
def tMakeS (C : Addr) (sp : Sp) (W : WX) (t : TA) : TE := fun σ H Q => t σ H fun vs G => ∀ y dx, G y = none → G dx = none → dx ≠ y →
  sp (.ref y :: vs) (upd (upd G dx (.own y)) y (.ins C dx [])) (fun v G' => v = .non ∧ Q (.ref y) G') (WE W σ)
end
end Kit

end
section
set_option Elab.async false
set_option maxRecDepth 100000
set_option maxHeartbeats 4000000
namespace Kit
open PySem PySem.Spec PyProof.Rows L2

/-! ### a class made, whose __init__ may raise -/
section
variable {X : Cx} {k j : Nat} {C : Addr} {x : Str} {sp : Sp} {W : WX} {p pos : Pos} {e : Expr} {es : List Expr} {t : TA}
end

/-! ### own errors with one field -/
structure ErrT (K : PySem.W.Frag) (mg : Str → Option Value) (C : Addr) (x q fld : Str) (st : Stmt) : Prop where
  gC : mg x = some (.ref C)
  oex : OexC K C
  noF : PySem.W.findIn K (.ref C) fld = some none
  ini : ∃ (f : Addr) (fd : FuncData), Fun K "__init__" q st f fd ∧ PySem.W.findIn K (.ref C) "__init__" = some (some (.ref f)) ∧ PySem.W.typeIn K (.ref f) = some (.type "function")
/-- what isinstance and the reading of a field ask of an error's class -/
structure ErrC (K : PySem.W.Frag) (C : Addr) : Prop where
  xf : XfC K C
  ha : PySem.W.findIn K (.ref C) "__class__" = some (some (.builtin "object.__class__"))
  hn : PySem.W.specialIn K (.builtin "object.__class__") "__get__" = some (some (.builtin "getset_descriptor.__get__"))
  ht : PySem.W.takesIn K (.builtin "object.__class__") = some true
  hm : PySem.W.mroIn K C (.type "object") = some true
  hc : (PySem.W.clsIn K C).isSome = true
def spErr (C : Addr) (fld : Str) : Sp := fun vs H Q _ => ∃ (a : Addr) (y : V), vs = [.ref a, y] ∧ H a = some (exo a C none) ∧ ∀ dx, H dx = none → dx ≠ a → Q .non (upd (upd H dx (exd dx [(fld, y)])) a (exo a C (some dx)))
section
variable (P : Program) (w : World) (K : PySem.W.Frag) (mg : Str → Option Value) (base : Heap)
structure CanE (C : Addr) (x fld : Str) : Prop where
  gC : mg x = some (.ref C)
  oex : OexC K C
  ex : ∃ (f : Addr) (fd : FuncData) (ps : List Str), FnOk P w K mg base (L2.CX P w) 1 f fd ps (spErr C fld) ∧ PySem.W.findIn K (.ref C) "__init__" = some (some (.ref f)) ∧ PySem.W.typeIn K (.ref f) = some (.type "function") ∧ Binds K fd ps []
end
section
variable {P : Program} {w : World} {K : PySem.W.Frag} {mg : Str → Option Value} {base : Heap}
theorem canE_of {C : Addr} {x q fld : Str} {st : Stmt} {N ps : List Str} (D : ErrT K mg C x q fld st) (S : FnScope N ps (defScope st)) (hb : BindsPlain st "__init__" q ps) (hl : ps.length = 2)
    (body : ∀ (f : Addr) (cdv : Value) (A : Around) (outer : List Env) (s : Shared) (H : Hp) (E : XK),
      PSs (cxOf (L2.CX P w) P w K mg base N q (defScope st) f cdv A outer s H E) (defBody st) (tOst K fld (tVar 0) (tVar 1))) (hN : N.length = 2) : CanE P w K mg base C x fld := by
  obtain ⟨f, fd, F, g, ty⟩ := D.ini
  refine ⟨D.gC, D.oex, f, fd, ps, F.okX S (fun vs H Q E h => ?_) (fun cdv A outer s H vs Q E _ h => ?_), g, ty, F.binds hb⟩
  · obtain ⟨a, y, rfl, _⟩ := h
    rw [hl]
    rfl
  · obtain ⟨a, y, rfl, ha, z⟩ := h
    refine ⟨_, body f cdv A outer s H E, ?_⟩
    match N, hN with
    | [n0, n1], _ => exact ⟨y, rfl, .ref a, rfl, a, C, rfl, D.oex, D.noF, .inl ⟨ha, fun dx n ne => z dx n ne⟩⟩
end
section
variable {X : Cx} {C : Addr} {x fld : Str} {W : WX} {p pos pos2 : Pos} {e : Expr} {te : TE} {j : Nat}
/-- raise X(e) -/
theorem pr_err (c : CanE X.prog X.w X.K X.mg X.base C x fld) (tk : Takes X W) (hcalm : X.calm = true) (hr : Room j X.A) (hk : 2 ≤ j) (hg : Gl X x) (ha : PE X e te)
    (he : starEach [e] X.env = (false, eval e X.env) :: starEach [] X.env := by rfl) (hpl : (backTo pos (starEach [] X.env)).any (·.1) = false := by rfl) (hdb : (x == ("__debug__" : Str)) = false := by decide) :
    PS X (.Raise (some (.Call (.Name x p) [e] [] pos)) none pos2) (fun _ σ H => tMkO C (spErr C fld) [] (tCons te tNil) σ H fun cls d H' => W cls d σ H') := by
  obtain ⟨f, fd, ps, F, g, ty, b⟩ := c.ex
  exact L2.ps_raise hcalm tk (pmk_oex c.oex g ty F (hr.mono hk) b .nil passL hg c.gC (pa_cons ha pa_nil (hs := he)) hdb he hpl)
/-- the reading behind the value of e -/
theorem mkE {H : Hp} {y : V} {Q : XK} (h : ∀ d, H d = none → Q (.ref C) (some d) (upd H d (.xd [(fld, y)]))) : [y].length ≤ 1000 ∧ ∀ a, H a = none → spErr C fld (.ref a :: ([y] ++ [])) (upd H a (exo a C none))
    (fun v G => v = .non ∧ ∃ (d : Addr) (fs : List (Str × V)), G a = some (exo a C (some d)) ∧ G d = some (exd d fs) ∧ H d = none ∧ Q (.ref C) (some d) (upd (L2.del G a) d (.xd fs))) (fun _ _ _ => False) := by
  refine ⟨by show 1 ≤ 1000; decide, fun a na => ⟨a, y, rfl, upd_same, fun dx n ne => ⟨rfl, dx, [(fld, y)], upd_same, ?_, ?_, ?_⟩⟩⟩
  · rw [upd_ne ne, upd_same]
  · rw [upd_ne ne] at n
    exact n
  · rw [upd_ne ne] at n
    have z : upd (L2.del (upd (upd (upd H a (exo a C none)) dx (exd dx [(fld, y)])) a (exo a C (some dx))) a) dx (.xd [(fld, y)]) = upd H dx (.xd [(fld, y)]) := by
      funext b
      by_cases hb : b = dx
      · rw [hb, upd_same, upd_same]
      · rw [upd_ne hb, upd_ne hb]
        by_cases hc : b = a
        · rw [hc, L2.del_same, na]
        · rw [L2.del_ne hc, upd_ne hc, upd_ne hb, upd_ne hc]
    rw [z]
    exact h dx n
end

/-! ### a def called in an except suite, the caught error handed to it -/
section
variable {P : Program} {w : World} {K : PySem.W.Frag} {mg : Str → Option Value} {base : Heap}
end
section
variable {X : Cx} {k j : Nat} {x : Str} {sp : SpE} {a : Addr} {oe : Obj} {pn : List (Addr × Obj)} {cls : Value} {d : Option Addr} {p pos : Pos} {e : Expr} {es : List Expr} {t : TA}
end
/-! ### what such a def asks of the error: isinstance, a field -/
/-- the error's own dict, where it has one, is tracked -/
def XdOk (d : Option Addr) (H : Hp) : Prop := ∀ dd, d = some dd → ∃ fs, H dd = some (.xd fs)
section
variable {X : Cx} {a : Addr} {oe : Obj} {cls : Value} {d : Option Addr} {e : Expr} {te : TE} {fld : Str} {pos : Pos}
theorem pin_at (hp : (a, oe) ∈ X.pn) (hz : Zc cls d oe) (hf : ∃ z, oe.data = .fields z) {pins : List (Addr × Obj)} {σ : St} {H : Hp} {s : Shared} (I : Inv X pins σ H s) (hd : XdOk d H) {D : Addr} (hD : cls = .ref D) : ∃ od, PySem.W.InstAt s.heap a oe D od := by
  obtain ⟨hget, _⟩ := I.pin (a, oe) (List.mem_append_left _ hp)
  obtain ⟨vs, hv⟩ := hf
  subst hD
  cases hd0 : d with
  | none => exact ⟨none, hget, hz.1, by unfold PySem.W.notCls; rw [hv] <;> rfl, by rw [hz.2, hd0] <;> trivial⟩
  | some dd =>
    obtain ⟨fs, hfs⟩ := hd dd hd0
    have z : ObjOk X.prog X.w H s.heap dd (.xd fs) := I.hok dd _ hfs
    obtain ⟨mA, ⟨od, es, ep, ho, _⟩, _⟩ := z
    exact ⟨some od, hget, hz.1, by unfold PySem.W.notCls; rw [hv] <;> rfl, by rw [hz.2, hd0]; exact ho⟩
/-- isinstance(e, c), e the pinned error at a -/
def rIsP (K : PySem.W.Frag) (a : Addr) (cls : Value) (d : Option Addr) : List V → Hp → VK → Prop := fun xs H Q => ∃ (D : Addr) (c : V) (cv : Value) (b : Bool), cls = .ref D ∧ ErrC K D ∧ XdOk d H ∧ xs = [.ref a, c] ∧ (∀ u, RelV c u → u = cv) ∧ PySem.W.kitOne K (.ref D) cv = some b ∧ Q (.bl b) H
theorem call_isP (hp : (a, oe) ∈ X.pn) (hz : Zc cls d oe) (hf : ∃ z, oe.data = .fields z) : CallR X (.builtin "isinstance") (rIsP X.K a cls d) := by
  intro pins s σ H xs us Q I r h
  obtain ⟨D, c, cv, b, hD, C, hdd, rfl, hcv, e, q⟩ := h
  cases r with
  | cons rx rr =>
    cases rr with
    | cons rt rr =>
      cases rr
      cases rx
      have ec := hcv _ rt
      subst ec
      obtain ⟨od, J⟩ := pin_at hp hz hf I hdd hD
      exact PySem.W.kia_one (PySem.W.kitx_exc C.hc C.xf.ga C.xf.gg C.xf.exC C.ha C.hn C.ht C.hm) I.kIn J e (fun z => nomatch z) fun tk => ⟨.bl b, H, I.kept (t' := tk) fun _ _ z => z, rfl, q⟩
/-- e.fld, e the pinned error at a -/
def tXP (K : PySem.W.Frag) (a : Addr) (cls : Value) (d : Option Addr) (fld : Str) (te : TE) : TE := fun σ H Q => te σ H fun x G => ∃ (D dd : Addr) (fs : List (Str × V)) (v : V), x = .ref a ∧ cls = .ref D ∧ XfC K D ∧ PySem.W.findIn K (.ref D) fld = some none ∧ d = some dd ∧ G dd = some (.xd fs) ∧ fs.lookup fld = some v ∧ Q v G
theorem pe_xp (hp : (a, oe) ∈ X.pn) (hz : Zc cls d oe) (hf : ∃ z, oe.data = .fields z) (he : PE X e te) (hb : attributeBase e fld X.env (eval e X.env) = eval e X.env := by rfl) : PE X (.Attribute e fld pos) (tXP X.K a cls d fld te) := by
  constructor
  intro pins s σ H Q I h
  refine attr_of hb (thn (he.run pins s σ H _ I h) ?_)
  rintro u s1 ⟨x, G, I1, rx, D, dd, fs, v, rfl, hD, T, hno, ed, ea, l, q⟩
  cases rx
  subst ed
  obtain ⟨hget, _⟩ := I1.pin (a, oe) (List.mem_append_left _ hp)
  obtain ⟨vs, hv⟩ := hf
  have hx : ObjOk X.prog X.w G s1.heap dd (.xd fs) := I1.hok dd _ ea
  obtain ⟨mA, hns, hrel⟩ := hx
  obtain ⟨od, ho, hl⟩ := lookIn_ns hns
  obtain ⟨u, hu, ru⟩ := RelO.some_of (v := v) (o := mA fld) (by rw [← l]; exact hrel fld)
  have J : PySem.W.InstAt s1.heap a oe D (some od) := ⟨hget, hz.1.trans hD, by unfold PySem.W.notCls; rw [hv] <;> rfl, by rw [hz.2]; exact ho⟩
  exact HandSPX.exc_get I1.kIn J T.ga T.gg T.exC (PySem.W.findObj_own T.hdC hno rfl (by rw [hl, hu])) (handed_of ru) ⟨v, G, I1.tok _, ru, q⟩
end
end Kit

end
section
set_option Elab.async false
set_option maxRecDepth 100000
set_option maxHeartbeats 4000000
namespace Kit
open PySem PySem.Spec PyProof.Rows L2

/-! ### texts as lists of codes -/
def S (l : List Nat) : Str := ⟨l.toArray⟩
abbrev tx (l : List Nat) : V := .str (S l)
theorem S_len (l : List Nat) : (S l).length = l.length := by
  show l.toArray.size = l.length
  exact List.size_toArray
theorem S_cps (l : List Nat) : (S l).cps.toList = l := rfl
theorem S_app (l m : List Nat) : S l ++ S m = S (l ++ m) := by
  show (⟨l.toArray ++ m.toArray⟩ : Str) = ⟨(l ++ m).toArray⟩
  rw [List.append_toArray]
theorem S_inj {l m : List Nat} (h : S l = S m) : l = m := by
  have z := congrArg (fun s => s.cps.toList) h
  exact z
theorem cut_S (l : List Nat) (lo hi : Option Int) : cutS (S l) lo hi = S ((l.drop (HT.sIx l.length 0 lo)).take (HT.sIx l.length l.length hi - HT.sIx l.length 0 lo)) := by
  unfold cutS
  rw [S_len]
  rfl
theorem ex_new {H : Hp} {p : Addr} {o : HO} (h : H p = none) : Same H (upd H p o) := fun b u e => by
  rw [upd_ne (ne_of_none e h)]
  exact e
/-- an object that H does not know may change -/
theorem ex_mut {H G : Hp} {p : Addr} {o : HO} (e : Same H G) (h : H p = none) : Same H (upd G p o) := fun b u hb => by
  rw [upd_ne (ne_of_none hb h)]
  exact e b u hb
theorem szl {n : Nat} (h : n ≤ 100000) : n ≤ sizeLine := Nat.le_trans h (by decide)
theorem szlt {n : Nat} (h : n < 100000) : n < sizeLine := Nat.lt_of_lt_of_le h (by decide)
theorem seqL_of {K : PySem.W.Frag} {H : Hp} {a : Addr} {xs : List V} (h : H a = some (.lst xs)) : SqL K H a xs := .inl (.inl h)
theorem seqT_of {K : PySem.W.Frag} {H : Hp} {a : Addr} {xs : List V} (h : H a = some (.tup xs)) : SqT K H a xs := .inl (.inl h)

/-! ### data: what laws compare -/
/-! ### purses -/
end Kit

end
section
set_option Elab.async false
set_option maxRecDepth 100000
set_option maxHeartbeats 4000000
namespace Kit
open PySem PySem.Spec PyProof.Rows L2

/-! ### comprehensions without a test, one name -/
section
variable {J : It} {n : Nat} {G : Hp → Prop} {Y : Nat → Hp → V → Hp → Prop} {te : TE} {σ : St} {H1 : Hp} {D : Addr} {Qd : Hp → Prop}
theorem wipe1 (j : Nat) (x : Option V) : wipe ((wipe σ [j]).set j x) [j] = wipe σ [j] := by
  show ((wipe σ [j]).set j x).set j none = σ.set j none
  rw [List.set_set]
  show (σ.set j none).set j none = σ.set j none
  rw [List.set_set]
theorem set1 (j : Nat) (x : Option V) : (wipe σ [j]).set j x = σ.set j x := by
  show (σ.set j none).set j x = _
  rw [List.set_set]
theorem lc_one (w : Walk J n G Y) {j : Nat} (out : List V) (hn : out.length = n) (hsz : n ≤ 100000) (hD : H1 D = none) (hG : ∀ H, Same H1 H → G H)
    (hs : ∀ i x H H' v, i < n → Same H1 H → Y i H x H' → out[i]? = some v → Same H H' ∧ ∀ Q : VK, (∀ M, Same H' M → Q v M) → te (σ.set j (some x)) H' Q)
    (hd : ∀ H, Same H1 H → H D = some (.lst out) → Qd H) :
    ∃ W : Nat → Nat → Hp → Prop, (∃ m, W 0 m (upd H1 D (.lst []))) ∧ ∀ i m H, W i m H →
      (J.stop i H ∧ Qd H) ∨ (J.go i H ∧ ∃ Nx : Hp → Prop, (∀ H', Nx H' → ∃ m', m' < m ∧ W (i + 1) m' H') ∧ ∀ x H', J.yld i H x H' → gName j x (wipe σ [j]) H' fun σ2 H2 => wipe σ2 [j] = wipe σ [j] ∧ tYes σ2 H2 fun b H3 =>
        if b = true then te σ2 H3 fun y H4 => ∃ acc, H4 D = some (.lst acc) ∧ acc.length < sizeLine ∧ Nx (upd H4 D (.lst (acc ++ [y]))) else Nx H3) := by
  refine lc_it w (fun i H => Same H1 H ∧ H D = some (.lst (out.take i))) ⟨ex_new hD, upd_same⟩ (fun i H _ h => hG H h.1) ?_ ?_
  · rintro i x H H' hi ⟨s1, hHD⟩ y
    have hv : out[i]? = some (out[i]'(by omega)) := List.getElem?_eq_getElem _
    obtain ⟨s2, ht⟩ := hs i x H H' _ hi s1 y hv
    show wipe ((wipe σ [j]).set j (some x)) [j] = _ ∧ _
    refine ⟨wipe1 j _, ?_⟩
    unfold tYes
    dsimp only
    rw [if_pos rfl]
    rw [set1]
    refine ht _ fun M s3 => ⟨out.take i, s3 _ _ (s2 _ _ hHD), by rw [List.length_take]; exact szlt (by omega), ?_⟩
    refine ⟨ex_mut ((s1.trans s2).trans s3) hD, ?_⟩
    rw [upd_same, List.take_add_one, hv]
    rfl
  · rintro H ⟨s1, hHD⟩
    refine hd H s1 ?_
    rw [hHD, List.take_of_length_le (by omega)]
end

/-! ### what a def may let out -/
def Ra (E : XK) (C : Addr) (fld : Str) (y : V) (H : Hp) : Prop := ∀ d M, Same H M → M d = some (.xd [(fld, y)]) → E (.ref C) (some d) M
theorem Ra.mono {E : XK} {C : Addr} {fld : Str} {y : V} {H G : Hp} (h : Ra E C fld y H) (e : Same H G) : Ra E C fld y G := fun d M s => h d M (e.trans s)
theorem Ra.now {E : XK} {C : Addr} {fld : Str} {y : V} {H : Hp} (h : Ra E C fld y H) : [y].length ≤ 1000 ∧ ∀ a, H a = none → spErr C fld (.ref a :: ([y] ++ [])) (upd H a (exo a C none))
    (fun v G => v = .non ∧ ∃ (d : Addr) (fs : List (Str × V)), G a = some (exo a C (some d)) ∧ G d = some (exd d fs) ∧ H d = none ∧ E (.ref C) (some d) (upd (L2.del G a) d (.xd fs))) (fun _ _ _ => False) :=
  mkE fun d hd => h d _ (ex_new hd) upd_same

/-! ### columns of a scheme: plain facts -/
def cols (n : Nat) : List Nat := (List.range n).map (97 + ·)
def inCol (n x : Nat) : Bool := decide (97 ≤ x ∧ x < 97 + n)
def isStrip (n : Nat) (l : List Nat) : Bool := l.all (inCol n)
def Good (r c n : Nat) : Prop := (r, c, n) ∈ [(1, 2, 2), (1, 3, 3), (2, 2, 4), (2, 3, 9), (3, 2, 8)]
instance : Decidable (Good r c n) := by unfold Good; infer_instance
theorem mem_cols {n x : Nat} : x ∈ cols n ↔ inCol n x = true := by
  unfold cols inCol
  rw [List.mem_map, decide_eq_true_iff]
  constructor
  · rintro ⟨k, hk, rfl⟩
    have := List.mem_range.mp hk
    omega
  · intro h
    exact ⟨x - 97, List.mem_range.mpr (by omega), by omega⟩
theorem Good.cases {r c n : Nat} (h : Good r c n) : (r = 1 ∧ c = 2 ∧ n = 2) ∨ (r = 1 ∧ c = 3 ∧ n = 3) ∨ (r = 2 ∧ c = 2 ∧ n = 4) ∨ (r = 2 ∧ c = 3 ∧ n = 9) ∨ (r = 3 ∧ c = 2 ∧ n = 8) := by
  simpa [Good] using h
theorem cols_len (n : Nat) : (cols n).length = n := by simp [cols]
end Kit

end
section
set_option Elab.async false
set_option maxRecDepth 100000
set_option maxHeartbeats 4000000
namespace Kit
open PySem PySem.Spec PyProof.Rows L2
/-! ### rules whose reading names the written part: it is given -/
section
variable {X : Cx} {e e2 : Expr} {es : List Expr} {ta tb : TE} {t : TA} {f : Str} {pos p apos cpos : Pos} {tg : Expr}
theorem kfld (K : PySem.W.Frag) (he : PE X e ta) (hK : X.K = K := by rfl) (hb : attributeBase e f X.env (eval e X.env) = eval e X.env := by rfl) : PE X (.Attribute e f pos) (tFld K ta f) := hK ▸ pe_fld he hb
theorem kcon (K : PySem.W.Frag) (he : PE X e ta) (hK : X.K = K := by rfl) (hb : attributeBase e f X.env (eval e X.env) = eval e X.env := by rfl) : PE X (.Attribute e f pos) (tCon K ta f) := hK ▸ pe_con he hb
theorem kix_list (K : PySem.W.Frag) (hK : X.K = K := by rfl) : IxR X (rIxL K) := hK ▸ ix_list
theorem kix_tup (K : PySem.W.Frag) (hK : X.K = K := by rfl) : IxR X (rIxT K) := hK ▸ ix_tup
theorem kpi_list (K : PySem.W.Frag) (hl : PE X e ta) (hK : X.K = K := by rfl) : PI X tg e (iList K ta) := hK ▸ pi_list hl
theorem kisi (K : PySem.W.Frag) (hK : X.K = K := by rfl) : CallR X (.builtin "isinstance") (rIsi K) := hK ▸ call_isi
theorem klen_seq (K : PySem.W.Frag) (hK : X.K = K := by rfl) : CallR X (.builtin "len") (fun xs H Q => ∃ p ys, xs = [.ref p] ∧ (SqL K H p ys ∨ SqT K H p ys) ∧ Q (.int ys.length) H) := hK ▸ call_len_seq
theorem kall (K : PySem.W.Frag) (hc : X.calm = true) (hK : X.K = K := by rfl) : CallR X (.builtin "all") (rAll K) := hK ▸ cr_all hc
theorem knotin (K : PySem.W.Frag) (hK : X.K = K := by rfl) : OpR X (compareOp .NotIn) (rIn K true) := hK ▸ op_notIn_seq
theorem klist_of (K : PySem.W.Frag) (hK : X.K = K := by rfl) : CallR X (.type "list") (fun xs H Q => ∃ p ys, xs = [.ref p] ∧ (SqL K H p ys ∨ SqT K H p ys) ∧ ∀ l, H l = none → Q (.ref l) (upd H l (.lst ys))) := hK ▸ call_list_of
theorem kjoin (K : PySem.W.Frag) {o : Expr} {to te : TE} (ho : PE X o to) (he : PE X e te) (hK : X.K = K := by rfl) (hs : starEach [e] X.env = [(false, eval e X.env)] := by rfl) (hbase : attributeBase o "join" X.env (eval o X.env) = eval o X.env := by rfl) (hline : (apos.endLine == cpos.line) = true := by rfl) :
    PE X (.Call (.Attribute o "join" apos) [e] [] cpos) (tM1 (fun x xs H Q => ∃ a p, ∃ ys : List Str, x = .str a ∧ xs = [.ref p] ∧ (SqL K H p (ys.map V.str) ∨ SqT K H p (ys.map V.str)) ∧ (ys.map (·.length)).sum + ys.length * a.length ≤ 16777216 ∧ Q (.str (Txt.join a ys)) H) to te) := hK ▸ pe_join ho he hs hbase hline
end
end Kit

end
section
set_option Elab.async false
set_option linter.all false
set_option maxRecDepth 100000
set_option maxHeartbeats 4000000
namespace Kit
open PySem PySem.Spec PyProof.Rows L2
/-! ### an own == : what its def promises, of any other thing whose type does not come first -/
section
variable {X : Cx} {C : Addr} {k j : Nat} {sp : Sp}
/-- what the type of the other thing must be -/
def OtherOk (K : PySem.W.Frag) (C : Addr) (H : Hp) (y : V) : Prop := (∃ i, y = .int i) ∨ (∃ z, y = .str z) ∨ ∃ b dx fs, y = .ref b ∧ H b = some (.ins C dx fs)
def rEqO (K : PySem.W.Frag) (C : Addr) (sp : Sp) : R2 := fun x y H Q => ∃ a dx fs, x = .ref a ∧ H a = some (.ins C dx fs) ∧ OtherOk K C H y ∧ sp [x, y] H (fun v G => ∃ b, v = .bl b ∧ Q (.bl b) G) E0
theorem eqO (K : PySem.W.Frag) (c : CanM X.prog X.w X.K X.mg X.base k C "__eq__" sp) (hr : Room j X.A) (hk : k ≤ j) (hni : PySem.W.notFirst K C (.type "int") = true) (hns : PySem.W.notFirst K C (.type "str") = true) (hK : X.K = K := by rfl) : OpR X (compareOp .Eq) (rEqO K C sp) := by
  subst hK
  obtain ⟨f, fd, ps, F, hc, hm, b⟩ := c.ex
  intro pins s σ H x y v u Q I rx ry hq
  obtain ⟨a, dx, fs, rfl, ha, ho, h⟩ := hq
  cases rx
  show wpAny (model X.prog X.w) X.A (richCompare .Eq (.ref a) u) (EP X pins σ Q) X.xe s
  obtain ⟨mA, J, _⟩ := ins_get I.hok ha
  obtain ⟨od, J, _⟩ := J.look
  obtain ⟨m, hF⟩ := I.fr
  have tb : ∃ tb, PySem.W.Looks (model X.prog X.w) s.heap (typeOf u) tb ∧ PySem.W.notFirst X.K C tb = true := by
    rcases ho with ⟨i, rfl⟩ | ⟨z, rfl⟩ | ⟨b', dy, gs, rfl, hb'⟩
    · obtain ⟨t, rfl⟩ := ry
      exact ⟨.type "int", .now, hni⟩
    · obtain ⟨t, rfl⟩ := ry
      exact ⟨.type "str", .now, hns⟩
    · cases ry
      obtain ⟨mB, J', _⟩ := ins_get I.hok hb'
      obtain ⟨od', J', _⟩ := J'.look
      exact ⟨.ref C, J'.type, by simp [PySem.W.notFirst]⟩
  obtain ⟨tb, htb, hnf⟩ := tb
  refine PySem.W.cmp_K (op := .Eq) (tb := tb) (hr.mono hk).units0 hF I.ok.mod.kin J htb hnf hm.at_ hm.fn ?_
  refine wpAny_mono (run_fn (us := [.ref a, u]) (vs := [.ref a, y]) (dvs := []) (ds := []) F (hr.mono hk) b .nil passL I (.cons rfl (.cons ry .nil)) h) (fun r s' z => ?_) fun _ _ x => x
  obtain ⟨v, H', I', rv, bb, rfl, q⟩ := z
  cases rv
  exact ⟨.bl bb, H', I', rfl, q⟩
/-- len(o) by an own __len__ -/
def rLenO (C : Addr) (sp : Sp) : List V → Hp → VK → Prop := fun xs H Q => ∃ a dx fs, xs = [.ref a] ∧ H a = some (.ins C dx fs) ∧ sp [.ref a] H (fun v G => ∃ n : Int, v = .int n ∧ 0 ≤ n ∧ n < 2 ^ 63 ∧ Q (.int n) G) E0
theorem lenO (c : CanM X.prog X.w X.K X.mg X.base k C "__len__" sp) (hr : Room j X.A) (hk : k + 1 ≤ j) : CallR X (.builtin "len") (rLenO C sp) := by
  obtain ⟨f, fd, ps, F, hc, hm, b⟩ := c.ex
  intro pins s σ H xs us Q I r h
  obtain ⟨a, dx, fs, rfl, ha, h⟩ := h
  rw [Vals.ref1 r]
  obtain ⟨mA, J, _⟩ := ins_get I.hok ha
  obtain ⟨od, J, _⟩ := J.look
  obtain ⟨m, hF⟩ := I.fr
  refine PySem.W.len_K hF I.ok.mod.kin J hm.at_ hm.fn ?_
  have hr1 : Room k X.A.in1 := (hr.mono hk).in1
  have e0 : Env0 X.prog X.w X.K X.mg X.base X.A.in1 X.stack s H := by
    have e := I.env0
    exact ⟨e.frames, e.mod, e.bs, e.bsz, e.funs, e.frf, e.hok, e.bare⟩
  have hl := F.len _ _ _ _ h
  have bb := b s [.ref a] I.kIn (by simpa using hl)
  refine wpAny_call (codeAny_mono (F.run X.A.in1 X.stack s H ⟨[.ref a], []⟩ [.ref a] [.ref a] _ E0 hr1 e0 (by simpa using bb) (.cons rfl .nil) h) ?_)
  intro z s' hq
  cases z with
  | error e =>
    obtain ⟨_, _, _, _, _, _, _, _, _, _, _, _, y⟩ := hq
    exact y.elim
  | ok fl =>
    cases fl with
    | ret w =>
      obtain ⟨v, H', I', rz, n, rfl, h0, h1, q⟩ := I.after hq
      obtain ⟨t, rfl⟩ := rz
      exact ⟨⟨h0, h1⟩, .int n, H', I'.tok _, ⟨_, rfl⟩, q⟩
    | next => exact hq.elim
    | brk => exact hq.elim
    | cont => exact hq.elim
theorem vals_get : ∀ {xs : List V} {us : List Value}, xs.length = us.length → (∀ (i : Nat) x u, xs[i]? = some x → us[i]? = some u → RelV x u) → Vals xs us
  | [], [], _, _ => .nil
  | x :: xs, u :: us, h, f => .cons (f 0 x u rfl rfl) (vals_get (by simpa using h) fun i y v h1 h2 => f (i + 1) y v (by simpa using h1) (by simpa using h2))
/-- list(text) -/
theorem listS (hc : X.calm = true) : CallR X (.type "list") (fun xs H Q => ∃ l : List Nat, xs = [tx l] ∧ l.length ≤ 100000 ∧ ∀ p, H p = none → Q (.ref p) (upd H p (.lst (l.map fun x => tx [x])))) := by
  intro pins s σ H xs us Q I r h
  obtain ⟨l, rfl, hl, q⟩ := h
  cases r with
  | cons rx rr =>
    cases rr
    obtain ⟨t, rfl⟩ := rx
    refine call_list_str (I.ok.hd hc) (S l) t (hn := by show (S l).length ≤ _; rw [S_len]; exact szl hl) ?_
    intro h' tk acc c' hk hS hit
    refine ⟨.ref s.heap.objs.size, _, I.laid (t' := tk) (o := .lst (l.map fun x => tx [x])) hk (Nat.le_refl _) ?_, rfl, q _ (I.hok.fresh (Nat.le_refl _))⟩
    have hn : acc.toList.length = l.length := by
      rw [Array.length_toList, hit.1]
      exact S_len l
    refine ⟨szl (by rw [List.length_map]; exact hl), acc.toList, c', vals_get (by rw [List.length_map, hn]) ?_, hS⟩
    intro i v u hv hu
    obtain ⟨ch, t', h1, rfl⟩ := hit.2 i u (by rw [← Array.getElem?_toList]; exact hu)
    have h1 : l[i]? = some ch := by
      have z : (S l).cps[i]? = l[i]? := List.getElem?_toArray ..
      rw [← z]
      exact h1
    rw [List.getElem?_map, h1] at hv
    cases hv
    exact ⟨t', rfl⟩
end

/-! ### enumerate(xs, start=k) -/
end Kit

end
section
set_option Elab.async false
set_option linter.all false
set_option maxRecDepth 100000
set_option maxHeartbeats 4000000
namespace Kit
open PySem PySem.Spec PyProof.Rows L2
/-! ### == and != of data without dicts, any texts -/
section
variable {X : Cx}
def rEqP (K : PySem.W.Frag) : R2 := fun x y H Q => ∃ d e, Dp K H x d ∧ Dp K H y e ∧ d.plain = true ∧ e.plain = true ∧ d.depth ≤ 64 ∧ Q (.bl (PyData.eqv d e)) H
def rNeP (K : PySem.W.Frag) : R2 := fun x y H Q => ∃ d e, Dp K H x d ∧ Dp K H y e ∧ d.plain = true ∧ e.plain = true ∧ d.depth ≤ 64 ∧ Q (.bl (!PyData.eqv d e)) H
theorem keqP (K : PySem.W.Frag) (hu : X.A.units + 64 < cLine) (hK : X.K = K := by rfl) : OpR X (compareOp .Eq) (rEqP K) := by
  subst hK
  intro pins s σ H x y v u Q I rx ry h
  obtain ⟨d, e, hd, he, sd, se, dd, q⟩ := h
  obtain ⟨as, r1⟩ := Dp.reads I d x v hd rx
  obtain ⟨bs, r2⟩ := Dp.reads I e y u he ry
  exact SeqAt.eq_plain r1 r2 sd se (by omega) ⟨.bl _, H, I, rfl, q⟩
theorem kneP (K : PySem.W.Frag) (hu : X.A.units + 64 < cLine) (hK : X.K = K := by rfl) : OpR X (compareOp .NotEq) (rNeP K) := by
  subst hK
  intro pins s σ H x y v u Q I rx ry h
  obtain ⟨d, e, hd, he, sd, se, dd, q⟩ := h
  obtain ⟨as, r1⟩ := Dp.reads I d x v hd rx
  obtain ⟨bs, r2⟩ := Dp.reads I e y u he ry
  exact SeqAt.ne_plain r1 r2 sd se (by omega) ⟨.bl _, H, I, rfl, q⟩
end
end Kit

end
section
set_option Elab.async false
set_option linter.all false
set_option maxRecDepth 100000
set_option maxHeartbeats 4000000
namespace Kit
open PySem PySem.Spec PyProof.Rows L2
/-! ### own two-place operators, str(o), o(..), classmethods, a class in a name -/
section
variable {X : Cx} {C : Addr} {k j : Nat} {sp : Sp} {m : Str}
def rOpO (C : Addr) (sp : Sp) : R2 := fun x y H Q => ∃ a dx fs b dy gs, x = .ref a ∧ H a = some (.ins C dx fs) ∧ y = .ref b ∧ H b = some (.ins C dy gs) ∧ sp [x, y] H (fun v G => (∃ p, v = .ref p) ∧ Q v G) E0
theorem opO {op : Operator} (c : CanM X.prog X.w X.K X.mg X.base k C m sp) (hr : Room j X.A) (hk : k ≤ j) (hc : PySem.W.selfFirst X.K C = true) (hd : PySem.dunder op.info.2 = m := by decide +kernel) : OpR X (binaryOp op) (rOpO C sp) := by
  obtain ⟨f, fd, ps, F, hcl, hm, b⟩ := c.ex
  subst hd
  intro pins s σ H x y v u Q I rx ry hq
  obtain ⟨a, dx, fs, b', dy, gs, rfl, ha, rfl, hb, h⟩ := hq
  cases rx
  cases ry
  obtain ⟨mA, J, _⟩ := ins_get I.hok ha
  obtain ⟨od, J, _⟩ := J.look
  obtain ⟨mB, J', _⟩ := ins_get I.hok hb
  obtain ⟨od', J', _⟩ := J'.look
  obtain ⟨mm, hF⟩ := I.fr
  refine PySem.W.binop_K hF I.ok.mod.kin J J'.type hc hm.at_ hm.fn ?_
  refine wpAny_mono (run_fn (us := [.ref a, .ref b']) (vs := [.ref a, .ref b']) (dvs := []) (ds := []) F (hr.mono hk) b .nil passL I (.cons rfl (.cons rfl .nil)) h) (fun r s' z => ?_) fun _ _ x => x
  obtain ⟨v, H', I', rv, ⟨p, rfl⟩, q⟩ := z
  cases rv
  exact ⟨.ref p, H', I', rfl, q⟩
/-- .. that may raise, the wish at the slots -/
def tOpS (C : Addr) (sp : Sp) (W : WX) (ta tb : TE) : TE := fun σ H Q => ta σ H fun x H1 => tb σ H1 fun y H2 => ∃ a dx fs b dy gs, x = .ref a ∧ H2 a = some (.ins C dx fs) ∧ y = .ref b ∧ H2 b = some (.ins C dy gs) ∧ sp [x, y] H2 (fun v G => (∃ p, v = .ref p) ∧ Q v G) (WE W σ)
theorem pe_opS {op : Operator} {W : WX} {a b : Expr} {ta tb : TE} {pos : Pos} (c : CanM X.prog X.w X.K X.mg X.base k C m sp) (tk : Takes X W) (hr : Room j X.A) (hk : k ≤ j) (hc : PySem.W.selfFirst X.K C = true) (ha : PE X a ta) (hb : PE X b tb)
    (hd : PySem.dunder op.info.2 = m := by decide +kernel) : PE X (.BinOp a op b pos) (tOpS C sp W ta tb) := by
  obtain ⟨f, fd, ps, F, hcl, hm, b⟩ := c.ex
  subst hd
  refine ⟨fun pins s σ H Q I h => ?_⟩
  refine wpAny_BinOp (binT ha hb I h fun v u s2 x y H2 I2 rx ry q => ?_)
  obtain ⟨a, dx, fs, b', dy, gs, rfl, ha, rfl, hb, h⟩ := q
  cases rx
  cases ry
  obtain ⟨mA, J, _⟩ := ins_get I2.hok ha
  obtain ⟨od, J, _⟩ := J.look
  obtain ⟨mB, J', _⟩ := ins_get I2.hok hb
  obtain ⟨od', J', _⟩ := J'.look
  obtain ⟨mm, hF⟩ := I2.fr
  refine PySem.W.binop_K hF I2.ok.mod.kin J J'.type hc hm.at_ hm.fn ?_
  refine wpAny_mono (run_fnS (us := [.ref a, .ref b']) (vs := [.ref a, .ref b']) F (hr.mono hk) b (passAt tk σ) I2 (.cons rfl (.cons rfl .nil)) h) (fun r s' z => ?_) fun _ _ x => x
  obtain ⟨v, H', I', rv, ⟨p, rfl⟩, q⟩ := z
  cases rv
  exact ⟨.ref p, H', I', rfl, q⟩
end
section
variable (P : Program) (w : World) (K : PySem.W.Frag) (mg : Str → Option Value) (base : Heap)
structure CanF (k : Nat) (C : Addr) (m : Str) (sp : Sp) : Prop where
  ex : ∃ (f : Addr) (fd : FuncData) (ps : List Str), FnOk P w K mg base (L2.CX P w) k f fd ps sp ∧ Cls K C ∧ Meth K C m f ∧ Binds K fd ps [] ∧ PySem.W.fnIn K f = true
structure CanC (k : Nat) (C : Addr) (m : Str) (sp : Sp) : Prop where
  ex : ∃ (mc : Value) (p g : Addr) (fd : FuncData) (ps : List Str), FnOk P w K mg base (L2.CX P w) k g fd ps sp ∧ ClX.CRead K C mc ∧ ClX.CMet K C mc m p g ∧ Binds K fd ps []
end
/-- a classmethod as it stands in the text -/
structure CmT (K : PySem.W.Frag) (C : Addr) (m q : Str) (st : Stmt) : Prop where
  ex : ∃ (mc : Value) (p g : Addr) (fd : FuncData), Fun K m q st g fd ∧ ClX.CRead K C mc ∧ ClX.CMet K C mc m p g
section
variable {P : Program} {w : World} {K : PySem.W.Frag} {mg : Str → Option Value} {base : Heap}
theorem fnIn_of {x q : Str} {st : Stmt} {f : Addr} {fd : FuncData} (F : Fun K x q st f fd) : PySem.W.fnIn K f = true := by
  obtain ⟨oc, od, kV, doc, pm, an, cdv, ct, osl, rfl, lk, hcd⟩ := F.ex
  unfold PySem.W.fnIn
  rw [lk]
theorem canF_of {m q : Str} {C : Addr} {st : Stmt} {N ps : List Str} {k : Nat} {sp : Sp} (c : Cls K C) (D : MetT K C m q st) (S : FnScope N ps (defScope st)) (hb : BindsPlain st m q ps) (len : ∀ vs H Q E, sp vs H Q E → vs.length = ps.length)
    (body : ∀ (f : Addr) (cdv : Value) (A : Around) (outer : List Env) (s : Shared) (H : Hp) (vs : List V) (Q : VK) (E : XK), Room k (A.deeper (envOfC q (defScope st) s.heap.objs.size f cdv)) → sp vs H Q E →
      ∃ t, PSs (cxOf (L2.CX P w) P w K mg base N q (defScope st) f cdv A outer s H E) (defBody st) t ∧ t { nx := fun _ H' => Q .non H', rt := Q } (start N vs) H) : CanF P w K mg base (k + 1) C m sp := by
  obtain ⟨f, fd, F, g⟩ := D.ex
  exact ⟨f, fd, ps, F.okX S len (body f), c, g, F.binds hb, fnIn_of F⟩
theorem canC_of {m q : Str} {C : Addr} {st : Stmt} {N ps : List Str} {k : Nat} {sp : Sp} (D : CmT K C m q st) (S : FnScope N ps (defScope st)) (hb : BindsPlain st m q ps) (len : ∀ vs H Q E, sp vs H Q E → vs.length = ps.length)
    (body : ∀ (f : Addr) (cdv : Value) (A : Around) (outer : List Env) (s : Shared) (H : Hp) (vs : List V) (Q : VK) (E : XK), Room k (A.deeper (envOfC q (defScope st) s.heap.objs.size f cdv)) → sp vs H Q E →
      ∃ t, PSs (cxOf (L2.CX P w) P w K mg base N q (defScope st) f cdv A outer s H E) (defBody st) t ∧ t { nx := fun _ H' => Q .non H', rt := Q } (start N vs) H) : CanC P w K mg base (k + 1) C m sp := by
  obtain ⟨mc, p, g, fd, F, r, c⟩ := D.ex
  exact ⟨mc, p, g, fd, ps, F.okX S len (body g), r, c, F.binds hb⟩
end
section
variable {X : Cx} {k j i : Nat} {C : Addr} {x m : Str} {sp : Sp} {W : WX} {p pos apos : Pos} {e o fe : Expr} {es : List Expr} {ta tf : TE} {t : TA}
theorem codeS {f : Addr} {fd : FuncData} {ps : List Str} {pins : List (Addr × Obj)} {σ : St} {H : Hp} {s : Shared} {Q : VK} {us : List Value} {vs : List V} (F : FnOk X.prog X.w X.K X.mg X.base (L2.CX X.prog X.w) k f fd ps sp) (hr : Room k X.A) (hb : Binds X.K fd ps []) (tk : Takes X W)
    (I : Inv X pins σ H s) (r : Vals vs us) (h : sp vs H Q (WE W σ)) : codeAny (model X.prog X.w) X.A (.call (.ref f) ⟨us, []⟩) (fun r s' => match r with | .ok (.ret v) => EP X pins σ Q v s' | .ok _ => False | .error e => X.xe e s') s := by
  have hl : us.length = ps.length := by rw [← r.length]; exact F.len _ _ _ _ h
  have b := hb s us I.kIn (by rw [List.append_nil]; exact hl)
  rw [List.append_nil] at b
  refine codeAny_mono (F.run X.A X.stack s H ⟨us, []⟩ us vs Q (WE W σ) hr I.env0 b r h) fun r s' hq => ?_
  cases r with
  | error e => exact passAt tk σ pins H s e s' I hq
  | ok fl =>
    cases fl with
    | ret v => exact I.after hq
    | next => exact hq.elim
    | brk => exact hq.elim
    | cont => exact hq.elim
/-- o(e, ..) by an own __call__ -/
def tCallOS (X : Cx) (C : Addr) (sp : Sp) (W : WX) (tf : TE) (t : TA) : TE := fun σ H Q => tf σ H fun y H1 => ∃ a, y = V.ref a ∧ t σ H1 fun vs H2 => (∃ dx fs, H2 a = some (.ins C dx fs)) ∧ sp (V.ref a :: vs) H2 Q (WE W σ)
theorem pc_cS (c : CanF X.prog X.w X.K X.mg X.base k C "__call__" sp) (tk : Takes X W) (hr : Room j X.A) (hk : k ≤ j) (hf : PE X fe tf) (ha : PA X (e :: es) t)
    (ht : eval (.Call fe (e :: es) [] pos) X.env = (do callWith pos (← eval fe X.env) [] (backTo pos (starEach (e :: es) X.env)) (backToKw pos (keywordEach [] X.env))) := by rfl)
    (he : starEach (e :: es) X.env = (false, eval e X.env) :: starEach es X.env := by rfl) (hpl : (backTo pos (starEach es X.env)).any (·.1) = false := by rfl) : PE X (.Call fe (e :: es) [] pos) (tCallOS X C sp W tf t) := by
  obtain ⟨f, fd, ps, F, hcl, hm, b, hfn⟩ := c.ex
  refine ⟨fun pins s σ H Q I h => ?_⟩
  refine Call_ (thn (hf.run pins s σ H _ I h) fun u s1 ⟨y, H1, I1, ry, a, ey, q⟩ => ?_) ht
  subst ey
  obtain rfl : u = Value.ref a := ry
  refine StX.callO_with (thn (ha.run pos pins s1 σ H1 _ I1 q) fun us s2 ⟨vs, H2, I2, r, hi, q2⟩ => ?_) he hpl
  have hi2 : StX.InsC X H2 a C := .inr hi
  obtain ⟨ox, od, J, hd⟩ := StX.insC_at I2 hi2
  exact ⟨⟨C, ox, od, J, hd⟩, wpAny_call (PySem.W.kco_code I2.kIn J hd hm.at_ hm.fn hfn (codeS (us := .ref a :: us) (vs := .ref a :: vs) F (hr.mono hk) b tk I2 (.cons rfl r) q2))⟩
def tCallO0 (X : Cx) (C : Addr) (sp : Sp) (tf : TE) (t : TA) : TE := fun σ H Q => tf σ H fun y H1 => ∃ a, y = V.ref a ∧ t σ H1 fun vs H2 => (∃ dx fs, H2 a = some (.ins C dx fs)) ∧ sp (V.ref a :: vs) H2 Q E0
theorem pc_c (c : CanF X.prog X.w X.K X.mg X.base k C "__call__" sp) (hr : Room j X.A) (hk : k ≤ j) (hf : PE X fe tf) (ha : PA X (e :: es) t)
    (ht : eval (.Call fe (e :: es) [] pos) X.env = (do callWith pos (← eval fe X.env) [] (backTo pos (starEach (e :: es) X.env)) (backToKw pos (keywordEach [] X.env))) := by rfl)
    (he : starEach (e :: es) X.env = (false, eval e X.env) :: starEach es X.env := by rfl) (hpl : (backTo pos (starEach es X.env)).any (·.1) = false := by rfl) : PE X (.Call fe (e :: es) [] pos) (tCallO0 X C sp tf t) := by
  obtain ⟨f, fd, ps, F, hcl, hm, b, hfn⟩ := c.ex
  refine ⟨fun pins s σ H Q I h => ?_⟩
  refine Call_ (thn (hf.run pins s σ H _ I h) fun u s1 ⟨y, H1, I1, ry, a, ey, q⟩ => ?_) ht
  subst ey
  obtain rfl : u = Value.ref a := ry
  refine StX.callO_with (thn (ha.run pos pins s1 σ H1 _ I1 q) fun us s2 ⟨vs, H2, I2, r, hi, q2⟩ => ?_) he hpl
  have hi2 : StX.InsC X H2 a C := .inr hi
  obtain ⟨ox, od, J, hd⟩ := StX.insC_at I2 hi2
  have F' : FnR X.prog X.w X.K X.mg X.base (L2.CX X.prog X.w) k f (fun vs H Q E => sp (vs ++ []) H Q E) := F.raw b .nil
  exact ⟨⟨C, ox, od, J, hd⟩, wpAny_call (PySem.W.kco_code I2.kIn J hd hm.at_ hm.fn hfn (run_fnR (us := .ref a :: us) (vs := .ref a :: vs) F' (hr.mono hk) passL I2 (.cons rfl r) (by rw [List.append_nil]; exact q2)))⟩
/-- C.m(e, ..), m a classmethod -/
def tCmS (C : Addr) (sp : Sp) (W : WX) (ta : TE) (t : TA) : TE := fun σ H Q => ta σ H fun x H1 => x = .ref C ∧ t σ H1 fun vs H2 => sp (.ref C :: vs) H2 Q (WE W σ)
theorem pc_cmS {pl : Sem Bool} (c : CanC X.prog X.w X.K X.mg X.base k C m sp) (tk : Takes X W) (hr : Room j X.A) (hk : k ≤ j) (he : PE X o ta) (ha : PA X (e :: es) t)
    (hst : starEach (e :: es) X.env = (false, eval e X.env) :: starEach es X.env := by rfl) (hpl : (backTo pos (starEach es X.env)).any (·.1) = false := by rfl)
    (ht : eval (.Call (.Attribute o m apos) (e :: es) [] pos) X.env = (do
      let ov ← eval o X.env
      standAt apos.atName
      let (f, first) ← holding [ov] (getMethod ov m pl)
      callWith pos f first (backTo pos (starEach (e :: es) X.env)) (backToKw pos (keywordEach [] X.env))) := by rfl) :
    PE X (.Call (.Attribute o m apos) (e :: es) [] pos) (tCmS C sp W ta t) := by
  obtain ⟨mc, pp, g, fd, ps, F, r, cm, b⟩ := c.ex
  refine ⟨fun pins s σ H Q I h => ?_⟩
  refine PySem.W.methodCall_KW (pl := pl) (thn (he.run pins s σ H _ I h) fun u s1 ⟨x, H1, I1, rx, ex, q⟩ => ?_) ht
  subst ex
  obtain rfl : u = Value.ref C := rx
  refine ClX.getmethcm_ok I1 r cm fun s2 I2 => ?_
  refine ClX.callwith_cm I2 (ClX.base_none I1 (Nat.le_refl _)) cm.fi (thn (ha.run pos _ s2 σ H1 _ I2 q) fun us s3 ⟨vs, H3, I3, r3, q3⟩ => ?_) hst hpl
  refine ⟨⟨ClX.pin_at I3, I3.kIn⟩, ?_⟩
  have z : wpAny (model X.prog X.w) X.A (call (.ref s1.heap.objs.size) us) (EP X ((s1.heap.objs.size, PySem.W.methodObj (.ref g) (.ref C)) :: pins) σ Q) X.xe s3 :=
    wpAny_call (PySem.W.method_call (ClX.pin_at I3) (codeS (us := .ref C :: us) (vs := .ref C :: vs) F (hr.mono hk) b tk I3 (.cons rfl r3) q3))
  exact thn z fun _ _ y => ClX.unpinE y
def tCm0 (C : Addr) (sp : Sp) (ta : TE) (t : TA) : TE := ClX.tCMeth C (fun vs H Q E => sp (vs ++ []) H Q E) E0 ta t
theorem pc_cm {pl : Sem Bool} (c : CanC X.prog X.w X.K X.mg X.base k C m sp) (hr : Room j X.A) (hk : k ≤ j) (he : PE X o ta) (ha : PA X (e :: es) t)
    (hst : starEach (e :: es) X.env = (false, eval e X.env) :: starEach es X.env := by rfl) (hpl : (backTo pos (starEach es X.env)).any (·.1) = false := by rfl)
    (ht : eval (.Call (.Attribute o m apos) (e :: es) [] pos) X.env = (do
      let ov ← eval o X.env
      standAt apos.atName
      let (f, first) ← holding [ov] (getMethod ov m pl)
      callWith pos f first (backTo pos (starEach (e :: es) X.env)) (backToKw pos (keywordEach [] X.env))) := by rfl) :
    PE X (.Call (.Attribute o m apos) (e :: es) [] pos) (tCm0 C sp ta t) := by
  obtain ⟨mc, pp, g, fd, ps, F, r, cm, b⟩ := c.ex
  exact ClX.pe_cmeth (pl := pl) he r cm (F.raw b .nil) (hr.mono hk) passL ha hst hpl ht
/-- cls(e, ..), the class at C in the slot i -/
def tMakeV (i : Nat) (C : Addr) (sp : Sp) (W : WX) (t : TA) : TE := fun σ H Q => σ[i]? = some (some (.ref C)) ∧ tMakeS C sp W t σ H Q
theorem pc_nV {n : Str} (c : CanN X.prog X.w X.K X.mg X.base k C n sp) (tk : Takes X W) (hr : Room j X.A) (hk : k + 1 ≤ j) (hN : X.N[i]? = some x) (hv : Vis X.env.scope x) (ha : PA X (e :: es) t)
    (hdb : (x == ("__debug__" : Str)) = false := by decide) (hcd : (x == ("__classdict__" : Str)) = false := by decide) (he : starEach (e :: es) X.env = (false, eval e X.env) :: starEach es X.env := by rfl) (hpl : (backTo pos (starEach es X.env)).any (·.1) = false := by rfl) :
    PE X (.Call (.Name x p) (e :: es) [] pos) (tMakeV i C sp W t) := by
  obtain ⟨f, fd, ps, F, M, hm, b⟩ := c.ex
  have hr := hr.mono hk
  constructor
  intro pins s σ H Q I h
  obtain ⟨hs, h⟩ := h
  refine wpAny_Call_Name_kw (thn ((pe_var (pos := p) hN hv hdb hcd).run pins s σ H (fun v H1 => v = .ref C ∧ H1 = H) I ⟨.ref C, hs, rfl, rfl⟩) fun u s0 ⟨v, H1, I0, r1, q1⟩ => ?_)
  obtain ⟨rfl, rfl⟩ := q1
  cases r1
  refine PySem.W.callWith_K (h₀ := X.base) I0.ok.mod.kin M.kp (thn (ha.run pos pins s0 σ _ _ I0 h) ?_) he hpl
  rintro us s1 ⟨vs, G, I1, r, q⟩
  refine ⟨I1.kIn, ?_⟩
  have hq := q (s1.heap.objs.size + 1) s1.heap.objs.size (I1.hok.fresh (Nat.le_succ _)) (I1.hok.fresh (Nat.le_refl _)) (Nat.ne_of_lt (Nat.lt_succ_self _))
  have J := Inv.made (C := C) I1
  have r2 : Vals (V.ref (s1.heap.objs.size + 1) :: vs) (Value.ref (s1.heap.objs.size + 1) :: us) := .cons rfl r
  have hl : (Value.ref (s1.heap.objs.size + 1) :: us ++ []).length = ps.length := by
    have z := r2.length
    rw [F.len _ _ _ _ hq] at z
    rw [List.append_nil]
    exact z.symm
  have bb := b _ (Value.ref (s1.heap.objs.size + 1) :: us) J.kIn hl
  rw [List.append_nil] at bb
  refine wpAny_call (make_map (f := f) I1.kIn M.makes M.init (beq_iff_eq.mp M.fn) (codeAny_mono (F.run _ X.stack _ _ ⟨Value.ref (s1.heap.objs.size + 1) :: us, []⟩ (Value.ref (s1.heap.objs.size + 1) :: us) _ _ (WE W σ) (hr.make C us []) (J.env0.make C us []) bb r2 hq) ?_))
  intro r s' z
  cases r with
  | error er => exact passAt tk σ pins _ _ er s' J z
  | ok fl =>
    cases fl with
    | ret u =>
      obtain ⟨v, H', I3, rv, ev, q3⟩ := J.after z
      subst ev
      exact ⟨rv, V.ref (s1.heap.objs.size + 1), H', I3, rfl, q3⟩
    | next => exact z.elim
    | brk => exact z.elim
    | cont => exact z.elim
end
end Kit

end
section
set_option Elab.async false
set_option linter.all false
set_option maxRecDepth 100000
set_option maxHeartbeats 4000000
namespace Kit
open PySem PySem.Spec PyProof.Rows L2
/-! ### sorted(text) -/
section
variable {X : Cx}
end
/-! ### len(set(text)) -/
section
variable {prog : Program} {w : World} {A : Around} {R : Result → Shared → Prop} {I : Addr} {fp wr : List Addr} {G : Array GenState → Array GenState → Prop} {n : Nat} {x : Str} {St : Nat → Shared → Prop}
end
section
variable {prog : Program} {w : World} {A : Around} {E : Value → Shared → Prop} {s : Shared}
end
section
variable {X : Cx}
end
end Kit

end
section
set_option Elab.async false
set_option linter.all false
set_option maxRecDepth 100000
set_option maxHeartbeats 4000000
namespace Kit
open PySem PySem.Spec PyProof.Rows L2
/-! ### zip over lists and texts -/
inductive Sd where
  | L (a : Addr)
  | T (x : Str)
def signs (x : Str) : List V := x.cps.toList.map fun c => .str ⟨#[c]⟩
def Sd.at (H : Hp) : Sd → List V → Prop
  | .L a, xs => H a = some (.lst xs)
  | .T x, xs => xs = signs x
def Sd.st (h : Heap) (it : Addr) (i : Nat) : Sd → Prop
  | .L a => h.IsListIter it a i
  | .T x => ∃ t, h.IsStrIter it (strIterType x) x t i
theorem Sd.live {h : Heap} {it : Addr} {i : Nat} {sd : Sd} (st : sd.st h it i) : ∃ o, h.get? it = some o ∧ ∀ v, o.data ≠ .cell v := by
  cases sd with
  | L a =>
    obtain ⟨o, ho, hc, hd⟩ := st
    exact ⟨o, ho, fun v q => by rw [hd] at q; cases q⟩
  | T x =>
    obtain ⟨t, o, ho, hc, hd⟩ := st
    exact ⟨o, ho, fun v q => by rw [hd] at q; cases q⟩
theorem Sd.keep {h h' : Heap} {it : Addr} {i : Nat} {sd : Sd} (st : sd.st h it i) (k : ∀ o, h.get? it = some o → h'.get? it = some o) : sd.st h' it i := by
  cases sd with
  | L a =>
    obtain ⟨o, ho, r⟩ := st
    exact ⟨o, k _ ho, r⟩
  | T x =>
    obtain ⟨t, o, ho, r⟩ := st
    exact ⟨t, o, k _ ho, r⟩
structure Dr (X : Cx) (H : Hp) (h : Heap) (sd : Sd) (it : Addr) (i : Nat) (xs : List V) : Prop where
  ex : ∃ (fp : List Addr) (P : Nat → Value → Prop) (St : Nat → Heap → Prop), Draws X.prog X.w X.A.in1 it fp xs.length P St ∧ St i h ∧ it ∈ fp ∧ (∀ c ∈ fp, c = it ∨ H c ≠ none) ∧ (∀ j h', St j h' → sd.st h' it j) ∧ (∀ x u, P i u → xs[i]? = some x → RelV x u)
theorem dr_of {X : Cx} {pins : List (Addr × Obj)} {σ : St} {H : Hp} {s : Shared} {sd : Sd} {it : Addr} {i : Nat} {xs : List V} (hc : X.calm = true) (I : Inv X pins σ H s) (hn : H it = none) (hat : sd.at H xs) (st : sd.st s.heap it i) : Dr X H s.heap sd it i xs := by
  cases sd with
  | L a =>
    have hat : H a = some (.lst xs) := hat
    obtain ⟨hzz, its, nn, rv, hl0⟩ := (show ObjOk X.prog X.w H s.heap a (.lst xs) from I.hok a _ hat)
    have hL : s.heap.IsList a its.toArray := ⟨_, hl0, rfl, nn, rfl⟩
    have hne : a ≠ it := fun q => by rw [q, hn] at hat; cases hat
    have hl : its.toArray.size = xs.length := by rw [List.size_toArray, rv.length]
    refine ⟨[it, a], _, _, hl ▸ Draws.list (A := X.A.in1) (show X.A.in1.handled = none from I.ok.hd hc) it a hne its.toArray, ⟨st, hL⟩, by simp, fun c hcm => ?_, fun j h' q => q.1, fun x u hu hx => ?_⟩
    · have e : c = it ∨ c = a := by simpa using hcm
      rcases e with e | e
      · exact .inl e
      · refine .inr ?_
        rw [e, hat]
        simp
    · obtain ⟨u', hu', ru⟩ := rv.get hx
      have z : its[i]? = some u := by simpa using hu
      rw [hu'] at z
      cases z
      exact ru
  | T x =>
    obtain ⟨t, st⟩ := st
    have hat : xs = signs x := hat
    have hl : x.cps.size = xs.length := by rw [hat, signs, List.length_map, Array.length_toList]
    refine ⟨[it], _, _, hl ▸ Draws.text (A := X.A.in1) (show X.A.in1.handled = none from I.ok.hd hc) it x t, st, by simp, fun c hcm => .inl (by simpa using hcm), fun j h' q => ⟨t, q⟩, fun y u hu hx => ?_⟩
    obtain ⟨c, tk, hc', rfl⟩ := hu
    rw [hat, signs, List.getElem?_map, Array.getElem?_toList, hc'] at hx
    cases hx
    exact ⟨tk, rfl⟩
structure Cells (z TI TO i1 i2 : Addr) : Prop where
  a1 : TI ≠ z
  a2 : TO ≠ z
  a3 : TI ≠ TO
  a4 : TI ≠ i1
  a5 : TI ≠ i2
  a6 : TO ≠ i1
  a7 : TO ≠ i2
  a8 : z ≠ i1
  a9 : z ≠ i2
  a10 : i1 ≠ i2
theorem sep_of {H : Hp} {z TI TO i1 i2 : Addr} {f1 f2 : List Addr} (C : Cells z TI TO i1 i2) (hn : ∀ b ∈ [z, TI, TO, i1, i2], H b = none) (m1 : i1 ∈ f1) (m2 : i2 ∈ f2) (h1 : ∀ c ∈ f1, c = i1 ∨ H c ≠ none) (h2 : ∀ c ∈ f2, c = i2 ∨ H c ≠ none) :
    ZipSep2 z TI TO i1 i2 f1 f2 where
  TIz := C.a1
  TOz := C.a2
  TITO := C.a3
  TIi1 := C.a4
  mem1 := m1
  zf1 := fun q => (h1 _ q).elim C.a8 fun k => k (hn _ (by simp))
  Tf1 := fun q => (h1 _ q).elim C.a6 fun k => k (hn _ (by simp))
  TIi2 := C.a5
  mem2 := m2
  zf2 := fun q => (h2 _ q).elim C.a9 fun k => k (hn _ (by simp))
  Tf2 := fun q => (h2 _ q).elim C.a7 fun k => k (hn _ (by simp))
  sep1_2 := fun q => (h2 _ q).elim C.a10 fun k => k (hn _ (by simp))
  sep2_1 := fun q => (h1 _ q).elim (Ne.symm C.a10) fun k => k (hn _ (by simp))
def ItZ (d1 d2 : Sd) : It :=
  ⟨fun i G => ∃ (xs ys : List V) (x y : V), d1.at G xs ∧ d2.at G ys ∧ xs[i]? = some x ∧ ys[i]? = some y,
    fun i G v G' => ∃ T x y, v = .ref T ∧ G T = none ∧ G' = upd G T (.tup [x, y]) ∧ (∀ xs, d1.at G xs → xs[i]? = some x) ∧ ∀ ys, d2.at G ys → ys[i]? = some y,
    fun i G => ∃ xs ys : List V, d1.at G xs ∧ d2.at G ys ∧ i ≤ xs.length ∧ i ≤ ys.length ∧ (i = xs.length ∨ i = ys.length)⟩
theorem Sd.inj {H : Hp} {sd : Sd} {xs ys : List V} (h1 : sd.at H xs) (h2 : sd.at H ys) : xs = ys := by
  cases sd with
  | L a =>
    have h1 : H a = some (.lst xs) := h1
    have h2 : H a = some (.lst ys) := h2
    rw [h1] at h2
    cases h2
    rfl
  | T x => exact Eq.trans h1 (Eq.symm h2)
theorem turn_Z {P : Program} {w : World} {K : PySem.W.Frag} {elts : List Expr} {kk : Nat} {tpos : Pos} (d1 d2 : Sd) {z TI TO i1 i2 : Addr} (C : Cells z TI TO i1 i2) :
    Turn P w K (.Tuple elts kk tpos) (ItZ d1 d2) [z, TI, TO, i1, i2] z (fun i h => IsZip h z TI TO .none ∧ IsTupOf2 h TI (.ref i1) (.ref i2) ∧ (∃ x y, IsTupOf2 h TO x y) ∧ d1.st h i1 i ∧ d2.st h i2 i) where
  mem := by simp
  obj := fun i h st c hc => by
    obtain ⟨hz, hTI, ⟨x, y, hTO⟩, s1, s2⟩ := st
    have e' : c = z ∨ c = TI ∨ c = TO ∨ c = i1 ∨ c = i2 := by simpa using hc
    rcases e' with q | q | q | q | q
    · rw [q]; exact ⟨_, hz, fun v q => nomatch q⟩
    · rw [q]; exact ⟨_, hTI, fun v q => nomatch q⟩
    · rw [q]; exact ⟨_, hTO, fun v q => nomatch q⟩
    · rw [q]; exact Sd.live s1
    · rw [q]; exact Sd.live s2
  keep := fun i h h' st k => by
    obtain ⟨hz, hTI, ⟨x, y, hTO⟩, s1, s2⟩ := st
    exact ⟨k z (by simp) _ hz, k TI (by simp) _ hTI, ⟨x, y, k TO (by simp) _ hTO⟩, Sd.keep s1 fun o q => k i1 (by simp) o q, Sd.keep s2 fun o q => k i2 (by simp) o q⟩
  item := by
    intro X hP hw hK hc i pins s σ H E I hf st hg
    subst hP hw hK
    obtain ⟨hz, hTI, ⟨x0, y0, hTO⟩, s1, s2⟩ := st
    obtain ⟨xs, ys, x, y, hqx, hqy, hx, hy⟩ := hg
    obtain ⟨f1, P1, St1, D1, t1, m1, u1, b1, r1⟩ := (dr_of hc I (hf i1 (by simp)).1 hqx s1).ex
    obtain ⟨f2, P2, St2, D2, t2, m2, u2, b2, r2⟩ := (dr_of hc I (hf i2 (by simp)).1 hqy s2).ex
    have SS := sep_of C (fun b hb => (hf b hb).1) m1 m2 u1 u2
    have hl1 := (List.getElem?_eq_some_iff.mp hx).1
    have hl2 := (List.getElem?_eq_some_iff.mp hy).1
    have hzl : z < s.heap.objs.size := Heap.lt_size hz
    refine wpAny_pyNext_zipD2_item SS D1 D2 hz hTI hTO t1 t2 hl1 hl2 fun v1 v2 h' tk p1 p2 z' TO' t1' t2' hT hsz hk => ?_
    refine ⟨_, rfl, wpAny_letOwnedTupleGo_zip (s := { s with heap := h', toks := tk }) z' fun h'' z'' sb => ?_⟩
    have ru := r1 x v1 p1 hx
    have ru2 := r2 y v2 p2 hy
    have hT2 : h''.get? s.heap.objs.size = some { cls := .type "tuple", data := .seq #[v1, v2] } := (sb.2 _ (Nat.ne_of_gt hzl)).trans hT
    have new : ObjOk X.prog X.w (upd H s.heap.objs.size (.tup [x, y])) h'' s.heap.objs.size (.tup [x, y]) :=
      ⟨by show 2 ≤ sizeLine; decide, [v1, v2], .cons ru (.cons ru2 .nil), ⟨_, hT2, rfl, _, rfl⟩⟩
    have I1 : Inv X pins σ (upd H s.heap.objs.size (.tup [x, y])) { s with heap := h'', toks := tk } :=
      I.turnedNew (ch := [z, TI, TO, i1, i2]) (fun c o hb q => (sb.2 c (fun q' => hb (by simp [q']))).trans (hk c o (fun q' => hb (by simp [q'])) (fun q' => hb (by simp [q'])) (fun q' => hb (by simp [q'])) (fun q' => hb (by simp [q'])) q)) hf (Nat.le_refl _) new
    refine ⟨.ref s.heap.objs.size, _, I1, rfl, ⟨_, x, y, rfl, I.hok.fresh (Nat.le_refl _), rfl, fun l hl => by rw [Sd.inj hl hqx]; exact hx, fun l hl => by rw [Sd.inj hl hqy]; exact hy⟩, ⟨z'', ?_, ⟨v1, v2, ?_⟩, ?_, ?_⟩, fun c hcm => ?_⟩
    · exact (sb.2 _ C.a1).trans (hk _ _ C.a1 C.a3 C.a4 C.a5 hTI)
    · exact (sb.2 _ C.a2).trans TO'
    · exact Sd.keep (b1 _ _ t1') fun o q => (sb.2 _ (Ne.symm C.a8)).trans q
    · exact Sd.keep (b2 _ _ t2') fun o q => (sb.2 _ (Ne.symm C.a9)).trans q
    · have hlt : c < s.heap.objs.size := by
        have e' : c = z ∨ c = TI ∨ c = TO ∨ c = i1 ∨ c = i2 := by simpa using hcm
        rcases e' with q | q | q | q | q
        · rw [q]; exact hzl
        · rw [q]; exact Heap.lt_size hTI
        · rw [q]; exact Heap.lt_size hTO
        · rw [q]; obtain ⟨_, e1, _⟩ := Sd.live s1; exact Heap.lt_size e1
        · rw [q]; obtain ⟨_, e2, _⟩ := Sd.live s2; exact Heap.lt_size e2
      rw [upd_ne (Nat.ne_of_lt hlt)]
      exact (hf c hcm).1
  done := by
    intro X hP hw hK hc i pins s σ H E I hf st hg
    subst hP hw hK
    obtain ⟨hz, hTI, ⟨x0, y0, hTO⟩, s1, s2⟩ := st
    obtain ⟨xs, ys, hqx, hqy, hi1, hi2, hend⟩ := hg
    obtain ⟨f1, P1, St1, D1, t1, m1, u1, b1, r1⟩ := (dr_of hc I (hf i1 (by simp)).1 hqx s1).ex
    obtain ⟨f2, P2, St2, D2, t2, m2, u2, b2, r2⟩ := (dr_of hc I (hf i2 (by simp)).1 hqy s2).ex
    have SS := sep_of C (fun b hb => (hf b hb).1) m1 m2 u1 u2
    exact wpAny_pyNext_zipD2_end SS D1 D2 hz hTI hTO t1 t2 hi1 hi2 hend fun h' tk hk => ⟨rfl, I.turnedL (t' := tk) (ch := [z, TI, TO, i1, i2]) (fun c o hb q =>
      hk c o (fun q' => hb (by simp [q'])) (fun q' => hb (by simp [q'])) (fun q' => hb (by simp [q'])) (fun q' => hb (by simp [q'])) q) hf⟩
  self := fun A i s Q E st h => wpAny_pyIter_zip st.1 h
theorem walk_Z {d1 d2 : Sd} {xs ys : List V} {n : Nat} (hn : n = min xs.length ys.length) : Walk (ItZ d1 d2) n (fun G => d1.at G xs ∧ d2.at G ys) (YPair (fun i => xs[i]?) (fun i => ys[i]?)) := by
  subst hn
  refine ⟨fun i G hi q => ⟨xs, ys, xs[i], ys[i], q.1, q.2, List.getElem?_eq_getElem (by omega), List.getElem?_eq_getElem (by omega)⟩, fun G q => ⟨xs, ys, q.1, q.2, by omega, by omega, by omega⟩, ?_⟩
  rintro i G v G' hi q ⟨T, x, y, rfl, hT, rfl, hx, hy⟩
  exact ⟨T, x, y, rfl, hT, rfl, hx xs q.1, hy ys q.2⟩
def Sd.v : Sd → V
  | .L a => .ref a
  | .T x => .str x
def iZipZ (ta : TA) : TI := fun σ H R => ta σ H fun vs H1 => ∃ d1 d2 xs ys, vs = [Sd.v d1, Sd.v d2] ∧ d1.at H1 xs ∧ d2.at H1 ys ∧ R (ItZ d1 d2) H1
theorem bg_of {X : Cx} {pins : List (Addr × Obj)} {σ : St} {H : Hp} {s : Shared} {sd : Sd} {u : Value} {xs : List V} (I : Inv X pins σ H s) (r : RelV sd.v u) (hat : sd.at H xs) :
    ∃ (o : Obj) (HH : Heap → Prop), Begins u o HH ∧ HH s.heap ∧ ∀ (h' : Heap) (it : Addr), h'.get? it = some o → sd.st h' it 0 := by
  cases sd with
  | L a =>
    cases r
    obtain ⟨hzz, its, nn, rv, hl0⟩ := (show ObjOk X.prog X.w H s.heap a (.lst xs) from I.hok a _ hat)
    have hL : s.heap.IsList a its.toArray := ⟨_, hl0, rfl, nn, rfl⟩
    exact ⟨_, _, begins_list a its.toArray, hL, fun h' it e => ⟨_, e, rfl, rfl⟩⟩
  | T x =>
    obtain ⟨t, rfl⟩ := r
    exact ⟨_, _, begins_text x t, True.intro, fun h' it e => ⟨t, _, e, rfl, rfl⟩⟩
theorem cells_of (n : Nat) : Cells (n + 4) (n + 2) (n + 3) n (n + 1) where
  a1 := fun e : n + 2 = n + 4 => by omega
  a2 := fun e : n + 3 = n + 4 => by omega
  a3 := fun e : n + 2 = n + 3 => by omega
  a4 := fun e : n + 2 = n => by omega
  a5 := fun e : n + 2 = n + 1 => by omega
  a6 := fun e : n + 3 = n => by omega
  a7 := fun e : n + 3 = n + 1 => by omega
  a8 := fun e : n + 4 = n => by omega
  a9 := fun e : n + 4 = n + 1 => by omega
  a10 := fun e : n = n + 1 => by omega
theorem pi_zipZ {X : Cx} {e e2 : Expr} {ta : TA} {p pos tpos : Pos} {elts : List Expr} {kk : Nat} (hg : Gl X "zip") (hm : X.mg "zip" = none) (ha : PA X [e, e2] ta)
    (hs : starEach [e, e2] X.env = (false, eval e X.env) :: starEach [e2] X.env := by rfl) (hpl : (backTo pos (starEach [e2] X.env)).any (·.1) = false := by rfl) :
    PI X (.Tuple elts kk tpos) (.Call (.Name "zip" p) [e, e2] [] pos) (iZipZ ta) := by
  refine ⟨fun pins s σ H R I h => ?_⟩
  refine Call_ (ld_blt I hg hm PyProof.Rows.boot_zip (PyProof.Rows.callWith_type1 (thn (ha.run pos pins s σ H _ I h) fun us s1 ⟨vs, H1, I1, r1, q1⟩ => ?_) hs hpl))
  obtain ⟨d1, d2, xs, ys, ex, hqx, hqy, q⟩ := q1
  subst ex
  cases r1 with
  | cons r rr =>
    cases rr with
    | cons r' rr =>
      cases rr
      obtain ⟨o1, H1', B1, k1, c1⟩ := bg_of I1 r hqx
      obtain ⟨o2, H2', B2, k2, c2⟩ := bg_of I1 r' hqy
      refine zip_begins2 B1 B2 k1 k2 fun h' hz hTI hTO h1 h2 hsz hk => wpAny_pyIter_zip hz ?_
      have I2 : Inv X pins σ H1 { s1 with heap := h' } := I1.kept (t' := s1.toks) hk
      refine ⟨s1.heap.objs.size + 4, [s1.heap.objs.size + 4, s1.heap.objs.size + 2, s1.heap.objs.size + 3, s1.heap.objs.size, s1.heap.objs.size + 1], _, _, H1, rfl, I2, turn_Z d1 d2 (cells_of _), ⟨hz, hTI, ⟨_, _, hTO⟩, c1 _ _ h1, c2 _ _ h2⟩, fun c hcm => ?_, q⟩
      have e' : c = s1.heap.objs.size + 4 ∨ c = s1.heap.objs.size + 2 ∨ c = s1.heap.objs.size + 3 ∨ c = s1.heap.objs.size ∨ c = s1.heap.objs.size + 1 := by simpa using hcm
      have hle : s1.heap.objs.size ≤ c := by
        rcases e' with z | z | z | z | z
        · rw [z]; exact Nat.le_add_right _ _
        · rw [z]; exact Nat.le_add_right _ _
        · rw [z]; exact Nat.le_add_right _ _
        · rw [z]; exact Nat.le_refl _
        · rw [z]; exact Nat.le_add_right _ _
      exact I1.fpOk hle (I1.hok.fresh hle)
end Kit

end
section
set_option Elab.async false
set_option linter.all false
set_option maxRecDepth 100000
set_option maxHeartbeats 4000000
namespace Kit
open PySem PySem.Spec PyProof.Rows L2
/-! ### raise X(), X an own error without __init__ -/
abbrev veB : List Value := [.type "ValueError", .type "Exception", .type "BaseException", .type "object"]
structure ErrZ (K : PySem.W.Frag) (mg : Str → Option Value) (C : Addr) (x : Str) : Prop where
  gC : mg x = some (.ref C)
  ex : PySem.W.excIn K C veB "ValueError.__new__" = true
  kC : PySem.W.keepIn K (.ref C) = true
  sB : PySem.W.subIn K (.ref C) (.type "BaseException") = some true
  tC : PySem.W.typeIn K (.ref C) = some (.type "type")
section
variable {X : Cx} {C : Addr} {x : Str} {W : WX} {p pos pos2 : Pos}
theorem pr_own0 (c : ErrZ X.K X.mg C x) (tk : Takes X W) (hcalm : X.calm = true) (hg : Gl X x) (hdb : (x == ("__debug__" : Str)) = false := by decide) :
    PS X (.Raise (some (.Call (.Name x p) [] [] pos)) none pos2) (fun _ σ H => W (.ref C) none σ H) := by
  refine L2.ps_raise hcalm tk (t := fun σ H Q => Q (.ref C) none H) ?_
  intro pins s σ H Q I h
  refine wpAny_Call_Name_kw (ld_glob I hg c.gC ?_ hdb)
  refine PySem.W.callWith_K0 I.kIn c.kC ?_
  show wpAny _ _ (call (.ref C) []) _ _ _
  obtain ⟨bm, N, nm, qn, bs, hdct, sn, sub, ab, col, dd, k0, k1, k2, k3, k5, mN, hC, hN, hni, T⟩ := exc_obj I.kIn c.ex
  obtain ⟨hp, g, dr, tk', os⟩ := s
  refine wpAny_call_exc_subT PySem.F.excBase_ValueError T hC hN hni (fun h' e hm => ?_) (by show 0 ≤ sizeLine; exact Nat.zero_le _)
  exact mk_of I hm (raises_own c.sB c.tC) h (I.hok.gone hm.new)
end
/-! ### own == with any thing whose type does not come first -/
section
variable {X : Cx} {C : Addr} {k j : Nat} {sp : Sp}
end
end Kit
namespace Kit
open PySem PySem.Spec PyProof.Rows L2
/-! ### own != by an own == -/
section
variable {M : Model} {A : Around} {E : Value → Shared → Prop} {s : Shared} {K : PySem.W.Frag} {x C : Addr} {ox : Obj} {od : Option Obj} {b : Value}
theorem ifNe {Q : Option Value → Shared → Prop} (X : K.In s.heap) (I : PySem.W.InstAt s.heap x ox C od) (hs : PySem.W.findIn K (.ref C) "__ne__" = some (some (.builtin "object.__ne__")))
    (h : wpAny M A (call (.builtin "object.__ne__") [.ref x, b]) (fun v => Q (some v)) E s) : wpAny M A (callSpecialIfBound? (.ref x) "__ne__" [b]) Q E s := by
  have hb : bindSpecial (.builtin "object.__ne__") (.ref x) = pure (.builtin "object.__ne__", [.ref x]) := PySem.F.slot_object_ne.bind (.ref x)
  simp only [callSpecialIfBound?, bindSpecialIfBound?]
  refine wpAny_holding (wpAny_bind (wpAny_bind (wpAny_bind (I.type.here ((PySem.W.looks_findIn X hs).here ?_)))))
  refine wpAny_bind (wpAny_askSetting (wpAny_ite ?_))
  have fin : wpAny M A (call (.builtin "object.__ne__") ([.ref x] ++ [b]) >>= fun v => pure (some v)) Q E s := wpAny_bind (wpAny_mono h (fun v s' h' => wpAny_pure h') fun _ _ h' => h')
  split
  · rw [hb]
    exact wpAny_bind (wpAny_pure (wpAny_pure fin))
  · rw [hb]
    exact wpAny_tryCatch (wpAny_bind (wpAny_pure (wpAny_pure fin)))
theorem objNe {prog : Program} {w : World} {f : Addr} {Q : Value → Shared → Prop} (hu : A.in1.units < cLine) (X : K.In s.heap) (I : PySem.W.InstAt s.heap x ox C od) (hm : PySem.W.mroIn K C (.type "object") = some true)
    (he : PySem.W.findIn K (.ref C) "__eq__" = some (some (.ref f))) (hf : PySem.W.isFn K (.ref f) = true) (h : wpAny (model prog w) A.in1 (call (.ref f) [.ref x, b]) (fun v s' => ∃ c, v = .bool c ∧ Q (.bool (!c)) s') E s) :
    wpAny (model prog w) A (call (.builtin "object.__ne__") [.ref x, b]) Q E s := by
  refine wpAny_call (codeAny_call_builtin PySem.F.slot_object_ne.plain PySem.F.cmpEntry_ne (PySem.W.check_slot PySem.F.cmpKind_ne PySem.F.cmpSplit_ne (I.type.andThen (PySem.W.looks_mroIn X hm)) (PySem.F.cmpArgs_ne _ _) ?_))
  unfold Builtin.«object.__ne__»
  refine wpAny_bind (wpAny_pure ?_)
  refine wpAny_bind (wpAny_cRoomFor hu ?_)
  refine wpAny_bind (PySem.W.ifBound_K X I he hf (wpAny_mono h (fun v s' hv => ?_) fun _ _ e => e))
  obtain ⟨c, rfl, q⟩ := hv
  refine wpAny_bind (m := truthy (.bool c)) (wpAny_truthy_bool ?_)
  exact wpAny_pure q
end
section
variable {X : Cx} {C : Addr} {k j : Nat} {sp : Sp}
/-- what a class has that takes != from its == -/
structure NeT (K : PySem.W.Frag) (C : Addr) : Prop where
  ne : PySem.W.findIn K (.ref C) "__ne__" = some (some (.builtin "object.__ne__"))
  hm : PySem.W.mroIn K C (.type "object") = some true
def rNeO (C : Addr) (sp : Sp) : R2 := fun x y H Q => ∃ a dx fs b dy gs, x = .ref a ∧ H a = some (.ins C dx fs) ∧ y = .ref b ∧ H b = some (.ins C dy gs) ∧ sp [x, y] H (fun v G => ∃ c, v = .bl c ∧ Q (.bl (!c)) G) E0
theorem neO (K : PySem.W.Frag) (c : CanM X.prog X.w X.K X.mg X.base k C "__eq__" sp) (hr : Room j X.A) (hk : k + 1 ≤ j) (N : NeT K C) (hK : X.K = K := by rfl) : OpR X (compareOp .NotEq) (rNeO C sp) := by
  subst hK
  obtain ⟨f, fd, ps, F, hc, hm, b⟩ := c.ex
  intro pins s σ H x y v u Q I rx ry hq
  obtain ⟨a, dx, fs, b', dy, gs, rfl, ha, rfl, hb', h⟩ := hq
  cases rx
  cases ry
  show wpAny (model X.prog X.w) X.A (richCompare .NotEq (.ref a) (.ref b')) (EP X pins σ Q) X.xe s
  obtain ⟨mA, J, _⟩ := ins_get I.hok ha
  obtain ⟨od, J, _⟩ := J.look
  obtain ⟨mB, J', _⟩ := ins_get I.hok hb'
  obtain ⟨od', J', _⟩ := J'.look
  have hr1 : Room k X.A.in1 := (hr.mono hk).in1
  have e0 : Env0 X.prog X.w X.K X.mg X.base X.A.in1 X.stack s H := by
    have e := I.env0
    exact ⟨e.frames, e.mod, e.bs, e.bsz, e.funs, e.frf, e.hok, e.bare⟩
  have hl := F.len _ _ _ _ h
  have bb := b s [.ref a, .ref b'] I.kIn (by simpa using hl)
  unfold richCompare
  simp only [oneThing_ref]
  refine wpAny_holding (wpAny_bind (wpAny_cRoomFor (hr.mono hk).units0 ?_))
  refine wpAny_bind (J.type.here (wpAny_bind (J'.type.here ?_)))
  rw [show (Value.ref C != Value.ref C) = false from by simp]
  simp only [Bool.false_eq_true, if_false]
  refine wpAny_bind (wpAny_pure ?_)
  simp only [Bool.false_eq_true, if_false]
  have one : wpAny (model X.prog X.w) X.A (tryCompare (.ref a) "__ne__" (.ref b')) (fun r s' => ∃ v, r = some v ∧ EP X pins σ Q v s') X.xe s := by
    unfold tryCompare
    refine wpAny_bind (ifNe I.kIn J N.ne (objNe hr1.units0 I.kIn J N.hm hm.at_ hm.fn (wpAny_call (codeAny_mono (F.run X.A.in1 X.stack s H ⟨[.ref a, .ref b'], []⟩ [.ref a, .ref b'] [.ref a, .ref b'] _ E0 hr1 e0 (by simpa using bb) (.cons rfl (.cons rfl .nil)) h) ?_))))
    intro z s' hq
    cases z with
    | error e =>
      obtain ⟨_, _, _, _, _, _, _, _, _, _, _, _, y⟩ := hq
      exact y.elim
    | ok fl =>
      cases fl with
      | ret w =>
        obtain ⟨v, H', I', rz, c, rfl, q⟩ := I.after hq
        cases rz
        exact ⟨c, rfl, wpAny_pure ⟨_, rfl, .bl (!c), H', I', rfl, q⟩⟩
      | next => exact hq.elim
      | brk => exact hq.elim
      | cont => exact hq.elim
  refine wpAny_bind (wpAny_mono one (fun r s' z => ?_) fun _ _ e => e)
  obtain ⟨v, rfl, hq⟩ := z
  exact wpAny_pure hq
end
end Kit
namespace Kit
open PySem PySem.Spec PyProof.Rows L2
theorem units1 {k : Nat} {A : Around} (r : Room k A) : A.units + 1 < cLine := by
  have := r.un
  omega
end Kit

end
section
set_option Elab.async false
set_option linter.all false
set_option maxRecDepth 100000
set_option maxHeartbeats 4000000
namespace Kit
open PySem PySem.Spec PyProof.Rows L2
/-! ### comprehensions over pairs; dict comprehensions -/
section
variable {J : It} {n : Nat} {G : Hp → Prop} {Y : Nat → Hp → V → Hp → Prop} {te tk tv : TE} {σ : St} {H1 : Hp} {D : Addr} {Qd : Hp → Prop} {K : PySem.W.Frag} {xs ys : Nat → Option V}
/-- the dict's reading, as lc_it -/
theorem dc_it (w : Walk J n G Y) {g : TG} {tt : TT} {vs : List Nat} (Pv : Nat → Hp → Prop) (h0 : Pv 0 (upd H1 D (.dK []))) (hG : ∀ i H, i ≤ n → Pv i H → G H)
    (hs : ∀ i x H H', i < n → Pv i H → Y i H x H' → g x (wipe σ vs) H' fun σ2 H2 => wipe σ2 vs = wipe σ vs ∧ tt σ2 H2 fun b H3 =>
      if b = true then tk σ2 H3 fun y H4 => tv σ2 H4 fun z H5 => ∃ kvs k, y = kV k ∧ H5 D = some (.dK kvs) ∧ kvs.length < sizeLine ∧ Pv (i + 1) (upd H5 D (.dK (putK kvs k z))) else Pv (i + 1) H3) (hd : ∀ H, Pv n H → Qd H) :
    ∃ W : Nat → Nat → Hp → Prop, (∃ m, W 0 m (upd H1 D (.dK []))) ∧ ∀ i m H, W i m H →
      (J.stop i H ∧ Qd H) ∨ (J.go i H ∧ ∃ Nx : Hp → Prop, (∀ H', Nx H' → ∃ m', m' < m ∧ W (i + 1) m' H') ∧ ∀ x H', J.yld i H x H' → g x (wipe σ vs) H' fun σ2 H2 => wipe σ2 vs = wipe σ vs ∧ tt σ2 H2 fun b H3 =>
        if b = true then tk σ2 H3 fun y H4 => tv σ2 H4 fun z H5 => ∃ kvs k, y = kV k ∧ H5 D = some (.dK kvs) ∧ kvs.length < sizeLine ∧ Nx (upd H5 D (.dK (putK kvs k z))) else Nx H3) := by
  refine ⟨fun i m H => m = n - i ∧ i ≤ n ∧ Pv i H, ⟨n, by simp, Nat.zero_le _, h0⟩, ?_⟩
  rintro i m H ⟨rfl, hi, p⟩
  have q := hG i H hi p
  by_cases hlt : i < n
  · refine .inr ⟨w.goes i H hlt q, Pv (i + 1), fun H' p' => ⟨n - (i + 1), by omega, rfl, hlt, p'⟩, fun x H' y => hs i x H H' hlt p (w.yields i H x H' hlt q y)⟩
  · have e : i = n := by omega
    subst e
    exact .inl ⟨w.stops H q, hd H p⟩
theorem put_take {ks : List Key} {out : List V} (hle : ks.length ≤ out.length) (hnd : ks.Nodup) {i : Nat} {k : Key} {v : V} (hk : ks[i]? = some k) (hv : out[i]? = some v) : putK ((ks.zip out).take i) k v = (ks.zip out).take (i + 1) := by
  have hz : (ks.zip out)[i]? = some (k, v) := by
    rw [List.getElem?_zip_eq_some]
    exact ⟨hk, hv⟩
  rw [putK_new, List.take_add_one, hz]
  · rfl
  · cases e : valV ((ks.zip out).take i) k with
    | none => rfl
    | some u =>
      exfalso
      have h1 := valV_in e
      rw [List.map_take, List.map_fst_zip hle] at h1
      obtain ⟨j, hj⟩ := List.mem_iff_getElem?.mp h1
      rw [List.getElem?_take] at hj
      split at hj
      · rename_i hlt
        have hlt2 : j < i := by omega
        have hjl := (List.getElem?_eq_some_iff.mp hj).1
        have := (List.getElem?_inj hjl hnd).mp (hj.trans hk.symm)
        omega
      · cases hj
theorem dc_two (w : Walk J n G (YPair xs ys)) {i j : Nat} (ks : List Key) (out : List V) (hk : ks.length = n) (hn : out.length = n) (hnd : ks.Nodup) (hsz : n ≤ 100000) (hD : H1 D = none) (hG : ∀ H, Same H1 H → G H) (hw : ∀ x y, wipe (((wipe σ [i, j]).set i (some x)).set j (some y)) [i, j] = wipe σ [i, j])
    (hs : ∀ l x y H k v, l < n → Same H1 H → xs l = some x → ys l = some y → ks[l]? = some k → out[l]? = some v → ∀ Q : V → V → Hp → Prop, (∀ M, Same H M → Q (kV k) v M) → tk (((wipe σ [i, j]).set i (some x)).set j (some y)) H fun y' H4 => tv (((wipe σ [i, j]).set i (some x)).set j (some y)) H4 fun z H5 => Q y' z H5)
    (hd : ∀ H, Same H1 H → H D = some (.dK (ks.zip out)) → Qd H) :
    ∃ W : Nat → Nat → Hp → Prop, (∃ m, W 0 m (upd H1 D (.dK []))) ∧ ∀ l m H, W l m H →
      (J.stop l H ∧ Qd H) ∨ (J.go l H ∧ ∃ Nx : Hp → Prop, (∀ H', Nx H' → ∃ m', m' < m ∧ W (l + 1) m' H') ∧ ∀ x H', J.yld l H x H' → gTup K 2 (gCons (gName i) (gCons (gName j) gNil)) x (wipe σ [i, j]) H' fun σ2 H2 => wipe σ2 [i, j] = wipe σ [i, j] ∧ tYes σ2 H2 fun b H3 =>
        if b = true then tk σ2 H3 fun y H4 => tv σ2 H4 fun z H5 => ∃ kvs k, y = kV k ∧ H5 D = some (.dK kvs) ∧ kvs.length < sizeLine ∧ Nx (upd H5 D (.dK (putK kvs k z))) else Nx H3) := by
  refine dc_it w (fun i H => Same H1 H ∧ H D = some (.dK ((ks.zip out).take i))) ⟨ex_new hD, upd_same⟩ (fun i H _ h => hG H h.1) ?_ ?_
  · rintro l v H H' hi ⟨s1, hHD⟩ ⟨T, x, y, rfl, hT, rfl, hx, hy⟩
    have hv : out[l]? = some (out[l]'(by omega)) := List.getElem?_eq_getElem _
    have hkk : ks[l]? = some (ks[l]'(by omega)) := List.getElem?_eq_getElem _
    have s2 := s1.trans (ex_new (o := .tup [x, y]) hT)
    refine ⟨T, [x, y], rfl, seqT_of upd_same, rfl, x, [y], rfl, y, [], rfl, rfl, hw x y, ?_⟩
    unfold tYes
    dsimp only
    rw [if_pos rfl]
    refine hs l x y _ _ _ hi s2 hx hy hkk hv _ fun M s3 => ⟨(ks.zip out).take l, _, rfl, s3 _ _ (ex_new hT _ _ hHD), by rw [List.length_take]; exact szlt (by omega), ?_⟩
    refine ⟨ex_mut (s2.trans s3) hD, ?_⟩
    rw [upd_same, put_take (by omega) hnd hkk hv]
  · rintro H ⟨s1, hHD⟩
    refine hd H s1 ?_
    rw [hHD, List.take_of_length_le (by rw [List.length_zip]; omega)]
theorem zip_get {ks : List Key} {out : List V} (hle : ks.length ≤ out.length) (hnd : ks.Nodup) {i : Nat} {k : Key} {v : V} (hk : ks[i]? = some k) (hv : out[i]? = some v) : valV (ks.zip out) k = some v := by
  have hz : (ks.zip out)[i]? = some (k, v) := by
    rw [List.getElem?_zip_eq_some]
    exact ⟨hk, hv⟩
  have hm : (k, v) ∈ ks.zip out := List.mem_of_getElem? hz
  have hn : ((ks.zip out).map (·.1)).Nodup := by
    rw [List.map_fst_zip hle]
    exact hnd
  exact val_nodup hn _ hm
end
/-! ### an error without fields -/
def RaZ (E : XK) (C : Addr) (H : Hp) : Prop := ∀ M, Same H M → E (.ref C) none M
end Kit
namespace Kit
open PySem PySem.Spec PyProof.Rows L2
/-! ### the caught error in its own suite -/
section
variable {X : Cx} {a : Addr} {oe : Obj} {pn : List (Addr × Obj)} {cls : Value} {d : Option Addr} {e : Expr} {te : TE} {fld : Str} {pos : Pos}
theorem call_isU (hz : Zc cls d oe) (hf : ∃ z, oe.data = .fields z) : CallR (X.suite a ((a, oe) :: pn)) (.builtin "isinstance") (rIsP X.K a cls d) := call_isP (X := X.suite a ((a, oe) :: pn)) (List.mem_cons_self ..) hz hf
theorem pe_xu (hz : Zc cls d oe) (hf : ∃ z, oe.data = .fields z) (he : PE (X.suite a ((a, oe) :: pn)) e te) (hb : attributeBase e fld (X.suite a ((a, oe) :: pn)).env (eval e (X.suite a ((a, oe) :: pn)).env) = eval e (X.suite a ((a, oe) :: pn)).env := by rfl) : PE (X.suite a ((a, oe) :: pn)) (.Attribute e fld pos) (tXP X.K a cls d fld te) := pe_xp (List.mem_cons_self ..) hz hf he hb
end
end Kit
namespace Kit
open PySem PySem.Spec PyProof.Rows L2
section
variable {X : Cx} {k j : Nat} {C : Addr} {m : Str} {sp : Sp} {pos apos : Pos} {o : Expr} {ta : TE}
theorem pc_m0 {pl : Sem Bool} (c : CanM X.prog X.w X.K X.mg X.base k C m sp) (hr : Room j X.A) (hk : k ≤ j) (he : PE X o ta)
    (ht : eval (.Call (.Attribute o m apos) [] [] pos) X.env = (do
      let v ← eval o X.env
      standAt apos.atName
      let (f, first) ← holding [v] (getMethod v m pl)
      callWith pos f first (backTo pos (starEach [] X.env)) (backToKw pos (keywordEach [] X.env))) := by rfl) :
    PE X (.Call (.Attribute o m apos) [] [] pos) (tMeth C m sp [] E0 ta tNil) := by
  obtain ⟨f, fd, ps, F, hc, hm, b⟩ := c.ex
  exact pe_meth0 (pl := pl) he hc hm F (hr.mono hk) b .nil passL ht
end
end Kit

end
section
set_option Elab.async false
set_option linter.all false
set_option maxRecDepth 100000
set_option maxHeartbeats 4000000
namespace Kit
open PySem PySem.Spec PyProof.Rows L2
/-! ### [.. for .. for ..]: the two walks -/
section
variable {J J1 : It} {n n1 : Nat} {G G1 : Hp → Prop} {Y Y1 : Nat → Hp → V → Hp → Prop} {g1 : TG} {tt1 : TT} {te : TE} {vs1 : List Nat} {σ2 : St} {H4 : Hp} {D : Addr}
/-- the inner walk -/
theorem lc_in (w : Walk J1 n1 G1 Y1) (Pw : Nat → Hp → Prop) {Nx : Hp → Prop} (h0 : Pw 0 H4) (hG : ∀ i H, i ≤ n1 → Pw i H → G1 H)
    (hs : ∀ i x H H', i < n1 → Pw i H → Y1 i H x H' → g1 x (wipe σ2 vs1) H' fun σ3 H5 => wipe σ3 vs1 = wipe σ2 vs1 ∧ tt1 σ3 H5 fun b H6 =>
      if b = true then te σ3 H6 fun y H7 => ∃ acc, H7 D = some (.lst acc) ∧ acc.length < sizeLine ∧ Pw (i + 1) (upd H7 D (.lst (acc ++ [y]))) else Pw (i + 1) H6) (hd : ∀ H, Pw n1 H → Nx H) :
    ∃ W1 : Nat → Nat → Hp → Prop, (∃ m, W1 0 m H4) ∧ ∀ j k H, W1 j k H →
      (J1.stop j H ∧ Nx H) ∨ (J1.go j H ∧ ∃ Nx1 : Hp → Prop, (∀ H', Nx1 H' → ∃ k', k' < k ∧ W1 (j + 1) k' H') ∧ ∀ x H', J1.yld j H x H' → g1 x (wipe σ2 vs1) H' fun σ3 H5 => wipe σ3 vs1 = wipe σ2 vs1 ∧ tt1 σ3 H5 fun b H6 =>
        if b = true then te σ3 H6 fun y H7 => ∃ acc, H7 D = some (.lst acc) ∧ acc.length < sizeLine ∧ Nx1 (upd H7 D (.lst (acc ++ [y]))) else Nx1 H6) := by
  refine ⟨fun i m H => m = n1 - i ∧ i ≤ n1 ∧ Pw i H, ⟨n1, by simp, Nat.zero_le _, h0⟩, ?_⟩
  rintro i m H ⟨rfl, hi, p⟩
  have q := hG i H hi p
  by_cases hlt : i < n1
  · refine .inr ⟨w.goes i H hlt q, Pw (i + 1), fun H' p' => ⟨n1 - (i + 1), by omega, rfl, hlt, p'⟩, fun x H' y => hs i x H H' hlt p (w.yields i H x H' hlt q y)⟩
  · have e : i = n1 := by omega
    subst e
    exact .inl ⟨w.stops H q, hd H p⟩
/-- the outer one: A asks of an item what its own loop does, up to what comes next -/
theorem lc_out {H1 : Hp} {Qd : Hp → Prop} (w : Walk J n G Y) (A : V → Hp → (Hp → Prop) → Prop) (Pv : Nat → Hp → Prop) (h0 : Pv 0 (upd H1 D (.lst []))) (hG : ∀ i H, i ≤ n → Pv i H → G H)
    (hs : ∀ i x H H', i < n → Pv i H → Y i H x H' → A x H' (Pv (i + 1))) (hd : ∀ H, Pv n H → Qd H) :
    ∃ W : Nat → Nat → Hp → Prop, (∃ m, W 0 m (upd H1 D (.lst []))) ∧ ∀ i m H, W i m H →
      (J.stop i H ∧ Qd H) ∨ (J.go i H ∧ ∃ Nx : Hp → Prop, (∀ H', Nx H' → ∃ m', m' < m ∧ W (i + 1) m' H') ∧ ∀ x H', J.yld i H x H' → A x H' Nx) := by
  refine ⟨fun i m H => m = n - i ∧ i ≤ n ∧ Pv i H, ⟨n, by simp, Nat.zero_le _, h0⟩, ?_⟩
  rintro i m H ⟨rfl, hi, p⟩
  have q := hG i H hi p
  by_cases hlt : i < n
  · refine .inr ⟨w.goes i H hlt q, Pv (i + 1), fun H' p' => ⟨n - (i + 1), by omega, rfl, hlt, p'⟩, fun x H' y => hs i x H H' hlt p (w.yields i H x H' hlt q y)⟩
  · have e : i = n := by omega
    subst e
    exact .inl ⟨w.stops H q, hd H p⟩
end
theorem yesT {σ : St} {H : Hp} {A : Bool → Hp → Prop} (h : A true H) : tYes σ H A := h
end Kit

end
section
set_option Elab.async false
set_option linter.all false
set_option maxRecDepth 100000
set_option maxHeartbeats 4000000
namespace Kit
open PySem PySem.Spec PyProof.Rows L2
theorem itP {c : Prop} [Decidable c] {A B : Prop} (h : c) (x : A) : if c then A else B := by
  rw [if_pos h]
  exact x
/-! ### texts cut at one sign -/
end Kit

end
section
set_option Elab.async false
set_option linter.all false
set_option maxRecDepth 100000
set_option maxHeartbeats 4000000
namespace Kit
open PySem PySem.Spec PyProof.Rows L2
section
variable {X : Cx} {k j : Nat} {C : Addr} {m : Str} {sp : Sp} {o : Expr} {pos apos : Pos} {ta : TE}
end
end Kit

end
section
set_option Elab.async false
set_option linter.all false
set_option maxRecDepth 100000
set_option maxHeartbeats 4000000
namespace Kit
open PySem PySem.Spec PyProof.Rows L2
/-! ### enumerate(zip(..)): the zip's own tuple may be out, alive or not -/
abbrev IsZ (h : Heap) (z TI TO : Addr) (v : Value) (f : Bool) : Prop := h.get? z = some { cls := .type "zip", dict := none, data := .fields #[v, .bool f, .bool false, .ref TI, .ref TO], slots := #[] }
def OutV (v : Value) : Prop := v = .none ∨ ∃ T : Addr, v = rawInt T
section
variable {prog : Program} {w : World} {A : Around} {E : Value → Shared → Prop} {s : Shared} {z TI TO i1 i2 : Addr} {fp1 fp2 : List Addr} {n1 n2 i : Nat} {P1 P2 : Nat → Value → Prop} {St1 St2 : Nat → Heap → Prop} {v : Value} {f : Bool}
theorem alive_any {a : Addr} {Q : Option Obj → Shared → Prop} (h : Q (s.heap.get? a) s) : wpAny (model prog w) A (loadIfAlive a) Q E s := fun _ _ _ => h
theorem free_zip {Q : Bool → Shared → Prop} (hz : IsZ s.heap z TI TO v f) (hv : OutV v) (h : ∀ b h' f', IsZ h' z TI TO v f' → Heap.SameBut z s.heap h' → Q b { s with heap := h' }) :
    wpAny (model prog w) A (Builtin.SmallTypes.ownedTupleIsFree (.ref z)) Q E s := by
  unfold Builtin.SmallTypes.ownedTupleIsFree
  refine wpAny_bind (wpAny_field hz rfl (x := v) rfl ?_)
  rcases hv with rfl | ⟨T, rfl⟩
  · exact wpAny_pure (h true s.heap f hz (Heap.SameBut.refl _ _))
  · refine wpAny_bind (show wpAny _ _ (loadIfAlive ((T : Int).toNat)) _ _ _ from alive_any ?_)
    generalize s.heap.get? (T : Int).toNat = o?
    cases o? with
    | none => exact wpAny_pure (h true s.heap f hz (Heap.SameBut.refl _ _))
    | some o =>
      simp only [Option.isNone_some, Bool.false_eq_true, if_false]
      refine wpAny_bind (wpAny_field hz rfl (x := .bool f) rfl ?_)
      cases f with
      | true =>
        rw [if_neg (show ¬ ((Value.bool true != Value.bool true) = true) from Bool.false_ne_true)]
        exact wpAny_pure (h false s.heap true hz (Heap.SameBut.refl _ _))
      | false =>
        rw [if_pos (show (Value.bool false != Value.bool true) = true from rfl)]
        exact wpAny_bind (wpAny_setField_rec hz (by simp) fun h₁ hz₁ hs₁ => wpAny_pure (h false h₁ true hz₁ hs₁))
/-- the record after one of its writes -/
theorem set0 {Q : Unit → Shared → Prop} {v2 : Value} (hz : IsZ s.heap z TI TO v f) (h : ∀ h', IsZ h' z TI TO v2 f → Heap.SameBut z s.heap h' → Q () { s with heap := h' }) : wpAny (model prog w) A (setField (.ref z) 0 v2) Q E s :=
  wpAny_setField_rec hz (by simp) fun h' hz' hs' => h h' hz' hs'
theorem zipZ_item {Q : Value → Shared → Prop} (S : ZipSep2 z TI TO i1 i2 fp1 fp2) (D1 : Draws prog w A i1 fp1 n1 P1 St1) (D2 : Draws prog w A i2 fp2 n2 P2 St2)
    (hz : IsZ s.heap z TI TO v f) (hv : OutV v) (hTI : IsTupOf2 s.heap TI (.ref i1) (.ref i2)) (hTO : ∃ a1 a2, IsTupOf2 s.heap TO a1 a2) (st1 : St1 i s.heap) (st2 : St2 i s.heap) (l1 : i < n1) (l2 : i < n2)
    (hQ : ∀ x1 x2 h' tk, P1 i x1 → P2 i x2 → (∃ v' f', IsZ h' z TI TO v' f' ∧ OutV v') → (∃ a1 a2, IsTupOf2 h' TO a1 a2) → St1 (i + 1) h' → St2 (i + 1) h' → IsTupOf2 h' s.heap.objs.size x1 x2 → h'.objs.size = s.heap.objs.size + 1 →
      (∀ c o, c ≠ z → c ≠ TO → c ≠ i1 → c ≠ i2 → s.heap.get? c = some o → h'.get? c = some o) → Q (.ref s.heap.objs.size) { s with heap := h', toks := tk }) :
    wpAny (model prog w) A (Builtin.«zip.__next__» ⟨[.ref z], []⟩) (fun fin s' => ∃ v, fin = .done (.ret v) ∧ Q v s') E s := by
  obtain ⟨hp, g, d, tk0, os⟩ := s
  obtain ⟨a1, a2, hTO⟩ := hTO
  show wpAny _ _ (field (.ref z) 2 >>= _) _ _ _
  refine wpAny_bind (wpAny_field hz rfl (x := .bool false) rfl ?_)
  show wpAny _ _ (field (.ref z) 3 >>= _) _ _ _
  refine wpAny_bind (wpAny_field hz rfl (x := .ref TI) rfl (wpAny_bind (wpAny_seqItems hTI rfl ?_)))
  show wpAny _ _ (Builtin.SmallTypes.ownedTupleIsFree (.ref z) >>= _) _ _ _
  refine wpAny_bind (free_zip hz hv fun b g0 f0 hz0 hs0 => ?_)
  replace hs0 : Heap.SameBut z hp g0 := hs0
  cases b with
  | true =>
    simp only [if_true]
    refine wpAny_bind (wpAny_rule (wpAny_bind (wpAny_field hz0 rfl (x := .ref TO) rfl (wpAny_bind (set0 hz0 fun g1 hz1 hs1 => ?_)))))
    replace hs1 : Heap.SameBut z g0 g1 := hs1
    have k01 : ∀ c o, c ≠ z → hp.get? c = some o → g1.get? c = some o := fun c o n e => hs1.extBut _ _ n (hs0.extBut _ _ n e)
    refine wpAny_bind ?_
    simp only [List.zipIdx_cons, List.zipIdx_nil, List.forIn_cons, List.forIn_nil]
    refine wpAny_bind (wpAny_bind (wpAny_onRaise ?_))
    show wpAny _ _ (Builtin.SmallTypes.nextOf (.ref i1) >>= _) _ _ ⟨g1, g, d, tk0, os⟩
    refine wpAny_bind (D1.item i _ _ _ l1 (D1.over (D1.over st1 hs0 S.zf1) hs1 S.zf1) fun x1 p1 tk1 hx1 sn1 hp1 => wpAny_pure ?_)
    replace hp1 : Heap.SameBut i1 g1 p1 := hp1
    have hU1 : IsTupOf2 p1 TO a1 a2 := hp1.extBut _ _ S.Ti1 (k01 _ _ S.TOz hTO)
    refine wpAny_bind (wpAny_seqItems (s := ⟨p1, g, d, tk1, os⟩) hU1 rfl (wpAny_bind (updateSeq_IsTupOf2 (s := ⟨p1, g, d, tk1, os⟩) hU1 fun q1 hT1 hs2 => ?_)))
    replace hT1 : IsTupOf2 q1 TO x1 a2 := hT1
    replace hs2 : Heap.SameBut TO p1 q1 := hs2
    refine wpAny_bind (wpAny_letGo (wpAny_pure (wpAny_bind (wpAny_bind (wpAny_onRaise ?_)))))
    show wpAny _ _ (Builtin.SmallTypes.nextOf (.ref i2) >>= _) _ _ ⟨q1, g, d, tk1, os⟩
    refine wpAny_bind (D2.item i _ _ _ l2 (D2.over (D2.over (D2.over (D2.over st2 hs0 S.zf2) hs1 S.zf2) hp1 S.sep1_2) hs2 S.Tf2) fun x2 p2 tk2 hx2 sn2 hp2 => wpAny_pure ?_)
    replace hp2 : Heap.SameBut i2 q1 p2 := hp2
    have hU2 : IsTupOf2 p2 TO x1 a2 := hp2.extBut _ _ S.Ti2 hT1
    refine wpAny_bind (wpAny_seqItems (s := ⟨p2, g, d, tk2, os⟩) hU2 rfl (wpAny_bind (updateSeq_IsTupOf2 (s := ⟨p2, g, d, tk2, os⟩) hU2 fun q2 hT2 hs3 => ?_)))
    replace hT2 : IsTupOf2 q2 TO x1 x2 := hT2
    replace hs3 : Heap.SameBut TO p2 q2 := hs3
    refine wpAny_bind (wpAny_letGo (wpAny_pure (wpAny_pure ?_)))
    refine wpAny_bind (wpAny_seqItems (s := ⟨q2, g, d, tk2, os⟩) hT2 rfl (wpAny_bind (wpAny_newTuple ?_)))
    have hsz : q2.objs.size = hp.objs.size := by rw [hs3.1, hp2.1, hs2.1, hp1.1, hs1.1, hs0.1]
    have hzz : IsZ q2 z TI TO .ellipsis f0 := hs3.extBut _ _ S.TOz.symm (hp2.extBut _ _ S.zi2 (hs2.extBut _ _ S.TOz.symm (hp1.extBut _ _ S.zi1 hz1)))
    have hkk : ∀ c o, c ≠ z → c ≠ TO → c ≠ i1 → c ≠ i2 → hp.get? c = some o → q2.get? c = some o := fun c o cz cT c1 c2 e =>
      hs3.extBut _ _ cT (hp2.extBut _ _ c2 (hs2.extBut _ _ cT (hp1.extBut _ _ c1 (k01 _ _ cz e))))
    have hj1 : St1 (i + 1) q2 := D1.over (D1.over (D1.over sn1 hs2 S.Tf1) hp2 S.sep2_1) hs3 S.Tf1
    have hj2 : St2 (i + 1) q2 := D2.over sn2 hs3 S.Tf2
    have hzlt : z < q2.objs.size := Heap.lt_size hzz
    show wpAny _ _ (Builtin.SmallTypes.ownedTupleHandOut (.ref z) (.ref q2.objs.size) >>= _) _ _ ⟨q2.push { cls := .type "tuple", data := .seq #[x1, x2] }, g, d, tk2, os⟩
    refine wpAny_bind ?_
    unfold Builtin.SmallTypes.ownedTupleHandOut
    refine wpAny_bind (set0 (f := f0) (Heap.get?_push_of_some _ hzz) fun h₇ hz₇ hs₇ => ?_)
    replace hz₇ : IsZ h₇ z TI TO (rawInt q2.objs.size) f0 := hz₇
    refine wpAny_setField_rec hz₇ (by simp) fun h₈ hz₈ hs₈ => ?_
    replace hz₈ : IsZ h₈ z TI TO (rawInt q2.objs.size) false := hz₈
    replace hs₇ : Heap.SameBut z (q2.push { cls := .type "tuple", data := .seq #[x1, x2] }) h₇ := hs₇
    replace hs₈ : Heap.SameBut z h₇ h₈ := hs₈
    have up : ∀ c o, c ≠ z → q2.get? c = some o → h₈.get? c = some o := fun c o c1 e => hs₈.extBut _ _ c1 (hs₇.extBut _ _ c1 (Heap.get?_push_of_some _ e))
    have hT₈ : IsTupOf2 h₈ q2.objs.size x1 x2 := hs₈.extBut _ _ (Nat.ne_of_gt hzlt) (hs₇.extBut _ _ (Nat.ne_of_gt hzlt) (Heap.get?_push_size _ rfl))
    have hz8 : h₈.objs.size = q2.objs.size + 1 := by rw [hs₈.1, hs₇.1, Heap.size_push]
    rw [hsz] at hz₈ hT₈ hz8
    refine wpAny_pure ⟨_, rfl, ?_⟩
    show Q (.ref q2.objs.size) ⟨h₈, g, d, tk2, os⟩
    rw [hsz]
    exact hQ x1 x2 h₈ tk2 hx1 hx2 ⟨_, _, hz₈, .inr ⟨_, rfl⟩⟩ ⟨_, _, up _ _ S.TOz hT2⟩ (D1.frame _ _ _ hj1 fun b hb o e => up b o (fun q => S.zf1 (q ▸ hb)) e) (D2.frame _ _ _ hj2 fun b hb o e => up b o (fun q => S.zf2 (q ▸ hb)) e) hT₈ hz8
      fun c o cz cT c1 c2 e => up c o cz (hkk c o cz cT c1 c2 e)
  | false =>
    simp only [Bool.false_eq_true, if_false]
    refine wpAny_bind ?_
    rw [← Array.forIn_toList]
    simp only [List.forIn_cons, List.forIn_nil]
    refine wpAny_bind (wpAny_bind (wpAny_holding ?_))
    show wpAny _ _ (Builtin.SmallTypes.nextOf (.ref i1) >>= _) _ _ ⟨g0, g, d, tk0, os⟩
    refine wpAny_bind (D1.item i _ _ _ l1 (D1.over st1 hs0 S.zf1) fun x1 p1 tk1 hx1 sn1 hp1 => wpAny_pure (wpAny_pure ?_))
    replace hp1 : Heap.SameBut i1 g0 p1 := hp1
    refine wpAny_bind (wpAny_bind (wpAny_holding ?_))
    show wpAny _ _ (Builtin.SmallTypes.nextOf (.ref i2) >>= _) _ _ ⟨p1, g, d, tk1, os⟩
    refine wpAny_bind (D2.item i _ _ _ l2 (D2.over (D2.over st2 hs0 S.zf2) hp1 S.sep1_2) fun x2 p2 tk2 hx2 sn2 hp2 => wpAny_pure (wpAny_pure (wpAny_pure ?_)))
    replace hp2 : Heap.SameBut i2 p1 p2 := hp2
    show wpAny _ _ (newTuple [x1, x2] >>= _) _ _ ⟨p2, g, d, tk2, os⟩
    refine wpAny_bind (wpAny_newTuple ?_)
    have hsz : p2.objs.size = hp.objs.size := by rw [hp2.1, hp1.1, hs0.1]
    have hk : ∀ c o, c ≠ z → c ≠ i1 → c ≠ i2 → hp.get? c = some o → p2.get? c = some o := fun c o c1 c2 c3 e => hp2.extBut _ _ c3 (hp1.extBut _ _ c2 (hs0.extBut _ _ c1 e))
    have hz3 : IsZ p2 z TI TO v f0 := hp2.extBut _ _ S.zi2 (hp1.extBut _ _ S.zi1 hz0)
    have hp3 : IsTupOf2 (p2.push { cls := .type "tuple", data := .seq #[x1, x2] }) p2.objs.size x1 x2 := Heap.get?_push_size _ rfl
    have hz4 : (p2.push { cls := .type "tuple", data := .seq #[x1, x2] }).objs.size = p2.objs.size + 1 := Heap.size_push ..
    refine wpAny_pure ⟨_, rfl, ?_⟩
    show Q (.ref p2.objs.size) _
    rw [hsz] at hp3 hz4 ⊢
    exact hQ x1 x2 _ tk2 hx1 hx2 ⟨_, _, Heap.get?_push_of_some _ hz3, hv⟩ ⟨_, _, Heap.get?_push_of_some _ (hk _ _ S.TOz S.Ti1 S.Ti2 hTO)⟩ (D1.frame _ _ _ (D1.over sn1 hp2 S.sep2_1) fun b hb o e => Heap.get?_push_of_some _ e) (D2.frame _ _ _ sn2 fun b hb o e => Heap.get?_push_of_some _ e) hp3 hz4
      fun c o cz cT c1 c2 e => Heap.get?_push_of_some _ (hk c o cz c1 c2 e)
theorem zipZ_end {Q : Fin → Shared → Prop} (S : ZipSep2 z TI TO i1 i2 fp1 fp2) (D1 : Draws prog w A i1 fp1 n1 P1 St1) (D2 : Draws prog w A i2 fp2 n2 P2 St2)
    (hz : IsZ s.heap z TI TO v f) (hv : OutV v) (hTI : IsTupOf2 s.heap TI (.ref i1) (.ref i2)) (hTO : ∃ a1 a2, IsTupOf2 s.heap TO a1 a2) (st1 : St1 i s.heap) (st2 : St2 i s.heap) (l1 : i ≤ n1) (l2 : i ≤ n2) (hend : i = n1 ∨ i = n2)
    (hE : ∀ h' tk e, (∀ c o, c ≠ z → c ≠ TO → c ≠ i1 → c ≠ i2 → s.heap.get? c = some o → h'.get? c = some o) → (∃ o, h'.get? e = some o ∧ o.cls = .type "StopIteration") → E (.ref e) { s with heap := h', toks := tk }) :
    wpAny (model prog w) A (Builtin.«zip.__next__» ⟨[.ref z], []⟩) Q E s := by
  obtain ⟨hp, g, d, tk0, os⟩ := s
  obtain ⟨a1, a2, hTO⟩ := hTO
  show wpAny _ _ (field (.ref z) 2 >>= _) _ _ _
  refine wpAny_bind (wpAny_field hz rfl (x := .bool false) rfl ?_)
  show wpAny _ _ (field (.ref z) 3 >>= _) _ _ _
  refine wpAny_bind (wpAny_field hz rfl (x := .ref TI) rfl (wpAny_bind (wpAny_seqItems hTI rfl ?_)))
  show wpAny _ _ (Builtin.SmallTypes.ownedTupleIsFree (.ref z) >>= _) _ _ _
  refine wpAny_bind (free_zip hz hv fun b g0 f0 hz0 hs0 => ?_)
  replace hs0 : Heap.SameBut z hp g0 := hs0
  cases b with
  | true =>
    simp only [if_true]
    refine wpAny_bind (wpAny_rule (wpAny_bind (wpAny_field hz0 rfl (x := .ref TO) rfl (wpAny_bind (set0 hz0 fun g1 hz1 hs1 => ?_)))))
    replace hs1 : Heap.SameBut z g0 g1 := hs1
    replace hz1 : IsZ g1 z TI TO .ellipsis f0 := hz1
    have k01 : ∀ c o, c ≠ z → hp.get? c = some o → g1.get? c = some o := fun c o n e => hs1.extBut _ _ n (hs0.extBut _ _ n e)
    have fin : ∀ (q : Heap) (tk : Tok) (e : Addr), IsZ q z TI TO .ellipsis f0 → (∀ c o, c ≠ z → c ≠ TO → c ≠ i1 → c ≠ i2 → hp.get? c = some o → q.get? c = some o) → (∃ o, q.get? e = some o ∧ o.cls = .type "StopIteration") →
        wpAny (model prog w) A (setField (.ref z) 0 .none) (fun _ s' => E (.ref e) s') E ⟨q, g, d, tk, os⟩ := fun q tk e hzq hk he => by
      obtain ⟨oe, hoe, hce⟩ := he
      have hez : e ≠ z := fun x => by subst x; rw [hzq] at hoe; cases hoe; simp at hce
      refine set0 (s := ⟨q, g, d, tk, os⟩) hzq fun q' _ hq' => ?_
      replace hq' : Heap.SameBut z q q' := hq'
      exact hE q' tk e (fun c o cz cT c1 c2 x => hq'.extBut _ _ cz (hk c o cz cT c1 c2 x)) ⟨oe, hq'.extBut _ _ hez hoe, hce⟩
    refine wpAny_bind ?_
    simp only [List.zipIdx_cons, List.zipIdx_nil, List.forIn_cons, List.forIn_nil]
    refine wpAny_bind (wpAny_bind (wpAny_onRaise ?_))
    show wpAny _ _ (Builtin.SmallTypes.nextOf (.ref i1) >>= _) _ _ ⟨g1, g, d, tk0, os⟩
    by_cases hlt1 : i < n1
    · refine wpAny_bind (D1.item i _ _ _ hlt1 (D1.over (D1.over st1 hs0 S.zf1) hs1 S.zf1) fun x1 p1 tk1 hx1 sn1 hp1 => wpAny_pure ?_)
      replace hp1 : Heap.SameBut i1 g1 p1 := hp1
      have hU1 : IsTupOf2 p1 TO a1 a2 := hp1.extBut _ _ S.Ti1 (k01 _ _ S.TOz hTO)
      refine wpAny_bind (wpAny_seqItems (s := ⟨p1, g, d, tk1, os⟩) hU1 rfl (wpAny_bind (updateSeq_IsTupOf2 (s := ⟨p1, g, d, tk1, os⟩) hU1 fun q1 hT1 hs2 => ?_)))
      replace hs2 : Heap.SameBut TO p1 q1 := hs2
      refine wpAny_bind (wpAny_letGo (wpAny_pure (wpAny_bind (wpAny_bind (wpAny_onRaise ?_)))))
      show wpAny _ _ (Builtin.SmallTypes.nextOf (.ref i2) >>= _) _ _ ⟨q1, g, d, tk1, os⟩
      have hi2 : i = n2 := by omega
      refine wpAny_bind (D2.done ⟨q1, g, d, tk1, os⟩ _ _ (by rw [← hi2]; exact D2.over (D2.over (D2.over (D2.over st2 hs0 S.zf2) hs1 S.zf2) hp1 S.sep1_2) hs2 S.Tf2) fun q e hq he => ?_)
      replace hq : Heap.ExtBut i2 q1 q := hq
      exact fin q tk1 e (hq _ _ S.zi2 (hs2.extBut _ _ S.TOz.symm (hp1.extBut _ _ S.zi1 hz1))) (fun c o cz cT c1 c2 x => hq _ _ c2 (hs2.extBut _ _ cT (hp1.extBut _ _ c1 (k01 _ _ cz x)))) he
    · have hi1 : i = n1 := by omega
      refine wpAny_bind (D1.done ⟨g1, g, d, tk0, os⟩ _ _ (by rw [← hi1]; exact D1.over (D1.over st1 hs0 S.zf1) hs1 S.zf1) fun q e hq he => ?_)
      replace hq : Heap.ExtBut i1 g1 q := hq
      exact fin q tk0 e (hq _ _ S.zi1 hz1) (fun c o cz cT c1 c2 x => hq _ _ c1 (k01 _ _ cz x)) he
  | false =>
    simp only [Bool.false_eq_true, if_false]
    refine wpAny_bind ?_
    rw [← Array.forIn_toList]
    simp only [List.forIn_cons, List.forIn_nil]
    refine wpAny_bind (wpAny_bind (wpAny_holding ?_))
    show wpAny _ _ (Builtin.SmallTypes.nextOf (.ref i1) >>= _) _ _ ⟨g0, g, d, tk0, os⟩
    by_cases hlt1 : i < n1
    · refine wpAny_bind (D1.item i _ _ _ hlt1 (D1.over st1 hs0 S.zf1) fun x1 p1 tk1 hx1 sn1 hp1 => wpAny_pure (wpAny_pure ?_))
      replace hp1 : Heap.SameBut i1 g0 p1 := hp1
      refine wpAny_bind (wpAny_bind (wpAny_holding ?_))
      show wpAny _ _ (Builtin.SmallTypes.nextOf (.ref i2) >>= _) _ _ ⟨p1, g, d, tk1, os⟩
      have hi2 : i = n2 := by omega
      refine wpAny_bind (D2.done ⟨p1, g, d, tk1, os⟩ _ _ (by rw [← hi2]; exact D2.over (D2.over st2 hs0 S.zf2) hp1 S.sep1_2) fun q e hq he => ?_)
      replace hq : Heap.ExtBut i2 p1 q := hq
      exact hE q tk1 e (fun c o cz _ c1 c2 x => hq _ _ c2 (hp1.extBut _ _ c1 (hs0.extBut _ _ cz x))) he
    · have hi1 : i = n1 := by omega
      refine wpAny_bind (D1.done ⟨g0, g, d, tk0, os⟩ _ _ (by rw [← hi1]; exact D1.over st1 hs0 S.zf1) fun q e hq he => ?_)
      replace hq : Heap.ExtBut i1 g0 q := hq
      exact hE q tk0 e (fun c o cz _ c1 _ x => hq _ _ c1 (hs0.extBut _ _ cz x)) he
/-- as an iterator within another one asks it -/
theorem nextZ_item {Q : Value → Shared → Prop} (S : ZipSep2 z TI TO i1 i2 fp1 fp2) (D1 : Draws prog w A.in1 i1 fp1 n1 P1 St1) (D2 : Draws prog w A.in1 i2 fp2 n2 P2 St2)
    (hz : IsZ s.heap z TI TO v f) (hv : OutV v) (hTI : IsTupOf2 s.heap TI (.ref i1) (.ref i2)) (hTO : ∃ a1 a2, IsTupOf2 s.heap TO a1 a2) (st1 : St1 i s.heap) (st2 : St2 i s.heap) (l1 : i < n1) (l2 : i < n2)
    (hQ : ∀ x1 x2 h' tk, P1 i x1 → P2 i x2 → (∃ v' f', IsZ h' z TI TO v' f' ∧ OutV v') → (∃ a1 a2, IsTupOf2 h' TO a1 a2) → St1 (i + 1) h' → St2 (i + 1) h' → IsTupOf2 h' s.heap.objs.size x1 x2 → h'.objs.size = s.heap.objs.size + 1 →
      (∀ c o, c ≠ z → c ≠ TO → c ≠ i1 → c ≠ i2 → s.heap.get? c = some o → h'.get? c = some o) → Q (.ref s.heap.objs.size) { s with heap := h', toks := tk }) :
    wpAny (model prog w) A (Builtin.SmallTypes.nextOf (.ref z)) Q E s := by
  have hT : s.TypeIs (.ref z) "zip" := ⟨_, hz, rfl⟩
  unfold Builtin.SmallTypes.nextOf
  exact wpAny_bind (wpAny_callSpecial?_slot (name := Str.ofString "__next__") hT F.slot_zip_next (wpAny_call_entry F.slot_zip_next hT F.entry_zip_next
    (zipZ_item S D1 D2 hz hv hTI hTO st1 st2 l1 l2 fun x1 x2 h' tk b1 b2 b3 b4 b5 b6 b7 b8 b9 => wpAny_pure (hQ x1 x2 h' tk b1 b2 b3 b4 b5 b6 b7 b8 b9)) (F.args_zip_next_1 _)))
theorem nextZ_end {Q : Value → Shared → Prop} (S : ZipSep2 z TI TO i1 i2 fp1 fp2) (D1 : Draws prog w A.in1 i1 fp1 n1 P1 St1) (D2 : Draws prog w A.in1 i2 fp2 n2 P2 St2)
    (hz : IsZ s.heap z TI TO v f) (hv : OutV v) (hTI : IsTupOf2 s.heap TI (.ref i1) (.ref i2)) (hTO : ∃ a1 a2, IsTupOf2 s.heap TO a1 a2) (st1 : St1 i s.heap) (st2 : St2 i s.heap) (l1 : i ≤ n1) (l2 : i ≤ n2) (hend : i = n1 ∨ i = n2)
    (hE : ∀ h' tk e, (∀ c o, c ≠ z → c ≠ TO → c ≠ i1 → c ≠ i2 → s.heap.get? c = some o → h'.get? c = some o) → (∃ o, h'.get? e = some o ∧ o.cls = .type "StopIteration") → E (.ref e) { s with heap := h', toks := tk }) :
    wpAny (model prog w) A (Builtin.SmallTypes.nextOf (.ref z)) Q E s := by
  have hT : s.TypeIs (.ref z) "zip" := ⟨_, hz, rfl⟩
  unfold Builtin.SmallTypes.nextOf
  exact wpAny_bind (wpAny_callSpecial?_slot (name := Str.ofString "__next__") hT F.slot_zip_next (wpAny_call_entry F.slot_zip_next hT F.entry_zip_next
    (zipZ_end S D1 D2 hz hv hTI hTO st1 st2 l1 l2 hend hE) (F.args_zip_next_1 _)))
structure EnumSep (e z TI TO i1 i2 : Addr) (fp1 fp2 : List Addr) : Prop extends ZipSep2 z TI TO i1 i2 fp1 fp2 where
  ez : e ≠ z
  eTI : e ≠ TI
  eTO : e ≠ TO
  e1 : e ∉ fp1
  e2 : e ∉ fp2
theorem EnumSep.ei1 {e : Addr} (S : EnumSep e z TI TO i1 i2 fp1 fp2) : e ≠ i1 := fun q => S.e1 (q ▸ S.mem1)
theorem EnumSep.ei2 {e : Addr} (S : EnumSep e z TI TO i1 i2 fp1 fp2) : e ≠ i2 := fun q => S.e2 (q ▸ S.mem2)
theorem enumZ_item {e : Addr} {c : Int} {old : Value} {Q : Value → Shared → Prop} (S : EnumSep e z TI TO i1 i2 fp1 fp2) (D1 : Draws prog w A.in1 i1 fp1 n1 P1 St1) (D2 : Draws prog w A.in1 i2 fp2 n2 P2 St2) (he : IsEnum s.heap e z c old)
    (hz : IsZ s.heap z TI TO v f) (hv : OutV v) (hTI : IsTupOf2 s.heap TI (.ref i1) (.ref i2)) (hTO : ∃ a1 a2, IsTupOf2 s.heap TO a1 a2) (st1 : St1 i s.heap) (st2 : St2 i s.heap) (l1 : i < n1) (l2 : i < n2)
    (hQ : ∀ x1 x2 h' tk, P1 i x1 → P2 i x2 → IsEnumOut h' e z (c + 1) (.ref s.heap.objs.size) (s.heap.objs.size + 1) → (∃ v' f', IsZ h' z TI TO v' f' ∧ OutV v') → (∃ a1 a2, IsTupOf2 h' TO a1 a2) → St1 (i + 1) h' → St2 (i + 1) h' →
      IsTupOf2 h' s.heap.objs.size x1 x2 → IsTupOf2 h' (s.heap.objs.size + 1) (.int c tk) (.ref s.heap.objs.size) → h'.objs.size = s.heap.objs.size + 2 →
      (∀ b o, b ≠ e → b ≠ z → b ≠ TO → b ≠ i1 → b ≠ i2 → s.heap.get? b = some o → h'.get? b = some o) → Q (.ref (s.heap.objs.size + 1)) { s with heap := h', toks := tk + 1 }) :
    wpAny (model prog w) A (Builtin.«enumerate.__next__» ⟨[.ref e], []⟩) (fun fin s' => ∃ v, fin = .done (.ret v) ∧ Q v s') E s := by
  obtain ⟨hp, g, d, tk₀, os⟩ := s
  show wpAny _ _ (field (.ref e) 2 >>= _) _ _ _
  refine wpAny_bind (wpAny_field he rfl (x := .ref z) rfl (wpAny_bind (nextZ_item S.toZipSep2 D1 D2 hz hv hTI hTO st1 st2 l1 l2 fun x1 x2 h₁ tk p1 p2 hz1 hO1 q1 q2 hP hsz hk => ?_)))
  have hel : e < hp.objs.size := Heap.lt_size he
  have he₁ : IsEnum h₁ e z c old := hk _ _ S.ez S.eTO S.ei1 S.ei2 he
  show wpAny _ _ (field (.ref e) 3 >>= _) _ _ ⟨h₁, g, d, tk, os⟩
  refine wpAny_bind (wpAny_field he₁ rfl (x := rawInt c) rfl ?_)
  show wpAny _ _ (field (.ref e) 4 >>= _) _ _ ⟨h₁, g, d, tk, os⟩
  refine wpAny_bind (wpAny_field he₁ rfl (x := .none) rfl ?_)
  show wpAny _ _ (mkInt c >>= _) _ _ ⟨h₁, g, d, tk, os⟩
  refine wpAny_bind (wpAny_mkInt ?_)
  show wpAny _ _ (setField (.ref e) 3 (rawInt (c + 1)) >>= _) _ _ ⟨h₁, g, d, tk + 1, os⟩
  refine wpAny_bind (wpAny_setField_rec he₁ (by simp) fun h₂ he₂ hs₂ => ?_)
  replace hs₂ : Heap.SameBut e h₁ h₂ := hs₂
  replace he₂ : IsEnum h₂ e z (c + 1) old := he₂
  show wpAny _ _ (setField (.ref e) 4 .none >>= _) _ _ ⟨h₂, g, d, tk + 1, os⟩
  refine wpAny_bind (wpAny_setField_rec he₂ (by simp) fun h₃ he₃ hs₃ => ?_)
  replace hs₃ : Heap.SameBut e h₂ h₃ := hs₃
  replace he₃ : IsEnum h₃ e z (c + 1) old := he₃
  show wpAny _ _ (newTuple [.int c tk, .ref hp.objs.size] >>= _) _ _ ⟨h₃, g, d, tk + 1, os⟩
  refine wpAny_bind (wpAny_newTuple ?_)
  have n₃ : h₃.objs.size = hp.objs.size + 1 := by rw [hs₃.1, hs₂.1, hsz]
  have up₃ : ∀ b o, b ≠ e → h₁.get? b = some o → h₃.get? b = some o := fun b o n x => hs₃.extBut _ _ n (hs₂.extBut _ _ n x)
  have he₄ : IsEnum (h₃.push { cls := .type "tuple", data := .seq #[.int c tk, .ref hp.objs.size] }) e z (c + 1) old := Heap.get?_push_of_some _ he₃
  have hT₄ : IsTupOf2 (h₃.push { cls := .type "tuple", data := .seq #[.int c tk, .ref hp.objs.size] }) (hp.objs.size + 1) (.int c tk) (.ref hp.objs.size) := by rw [← n₃]; exact Heap.get?_push_size _ rfl
  have n₄ : (h₃.push { cls := .type "tuple", data := .seq #[.int c tk, .ref hp.objs.size] }).objs.size = hp.objs.size + 2 := by rw [Heap.size_push, n₃]
  have up₄ : ∀ b o, b ≠ e → h₁.get? b = some o → (h₃.push { cls := .type "tuple", data := .seq #[.int c tk, .ref hp.objs.size] }).get? b = some o := fun b o n x => Heap.get?_push_of_some _ (up₃ b o n x)
  generalize h₃.push { cls := .type "tuple", data := .seq #[.int c tk, .ref hp.objs.size] } = h₄ at he₄ hT₄ n₄ up₄ ⊢
  show wpAny _ _ (Builtin.SmallTypes.ownedTupleIsFree (.ref e) >>= _) _ _ ⟨h₄, g, d, tk + 1, os⟩
  rw [n₃]
  refine wpAny_bind ?_
  unfold Builtin.SmallTypes.ownedTupleIsFree
  refine wpAny_bind (wpAny_field he₄ rfl (x := .none) rfl (wpAny_pure ?_))
  simp only [if_true]
  refine wpAny_bind (wpAny_rule (wpAny_bind (wpAny_field he₄ rfl (x := old) rfl (wpAny_bind (wpAny_setField_rec he₄ (by simp) fun h₅ he₅ hs₅ => ?_)))))
  replace hs₅ : Heap.SameBut e h₄ h₅ := hs₅
  replace he₅ : IsEnum h₅ e z (c + 1) (.ref hp.objs.size) := he₅
  show wpAny _ _ (Builtin.SmallTypes.ownedTupleHandOut (.ref e) (.ref (hp.objs.size + 1)) >>= _) _ _ ⟨h₅, g, d, tk + 1, os⟩
  refine wpAny_bind ?_
  unfold Builtin.SmallTypes.ownedTupleHandOut
  refine wpAny_bind (wpAny_setField_rec he₅ (by simp) fun h₆ he₆ hs₆ => ?_)
  replace hs₆ : Heap.SameBut e h₅ h₆ := hs₆
  replace he₆ : IsEnumOut h₆ e z (c + 1) (.ref hp.objs.size) (hp.objs.size + 1) := he₆
  refine wpAny_setField_rec he₆ (by simp) fun h₇ he₇ hs₇ => ?_
  replace hs₇ : Heap.SameBut e h₆ h₇ := hs₇
  replace he₇ : IsEnumOut h₇ e z (c + 1) (.ref hp.objs.size) (hp.objs.size + 1) := he₇
  have n₇ : h₇.objs.size = hp.objs.size + 2 := by rw [hs₇.1, hs₆.1, hs₅.1, n₄]
  have up : ∀ b o, b ≠ e → h₄.get? b = some o → h₇.get? b = some o := fun b o n x => hs₇.extBut _ _ n (hs₆.extBut _ _ n (hs₅.extBut _ _ n x))
  have all : ∀ b o, b ≠ e → h₁.get? b = some o → h₇.get? b = some o := fun b o n x => up b o n (up₄ b o n x)
  obtain ⟨v', f', hz1, hv1⟩ := hz1
  obtain ⟨a1, a2, hO1⟩ := hO1
  exact wpAny_bind (wpAny_letGo (wpAny_pure ⟨_, rfl, hQ x1 x2 h₇ tk p1 p2 he₇ ⟨v', f', all _ _ (Ne.symm S.ez) hz1, hv1⟩ ⟨a1, a2, all _ _ (Ne.symm S.eTO) hO1⟩
    (D1.frame _ _ _ q1 fun b hb o x => all b o (fun q => S.e1 (q ▸ hb)) x) (D2.frame _ _ _ q2 fun b hb o x => all b o (fun q => S.e2 (q ▸ hb)) x) (all _ _ (Nat.ne_of_gt hel) hP) (up _ _ (Nat.ne_of_gt (Nat.lt_succ_of_lt hel)) hT₄) n₇
    fun b o n1 n2 n3 n4 n5 x => all b o n1 (hk b o n2 n3 n4 n5 x)⟩))
theorem enumZ_end {e : Addr} {c : Int} {old : Value} {Q : Option Value → Shared → Prop} (S : EnumSep e z TI TO i1 i2 fp1 fp2) (D1 : Draws prog w A.in1.in1 i1 fp1 n1 P1 St1) (D2 : Draws prog w A.in1.in1 i2 fp2 n2 P2 St2) (he : IsEnum s.heap e z c old)
    (hz : IsZ s.heap z TI TO v f) (hv : OutV v) (hTI : IsTupOf2 s.heap TI (.ref i1) (.ref i2)) (hTO : ∃ a1 a2, IsTupOf2 s.heap TO a1 a2) (st1 : St1 i s.heap) (st2 : St2 i s.heap) (l1 : i ≤ n1) (l2 : i ≤ n2) (hend : i = n1 ∨ i = n2)
    (hQ : ∀ h' tk, (∀ c o, c ≠ z → c ≠ TO → c ≠ i1 → c ≠ i2 → s.heap.get? c = some o → h'.get? c = some o) → Q none { s with heap := h', toks := tk }) : wpAny (model prog w) A (pyNext (.ref e)) Q E s := by
  have hT : s.TypeIs (.ref e) "enumerate" := ⟨_, he, rfl⟩
  unfold pyNext
  refine wpAny_bind (wpAny_attempt (wpAny_callSpecial?_slot (name := Str.ofString "__next__") hT F.slot_enumerate_next (wpAny_call_entry F.slot_enumerate_next hT F.entry_enumerate_next ?_ (F.args_enumerate_next_1 _))))
  show wpAny _ _ (field (.ref e) 2 >>= _) _ _ _
  refine wpAny_bind (wpAny_field he rfl (x := .ref z) rfl (wpAny_bind (nextZ_end S.toZipSep2 D1 D2 hz hv hTI hTO st1 st2 l1 l2 hend fun h' tk x hk hx => ?_)))
  obtain ⟨o, ho, hc⟩ := hx
  exact wpAny_bind (wpAny_isInstance (T := "StopIteration") (b := true) ⟨o, ho, hc⟩ isSubtype_stop (wpAny_pure (hQ _ _ hk)))
theorem enumZ_next {e : Addr} {c : Int} {old : Value} {Q : Option Value → Shared → Prop} (S : EnumSep e z TI TO i1 i2 fp1 fp2) (D1 : Draws prog w A.in1.in1 i1 fp1 n1 P1 St1) (D2 : Draws prog w A.in1.in1 i2 fp2 n2 P2 St2) (he : IsEnum s.heap e z c old)
    (hz : IsZ s.heap z TI TO v f) (hv : OutV v) (hTI : IsTupOf2 s.heap TI (.ref i1) (.ref i2)) (hTO : ∃ a1 a2, IsTupOf2 s.heap TO a1 a2) (st1 : St1 i s.heap) (st2 : St2 i s.heap) (l1 : i < n1) (l2 : i < n2)
    (hQ : ∀ x1 x2 h' tk, P1 i x1 → P2 i x2 → IsEnumOut h' e z (c + 1) (.ref s.heap.objs.size) (s.heap.objs.size + 1) → (∃ v' f', IsZ h' z TI TO v' f' ∧ OutV v') → (∃ a1 a2, IsTupOf2 h' TO a1 a2) → St1 (i + 1) h' → St2 (i + 1) h' →
      IsTupOf2 h' s.heap.objs.size x1 x2 → IsTupOf2 h' (s.heap.objs.size + 1) (.int c tk) (.ref s.heap.objs.size) → h'.objs.size = s.heap.objs.size + 2 →
      (∀ b o, b ≠ e → b ≠ z → b ≠ TO → b ≠ i1 → b ≠ i2 → s.heap.get? b = some o → h'.get? b = some o) → Q (some (.ref (s.heap.objs.size + 1))) { s with heap := h', toks := tk + 1 }) :
    wpAny (model prog w) A (pyNext (.ref e)) Q E s := by
  have hT : s.TypeIs (.ref e) "enumerate" := ⟨_, he, rfl⟩
  unfold pyNext
  exact wpAny_bind (wpAny_attempt (wpAny_callSpecial?_slot (name := Str.ofString "__next__") hT F.slot_enumerate_next (wpAny_call_entry F.slot_enumerate_next hT F.entry_enumerate_next
    (enumZ_item S D1 D2 he hz hv hTI hTO st1 st2 l1 l2 fun x1 x2 h' tk b1 b2 b3 b4 b5 b6 b7 b8 b9 b10 b11 => wpAny_pure (hQ x1 x2 h' tk b1 b2 b3 b4 b5 b6 b7 b8 b9 b10 b11)) (F.args_enumerate_next_1 _))))
end
set_option maxHeartbeats 1000000 in
theorem meets_enumZ (z TI TO : Addr) :
    Meets (Builtin.«enumerate.__new__» ⟨[.type "enumerate", .ref z], []⟩) (fun _ R s => IsZip s.heap z TI TO .none ∧
      R (.ok (.ret (.ref s.heap.objs.size))) { s with heap := s.heap.push { cls := .type "enumerate", data := .fields #[.none, .bool false, .ref z, rawInt 0, .none, .none] } }) :=
  .of_wp fun prog w A R s h => by
    obtain ⟨hp, g, d, tk, os⟩ := s
    obtain ⟨h1, h⟩ := h
    have hsub := sub_enumerate
    have q1 : ∀ {A' : Around} {E : Value → Shared → Prop} {Q : Value → Shared → Prop}, Q (.ref z) ⟨hp, g, d, tk, os⟩ → wpAny (model prog w) A' (pyIter (.ref z)) Q E ⟨hp, g, d, tk, os⟩ :=
      fun q => wpAny_pyIter_zip (s := ⟨hp, g, d, tk, os⟩) h1 q
    wp_walk using q1
    refine wpAny_stack_any fun st => wpAny_pure ?_
    split
    · rename_i c _ _ _ _ _
      cases (c == Value.type "enumerate")
      · wp_walk using q1
        exact ⟨_, rfl, h⟩
      · wp_walk using q1
        exact ⟨_, rfl, h⟩
    · wp_walk using q1
      exact ⟨_, rfl, h⟩
theorem call_enumZ {prog : Program} {w : World} {A : Around} {E : Value → Shared → Prop} {s : Shared} {z TI TO : Addr} {Q : Value → Shared → Prop} (hz : IsZip s.heap z TI TO .none)
    (h : ∀ h', IsEnum h' s.heap.objs.size z 0 .none → h'.objs.size = s.heap.objs.size + 1 → (∀ b o, s.heap.get? b = some o → h'.get? b = some o) → Q (.ref s.heap.objs.size) { s with heap := h' }) :
    wpAny (model prog w) A (call (.type "enumerate") [.ref z]) Q E s := by
  refine callType_new F.called_enumerate (by decide) (F.typeCall_enumerate_1 _) (F.newCall_enumerate_1 _) (fun obj => F.args_object_init_2 obj _) F.entry_enumerate_new (meets_enumZ z TI TO) ⟨hz, ?_⟩
  have he : IsEnum (s.heap.push { cls := .type "enumerate", data := .fields #[.none, .bool false, .ref z, rawInt 0, .none, .none] }) s.heap.objs.size z 0 .none := Heap.get?_push_size _ rfl
  exact ⟨⟨_, he, rfl⟩, h _ he (Heap.size_push ..) fun b o x => Heap.get?_push_of_some _ x⟩
end Kit

end
section
set_option Elab.async false
set_option linter.all false
set_option maxRecDepth 100000
set_option maxHeartbeats 4000000
namespace Kit
open PySem PySem.Spec PyProof.Rows L2
/-! ### for i, (a, b) in enumerate(zip(x, y)) -/
structure Dq (X : Cx) (H : Hp) (h : Heap) (sd : Sd) (it : Addr) (i : Nat) (xs : List V) : Prop where
  ex : ∃ (fp : List Addr) (P : Nat → Value → Prop) (St : Nat → Heap → Prop), Draws X.prog X.w X.A.in1.in1 it fp xs.length P St ∧ St i h ∧ it ∈ fp ∧ (∀ c ∈ fp, c = it ∨ H c ≠ none) ∧ (∀ j h', St j h' → sd.st h' it j) ∧ (∀ x u, P i u → xs[i]? = some x → RelV x u)
theorem dq_of {X : Cx} {pins : List (Addr × Obj)} {σ : St} {H : Hp} {s : Shared} {sd : Sd} {it : Addr} {i : Nat} {xs : List V} (hc : X.calm = true) (I : Inv X pins σ H s) (hn : H it = none) (hat : sd.at H xs) (st : sd.st s.heap it i) : Dq X H s.heap sd it i xs := by
  constructor
  cases sd with
  | L a =>
    have hat : H a = some (.lst xs) := hat
    obtain ⟨hzz, its, nn, rv, hl0⟩ := (show ObjOk X.prog X.w H s.heap a (.lst xs) from I.hok a _ hat)
    have hL : s.heap.IsList a its.toArray := ⟨_, hl0, rfl, nn, rfl⟩
    have hne : a ≠ it := fun q => by rw [q, hn] at hat; cases hat
    have hl : its.toArray.size = xs.length := by rw [List.size_toArray, rv.length]
    refine ⟨[it, a], _, _, hl ▸ Draws.list (A := X.A.in1.in1) (show X.A.in1.in1.handled = none from I.ok.hd hc) it a hne its.toArray, ⟨st, hL⟩, by simp, fun c hcm => ?_, fun j h' q => q.1, fun x u hu hx => ?_⟩
    · have e : c = it ∨ c = a := by simpa using hcm
      rcases e with e | e
      · exact .inl e
      · refine .inr ?_
        rw [e, hat]
        simp
    · obtain ⟨u', hu', ru⟩ := rv.get hx
      have z : its[i]? = some u := by simpa using hu
      rw [hu'] at z
      cases z
      exact ru
  | T x =>
    obtain ⟨t, st⟩ := st
    have hat : xs = signs x := hat
    have hl : x.cps.size = xs.length := by rw [hat, signs, List.length_map, Array.length_toList]
    refine ⟨[it], _, _, hl ▸ Draws.text (A := X.A.in1.in1) (show X.A.in1.in1.handled = none from I.ok.hd hc) it x t, st, by simp, fun c hcm => .inl (by simpa using hcm), fun j h' q => ⟨t, q⟩, fun y u hu hx => ?_⟩
    obtain ⟨c, tk, hc', rfl⟩ := hu
    rw [hat, signs, List.getElem?_map, Array.getElem?_toList, hc'] at hx
    cases hx
    exact ⟨tk, rfl⟩
structure Cells6 (e z TI TO i1 i2 : Addr) : Prop extends Cells z TI TO i1 i2 where
  ez : e ≠ z
  eTI : e ≠ TI
  eTO : e ≠ TO
  ei1 : e ≠ i1
  ei2 : e ≠ i2
theorem sep6 {H : Hp} {e z TI TO i1 i2 : Addr} {f1 f2 : List Addr} (C : Cells6 e z TI TO i1 i2) (hn : ∀ b ∈ [e, z, TI, TO, i1, i2], H b = none) (m1 : i1 ∈ f1) (m2 : i2 ∈ f2) (h1 : ∀ c ∈ f1, c = i1 ∨ H c ≠ none) (h2 : ∀ c ∈ f2, c = i2 ∨ H c ≠ none) :
    EnumSep e z TI TO i1 i2 f1 f2 where
  toZipSep2 := sep_of C.toCells (fun b hb => hn b (List.mem_cons_of_mem _ hb)) m1 m2 h1 h2
  ez := C.ez
  eTI := C.eTI
  eTO := C.eTO
  e1 := fun q => (h1 _ q).elim C.ei1 fun k => k (hn _ (by simp))
  e2 := fun q => (h2 _ q).elim C.ei2 fun k => k (hn _ (by simp))
/-- the pairs of both sides, each with its number, in two new tuples -/
def ItEZ (d1 d2 : Sd) : It :=
  ⟨fun i G => ∃ (xs ys : List V) (x y : V), d1.at G xs ∧ d2.at G ys ∧ xs[i]? = some x ∧ ys[i]? = some y,
    fun i G v G' => ∃ T U x y, v = .ref U ∧ G T = none ∧ G U = none ∧ T ≠ U ∧ G' = upd (upd G T (.tup [x, y])) U (.tup [.int (i : Nat), .ref T]) ∧ (∀ xs, d1.at G xs → xs[i]? = some x) ∧ ∀ ys, d2.at G ys → ys[i]? = some y,
    fun i G => ∃ xs ys : List V, d1.at G xs ∧ d2.at G ys ∧ i ≤ xs.length ∧ i ≤ ys.length ∧ (i = xs.length ∨ i = ys.length)⟩
theorem turn_EZ {P : Program} {w : World} {K : PySem.W.Frag} {elts : List Expr} {kk : Nat} {tpos : Pos} (d1 d2 : Sd) {e z TI TO i1 i2 : Addr} (C : Cells6 e z TI TO i1 i2) :
    Turn P w K (.Tuple elts kk tpos) (ItEZ d1 d2) [e, z, TI, TO, i1, i2] e (fun i h => (∃ old, IsEnum h e z ((i : Nat) : Int) old) ∧ (∃ v f, IsZ h z TI TO v f ∧ OutV v) ∧ IsTupOf2 h TI (.ref i1) (.ref i2) ∧ (∃ x y, IsTupOf2 h TO x y) ∧ d1.st h i1 i ∧ d2.st h i2 i) where
  mem := by simp
  obj := fun i h st c hc => by
    obtain ⟨⟨old, he⟩, ⟨v, f, hz, _⟩, hTI, ⟨x, y, hTO⟩, s1, s2⟩ := st
    have e' : c = e ∨ c = z ∨ c = TI ∨ c = TO ∨ c = i1 ∨ c = i2 := by simpa using hc
    rcases e' with q | q | q | q | q | q
    · rw [q]; exact ⟨_, he, fun v q => nomatch q⟩
    · rw [q]; exact ⟨_, hz, fun v q => nomatch q⟩
    · rw [q]; exact ⟨_, hTI, fun v q => nomatch q⟩
    · rw [q]; exact ⟨_, hTO, fun v q => nomatch q⟩
    · rw [q]; exact Sd.live s1
    · rw [q]; exact Sd.live s2
  keep := fun i h h' st k => by
    obtain ⟨⟨old, he⟩, ⟨v, f, hz, hv⟩, hTI, ⟨x, y, hTO⟩, s1, s2⟩ := st
    exact ⟨⟨old, k e (by simp) _ he⟩, ⟨v, f, k z (by simp) _ hz, hv⟩, k TI (by simp) _ hTI, ⟨x, y, k TO (by simp) _ hTO⟩, Sd.keep s1 fun o q => k i1 (by simp) o q, Sd.keep s2 fun o q => k i2 (by simp) o q⟩
  item := by
    intro X hP hw hK hc i pins s σ H E I hf st hg
    subst hP hw hK
    obtain ⟨⟨old, he⟩, ⟨v, f, hz, hv⟩, hTI, hTO, s1, s2⟩ := st
    obtain ⟨xs, ys, x, y, hqx, hqy, hx, hy⟩ := hg
    obtain ⟨f1, P1, St1, D1, t1, m1, u1, b1, r1⟩ := (dq_of hc I (hf i1 (by simp)).1 hqx s1).ex
    obtain ⟨f2, P2, St2, D2, t2, m2, u2, b2, r2⟩ := (dq_of hc I (hf i2 (by simp)).1 hqy s2).ex
    have SS := sep6 C (fun b hb => (hf b hb).1) m1 m2 u1 u2
    have hl1 := (List.getElem?_eq_some_iff.mp hx).1
    have hl2 := (List.getElem?_eq_some_iff.mp hy).1
    have lt : ∀ c ∈ [e, z, TI, TO, i1, i2], c < s.heap.objs.size := fun c hcm => by
      have e' : c = e ∨ c = z ∨ c = TI ∨ c = TO ∨ c = i1 ∨ c = i2 := by simpa using hcm
      obtain ⟨a1, a2, hTO⟩ := hTO
      rcases e' with q | q | q | q | q | q
      · rw [q]; exact Heap.lt_size he
      · rw [q]; exact Heap.lt_size hz
      · rw [q]; exact Heap.lt_size hTI
      · rw [q]; exact Heap.lt_size hTO
      · rw [q]; obtain ⟨_, e1, _⟩ := Sd.live s1; exact Heap.lt_size e1
      · rw [q]; obtain ⟨_, e2, _⟩ := Sd.live s2; exact Heap.lt_size e2
    refine enumZ_next SS D1 D2 he hz hv hTI hTO t1 t2 hl1 hl2 fun v1 v2 h' tk p1 p2 eo z' TO' t1' t2' hT hU hsz hk => ?_
    refine ⟨_, rfl, wpAny_letOwnedTupleGo_enum (s := { s with heap := h', toks := tk + 1 }) eo fun h'' e'' sb => ?_⟩
    have hel : e < s.heap.objs.size := lt e (by simp)
    have k2 : ∀ c o, c ∉ [e, z, TI, TO, i1, i2] → s.heap.get? c = some o → h''.get? c = some o := fun c o hb q =>
      (sb.2 c (fun q' => hb (by simp [q']))).trans (hk c o (fun q' => hb (by simp [q'])) (fun q' => hb (by simp [q'])) (fun q' => hb (by simp [q'])) (fun q' => hb (by simp [q'])) (fun q' => hb (by simp [q'])) q)
    have ru := r1 x v1 p1 hx
    have ru2 := r2 y v2 p2 hy
    have hT2 : IsTupOf2 h'' s.heap.objs.size v1 v2 := (sb.2 _ (Nat.ne_of_gt hel)).trans hT
    have hU2 : IsTupOf2 h'' (s.heap.objs.size + 1) (.int ((i : Nat) : Int) tk) (.ref s.heap.objs.size) := (sb.2 _ (Nat.ne_of_gt (Nat.lt_succ_of_lt hel))).trans hU
    have fT : H s.heap.objs.size = none := I.hok.fresh (Nat.le_refl _)
    have fU : H (s.heap.objs.size + 1) = none := I.hok.fresh (Nat.le_succ _)
    have nTU : s.heap.objs.size ≠ s.heap.objs.size + 1 := Nat.ne_of_lt (Nat.lt_succ_self _)
    -- the inner tuple first, in a heap of its own
    have hp1 : (s.heap.push { cls := .type "tuple", data := .seq #[v1, v2] }).get? s.heap.objs.size = some { cls := .type "tuple", data := .seq #[v1, v2] } := Heap.get?_push_size _ rfl
    have I1 : Inv X pins σ (upd H s.heap.objs.size (.tup [x, y])) { s with heap := s.heap.push { cls := .type "tuple", data := .seq #[v1, v2] }, toks := tk + 1 } :=
      I.laid (t' := tk + 1) (fun b o q => Heap.get?_push_of_some _ q) (Nat.le_refl _) ⟨by show 2 ≤ sizeLine; decide, [v1, v2], .cons ru (.cons ru2 .nil), ⟨_, hp1, rfl, _, rfl⟩⟩
    have hf1 : ∀ b ∈ [e, z, TI, TO, i1, i2], FpOk X pins (upd H s.heap.objs.size (.tup [x, y])) b := fun b hb => by
      obtain ⟨q0, q1, q2, q3, q4, q5⟩ := hf b hb
      exact ⟨by rw [upd_ne (Nat.ne_of_lt (lt b hb))]; exact q0, q1, q2, q3, q4, q5⟩
    have I2 : Inv X pins σ (upd (upd H s.heap.objs.size (.tup [x, y])) (s.heap.objs.size + 1) (.tup [.int (i : Nat), .ref s.heap.objs.size])) { s with heap := h'', toks := tk + 1 } := by
      refine I1.turnedNew (ch := [e, z, TI, TO, i1, i2]) (fun c o hb q => ?_) hf1 (by show (s.heap.push _).objs.size ≤ _; rw [Heap.size_push]; exact Nat.le_refl _) ⟨by show 2 ≤ sizeLine; decide, [.int ((i : Nat) : Int) tk, .ref s.heap.objs.size], .cons ⟨_, rfl⟩ (.cons rfl .nil), ⟨_, hU2, rfl, _, rfl⟩⟩
      by_cases hcT : c = s.heap.objs.size
      · subst hcT
        have q : (s.heap.push { cls := .type "tuple", data := .seq #[v1, v2] }).get? s.heap.objs.size = some o := q
        rw [hp1] at q
        cases q
        exact hT2
      · refine k2 c o hb ?_
        have q : (s.heap.push { cls := .type "tuple", data := .seq #[v1, v2] }).get? c = some o := q
        rw [Heap.get?_push_ne _ _ _ hcT] at q
        exact q
    refine ⟨.ref (s.heap.objs.size + 1), _, I2, rfl, ⟨_, _, x, y, rfl, fT, fU, nTU, rfl, fun l hl => by rw [Sd.inj hl hqx]; exact hx, fun l hl => by rw [Sd.inj hl hqy]; exact hy⟩, ⟨⟨.ref s.heap.objs.size, ?_⟩, ?_, ?_, ?_, ?_, ?_⟩, fun c hcm => ?_⟩
    · have e1 : ((i + 1 : Nat) : Int) = (i : Int) + 1 := by omega
      rw [e1]
      exact e''
    · obtain ⟨v', f', hz', hv'⟩ := z'
      exact ⟨v', f', (sb.2 _ (Ne.symm C.ez)).trans hz', hv'⟩
    · exact (sb.2 _ (Ne.symm C.eTI)).trans (hk _ _ (Ne.symm C.eTI) C.a1 C.a3 C.a4 C.a5 hTI)
    · obtain ⟨a1, a2, hO⟩ := TO'
      exact ⟨a1, a2, (sb.2 _ (Ne.symm C.eTO)).trans hO⟩
    · exact Sd.keep (b1 _ _ t1') fun o q => (sb.2 _ (Ne.symm C.ei1)).trans q
    · exact Sd.keep (b2 _ _ t2') fun o q => (sb.2 _ (Ne.symm C.ei2)).trans q
    · have := lt c hcm
      rw [upd_ne (Nat.ne_of_lt (Nat.lt_succ_of_lt this)), upd_ne (Nat.ne_of_lt this)]
      exact (hf c hcm).1
  done := by
    intro X hP hw hK hc i pins s σ H E I hf st hg
    subst hP hw hK
    obtain ⟨⟨old, he⟩, ⟨v, f, hz, hv⟩, hTI, hTO, s1, s2⟩ := st
    obtain ⟨xs, ys, hqx, hqy, hi1, hi2, hend⟩ := hg
    obtain ⟨f1, P1, St1, D1, t1, m1, u1, b1, r1⟩ := (dq_of hc I (hf i1 (by simp)).1 hqx s1).ex
    obtain ⟨f2, P2, St2, D2, t2, m2, u2, b2, r2⟩ := (dq_of hc I (hf i2 (by simp)).1 hqy s2).ex
    have SS := sep6 C (fun b hb => (hf b hb).1) m1 m2 u1 u2
    exact enumZ_end SS D1 D2 he hz hv hTI hTO t1 t2 hi1 hi2 hend fun h' tk hk => ⟨rfl, I.turnedL (t' := tk) (ch := [e, z, TI, TO, i1, i2]) (fun c o hb q =>
      hk c o (fun q' => hb (by simp [q'])) (fun q' => hb (by simp [q'])) (fun q' => hb (by simp [q'])) (fun q' => hb (by simp [q'])) q) hf⟩
  self := fun A i s Q E st h => let ⟨⟨_, he⟩, _⟩ := st; wpAny_pyIter_enum he h
/-- what such a turn gives -/
def YEZ (xs ys : List V) (i : Nat) (G : Hp) (v : V) (G' : Hp) : Prop := ∃ T U x y, v = .ref U ∧ G T = none ∧ G U = none ∧ T ≠ U ∧ G' = upd (upd G T (.tup [x, y])) U (.tup [.int (i : Nat), .ref T]) ∧ xs[i]? = some x ∧ ys[i]? = some y
theorem walk_EZ {d1 d2 : Sd} {xs ys : List V} {n : Nat} (hn : n = min xs.length ys.length) : Walk (ItEZ d1 d2) n (fun G => d1.at G xs ∧ d2.at G ys) (YEZ xs ys) := by
  subst hn
  refine ⟨fun i G hi q => ⟨xs, ys, xs[i], ys[i], q.1, q.2, List.getElem?_eq_getElem (by omega), List.getElem?_eq_getElem (by omega)⟩, fun G q => ⟨xs, ys, q.1, q.2, by omega, by omega, by omega⟩, ?_⟩
  rintro i G v G' hi q ⟨T, U, x, y, rfl, hT, hU, ne, rfl, hx, hy⟩
  exact ⟨T, U, x, y, rfl, hT, hU, ne, rfl, hx xs q.1, hy ys q.2⟩
theorem cells6_of (n : Nat) : Cells6 (n + 5) (n + 4) (n + 2) (n + 3) n (n + 1) where
  toCells := cells_of n
  ez := fun e : n + 5 = n + 4 => by omega
  eTI := fun e : n + 5 = n + 2 => by omega
  eTO := fun e : n + 5 = n + 3 => by omega
  ei1 := fun e : n + 5 = n => by omega
  ei2 := fun e : n + 5 = n + 1 => by omega
def iEnumZ (ta : TA) : TI := fun σ H R => ta σ H fun vs H1 => ∃ d1 d2 xs ys, vs = [Sd.v d1, Sd.v d2] ∧ d1.at H1 xs ∧ d2.at H1 ys ∧ R (ItEZ d1 d2) H1
theorem pi_enumZ {X : Cx} {e e2 : Expr} {ta : TA} {p pos p2 pos2 tpos : Pos} {elts : List Expr} {kk : Nat} (hg : Gl X "enumerate") (hm : X.mg "enumerate" = none) (hg2 : Gl X "zip") (hm2 : X.mg "zip" = none) (ha : PA X [e, e2] ta)
    (hs : starEach [e, e2] X.env = (false, eval e X.env) :: starEach [e2] X.env := by rfl) (hpl : (backTo pos2 (starEach [e2] X.env)).any (·.1) = false := by rfl)
    (hs0 : starEach [.Call (.Name "zip" p2) [e, e2] [] pos2] X.env = [(false, eval (.Call (.Name "zip" p2) [e, e2] [] pos2) X.env)] := by rfl) :
    PI X (.Tuple elts kk tpos) (.Call (.Name "enumerate" p) [.Call (.Name "zip" p2) [e, e2] [] pos2] [] pos) (iEnumZ ta) := by
  refine ⟨fun pins s σ H R I h => ?_⟩
  refine Call_ (ld_blt I hg hm boot_enumerate (PyProof.Rows.callWith_type1 ?_ (by rw [hs0]; rfl) rfl))
  rw [hs0]
  show wpAny _ _ (spliced [(false, eval (.Call (.Name "zip" p2) [e, e2] [] pos2) X.env)]) _ _ _
  refine Calls.spliced_cons ?_
  refine Call_ (ld_blt I hg2 hm2 PyProof.Rows.boot_zip (PyProof.Rows.callWith_type1 (thn (ha.run pos2 pins s σ H _ I h) fun us s1 ⟨vs, H1, I1, r1, q1⟩ => ?_) hs hpl))
  obtain ⟨d1, d2, xs, ys, ex, hqx, hqy, q⟩ := q1
  subst ex
  cases r1 with
  | cons r rr =>
    cases rr with
    | cons r' rr =>
      cases rr
      obtain ⟨o1, H1', B1, k1, c1⟩ := bg_of I1 r hqx
      obtain ⟨o2, H2', B2, k2, c2⟩ := bg_of I1 r' hqy
      refine zip_begins2 B1 B2 k1 k2 fun h' hz hTI hTO h1 h2 hsz hk => Calls.spliced_nil ?_
      refine call_enumZ (s := { s1 with heap := h' }) hz fun h3 he hsz3 hk3 => wpAny_pyIter_enum he ?_
      have I2 : Inv X pins σ H1 { s1 with heap := h3 } := I1.kept (t' := s1.toks) fun b o x => hk3 _ _ (hk _ _ x)
      have he : IsEnum h3 (s1.heap.objs.size + 5) (s1.heap.objs.size + 4) 0 .none := by rw [← hsz]; exact he
      have k3 : ∀ b o, h'.get? b = some o → h3.get? b = some o := hk3
      show PIE X pins σ _ R (.ref h'.objs.size) { s1 with heap := h3 }
      rw [hsz]
      refine ⟨s1.heap.objs.size + 5, [s1.heap.objs.size + 5, s1.heap.objs.size + 4, s1.heap.objs.size + 2, s1.heap.objs.size + 3, s1.heap.objs.size, s1.heap.objs.size + 1], _, _, H1, rfl, I2, turn_EZ d1 d2 (cells6_of _), ⟨⟨_, he⟩, ⟨_, _, k3 _ _ hz, .inl rfl⟩, k3 _ _ hTI, ⟨_, _, k3 _ _ hTO⟩, c1 _ _ (k3 _ _ h1), c2 _ _ (k3 _ _ h2)⟩, fun c hcm => ?_, q⟩
      have e' : c = s1.heap.objs.size + 5 ∨ c = s1.heap.objs.size + 4 ∨ c = s1.heap.objs.size + 2 ∨ c = s1.heap.objs.size + 3 ∨ c = s1.heap.objs.size ∨ c = s1.heap.objs.size + 1 := by simpa using hcm
      have hle : s1.heap.objs.size ≤ c := by
        rcases e' with z | z | z | z | z | z
        · rw [z]; exact Nat.le_add_right _ _
        · rw [z]; exact Nat.le_add_right _ _
        · rw [z]; exact Nat.le_add_right _ _
        · rw [z]; exact Nat.le_add_right _ _
        · rw [z]; exact Nat.le_refl _
        · rw [z]; exact Nat.le_add_right _ _
      exact I1.fpOk hle (I1.hok.fresh hle)
end Kit

end
section
set_option Elab.async false
set_option linter.all false
set_option maxRecDepth 100000
set_option maxHeartbeats 4000000
namespace Kit
open PySem PySem.Spec PyProof.Rows L2
/-! ### a class whose __init__ has keyword-only parameters with defaults: C(e, ..) and C(e, .., k = v, ..), all of them given -/
structure InitK (K : PySem.W.Frag) (C : Addr) (q : Str) (st : Stmt) (kws : List (Str × V)) : Prop where
  ex : ∃ (f : Addr) (fd : FuncData), FunD K "__init__" q (defArgs st) (defBody st) (defScope st) [] kws f fd ∧ Meth K C "__init__" f
section
variable (P : Program) (w : World) (K : PySem.W.Frag) (mg : Str → Option Value) (base : Heap)
structure CanNK (k : Nat) (C : Addr) (x : Str) (n : Nat) (kws : List (Str × V)) (sp : Sp) : Prop where
  ex : ∃ (f : Addr) (fd : FuncData) (ps : List Str) (ds : List Value) (g : List Value → List Value → List Value), FnOk P w K mg base (L2.CX P w) k f fd ps sp ∧ Mk K C f ∧ mg x = some (.ref C) ∧ Vals (kws.map (·.2)) ds ∧ Binds K fd ps ds ∧ KBn K fd ps (n + 1) (kws.map (·.1)) g (fun vs zs => vs ++ zs)
end
/-- how n plain parameters and the keyword-only ones bind -/
structure BindsKw (st : Stmt) (q : Str) (ps : List Str) (n : Nat) (kws : List (Str × V)) : Prop where
  off : ∀ (D : Addr) (doc pm : Value) (an : Option Addr) (cdv ct : Value) (us ks : List Value), us.length = n → ks.length = kws.length → KwChain D ((kws.map (·.1)).zip ks) (bindArgs (PySem.W.fnOf "__init__" q (defArgs st) (defBody st) (defScope st) .none (.ref D) doc pm an cdv ct) ⟨us, []⟩) (ps.zip (us ++ ks))
  on : ∀ (D : Addr) (doc pm : Value) (an : Option Addr) (cdv ct : Value) (us ws : List Value), us.length = n → ws.length = (kws.map (·.1)).length → bindArgs (PySem.W.fnOf "__init__" q (defArgs st) (defBody st) (defScope st) .none (.ref D) doc pm an cdv ct) ⟨us, (kws.map (·.1)).zip ws⟩ = pure (ps.zip (us ++ ws))
section
variable {P : Program} {w : World} {K : PySem.W.Frag} {mg : Str → Option Value} {base : Heap}
theorem canNK_of {x q : Str} {C : Addr} {st : Stmt} {N ps : List Str} {k n : Nat} {kws : List (Str × V)} {sp : Sp} (c : ClsT K mg C x) (D : InitK K C q st kws) (S : FnScope N ps (defScope st)) (hk : kws ≠ []) (hn : n + 1 + kws.length = ps.length) (hb : BindsKw st q ps (n + 1) kws) (len : ∀ vs H Q E, sp vs H Q E → vs.length = ps.length)
    (body : ∀ (f : Addr) (cdv : Value) (A : Around) (outer : List Env) (s : Shared) (H : Hp) (vs : List V) (Q : VK) (E : XK), Room k (A.deeper (envOfC q (defScope st) s.heap.objs.size f cdv)) → sp vs H Q E →
      ∃ t, PSs (cxOf (L2.CX P w) P w K mg base N q (defScope st) f cdv A outer s H E) (defBody st) t ∧ t { nx := fun _ H' => Q .non H', rt := Q } (start N vs) H) : CanNK P w K mg base (k + 1) C x n kws sp := by
  obtain ⟨f, fd, F, g⟩ := D.ex
  obtain ⟨ds, vd, bd⟩ := F.binds0 (ps := ps) (n + 1) hk hn hb.off
  obtain ⟨mv, kb⟩ := F.kbinds0 (ps := ps) (n + 1) (kws.map (·.1)) [] (fun us _ ws => us ++ ws) hk (fun q hq => by cases hq) (fun r1 _ r2 => r1.append r2) fun D doc pm an cdv ct us mv ws l1 _ l3 => hb.on D doc pm an cdv ct us ws l1 l3
  exact ⟨f, fd, ps, ds, _, F.ok S len fun cdv A outer s H vs Q E hr h => body f cdv A outer s H vs Q E hr h, ⟨c.mak, g.at_, g.fn, c.kp⟩, c.gC, vd, bd, kb⟩
end
section
variable {X : Cx} {k j n : Nat} {C : Addr} {x : Str} {kws : List (Str × V)} {sp : Sp} {W : WX} {p pos : Pos} {e : Expr} {es : List Expr} {kk : List Keyword} {t tk : TA}
theorem pc_nD (c : CanNK X.prog X.w X.K X.mg X.base k C x n kws sp) (hr : Room j X.A) (hk : k + 1 ≤ j) (hg : Gl X x) (ha : PA X (e :: es) t)
    (hdb : (x == ("__debug__" : Str)) = false := by decide) (he : starEach (e :: es) X.env = (false, eval e X.env) :: starEach es X.env := by rfl) (hpl : (backTo pos (starEach es X.env)).any (·.1) = false := by rfl) :
    PE X (.Call (.Name x p) (e :: es) [] pos) (tMake C sp (kws.map (·.2)) E0 t) := by
  obtain ⟨f, fd, ps, ds, g, F, M, hm, vd, b, _⟩ := c.ex
  exact pe_make M F (hr.mono hk) hg hm b vd passL ha hdb he hpl
theorem pc_nK (c : CanNK X.prog X.w X.K X.mg X.base k C x n kws sp) (hr : Room j X.A) (hk : k + 1 ≤ j) (hg : Gl X x) (ha : PA X (e :: es) t) (hkw : PK X kk tk)
    (hall : (backToKw pos (keywordEach kk X.env)).all (·.1.isSome) = true := by rfl) (hks : (backToKw pos (keywordEach kk X.env)).filterMap (·.1) = kws.map (·.1) := by rfl) (hdb : (x == ("__debug__" : Str)) = false := by decide)
    (he : starEach (e :: es) X.env = (false, eval e X.env) :: starEach es X.env := by rfl) (hpl : ((backTo pos (starEach (e :: es) X.env)).any (·.1) || (backToKw pos (keywordEach kk X.env)).any (·.1.isNone)) = false := by rfl) :
    PE X (.Call (.Name x p) (e :: es) kk pos) (tMakeK C n (kws.map (·.1)).length sp (fun vs zs => vs ++ zs) E0 t tk) := by
  obtain ⟨f, fd, ps, ds, g, F, M, hm, _, _, kb⟩ := c.ex
  exact pe_makeK M F (hr.mono hk) hg hm kb passL ha hkw hall hks hdb he hpl
end
section
variable {K : PySem.W.Frag}
theorem ks_nil {D : Addr} : ∀ q ∈ ([] : List (Str × V)), ∃ u, PySem.W.nsIn K D q.1 = some (some u) ∧ RelV q.2 u := fun q hq => by cases hq
theorem ks_cons {D : Addr} {x : Str} {v : V} {u : Value} {kws : List (Str × V)} (h : PySem.W.nsIn K D x = some (some u)) (r : RelV v u) (t : ∀ q ∈ kws, ∃ u, PySem.W.nsIn K D q.1 = some (some u) ∧ RelV q.2 u) : ∀ q ∈ (x, v) :: kws, ∃ u, PySem.W.nsIn K D q.1 = some (some u) ∧ RelV q.2 u := fun q hq => by
  rcases List.mem_cons.mp hq with rfl | hq
  · exact ⟨u, h, r⟩
  · exact t q hq
theorem initK_of {C D : Addr} {q : Str} {st : Stmt} {kws : List (Str × V)} {f : Addr} {od an : Option Addr} {sl : Array (Option Value)} {oc dc pm cd ct : Value} (a1 : PySem.W.findIn K (.ref C) "__init__" = some (some (.ref f))) (i1 : PySem.W.isFn K (.ref f) = true)
    (l1 : K.lookup f = some ⟨oc, od, .func (PySem.W.fnOf "__init__" q (defArgs st) (defBody st) (defScope st) .none (.ref D) dc pm an cd ct), sl⟩) (c1 : PySem.W.codeIn K cd q = true) (k1 : PySem.W.keepIn K (.ref f) = true)
    (ks : ∀ q ∈ kws, ∃ u, PySem.W.nsIn K D q.1 = some (some u) ∧ RelV q.2 u) : InitK K C q st kws := ⟨f, _, ⟨⟨_, _, _, _, _, _, _, _, _, _, rfl, l1, c1, .inl ⟨rfl, rfl⟩, .inr ⟨D, rfl, ks⟩⟩, k1⟩, ⟨a1, i1, k1⟩⟩
end
end Kit

end
section
set_option Elab.async false
set_option linter.all false
set_option maxRecDepth 100000
set_option maxHeartbeats 4000000
namespace Kit
open PySem PySem.Spec PyProof.Rows L2
/-! ### from what the head wrote down to the text's facts -/
section
variable {K : PySem.W.Frag} {h : Heap} {mg : Str → Option Value}
theorem defT_of {x : Str} {st : Stmt} {f : Addr} {od an : Option Addr} {sl : Array (Option Value)} {oc kV dc pm cd ct : Value} (X : K.In h) (G : h.Ns mainGlobals mg) (a1 : PySem.W.nsIn K mainGlobals x = some (some (.ref f)))
    (l1 : K.lookup f = some ⟨oc, od, .func (PySem.W.fnOf x x (defArgs st) (defBody st) (defScope st) .none kV dc pm an cd ct), sl⟩) (c1 : PySem.W.codeIn K cd x = true) (k1 : PySem.W.keepIn K (.ref f) = true) : DefT K mg x st :=
  ⟨f, _, fun_mk (st := st) l1 c1 k1, PySem.W.mg_of X G a1⟩
theorem metT_of {C : Addr} {m q : Str} {st : Stmt} {f : Addr} {od an : Option Addr} {sl : Array (Option Value)} {oc kV dc pm cd ct : Value} (a1 : PySem.W.findIn K (.ref C) m = some (some (.ref f))) (i1 : PySem.W.isFn K (.ref f) = true)
    (l1 : K.lookup f = some ⟨oc, od, .func (PySem.W.fnOf m q (defArgs st) (defBody st) (defScope st) .none kV dc pm an cd ct), sl⟩) (c1 : PySem.W.codeIn K cd q = true) (k1 : PySem.W.keepIn K (.ref f) = true) : MetT K C m q st :=
  ⟨f, _, fun_mk (st := st) l1 c1 k1, ⟨a1, i1, k1⟩⟩
theorem clsT_of {C : Addr} {x : Str} (X : K.In h) (G : h.Ns mainGlobals mg) (aC : PySem.W.nsIn K mainGlobals x = some (some (.ref C))) (pg : PySem.W.plainGet K C Str.empty = true) (hd : PySem.W.hasDictIn K C = true) (po : PySem.W.plainOver K C = true)
    (sa : PySem.W.findIn K (.ref C) "__setattr__" = some (some (.builtin "object.__setattr__"))) (mk : PySem.W.makesIn K C = true) (kc : PySem.W.keepIn K (.ref C) = true) : ClsT K mg C x := ⟨⟨pg, hd, po, sa⟩, PySem.W.mg_of X G aC, mk, kc⟩
theorem errT_of {C : Addr} {x q fld : Str} {st : Stmt} {f : Addr} {od an : Option Addr} {sl : Array (Option Value)} {oc kV dc pm cd ct : Value}
    {nm qn : Str} {N : Addr} {bs bm : List Value} {sn : List Str} {sub : List Value} {ab : Bool} {col : Option Bool} {dd : Option Addr} {m0 m1 m2 m3 m5 : Option Value}
    (X : K.In h) (G : h.Ns mainGlobals mg) (aC : PySem.W.nsIn K mainGlobals x = some (some (.ref C)))
    (xL : K.lookup C = some (excClassObj nm qn C N bs bm true sn sub ab col dd m0 m1 m2 m3 m5 "ValueError.__new__")) (rf : PySem.HandSPX.refsVE bm = true)
    (sa : PySem.W.findIn K (.ref C) "__setattr__" = some (some (.builtin "object.__setattr__"))) (eC : PySem.W.subIn K (.ref C) (.type "BaseException") = some true) (tC : PySem.W.typeIn K (.ref C) = some (.type "type")) (kC : PySem.W.keepIn K (.ref C) = true)
    (nb : PySem.W.findIn K (.ref C) fld = some none)
    (a1 : PySem.W.findIn K (.ref C) "__init__" = some (some (.ref f))) (t1 : PySem.W.typeIn K (.ref f) = some (.type "function"))
    (l1 : K.lookup f = some ⟨oc, od, .func (PySem.W.fnOf "__init__" q (defArgs st) (defBody st) (defScope st) .none kV dc pm an cd ct), sl⟩) (c1 : PySem.W.codeIn K cd q = true) (k1 : PySem.W.keepIn K (.ref f) = true) : ErrT K mg C x q fld st :=
  ⟨PySem.W.mg_of X G aC, ⟨⟨nm, qn, N, bs, bm, sn, sub, ab, col, dd, m0, m1, m2, m3, m5, xL, rf⟩, sa, eC, tC, kC⟩, nb, f, _, fun_mk (st := st) l1 c1 k1, a1, t1⟩
theorem errC_of {C : Addr} (ga : PySem.W.findIn K (.ref C) "__getattribute__" = some (some (.builtin "BaseException.__getattribute__"))) (gg : PySem.W.findIn K (.ref C) "__getattr__" = some none) (eC : PySem.W.subIn K (.ref C) (.type "BaseException") = some true) (hd : PySem.W.hasDictIn K C = true)
    (ha : PySem.W.findIn K (.ref C) "__class__" = some (some (.builtin "object.__class__"))) (hn : PySem.W.specialIn K (.builtin "object.__class__") "__get__" = some (some (.builtin "getset_descriptor.__get__")))
    (ht : PySem.W.takesIn K (.builtin "object.__class__") = some true) (hm : PySem.W.mroIn K C (.type "object") = some true) (hc : PySem.W.isClsIn K C = true) : ErrC K C := ⟨⟨ga, gg, eC, hd⟩, ha, hn, ht, hm, hc⟩
theorem gval_of {x : Str} {v : V} {u : Value} (X : K.In h) (G : h.Ns mainGlobals mg) (a1 : PySem.W.nsIn K mainGlobals x = some (some u)) (r : RelV v u) : ∃ u, mg x = some u ∧ RelV v u := ⟨u, PySem.W.mg_of X G a1, r⟩
theorem kitR_of {t : Value} {C : Addr} {b : Bool} (hc : PySem.W.isClsIn K C = true) (tC : PySem.W.typeIn K (.ref C) = some (.type "type")) (s : PySem.W.subIn K t (.ref C) = some b) (ne : (t == .ref C) = false) : PySem.W.kitOne K t (.ref C) = some b := by
  have hc : (PySem.W.clsIn K C).isSome = true := hc
  show (if (t == .ref C) = true then some true else if ((PySem.W.clsIn K C).isSome && PySem.W.typeIn K (.ref C) == some (.type "type")) = true then PySem.W.subIn K t (.ref C) else none) = some b
  rw [ne, if_neg (by decide), hc, tC, if_pos (by rfl)]
  exact s
theorem kitS_of {C : Addr} : PySem.W.kitOne K (.ref C) (.ref C) = some true := by
  show (if ((Value.ref C) == .ref C) = true then some true else _) = some true
  rw [if_pos (by simp)]
theorem kitT_of {C : Addr} {n : String} {b : Bool} (m : PySem.W.kitMeta n = true) (s : PySem.W.subIn K (.ref C) (.type n) = some b) : PySem.W.kitOne K (.ref C) (.type n) = some b := by
  show (if ((Value.ref C) == .type n) = true then some true else if PySem.W.kitMeta n = true then PySem.W.subIn K (.ref C) (.type n) else none) = some b
  rw [if_neg (fun q => by cases q), if_pos m]
  exact s
theorem exm_of {cls : Value} {S : Addr} {b : Bool} (h1 : PySem.W.subIn K (.ref S) (.type "BaseException") = some true) (h2 : PySem.W.isClsIn K S = true) (h3 : PySem.W.typeIn K (.ref S) = some (.type "type")) (h4 : PySem.W.subIn K cls (.ref S) = some b) : PySem.W.exmOne K cls (.ref S) = some b := by
  have e1 : (PySem.W.subIn K (.ref S) (.type "BaseException") == some true) = true := by rw [h1] <;> rfl
  have e2 : ((PySem.W.clsIn K S).isSome && PySem.W.typeIn K (.ref S) == some (.type "type")) = true := by
    have h2' : (PySem.W.clsIn K S).isSome = true := h2
    rw [h2', h3] <;> rfl
  show (if (PySem.W.subIn K (.ref S) (.type "BaseException") == some true) = true then (if ((PySem.W.clsIn K S).isSome && PySem.W.typeIn K (.ref S) == some (.type "type")) = true then PySem.W.subIn K cls (.ref S) else none) else none) = some b
  rw [if_pos e1, if_pos e2]
  exact h4
end
end Kit

end
section
set_option Elab.async false
set_option linter.all false
set_option maxRecDepth 100000
set_option maxHeartbeats 4000000
namespace Kit
open PySem PySem.Spec PyProof.Rows L2
/-! ### text[::k] -/
def every (l : List Nat) (k : Nat) : List Nat := (List.range ((l.length + k - 1) / k)).map fun i => l.getD (k * i) 0
theorem fm_map {α β : Type} {f : α → Option β} {g : α → β} : ∀ l : List α, (∀ x ∈ l, f x = some (g x)) → l.filterMap f = l.map g
  | [], _ => rfl
  | a :: l, h => by
    rw [List.filterMap_cons, h a (.head _), List.map_cons, fm_map l fun x hx => h x (.tail _ hx)]
theorem every_at (l : List Nat) {k : Nat} (hk : 2 ≤ k) : (Builtin.Str.strSliceIndices none none (k : Int) (S l).length).filterMap ((S l).cps[·]?) = every l k := by
  rw [S_len]
  have e : Builtin.Str.strSliceIndices none none (k : Int) l.length = (List.range ((l.length + k - 1) / k)).map fun i => k * i := by
    unfold Builtin.Str.strSliceIndices
    dsimp only
    rw [if_pos (by omega), if_pos (by omega)]
    unfold sliceRange
    dsimp only
    rw [if_pos (by omega)]
    have c : (if (0 : Int) < (l.length : Int) then ((l.length : Int) - 0 + k - 1) / k else 0).toNat = (l.length + k - 1) / k := by
      by_cases h : (0 : Int) < (l.length : Int)
      · rw [if_pos h, show ((l.length : Int) - 0 + k - 1) = ((l.length + k - 1 : Nat) : Int) by omega, ← Int.natCast_ediv]
        rfl
      · rw [if_neg h]
        have : l.length = 0 := by omega
        rw [this, Nat.div_eq_of_lt (by omega)]
        rfl
    rw [c]
    refine List.map_congr_left fun i _ => ?_
    rw [Int.zero_add, ← Int.natCast_mul]
    rfl
  rw [e, List.filterMap_map]
  unfold every
  refine fm_map _ fun i hi => ?_
  have hi := List.mem_range.mp hi
  have h2 : k * i < l.length := by
    have h3 : i + 1 ≤ (l.length + k - 1) / k := hi
    have h4 := (Nat.le_div_iff_mul_le (by omega : 0 < k)).mp h3
    rw [Nat.add_mul, Nat.mul_comm] at h4
    omega
  show (S l).cps[k * i]? = some (l.getD (k * i) 0)
  have h5 : (S l).cps[k * i]? = l[k * i]? := by
    show l.toArray[k * i]? = l[k * i]?
    rw [List.getElem?_toArray]
  rw [h5, List.getD_eq_getElem?_getD, List.getElem?_eq_getElem h2]
  rfl
theorem every_len (l : List Nat) (k : Nat) : (every l k).length = (l.length + k - 1) / k := by unfold every; rw [List.length_map, List.length_range]
def tStepS (te ts : TE) : TE := fun σ H Q => te σ H fun x H1 => ∃ l : List Nat, x = tx l ∧ l.length ≤ 100000 ∧ tPart ts σ H1 fun o H2 => ∃ k : Nat, o = some (k : Int) ∧ 2 ≤ k ∧ Q (tx (every l k)) H2
theorem pe_stepS {X : Cx} {e st : Expr} {te ts : TE} {p3 pos : Pos} (he : PE X e te) (hs : PE X st ts) : PE X (.Subscript e (.Slice none none (some st) p3) pos) (tStepS te ts) := by
  refine ⟨fun pins s σ H Q I h => ?_⟩
  refine Subscript_ (thn (he.run pins s σ H _ I h) fun v s1 ⟨x, H1, I1, r1, q1⟩ => ?_)
  obtain ⟨l, ex, hz, q⟩ := q1
  subst ex
  obtain ⟨t, rfl⟩ := r1
  have hst : PO X (some st) (tPart ts) := po_some hs
  refine wpAny_Slice (thn (po_none.run pins s1 σ H1 (fun o H2 => o = none ∧ H2 = H1) I1 ⟨rfl, rfl⟩) fun vl s2 ⟨lo, H2, I2, pl, el, e2⟩ => ?_)
  subst el e2
  refine thn (po_none.run pins s2 σ H2 (fun o H3 => o = none ∧ H3 = H2) I2 ⟨rfl, rfl⟩) fun vu s3 ⟨u, H3, I3, pu, eu, e3⟩ => ?_
  subst eu e3
  refine thn (hst.run pins s3 σ H3 (fun o H4 => ∃ k : Nat, o = some (k : Int) ∧ 2 ≤ k ∧ Q (tx (every l k)) H4) I3 q) fun vs s4 ⟨o, H4, I4, ps, k, eo, hk, q4⟩ => ?_
  · subst eo
    have I5 : Inv X pins σ H4 { s4 with heap := s4.heap.push { cls := .type "slice", data := .fields #[vl, vu, vs] } } := I4.kept (t' := s4.toks) fun b ob q => Heap.get?_push_of_some _ q
    cases pl
    cases pu
    cases ps with
    | int _ t2 =>
      show wpAny (model X.prog X.w) X.A (subscriptTail e (.Slice none none (some st) p3) (.str (S l) t) (.ref s4.heap.objs.size)) (EP X pins σ Q) X.xe { s4 with heap := s4.heap.push { cls := .type "slice", data := .fields #[.none, .none, .int (k : Int) t2] } }
      refine tail_any (ops := [.str (S l) t, .ref s4.heap.objs.size]) (typeIs_str _ _ _) F.slot_str_getitem.lookup ?_ (by with_unfolding_all rfl)
      refine wpAny_getItem_str_slice (l := none) (u := none) (st := some ((k : Int), t2)) ⟨_, Heap.get?_push_size _ rfl, rfl, rfl⟩ (show ((k : Int) == 0) = false from beq_false_of_ne (by omega)) ?_
      show Made.post (if ((k : Int) == 1 && _) = true then _ else Made.str ⟨((Builtin.Str.strSliceIndices none none (k : Int) (S l).length).filterMap ((S l).cps[·]?)).toArray⟩) (EP X pins σ Q) _
      rw [if_neg (by rw [show ((k : Int) == 1) = false from beq_false_of_ne (by omega)]; simp), every_at l hk]
      refine ⟨?_, .str _, H4, I5.tok _, ⟨_, rfl⟩, q4⟩
      show (S (every l k)).length ≤ _
      rw [S_len, every_len]
      refine szl (Nat.div_le_of_le_mul ?_)
      obtain ⟨j, rfl⟩ : ∃ j, k = j + 2 := ⟨k - 2, by omega⟩
      rw [Nat.add_mul]
      omega
end Kit

end
section
set_option Elab.async false
set_option linter.all false
set_option maxRecDepth 100000
set_option maxHeartbeats 4000000
namespace Kit
open PySem PySem.Spec PyProof.Rows L2
/-! ### a kept range, walked -/
def iRngV (te : TE) : TI := fun σ H R => te σ H fun x H1 => ∃ (a : Addr) (lo hi : Int), x = .ref a ∧ H1 a = some (.rng lo hi) ∧ (-(2 ^ 62) ≤ lo ∧ lo < 2 ^ 62 ∧ -(2 ^ 62) ≤ hi ∧ hi < 2 ^ 62) ∧ R (Itr lo (hi - lo).toNat) H1
theorem pi_rngV {X : Cx} {tg e : Expr} {te : TE} (he : PE X e te) : PI X tg e (iRngV te) := by
  refine ⟨fun pins s σ H R I h => ?_⟩
  refine thn (he.run pins s σ H _ I h) fun v s1 ⟨x, H1, I1, r1, q1⟩ => ?_
  obtain ⟨a, lo, hi, ex, ha, ⟨h1, h2, h3, h4⟩, q⟩ := q1
  subst ex
  cases r1
  obtain ⟨t, u, v, ho⟩ := I1.hok a _ ha
  refine wpAny_pyIter_range (show IsRange s1.heap a lo hi 1 t u v from ho) (small_one h1 h2 h3 h4) ?_
  refine ⟨s1.heap.objs.size, [s1.heap.objs.size], _, _, H1, rfl, I1.kept (t' := s1.toks) fun b o e => Heap.get?_push_of_some _ e, turn_range _ lo (hi - lo).toNat, ?_, fun b hb => ?_, q⟩
  · have e1 : lo + ((0 : Nat) : Int) * 1 = lo := by simp
    have e2 : (((hi - lo).toNat : Nat) : Int) - ((0 : Nat) : Int) = Builtin.Range.rangeSize lo hi 1 := by rw [rangeSize_one]; split <;> omega
    show IsRangeIter _ _ (lo + ((0 : Nat) : Int) * 1) ((((hi - lo).toNat : Nat) : Int) - ((0 : Nat) : Int)) 1
    rw [e1, e2]
    exact Heap.get?_push_size _ rfl
  · have e : b = s1.heap.objs.size := by simpa using hb
    subst e
    exact I1.fpOk (Nat.le_refl _) (I1.hok.fresh (Nat.le_refl _))
end Kit

end
section
set_option Elab.async false
set_option linter.all false
set_option maxRecDepth 100000
set_option maxHeartbeats 4000000
namespace Kit
open PySem PySem.Spec PyProof.Rows L2
/-! ### text * whole number -/
section
variable {X : Cx}
theorem op_repS : OpR X (binaryOp .Mult) (fun x y H Q => ∃ z n, x = .str z ∧ y = .int n ∧ MulOk z n ∧ Q (.str (Txt.mul z n)) H) := by
  intro pins s σ H x y v u Q I rx ry h
  obtain ⟨z, n, rfl, rfl, hz, q⟩ := h
  obtain ⟨t, rfl⟩ := rx
  obtain ⟨t', rfl⟩ := ry
  exact SB.mul hz fun t' k => ⟨.str (Txt.mul z n), H, I.tok _, ⟨_, rfl⟩, q⟩
end
theorem foldl_repN (its : List Nat) : ∀ (k : Nat) (acc : List Nat),
    List.foldl (fun x1 x2 => x1 ++ x2) acc.toArray (List.replicate k its.toArray) = (acc ++ (List.replicate k its).flatten).toArray
  | 0, acc => by simp
  | k + 1, acc => by
    have e : acc.toArray ++ its.toArray = (acc ++ its).toArray := by simp
    have e2 : (acc ++ its) ++ (List.replicate k its).flatten = acc ++ (List.replicate (k + 1) its).flatten := by
      rw [List.replicate_succ, List.flatten_cons, List.append_assoc]
    rw [List.replicate_succ, List.foldl_cons, e, foldl_repN its k (acc ++ its), e2]
theorem mul_S (l : List Nat) (k : Nat) : Txt.mul (S l) (k : Int) = S (List.replicate k l).flatten := by
  have f0 : List.foldl (fun x1 x2 => x1 ++ x2) #[] (List.replicate k l.toArray) = (List.replicate k l).flatten.toArray := by
    have := foldl_repN l k []
    rw [List.nil_append] at this
    exact this
  unfold Txt.mul
  by_cases h1 : (k : Int) < 1
  · have : k = 0 := by omega
    subst this
    rw [if_pos h1]
    rfl
  · rw [if_neg h1]
    by_cases h2 : ((k : Int) == 1 || (S l).length == 0) = true
    · rw [if_pos h2]
      rw [Bool.or_eq_true, beq_iff_eq, beq_iff_eq] at h2
      rcases h2 with h2 | h2
      · have : k = 1 := by omega
        subst this
        rw [List.replicate_one, List.flatten_cons, List.flatten_nil, List.append_nil]
      · rw [S_len] at h2
        have : l = [] := List.length_eq_zero_iff.mp h2
        subst this
        congr 1
        induction k with
        | zero => rfl
        | succ k ih => rw [List.replicate_succ, List.flatten_cons, List.nil_append]; exact (by simp : [] = (List.replicate k ([] : List Nat)).flatten)
    · rw [if_neg h2]
      show (⟨_⟩ : Str) = ⟨_⟩
      congr 1
end Kit

end
section
set_option Elab.async false
set_option linter.all false
set_option maxRecDepth 100000
set_option maxHeartbeats 4000000
namespace Kit
open PySem PySem.Spec PyProof.Rows L2
/-! ### math.lcm; ~ of an own class -/
section
variable {X : Cx}
def rLcm : List V → Hp → VK → Prop := fun vs H Q => ∃ a b : Nat, vs = [.int a, .int b] ∧ a ≤ 1000000 ∧ b ≤ 1000000 ∧ Q (.int ((Nat.lcm a b : Nat) : Int)) H
theorem cr_lcm : CallR X (.builtin "math.lcm") rLcm := by
  intro pins s σ H vs us Q I r h
  obtain ⟨a, b, rfl, ha, hb, q⟩ := h
  obtain ⟨t, u, rfl⟩ := Vals.int2 r
  have e : (((Nat.lcm 1 (a : Int).natAbs).lcm (b : Int).natAbs : Nat) : Int) = ((Nat.lcm a b : Nat) : Int) := by
    rw [Int.natAbs_natCast, Int.natAbs_natCast, Nat.lcm_one_left]
  have le : Nat.lcm a b ≤ 1000000 * 1000000 := Nat.le_trans (by rw [Nat.lcm]; exact Nat.div_le_self _ _) (Nat.mul_le_mul ha hb)
  refine PySem.W.mg_lcm_v (by rw [Int.natAbs_natCast]; omega) (by rw [Int.natAbs_natCast]; omega) e ?_ ⟨.int _, H, I.tok _, ⟨_, rfl⟩, q⟩
  rw [Int.natAbs_natCast]
  by_cases z : Nat.lcm a b = 0
  · rw [z]
    decide
  · have := (Nat.log2_lt z (k := 41)).mpr (by omega)
    exact Nat.lt_trans this (by decide)
variable {C : Addr} {k j : Nat} {sp : Sp}
end
end Kit

end
section
set_option Elab.async false
set_option maxRecDepth 100000
set_option maxHeartbeats 4000000
namespace K42
open PySem PySem.Spec PyProof.Rows L2 Kit
def top (i : Nat) : Stmt := PySem.Challenge.pw_galloon_k42_products_and_calls.main.body.getD i (.Pass ⟨0, 0, 0, 0⟩)
abbrev s_BadScheme___init__ : Stmt := (inClass (top 5) 0)
abbrev N_BadScheme___init__ : List Str := ["self", "part"]
abbrev P_BadScheme___init__ : List Str := ["self", "part"]
theorem sc_BadScheme___init__ : FnScope N_BadScheme___init__ P_BadScheme___init__ (defScope s_BadScheme___init__) := ⟨rfl, rfl, rfl, by decide +kernel, rfl, by decide +kernel, by decide +kernel⟩
theorem bd_BadScheme___init__ : BindsPlain s_BadScheme___init__ "__init__" "BadScheme.__init__" P_BadScheme___init__ := fun _ _ _ _ _ _ us hl => match us, hl with | [_, _], _ => rfl
abbrev s_BadColumn___init__ : Stmt := (inClass (top 6) 0)
abbrev s_BadSpots___init__ : Stmt := (inClass (top 7) 0)
abbrev s_BadStrip___init__ : Stmt := (inClass (top 8) 0)
abbrev N_BadStrip___init__ : List Str := ["self", "text"]
abbrev P_BadStrip___init__ : List Str := ["self", "text"]
theorem sc_BadStrip___init__ : FnScope N_BadStrip___init__ P_BadStrip___init__ (defScope s_BadStrip___init__) := ⟨rfl, rfl, rfl, by decide +kernel, rfl, by decide +kernel, by decide +kernel⟩
theorem bd_BadStrip___init__ : BindsPlain s_BadStrip___init__ "__init__" "BadStrip.__init__" P_BadStrip___init__ := fun _ _ _ _ _ _ us hl => match us, hl with | [_, _], _ => rfl
abbrev s_BadEndless___init__ : Stmt := (inClass (top 9) 0)
abbrev N_BadEndless___init__ : List Str := ["self", "part"]
abbrev P_BadEndless___init__ : List Str := ["self", "part"]
theorem sc_BadEndless___init__ : FnScope N_BadEndless___init__ P_BadEndless___init__ (defScope s_BadEndless___init__) := ⟨rfl, rfl, rfl, by decide +kernel, rfl, by decide +kernel, by decide +kernel⟩
theorem bd_BadEndless___init__ : BindsPlain s_BadEndless___init__ "__init__" "BadEndless.__init__" P_BadEndless___init__ := fun _ _ _ _ _ _ us hl => match us, hl with | [_, _], _ => rfl
abbrev s_BadBlock___init__ : Stmt := (inClass (top 10) 0)
abbrev N_BadBlock___init__ : List Str := ["self", "part"]
abbrev P_BadBlock___init__ : List Str := ["self", "part"]
theorem sc_BadBlock___init__ : FnScope N_BadBlock___init__ P_BadBlock___init__ (defScope s_BadBlock___init__) := ⟨rfl, rfl, rfl, by decide +kernel, rfl, by decide +kernel, by decide +kernel⟩
theorem bd_BadBlock___init__ : BindsPlain s_BadBlock___init__ "__init__" "BadBlock.__init__" P_BadBlock___init__ := fun _ _ _ _ _ _ us hl => match us, hl with | [_, _], _ => rfl
abbrev s_Scheme___init__ : Stmt := (inClass (top 15) 2)
abbrev N_Scheme___init__ : List Str := ["self", "rows", "colours", "many", "_"]
abbrev P_Scheme___init__ : List Str := ["self", "rows", "colours"]
theorem sc_Scheme___init__ : FnScope N_Scheme___init__ P_Scheme___init__ (defScope s_Scheme___init__) := ⟨rfl, rfl, rfl, by decide +kernel, rfl, by decide +kernel, by decide +kernel⟩
theorem bd_Scheme___init__ : BindsPlain s_Scheme___init__ "__init__" "Scheme.__init__" P_Scheme___init__ := fun _ _ _ _ _ _ us hl => match us, hl with | [_, _, _], _ => rfl
abbrev s_Scheme___eq__ : Stmt := (inClass (top 15) 3)
abbrev N_Scheme___eq__ : List Str := ["self", "other"]
abbrev P_Scheme___eq__ : List Str := ["self", "other"]
theorem sc_Scheme___eq__ : FnScope N_Scheme___eq__ P_Scheme___eq__ (defScope s_Scheme___eq__) := ⟨rfl, rfl, rfl, by decide +kernel, rfl, by decide +kernel, by decide +kernel⟩
theorem bd_Scheme___eq__ : BindsPlain s_Scheme___eq__ "__eq__" "Scheme.__eq__" P_Scheme___eq__ := fun _ _ _ _ _ _ us hl => match us, hl with | [_, _], _ => rfl
abbrev s_Scheme___len__ : Stmt := (inClass (top 15) 4)
abbrev N_Scheme___len__ : List Str := ["self"]
abbrev P_Scheme___len__ : List Str := ["self"]
theorem sc_Scheme___len__ : FnScope N_Scheme___len__ P_Scheme___len__ (defScope s_Scheme___len__) := ⟨rfl, rfl, rfl, by decide +kernel, rfl, by decide +kernel, by decide +kernel⟩
theorem bd_Scheme___len__ : BindsPlain s_Scheme___len__ "__len__" "Scheme.__len__" P_Scheme___len__ := fun _ _ _ _ _ _ us hl => match us, hl with | [_], _ => rfl
abbrev s_Scheme_is_column : Stmt := (inClass (top 15) 5)
abbrev s_Scheme_is_colour : Stmt := (inClass (top 15) 6)
abbrev s_Scheme_is_strip : Stmt := (inClass (top 15) 7)
abbrev N_Scheme_is_strip : List Str := ["self", "text", "column"]
abbrev P_Scheme_is_strip : List Str := ["self", "text"]
theorem sc_Scheme_is_strip : FnScope N_Scheme_is_strip P_Scheme_is_strip (defScope s_Scheme_is_strip) := ⟨rfl, rfl, rfl, by decide +kernel, rfl, by decide +kernel, by decide +kernel⟩
theorem bd_Scheme_is_strip : BindsPlain s_Scheme_is_strip "is_strip" "Scheme.is_strip" P_Scheme_is_strip := fun _ _ _ _ _ _ us hl => match us, hl with | [_, _], _ => rfl
abbrev s_Scheme_check : Stmt := (inClass (top 15) 8)
abbrev N_Scheme_check : List Str := ["self", "text"]
abbrev P_Scheme_check : List Str := ["self", "text"]
theorem sc_Scheme_check : FnScope N_Scheme_check P_Scheme_check (defScope s_Scheme_check) := ⟨rfl, rfl, rfl, by decide +kernel, rfl, by decide +kernel, by decide +kernel⟩
theorem bd_Scheme_check : BindsPlain s_Scheme_check "check" "Scheme.check" P_Scheme_check := fun _ _ _ _ _ _ us hl => match us, hl with | [_, _], _ => rfl
abbrev s_check_alike : Stmt := (top 16)
abbrev N_check_alike : List Str := ["one", "other"]
abbrev P_check_alike : List Str := ["one", "other"]
theorem sc_check_alike : FnScope N_check_alike P_check_alike (defScope s_check_alike) := ⟨rfl, rfl, rfl, by decide +kernel, rfl, by decide +kernel, by decide +kernel⟩
theorem bd_check_alike : BindsPlain s_check_alike "check_alike" "check_alike" P_check_alike := fun _ _ _ _ _ _ us hl => match us, hl with | [_, _], _ => rfl
abbrev s_Endless___init__ : Stmt := (inClass (top 19) 0)
abbrev N_Endless___init__ : List Str := ["self", "scheme", "left", "middle", "right", "start"]
abbrev P_Endless___init__ : List Str := ["self", "scheme", "left", "middle", "right", "start"]
theorem sc_Endless___init__ : FnScope N_Endless___init__ P_Endless___init__ (defScope s_Endless___init__) := ⟨rfl, rfl, rfl, by decide +kernel, rfl, by decide +kernel, by decide +kernel⟩
abbrev kw_Endless___init__ : List (Str × V) := [("start", .int 0)]
theorem bk_Endless___init__ : BindsKw s_Endless___init__ "Endless.__init__" P_Endless___init__ 5 kw_Endless___init__ := ⟨fun _ _ _ _ _ _ us ks h1 h2 => match us, ks, h1, h2 with | [_, _, _, _, _], [_], _, _ => ⟨_, _, _, _, _, _, rfl, rfl, rfl⟩, fun _ _ _ _ _ _ us ks h1 h2 => match us, ks, h1, h2 with | [_, _, _, _, _], [_], _, _ => rfl⟩
abbrev s_Endless___eq__ : Stmt := (inClass (top 19) 1)
abbrev N_Endless___eq__ : List Str := ["self", "other"]
abbrev P_Endless___eq__ : List Str := ["self", "other"]
theorem sc_Endless___eq__ : FnScope N_Endless___eq__ P_Endless___eq__ (defScope s_Endless___eq__) := ⟨rfl, rfl, rfl, by decide +kernel, rfl, by decide +kernel, by decide +kernel⟩
theorem bd_Endless___eq__ : BindsPlain s_Endless___eq__ "__eq__" "Endless.__eq__" P_Endless___eq__ := fun _ _ _ _ _ _ us hl => match us, hl with | [_, _], _ => rfl
abbrev s_Endless_column_at : Stmt := (inClass (top 19) 2)
abbrev N_Endless_column_at : List Str := ["self", "index", "at"]
abbrev P_Endless_column_at : List Str := ["self", "index"]
theorem sc_Endless_column_at : FnScope N_Endless_column_at P_Endless_column_at (defScope s_Endless_column_at) := ⟨rfl, rfl, rfl, by decide +kernel, rfl, by decide +kernel, by decide +kernel⟩
theorem bd_Endless_column_at : BindsPlain s_Endless_column_at "column_at" "Endless.column_at" P_Endless_column_at := fun _ _ _ _ _ _ us hl => match us, hl with | [_, _], _ => rfl
abbrev s_Endless_window : Stmt := (inClass (top 19) 3)
abbrev N_Endless_window : List Str := ["self", "begin", "stop", "index"]
abbrev P_Endless_window : List Str := ["self", "begin", "stop"]
theorem sc_Endless_window : FnScope N_Endless_window P_Endless_window (defScope s_Endless_window) := ⟨rfl, rfl, rfl, by decide +kernel, rfl, by decide +kernel, by decide +kernel⟩
theorem bd_Endless_window : BindsPlain s_Endless_window "window" "Endless.window" P_Endless_window := fun _ _ _ _ _ _ us hl => match us, hl with | [_, _, _], _ => rfl
abbrev s_Endless_moved : Stmt := (inClass (top 19) 4)
abbrev N_Endless_moved : List Str := ["self", "by"]
abbrev P_Endless_moved : List Str := ["self", "by"]
theorem sc_Endless_moved : FnScope N_Endless_moved P_Endless_moved (defScope s_Endless_moved) := ⟨rfl, rfl, rfl, by decide +kernel, rfl, by decide +kernel, by decide +kernel⟩
theorem bd_Endless_moved : BindsPlain s_Endless_moved "moved" "Endless.moved" P_Endless_moved := fun _ _ _ _ _ _ us hl => match us, hl with | [_, _], _ => rfl
abbrev s_endless_apart : Stmt := (top 20)
abbrev N_endless_apart : List Str := ["first", "second"]
abbrev P_endless_apart : List Str := ["first", "second"]
theorem sc_endless_apart : FnScope N_endless_apart P_endless_apart (defScope s_endless_apart) := ⟨rfl, rfl, rfl, by decide +kernel, rfl, by decide +kernel, by decide +kernel⟩
theorem bd_endless_apart : BindsPlain s_endless_apart "endless_apart" "endless_apart" P_endless_apart := fun _ _ _ _ _ _ us hl => match us, hl with | [_, _], _ => rfl
abbrev s_is_loop : Stmt := (top 21)
abbrev N_is_loop : List Str := ["scheme", "text"]
abbrev P_is_loop : List Str := ["scheme", "text"]
theorem sc_is_loop : FnScope N_is_loop P_is_loop (defScope s_is_loop) := ⟨rfl, rfl, rfl, by decide +kernel, rfl, by decide +kernel, by decide +kernel⟩
theorem bd_is_loop : BindsPlain s_is_loop "_is_loop" "_is_loop" P_is_loop := fun _ _ _ _ _ _ us hl => match us, hl with | [_, _], _ => rfl
abbrev s_apart : Stmt := (top 22)
abbrev N_apart : List Str := ["first", "second", "begin", "stop", "before", "behind", "found", "at", "one", "other", "index"]
abbrev P_apart : List Str := ["first", "second"]
theorem sc_apart : FnScope N_apart P_apart (defScope s_apart) := ⟨rfl, rfl, rfl, by decide +kernel, rfl, by decide +kernel, by decide +kernel⟩
theorem bd_apart : BindsPlain s_apart "_apart" "_apart" P_apart := fun _ _ _ _ _ _ us hl => match us, hl with | [_, _], _ => rfl
abbrev s_Block___init__ : Stmt := (inClass (top 24) 1)
abbrev N_Block___init__ : List Str := ["self", "scheme", "left", "right", "results", "least_left", "least_right", "least_results", "windows", "window", "new"]
abbrev P_Block___init__ : List Str := ["self", "scheme", "left", "right", "results"]
theorem sc_Block___init__ : FnScope N_Block___init__ P_Block___init__ (defScope s_Block___init__) := ⟨rfl, rfl, rfl, by decide +kernel, rfl, by decide +kernel, by decide +kernel⟩
theorem bd_Block___init__ : BindsPlain s_Block___init__ "__init__" "Block.__init__" P_Block___init__ := fun _ _ _ _ _ _ us hl => match us, hl with | [_, _, _, _, _], _ => rfl
abbrev s_Block_identity : Stmt := (inClass (top 24) 2)
abbrev N_Block_identity : List Str := ["cls", "scheme"]
abbrev P_Block_identity : List Str := ["cls", "scheme"]
theorem sc_Block_identity : FnScope N_Block_identity P_Block_identity (defScope s_Block_identity) := ⟨rfl, rfl, rfl, by decide +kernel, rfl, by decide +kernel, by decide +kernel⟩
theorem bd_Block_identity : BindsPlain s_Block_identity "identity" "Block.identity" P_Block_identity := fun _ _ _ _ _ _ us hl => match us, hl with | [_, _], _ => rfl
abbrev s_Block_shift : Stmt := (inClass (top 24) 3)
abbrev N_Block_shift : List Str := ["cls", "scheme", "by", "windows", "window"]
abbrev P_Block_shift : List Str := ["cls", "scheme", "by"]
theorem sc_Block_shift : FnScope N_Block_shift P_Block_shift (defScope s_Block_shift) := ⟨rfl, rfl, rfl, by decide +kernel, rfl, by decide +kernel, by decide +kernel⟩
theorem bd_Block_shift : BindsPlain s_Block_shift "shift" "Block.shift" P_Block_shift := fun _ _ _ _ _ _ us hl => match us, hl with | [_, _, _], _ => rfl
abbrev s_Block___call__ : Stmt := (inClass (top 24) 6)
abbrev N_Block___call__ : List Str := ["self", "endless", "begin", "stop", "left", "middle", "right"]
abbrev P_Block___call__ : List Str := ["self", "endless"]
theorem sc_Block___call__ : FnScope N_Block___call__ P_Block___call__ (defScope s_Block___call__) := ⟨rfl, rfl, rfl, by decide +kernel, rfl, by decide +kernel, by decide +kernel⟩
theorem bd_Block___call__ : BindsPlain s_Block___call__ "__call__" "Block.__call__" P_Block___call__ := fun _ _ _ _ _ _ us hl => match us, hl with | [_, _], _ => rfl
abbrev s_Block___eq__ : Stmt := (inClass (top 24) 7)
abbrev N_Block___eq__ : List Str := ["self", "other"]
abbrev P_Block___eq__ : List Str := ["self", "other"]
theorem sc_Block___eq__ : FnScope N_Block___eq__ P_Block___eq__ (defScope s_Block___eq__) := ⟨rfl, rfl, rfl, by decide +kernel, rfl, by decide +kernel, by decide +kernel⟩
theorem bd_Block___eq__ : BindsPlain s_Block___eq__ "__eq__" "Block.__eq__" P_Block___eq__ := fun _ _ _ _ _ _ us hl => match us, hl with | [_, _], _ => rfl
abbrev s_Block___mul__ : Stmt := (inClass (top 24) 8)
abbrev N_Block___mul__ : List Str := ["self", "other", "left", "right", "windows", "window"]
abbrev P_Block___mul__ : List Str := ["self", "other"]
theorem sc_Block___mul__ : FnScope N_Block___mul__ P_Block___mul__ (defScope s_Block___mul__) := ⟨rfl, rfl, rfl, by decide +kernel, rfl, by decide +kernel, by decide +kernel⟩
theorem bd_Block___mul__ : BindsPlain s_Block___mul__ "__mul__" "Block.__mul__" P_Block___mul__ := fun _ _ _ _ _ _ us hl => match us, hl with | [_, _], _ => rfl
abbrev s_Block_inner : Stmt := (inClass (top 24) 9)
abbrev N_Block_inner : List Str := ["self", "strip", "width", "at"]
abbrev P_Block_inner : List Str := ["self", "strip"]
theorem sc_Block_inner : FnScope N_Block_inner P_Block_inner (defScope s_Block_inner) := ⟨rfl, rfl, rfl, by decide +kernel, rfl, by decide +kernel, by decide +kernel⟩
theorem bd_Block_inner : BindsPlain s_Block_inner "inner" "Block.inner" P_Block_inner := fun _ _ _ _ _ _ us hl => match us, hl with | [_, _], _ => rfl
abbrev s_Block_around : Stmt := (inClass (top 24) 10)
abbrev N_Block_around : List Str := ["self", "strip", "places", "place"]
abbrev P_Block_around : List Str := ["self", "strip"]
theorem sc_Block_around : FnScope N_Block_around P_Block_around (defScope s_Block_around) := ⟨rfl, rfl, rfl, by decide +kernel, rfl, by decide +kernel, by decide +kernel⟩
theorem bd_Block_around : BindsPlain s_Block_around "around" "Block.around" P_Block_around := fun _ _ _ _ _ _ us hl => match us, hl with | [_, _], _ => rfl
abbrev s_Block_mirrored : Stmt := (inClass (top 24) 11)
abbrev N_Block_mirrored : List Str := ["self", "windows", "results", "window"]
abbrev P_Block_mirrored : List Str := ["self"]
theorem sc_Block_mirrored : FnScope N_Block_mirrored P_Block_mirrored (defScope s_Block_mirrored) := ⟨rfl, rfl, rfl, by decide +kernel, rfl, by decide +kernel, by decide +kernel⟩
theorem bd_Block_mirrored : BindsPlain s_Block_mirrored "mirrored" "Block.mirrored" P_Block_mirrored := fun _ _ _ _ _ _ us hl => match us, hl with | [_], _ => rfl
abbrev s_Block__made : Stmt := (inClass (top 24) 12)
abbrev N_Block__made : List Str := ["self", "endless", "begin", "stop"]
abbrev P_Block__made : List Str := ["self", "endless", "begin", "stop"]
theorem sc_Block__made : FnScope N_Block__made P_Block__made (defScope s_Block__made) := ⟨rfl, rfl, rfl, by decide +kernel, rfl, by decide +kernel, by decide +kernel⟩
theorem bd_Block__made : BindsPlain s_Block__made "_made" "Block._made" P_Block__made := fun _ _ _ _ _ _ us hl => match us, hl with | [_, _, _, _], _ => rfl
abbrev s_is_narrow : Stmt := (top 25)
abbrev N_is_narrow : List Str := ["scheme", "width", "many", "left"]
abbrev P_is_narrow : List Str := ["scheme", "width"]
theorem sc_is_narrow : FnScope N_is_narrow P_is_narrow (defScope s_is_narrow) := ⟨rfl, rfl, rfl, by decide +kernel, rfl, by decide +kernel, by decide +kernel⟩
theorem bd_is_narrow : BindsPlain s_is_narrow "is_narrow" "is_narrow" P_is_narrow := fun _ _ _ _ _ _ us hl => match us, hl with | [_, _], _ => rfl
abbrev s_words_of : Stmt := (top 26)
abbrev N_words_of : List Str := ["scheme", "width", "words", "_", "word", "column"]
abbrev P_words_of : List Str := ["scheme", "width"]
theorem sc_words_of : FnScope N_words_of P_words_of (defScope s_words_of) := ⟨rfl, rfl, rfl, by decide +kernel, rfl, by decide +kernel, by decide +kernel⟩
theorem bd_words_of : BindsPlain s_words_of "words_of" "words_of" P_words_of := fun _ _ _ _ _ _ us hl => match us, hl with | [_, _], _ => rfl
abbrev s_least_form : Stmt := (top 27)
abbrev N_least_form : List Str := ["scheme", "left", "right", "results", "many", "least", "front", "back"]
abbrev P_least_form : List Str := ["scheme", "left", "right", "results"]
theorem sc_least_form : FnScope N_least_form P_least_form (defScope s_least_form) := ⟨rfl, rfl, rfl, by decide +kernel, rfl, by decide +kernel, by decide +kernel⟩
theorem bd_least_form : BindsPlain s_least_form "_least_form" "_least_form" P_least_form := fun _ _ _ _ _ _ us hl => match us, hl with | [_, _, _, _], _ => rfl
abbrev s_is_blind : Stmt := (top 28)
abbrev N_is_blind : List Str := ["results", "many", "at"]
abbrev P_is_blind : List Str := ["results", "many"]
theorem sc_is_blind : FnScope N_is_blind P_is_blind (defScope s_is_blind) := ⟨rfl, rfl, rfl, by decide +kernel, rfl, by decide +kernel, by decide +kernel⟩
theorem bd_is_blind : BindsPlain s_is_blind "_is_blind" "_is_blind" P_is_blind := fun _ _ _ _ _ _ us hl => match us, hl with | [_, _], _ => rfl
abbrev s_law_source : Stmt := (top 30)
abbrev N_law_source : List Str := ["script"]
abbrev P_law_source : List Str := ["script"]
theorem sc_law_source : FnScope N_law_source P_law_source (defScope s_law_source) := ⟨rfl, rfl, rfl, by decide +kernel, rfl, by decide +kernel, by decide +kernel⟩
theorem bd_law_source : BindsPlain s_law_source "_law_source" "_law_source" P_law_source := fun _ _ _ _ _ _ us hl => match us, hl with | [_], _ => rfl
abbrev s_law_draw : Stmt := (top 31)
abbrev N_law_draw : List Str := ["source", "size", "cells", "cell", "value", "first", "second", "third"]
abbrev P_law_draw : List Str := ["source", "size"]
theorem sc_law_draw : FnScope N_law_draw P_law_draw (defScope s_law_draw) := ⟨rfl, rfl, rfl, by decide +kernel, rfl, by decide +kernel, by decide +kernel⟩
theorem bd_law_draw : BindsPlain s_law_draw "_law_draw" "_law_draw" P_law_draw := fun _ _ _ _ _ _ us hl => match us, hl with | [_, _], _ => rfl
abbrev s_law_strip : Stmt := (top 32)
abbrev N_law_strip : List Str := ["source", "columns", "size", "k"]
abbrev P_law_strip : List Str := ["source", "columns", "size"]
theorem sc_law_strip : FnScope N_law_strip P_law_strip (defScope s_law_strip) := ⟨rfl, rfl, rfl, by decide +kernel, rfl, by decide +kernel, by decide +kernel⟩
theorem bd_law_strip : BindsPlain s_law_strip "_law_strip" "_law_strip" P_law_strip := fun _ _ _ _ _ _ us hl => match us, hl with | [_, _, _], _ => rfl
abbrev s_law_is_integer : Stmt := (top 33)
abbrev N_law_is_integer : List Str := ["told"]
abbrev P_law_is_integer : List Str := ["told"]
theorem sc_law_is_integer : FnScope N_law_is_integer P_law_is_integer (defScope s_law_is_integer) := ⟨rfl, rfl, rfl, by decide +kernel, rfl, by decide +kernel, by decide +kernel⟩
theorem bd_law_is_integer : BindsPlain s_law_is_integer "_law_is_integer" "_law_is_integer" P_law_is_integer := fun _ _ _ _ _ _ us hl => match us, hl with | [_], _ => rfl
abbrev s_law_windows : Stmt := (top 34)
abbrev N_law_windows : List Str := ["columns", "width", "rows", "k", "longer", "row", "column"]
abbrev P_law_windows : List Str := ["columns", "width"]
theorem sc_law_windows : FnScope N_law_windows P_law_windows (defScope s_law_windows) := ⟨rfl, rfl, rfl, by decide +kernel, rfl, by decide +kernel, by decide +kernel⟩
theorem bd_law_windows : BindsPlain s_law_windows "_law_windows" "_law_windows" P_law_windows := fun _ _ _ _ _ _ us hl => match us, hl with | [_, _], _ => rfl
abbrev s_law_table : Stmt := (top 35)
abbrev N_law_table : List Str := ["columns", "width", "results", "table", "at", "window"]
abbrev P_law_table : List Str := ["columns", "width", "results"]
theorem sc_law_table : FnScope N_law_table P_law_table (defScope s_law_table) := ⟨rfl, rfl, rfl, by decide +kernel, rfl, by decide +kernel, by decide +kernel⟩
theorem bd_law_table : BindsPlain s_law_table "_law_table" "_law_table" P_law_table := fun _ _ _ _ _ _ us hl => match us, hl with | [_, _, _], _ => rfl
abbrev s_law_shuffled : Stmt := (top 36)
abbrev N_law_shuffled : List Str := ["source", "columns", "rest", "row", "k"]
abbrev P_law_shuffled : List Str := ["source", "columns"]
theorem sc_law_shuffled : FnScope N_law_shuffled P_law_shuffled (defScope s_law_shuffled) := ⟨rfl, rfl, rfl, by decide +kernel, rfl, by decide +kernel, by decide +kernel⟩
theorem bd_law_shuffled : BindsPlain s_law_shuffled "_law_shuffled" "_law_shuffled" P_law_shuffled := fun _ _ _ _ _ _ us hl => match us, hl with | [_, _], _ => rfl
abbrev s_law_permuted : Stmt := (top 37)
abbrev N_law_permuted : List Str := ["source", "columns", "width", "kind", "rows", "prefix", "many", "k", "text", "at"]
abbrev P_law_permuted : List Str := ["source", "columns", "width", "kind"]
theorem sc_law_permuted : FnScope N_law_permuted P_law_permuted (defScope s_law_permuted) := ⟨rfl, rfl, rfl, by decide +kernel, rfl, by decide +kernel, by decide +kernel⟩
theorem bd_law_permuted : BindsPlain s_law_permuted "_law_permuted" "_law_permuted" P_law_permuted := fun _ _ _ _ _ _ us hl => match us, hl with | [_, _, _, _], _ => rfl
abbrev s_law_results : Stmt := (top 38)
abbrev N_law_results : List Str := ["source", "columns", "width", "kind", "windows", "place", "row", "window", "core", "column"]
abbrev P_law_results : List Str := ["source", "columns", "width", "kind"]
theorem sc_law_results : FnScope N_law_results P_law_results (defScope s_law_results) := ⟨rfl, rfl, rfl, by decide +kernel, rfl, by decide +kernel, by decide +kernel⟩
theorem bd_law_results : BindsPlain s_law_results "_law_results" "_law_results" P_law_results := fun _ _ _ _ _ _ us hl => match us, hl with | [_, _, _, _], _ => rfl
abbrev s_law_inner : Stmt := (top 39)
abbrev N_law_inner : List Str := ["table", "width", "strip", "at"]
abbrev P_law_inner : List Str := ["table", "width", "strip"]
theorem sc_law_inner : FnScope N_law_inner P_law_inner (defScope s_law_inner) := ⟨rfl, rfl, rfl, by decide +kernel, rfl, by decide +kernel, by decide +kernel⟩
theorem bd_law_inner : BindsPlain s_law_inner "_law_inner" "_law_inner" P_law_inner := fun _ _ _ _ _ _ us hl => match us, hl with | [_, _, _], _ => rfl
abbrev s_law_around : Stmt := (top 40)
abbrev N_law_around : List Str := ["table", "left", "width", "ring", "many", "long", "at"]
abbrev P_law_around : List Str := ["table", "left", "width", "ring"]
theorem sc_law_around : FnScope N_law_around P_law_around (defScope s_law_around) := ⟨rfl, rfl, rfl, by decide +kernel, rfl, by decide +kernel, by decide +kernel⟩
theorem bd_law_around : BindsPlain s_law_around "_law_around" "_law_around" P_law_around := fun _ _ _ _ _ _ us hl => match us, hl with | [_, _, _, _], _ => rfl
abbrev s_law_least : Stmt := (top 41)
abbrev N_law_least : List Str := ["columns", "wide", "left", "right", "results", "many", "low", "high", "k", "column"]
abbrev P_law_least : List Str := ["columns", "wide"]
theorem sc_law_least : FnScope N_law_least P_law_least (defScope s_law_least) := ⟨rfl, rfl, rfl, by decide +kernel, rfl, by decide +kernel, by decide +kernel⟩
theorem bd_law_least : BindsPlain s_law_least "_law_least" "_law_least" P_law_least := fun _ _ _ _ _ _ us hl => match us, hl with | [_, _], _ => rfl
abbrev s_law_joined : Stmt := (top 42)
abbrev N_law_joined : List Str := ["columns", "one", "other", "width", "table", "after", "windows", "results", "window"]
abbrev P_law_joined : List Str := ["columns", "one", "other"]
theorem sc_law_joined : FnScope N_law_joined P_law_joined (defScope s_law_joined) := ⟨rfl, rfl, rfl, by decide +kernel, rfl, by decide +kernel, by decide +kernel⟩
theorem bd_law_joined : BindsPlain s_law_joined "_law_joined" "_law_joined" P_law_joined := fun _ _ _ _ _ _ us hl => match us, hl with | [_, _, _], _ => rfl
abbrev s_law_power : Stmt := (top 43)
abbrev N_law_power : List Str := ["base", "times", "worth", "k"]
abbrev P_law_power : List Str := ["base", "times"]
theorem sc_law_power : FnScope N_law_power P_law_power (defScope s_law_power) := ⟨rfl, rfl, rfl, by decide +kernel, rfl, by decide +kernel, by decide +kernel⟩
theorem bd_law_power : BindsPlain s_law_power "_law_power" "_law_power" P_law_power := fun _ _ _ _ _ _ us hl => match us, hl with | [_, _], _ => rfl
abbrev s_law_column : Stmt := (top 44)
abbrev N_law_column : List Str := ["parts", "index", "left", "middle", "right", "begin", "place"]
abbrev P_law_column : List Str := ["parts", "index"]
theorem sc_law_column : FnScope N_law_column P_law_column (defScope s_law_column) := ⟨rfl, rfl, rfl, by decide +kernel, rfl, by decide +kernel, by decide +kernel⟩
theorem bd_law_column : BindsPlain s_law_column "_law_column" "_law_column" P_law_column := fun _ _ _ _ _ _ us hl => match us, hl with | [_, _], _ => rfl
abbrev s_law_text : Stmt := (top 45)
abbrev N_law_text : List Str := ["parts", "begin", "stop", "index"]
abbrev P_law_text : List Str := ["parts", "begin", "stop"]
theorem sc_law_text : FnScope N_law_text P_law_text (defScope s_law_text) := ⟨rfl, rfl, rfl, by decide +kernel, rfl, by decide +kernel, by decide +kernel⟩
theorem bd_law_text : BindsPlain s_law_text "_law_text" "_law_text" P_law_text := fun _ _ _ _ _ _ us hl => match us, hl with | [_, _, _], _ => rfl
abbrev s_law_made : Stmt := (top 46)
abbrev N_law_made : List Str := ["scheme", "parts"]
abbrev P_law_made : List Str := ["scheme", "parts"]
theorem sc_law_made : FnScope N_law_made P_law_made (defScope s_law_made) := ⟨rfl, rfl, rfl, by decide +kernel, rfl, by decide +kernel, by decide +kernel⟩
theorem bd_law_made : BindsPlain s_law_made "_law_made" "_law_made" P_law_made := fun _ _ _ _ _ _ us hl => match us, hl with | [_, _], _ => rfl
abbrev s_law_image : Stmt := (top 47)
abbrev N_law_image : List Str := ["table", "left", "right", "parts", "low", "high", "begin", "stop", "text", "at"]
abbrev P_law_image : List Str := ["table", "left", "right", "parts"]
theorem sc_law_image : FnScope N_law_image P_law_image (defScope s_law_image) := ⟨rfl, rfl, rfl, by decide +kernel, rfl, by decide +kernel, by decide +kernel⟩
theorem bd_law_image : BindsPlain s_law_image "_law_image" "_law_image" P_law_image := fun _ _ _ _ _ _ us hl => match us, hl with | [_, _, _, _], _ => rfl
abbrev s_law_shape : Stmt := (top 48)
abbrev N_law_shape : List Str := ["source", "pick", "shapes"]
abbrev P_law_shape : List Str := ["source"]
theorem sc_law_shape : FnScope N_law_shape P_law_shape (defScope s_law_shape) := ⟨rfl, rfl, rfl, by decide +kernel, rfl, by decide +kernel, by decide +kernel⟩
theorem bd_law_shape : BindsPlain s_law_shape "_law_shape" "_law_shape" P_law_shape := fun _ _ _ _ _ _ us hl => match us, hl with | [_], _ => rfl
abbrev s_law_block : Stmt := (top 49)
abbrev N_law_block : List Str := ["source", "columns", "most", "width", "kind", "left"]
abbrev P_law_block : List Str := ["source", "columns", "most"]
theorem sc_law_block : FnScope N_law_block P_law_block (defScope s_law_block) := ⟨rfl, rfl, rfl, by decide +kernel, rfl, by decide +kernel, by decide +kernel⟩
theorem bd_law_block : BindsPlain s_law_block "_law_block" "_law_block" P_law_block := fun _ _ _ _ _ _ us hl => match us, hl with | [_, _, _], _ => rfl
abbrev s_law_parts : Stmt := (top 50)
abbrev N_law_parts : List Str := ["source", "columns", "begin", "left", "middle", "right"]
abbrev P_law_parts : List Str := ["source", "columns"]
theorem sc_law_parts : FnScope N_law_parts P_law_parts (defScope s_law_parts) := ⟨rfl, rfl, rfl, by decide +kernel, rfl, by decide +kernel, by decide +kernel⟩
theorem bd_law_parts : BindsPlain s_law_parts "_law_parts" "_law_parts" P_law_parts := fun _ _ _ _ _ _ us hl => match us, hl with | [_, _], _ => rfl
abbrev s_law_strips : Stmt := (top 51)
abbrev N_law_strips : List Str := ["source", "columns", "size"]
abbrev P_law_strips : List Str := ["source", "columns"]
theorem sc_law_strips : FnScope N_law_strips P_law_strips (defScope s_law_strips) := ⟨rfl, rfl, rfl, by decide +kernel, rfl, by decide +kernel, by decide +kernel⟩
theorem bd_law_strips : BindsPlain s_law_strips "_law_strips" "_law_strips" P_law_strips := fun _ _ _ _ _ _ us hl => match us, hl with | [_, _], _ => rfl
abbrev s_law_is_block : Stmt := (top 52)
abbrev N_law_is_block : List Str := ["scheme", "block", "due"]
abbrev P_law_is_block : List Str := ["scheme", "block", "due"]
theorem sc_law_is_block : FnScope N_law_is_block P_law_is_block (defScope s_law_is_block) := ⟨rfl, rfl, rfl, by decide +kernel, rfl, by decide +kernel, by decide +kernel⟩
theorem bd_law_is_block : BindsPlain s_law_is_block "_law_is_block" "_law_is_block" P_law_is_block := fun _ _ _ _ _ _ us hl => match us, hl with | [_, _, _], _ => rfl
abbrev s_law_strips_hold : Stmt := (top 53)
abbrev N_law_strips_hold : List Str := ["columns", "block", "least", "strips", "width", "table", "strip", "told"]
abbrev P_law_strips_hold : List Str := ["columns", "block", "least", "strips"]
theorem sc_law_strips_hold : FnScope N_law_strips_hold P_law_strips_hold (defScope s_law_strips_hold) := ⟨rfl, rfl, rfl, by decide +kernel, rfl, by decide +kernel, by decide +kernel⟩
theorem bd_law_strips_hold : BindsPlain s_law_strips_hold "_law_strips_hold" "_law_strips_hold" P_law_strips_hold := fun _ _ _ _ _ _ us hl => match us, hl with | [_, _, _, _], _ => rfl
abbrev s_law_product : Stmt := (top 54)
abbrev N_law_product : List Str := ["first", "second", "e"]
abbrev P_law_product : List Str := ["first", "second"]
theorem sc_law_product : FnScope N_law_product P_law_product (defScope s_law_product) := ⟨rfl, rfl, rfl, by decide +kernel, rfl, by decide +kernel, by decide +kernel⟩
theorem bd_law_product : BindsPlain s_law_product "_law_product" "_law_product" P_law_product := fun _ _ _ _ _ _ us hl => match us, hl with | [_, _], _ => rfl
abbrev s_law_product_holds : Stmt := (top 55)
abbrev N_law_product_holds : List Str := ["scheme", "columns", "one", "other", "first", "second", "strips", "told", "due"]
abbrev P_law_product_holds : List Str := ["scheme", "columns", "one", "other", "first", "second", "strips"]
theorem sc_law_product_holds : FnScope N_law_product_holds P_law_product_holds (defScope s_law_product_holds) := ⟨rfl, rfl, rfl, by decide +kernel, rfl, by decide +kernel, by decide +kernel⟩
theorem bd_law_product_holds : BindsPlain s_law_product_holds "_law_product_holds" "_law_product_holds" P_law_product_holds := fun _ _ _ _ _ _ us hl => match us, hl with | [_, _, _, _, _, _, _], _ => rfl
abbrev s_law_call_holds : Stmt := (top 56)
abbrev N_law_call_holds : List Str := ["scheme", "columns", "one", "other", "first", "second", "parts", "endless", "table", "after", "told", "last", "both"]
abbrev P_law_call_holds : List Str := ["scheme", "columns", "one", "other", "first", "second", "parts"]
theorem sc_law_call_holds : FnScope N_law_call_holds P_law_call_holds (defScope s_law_call_holds) := ⟨rfl, rfl, rfl, by decide +kernel, rfl, by decide +kernel, by decide +kernel⟩
theorem bd_law_call_holds : BindsPlain s_law_call_holds "_law_call_holds" "_law_call_holds" P_law_call_holds := fun _ _ _ _ _ _ us hl => match us, hl with | [_, _, _, _, _, _, _], _ => rfl
abbrev s_law_mirrored_holds : Stmt := (top 57)
abbrev N_law_mirrored_holds : List Str := ["scheme", "columns", "one", "first", "strips", "width", "table", "due", "window", "told", "strip"]
abbrev P_law_mirrored_holds : List Str := ["scheme", "columns", "one", "first", "strips"]
theorem sc_law_mirrored_holds : FnScope N_law_mirrored_holds P_law_mirrored_holds (defScope s_law_mirrored_holds) := ⟨rfl, rfl, rfl, by decide +kernel, rfl, by decide +kernel, by decide +kernel⟩
theorem bd_law_mirrored_holds : BindsPlain s_law_mirrored_holds "_law_mirrored_holds" "_law_mirrored_holds" P_law_mirrored_holds := fun _ _ _ _ _ _ us hl => match us, hl with | [_, _, _, _, _], _ => rfl
abbrev s_law_shift : Stmt := (top 58)
abbrev N_law_shift : List Str := ["scheme", "by", "e"]
abbrev P_law_shift : List Str := ["scheme", "by"]
theorem sc_law_shift : FnScope N_law_shift P_law_shift (defScope s_law_shift) := ⟨rfl, rfl, rfl, by decide +kernel, rfl, by decide +kernel, by decide +kernel⟩
theorem bd_law_shift : BindsPlain s_law_shift "_law_shift" "_law_shift" P_law_shift := fun _ _ _ _ _ _ us hl => match us, hl with | [_, _], _ => rfl
abbrev s_law_shift_holds : Stmt := (top 59)
abbrev N_law_shift_holds : List Str := ["source", "scheme", "columns", "first", "parts", "bound", "by", "told", "place", "due", "window", "endless", "near"]
abbrev P_law_shift_holds : List Str := ["source", "scheme", "columns", "first", "parts"]
theorem sc_law_shift_holds : FnScope N_law_shift_holds P_law_shift_holds (defScope s_law_shift_holds) := ⟨rfl, rfl, rfl, by decide +kernel, rfl, by decide +kernel, by decide +kernel⟩
theorem bd_law_shift_holds : BindsPlain s_law_shift_holds "_law_shift_holds" "_law_shift_holds" P_law_shift_holds := fun _ _ _ _ _ _ us hl => match us, hl with | [_, _, _, _, _], _ => rfl
abbrev s_law_identity_holds : Stmt := (top 60)
abbrev N_law_identity_holds : List Str := ["scheme", "columns", "first", "plain"]
abbrev P_law_identity_holds : List Str := ["scheme", "columns", "first"]
theorem sc_law_identity_holds : FnScope N_law_identity_holds P_law_identity_holds (defScope s_law_identity_holds) := ⟨rfl, rfl, rfl, by decide +kernel, rfl, by decide +kernel, by decide +kernel⟩
theorem bd_law_identity_holds : BindsPlain s_law_identity_holds "_law_identity_holds" "_law_identity_holds" P_law_identity_holds := fun _ _ _ _ _ _ us hl => match us, hl with | [_, _, _], _ => rfl
abbrev s_law_refused : Stmt := (top 61)
abbrev N_law_refused : List Str := ["first", "text", "pick", "e"]
abbrev P_law_refused : List Str := ["first", "text", "pick"]
theorem sc_law_refused : FnScope N_law_refused P_law_refused (defScope s_law_refused) := ⟨rfl, rfl, rfl, by decide +kernel, rfl, by decide +kernel, by decide +kernel⟩
theorem bd_law_refused : BindsPlain s_law_refused "_law_refused" "_law_refused" P_law_refused := fun _ _ _ _ _ _ us hl => match us, hl with | [_, _, _], _ => rfl
abbrev s_law_unlike : Stmt := (top 62)
abbrev N_law_unlike : List Str := ["first", "second", "told", "e"]
abbrev P_law_unlike : List Str := ["first", "second"]
theorem sc_law_unlike : FnScope N_law_unlike P_law_unlike (defScope s_law_unlike) := ⟨rfl, rfl, rfl, by decide +kernel, rfl, by decide +kernel, by decide +kernel⟩
theorem bd_law_unlike : BindsPlain s_law_unlike "_law_unlike" "_law_unlike" P_law_unlike := fun _ _ _ _ _ _ us hl => match us, hl with | [_, _], _ => rfl
abbrev s_law_unlike_call : Stmt := (top 63)
abbrev N_law_unlike_call : List Str := ["first", "endless", "e"]
abbrev P_law_unlike_call : List Str := ["first", "endless"]
theorem sc_law_unlike_call : FnScope N_law_unlike_call P_law_unlike_call (defScope s_law_unlike_call) := ⟨rfl, rfl, rfl, by decide +kernel, rfl, by decide +kernel, by decide +kernel⟩
theorem bd_law_unlike_call : BindsPlain s_law_unlike_call "_law_unlike_call" "_law_unlike_call" P_law_unlike_call := fun _ _ _ _ _ _ us hl => match us, hl with | [_, _], _ => rfl
abbrev s_law_errors_hold : Stmt := (top 64)
abbrev N_law_errors_hold : List Str := ["source", "columns", "first", "strange", "other", "text", "at"]
abbrev P_law_errors_hold : List Str := ["source", "columns", "first"]
theorem sc_law_errors_hold : FnScope N_law_errors_hold P_law_errors_hold (defScope s_law_errors_hold) := ⟨rfl, rfl, rfl, by decide +kernel, rfl, by decide +kernel, by decide +kernel⟩
theorem bd_law_errors_hold : BindsPlain s_law_errors_hold "_law_errors_hold" "_law_errors_hold" P_law_errors_hold := fun _ _ _ _ _ _ us hl => match us, hl with | [_, _, _], _ => rfl
abbrev s_law : Stmt := (top 65)
abbrev N_law : List Str := ["script", "source", "rows", "colours", "columns", "most", "most_other", "scheme", "one", "strips", "parts", "other", "first", "second", "block", "least"]
abbrev P_law : List Str := ["script"]
theorem sc_law : FnScope N_law P_law (defScope s_law) := ⟨rfl, rfl, rfl, by decide +kernel, rfl, by decide +kernel, by decide +kernel⟩
structure Ad where
  GalloonError : Addr
  UnlikeSchemes : Addr
  BadScheme : Addr
  BadColumn : Addr
  BadSpots : Addr
  BadStrip : Addr
  BadEndless : Addr
  BadBlock : Addr
  TooWide : Addr
  Scheme : Addr
  Endless : Addr
  Block : Addr
def eAd (a : Ad) : Nat → Addr
  | 0 => a.BadScheme
  | 1 => a.BadColumn
  | 2 => a.BadSpots
  | 3 => a.BadStrip
  | 4 => a.BadEndless
  | 5 => a.BadBlock
  | 6 => a.UnlikeSchemes
  | _ => a.TooWide
structure Txt (K : PySem.W.Frag) (mg : Str → Option Value) (a : Ad) : Prop where
  b_ValueError : mg "ValueError" = none
  b_abs : mg "abs" = none
  b_all : mg "all" = none
  b_bool : mg "bool" = none
  b_classmethod : mg "classmethod" = none
  b_enumerate : mg "enumerate" = none
  b_int : mg "int" = none
  b_isinstance : mg "isinstance" = none
  b_len : mg "len" = none
  b_list : mg "list" = none
  b_max : mg "max" = none
  b_min : mg "min" = none
  b_range : mg "range" = none
  b_str : mg "str" = none
  b_zip : mg "zip" = none
  g_DIGITS : ∃ u, mg "DIGITS" = some u ∧ RelV (.str "012") u
  g_LETTERS : ∃ u, mg "LETTERS" = some u ∧ RelV (.str "abcdefghi") u
  g_MOST_LOOP : ∃ u, mg "MOST_LOOP" = some u ∧ RelV (.int 6) u
  g_GalloonError : mg "GalloonError" = some (.ref a.GalloonError)
  z_UnlikeSchemes : ErrZ K mg a.UnlikeSchemes "UnlikeSchemes"
  x_UnlikeSchemes : ErrC K a.UnlikeSchemes
  e_BadScheme : ErrT K mg a.BadScheme "BadScheme" "BadScheme.__init__" "part" s_BadScheme___init__
  x_BadScheme : ErrC K a.BadScheme
  e_BadColumn : ErrT K mg a.BadColumn "BadColumn" "BadColumn.__init__" "text" s_BadColumn___init__
  x_BadColumn : ErrC K a.BadColumn
  e_BadSpots : ErrT K mg a.BadSpots "BadSpots" "BadSpots.__init__" "text" s_BadSpots___init__
  x_BadSpots : ErrC K a.BadSpots
  e_BadStrip : ErrT K mg a.BadStrip "BadStrip" "BadStrip.__init__" "text" s_BadStrip___init__
  x_BadStrip : ErrC K a.BadStrip
  e_BadEndless : ErrT K mg a.BadEndless "BadEndless" "BadEndless.__init__" "part" s_BadEndless___init__
  x_BadEndless : ErrC K a.BadEndless
  e_BadBlock : ErrT K mg a.BadBlock "BadBlock" "BadBlock.__init__" "part" s_BadBlock___init__
  x_BadBlock : ErrC K a.BadBlock
  z_TooWide : ErrZ K mg a.TooWide "TooWide"
  x_TooWide : ErrC K a.TooWide
  c_Scheme : ClsT K mg a.Scheme "Scheme"
  m_Scheme___init__ : MetT K a.Scheme "__init__" "Scheme.__init__" s_Scheme___init__
  m_Scheme___eq__ : MetT K a.Scheme "__eq__" "Scheme.__eq__" s_Scheme___eq__
  m_Scheme___len__ : MetT K a.Scheme "__len__" "Scheme.__len__" s_Scheme___len__
  m_Scheme_is_column : MetT K a.Scheme "is_column" "Scheme.is_column" s_Scheme_is_column
  m_Scheme_is_colour : MetT K a.Scheme "is_colour" "Scheme.is_colour" s_Scheme_is_colour
  m_Scheme_is_strip : MetT K a.Scheme "is_strip" "Scheme.is_strip" s_Scheme_is_strip
  m_Scheme_check : MetT K a.Scheme "check" "Scheme.check" s_Scheme_check
  c_Endless : ClsT K mg a.Endless "Endless"
  m_Endless___init__ : InitK K a.Endless "Endless.__init__" s_Endless___init__ kw_Endless___init__
  m_Endless___eq__ : MetT K a.Endless "__eq__" "Endless.__eq__" s_Endless___eq__
  m_Endless_column_at : MetT K a.Endless "column_at" "Endless.column_at" s_Endless_column_at
  m_Endless_window : MetT K a.Endless "window" "Endless.window" s_Endless_window
  m_Endless_moved : MetT K a.Endless "moved" "Endless.moved" s_Endless_moved
  c_Block : ClsT K mg a.Block "Block"
  m_Block___init__ : MetT K a.Block "__init__" "Block.__init__" s_Block___init__
  m_Block_identity : CmT K a.Block "identity" "Block.identity" s_Block_identity
  m_Block_shift : CmT K a.Block "shift" "Block.shift" s_Block_shift
  m_Block___call__ : MetT K a.Block "__call__" "Block.__call__" s_Block___call__
  m_Block___eq__ : MetT K a.Block "__eq__" "Block.__eq__" s_Block___eq__
  m_Block___mul__ : MetT K a.Block "__mul__" "Block.__mul__" s_Block___mul__
  m_Block_inner : MetT K a.Block "inner" "Block.inner" s_Block_inner
  m_Block_around : MetT K a.Block "around" "Block.around" s_Block_around
  m_Block_mirrored : MetT K a.Block "mirrored" "Block.mirrored" s_Block_mirrored
  m_Block__made : MetT K a.Block "_made" "Block._made" s_Block__made
  d_check_alike : DefT K mg "check_alike" s_check_alike
  d_endless_apart : DefT K mg "endless_apart" s_endless_apart
  d_is_loop : DefT K mg "_is_loop" s_is_loop
  d_apart : DefT K mg "_apart" s_apart
  d_is_narrow : DefT K mg "is_narrow" s_is_narrow
  d_words_of : DefT K mg "words_of" s_words_of
  d_least_form : DefT K mg "_least_form" s_least_form
  d_is_blind : DefT K mg "_is_blind" s_is_blind
  d_law_source : DefT K mg "_law_source" s_law_source
  d_law_draw : DefT K mg "_law_draw" s_law_draw
  d_law_strip : DefT K mg "_law_strip" s_law_strip
  d_law_is_integer : DefT K mg "_law_is_integer" s_law_is_integer
  d_law_windows : DefT K mg "_law_windows" s_law_windows
  d_law_table : DefT K mg "_law_table" s_law_table
  d_law_shuffled : DefT K mg "_law_shuffled" s_law_shuffled
  d_law_permuted : DefT K mg "_law_permuted" s_law_permuted
  d_law_results : DefT K mg "_law_results" s_law_results
  d_law_inner : DefT K mg "_law_inner" s_law_inner
  d_law_around : DefT K mg "_law_around" s_law_around
  d_law_least : DefT K mg "_law_least" s_law_least
  d_law_joined : DefT K mg "_law_joined" s_law_joined
  d_law_power : DefT K mg "_law_power" s_law_power
  d_law_column : DefT K mg "_law_column" s_law_column
  d_law_text : DefT K mg "_law_text" s_law_text
  d_law_made : DefT K mg "_law_made" s_law_made
  d_law_image : DefT K mg "_law_image" s_law_image
  d_law_shape : DefT K mg "_law_shape" s_law_shape
  d_law_block : DefT K mg "_law_block" s_law_block
  d_law_parts : DefT K mg "_law_parts" s_law_parts
  d_law_strips : DefT K mg "_law_strips" s_law_strips
  d_law_is_block : DefT K mg "_law_is_block" s_law_is_block
  d_law_strips_hold : DefT K mg "_law_strips_hold" s_law_strips_hold
  d_law_product : DefT K mg "_law_product" s_law_product
  d_law_product_holds : DefT K mg "_law_product_holds" s_law_product_holds
  d_law_call_holds : DefT K mg "_law_call_holds" s_law_call_holds
  d_law_mirrored_holds : DefT K mg "_law_mirrored_holds" s_law_mirrored_holds
  d_law_shift : DefT K mg "_law_shift" s_law_shift
  d_law_shift_holds : DefT K mg "_law_shift_holds" s_law_shift_holds
  d_law_identity_holds : DefT K mg "_law_identity_holds" s_law_identity_holds
  d_law_refused : DefT K mg "_law_refused" s_law_refused
  d_law_unlike : DefT K mg "_law_unlike" s_law_unlike
  d_law_unlike_call : DefT K mg "_law_unlike_call" s_law_unlike_call
  d_law_errors_hold : DefT K mg "_law_errors_hold" s_law_errors_hold
  d_law : DefT K mg "law" s_law
  n_rows : NoAttr K a.Scheme "rows"
  n_colours : NoAttr K a.Scheme "colours"
  n_columns : NoAttr K a.Scheme "columns"
  n_scheme : NoAttr K a.Endless "scheme"
  n_left : NoAttr K a.Endless "left"
  n_middle : NoAttr K a.Endless "middle"
  n_right : NoAttr K a.Endless "right"
  n_start : NoAttr K a.Endless "start"
  k_MOST : ∃ u, Con K a.Scheme "MOST" (.int 9) u
  k_BLANK : ∃ u, Con K a.Scheme "BLANK" (.str "a") u
  i_ha : PySem.W.findIn K (.ref a.Scheme) "__class__" = some (some (.builtin "object.__class__"))
  i_hn : PySem.W.specialIn K (.builtin "object.__class__") "__get__" = some (some (.builtin "getset_descriptor.__get__"))
  i_ht : PySem.W.takesIn K (.builtin "object.__class__") = some true
  i_hm : PySem.W.mroIn K a.Scheme (.type "object") = some true
  p_ha : PySem.W.findIn K (.ref a.Endless) "__class__" = some (some (.builtin "object.__class__"))
  p_hm : PySem.W.mroIn K a.Endless (.type "object") = some true
  i_own : PySem.W.kitOne K (.ref a.Scheme) (.ref a.Scheme) = some true
  p_own : PySem.W.kitOne K (.ref a.Endless) (.ref a.Endless) = some true
  p_str : PySem.W.kitOne K (.type "str") (.ref a.Endless) = some false
  i_int : PySem.W.kitOne K (.type "int") (.ref a.Scheme) = some false
  i_str : PySem.W.kitOne K (.type "str") (.ref a.Scheme) = some false
  i_ni : PySem.W.notFirst K a.Scheme (.type "int") = true
  i_ns : PySem.W.notFirst K a.Scheme (.type "str") = true
  p_ni : PySem.W.notFirst K a.Endless (.type "int") = true
  p_ns : PySem.W.notFirst K a.Endless (.type "str") = true
  n_Scheme : NeT K a.Scheme
  m_lcm : mg "lcm" = some (.builtin "math.lcm")
  kk_e : ∀ i < 8, ∀ j < 8, PySem.W.kitOne K (.ref (eAd a i)) (.ref (eAd a j)) = some (decide (i = j))
  kg_e : ∀ i < 8, PySem.W.kitOne K (.ref (eAd a i)) (.ref a.GalloonError) = some true
  kv_e : ∀ i < 8, PySem.W.kitOne K (.ref (eAd a i)) (.type "ValueError") = some true
  xm_e : ∀ i < 8, PySem.W.exmOne K (.ref (eAd a i)) (.ref a.GalloonError) = some true
  xo_e : ∀ i < 8, ∀ j < 8, PySem.W.exmOne K (.ref (eAd a i)) (.ref (eAd a j)) = some (decide (i = j))
  w_scheme : NoAttr K a.Block "scheme"
  w_left : NoAttr K a.Block "left"
  w_right : NoAttr K a.Block "right"
  w_results : NoAttr K a.Block "results"
  w_news : NoAttr K a.Block "_news"
  r_Block : ∃ mc, ClX.CRead K a.Block mc ∧ ∃ u, ClX.CVal K a.Block mc "MOST" (.int 729) u
  u_ha : PySem.W.findIn K (.ref a.Block) "__class__" = some (some (.builtin "object.__class__"))
  u_hm : PySem.W.mroIn K a.Block (.type "object") = some true
  u_own : PySem.W.kitOne K (.ref a.Block) (.ref a.Block) = some true
  u_str : PySem.W.kitOne K (.type "str") (.ref a.Block) = some false
  u_int : PySem.W.kitOne K (.type "int") (.ref a.Block) = some false
  u_ni : PySem.W.notFirst K a.Block (.type "int") = true
  u_ns : PySem.W.notFirst K a.Block (.type "str") = true
  u_sf : PySem.W.selfFirst K a.Block = true
section
variable {P : Program} {w : World} {K : PySem.W.Frag} {mg : Str → Option Value} {base : Heap} {a : Ad}
theorem c_BadScheme (T : Txt K mg a) : CanE P w K mg base a.BadScheme "BadScheme" "part" := canE_of T.e_BadScheme sc_BadScheme___init__ bd_BadScheme___init__ rfl (fun _ _ _ _ _ _ _ => pss_one (ps_ost (pv 0) (pv 1))) rfl
theorem c_BadStrip (T : Txt K mg a) : CanE P w K mg base a.BadStrip "BadStrip" "text" := canE_of T.e_BadStrip sc_BadStrip___init__ bd_BadStrip___init__ rfl (fun _ _ _ _ _ _ _ => pss_one (ps_ost (pv 0) (pv 1))) rfl
theorem c_BadEndless (T : Txt K mg a) : CanE P w K mg base a.BadEndless "BadEndless" "part" := canE_of T.e_BadEndless sc_BadEndless___init__ bd_BadEndless___init__ rfl (fun _ _ _ _ _ _ _ => pss_one (ps_ost (pv 0) (pv 1))) rfl
theorem c_BadBlock (T : Txt K mg a) : CanE P w K mg base a.BadBlock "BadBlock" "part" := canE_of T.e_BadBlock sc_BadBlock___init__ bd_BadBlock___init__ rfl (fun _ _ _ _ _ _ _ => pss_one (ps_ost (pv 0) (pv 1))) rfl
end
end K42

end
section
set_option Elab.async false
set_option linter.all false
set_option maxRecDepth 100000
namespace K40
/-! ### endless words: what stands at an index, and where two of them differ -/
def col (l m r : List Nat) (d : Int) : Nat :=
  if d < 0 then l.getD (d % (l.length : Int)).toNat 0 else if d < (m.length : Int) then m.getD d.toNat 0 else r.getD ((d - (m.length : Int)) % (r.length : Int)).toNat 0
def wd (l m r : List Nat) (t i : Int) : Nat := col l m r (i - t)
theorem wd_left {l m r : List Nat} {t i : Int} (k : Nat) (h : i < t) : wd l m r t (i - (k * l.length : Nat)) = wd l m r t i := by
  unfold wd col
  rw [if_pos (by omega), if_pos (by omega)]
  have e : (i - ((k * l.length : Nat) : Int) - t) % (l.length : Int) = (i - t) % (l.length : Int) := by
    rw [show i - ((k * l.length : Nat) : Int) - t = (i - t) + (l.length : Int) * (-(k : Int)) by
      rw [Int.natCast_mul, Int.mul_neg, Int.mul_comm (l.length : Int)]; omega]
    exact Int.add_mul_emod_self_left _ _ _
  rw [e]
theorem wd_right {l m r : List Nat} {t i : Int} (k : Nat) (h : t + m.length ≤ i) : wd l m r t (i + (k * r.length : Nat)) = wd l m r t i := by
  unfold wd col
  rw [if_neg (by omega), if_neg (by omega), if_neg (by omega), if_neg (by omega)]
  have e : (i + ((k * r.length : Nat) : Int) - t - (m.length : Int)) % (r.length : Int) = (i - t - (m.length : Int)) % (r.length : Int) := by
    rw [show i + ((k * r.length : Nat) : Int) - t - (m.length : Int) = (i - t - (m.length : Int)) + (r.length : Int) * (k : Int) by
      rw [Int.natCast_mul, Int.mul_comm (r.length : Int)]; omega]
    exact Int.add_mul_emod_self_left _ _ _
  rw [e]
/-- a difference somewhere to the left is one within a common period -/
theorem near_left {w v : Int → Nat} {lo : Int} {L : Nat} (L0 : 0 < L) (hw : ∀ i, i < lo → w (i - L) = w i) (hv : ∀ i, i < lo → v (i - L) = v i) : (∃ i, i < lo ∧ w i ≠ v i) ↔ ∃ i, lo - L ≤ i ∧ i < lo ∧ w i ≠ v i := by
  constructor
  · rintro ⟨i, hi, h⟩
    have key : ∀ n : Nat, ∀ i : Int, i < lo → (lo - i).toNat ≤ n → w i ≠ v i → ∃ i, lo - L ≤ i ∧ i < lo ∧ w i ≠ v i := by
      intro n
      induction n with
      | zero => intro i hi hn; omega
      | succ n ih =>
        intro i hi hn h
        by_cases c : lo - L ≤ i
        · exact ⟨i, c, hi, h⟩
        · have e1 := hw (i + L) (by omega)
          have e2 := hv (i + L) (by omega)
          rw [show i + (L : Int) - L = i by omega] at e1 e2
          exact ih (i + L) (by omega) (by omega) (by rw [← e1, ← e2]; exact h)
    exact key _ i hi (Nat.le_refl _) h
  · rintro ⟨i, _, hi, h⟩
    exact ⟨i, hi, h⟩
theorem near_right {w v : Int → Nat} {hi : Int} {L : Nat} (L0 : 0 < L) (hw : ∀ i, hi ≤ i → w (i + L) = w i) (hv : ∀ i, hi ≤ i → v (i + L) = v i) : (∃ i, hi ≤ i ∧ w i ≠ v i) ↔ ∃ i, hi ≤ i ∧ i < hi + L ∧ w i ≠ v i := by
  constructor
  · rintro ⟨i, hl, h⟩
    have key : ∀ n : Nat, ∀ i : Int, hi ≤ i → (i - hi).toNat ≤ n → w i ≠ v i → ∃ i, hi ≤ i ∧ i < hi + L ∧ w i ≠ v i := by
      intro n
      induction n with
      | zero => intro i hl hn h; exact ⟨i, hl, by omega, h⟩
      | succ n ih =>
        intro i hl hn h
        by_cases c : i < hi + L
        · exact ⟨i, hl, c, h⟩
        · have e1 := hw (i - L) (by omega)
          have e2 := hv (i - L) (by omega)
          rw [show i - (L : Int) + L = i by omega] at e1 e2
          exact ih (i - L) (by omega) (by omega) (by rw [← e1, ← e2]; exact h)
    exact key _ i hl (Nat.le_refl _) h
  · rintro ⟨i, hl, _, h⟩
    exact ⟨i, hl, h⟩
/-- a difference outside of lo .. hi -/
def Far (w v : Int → Nat) (lo hi : Int) : Prop := (∃ i, i < lo ∧ w i ≠ v i) ∨ ∃ i, hi ≤ i ∧ w i ≠ v i
def difs (w v : Int → Nat) (lo : Int) (n : Nat) : List Int := ((List.range n).map fun k : Nat => lo + (k : Int)).filter fun i => w i != v i
theorem difs_succ (w v : Int → Nat) (lo : Int) (n : Nat) : difs w v lo (n + 1) = difs w v lo n ++ if w (lo + n) = v (lo + n) then [] else [lo + (n : Int)] := by
  unfold difs
  rw [List.range_succ, List.map_append, List.filter_append]
  congr 1
  by_cases h : w (lo + n) = v (lo + n)
  · rw [if_pos h]
    simp [h]
  · rw [if_neg h]
    simp [h]
theorem difs_mem {w v : Int → Nat} {lo : Int} {n : Nat} {i : Int} : i ∈ difs w v lo n ↔ lo ≤ i ∧ i < lo + n ∧ w i ≠ v i := by
  unfold difs
  rw [List.mem_filter, List.mem_map]
  constructor
  · rintro ⟨⟨k, hk, rfl⟩, h⟩
    have := List.mem_range.mp hk
    exact ⟨by omega, by omega, by simpa using h⟩
  · rintro ⟨h1, h2, h⟩
    exact ⟨⟨(i - lo).toNat, List.mem_range.mpr (by omega), by omega⟩, by simpa using h⟩
theorem difs_len (w v : Int → Nat) (lo : Int) (n : Nat) : (difs w v lo n).length ≤ n := by
  unfold difs
  refine Nat.le_trans (List.length_filter_le _ _) ?_
  rw [List.length_map, List.length_range]
  exact Nat.le_refl _
theorem same_iff {w v : Int → Nat} {lo hi : Int} (h : lo ≤ hi) : (∀ i, w i = v i) ↔ ¬ Far w v lo hi ∧ difs w v lo (hi - lo).toNat = [] := by
  constructor
  · intro e
    refine ⟨?_, ?_⟩
    · rintro (⟨i, _, h⟩ | ⟨i, _, h⟩) <;> exact h (e i)
    · refine List.eq_nil_iff_forall_not_mem.mpr fun i hi => (difs_mem.mp hi).2.2 (e i)
  · rintro ⟨f, d⟩ i
    by_cases c : w i = v i
    · exact c
    · exfalso
      by_cases c1 : i < lo
      · exact f (.inl ⟨i, c1, c⟩)
      · by_cases c2 : hi ≤ i
        · exact f (.inr ⟨i, c2, c⟩)
        · have : i ∈ difs w v lo (hi - lo).toNat := difs_mem.mpr ⟨by omega, by omega, c⟩
          rw [d] at this
          cases this
def win (w : Int → Nat) (b : Int) (n : Nat) : List Nat := (List.range n).map fun k : Nat => w (b + (k : Int))
theorem win_len (w : Int → Nat) (b : Int) (n : Nat) : (win w b n).length = n := by unfold win; rw [List.length_map, List.length_range]
theorem win_at {w : Int → Nat} {b : Int} {n k : Nat} (h : k < n) : (win w b n)[k]? = some (w (b + k)) := by
  unfold win
  rw [List.getElem?_map, List.getElem?_range h]
  rfl
theorem win_eq {w v : Int → Nat} {b : Int} {n : Nat} : win w b n = win v b n ↔ ∀ i, b ≤ i → i < b + n → w i = v i := by
  constructor
  · intro e i h1 h2
    have e1 := win_at (w := w) (b := b) (n := n) (k := (i - b).toNat) (by omega)
    have e2 := win_at (w := v) (b := b) (n := n) (k := (i - b).toNat) (by omega)
    rw [e, e2, show b + (((i - b).toNat : Nat) : Int) = i by omega] at e1
    exact (Option.some.inj e1).symm
  · intro e
    refine List.ext_getElem? fun k => ?_
    by_cases c : k < n
    · rw [win_at c, win_at c, e _ (by omega) (by omega)]
    · rw [List.getElem?_eq_none (by rw [win_len]; omega), List.getElem?_eq_none (by rw [win_len]; omega)]
end K40

end
section
set_option Elab.async false
set_option linter.all false
set_option maxRecDepth 100000
set_option maxHeartbeats 4000000
namespace K4B
open Kit K40
/-! ### words and their numbers -/
def ixw (n : Nat) (u : List Nat) : Nat := u.foldl (fun a c => a * n + (c - 97)) 0
theorem ixw_snoc (n : Nat) (u : List Nat) (x : Nat) : ixw n (u ++ [x]) = ixw n u * n + (x - 97) := by
  unfold ixw
  rw [List.foldl_append]
  rfl
theorem ixw_acc (n : Nat) : ∀ (u : List Nat) (a : Nat), u.foldl (fun a c => a * n + (c - 97)) a = a * n ^ u.length + ixw n u
  | [], a => by
    show a = a * n ^ 0 + 0
    rw [Nat.pow_zero, Nat.mul_one, Nat.add_zero]
  | x :: u, a => by
    unfold ixw
    rw [List.foldl_cons, List.foldl_cons, ixw_acc n u, ixw_acc n u (0 * n + (x - 97)), Nat.zero_mul, Nat.zero_add, List.length_cons, Nat.pow_succ, Nat.add_mul, Nat.add_assoc]
    congr 1
    rw [Nat.mul_assoc, Nat.mul_comm n]
theorem ixw_cons (n x : Nat) (u : List Nat) : ixw n (x :: u) = (x - 97) * n ^ u.length + ixw n u := by
  have := ixw_acc n u (0 * n + (x - 97))
  rw [Nat.zero_mul, Nat.zero_add] at this
  show u.foldl _ (0 * n + (x - 97)) = _
  rw [Nat.zero_mul, Nat.zero_add]
  exact this
theorem col_lt {n x : Nat} (h : inCol n x = true) : 97 ≤ x ∧ x - 97 < n := by
  unfold inCol at h
  have := of_decide_eq_true h
  omega
theorem col_of {n x : Nat} (h : x < n) : inCol n (97 + x) = true := by
  unfold inCol
  exact decide_eq_true (by omega)
theorem strip_cons {n x : Nat} {u : List Nat} : isStrip n (x :: u) = true ↔ inCol n x = true ∧ isStrip n u = true := by
  unfold isStrip
  rw [List.all_cons, Bool.and_eq_true]
theorem strip_app {n : Nat} {u v : List Nat} : isStrip n (u ++ v) = true ↔ isStrip n u = true ∧ isStrip n v = true := by
  unfold isStrip
  rw [List.all_append, Bool.and_eq_true]
theorem strip_one {n x : Nat} : isStrip n [x] = true ↔ inCol n x = true := by
  unfold isStrip
  rw [List.all_cons, List.all_nil, Bool.and_true]
theorem ixw_lt {n : Nat} : ∀ {u : List Nat}, isStrip n u = true → ixw n u < n ^ u.length
  | [], _ => by show 0 < n ^ 0; rw [Nat.pow_zero]; exact Nat.one_pos
  | x :: u, h => by
    obtain ⟨h1, h2⟩ := strip_cons.mp h
    have a := (col_lt h1).2
    have b := ixw_lt h2
    rw [ixw_cons, List.length_cons, Nat.pow_succ, Nat.mul_comm (n ^ u.length)]
    have : (x - 97 + 1) * n ^ u.length ≤ n * n ^ u.length := Nat.mul_le_mul_right _ a
    rw [Nat.add_mul, Nat.one_mul] at this
    omega
def wdig (n : Nat) : Nat → Nat → List Nat
  | 0, _ => []
  | w + 1, k => wdig n w (k / n) ++ [97 + k % n]
theorem wdig_len (n : Nat) : ∀ w k, (wdig n w k).length = w
  | 0, _ => rfl
  | w + 1, k => by
    unfold wdig
    rw [List.length_append, wdig_len n w]
    rfl
theorem wdig_strip {n : Nat} (h : 0 < n) : ∀ w k, isStrip n (wdig n w k) = true
  | 0, _ => rfl
  | w + 1, k => strip_app.mpr ⟨wdig_strip h w _, strip_one.mpr (col_of (Nat.mod_lt _ h))⟩
theorem ixw_wdig {n : Nat} : ∀ w k, k < n ^ w → ixw n (wdig n w k) = k
  | 0, k, h => by
    rw [Nat.pow_zero] at h
    show 0 = k
    omega
  | w + 1, k, h => by
    unfold wdig
    rw [ixw_snoc, ixw_wdig w _ (by rw [Nat.pow_succ] at h; exact Nat.div_lt_of_lt_mul (by rw [Nat.mul_comm]; exact h)), Nat.add_sub_cancel_left]
    exact Nat.div_add_mod' k n
theorem wdig_ixw {n : Nat} (hn : 0 < n) : ∀ w (u : List Nat), u.length = w → isStrip n u = true → wdig n w (ixw n u) = u
  | 0, u, h, _ => by
    rw [List.length_eq_zero_iff.mp h]
    rfl
  | w + 1, u, h, hs => by
    have hne : u ≠ [] := fun e => by rw [e] at h; cases h
    obtain ⟨v, x, rfl⟩ : ∃ v x, u = v ++ [x] := ⟨u.dropLast, u.getLast hne, (List.dropLast_concat_getLast hne).symm⟩
    obtain ⟨h1, h2⟩ := strip_app.mp hs
    have hx := col_lt (strip_one.mp h2)
    have hv : v.length = w := by
      rw [List.length_append] at h
      exact Nat.succ.inj h
    unfold wdig
    have e1 : (ixw n v * n + (x - 97)) / n = ixw n v := by
      rw [Nat.mul_comm, Nat.mul_add_div hn, Nat.div_eq_of_lt hx.2, Nat.add_zero]
    have e2 : (ixw n v * n + (x - 97)) % n = x - 97 := by
      rw [Nat.mul_comm, Nat.mul_add_mod, Nat.mod_eq_of_lt hx.2]
    rw [ixw_snoc, e1, e2, wdig_ixw hn w v hv h1, show 97 + (x - 97) = x by omega]
def words (n w : Nat) : List (List Nat) := (List.range (n ^ w)).map (wdig n w)
theorem words_len (n w : Nat) : (words n w).length = n ^ w := by unfold words; rw [List.length_map, List.length_range]
theorem words_at {n w k : Nat} (h : k < n ^ w) : (words n w)[k]? = some (wdig n w k) := by
  unfold words
  rw [List.getElem?_map, List.getElem?_range h]
  rfl
theorem words_zero (n : Nat) : words n 0 = [[]] := by
  unfold words
  rw [Nat.pow_zero]
  rfl
theorem range_mul {α : Type} (f : Nat → α) (n : Nat) : ∀ a, (List.range (a * n)).map f = (List.range a).flatMap fun i => (List.range n).map fun j => f (i * n + j)
  | 0 => by rw [Nat.zero_mul]; rfl
  | a + 1 => by
    rw [Nat.add_mul, Nat.one_mul, List.range_add, List.map_append, range_mul f n a, List.range_succ, List.flatMap_append, List.map_map]
    congr 1
    rw [List.flatMap_cons, List.flatMap_nil, List.append_nil]
    rfl
theorem words_succ {n : Nat} (hn : 0 < n) (w : Nat) : words n (w + 1) = (words n w).flatMap fun u => (cols n).map fun c => u ++ [c] := by
  unfold words
  rw [Nat.pow_succ, range_mul, List.flatMap_map]
  congr 1
  funext i
  unfold cols
  rw [List.map_map]
  refine List.map_congr_left fun j hj => ?_
  have hj := List.mem_range.mp hj
  show wdig n w ((i * n + j) / n) ++ [97 + (i * n + j) % n] = wdig n w i ++ [97 + j]
  rw [Nat.mul_comm, Nat.mul_add_div hn, Nat.div_eq_of_lt hj, Nat.add_zero, Nat.mul_add_mod, Nat.mod_eq_of_lt hj]
/-! ### tables on windows -/
def Ok (n : Nat) (c : Int → Nat) : Prop := ∀ j, inCol n (c j) = true
theorem win_snoc (c : Int → Nat) (b : Int) (k : Nat) : win c b (k + 1) = win c b k ++ [c (b + k)] := by
  unfold win
  rw [List.range_succ, List.map_append]
  rfl
theorem win_cons (c : Int → Nat) (b : Int) (k : Nat) : win c b (k + 1) = c b :: win c (b + 1) k := by
  unfold win
  rw [List.range_succ_eq_map, List.map_cons, List.map_map]
  congr 1
  · rw [show b + ((0 : Nat) : Int) = b by omega]
  · refine List.map_congr_left fun i _ => ?_
    show c (b + ((i + 1 : Nat) : Int)) = c (b + 1 + (i : Int))
    rw [show b + ((i + 1 : Nat) : Int) = b + 1 + (i : Int) by omega]
theorem win_ok {n : Nat} {c : Int → Nat} (h : Ok n c) (b : Int) (k : Nat) : isStrip n (win c b k) = true := by
  refine List.all_eq_true.mpr fun x hx => ?_
  obtain ⟨j, _, rfl⟩ := List.mem_map.mp hx
  exact h _
def sem (n l r : Nat) (res : List Nat) (c : Int → Nat) : Nat := res.getD (ixw n (win c (-(l : Int)) (l + 1 + r))) 0
structure Tab (n l r : Nat) (res : List Nat) : Prop where
  len : res.length = n ^ (l + 1 + r)
  ok : isStrip n res = true
theorem getD_take {l : List Nat} {m k : Nat} (h : k < m) : (l.take m).getD k 0 = l.getD k 0 := by
  rw [List.getD_eq_getElem?_getD, List.getD_eq_getElem?_getD, List.getElem?_take, if_pos h]
theorem strip_getD {n : Nat} {l : List Nat} (h : isStrip n l = true) {i : Nat} (hi : i < l.length) : inCol n (l.getD i 0) = true := by
  rw [List.getD_eq_getElem?_getD, List.getElem?_eq_getElem hi]
  exact List.all_eq_true.mp h _ (List.getElem_mem hi)
theorem win_ix {n : Nat} {c : Int → Nat} (h : Ok n c) (b : Int) (k : Nat) : ixw n (win c b k) < n ^ k := by
  have := ixw_lt (win_ok h b k)
  rwa [win_len] at this
theorem sem_col {n l r : Nat} {res : List Nat} {c : Int → Nat} (t : Tab n l r res) (h : Ok n c) : inCol n (sem n l r res c) = true := strip_getD t.ok (by rw [t.len]; exact win_ix h _ _)
/-! ### the two ways to narrow a table -/
def free (n : Nat) (res : List Nat) : Prop := (List.replicate n (res.take (res.length / n))).flatten = res
def blind (n : Nat) (res : List Nat) : Prop := ∀ k < res.length, res.getD k 0 = res.getD (k - k % n) 0
theorem rep_at (xs : List Nat) : ∀ (n k : Nat), k < n * xs.length → ((List.replicate n xs).flatten)[k]? = xs[k % xs.length]?
  | 0, k, h => by rw [Nat.zero_mul] at h; exact absurd h (Nat.not_lt_zero _)
  | n + 1, k, h => by
    rw [List.replicate_succ, List.flatten_cons]
    by_cases c : k < xs.length
    · rw [List.getElem?_append_left c, Nat.mod_eq_of_lt c]
    · rw [List.getElem?_append_right (by omega), rep_at xs n _ (by rw [Nat.add_mul, Nat.one_mul] at h; omega), ← Nat.mod_eq_sub_mod (by omega)]
theorem rep_len (xs : List Nat) (n : Nat) : ((List.replicate n xs).flatten).length = n * xs.length := by rw [List.length_flatten, List.map_replicate, List.sum_replicate_nat]
theorem free_iff {n w : Nat} (hn : 0 < n) {res : List Nat} (h : res.length = n ^ (w + 1)) : free n res ↔ ∀ k < n ^ (w + 1), res.getD k 0 = res.getD (k % n ^ w) 0 := by
  have hd : res.length / n = n ^ w := by rw [h, Nat.pow_succ, Nat.mul_div_cancel _ hn]
  have p : 0 < n ^ w := Nat.pow_pos hn
  have tl : (res.take (n ^ w)).length = n ^ w := by
    rw [List.length_take, h, Nat.pow_succ]
    have : n ^ w * 1 ≤ n ^ w * n := Nat.mul_le_mul_left _ hn
    omega
  unfold free
  rw [hd]
  constructor
  · intro e k hk
    have := rep_at (res.take (n ^ w)) n k (by rw [tl, Nat.mul_comm, ← Nat.pow_succ]; exact hk)
    rw [e, tl] at this
    rw [List.getD_eq_getElem?_getD, this, List.getElem?_take, if_pos (Nat.mod_lt _ p), ← List.getD_eq_getElem?_getD]
  · intro e
    refine List.ext_getElem? fun k => ?_
    by_cases c : k < n ^ (w + 1)
    · rw [rep_at _ n k (by rw [tl, Nat.mul_comm, ← Nat.pow_succ]; exact c), tl, List.getElem?_take, if_pos (Nat.mod_lt _ p)]
      have := e k c
      rw [List.getD_eq_getElem?_getD, List.getD_eq_getElem?_getD] at this
      have c2 : k % n ^ w < res.length := by
        rw [h]
        exact Nat.lt_of_lt_of_le (Nat.mod_lt _ p) (Nat.pow_le_pow_right hn (by omega))
      have c3 : k < res.length := by rw [h]; exact c
      rw [List.getElem?_eq_getElem c2, List.getElem?_eq_getElem c3] at this ⊢
      exact congrArg some this.symm
    · rw [List.getElem?_eq_none (by rw [rep_len, tl, Nat.mul_comm]; have : n ^ (w + 1) = n ^ w * n := Nat.pow_succ ..; omega), List.getElem?_eq_none (by rw [h]; omega)]
theorem every_getD {l : List Nat} {k i : Nat} (h : i < (every l k).length) : (every l k).getD i 0 = l.getD (k * i) 0 := by
  rw [every_len] at h
  rw [List.getD_eq_getElem?_getD]
  unfold every
  rw [List.getElem?_map, List.getElem?_range h]
  rfl
theorem every_pow {n w : Nat} (hn : 0 < n) {res : List Nat} (h : res.length = n ^ (w + 1)) : (every res n).length = n ^ w := by
  rw [every_len, h, Nat.pow_succ, Nat.mul_comm]
  have : n * n ^ w + n - 1 = n * n ^ w + (n - 1) := by omega
  rw [this, Nat.mul_add_div hn, Nat.div_eq_of_lt (by omega), Nat.add_zero]
theorem tabL {n l r : Nat} {res : List Nat} (hn : 0 < n) (t : Tab n (l + 1) r res) : Tab n l r (res.take (res.length / n)) := by
  have e : res.length = n ^ (l + 1 + r + 1) := by rw [t.len]; congr 1; omega
  have hd : res.length / n = n ^ (l + 1 + r) := by rw [e, Nat.pow_succ, Nat.mul_div_cancel _ hn]
  refine ⟨?_, List.all_eq_true.mpr fun x hx => List.all_eq_true.mp t.ok x (List.mem_of_mem_take hx)⟩
  rw [List.length_take, hd, e, Nat.pow_succ]
  have : n ^ (l + 1 + r) * 1 ≤ n ^ (l + 1 + r) * n := Nat.mul_le_mul_left _ hn
  omega
theorem tabR {n l r : Nat} {res : List Nat} (hn : 0 < n) (t : Tab n l (r + 1) res) : Tab n l r (every res n) := by
  have e : res.length = n ^ (l + 1 + r + 1) := by rw [t.len]; congr 1
  have el := every_pow hn e
  refine ⟨el, List.all_eq_true.mpr fun x hx => ?_⟩
  obtain ⟨i, hi, rfl⟩ := List.mem_iff_getElem.mp hx
  have := every_getD hi
  rw [List.getD_eq_getElem?_getD, List.getElem?_eq_getElem hi] at this
  show inCol n (every res n)[i] = true
  have g : (every res n)[i] = res.getD (n * i) 0 := this
  rw [g]
  refine strip_getD t.ok ?_
  rw [e, Nat.pow_succ, Nat.mul_comm]
  rw [el] at hi
  exact Nat.mul_lt_mul_of_pos_right hi hn
theorem semL {n l r : Nat} {res : List Nat} (hn : 0 < n) (t : Tab n (l + 1) r res) (f : free n res) {c : Int → Nat} (h : Ok n c) : sem n (l + 1) r res c = sem n l r (res.take (res.length / n)) c := by
  have e : res.length = n ^ (l + 1 + r + 1) := by rw [t.len]; congr 1; omega
  have hd : res.length / n = n ^ (l + 1 + r) := by rw [e, Nat.pow_succ, Nat.mul_div_cancel _ hn]
  have k := (free_iff hn e).mp f
  unfold sem
  rw [show l + 1 + 1 + r = (l + 1 + r) + 1 by omega, win_cons, show -((l + 1 : Nat) : Int) + 1 = -(l : Int) by omega, ixw_cons, win_len]
  have q := win_ix h (-(l : Int)) (l + 1 + r)
  have c1 := (col_lt (h (-((l + 1 : Nat) : Int)))).2
  rw [hd, getD_take q, k _ ?_, Nat.mul_comm, Nat.mul_add_mod, Nat.mod_eq_of_lt q]
  have : (c (-((l + 1 : Nat) : Int)) - 97 + 1) * n ^ (l + 1 + r) ≤ n * n ^ (l + 1 + r) := Nat.mul_le_mul_right _ c1
  rw [Nat.pow_succ, Nat.mul_comm _ n]
  rw [Nat.add_mul, Nat.one_mul] at this
  omega
theorem semR {n l r : Nat} {res : List Nat} (hn : 0 < n) (t : Tab n l (r + 1) res) (f : blind n res) {c : Int → Nat} (h : Ok n c) : sem n l (r + 1) res c = sem n l r (every res n) c := by
  have e : res.length = n ^ (l + 1 + r + 1) := by rw [t.len]; congr 1
  unfold sem
  rw [show l + 1 + (r + 1) = (l + 1 + r) + 1 by omega, win_snoc, ixw_snoc]
  have q := win_ix h (-(l : Int)) (l + 1 + r)
  have c1 := (col_lt (h (-(l : Int) + ((l + 1 + r : Nat) : Int)))).2
  rw [every_getD (by rw [every_pow hn e]; exact q), f _ ?_]
  · congr 1
    rw [Nat.mul_comm, Nat.mul_add_mod, Nat.mod_eq_of_lt c1]
    omega
  · have : (ixw n (win c (-(l : Int)) (l + 1 + r)) + 1) * n ≤ n ^ (l + 1 + r) * n := Nat.mul_le_mul_right _ q
    rw [e, Nat.pow_succ]
    rw [Nat.add_mul, Nat.one_mul] at this
    omega
/-! ### on what a table depends -/
def Dep (n : Nat) (F : (Int → Nat) → Nat) (i : Int) : Prop := ∃ c c', Ok n c ∧ Ok n c' ∧ (∀ j, j ≠ i → c j = c' j) ∧ F c ≠ F c'
def cfg (u : List Nat) (l : Nat) : Int → Nat := fun j => if 0 ≤ j + l ∧ j + l < (u.length : Int) then u.getD (j + l).toNat 97 else 97
theorem cfg_ok {n : Nat} (hn : 0 < n) {u : List Nat} (h : isStrip n u = true) (l : Nat) : Ok n (cfg u l) := by
  intro j
  unfold cfg
  split
  · rw [List.getD_eq_getElem?_getD, List.getElem?_eq_getElem (by omega)]
    exact List.all_eq_true.mp h _ (List.getElem_mem _)
  · exact col_of (x := 0) hn
theorem cfg_win (u : List Nat) (l : Nat) : win (cfg u l) (-(l : Int)) u.length = u := by
  refine List.ext_getElem? fun k => ?_
  by_cases c : k < u.length
  · rw [win_at c]
    unfold cfg
    rw [if_pos (by omega), show (-(l : Int) + (k : Int) + (l : Int)).toNat = k by omega, List.getD_eq_getElem?_getD, List.getElem?_eq_getElem c]
    rfl
  · rw [List.getElem?_eq_none (by rw [win_len]; omega), List.getElem?_eq_none (by omega)]
theorem sem_cfg {n l r : Nat} {res : List Nat} {u : List Nat} (h : u.length = l + 1 + r) : sem n l r res (cfg u l) = res.getD (ixw n u) 0 := by
  unfold sem
  rw [← h, cfg_win]
theorem sem_congr {n l r : Nat} {res : List Nat} {c c' : Int → Nat} (h : ∀ j, -(l : Int) ≤ j → j ≤ r → c j = c' j) : sem n l r res c = sem n l r res c' := by
  unfold sem
  rw [win_eq.mpr fun i h1 h2 => h i h1 (by omega)]
theorem depL {n l r : Nat} {res : List Nat} (hn : 0 < n) (t : Tab n (l + 1) r res) (f : ¬ free n res) : Dep n (sem n (l + 1) r res) (-((l + 1 : Nat) : Int)) := by
  have e : res.length = n ^ (l + 1 + r + 1) := by rw [t.len]; congr 1; omega
  rw [free_iff hn e] at f
  obtain ⟨k, f⟩ := Classical.not_forall.mp f
  obtain ⟨hk, f⟩ := Classical.not_imp.mp f
  have hu := wdig_len n (l + 1 + r + 1) k
  have su := wdig_strip hn (l + 1 + r + 1) k
  have iu := ixw_wdig _ _ hk
  generalize wdig n (l + 1 + r + 1) k = u at hu su iu
  cases u with
  | nil => cases hu
  | cons x v =>
    have hv : v.length = l + 1 + r := Nat.succ.inj hu
    obtain ⟨s1, s2⟩ := strip_cons.mp su
    have sv : isStrip n (97 :: v) = true := strip_cons.mpr ⟨col_of (x := 0) hn, s2⟩
    have iv : ixw n (97 :: v) = k % n ^ (l + 1 + r) := by
      have q := ixw_lt s2
      rw [hv] at q
      rw [ixw_cons, Nat.sub_self, Nat.zero_mul, Nat.zero_add, ← iu, ixw_cons, hv, Nat.mul_comm, Nat.mul_add_mod, Nat.mod_eq_of_lt q]
    refine ⟨cfg (x :: v) (l + 1), cfg (97 :: v) (l + 1), cfg_ok hn su _, cfg_ok hn sv _, fun j hj => ?_, ?_⟩
    · unfold cfg
      by_cases c : 0 ≤ j + ((l + 1 : Nat) : Int) ∧ j + ((l + 1 : Nat) : Int) < (((x :: v).length : Nat) : Int)
      · have c' : 0 ≤ j + ((l + 1 : Nat) : Int) ∧ j + ((l + 1 : Nat) : Int) < (((97 :: v).length : Nat) : Int) := c
        rw [if_pos c, if_pos c']
        obtain ⟨i, hi⟩ : ∃ i, (j + ((l + 1 : Nat) : Int)).toNat = i + 1 := ⟨(j + ((l + 1 : Nat) : Int)).toNat - 1, by omega⟩
        rw [hi]
        rfl
      · have c' : ¬ (0 ≤ j + ((l + 1 : Nat) : Int) ∧ j + ((l + 1 : Nat) : Int) < (((97 :: v).length : Nat) : Int)) := c
        rw [if_neg c, if_neg c']
    · rw [sem_cfg (by rw [hu]; omega), sem_cfg (by show v.length + 1 = _; omega), iu, iv]
      exact f
theorem depR {n l r : Nat} {res : List Nat} (hn : 0 < n) (t : Tab n l (r + 1) res) (f : ¬ blind n res) : Dep n (sem n l (r + 1) res) ((r + 1 : Nat) : Int) := by
  have e : res.length = n ^ (l + 1 + r + 1) := by rw [t.len]; congr 1
  unfold blind at f
  obtain ⟨k, f⟩ := Classical.not_forall.mp f
  obtain ⟨hk, f⟩ := Classical.not_imp.mp f
  rw [e] at hk
  have hu := wdig_len n (l + 1 + r + 1) k
  have su := wdig_strip hn (l + 1 + r + 1) k
  have iu := ixw_wdig _ _ hk
  generalize wdig n (l + 1 + r + 1) k = u at hu su iu
  have hne : u ≠ [] := fun e => by rw [e] at hu; cases hu
  obtain ⟨v, x, rfl⟩ : ∃ v x, u = v ++ [x] := ⟨u.dropLast, u.getLast hne, (List.dropLast_concat_getLast hne).symm⟩
  have hv : v.length = l + 1 + r := by
    rw [List.length_append] at hu
    exact Nat.succ.inj hu
  obtain ⟨s1, s2⟩ := strip_app.mp su
  have hx := col_lt (strip_one.mp s2)
  have sv : isStrip n (v ++ [97]) = true := strip_app.mpr ⟨s1, strip_one.mpr (col_of (x := 0) hn)⟩
  rw [ixw_snoc] at iu
  have iv : ixw n (v ++ [97]) = k - k % n := by
    rw [ixw_snoc, ← iu, Nat.mul_comm (ixw n v) n, Nat.mul_add_mod, Nat.mod_eq_of_lt hx.2]
    omega
  refine ⟨cfg (v ++ [x]) l, cfg (v ++ [97]) l, cfg_ok hn su _, cfg_ok hn sv _, fun j hj => ?_, ?_⟩
  · unfold cfg
    rw [List.length_append, List.length_append]
    by_cases c : 0 ≤ j + (l : Int) ∧ j + (l : Int) < ((v.length + [x].length : Nat) : Int)
    · have c' : 0 ≤ j + (l : Int) ∧ j + (l : Int) < ((v.length + [97].length : Nat) : Int) := c
      have c2 : (j + (l : Int)).toNat < v.length := by
        have : [x].length = 1 := rfl
        omega
      rw [if_pos c, if_pos c', List.getD_eq_getElem?_getD, List.getD_eq_getElem?_getD, List.getElem?_append_left c2, List.getElem?_append_left c2]
    · have c' : ¬ (0 ≤ j + (l : Int) ∧ j + (l : Int) < ((v.length + [97].length : Nat) : Int)) := c
      rw [if_neg c, if_neg c']
  · rw [sem_cfg (by rw [List.length_append, hv]; show l + 1 + r + 1 = _; omega), sem_cfg (by rw [List.length_append, hv]; show l + 1 + r + 1 = _; omega), ixw_snoc, iu, iv]
    exact f
theorem nodep {n l r : Nat} {res : List Nat} {i : Int} (h : i < -(l : Int) ∨ (r : Int) < i) : ¬ Dep n (sem n l r res) i := by
  rintro ⟨c, c', _, _, e, f⟩
  exact f (sem_congr fun j h1 h2 => e j (by omega))
theorem dep_congr {n : Nat} {F G : (Int → Nat) → Nat} {i : Int} (h : ∀ c, Ok n c → F c = G c) (d : Dep n F i) : Dep n G i := by
  obtain ⟨c, c', o, o', e, f⟩ := d
  exact ⟨c, c', o, o', e, by rw [← h c o, ← h c' o']; exact f⟩
structure Least (n l r : Nat) (res : List Nat) : Prop where
  left : l = 0 ∨ Dep n (sem n l r res) (-(l : Int))
  right : r = 0 ∨ Dep n (sem n l r res) (r : Int)
theorem Least.unique {n l r l' r' : Nat} {res res' : List Nat} (hn : 0 < n) (t : Tab n l r res) (t' : Tab n l' r' res') (h : Least n l r res) (h' : Least n l' r' res') (e : ∀ c, Ok n c → sem n l r res c = sem n l' r' res' c) : l = l' ∧ r = r' ∧ res = res' := by
  have e' : ∀ c, Ok n c → sem n l' r' res' c = sem n l r res c := fun c o => (e c o).symm
  have el : l = l' := by
    by_cases c : l = l'
    · exact c
    · exfalso
      by_cases d : l < l'
      · rcases h'.left with q | q
        · omega
        · exact nodep (.inl (by omega)) (dep_congr e' q)
      · rcases h.left with q | q
        · omega
        · exact nodep (.inl (by omega)) (dep_congr e q)
  have er : r = r' := by
    by_cases c : r = r'
    · exact c
    · exfalso
      by_cases d : r < r'
      · rcases h'.right with q | q
        · omega
        · exact nodep (.inr (by omega)) (dep_congr e' q)
      · rcases h.right with q | q
        · omega
        · exact nodep (.inr (by omega)) (dep_congr e q)
  subst el er
  refine ⟨rfl, rfl, List.ext_getElem? fun k => ?_⟩
  by_cases c : k < n ^ (l + 1 + r)
  · have q := e _ (cfg_ok hn (wdig_strip hn (l + 1 + r) k) l)
    rw [sem_cfg (wdig_len _ _ _), sem_cfg (wdig_len _ _ _), ixw_wdig _ _ c, List.getD_eq_getElem?_getD, List.getD_eq_getElem?_getD, List.getElem?_eq_getElem (by rw [t.len]; exact c), List.getElem?_eq_getElem (by rw [t'.len]; exact c)] at q
    rw [List.getElem?_eq_getElem (by rw [t.len]; exact c), List.getElem?_eq_getElem (by rw [t'.len]; exact c)]
    exact congrArg some q
  · rw [List.getElem?_eq_none (by rw [t.len]; omega), List.getElem?_eq_none (by rw [t'.len]; omega)]
/-- (l', r', res') is the least form of (l, r, res) -/
structure Lf (n l r : Nat) (res : List Nat) (l' r' : Nat) (res' : List Nat) : Prop where
  tab : Tab n l' r' res'
  least : Least n l' r' res'
  same : ∀ c, Ok n c → sem n l r res c = sem n l' r' res' c
  le : l' ≤ l
  re : r' ≤ r
theorem Lf.unique {n l r l' r' l2 r2 : Nat} {res res' res2 : List Nat} (hn : 0 < n) (h : Lf n l r res l' r' res') (g : Lf n l r res l2 r2 res2) : l' = l2 ∧ r' = r2 ∧ res' = res2 := h.least.unique hn h.tab g.tab g.least fun c o => (h.same c o).symm.trans (g.same c o)
end K4B

end
section
set_option Elab.async false
set_option linter.all false
set_option maxRecDepth 100000
set_option maxHeartbeats 4000000
namespace K42
open PySem PySem.Spec PyProof.Rows L2 Kit K40 K4B
section
variable {P : Program} {w : World} {K : PySem.W.Frag} {mg : Str → Option Value} {base : Heap} {a : Ad}
local macro_rules | `(tactic| walk_at "rd") => `(tactic| repeat (first | refine ⟨_, rfl, ?_⟩ | refine ⟨_, _, rfl, rfl, ?_⟩ | refine ⟨rfl, ?_⟩))
/-! ### a scheme -/
def fl (r c n : Nat) : List (Str × V) := [("rows", .int r), ("colours", .int c), ("columns", tx (cols n))]
def SchemeAt (C : Addr) (H : Hp) (p : Addr) (r c n : Nat) : Prop := (∃ dx, H p = some (.ins C dx (fl r c n))) ∧ Good r c n
theorem SchemeAt.mono {C p : Addr} {H G : Hp} {r c n : Nat} (h : SchemeAt C H p r c n) (e : Same H G) : SchemeAt C G p r c n := ⟨let ⟨dx, z⟩ := h.1; ⟨dx, e _ _ z⟩, h.2⟩
theorem fm (x c : Nat) : ((x : Nat) : Int).fmod ((c : Nat) : Int) = ((x % c : Nat) : Int) := by
  rw [Int.fmod_eq_emod_of_nonneg _ (by omega)]
  exact (Int.natCast_emod x c).symm
theorem fd (x c : Nat) : ((x : Nat) : Int).fdiv ((c : Nat) : Int) = ((x / c : Nat) : Int) := by
  rw [Int.fdiv_eq_ediv_of_nonneg _ (by omega)]
  exact (Int.natCast_ediv x c).symm
theorem k1 : (("colours" : Str) == ("rows" : Str)) = false := by decide +kernel
theorem k2 : (("columns" : Str) == ("rows" : Str)) = false := by decide +kernel
theorem k3 : (("columns" : Str) == ("colours" : Str)) = false := by decide +kernel
theorem fl_rows (r c n : Nat) : (fl r c n).lookup ("rows" : Str) = some (.int r) := by
  unfold fl
  rw [List.lookup_cons, beq_self_eq_true]
theorem fl_colours (r c n : Nat) : (fl r c n).lookup ("colours" : Str) = some (.int c) := by
  unfold fl
  rw [List.lookup_cons, k1, List.lookup_cons, beq_self_eq_true]
theorem fl_columns (r c n : Nat) : (fl r c n).lookup ("columns" : Str) = some (tx (cols n)) := by
  unfold fl
  rw [List.lookup_cons, k2, List.lookup_cons, k3, List.lookup_cons, beq_self_eq_true]
theorem fl_no (r c n : Nat) {m : Str} (h1 : (m == ("rows" : Str)) = false) (h2 : (m == ("colours" : Str)) = false) (h3 : (m == ("columns" : Str)) = false) : (fl r c n).lookup m = none := by
  unfold fl
  rw [List.lookup_cons, h1, List.lookup_cons, h2, List.lookup_cons, h3, List.lookup_nil]
theorem lit_e : (Str.ofString "") = S [] := by decide +kernel
/-- what follows of a field's reading: C, the class's facts, the fields -/
local macro_rules | `(tactic| walk_at "rd") => `(tactic| repeat (first | refine ⟨_, rfl, ?_⟩ | refine ⟨_, _, rfl, rfl, ?_⟩ | refine ⟨rfl, ?_⟩))
theorem at_S {l : List Nat} {i c : Nat} (h : (S l).cps[i]? = some c) : l[i]? = some c := by
  have z : (S l).cps[i]? = l[i]? := List.getElem?_toArray ..
  rw [← z]
  exact h
theorem beq_col (n x : Nat) : decide (x ∈ (S (cols n)).cps.toList) = inCol n x := by
  rw [S_cps]
  by_cases h : inCol n x = true
  · rw [h, decide_eq_true (mem_cols.mpr h)]
  · rw [decide_eq_false (fun q => h (mem_cols.mp q)), Bool.eq_false_iff.mpr h]
theorem all_map {l : List Nat} {f : Nat → Bool} : (l.map f).all id = l.all f := by
  rw [List.all_map]
  rfl
def spIsStrip (C : Addr) : Sp := fun vs H Q _ => ∃ (p : Addr) (r c n : Nat) (l : List Nat), vs = [.ref p, tx l] ∧ SchemeAt C H p r c n ∧ l.length ≤ 100000 ∧ ∀ G, Same H G → Q (.bl (isStrip n l)) G
theorem c_Scheme_is_strip (T : Txt K mg a) : CanM P w K mg base 1 a.Scheme "is_strip" (spIsStrip a.Scheme) := by
  refine canM_of T.c_Scheme.cl T.m_Scheme_is_strip sc_Scheme_is_strip bd_Scheme_is_strip (fun vs H Q E h => ?_) (fun f cdv A outer s H vs Q E hr h => ?_)
  · obtain ⟨p, r, c, n, l, rfl, _⟩ := h
    rfl
  · obtain ⟨p, r, c, n, l, rfl, sch, hl, z⟩ := h
    refine ⟨_, (pss_one (ps_ret (pe_callB (kall K (by rfl)) (by rfl) T.b_all (by decide +kernel) (pa_cons (pe_lc (own := [("column", 2)]) (g := gName 2) (tt := tYes) (by rfl) sc_Scheme_is_strip.nd (pi_str (pv 1)) (blkOk_by (N := N_Scheme_is_strip) (sc := defScope s_Scheme_is_strip) (by decide +kernel)) (fun _ _ _ _ _ => (pg_name (i := 2) sc_Scheme_is_strip.nd rfl (.inl rfl))) (fun _ _ _ _ _ => pts_nil) (fun _ _ _ _ _ => (pe_cmpR op_in_sign (pv 2) (kfld K (pv 0)) (by rfl)))) pa_nil)))), ?_⟩
    refine ⟨_, rfl, _, rfl, fun D hD => lc_one walk_str (l.map fun x => V.bl (inCol n x)) (by rw [List.length_map]; exact (S_len l).symm) (by show (S l).length ≤ _; rw [S_len]; exact hl) hD (fun _ _ => True.intro) ?_ ?_⟩
    · rintro i x G G' v hi s1 ⟨rfl, c', hc, rfl⟩ hv
      have hc := at_S hc
      rw [List.getElem?_map, hc] at hv
      cases hv
      obtain ⟨⟨dx, hp⟩, _⟩ := sch.mono s1
      refine ⟨.refl _, fun Q' q => ⟨_, rfl, _, rfl, p, _, dx, _, _, rfl, hp, T.c_Scheme.cl, T.n_columns, fl_columns r c n, c', _, rfl, rfl, ?_⟩⟩
      rw [beq_col]
      exact q _ (.refl _)
    · intro G s1 hG
      refine ⟨D, l.map (inCol n), rfl, seqL_of (by rw [List.map_map]; exact hG), ?_⟩
      rw [all_map]
      exact z G s1
def spCheck (a : Ad) : Sp := fun vs H Q E => ∃ (p : Addr) (r c n : Nat) (l : List Nat), vs = [.ref p, tx l] ∧ SchemeAt a.Scheme H p r c n ∧ l.length ≤ 100000 ∧ (isStrip n l = true → ∀ G, Same H G → Q .non G) ∧ (isStrip n l = false → Ra E a.BadStrip "text" (tx l) H)
theorem c_Scheme_check (T : Txt K mg a) : CanM P w K mg base 3 a.Scheme "check" (spCheck a) := by
  refine canM_of T.c_Scheme.cl T.m_Scheme_check sc_Scheme_check bd_Scheme_check (fun vs H Q E h => ?_) (fun f cdv A outer s H vs Q E hr h => ?_)
  · obtain ⟨p, r, c, n, l, rfl, _⟩ := h
    rfl
  · obtain ⟨p, r, c, n, l, rfl, sch, hl, z, y⟩ := h
    refine ⟨_, (pss_one (ps_if (pt_not (pt_val (pc_m (c_Scheme_is_strip T) hr (by decide) (pv 0) (pa_cons (pv 1) pa_nil)))) (pss_one (pr_err (c_BadStrip T) (takes_of rfl rfl rfl rfl) (by rfl) hr (by decide) (by rfl) (pv 1))) pss_nil)), ?_⟩
    obtain ⟨dx, hp⟩ := sch.1
    refine ⟨_, rfl, p, dx, _, rfl, hp, fl_no _ _ _ (by decide +kernel) (by decide +kernel) (by decide +kernel), _, rfl, p, r, c, n, l, rfl, sch, hl, fun G s1 => ⟨_, rfl, ?_⟩⟩
    cases e : isStrip n l with
    | true => exact iteF (z e G s1)
    | false => exact iteT ⟨_, rfl, ((y e).mono s1).now⟩
theorem good_n {r c n : Nat} (h : Good r c n) : n ≤ 9 ∧ 0 < r ∧ r ≤ 3 ∧ 0 < n ∧ 2 ≤ n := by
  rcases h.cases with h | h | h | h | h <;> omega
theorem atI_S {l : List Nat} {i x : Nat} (h : l[i]? = some x) : atI (S l).cps.toList ((i : Nat) : Int) = some x := by
  rw [S_cps]
  exact atI_nat h
theorem cols_at {n k : Nat} (h : k < n) : atI (S (cols n)).cps.toList ((k : Nat) : Int) = some (97 + k) := by
  refine atI_S ?_
  unfold cols
  rw [List.getElem?_map, List.getElem?_range h]
  rfl
/-! ### Scheme(rows, colours) -/
theorem put_fl (x y : V) (n : Nat) (r c : Nat) : putF "columns" (tx (cols n)) (putF "colours" (.int c) (putF "rows" (.int r) [])) = fl r c n := by
  have e1 : ¬ (("rows" : Str) = "colours") := by decide +kernel
  have e2 : ¬ (("rows" : Str) = "columns") := by decide +kernel
  have e3 : ¬ (("colours" : Str) = "columns") := by decide +kernel
  show putF "columns" _ (if ("rows" : Str) = "colours" then _ else _) = _
  rw [if_neg e1]
  show (if ("rows" : Str) = "columns" then _ else (("rows" : Str), V.int r) :: (if ("colours" : Str) = "columns" then _ else _)) = _
  rw [if_neg e2, if_neg e3]
  rfl
def sizeOf (r c : Int) : Option Nat := if r = 1 ∧ c = 2 then some 2 else if r = 1 ∧ c = 3 then some 3 else if r = 2 ∧ c = 2 then some 4 else if r = 2 ∧ c = 3 then some 9 else if r = 3 ∧ c = 2 then some 8 else none
/-- the first wrong part -/
def badPart (r c : Int) : Option (List Nat) := if ¬ (r = 1 ∨ r = 2 ∨ r = 3) then some [114, 111, 119, 115] else if ¬ (c = 2 ∨ c = 3) then some [99, 111, 108, 111, 117, 114, 115] else if r = 3 ∧ c = 3 then some [115, 105, 122, 101] else none
def spInit (a : Ad) : Sp := fun vs H Q E => ∃ (p dx : Addr) (r c : Int), vs = [.ref p, .int r, .int c] ∧ H p = some (.ins a.Scheme dx []) ∧ (∀ l, badPart r c = some l → Ra E a.BadScheme "part" (tx l) H) ∧
  (badPart r c = none → ∀ G, (∀ b o, H b = some o → b ≠ p → G b = some o) → (∃ r' c' n : Nat, (r' : Int) = r ∧ (c' : Int) = c ∧ SchemeAt a.Scheme G p r' c' n) → Q .non G)
theorem c_Scheme_init (T : Txt K mg a) : CanN P w K mg base 3 a.Scheme "Scheme" (spInit a) := by
  refine canN_of T.c_Scheme T.m_Scheme___init__ sc_Scheme___init__ bd_Scheme___init__ (fun vs H Q E h => ?_) (fun f cdv A outer s H vs Q E hr h => ?_)
  · obtain ⟨p, dx, r, c, rfl, _⟩ := h
    rfl
  · obtain ⟨p, dx, r, c, rfl, hp, y, z⟩ := h
    refine ⟨_, (pss_cons (ps_if (pt_cmpR (knotin K) (pv 1) (pe_tup (pa_cons pe_int (pa_cons pe_int (pa_cons pe_int pa_nil)))) (by rfl)) (pss_one (pr_err (c_BadScheme T) (takes_of rfl rfl rfl rfl) (by rfl) hr (by decide) (by rfl) pe_str)) pss_nil)
      (pss_cons (ps_if (pt_cmpR (knotin K) (pv 2) (pe_tup (pa_cons pe_int (pa_cons pe_int pa_nil))) (by rfl)) (pss_one (pr_err (c_BadScheme T) (takes_of rfl rfl rfl rfl) (by rfl) hr (by decide) (by rfl) pe_str)) pss_nil)
      (pss_cons (ps_set (i := 3) sc_Scheme___init__.nd rfl (.inl rfl) pe_int)
      (pss_cons (ps_for (passes_of rfl) (by rfl) (pi_range1 (by rfl) T.b_range (pa_cons (pv 1) pa_nil)) (pg_name (i := 4) sc_Scheme___init__.nd rfl (.inl rfl)) (pss_one (ps_set (i := 3) sc_Scheme___init__.nd rfl (.inl rfl) (pe_op op_mul (pv 3) (pv 2)))))
      (pss_cons (ps_if (pt_cmpR op_gt (pv 3) (kcon K (pv 0)) (nomark _)) (pss_one (pr_err (c_BadScheme T) (takes_of rfl rfl rfl rfl) (by rfl) hr (by decide) (by rfl) pe_str)) pss_nil)
      (pss_cons (ps_fld (pv 0) (pv 1) rfl)
      (pss_cons (ps_fld (pv 0) (pv 2) rfl)
      (pss_one (ps_fld (pv 0) (pe_slice sl_str (C8.pe_gc (by rfl) T.g_LETTERS) po_none (po_some (pv 3))) rfl))))))))), ?_⟩
    have nlit : ∀ s : String, (V.str (Str.ofString s)) = tx (Str.ofString s).cps.toList := fun s => rfl
    have bad : ∀ (l : List Nat) (G : Hp), Same H G → badPart r c = some l → Ra E a.BadScheme "part" (tx l) G := fun l G s e => (y l e).mono s
    refine ⟨_, rfl, by show 3 ≤ sizeLine; decide, fun t ht => ⟨t, _, rfl, .inr (seqT_of upd_same), rfl, rfl, _, rfl, ?_⟩⟩
    have s1 : Same H (upd H t (.tup [.int 1, .int 2, .int 3])) := ex_new ht
    have inr3 : inV (.int r) [.int 1, .int 2, .int 3] = decide (r = 1 ∨ r = 2 ∨ r = 3) := by
      show ((1 : Int) == r || ((2 : Int) == r || ((3 : Int) == r || false))) = _
      by_cases h1 : r = 1
      · subst h1; rfl
      · by_cases h2 : r = 2
        · subst h2; rfl
        · by_cases h3 : r = 3
          · subst h3; rfl
          · simp [h1, h2, h3, Ne.symm h1, Ne.symm h2, Ne.symm h3]
    have inc2 : inV (.int c) [.int 2, .int 3] = decide (c = 2 ∨ c = 3) := by
      show ((2 : Int) == c || ((3 : Int) == c || false)) = _
      by_cases h2 : c = 2
      · subst h2; rfl
      · by_cases h3 : c = 3
        · subst h3; rfl
        · simp [h2, h3, Ne.symm h2, Ne.symm h3]
    rw [inr3]
    by_cases hr3 : r = 1 ∨ r = 2 ∨ r = 3
    · rw [decide_eq_true hr3]
      refine iteF ⟨_, rfl, by show 2 ≤ sizeLine; decide, fun u hu => ⟨u, _, rfl, .inr (seqT_of upd_same), rfl, rfl, _, rfl, ?_⟩⟩
      have s2 := s1.trans (ex_new (o := .tup [.int 2, .int 3]) hu)
      rw [inc2]
      by_cases hc2 : c = 2 ∨ c = 3
      · rw [decide_eq_true hc2]
        obtain ⟨r', rfl⟩ : ∃ r' : Nat, (r' : Int) = r := ⟨r.toNat, by omega⟩
        obtain ⟨c', rfl⟩ : ∃ c' : Nat, (c' : Int) = c := ⟨c.toNat, by omega⟩
        have hr' : r' = 1 ∨ r' = 2 ∨ r' = 3 := by omega
        have hc' : c' = 2 ∨ c' = 3 := by omega
        have pw : ∀ i ≤ 3, (-(2 ^ 64) : Int) < ((c' ^ i : Nat) : Int) ∧ ((c' ^ i : Nat) : Int) < 2 ^ 64 := by
          rcases hc' with rfl | rfl <;> decide
        refine iteF ⟨_, rfl, r', rfl, by omega, by omega, ?_⟩
        refine for_it (walk_range (lo := 0) (n := ((r' : Nat) : Int).toNat)) (fun i σ M => M = upd (upd H t _) u _ ∧ ∃ v : Option V, σ = [some (.ref p), some (.int r'), some (.int c'), some (.int ((c' ^ i : Nat) : Int)), v]) ⟨rfl, none, rfl⟩ (fun _ _ _ _ _ => True.intro) ?_ ?_
        · rintro i x σ M M' hi ⟨rfl, v, rfl⟩ ⟨rfl, rfl⟩
          refine ⟨_, rfl, _, rfl, _, _, rfl, rfl, .inl (pw i (by omega)), rfl, some (.int (0 + (i : Nat))), ?_⟩
          show [_, _, _, some (V.int (((c' ^ i : Nat) : Int) * (c' : Int))), _] = [_, _, _, some (V.int ((c' ^ (i + 1) : Nat) : Int)), _]
          rw [Nat.pow_succ, Int.natCast_mul]
        · rintro σ M ⟨rfl, v, rfl⟩
          have hpM := s2 _ _ hp
          obtain ⟨u9, k9⟩ := T.k_MOST
          refine ⟨_, rfl, _, rfl, p, _, dx, _, _, _, rfl, hpM, T.c_Scheme.cl, k9, rfl, _, _, rfl, rfl, _, rfl, ?_⟩
          rw [show ((r' : Nat) : Int).toNat = r' from rfl]
          by_cases h33 : r' = 3 ∧ c' = 3
          · obtain ⟨rfl, rfl⟩ := h33
            refine iteT (Ra.now ?_)
            rw [show V.str (Str.ofString "size") = tx [115, 105, 122, 101] from congrArg V.str (by decide +kernel)]
            exact bad _ _ s2 rfl
          · have hn : ¬ ((9 : Int) < ((c' ^ r' : Nat) : Int)) := by
              rcases hr' with rfl | rfl | rfl <;> rcases hc' with rfl | rfl <;> first | decide | exact absurd ⟨rfl, rfl⟩ h33
            rw [decide_eq_false hn]
            refine iteF ?_
            refine ⟨_, rfl, _, rfl, p, _, dx, [], rfl, hpM, T.c_Scheme.cl, T.n_rows, by show 0 < 1000; decide, _, rfl, _, rfl, p, _, dx, _, rfl, upd_same, T.c_Scheme.cl, T.n_colours, by show 1 < 1000; decide, _, rfl, _, rfl, _, rfl, by decide +kernel, _, rfl, p, _, dx, _, rfl, upd_same, T.c_Scheme.cl, T.n_columns, by show 2 < 1000; decide, ?_⟩
            have gd : Kit.Good r' c' (c' ^ r') := by
              rcases hr' with rfl | rfl | rfl <;> rcases hc' with rfl | rfl <;> first | decide | exact absurd ⟨rfl, rfl⟩ h33
            have ecut : cutS (Str.ofString "abcdefghi") none (some ((c' ^ r' : Nat) : Int)) = S (cols (c' ^ r')) := by
              rcases hr' with rfl | rfl | rfl <;> rcases hc' with rfl | rfl <;> first | decide +kernel | exact absurd ⟨rfl, rfl⟩ h33
            rw [ecut]
            refine z ?_ _ (fun b o e hb => ?_) ⟨r', c', c' ^ r', rfl, rfl, ⟨dx, ?_⟩, gd⟩
            · unfold badPart
              rw [if_neg (fun q => q hr3), if_neg (fun q => q hc2), if_neg (by omega)]
            · rw [upd_ne hb, upd_ne hb, upd_ne hb]
              exact s2 _ _ e
            · exact upd_same.trans (congrArg (fun l => some (HO.ins a.Scheme dx l)) (put_fl .non .non _ _ _))
      · rw [decide_eq_false hc2]
        refine iteT (Ra.now ?_)
        rw [show V.str (Str.ofString "colours") = tx [99, 111, 108, 111, 117, 114, 115] from congrArg V.str (by decide +kernel)]
        refine bad _ _ s2 ?_
        unfold badPart
        rw [if_neg (fun q => q hr3), if_pos hc2]
    · rw [decide_eq_false hr3]
      refine iteT (Ra.now ?_)
      rw [show V.str (Str.ofString "rows") = tx [114, 111, 119, 115] from congrArg V.str (by decide +kernel)]
      refine bad _ _ s1 ?_
      unfold badPart
      rw [if_pos hr3]
theorem join_eq (s : Str) (l : List Str) : Txt.join s l = Str.join s l := StrLaws.glued_eq_join s l
/-- join of texts of one sign, the empty text between them -/
theorem join_ones : ∀ l : List Nat, Txt.join (S []) (l.map fun x => S [x]) = S l
  | [] => rfl
  | [x] => rfl
  | x :: y :: l => by
    have e := join_ones (y :: l)
    have z : Txt.join (S []) ((x :: y :: l).map fun x => S [x]) = S [x] ++ S [] ++ Txt.join (S []) ((y :: l).map fun x => S [x]) := by
      rw [join_eq, join_eq]
      rfl
    rw [z, e, S_app, S_app]
    rfl
theorem sum_ones (l : List Nat) : ((l.map fun x => S [x]).map (·.length)).sum = l.length := by
  induction l with
  | nil => rfl
  | cons x l ih =>
    rw [List.map_cons, List.map_cons, List.sum_cons, ih, List.length_cons]
    show 1 + l.length = _
    omega
theorem sIx_some (n d k : Nat) : HT.sIx n d (some (k : Int)) = min k n := by
  show (if (k : Int) < 0 then ((k : Int) + (n : Int)).toNat else min (k : Int).toNat n) = _
  rw [if_neg (by omega)]
  rfl
theorem sIx_none (n d : Nat) : HT.sIx n d none = d := rfl
theorem cut_take (l : List Nat) (k : Nat) : cutS (S l) none (some (k : Int)) = S (l.take k) := by
  rw [cut_S, sIx_some, sIx_none, List.drop_zero, Nat.sub_zero]
  congr 1
  by_cases h : k ≤ l.length
  · rw [Nat.min_eq_left h]
  · rw [Nat.min_eq_right (by omega), List.take_length, List.take_of_length_le (by omega)]
theorem cut_drop (l : List Nat) (k : Nat) : cutS (S l) (some (k : Int)) none = S (l.drop k) := by
  rw [cut_S, sIx_some, sIx_none]
  congr 1
  by_cases h : k ≤ l.length
  · rw [Nat.min_eq_left h, List.take_of_length_le (by simp)]
  · rw [Nat.min_eq_right (by omega), List.drop_length, List.drop_of_length_le (by omega), List.take_nil]
theorem getD_at {l : List Nat} {i : Nat} (h : i < l.length) : l[i]? = some (l.getD i 0) := by
  rw [List.getD_eq_getElem?_getD, List.getElem?_eq_getElem h]
  rfl
def spLenS (C : Addr) : Sp := fun vs H Q _ => ∃ (p : Addr) (r c n : Nat), vs = [.ref p] ∧ SchemeAt C H p r c n ∧ Q (.int n) H
theorem c_Scheme_len (T : Txt K mg a) : CanM P w K mg base 1 a.Scheme "__len__" (spLenS a.Scheme) := by
  refine canM_of T.c_Scheme.cl T.m_Scheme___len__ sc_Scheme___len__ bd_Scheme___len__ (fun vs H Q E h => ?_) (fun f cdv A outer s H vs Q E hr h => ?_)
  · obtain ⟨p, r, c, n, rfl, _⟩ := h
    rfl
  · obtain ⟨p, r, c, n, rfl, ⟨⟨dx, hp⟩, gd⟩, z⟩ := h
    refine ⟨_, (pss_one (ps_ret (pe_callB call_len_str (by rfl) T.b_len (by decide +kernel) (pa_cons (kfld K (pv 0)) pa_nil)))), ?_⟩
    have gn := good_n gd
    refine ⟨_, rfl, p, _, dx, _, _, rfl, hp, T.c_Scheme.cl, T.n_columns, fl_columns r c n, _, rfl, szl (by rw [S_len, cols_len]; omega), ?_⟩
    rw [S_len, cols_len]
    exact z
/-- == with another thing: another scheme, an int, a text -/
def spEqS (C : Addr) : Sp := fun vs H Q _ => ∃ (p : Addr) (r c n : Nat) (y : V), vs = [.ref p, y] ∧ SchemeAt C H p r c n ∧
  ((∃ i, y = .int i ∧ Q (.bl false) H) ∨ (∃ t, y = .str t ∧ Q (.bl false) H) ∨ ∃ q r2 c2 n2, y = .ref q ∧ SchemeAt C H q r2 c2 n2 ∧ Q (.bl (decide (r = r2) && decide (c = c2))) H)
theorem c_Scheme_eq (T : Txt K mg a) : CanM P w K mg base 1 a.Scheme "__eq__" (spEqS a.Scheme) := by
  refine canM_of T.c_Scheme.cl T.m_Scheme___eq__ sc_Scheme___eq__ bd_Scheme___eq__ (fun vs H Q E h => ?_) (fun f cdv A outer s H vs Q E hr h => ?_)
  · obtain ⟨p, r, c, n, y, rfl, _⟩ := h
    rfl
  · obtain ⟨p, r, c, n, y, rfl, ⟨⟨dx, hp⟩, gd⟩, z⟩ := h
    refine ⟨_, (pss_one (ps_ret (pe_and (pe_callB (kisi K) (by rfl) T.b_isinstance (by decide +kernel) (pa_cons (pv 1) (pa_cons (pe_glob (v := .ref a.Scheme) (by rfl) T.c_Scheme.gC rfl) pa_nil))) (pe_and (pe_cmpR op_eq (kfld K (pv 0)) (kfld K (pv 1)) (nomark _)) (pe_one (pe_cmpR op_eq (kfld K (pv 0)) (kfld K (pv 1)) (nomark _))))))), ?_⟩
    rcases z with ⟨i, rfl, z⟩ | ⟨t, rfl, z⟩ | ⟨q, r2, c2, n2, rfl, ⟨⟨dy, hq⟩, gd2⟩, z⟩
    · exact ⟨_, rfl, _, _, _, _, false, rfl, .own _, .base (.int i), T.i_int, _, rfl, iteF z⟩
    · exact ⟨_, rfl, _, _, _, _, false, rfl, .own _, .base (.str t), T.i_str, _, rfl, iteF z⟩
    · refine ⟨_, rfl, _, _, _, _, true, rfl, .own _, .base (.ins hq T.c_Scheme.cl T.i_ha T.i_hn T.i_ht T.i_hm), T.i_own, _, rfl, iteT ?_⟩
      refine ⟨_, rfl, p, _, dx, _, _, rfl, hp, T.c_Scheme.cl, T.n_rows, fl_rows r c n, _, rfl, q, _, dy, _, _, rfl, hq, T.c_Scheme.cl, T.n_rows, fl_rows r2 c2 n2, rfl, _, rfl, ?_⟩
      refine ite2 (fun h1 => ?_) (fun h1 => ?_)
      · have h1 : r = r2 := by
          have := V.int.inj (of_decide_eq_true h1)
          omega
        subst h1
        refine ⟨_, rfl, p, _, dx, _, _, rfl, hp, T.c_Scheme.cl, T.n_colours, fl_colours r c n, _, rfl, q, _, dy, _, _, rfl, hq, T.c_Scheme.cl, T.n_colours, fl_colours r c2 n2, rfl, ?_⟩
        have e : decide ((V.int (c : Int)) = V.int (c2 : Int)) = (decide (r = r) && decide (c = c2)) := by
          rw [decide_eq_true (rfl : r = r), Bool.true_and]
          by_cases h : c = c2
          · subst h
            rw [decide_eq_true rfl, decide_eq_true rfl]
          · rw [decide_eq_false h, decide_eq_false fun q => h (by have := V.int.inj q; omega)]
        rw [e]
        exact z
      · have h1 : ¬ r = r2 := fun q => h1 (decide_eq_true (by rw [q]))
        rw [decide_eq_false h1] at z
        exact z
/-! ### of_picture -/
theorem getD_lst {ls : List (List Nat)} {i : Nat} {l : List Nat} (h : ls[i]? = some l) : ls.getD i [] = l := by
  rw [List.getD_eq_getElem?_getD, h]
  rfl
/-! ### signs, spoilt texts, numbers far off -/
theorem itN {c : Prop} [Decidable c] {A B : Prop} (h : ¬ c) (x : B) : if c then A else B := by
  rw [if_neg h]
  exact x
def fe (s : Addr) (l m r : List Nat) (t : Int) : List (Str × V) := [("scheme", .ref s), ("left", tx l), ("middle", tx m), ("right", tx r), ("start", .int t)]
theorem ke : (("left" : Str) == ("scheme" : Str)) = false ∧ (("middle" : Str) == ("scheme" : Str)) = false ∧ (("middle" : Str) == ("left" : Str)) = false ∧ (("right" : Str) == ("scheme" : Str)) = false ∧ (("right" : Str) == ("left" : Str)) = false ∧ (("right" : Str) == ("middle" : Str)) = false ∧
  (("start" : Str) == ("scheme" : Str)) = false ∧ (("start" : Str) == ("left" : Str)) = false ∧ (("start" : Str) == ("middle" : Str)) = false ∧ (("start" : Str) == ("right" : Str)) = false := by decide +kernel
theorem fe_scheme (s : Addr) (l m r : List Nat) (t : Int) : (fe s l m r t).lookup ("scheme" : Str) = some (.ref s) := by
  unfold fe
  rw [List.lookup_cons, beq_self_eq_true]
theorem fe_left (s : Addr) (l m r : List Nat) (t : Int) : (fe s l m r t).lookup ("left" : Str) = some (tx l) := by
  unfold fe
  rw [List.lookup_cons, ke.1, List.lookup_cons, beq_self_eq_true]
theorem fe_middle (s : Addr) (l m r : List Nat) (t : Int) : (fe s l m r t).lookup ("middle" : Str) = some (tx m) := by
  unfold fe
  rw [List.lookup_cons, ke.2.1, List.lookup_cons, ke.2.2.1, List.lookup_cons, beq_self_eq_true]
theorem fe_right (s : Addr) (l m r : List Nat) (t : Int) : (fe s l m r t).lookup ("right" : Str) = some (tx r) := by
  unfold fe
  rw [List.lookup_cons, ke.2.2.2.1, List.lookup_cons, ke.2.2.2.2.1, List.lookup_cons, ke.2.2.2.2.2.1, List.lookup_cons, beq_self_eq_true]
theorem fe_start (s : Addr) (l m r : List Nat) (t : Int) : (fe s l m r t).lookup ("start" : Str) = some (.int t) := by
  unfold fe
  rw [List.lookup_cons, ke.2.2.2.2.2.2.1, List.lookup_cons, ke.2.2.2.2.2.2.2.1, List.lookup_cons, ke.2.2.2.2.2.2.2.2.1, List.lookup_cons, ke.2.2.2.2.2.2.2.2.2, List.lookup_cons, beq_self_eq_true]
theorem fe_no (s : Addr) (l m r : List Nat) (t : Int) {x : Str} (h : (x == ("scheme" : Str)) = false ∧ (x == ("left" : Str)) = false ∧ (x == ("middle" : Str)) = false ∧ (x == ("right" : Str)) = false ∧ (x == ("start" : Str)) = false) : (fe s l m r t).lookup x = none := by
  unfold fe
  rw [List.lookup_cons, h.1, List.lookup_cons, h.2.1, List.lookup_cons, h.2.2.1, List.lookup_cons, h.2.2.2.1, List.lookup_cons, h.2.2.2.2, List.lookup_nil]
theorem put_fe (s : Addr) (l m r : List Nat) (t : Int) : putF "start" (.int t) (putF "right" (tx r) (putF "middle" (tx m) (putF "left" (tx l) (putF "scheme" (.ref s) [])))) = fe s l m r t := by
  have h := ke
  unfold fe
  simp only [putF, h.1, h.2.1, h.2.2.1, h.2.2.2.1, h.2.2.2.2.1, h.2.2.2.2.2.1, h.2.2.2.2.2.2.1, h.2.2.2.2.2.2.2.1, h.2.2.2.2.2.2.2.2.1, h.2.2.2.2.2.2.2.2.2]
  rfl
def isLoop (n : Nat) (x : List Nat) : Bool := isStrip n x && decide (1 ≤ x.length ∧ x.length ≤ 6)
structure PartOk (n : Nat) (l m r : List Nat) (t : Int) : Prop where
  sl : isStrip n l = true
  sm : isStrip n m = true
  sr : isStrip n r = true
  l0 : 1 ≤ l.length
  l6 : l.length ≤ 6
  r0 : 1 ≤ r.length
  r6 : r.length ≤ 6
  m1 : m.length ≤ 100
  t1 : -5000 ≤ t
  t2 : t ≤ 5000
structure EndAt (a : Ad) (H : Hp) (p s : Addr) (R C n : Nat) (l m r : List Nat) (t : Int) : Prop where
  ob : ∃ dx, H p = some (.ins a.Endless dx (fe s l m r t))
  sch : SchemeAt a.Scheme H s R C n
  ok : PartOk n l m r t
theorem EndAt.mono {a : Ad} {H G : Hp} {p s : Addr} {R C n : Nat} {l m r : List Nat} {t : Int} (h : EndAt a H p s R C n l m r t) (e : Same H G) : EndAt a G p s R C n l m r t := ⟨let ⟨dx, z⟩ := h.ob; ⟨dx, e _ _ z⟩, h.sch.mono e, h.ok⟩
def spIsLoop (a : Ad) : Sp := fun vs H Q _ => ∃ (s : Addr) (R C n : Nat) (x : List Nat), vs = [.ref s, tx x] ∧ SchemeAt a.Scheme H s R C n ∧ x.length ≤ 1000 ∧ ∀ G, Same H G → Q (.bl (isLoop n x)) G
theorem c_is_loop (T : Txt K mg a) : Can P w K mg base 2 "_is_loop" (spIsLoop a) := by
  refine can_of T.d_is_loop sc_is_loop bd_is_loop (fun vs H Q E h => ?_) (fun f cdv A outer s0 H vs Q E hr h => ?_)
  · obtain ⟨s, R, C, n, x, rfl, _⟩ := h
    rfl
  · obtain ⟨s, R, C, n, x, rfl, sch, hx, z⟩ := h
    refine ⟨_, (pss_one (ps_ret (pe_and (pc_m (c_Scheme_is_strip T) hr (by decide) (pv 0) (pa_cons (pv 1) pa_nil)) (pe_one (pe_chain op_le op_le pe_int (pe_callB call_len_str (by rfl) T.b_len (by decide +kernel) (pa_cons (pv 1) pa_nil)) (C8.pe_gc (by rfl) T.g_MOST_LOOP)))))), ?_⟩
    obtain ⟨ds, hs⟩ := sch.1
    refine ⟨_, rfl, s, ds, _, rfl, hs, fl_no R C n (by decide +kernel) (by decide +kernel) (by decide +kernel), _, rfl, s, R, C, n, x, rfl, sch, by omega, fun G k => ?_⟩
    unfold isLoop at z
    cases e : isStrip n x with
    | false =>
      have z := z G k
      rw [e, Bool.false_and] at z
      exact ⟨_, rfl, iteF z⟩
    | true =>
      have z := z G k
      rw [e, Bool.true_and] at z
      refine ⟨_, rfl, iteT ?_⟩
      refine ⟨_, rfl, _, rfl, by rw [S_len]; exact szl (by omega), _, _, rfl, rfl, _, rfl, ?_⟩
      rw [S_len]
      by_cases c1 : 1 ≤ x.length
      · refine itP (decide_eq_true (by omega)) ⟨_, _, rfl, rfl, ?_⟩
        show Q (V.bl (decide ((x.length : Int) ≤ 6))) G
        rw [show decide ((x.length : Int) ≤ 6) = decide (1 ≤ x.length ∧ x.length ≤ 6) from decide_eq_decide.mpr (by omega)]
        exact z
      · refine itN (by rw [decide_eq_false (by omega)]; decide) ?_
        rw [decide_eq_false (by omega)] at z
        exact z
def wrongE (n : Nat) (l m r : List Nat) : Option (List Nat) := if isLoop n l = false then some [108, 101, 102, 116] else if isStrip n m = false then some [109, 105, 100, 100, 108, 101] else if isLoop n r = false then some [114, 105, 103, 104, 116] else none
theorem lit_left : Str.ofString "left" = S [108, 101, 102, 116] := by decide +kernel
theorem lit_middle : Str.ofString "middle" = S [109, 105, 100, 100, 108, 101] := by decide +kernel
theorem lit_right : Str.ofString "right" = S [114, 105, 103, 104, 116] := by decide +kernel
def spEInit (a : Ad) : Sp := fun vs H Q E => ∃ (p dx s : Addr) (R C n : Nat) (l m r : List Nat) (t : Int), vs = [.ref p, .ref s, tx l, tx m, tx r, .int t] ∧ H p = some (.ins a.Endless dx []) ∧ SchemeAt a.Scheme H s R C n ∧ l.length ≤ 1000 ∧ m.length ≤ 1000 ∧ r.length ≤ 1000 ∧
  (∀ y, wrongE n l m r = some y → Ra E a.BadEndless "part" (tx y) H) ∧ (wrongE n l m r = none → ∀ G, (∀ b o, H b = some o → b ≠ p → G b = some o) → G p = some (.ins a.Endless dx (fe s l m r t)) → Q .non G)
theorem c_Endless_init (T : Txt K mg a) : CanNK P w K mg base 3 a.Endless "Endless" 4 kw_Endless___init__ (spEInit a) := by
  refine canNK_of T.c_Endless T.m_Endless___init__ sc_Endless___init__ (by decide) rfl bk_Endless___init__ (fun vs H Q E h => ?_) (fun f cdv A outer s0 H vs Q E hr h => ?_)
  · obtain ⟨p, dx, s, R, C, n, l, m, r, t, rfl, _⟩ := h
    rfl
  · obtain ⟨p, dx, s, R, C, n, l, m, r, t, rfl, hp, sch, nl, nm, nr, y, z⟩ := h
    refine ⟨_, (pss_cons (ps_if (pt_not (pt_val (pc_f (c_is_loop T) hr (by decide) (by rfl) (pa_cons (pv 1) (pa_cons (pv 2) pa_nil))))) (pss_one (pr_err (c_BadEndless T) (takes_of rfl rfl rfl rfl) (by rfl) hr (by decide) (by rfl) pe_str)) pss_nil)
      (pss_cons (ps_if (pt_not (pt_val (pc_m (c_Scheme_is_strip T) hr (by decide) (pv 1) (pa_cons (pv 3) pa_nil)))) (pss_one (pr_err (c_BadEndless T) (takes_of rfl rfl rfl rfl) (by rfl) hr (by decide) (by rfl) pe_str)) pss_nil)
      (pss_cons (ps_if (pt_not (pt_val (pc_f (c_is_loop T) hr (by decide) (by rfl) (pa_cons (pv 1) (pa_cons (pv 4) pa_nil))))) (pss_one (pr_err (c_BadEndless T) (takes_of rfl rfl rfl rfl) (by rfl) hr (by decide) (by rfl) pe_str)) pss_nil)
      (pss_cons (ps_fld (pv 0) (pv 1) rfl)
      (pss_cons (ps_fld (pv 0) (pv 2) rfl)
      (pss_cons (ps_fld (pv 0) (pv 3) rfl)
      (pss_cons (ps_fld (pv 0) (pv 4) rfl)
      (pss_one (ps_fld (pv 0) (pv 5) rfl))))))))), ?_⟩
    rw [lit_left, lit_middle, lit_right]
    refine ⟨_, rfl, _, rfl, s, R, C, n, l, rfl, sch, nl, fun G1 k1 => ?_⟩
    cases e1 : isLoop n l with
    | false => exact ⟨_, rfl, iteT (((y _ (if_pos e1)).mono k1).now)⟩
    | true =>
      refine ⟨_, rfl, iteF ?_⟩
      have sch1 := sch.mono k1
      obtain ⟨ds, hs⟩ := sch1.1
      refine ⟨_, rfl, s, ds, _, rfl, hs, fl_no R C n (by decide +kernel) (by decide +kernel) (by decide +kernel), _, rfl, s, R, C, n, m, rfl, sch1, by omega, fun G2 k2 => ?_⟩
      have k12 := k1.trans k2
      cases e2 : isStrip n m with
      | false => exact ⟨_, rfl, iteT (((y _ (by unfold wrongE; rw [if_neg (by rw [e1]; decide), if_pos e2])).mono k12).now)⟩
      | true =>
        refine ⟨_, rfl, iteF ?_⟩
        refine ⟨_, rfl, _, rfl, s, R, C, n, r, rfl, sch.mono k12, nr, fun G3 k3 => ?_⟩
        have k13 := k12.trans k3
        cases e3 : isLoop n r with
        | false => exact ⟨_, rfl, iteT (((y _ (by unfold wrongE; rw [if_neg (by rw [e1]; decide), if_neg (by rw [e2]; decide), if_pos e3])).mono k13).now)⟩
        | true =>
          refine ⟨_, rfl, iteF ?_⟩
          refine ⟨_, rfl, _, rfl, p, _, dx, [], rfl, k13 _ _ hp, T.c_Endless.cl, T.n_scheme, by show 0 < 1000; decide, ?_⟩
          refine ⟨_, rfl, _, rfl, p, _, dx, _, rfl, upd_same, T.c_Endless.cl, T.n_left, by show 1 < 1000; decide, ?_⟩
          refine ⟨_, rfl, _, rfl, p, _, dx, _, rfl, upd_same, T.c_Endless.cl, T.n_middle, by show 2 < 1000; decide, ?_⟩
          refine ⟨_, rfl, _, rfl, p, _, dx, _, rfl, upd_same, T.c_Endless.cl, T.n_right, by show 3 < 1000; decide, ?_⟩
          refine ⟨_, rfl, _, rfl, p, _, dx, _, rfl, upd_same, T.c_Endless.cl, T.n_start, by show 4 < 1000; decide, ?_⟩
          refine z (by unfold wrongE; rw [if_neg (by rw [e1]; decide), if_neg (by rw [e2]; decide), if_neg (by rw [e3]; decide)]) _ (fun b o e hb => ?_) ?_
          · rw [upd_ne hb, upd_ne hb, upd_ne hb, upd_ne hb, upd_ne hb]
            exact k13 _ _ e
          · exact upd_same.trans (congrArg (fun l => some (HO.ins a.Endless dx l)) (put_fe s l m r t))
theorem mod_at {l : List Nat} (h : 1 ≤ l.length) (d : Int) : atI (S l).cps.toList (d.fmod ((l.length : Nat) : Int)) = some (l.getD (d % (l.length : Int)).toNat 0) := by
  have e : d.fmod ((l.length : Nat) : Int) = d % (l.length : Int) := Int.fmod_eq_emod_of_nonneg _ (by omega)
  have p := Int.emod_nonneg d (show (l.length : Int) ≠ 0 by omega)
  have q := Int.emod_lt_of_pos d (show (0 : Int) < l.length by omega)
  rw [e]
  have c : (d % (l.length : Int)).toNat < l.length := by omega
  have := atI_nat (xs := l) (j := (d % (l.length : Int)).toNat) (v := l.getD (d % (l.length : Int)).toNat 0) (by rw [List.getD_eq_getElem?_getD, List.getElem?_eq_getElem c]; rfl)
  rw [show (((d % (l.length : Int)).toNat : Nat) : Int) = d % (l.length : Int) by omega] at this
  exact this
theorem col_neg {l m r : List Nat} {d : Int} (h : d < 0) : col l m r d = l.getD (d % (l.length : Int)).toNat 0 := if_pos h
theorem col_mid {l m r : List Nat} {d : Int} (h : ¬ d < 0) (g : d < (m.length : Int)) : atI (S m).cps.toList d = some (col l m r d) := by
  unfold col
  rw [if_neg h, if_pos g]
  have c : d.toNat < m.length := by omega
  have := atI_nat (xs := m) (j := d.toNat) (v := m.getD d.toNat 0) (by rw [List.getD_eq_getElem?_getD, List.getElem?_eq_getElem c]; rfl)
  rw [show ((d.toNat : Nat) : Int) = d by omega] at this
  exact this
theorem col_pos {l m r : List Nat} {d : Int} (h : ¬ d < 0) (g : ¬ d < (m.length : Int)) : col l m r d = r.getD ((d - (m.length : Int)) % (r.length : Int)).toNat 0 := by
  unfold col
  rw [if_neg h, if_neg g]
theorem getD_in {n : Nat} {l : List Nat} (h : isStrip n l = true) {i : Nat} (hi : i < l.length) : inCol n (l.getD i 0) = true := by
  rw [List.getD_eq_getElem?_getD, List.getElem?_eq_getElem hi]
  exact List.all_eq_true.mp h _ (List.getElem_mem hi)
theorem wd_in {n : Nat} {l m r : List Nat} {t : Int} (h : PartOk n l m r t) (i : Int) : inCol n (wd l m r t i) = true := by
  have h1 := h.l0
  have h2 := h.r0
  have e1 := Int.emod_nonneg (i - t) (show (l.length : Int) ≠ 0 by omega)
  have e2 := Int.emod_lt_of_pos (i - t) (show (0 : Int) < l.length by omega)
  have e3 := Int.emod_nonneg (i - t - m.length) (show (r.length : Int) ≠ 0 by omega)
  have e4 := Int.emod_lt_of_pos (i - t - m.length) (show (0 : Int) < r.length by omega)
  unfold wd col
  by_cases c1 : i - t < 0
  · rw [if_pos c1]
    exact getD_in h.sl (by omega)
  · rw [if_neg c1]
    by_cases c2 : i - t < (m.length : Int)
    · rw [if_pos c2]
      exact getD_in h.sm (by omega)
    · rw [if_neg c2]
      exact getD_in h.sr (by omega)
def spColAt (a : Ad) : Sp := fun vs H Q _ => ∃ (p s : Addr) (R C n : Nat) (l m r : List Nat) (t i : Int), vs = [.ref p, .int i] ∧ EndAt a H p s R C n l m r t ∧ Q (tx [wd l m r t i]) H
theorem c_Endless_column_at (T : Txt K mg a) : CanM P w K mg base 1 a.Endless "column_at" (spColAt a) := by
  refine canM_of T.c_Endless.cl T.m_Endless_column_at sc_Endless_column_at bd_Endless_column_at (fun vs H Q E h => ?_) (fun f cdv A outer s0 H vs Q E hr h => ?_)
  · obtain ⟨p, s, R, C, n, l, m, r, t, i, rfl, _⟩ := h
    rfl
  · obtain ⟨p, s, R, C, n, l, m, r, t, i, rfl, e1, z⟩ := h
    refine ⟨_, (pss_cons (ps_set (i := 2) sc_Endless_column_at.nd rfl (.inl rfl) (pe_op op_sub (pv 1) (kfld K (pv 0))))
      (pss_cons (ps_if (pt_cmpR op_lt (pv 2) pe_int (nomark _)) (pss_one (ps_ret (pe_ix ix_str (kfld K (pv 0)) (pe_op op_modN (pv 2) (pe_callB call_len_str (by rfl) T.b_len (by decide +kernel) (pa_cons (kfld K (pv 0)) pa_nil))) (fun _ _ => rfl)))) pss_nil)
      (pss_cons (ps_if (pt_cmpR op_lt (pv 2) (pe_callB call_len_str (by rfl) T.b_len (by decide +kernel) (pa_cons (kfld K (pv 0)) pa_nil)) (nomark _)) (pss_one (ps_ret (pe_ix ix_str (kfld K (pv 0)) (pv 2) (fun _ _ => rfl)))) pss_nil)
      (pss_one (ps_ret (pe_ix ix_str (kfld K (pv 0)) (pe_op op_modN (pe_op op_sub (pv 2) (pe_callB call_len_str (by rfl) T.b_len (by decide +kernel) (pa_cons (kfld K (pv 0)) pa_nil))) (pe_callB call_len_str (by rfl) T.b_len (by decide +kernel) (pa_cons (kfld K (pv 0)) pa_nil))) (fun _ _ => rfl))))))), ?_⟩
    obtain ⟨dx, hp⟩ := e1.ob
    have ok := e1.ok
    have l0 := ok.l0
    have l6 := ok.l6
    have r0 := ok.r0
    have r6 := ok.r6
    have m1 := ok.m1
    have sz : ∀ {x : List Nat}, x.length ≤ 1000 → (S x).length ≤ sizeLine := fun h => by rw [S_len]; exact szl (by omega)
    refine ⟨_, rfl, _, rfl, p, _, dx, _, _, rfl, hp, T.c_Endless.cl, T.n_start, fe_start s l m r t, _, _, rfl, rfl, _, rfl, _, _, rfl, rfl, _, rfl, ?_⟩
    by_cases c1 : i - t < 0
    · rw [decide_eq_true c1]
      refine iteT ⟨_, rfl, p, _, dx, _, _, rfl, hp, T.c_Endless.cl, T.n_left, fe_left s l m r t, _, rfl, _, rfl, p, _, dx, _, _, rfl, hp, T.c_Endless.cl, T.n_left, fe_left s l m r t, _, rfl, sz (by omega), _, _, rfl, rfl, by rw [S_len]; omega, ?_⟩
      rw [S_len]
      refine ⟨_, _, wd l m r t i, rfl, rfl, sz (by omega), ?_, z⟩
      rw [mod_at l0]
      unfold wd
      rw [col_neg c1]
    · rw [decide_eq_false c1]
      refine iteF ⟨_, rfl, _, rfl, p, _, dx, _, _, rfl, hp, T.c_Endless.cl, T.n_middle, fe_middle s l m r t, _, rfl, sz (by omega), _, _, rfl, rfl, _, rfl, ?_⟩
      rw [S_len]
      by_cases c2 : i - t < (m.length : Int)
      · rw [decide_eq_true c2]
        exact iteT ⟨_, rfl, p, _, dx, _, _, rfl, hp, T.c_Endless.cl, T.n_middle, fe_middle s l m r t, _, rfl, _, _, wd l m r t i, rfl, rfl, sz (by omega), col_mid c1 c2, z⟩
      · rw [decide_eq_false c2]
        refine iteF ⟨_, rfl, p, _, dx, _, _, rfl, hp, T.c_Endless.cl, T.n_right, fe_right s l m r t, _, rfl, _, rfl, p, _, dx, _, _, rfl, hp, T.c_Endless.cl, T.n_middle, fe_middle s l m r t, _, rfl, sz (by omega), _, _, rfl, rfl, ?_⟩
        refine ⟨_, rfl, p, _, dx, _, _, rfl, hp, T.c_Endless.cl, T.n_right, fe_right s l m r t, _, rfl, sz (by omega), _, _, rfl, rfl, by show ((S r).length : Int) ≠ 0; rw [S_len]; omega, ?_⟩
        rw [S_len, S_len]
        refine ⟨_, _, wd l m r t i, rfl, rfl, sz (by omega), ?_, z⟩
        rw [mod_at r0]
        unfold wd
        rw [col_pos c1 c2]
theorem join_win (ls : List Nat) : Txt.join (Str.ofString "") (ls.map fun x => S [x]) = S ls := by rw [lit_e, join_ones]
def spWin (a : Ad) : Sp := fun vs H Q _ => ∃ (p s : Addr) (R C n : Nat) (l m r : List Nat) (t b e : Int), vs = [.ref p, .int b, .int e] ∧ EndAt a H p s R C n l m r t ∧ -20000 ≤ b ∧ b ≤ 20000 ∧ -20000 ≤ e ∧ e ≤ 20000 ∧ ∀ G, Same H G → Q (tx (win (wd l m r t) b (e - b).toNat)) G
theorem c_Endless_window (T : Txt K mg a) : CanM P w K mg base 2 a.Endless "window" (spWin a) := by
  refine canM_of T.c_Endless.cl T.m_Endless_window sc_Endless_window bd_Endless_window (fun vs H Q E h => ?_) (fun f cdv A outer s0 H vs Q E hr h => ?_)
  · obtain ⟨p, s, R, C, n, l, m, r, t, b, e, rfl, _⟩ := h
    rfl
  · obtain ⟨p, s, R, C, n, l, m, r, t, b, e, rfl, e1, b1, b2, b3, b4, z⟩ := h
    refine ⟨_, (pss_one (ps_ret (kjoin K pe_str (pe_lc (own := [("index", 3)]) (g := gName 3) (tt := tYes) (by rfl) sc_Endless_window.nd (pi_range2 (by rfl) T.b_range (pa_cons (pv 1) (pa_cons (pv 2) pa_nil))) (blkOk_by (N := N_Endless_window) (sc := defScope s_Endless_window) (by decide +kernel)) (fun _ _ _ _ _ => (pg_name (i := 3) sc_Endless_window.nd rfl (.inl rfl))) (fun _ _ _ _ _ => pts_nil) (fun _ _ _ _ _ => (pc_m (c_Endless_column_at T) hr (by decide) (pv 0) (pa_cons (pv 3) pa_nil))))))), ?_⟩
    refine ⟨⟨_, rfl⟩, _, rfl, _, rfl, b, e, rfl, by omega, fun D hD => ?_⟩
    refine lc_one (walk_range (lo := b) (n := (e - b).toNat)) ((win (wd l m r t) b (e - b).toNat).map fun x => tx [x]) (by rw [List.length_map, win_len]) (by omega) hD (fun _ _ => True.intro) ?_ ?_
    · rintro i x G G' v hi s1 ⟨rfl, rfl⟩ hv
      rw [List.getElem?_map, win_at hi] at hv
      cases hv
      obtain ⟨dx, hp⟩ := (e1.mono s1).ob
      refine ⟨.refl _, fun Q' q => ⟨_, rfl, p, dx, _, rfl, hp, fe_no s l m r t (by decide +kernel), _, rfl, p, s, R, C, n, l, m, r, t, _, rfl, e1.mono s1, ?_⟩⟩
      exact q _ (.refl _)
    · intro G s1 hG
      refine ⟨_, _, (win (wd l m r t) b (e - b).toNat).map fun y => S [y], rfl, rfl, .inl (seqL_of (by rw [List.map_map]; exact hG)), ?_, ?_⟩
      · rw [sum_ones, win_len, lit_e, S_len, List.length_map, win_len]
        exact szl (by show _ + _ * 0 ≤ _; omega)
      · rw [join_win]
        exact z G s1
def pdI (xs : List Int) : PyData := .list (xs.map PyData.int)
theorem dpAll_int {K : PySem.W.Frag} {H : Hp} : ∀ xs : List Int, DpAll K H (xs.map V.int) (xs.map PyData.int)
  | [] => .nil
  | x :: xs => .cons (.int x) (dpAll_int xs)
theorem dp_int {K : PySem.W.Frag} {H : Hp} {p : Addr} {xs : List Int} (h : H p = some (.lst (xs.map V.int))) : Dp K H (.ref p) (pdI xs) := .lst (seqL_of h) (dpAll_int xs)
theorem plainI (xs : List Int) : (pdI xs).plain = true := by
  unfold pdI PyData.plain
  induction xs with
  | nil => rfl
  | cons l ls ih =>
    rw [List.map_cons]
    unfold PyData.plainAll
    rw [ih]
    rfl
theorem depthAllI (xs : List Int) : PyData.depthAll (xs.map PyData.int) ≤ 1 := by
  induction xs with
  | nil => simp [PyData.depthAll]
  | cons l ls ih =>
    rw [List.map_cons]
    unfold PyData.depthAll
    unfold PyData.depth
    omega
theorem depthI (xs : List Int) : (pdI xs).depth ≤ 64 := by
  unfold pdI PyData.depth
  have := depthAllI xs
  omega
theorem pdI_nil (xs : List Int) : PyData.eqv (pdI xs) (pdI []) = decide (xs = []) := by
  cases xs with
  | nil => rfl
  | cons x xs => rw [decide_eq_false (by intro q; cases q)]; rfl
theorem pdN_nil : PyData.eqv .none (pdI []) = false := rfl
/-! ### ==, moved, endless_apart -/
/-- what the constructor asks of its caller, where the parts are good -/
theorem wrongE_ok {n : Nat} {l m r : List Nat} {t : Int} (h : PartOk n l m r t) : wrongE n l m r = none := by
  have il : isLoop n l = true := by unfold isLoop; rw [h.sl, decide_eq_true ⟨h.l0, h.l6⟩]; rfl
  have ir : isLoop n r = true := by unfold isLoop; rw [h.sr, decide_eq_true ⟨h.r0, h.r6⟩]; rfl
  unfold wrongE
  rw [if_neg (by rw [il]; decide), if_neg (by rw [h.sm]; decide), if_neg (by rw [ir]; decide)]
theorem init_end {a : Ad} {H : Hp} {y dx s : Addr} {R C n : Nat} {l m r : List Nat} {t : Int} {Q : V → Hp → Prop} {E : XK} (sch : SchemeAt a.Scheme H s R C n) (ok : PartOk n l m r t) (hy : H y = none) (hdx : H dx = none) (ne : dx ≠ y) (k : ∀ G, Same H G → EndAt a G y s R C n l m r t → Q (.ref y) G) :
    spEInit a (.ref y :: [.ref s, tx l, tx m, tx r] ++ [.int t]) (upd (upd H dx (.own y)) y (.ins a.Endless dx [])) (fun v G => v = .non ∧ Q (.ref y) G) E := by
  have hy2 : upd H dx (.own y) y = none := by rw [upd_ne (Ne.symm ne)]; exact hy
  have s2 : Same H (upd (upd H dx (.own y)) y (.ins a.Endless dx [])) := (ex_new hdx).trans (ex_new hy2)
  have b1 := ok.l6
  have b2 := ok.m1
  have b3 := ok.r6
  refine ⟨y, dx, s, R, C, n, l, m, r, t, rfl, upd_same, sch.mono s2, by omega, by omega, by omega, fun x h => absurd (h.symm.trans (wrongE_ok ok)) nofun, fun _ G hk hG => ⟨rfl, ?_⟩⟩
  have sG : Same H G := fun b o e => hk b o (s2 _ _ e) (ne_of_none e hy)
  exact k G sG ⟨⟨dx, hG⟩, sch.mono sG, ok⟩
/-! ### the source: n more draws -/
theorem free_same {H G : Hp} {q : Addr} (s : Same H G) (h : G q = none) : H q = none := by
  cases e : H q with
  | none => rfl
  | some o =>
    rw [s _ _ e] at h
    cases h
abbrev bx (q : Addr) (i x y z : Int) : HO := .lst [.ref q, .int i, .int x, .int y, .int z]
def BoxAt (n : Nat) (H : Hp) (p : Addr) : Prop := ∃ (q : Addr) (ns : List Int) (i x y z : Int), H p = some (bx q i x y z) ∧ H q = some (.lst (ns.map V.int)) ∧ q ≠ p ∧ 0 ≤ i ∧ 0 ≤ x ∧ 0 ≤ z ∧ z + n ≤ 100000
def Bu (n : Nat) (p : Addr) (H G : Hp) : Prop := (∀ b o, H b = some o → b ≠ p → G b = some o) ∧ BoxAt n G p ∧ ∀ q r, H p = some (.lst (.ref q :: r)) → ∃ r', G p = some (.lst (.ref q :: r'))
theorem BoxAt.mono {n : Nat} {H G : Hp} {p : Addr} (h : BoxAt n H p) (e : Same H G) : BoxAt n G p := let ⟨q, ns, i, x, y, z, h1, h2, r⟩ := h; ⟨q, ns, i, x, y, z, e _ _ h1, e _ _ h2, r⟩
theorem BoxAt.le {n m : Nat} {H : Hp} {p : Addr} (h : BoxAt n H p) (e : m ≤ n) : BoxAt m H p := let ⟨q, ns, i, x, y, z, h1, h2, h3, h4, h5, h6, h7⟩ := h; ⟨q, ns, i, x, y, z, h1, h2, h3, h4, h5, h6, by omega⟩
theorem Bu.trans {n m : Nat} {p : Addr} {H G M : Hp} (h : Bu n p H G) (k : Bu m p G M) : Bu m p H M := ⟨fun b o e hb => k.1 b o (h.1 b o e hb) hb, k.2.1, fun q r e => let ⟨r', e'⟩ := h.2.2 q r e; k.2.2 q r' e'⟩
theorem Bu.same {n : Nat} {p : Addr} {H G M : Hp} (h : Bu n p H G) (k : Same G M) : Bu n p H M := ⟨fun b o e hb => k b o (h.1 b o e hb), h.2.1.mono k, fun q r e => let ⟨r', e'⟩ := h.2.2 q r e; ⟨r', k _ _ e'⟩⟩
theorem same_bu {n : Nat} {p : Addr} {H G M : Hp} (h : Same H G) (k : Bu n p G M) : Bu n p H M := ⟨fun b o e hb => k.1 b o (h b o e) hb, k.2.1, fun q r e => k.2.2 q r (h _ _ e)⟩
theorem Bu.refl {n : Nat} {p : Addr} {H : Hp} (h : BoxAt n H p) : Bu n p H H := ⟨fun _ _ e _ => e, h, fun _ r e => ⟨r, e⟩⟩
theorem Bu.le {n m : Nat} {p : Addr} {H G : Hp} (h : Bu n p H G) (e : m ≤ n) : Bu m p H G := ⟨h.1, h.2.1.le e, h.2.2⟩
theorem Bu.box {n : Nat} {p : Addr} {H G : Hp} (h : Bu n p H G) : BoxAt n G p := h.2.1
theorem box_ne {n : Nat} {p D : Addr} {H : Hp} (h : BoxAt n H p) (hD : H D = none) : D ≠ p := by
  obtain ⟨q, ns, i, x, y, z, hp, _⟩ := h
  intro e
  rw [e, hp] at hD
  cases hD
theorem Bu.put {n k : Nat} {p D : Addr} {H G : Hp} {o : HO} (h : Bu n p H G) (hb : BoxAt k H p) (hD : H D = none) : Bu n p H (upd G D o) := by
  have ne := box_ne hb hD
  obtain ⟨q0, ns0, i0, x0, y0, z0, h0, h1, _⟩ := hb
  obtain ⟨r', e'⟩ := h.2.2 q0 _ h0
  obtain ⟨q, ns, i, x, y, z, hp, hq, r⟩ := h.2.1
  have eq : q = q0 := by
    rw [hp] at e'
    cases e'
    rfl
  have nq : q ≠ D := fun e => by rw [← eq, e, hD] at h1; cases h1
  refine ⟨fun b u e hb => ?_, ⟨q, ns, i, x, y, z, by rw [upd_ne (Ne.symm ne)]; exact hp, by rw [upd_ne nq]; exact hq, r⟩, fun q2 r2 e2 => ?_⟩
  · have nb : b ≠ D := fun q => by rw [q, hD] at e; cases e
    rw [upd_ne nb]
    exact h.1 b u e hb
  · obtain ⟨r3, e3⟩ := h.2.2 q2 r2 e2
    exact ⟨r3, by rw [upd_ne (Ne.symm ne)]; exact e3⟩
theorem bu_free {n : Nat} {p D : Addr} {H G : Hp} (h : Bu n p H G) (hD : G D = none) : H D = none := by
  cases e : H D with
  | none => rfl
  | some o =>
    by_cases ne : D = p
    · obtain ⟨q, ns, i, x, y, z, hp, _⟩ := h.2.1
      rw [← ne, hD] at hp
      cases hp
    · have := h.1 D o e ne
      rw [hD] at this
      cases this
theorem EndAt.bu {a : Ad} {p s b : Addr} {H G : Hp} {R C n k m' : Nat} {l m r : List Nat} {t : Int} (h : EndAt a H p s R C n l m r t) (hb : BoxAt k H b) (e : Bu m' b H G) : EndAt a G p s R C n l m r t := by
  obtain ⟨q, ns, i, x, y, z, hp, _⟩ := hb
  obtain ⟨dx, ho⟩ := h.ob
  obtain ⟨ds, hs⟩ := h.sch.1
  have n1 : p ≠ b := fun q => by rw [q, hp] at ho; cases ho
  have n2 : s ≠ b := fun q => by rw [q, hp] at hs; cases hs
  exact ⟨⟨dx, e.1 _ _ ho n1⟩, ⟨⟨ds, e.1 _ _ hs n2⟩, h.sch.2⟩, h.ok⟩
theorem SchemeAt.bu {C p s : Addr} {H G : Hp} {r c n k m : Nat} (h : SchemeAt C H s r c n) (hb : BoxAt k H p) (e : Bu m p H G) : SchemeAt C G s r c n := by
  obtain ⟨q, ns, i, x, y, z, hp, _⟩ := hb
  obtain ⟨⟨ds, hs⟩, g⟩ := h
  exact ⟨⟨ds, e.1 _ _ hs (fun q => by rw [q, hp] at hs; cases hs)⟩, g⟩
theorem tup_bu {p q : Addr} {H G : Hp} {xs : List V} {k m : Nat} (h : H q = some (.tup xs)) (hb : BoxAt k H p) (e : Bu m p H G) : G q = some (.tup xs) := by
  obtain ⟨q', ns, i, x, y, z, hp, _⟩ := hb
  exact e.1 _ _ h fun q => by rw [q, hp] at h; cases h
def spSource (K : PySem.W.Frag) : Sp := fun vs H Q _ => ∃ (b : Addr) (ns : List Int), vs = [.ref b] ∧ SqL K H b (ns.map V.int) ∧ ∀ (q : Addr) (G : Hp), Same H G → H q = none → BoxAt 100000 G q → Q (.ref q) G
theorem c_law_source (T : Txt K mg a) : Can P w K mg base 1 "_law_source" (spSource K) := by
  refine can_of T.d_law_source sc_law_source bd_law_source (fun vs H Q E h => ?_) (fun f cdv A outer s H vs Q E hr h => ?_)
  · obtain ⟨b, ns, rfl, _⟩ := h
    rfl
  · obtain ⟨b, ns, rfl, hs, z⟩ := h
    refine ⟨_, (pss_one (ps_ret (pe_lst (pa_cons (pe_callTy (klist_of K) (by rfl) T.b_list (by decide +kernel) (pa_cons (pv 0) pa_nil)) (pa_cons pe_int (pa_cons pe_int (pa_cons pe_int (pa_cons pe_int pa_nil)))))))), ?_⟩
    refine ⟨_, rfl, b, _, rfl, .inl hs, fun q hq => ⟨by show 5 ≤ sizeLine; decide, fun p hp => ?_⟩⟩
    have ne : q ≠ p := fun e => by rw [← e, upd_same] at hp; cases hp
    refine z p _ ((ex_new hq).trans (ex_new hp)) (free_same (ex_new hq) hp) ⟨q, ns, 0, 0, 0, 0, upd_same, by rw [upd_ne ne]; exact upd_same, ne, by decide, by decide, by decide, by decide⟩
def spDraw : Sp := fun vs H Q _ => ∃ (p : Addr) (m : Int) (n : Nat), vs = [.ref p, .int m] ∧ BoxAt (n + 1) H p ∧ 0 < m ∧ m < 1000000000 ∧ ∀ (d : Int) (G : Hp), 0 ≤ d → d < m → Bu n p H G → Q (.int d) G
theorem c_law_draw (T : Txt K mg a) : Can P w K mg base 1 "_law_draw" spDraw := by
  refine can_of T.d_law_draw sc_law_draw bd_law_draw (fun vs H Q E h => ?_) (fun f cdv A outer s H vs Q E hr h => ?_)
  · obtain ⟨p, m, n, rfl, _⟩ := h
    rfl
  · obtain ⟨p, m, n, rfl, ⟨q, ns, i, x, y, z, hp, hq, nqp, hi, hx, hz, hzn⟩, h0, h1, k⟩ := h
    refine ⟨_, (pss_cons (ps_set (i := 2) sc_law_draw.nd rfl (.inl rfl) (pe_ix (kix_list K) (pv 0) pe_int (fun _ _ => rfl)))
      (C8.pss_cut (ps_if (PW.pt (pw_and (pt_cmpR op_eq (pe_ix (kix_list K) (pv 0) pe_int (fun _ _ => rfl)) pe_int (nomark _)) (pw_and1 (pt_cmpR op_lt (pe_ix (kix_list K) (pv 0) pe_int (fun _ _ => rfl)) (pe_callB (klen_seq K) (by rfl) T.b_len (by decide +kernel) (pa_cons (pv 2) pa_nil)) (nomark _))))) (pss_cons (ps_set (i := 3) sc_law_draw.nd rfl (.inl rfl) (pe_callB call_abs (by rfl) T.b_abs (by decide +kernel) (pa_cons (pe_ix (kix_list K) (pv 2) (pe_ix (kix_list K) (pv 0) pe_int (fun _ _ => rfl)) (fun _ _ => rfl)) pa_nil)))
      (pss_cons (ps_asg (pe_op op_add (pe_ix (kix_list K) (pv 0) pe_int (fun _ _ => rfl)) pe_int) (pg_sub (pv 0) pe_int set_list))
      (pss_cons (ps_asg (pe_op op_modN (pe_callTy call_int1 (by rfl) T.b_int (by decide +kernel) (pa_cons (pe_op op_add (pe_op op_mul (pe_ix (kix_list K) (pv 0) pe_int (fun _ _ => rfl)) pe_int) (pe_op op_mul (pe_op op_modN (pe_callTy call_int1 (by rfl) T.b_int (by decide +kernel) (pa_cons (pv 3) pa_nil)) pe_int) pe_int)) pa_nil)) pe_int) (pg_sub (pv 0) pe_int set_list))
      (pss_one (ps_if (pt_cmpR op_ge (pv 3) (pe_op op_pow pe_int pe_int) (nomark _)) (pss_one (ps_asg (pv 3) (pg_sub (pv 0) pe_int set_list))) pss_nil))))) pss_nil)
      (pss_cons (ps_if (pt_cmpR op_gt (pe_ix (kix_list K) (pv 0) pe_int (fun _ _ => rfl)) pe_int (nomark _)) (pss_cons (ps_set (i := 4) sc_law_draw.nd rfl (.inl rfl) (pe_op op_modN (pe_callTy call_int1 (by rfl) T.b_int (by decide +kernel) (pa_cons (pe_ix (kix_list K) (pv 0) pe_int (fun _ _ => rfl)) pa_nil)) (pv 1)))
      (pss_cons (ps_asg (pe_op op_fdivN (pe_ix (kix_list K) (pv 0) pe_int (fun _ _ => rfl)) (pv 1)) (pg_sub (pv 0) pe_int set_list))
      (pss_one (ps_ret (pv 4))))) pss_nil)
      (pss_cons (ps_asg (pe_op op_add (pe_ix (kix_list K) (pv 0) pe_int (fun _ _ => rfl)) pe_int) (pg_sub (pv 0) pe_int set_list))
      (pss_cons (ps_set (i := 5) sc_law_draw.nd rfl (.inl rfl) (pe_op op_modN (pe_callTy call_int1 (by rfl) T.b_int (by decide +kernel) (pa_cons (pe_op op_mul (pe_ix (kix_list K) (pv 0) pe_int (fun _ _ => rfl)) (pe_op op_add (pe_ix (kix_list K) (pv 0) pe_int (fun _ _ => rfl)) pe_int)) pa_nil)) pe_int))
      (pss_cons (ps_set (i := 6) sc_law_draw.nd rfl (.inl rfl) (pe_op op_modN (pe_callTy call_int1 (by rfl) T.b_int (by decide +kernel) (pa_cons (pe_op op_mul (pv 5) (pv 5)) pa_nil)) pe_int))
      (pss_cons (ps_set (i := 7) sc_law_draw.nd rfl (.inl rfl) (pe_op op_modN (pe_callTy call_int1 (by rfl) T.b_int (by decide +kernel) (pa_cons (pe_op op_add (pe_op op_mul (pv 6) pe_int) (pe_op op_mul (pv 5) (pe_ix (kix_list K) (pv 0) pe_int (fun _ _ => rfl)))) pa_nil)) pe_int))
      (pss_one (ps_ret (pe_op op_modN (pe_callTy call_int1 (by rfl) T.b_int (by decide +kernel) (pa_cons (pe_op op_add (pe_op op_fdivN (pv 7) pe_int) (pe_op op_fdivN (pe_op op_mul (pe_ix (kix_list K) (pv 0) pe_int (fun _ _ => rfl)) (pe_ix (kix_list K) (pv 0) pe_int (fun _ _ => rfl))) pe_int)) pa_nil)) (pv 1))))))))))), ?_⟩
    have e0 : ∀ i x y z : Int, atI [V.ref q, .int i, .int x, .int y, .int z] 0 = some (.ref q) := fun _ _ _ _ => rfl
    have e1 : ∀ i x y z : Int, atI [V.ref q, .int i, .int x, .int y, .int z] 1 = some (.int i) := fun _ _ _ _ => rfl
    have e2 : ∀ i x y z : Int, atI [V.ref q, .int i, .int x, .int y, .int z] 2 = some (.int x) := fun _ _ _ _ => rfl
    have e3 : ∀ i x y z : Int, atI [V.ref q, .int i, .int x, .int y, .int z] 3 = some (.int y) := fun _ _ _ _ => rfl
    have e4 : ∀ i x y z : Int, atI [V.ref q, .int i, .int x, .int y, .int z] 4 = some (.int z) := fun _ _ _ _ => rfl
    have m1 : ∀ u : Int, -(2 ^ 64) < u.fmod 2147483647 ∧ u.fmod 2147483647 < 2 ^ 64 := fun u => ⟨by have := Int.fmod_nonneg_of_pos u (show (0 : Int) < 2147483647 by decide); omega, by have := Int.fmod_lt_of_pos u (show (0 : Int) < 2147483647 by decide); omega⟩
    have lenE : (ns.map V.int).length = ns.length := List.length_map ..
    refine ⟨_, rfl, p, _, 0, _, rfl, rfl, seqL_of hp, e0 _ _ _ _, ?_⟩
    refine ⟨fun σ G => ∃ (i x y : Int) (c : Option V), (∀ b o, H b = some o → b ≠ p → G b = some o) ∧ G p = some (bx q i x y z) ∧ 0 ≤ i ∧ 0 ≤ x ∧ σ = [some (.ref p), some (.int m), some (.ref q), c, none, none, none, none], ?_, ?_⟩
    · refine ⟨_, rfl, p, _, 2, _, rfl, rfl, seqL_of hp, e2 _ _ _ _, rfl, _, rfl, ?_⟩
      refine ite2 (fun c1 => ?_) (fun c1 => ?_)
      · refine ⟨_, rfl, p, _, 1, _, rfl, rfl, seqL_of hp, e1 _ _ _ _, _, rfl, q, _, rfl, .inl (seqL_of hq), _, _, rfl, rfl, _, rfl, ?_⟩
        rw [lenE]
        refine ite2 (fun c2 => ?_) (fun c2 => ?_)
        · have c2 := of_decide_eq_true c2
          have hk' : i.toNat < ns.length := by omega
          have hix : atI (ns.map V.int) i = some (.int ns[i.toNat]) := by
            have e := atI_nat (xs := ns.map V.int) (j := i.toNat) (v := .int ns[i.toNat]) (by rw [List.getElem?_map, List.getElem?_eq_getElem hk']; rfl)
            rwa [show ((i.toNat : Nat) : Int) = i by omega] at e
          refine ⟨_, rfl, _, rfl, p, _, 1, _, rfl, rfl, seqL_of hp, e1 _ _ _ _, q, _, _, _, rfl, rfl, seqL_of hq, hix, ns[i.toNat], rfl, ?_⟩
          have hc0 : 0 ≤ (if ns[i.toNat] < 0 then -ns[i.toNat] else ns[i.toNat]) := by split <;> omega
          generalize (if ns[i.toNat] < 0 then -ns[i.toNat] else ns[i.toNat]) = c at hc0 ⊢
          refine ⟨_, rfl, p, _, 1, _, rfl, rfl, seqL_of hp, e1 _ _ _ _, i, 1, rfl, rfl, _, rfl, p, _, 1, 1, rfl, rfl, hp, rfl, ?_⟩
          have hp2 : upd H p (bx q (i + 1) x y z) p = some (bx q (i + 1) x y z) := upd_same
          refine ⟨_, rfl, p, _, 3, _, rfl, rfl, seqL_of hp2, e3 _ _ _ _, _, _, rfl, rfl, .inr (by decide), _, rfl, .inl ⟨_, rfl, _, _, rfl, rfl, (by decide : (2147483647 : Int) ≠ 0), _, _, rfl, rfl, .inr (by decide), ?_⟩⟩
          refine ⟨_, _, rfl, rfl, .inl ⟨_, rfl, _, _, rfl, rfl, (by decide : (2147483647 : Int) ≠ 0), _, rfl, p, _, 3, 3, rfl, rfl, hp2, rfl, ?_⟩⟩
          refine ⟨_, rfl, _, _, rfl, rfl, ⟨by decide, by decide, by decide⟩, _, _, rfl, rfl, _, rfl, ?_⟩
          have keep : ∀ x' y' : Int, ∀ b o, H b = some o → b ≠ p → (upd (upd (upd H p (bx q (i + 1) x y z)) p (bx q (i + 1) x y' z)) p (bx q (i + 1) x' y' z)) b = some o := fun x' y' b o e hb => by rw [upd_ne hb, upd_ne hb, upd_ne hb]; exact e
          refine ite2 (fun c3 => ?_) (fun c3 => ?_)
          · refine ⟨_, rfl, _, rfl, p, _, 2, 2, rfl, rfl, upd_same, rfl, ?_⟩
            exact ⟨i + 1, c, _, _, keep _ _, upd_same, by omega, hc0, rfl⟩
          · exact ⟨i + 1, x, _, _, fun b o e hb => by rw [upd_ne hb, upd_ne hb]; exact e, upd_same, by omega, hx, rfl⟩
        · exact ⟨i, x, y, _, fun _ _ e _ => e, hp, hi, hx, rfl⟩
      · exact ⟨i, x, y, _, fun _ _ e _ => e, hp, hi, hx, rfl⟩
    · rintro σ G ⟨i, x, y, c, kp, hG, hi, hx, rfl⟩
      have fin : ∀ (i x y z' d : Int) (G' : Hp), (∀ b o, G b = some o → b ≠ p → G' b = some o) → G' p = some (bx q i x y z') → 0 ≤ i → 0 ≤ x → 0 ≤ z' → z' ≤ z + 1 → 0 ≤ d → d < m → Q (.int d) G' := fun i x y z' d G' k' hG' g1 g2 g3 g4 g5 g6 =>
        k d G' g5 g6 ⟨fun b o e hb => k' b o (kp b o e hb) hb, ⟨q, ns, i, x, y, z', hG', k' _ _ (kp _ _ hq nqp) nqp, nqp, g1, g2, g3, by omega⟩, fun q2 r2 e2 => by rw [hp] at e2; cases e2; exact ⟨_, hG'⟩⟩
      refine ⟨_, rfl, p, _, 2, _, rfl, rfl, seqL_of hG, e2 _ _ _ _, _, _, rfl, rfl, _, rfl, ?_⟩
      refine ite2 (fun hx0 => ?_) (fun hx0 => ?_)
      · refine ⟨_, rfl, p, _, 2, _, rfl, rfl, seqL_of hG, e2 _ _ _ _, .inl ⟨_, rfl, _, rfl, _, m, rfl, rfl, by omega, ?_⟩⟩
        refine ⟨_, rfl, p, _, 2, _, rfl, rfl, seqL_of hG, e2 _ _ _ _, _, rfl, x, m, rfl, rfl, ⟨by omega, by omega⟩, _, rfl, p, _, 2, 2, rfl, rfl, hG, rfl, ?_⟩
        exact ⟨_, rfl, fin i (x.fdiv m) y z _ _ (fun b o e hb => by rw [upd_ne hb]; exact e) upd_same hi (Int.fdiv_nonneg hx (by omega)) hz (by omega) (Int.fmod_nonneg_of_pos _ h0) (Int.fmod_lt_of_pos _ h0)⟩
      · refine ⟨_, rfl, p, _, 4, _, rfl, rfl, seqL_of hG, e4 _ _ _ _, z, 1, rfl, rfl, _, rfl, p, _, 4, 4, rfl, rfl, hG, rfl, ?_⟩
        have hp2 : upd G p (bx q i x y (z + 1)) p = some (bx q i x y (z + 1)) := upd_same
        refine ⟨_, rfl, p, _, 3, _, rfl, rfl, seqL_of hp2, e3 _ _ _ _, _, rfl, p, _, 4, _, rfl, rfl, seqL_of hp2, e4 _ _ _ _, _, _, rfl, rfl, _, _, rfl, rfl, .inr ⟨by omega, by omega⟩, .inl ⟨_, rfl, _, _, rfl, rfl, (by decide : (2147483647 : Int) ≠ 0), ?_⟩⟩
        have m2 : ∀ u : Int, -(2 ^ 64) < u.fmod 2147483629 ∧ u.fmod 2147483629 < 2 ^ 64 := fun u => ⟨by have := Int.fmod_nonneg_of_pos u (show (0 : Int) < 2147483629 by decide); omega, by have := Int.fmod_lt_of_pos u (show (0 : Int) < 2147483629 by decide); omega⟩
        refine ⟨_, rfl, _, rfl, _, _, rfl, rfl, .inl (m1 _), .inl ⟨_, rfl, _, _, rfl, rfl, (by decide : (2147483629 : Int) ≠ 0), ?_⟩⟩
        refine ⟨_, rfl, _, _, rfl, rfl, .inr ⟨by decide, by decide⟩, _, rfl, _, rfl, p, _, 4, _, rfl, rfl, seqL_of hp2, e4 _ _ _ _, _, _, rfl, rfl, .inl (m1 _), _, _, rfl, rfl, .inl ⟨_, rfl, _, _, rfl, rfl, (by decide : (2147483587 : Int) ≠ 0), ?_⟩⟩
        refine ⟨_, rfl, _, _, rfl, rfl, ⟨by decide, by decide⟩, _, rfl, p, _, 4, _, rfl, rfl, seqL_of hp2, e4 _ _ _ _, _, rfl, p, _, 4, _, rfl, rfl, seqL_of hp2, e4 _ _ _ _, _, _, rfl, rfl, .inl ⟨by omega, by omega⟩, _, _, rfl, rfl, ⟨by decide, by decide⟩, _, _, rfl, rfl, .inl ⟨_, rfl, _, rfl, _, m, rfl, rfl, by omega, ?_⟩⟩
        exact fin i x y (z + 1) _ _ (fun b o e hb => by rw [upd_ne hb]; exact e) upd_same hi hx (by omega) (by omega) (Int.fmod_nonneg_of_pos _ h0) (Int.fmod_lt_of_pos _ h0)
theorem lit_c2 : Str.ofString "ab" = S (cols 2) := by decide +kernel
theorem lit_c3 : Str.ofString "abc" = S (cols 3) := by decide +kernel
theorem lit_c4 : Str.ofString "abcd" = S (cols 4) := by decide +kernel
theorem lit_c8 : Str.ofString "abcdefgh" = S (cols 8) := by decide +kernel
theorem lit_c9 : Str.ofString "abcdefghi" = S (cols 9) := by decide +kernel
theorem cols_in {n k : Nat} (h : k < n) : inCol n (97 + k) = true := by
  rw [← beq_col]
  refine decide_eq_true (List.mem_map.mpr ⟨k, List.mem_range.mpr h, rfl⟩)
theorem cols_ln (n : Nat) : (S (cols n)).length = n := by rw [S_len, cols_len]
def spStrip : Sp := fun vs H Q _ => ∃ (p : Addr) (N m k : Nat), vs = [.ref p, tx (cols N), .int m] ∧ BoxAt (k + m) H p ∧ m ≤ 1000 ∧ 2 ≤ N ∧ N ≤ 9 ∧ ∀ G l, Bu k p H G → l.length = m → isStrip N l = true → Q (tx l) G
theorem c_law_strip (T : Txt K mg a) : Can P w K mg base 2 "_law_strip" spStrip := by
  refine can_of T.d_law_strip sc_law_strip bd_law_strip (fun vs H Q E h => ?_) (fun f cdv A outer s H vs Q E hr h => ?_)
  · obtain ⟨p, N, m, k, rfl, _⟩ := h
    rfl
  · obtain ⟨p, N, m, k, rfl, hb, hm, N2, N9, z⟩ := h
    refine ⟨_, (pss_one (ps_ret (kjoin K pe_str (pe_lc (own := [("k", 3)]) (g := gName 3) (tt := tYes) (by rfl) sc_law_strip.nd (pi_range1 (by rfl) T.b_range (pa_cons (pv 2) pa_nil)) (blkOk_by (N := N_law_strip) (sc := defScope s_law_strip) (by decide +kernel)) (fun _ _ _ _ _ => (pg_name (i := 3) sc_law_strip.nd rfl (.inl rfl))) (fun _ _ _ _ _ => pts_nil) (fun _ _ _ _ _ => (pe_ix ix_str (pv 1) (pc_f (c_law_draw T) hr (by decide) (by rfl) (pa_cons (pv 0) (pa_cons (pe_callB call_len_str (by rfl) T.b_len (by decide +kernel) (pa_cons (pv 1) pa_nil)) pa_nil))) (fun _ _ => rfl))))))), ?_⟩
    refine ⟨⟨_, rfl⟩, _, rfl, m, rfl, by omega, by omega, fun D hD => ?_⟩
    refine lc_it (walk_range (lo := 0) (n := ((m : Nat) : Int).toNat)) (fun i G => ∃ l : List Nat, l.length = i ∧ isStrip N l = true ∧ G D = some (.lst (l.map fun x => tx [x])) ∧ Bu (k + (m - i)) p H G) ⟨[], rfl, rfl, upd_same, (Bu.refl hb).put hb hD⟩ (fun _ _ _ _ => True.intro) ?_ ?_
    · rintro i x G G' hi ⟨l, hl, hst, hGD, bu⟩ ⟨rfl, rfl⟩
      have hi : i < m := hi
      refine ⟨rfl, ?_⟩
      unfold tYes
      dsimp only
      rw [if_pos rfl]
      refine ⟨_, rfl, _, rfl, _, rfl, _, rfl, by rw [cols_ln]; exact szl (by omega), p, _, k + (m - (i + 1)), rfl, bu.box.le (by omega), by rw [cols_ln]; omega, by rw [cols_ln]; omega, fun d G2 d0 d1 bu2 => ?_⟩
      rw [cols_ln] at d1
      have hGD2 := bu2.1 D _ hGD (box_ne hb hD)
      have hc : atI (S (cols N)).cps.toList d = some (97 + d.toNat) := by
        have := cols_at (n := N) (k := d.toNat) (by omega)
        rwa [show ((d.toNat : Nat) : Int) = d by omega] at this
      refine ⟨_, _, 97 + d.toNat, rfl, rfl, by rw [cols_ln]; exact szl (by omega), hc, ?_⟩
      refine ⟨_, hGD2, by rw [List.length_map]; exact szlt (by omega), l ++ [97 + d.toNat], by rw [List.length_append, hl]; rfl, ?_, ?_, (bu.trans bu2).put hb hD⟩
      · unfold isStrip at hst ⊢
        rw [List.all_append, hst, Bool.true_and, List.all_cons, List.all_nil, Bool.and_true]
        exact cols_in (by omega)
      · rw [upd_same, List.map_append]
        rfl
    · rintro G ⟨l, hl, hst, hGD, bu⟩
      have hl : l.length = m := hl
      refine ⟨_, _, l.map fun y => S [y], rfl, rfl, .inl (seqL_of (by rw [List.map_map]; exact hGD)), ?_, ?_⟩
      · rw [sum_ones, lit_e, S_len, List.length_map, hl]
        exact szl (by show _ + _ * 0 ≤ _; omega)
      · rw [join_win]
        exact z G l (bu.le (by omega)) hl hst
abbrev tpl (l m r : List Nat) (t : Int) : HO := .tup [tx l, tx m, tx r, .int t]
theorem strip_take {n k : Nat} {x : List Nat} (h : isStrip n x = true) : isStrip n (x.take k) = true := List.all_eq_true.mpr fun c hc => List.all_eq_true.mp h c (List.mem_of_mem_take hc)
theorem strip_drop {n k : Nat} {x : List Nat} (h : isStrip n x = true) : isStrip n (x.drop k) = true := List.all_eq_true.mpr fun c hc => List.all_eq_true.mp h c (List.mem_of_mem_drop hc)
theorem strip_app {n : Nat} {x y : List Nat} (h : isStrip n x = true) (g : isStrip n y = true) : isStrip n (x ++ y) = true := by
  unfold isStrip at h g ⊢
  rw [List.all_append, h, g]
  rfl
theorem strip_one {n c : Nat} (h : inCol n c = true) : isStrip n [c] = true := by
  unfold isStrip
  rw [List.all_cons, h]
  rfl
theorem good_sizeOf {r c n : Nat} (h : Good r c n) : sizeOf r c = some n ∧ badPart r c = none := by
  rcases h.cases with ⟨rfl, rfl, rfl⟩ | ⟨rfl, rfl, rfl⟩ | ⟨rfl, rfl, rfl⟩ | ⟨rfl, rfl, rfl⟩ | ⟨rfl, rfl, rfl⟩ <;> exact ⟨by decide, by decide⟩
theorem init_good {a : Ad} {H : Hp} {y dx : Addr} {r c n : Nat} {Q : Hp → Prop} (g : Good r c n) (hy : H y = none) (hdx : H dx = none) (ne : dx ≠ y) (k : ∀ G, Same H G → SchemeAt a.Scheme G y r c n → Q G) :
    spInit a (.ref y :: ([.int (r : Int), .int (c : Int)] ++ [])) (upd (upd H dx (.own y)) y (.ins a.Scheme dx [])) (fun v G => v = .non ∧ Q G) E0 := by
  refine ⟨y, dx, r, c, rfl, upd_same, fun l e => ?_, fun _ G hG hs => ⟨rfl, ?_⟩⟩
  · rw [(good_sizeOf g).2] at e
    cases e
  · obtain ⟨r', c', n', e1, e2, sch⟩ := hs
    obtain rfl : r' = r := by omega
    obtain rfl : c' = c := by omega
    have e3 := (good_sizeOf sch.2).1
    rw [(good_sizeOf g).1] at e3
    cases e3
    exact k G (fun b o hb => hG b o (((ex_new hdx).trans (ex_new (by rw [upd_ne (Ne.symm ne)]; exact hy))) b o hb) (ne_of_none hb hy)) sch
theorem init_endH {a : Ad} {H : Hp} {y dx s : Addr} {R C n : Nat} {l m r : List Nat} {t : Int} {Q : Hp → Prop} {E : XK} (sch : SchemeAt a.Scheme H s R C n) (ok : PartOk n l m r t) (hy : H y = none) (hdx : H dx = none) (ne : dx ≠ y) (k : ∀ G, Same H G → EndAt a G y s R C n l m r t → Q G) :
    spEInit a (.ref y :: ([.ref s, tx l, tx m, tx r] ++ [.int t])) (upd (upd H dx (.own y)) y (.ins a.Endless dx [])) (fun v G => v = .non ∧ Q G) E := init_end (Q := fun _ G => Q G) sch ok hy hdx ne k
theorem lit_a : Str.ofString "a" = S [97] := by decide +kernel
theorem part_a {N : Nat} (h : 0 < N) : PartOk N [97] [] [97] 0 := by
  have e : isStrip N [97] = true := strip_one (cols_in (k := 0) h)
  exact ⟨e, rfl, e, by decide, by decide, by decide, by decide, by decide, by decide, by decide⟩
def exts (n : Nat) (u : List Nat) : List (List Nat) := (cols n).map fun c => u ++ [c]
theorem exts_len (n : Nat) (u : List Nat) : (exts n u).length = n := by unfold exts; rw [List.length_map, cols_len]
theorem exts_take {n : Nat} {u : List Nat} {j c : Nat} (h : (cols n)[j]? = some c) : (exts n u).take (j + 1) = (exts n u).take j ++ [u ++ [c]] := by
  unfold exts
  rw [← List.map_take, ← List.map_take, List.take_add_one, h, List.map_append]
  rfl
theorem exts_step {n : Nat} {xs : List (List Nat)} {i : Nat} {u : List Nat} (h : xs[i]? = some u) : (xs.take (i + 1)).flatMap (exts n) = (xs.take i).flatMap (exts n) ++ exts n u := by
  rw [List.take_add_one, h, List.flatMap_append]
  simp
theorem small_w {n m : Nat} (h : 2 ≤ n) (h2 : n ^ m ≤ 729) : m ≤ 9 := by
  by_cases c : m ≤ 9
  · exact c
  · exfalso
    have h3 : 2 ^ 10 ≤ 2 ^ m := Nat.pow_le_pow_right (by decide) (by omega)
    have h4 : 2 ^ m ≤ n ^ m := Nat.pow_le_pow_left h m
    have : (2 : Nat) ^ 10 = 1024 := by decide
    omega
/-- an object with a scheme -/
def HasS (K : PySem.W.Frag) (H : Hp) (p s : Addr) : Prop := ∃ (C dx : Addr) (fs : List (Str × V)), H p = some (.ins C dx fs) ∧ Cls K C ∧ NoAttr K C "scheme" ∧ fs.lookup ("scheme" : Str) = some (.ref s)
def spAlk (a : Ad) (K : PySem.W.Frag) : Sp := fun vs H Q E => ∃ (p s p2 s2 : Addr) (R C n R2 C2 n2 : Nat), vs = [.ref p, .ref p2] ∧ HasS K H p s ∧ HasS K H p2 s2 ∧ SchemeAt a.Scheme H s R C n ∧ SchemeAt a.Scheme H s2 R2 C2 n2 ∧
  ((R = R2 ∧ C = C2) → Q .non H) ∧ (¬ (R = R2 ∧ C = C2) → RaZ E a.UnlikeSchemes H)
theorem c_check_alike (T : Txt K mg a) : Can P w K mg base 3 "check_alike" (spAlk a K) := by
  refine can_of T.d_check_alike sc_check_alike bd_check_alike (fun vs H Q E h => ?_) (fun f cdv A outer s0 H vs Q E hr h => ?_)
  · obtain ⟨p, s, p2, s2, R, C, n, R2, C2, n2, rfl, _⟩ := h
    rfl
  · obtain ⟨p, s, p2, s2, R, C, n, R2, C2, n2, rfl, ⟨D, dx, fs, hp, cl, na, lk⟩, ⟨D2, dx2, fs2, hp2, cl2, na2, lk2⟩, sc1, sc2, z, y⟩ := h
    refine ⟨_, (pss_one (ps_if (pt_cmpR (neO K (c_Scheme_eq T) hr (by decide) T.n_Scheme) (kfld K (pv 0)) (kfld K (pv 1)) (nomark _)) (pss_one (pr_own0 T.z_UnlikeSchemes (takes_of rfl rfl rfl rfl) (by rfl) (by rfl))) pss_nil)), ?_⟩
    obtain ⟨sx, hs⟩ := sc1.1
    obtain ⟨sx2, hs2⟩ := sc2.1
    refine ⟨_, rfl, p, _, dx, _, _, rfl, hp, cl, na, lk, _, rfl, p2, _, dx2, _, _, rfl, hp2, cl2, na2, lk2,
      s, _, _, s2, _, _, rfl, hs, rfl, hs2, s, R, C, n, _, rfl, sc1, .inr (.inr ⟨s2, R2, C2, n2, rfl, sc2, _, rfl, ?_⟩)⟩
    refine ⟨_, rfl, ?_⟩
    by_cases e : R = R2 ∧ C = C2
    · rw [decide_eq_true e.1, decide_eq_true e.2]
      exact iteF (z e)
    · have e1 : (decide (R = R2) && decide (C = C2)) = false := by
        rw [Bool.and_eq_false_iff]
        by_cases k : R = R2
        · exact .inr (decide_eq_false fun q => e ⟨k, q⟩)
        · exact .inl (decide_eq_false k)
      rw [e1]
      exact iteT (y e H (.refl _))
def spNarrow (a : Ad) : Sp := fun vs H Q _ => ∃ (s : Addr) (R C n : Nat) (m : Nat), vs = [.ref s, .int m] ∧ SchemeAt a.Scheme H s R C n ∧ Q (.bl (decide (n ^ m ≤ 729))) H
theorem c_is_narrow (T : Txt K mg a) : Can P w K mg base 3 "is_narrow" (spNarrow a) := by
  refine can_of T.d_is_narrow sc_is_narrow bd_is_narrow (fun vs H Q E h => ?_) (fun f cdv A outer s0 H vs Q E hr h => ?_)
  · obtain ⟨s, R, C, n, m, rfl, _⟩ := h
    rfl
  · obtain ⟨s, R, C, n, m, rfl, sch, z⟩ := h
    refine ⟨_, (pss_cons (ps_set (i := 2) sc_is_narrow.nd rfl (.inl rfl) pe_int)
      (pss_cons (ps_set (i := 3) sc_is_narrow.nd rfl (.inl rfl) (pv 1))
      (pss_cons (ps_while (passes_of rfl) (PW.pt (pw_and (pt_cmpR op_gt (pv 3) pe_int (nomark _)) (pw_and1 (pt_cmpR op_le (pv 2) (ClX.pe_cval (pe_glob (v := .ref a.Block) (by rfl) T.c_Block.gC rfl)) (nomark _))))) (pss_cons (ps_set (i := 2) sc_is_narrow.nd rfl (.inl rfl) (pe_op op_mul (pv 2) (pe_callB (lenO (c_Scheme_len T) hr (by decide)) (by rfl) T.b_len (by decide +kernel) (pa_cons (pv 0) pa_nil))))
      (pss_one (ps_aug (i := 3) sc_is_narrow.nd rfl (.inl rfl) pe_int ip_sub))))
      (pss_one (ps_ret (pe_cmpR op_le (pv 2) (ClX.pe_cval (pe_glob (v := .ref a.Block) (by rfl) T.c_Block.gC rfl)) (nomark _))))))), ?_⟩
    have gn := good_n sch.2
    obtain ⟨ds, hs⟩ := sch.1
    obtain ⟨mc, rd, u0, cv⟩ := T.r_Block
    refine ⟨_, rfl, ?_⟩
    refine ⟨fun k σ G => G = H ∧ ∃ i : Nat, i + k = m ∧ (i = 0 ∨ n ^ (i - 1) ≤ 729) ∧ σ = [some (.ref s), some (.int (m : Nat)), some (.int ((n ^ i : Nat) : Int)), some (.int (k : Nat))], ⟨m, rfl, 0, by omega, .inl rfl, by rw [Nat.pow_zero]; rfl⟩, ?_⟩
    rintro k σ G ⟨rfl, i, hi, hb, rfl⟩
    refine ⟨_, rfl, _, _, rfl, rfl, _, rfl, ?_⟩
    by_cases c1 : 0 < k
    · refine itP (decide_eq_true (by omega)) ?_
      refine ⟨_, rfl, a.Block, mc, _, u0, rfl, rd, cv, _, _, rfl, rfl, _, rfl, ?_⟩
      by_cases c2 : n ^ i ≤ 729
      · refine itP (decide_eq_true (by omega)) ?_
        refine ⟨fun σ G' => G' = G ∧ σ = [some (.ref s), some (.int (m : Nat)), some (.int ((n ^ (i + 1) : Nat) : Int)), some (.int ((k - 1 : Nat) : Int))], ?_, ?_⟩
        · rintro _ _ ⟨rfl, rfl⟩
          exact ⟨k - 1, by omega, rfl, i + 1, by omega, .inr (by rw [Nat.add_sub_cancel]; exact c2), rfl⟩
        · refine ⟨_, rfl, _, rfl, s, ds, _, rfl, hs, s, R, C, n, rfl, sch, n, rfl, by omega, by omega, _, _, rfl, rfl, .inr ⟨by omega, by omega⟩, ?_⟩
          refine ⟨_, rfl, k, 1, rfl, rfl, rfl, ?_⟩
          rw [Nat.pow_succ]
          show [_, _, some (V.int (((n ^ i : Nat) : Int) * (n : Int))), some (V.int ((k : Int) - 1))] = _
          rw [← Int.natCast_mul, show ((k - 1 : Nat) : Int) = (k : Int) - 1 by omega]
      · refine itN (by rw [decide_eq_false (by omega)]; decide) ?_
        refine ⟨_, rfl, a.Block, mc, _, u0, rfl, rd, cv, _, _, rfl, rfl, ?_⟩
        have : ¬ n ^ m ≤ 729 := fun q => c2 (Nat.le_trans (Nat.pow_le_pow_right (by omega) (by omega)) q)
        rw [decide_eq_false this] at z
        show Q (.bl (decide (((n ^ i : Nat) : Int) ≤ 729))) G
        rw [decide_eq_false (by omega)]
        exact z
    · refine itN (by rw [decide_eq_false (by omega)]; decide) ?_
      have : i = m := by omega
      subst this
      refine ⟨_, rfl, a.Block, mc, _, u0, rfl, rd, cv, _, _, rfl, rfl, ?_⟩
      show Q (.bl (decide (((n ^ i : Nat) : Int) ≤ 729))) G
      rw [show decide (((n ^ i : Nat) : Int) ≤ 729) = decide (n ^ i ≤ 729) from decide_eq_decide.mpr (by omega)]
      exact z
def spWords (a : Ad) : Sp := fun vs H Q _ => ∃ (s : Addr) (R C n m : Nat), vs = [.ref s, .int m] ∧ SchemeAt a.Scheme H s R C n ∧ n ^ m ≤ 729 ∧ ∀ G q, Same H G → H q = none → G q = some (.lst ((words n m).map tx)) → Q (.ref q) G
theorem c_words_of (T : Txt K mg a) : Can P w K mg base 1 "words_of" (spWords a) := by
  refine can_of T.d_words_of sc_words_of bd_words_of (fun vs H Q E h => ?_) (fun f cdv A outer s0 H vs Q E hr h => ?_)
  · obtain ⟨s, R, C, n, m, rfl, _⟩ := h
    rfl
  · obtain ⟨s, R, C, n, m, rfl, sch, hm, z⟩ := h
    refine ⟨_, (pss_cons (ps_set (i := 2) sc_words_of.nd rfl (.inl rfl) (pe_lst (pa_cons pe_str pa_nil)))
      (pss_cons (ps_for (passes_of rfl) (by rfl) (pi_range1 (by rfl) T.b_range (pa_cons (pv 1) pa_nil)) (pg_name (i := 3) sc_words_of.nd rfl (.inl rfl)) (pss_one (ps_setLc2 (i := 2) (own := [("word", 4), ("column", 5)]) (vs1 := [5]) (g := gName 4) (g1 := gName 5) (tt := tYes) (tt1 := tYes)  (by rfl) sc_words_of.nd rfl rfl (sw_true rfl rfl rfl (by decide +kernel)) (kpi_list K (pv 2)) (blkOk_by (N := N_words_of) (sc := defScope s_words_of) (by decide +kernel)) (by decide) (fun _ _ _ _ _ => (pg_name (i := 4) sc_words_of.nd rfl (.inl rfl))) (fun _ _ _ _ _ => pts_nil) (fun _ _ _ _ _ => (pi_str (kfld K (pv 0)))) (fun _ _ _ _ _ => (pg_name (i := 5) sc_words_of.nd rfl (.inl rfl))) (fun _ _ _ _ _ => pts_nil) (fun _ _ _ _ _ => (pe_op op_add_str (pv 4) (pv 5))))))
      (pss_one (ps_ret (pv 2))))), ?_⟩
    have gn := good_n sch.2
    have m9 := small_w gn.2.2.2.2 hm
    obtain ⟨ds, hs⟩ := sch.1
    rw [lit_e]
    refine ⟨by show 1 ≤ sizeLine; decide, fun q0 hq0 => ?_⟩
    have k0 := ex_new (o := .lst [tx []]) hq0
    refine ⟨_, rfl, m, rfl, by omega, by omega, for_it (walk_range (lo := 0) (n := ((m : Nat) : Int).toNat)) (fun i σ G => Same H G ∧ ∃ (q : Addr) (x : Option V), H q = none ∧ G q = some (.lst ((words n i).map tx)) ∧ σ = [some (.ref s), some (.int (m : Nat)), some (.ref q), x, none, none]) ⟨k0, q0, none, hq0, by rw [words_zero]; exact upd_same, rfl⟩ (fun _ _ _ _ _ => True.intro) ?_ ?_⟩
    · rintro i x σ G' G hi' ⟨k1, q, v1, hq, hG, rfl⟩ ⟨rfl, rfl⟩
      have hi' : i < m := hi'
      have pw : n ^ (i + 1) ≤ 729 := Nat.le_trans (Nat.pow_le_pow_right (by omega) (by omega)) hm
      have lw := words_len n i
      refine ⟨_, rfl, q, rfl, ⟨_, seqL_of hG⟩, fun D hD => ?_⟩
      have nD : D ≠ q := fun e => by rw [e, hG] at hD; cases hD
      have fD : H D = none := free_same k1 hD
      refine lc_out (walk_list (xs := (words n i).map tx)) _ (fun j M => Same G M ∧ ∃ ys : List (List Nat), ys = ((words n i).take j).flatMap (exts n) ∧ ys.length = j * n ∧ M D = some (.lst (ys.map tx))) ⟨ex_new hD, [], rfl, by rw [Nat.zero_mul]; rfl, upd_same⟩ (fun j M _ h => seqL_of (h.1 _ _ hG)) ?_ ?_
      · rintro j x M' M hj ⟨k2, ys, hys, lys, hM⟩ ⟨rfl, hx⟩
        rw [List.length_map] at hj
        have hm' := List.getElem?_eq_getElem hj
        rw [List.getElem?_map, hm'] at hx
        cases hx
        generalize hu : (words n i)[j] = u at hm'
        have lu : u.length = i := by
          rw [words_at (by rw [← lw]; exact hj)] at hm'
          cases hm'
          exact wdig_len n i j
        have hjn : (j + 1) * n ≤ 729 := by
          rw [Nat.pow_succ] at pw
          exact Nat.le_trans (Nat.mul_le_mul_right _ (by omega)) pw
        rw [Nat.add_mul, Nat.one_mul] at hjn
        have hs2 := k2 _ _ (k1 _ _ hs)
        refine ⟨rfl, yesT (iteT ⟨_, rfl, s, _, ds, _, _, rfl, hs2, T.c_Scheme.cl, T.n_columns, fl_columns R C n, _, rfl, lc_in walk_str (fun t M' => Same G M' ∧ M' D = some (.lst ((ys ++ (exts n u).take t).map tx))) ⟨k2, by rw [List.take_zero, List.append_nil]; exact hM⟩ (fun _ _ _ _ => True.intro) ?_ ?_⟩)⟩
        · rintro t c M1' M1 ht ⟨k3, hM1⟩ ⟨rfl, c', hc, rfl⟩
          have hc := at_S hc
          have ht : t < (S (cols n)).length := ht
          rw [cols_ln] at ht
          refine ⟨rfl, yesT (iteT ⟨_, rfl, _, rfl, _, _, rfl, rfl, by rw [S_len, lu]; exact szl (by show i + 1 ≤ _; omega), _, hM1, ?_, ?_⟩)⟩
          · rw [List.length_map, List.length_append, lys, List.length_take]
            exact szlt (by omega)
          · refine ⟨ex_mut k3 hD, ?_⟩
            rw [upd_same, exts_take hc, ← List.append_assoc, List.map_append (l₁ := ys ++ _)]
            exact congrArg some (congrArg HO.lst (congrArg _ (congrArg (fun x => [V.str x]) (S_app _ _))))
        · rintro M1 ⟨k3, hM1⟩
          refine ⟨k3, ys ++ exts n u, ?_, ?_, ?_⟩
          · rw [exts_step hm', ← hys]
          · rw [List.length_append, lys, exts_len, Nat.add_mul, Nat.one_mul]
          · have e : (exts n u).take (S (cols n)).length = exts n u := List.take_of_length_le (by rw [exts_len, cols_ln]; exact Nat.le_refl _)
            have hM1 : M1 D = some (.lst ((ys ++ (exts n u).take (S (cols n)).length).map tx)) := hM1
            rw [e] at hM1
            exact hM1
      · rintro M ⟨k2, ys, hys, lys, hM⟩
        have e : (words n i).take ((words n i).map tx).length = words n i := List.take_of_length_le (by rw [List.length_map]; exact Nat.le_refl _)
        rw [e] at hys
        refine ⟨k1.trans k2, D, _, fD, ?_, rfl⟩
        rw [words_succ (by omega), show (words n i).flatMap (fun u => (cols n).map fun c => u ++ [c]) = ys from hys.symm]
        exact hM
    · rintro σ G ⟨k1, q, v1, hq, hG, rfl⟩
      exact ⟨_, rfl, z G q k1 hq hG⟩
theorem signs_S (l : List Nat) : Kit.signs (S l) = l.map fun x => tx [x] := rfl
def mn (a b : Int) : Int := if b < a then b else a
def mx (a b : Int) : Int := if b > a then b else a
theorem one_ne (c d : Nat) : (!decide (tx [c] = tx [d])) = (c != d) := by
  by_cases h : c = d
  · subst h
    rw [decide_eq_true (p := tx [c] = tx [c]) rfl]
    simp
  · rw [decide_eq_false (p := tx [c] = tx [d]) fun e => h (by have := S_inj (V.str.inj e); simpa using this)]
    simp [h]
theorem cnt_eq {w v : Int → Nat} {lo hi : Int} {L i : Nat} (h : w (lo - L + i) = v (lo - L + i)) : difs w v lo (min (lo - L + ((i + 1 : Nat) : Int) - lo).toNat (hi - lo).toNat) = difs w v lo (min (lo - L + (i : Int) - lo).toNat (hi - lo).toNat) := by
  by_cases c : min (lo - L + ((i + 1 : Nat) : Int) - lo).toNat (hi - lo).toNat = min (lo - L + (i : Int) - lo).toNat (hi - lo).toNat
  · rw [c]
  · have e : min (lo - L + ((i + 1 : Nat) : Int) - lo).toNat (hi - lo).toNat = min (lo - L + (i : Int) - lo).toNat (hi - lo).toNat + 1 := by omega
    have e2 : lo + ((min (lo - L + (i : Int) - lo).toNat (hi - lo).toNat : Nat) : Int) = lo - L + i := by omega
    rw [e, difs_succ, e2, if_pos h, List.append_nil]
theorem cnt_ne {w v : Int → Nat} {lo hi : Int} {L i : Nat} (h : ¬ w (lo - L + i) = v (lo - L + i)) (h1 : lo ≤ lo - L + (i : Int)) (h2 : lo - L + (i : Int) < hi) : difs w v lo (min (lo - L + ((i + 1 : Nat) : Int) - lo).toNat (hi - lo).toNat) = difs w v lo (min (lo - L + (i : Int) - lo).toNat (hi - lo).toNat) ++ [lo - L + (i : Int)] := by
  have e : min (lo - L + ((i + 1 : Nat) : Int) - lo).toNat (hi - lo).toNat = min (lo - L + (i : Int) - lo).toNat (hi - lo).toNat + 1 := by omega
  have e2 : lo + ((min (lo - L + (i : Int) - lo).toNat (hi - lo).toNat : Nat) : Int) = lo - L + i := by omega
  rw [e, difs_succ, e2, if_neg h]
/-- how far the words of two endless strips must be compared -/
theorem far_near {l m r l2 m2 r2 : List Nat} {t t2 : Int} {n n2 : Nat} (h : PartOk n l m r t) (g : PartOk n2 l2 m2 r2 t2) {L R : Nat} (L0 : 0 < L) (R0 : 0 < R) (d1 : l.length ∣ L) (d2 : l2.length ∣ L) (d3 : r.length ∣ R) (d4 : r2.length ∣ R) {lo hi : Int} (h1 : lo ≤ t) (h2 : lo ≤ t2) (h3 : t + m.length ≤ hi) (h4 : t2 + m2.length ≤ hi) :
    Far (wd l m r t) (wd l2 m2 r2 t2) lo hi ↔ (∃ i, lo - L ≤ i ∧ i < lo ∧ wd l m r t i ≠ wd l2 m2 r2 t2 i) ∨ ∃ i, hi ≤ i ∧ i < hi + R ∧ wd l m r t i ≠ wd l2 m2 r2 t2 i := by
  obtain ⟨k1, rfl⟩ := d1
  obtain ⟨k2, e2⟩ := d2
  obtain ⟨k3, rfl⟩ := d3
  obtain ⟨k4, e4⟩ := d4
  unfold Far
  rw [near_left L0 (fun i hi => by have := wd_left (l := l) (m := m) (r := r) k1 (show i < t by omega); rw [Nat.mul_comm] at this; exact this) (fun i hi => by have := wd_left (l := l2) (m := m2) (r := r2) k2 (show i < t2 by omega); rw [Nat.mul_comm, ← e2] at this; exact this),
    near_right R0 (fun i hi => by have := wd_right (l := l) (m := m) (r := r) k3 (show t + m.length ≤ i by omega); rw [Nat.mul_comm] at this; exact this) (fun i hi => by have := wd_right (l := l2) (m := m2) (r := r2) k4 (show t2 + m2.length ≤ i by omega); rw [Nat.mul_comm, ← e4] at this; exact this)]
def spApart (a : Ad) : Sp := fun vs H Q _ => ∃ (p s p2 s2 : Addr) (R C n R2 C2 n2 : Nat) (l m r l2 m2 r2 : List Nat) (t t2 : Int), vs = [.ref p, .ref p2] ∧ EndAt a H p s R C n l m r t ∧ EndAt a H p2 s2 R2 C2 n2 l2 m2 r2 t2 ∧
  (Far (wd l m r t) (wd l2 m2 r2 t2) (mn t t2) (mx (t + m.length) (t2 + m2.length)) → ∀ G, Same H G → Q .non G) ∧
  (¬ Far (wd l m r t) (wd l2 m2 r2 t2) (mn t t2) (mx (t + m.length) (t2 + m2.length)) → ∀ G q, Same H G → H q = none → G q = some (.lst ((difs (wd l m r t) (wd l2 m2 r2 t2) (mn t t2) (mx (t + m.length) (t2 + m2.length) - mn t t2).toNat).map V.int)) → Q (.ref q) G)
theorem c_apart (T : Txt K mg a) : Can P w K mg base 3 "_apart" (spApart a) := by
  refine can_of T.d_apart sc_apart bd_apart (fun vs H Q E h => ?_) (fun f cdv A outer s0 H vs Q E hr h => ?_)
  · obtain ⟨p, s, p2, s2, R, C, n, R2, C2, n2, l, m, r, l2, m2, r2, t, t2, rfl, _⟩ := h
    rfl
  · obtain ⟨p, s, p2, s2, R, C, n, R2, C2, n2, l, m, r, l2, m2, r2, t, t2, rfl, e1, e2, z1, z2⟩ := h
    refine ⟨_, (pss_cons (ps_set (i := 2) sc_apart.nd rfl (.inl rfl) (pe_callB (call_min2 (by rfl)) (by rfl) T.b_min (by decide +kernel) (pa_cons (kfld K (pv 0)) (pa_cons (kfld K (pv 1)) pa_nil))))
      (pss_cons (ps_set (i := 3) sc_apart.nd rfl (.inl rfl) (pe_callB (call_max2 (by rfl)) (by rfl) T.b_max (by decide +kernel) (pa_cons (pe_op op_add (kfld K (pv 0)) (pe_callB call_len_str (by rfl) T.b_len (by decide +kernel) (pa_cons (kfld K (pv 0)) pa_nil))) (pa_cons (pe_op op_add (kfld K (pv 1)) (pe_callB call_len_str (by rfl) T.b_len (by decide +kernel) (pa_cons (kfld K (pv 1)) pa_nil))) pa_nil))))
      (pss_cons (ps_set (i := 4) sc_apart.nd rfl (.inl rfl) (pe_op op_sub (pv 2) (pe_callBfun cr_lcm (by rfl) T.m_lcm (pa_cons (pe_callB call_len_str (by rfl) T.b_len (by decide +kernel) (pa_cons (kfld K (pv 0)) pa_nil)) (pa_cons (pe_callB call_len_str (by rfl) T.b_len (by decide +kernel) (pa_cons (kfld K (pv 1)) pa_nil)) pa_nil)))))
      (pss_cons (ps_set (i := 5) sc_apart.nd rfl (.inl rfl) (pe_op op_add (pv 3) (pe_callBfun cr_lcm (by rfl) T.m_lcm (pa_cons (pe_callB call_len_str (by rfl) T.b_len (by decide +kernel) (pa_cons (kfld K (pv 0)) pa_nil)) (pa_cons (pe_callB call_len_str (by rfl) T.b_len (by decide +kernel) (pa_cons (kfld K (pv 1)) pa_nil)) pa_nil)))))
      (pss_cons (ps_set (i := 6) sc_apart.nd rfl (.inl rfl) (pe_lst pa_nil))
      (pss_cons (ps_for (passes_of rfl) (by rfl) (pi_enumZ (by rfl) T.b_enumerate (by rfl) T.b_zip (pa_cons (pc_m (c_Endless_window T) hr (by decide) (pv 0) (pa_cons (pv 4) (pa_cons (pv 5) pa_nil))) (pa_cons (pc_m (c_Endless_window T) hr (by decide) (pv 1) (pa_cons (pv 4) (pa_cons (pv 5) pa_nil))) pa_nil))) (pg_tup rfl (pgs_cons (pg_name (i := 7) sc_apart.nd rfl (.inl rfl)) (pgs_cons (pg_tup rfl (pgs_cons (pg_name (i := 8) sc_apart.nd rfl (.inl rfl)) (pgs_cons (pg_name (i := 9) sc_apart.nd rfl (.inl rfl)) pgs_nil))) pgs_nil))) (pss_one (ps_if (pt_cmpR op_ne (pv 8) (pv 9) (nomark _)) (pss_cons (ps_set (i := 10) sc_apart.nd rfl (.inl rfl) (pe_op op_add (pv 4) (pv 7)))
      (pss_cons (ps_if (PW.pt (pw_or (pt_cmpR op_lt (pv 10) (pv 2) (nomark _)) (pw_or1 (pt_cmpR op_ge (pv 10) (pv 3) (nomark _))))) (pss_one (ps_ret pe_non)) pss_nil)
      (pss_one (ps_expr (pe_bm PySem.F.plainAttrs_list PySem.F.slot_list_append PySem.F.type_list_append mt_append (pv 6) (pa_cons (pv 10) pa_nil)))))) pss_nil)))
      (pss_one (ps_ret (pv 6))))))))), ?_⟩
    obtain ⟨dx, hp⟩ := e1.ob
    obtain ⟨dx2, hp2⟩ := e2.ob
    have ok := e1.ok
    have ok2 := e2.ok
    obtain ⟨_, _, _, l0, l6, r0, r6, m1, t1, t1'⟩ := e1.ok
    obtain ⟨_, _, _, l20, l26, r20, r26, m21, t21, t21'⟩ := e2.ok
    have sz : ∀ {x : List Nat}, x.length ≤ 1000 → (S x).length ≤ sizeLine := fun h => by rw [S_len]; exact szl (by omega)
    refine ⟨_, rfl, p, _, dx, _, _, rfl, hp, T.c_Endless.cl, T.n_start, fe_start s l m r t, _, rfl, p2, _, dx2, _, _, rfl, hp2, T.c_Endless.cl, T.n_start, fe_start s2 l2 m2 r2 t2, t, t2, rfl, ?_⟩
    change gName 2 (.int (mn t t2)) _ _ _
    refine ⟨_, rfl, p, _, dx, _, _, rfl, hp, T.c_Endless.cl, T.n_start, fe_start s l m r t, _, rfl, p, _, dx, _, _, rfl, hp, T.c_Endless.cl, T.n_middle, fe_middle s l m r t, _, rfl, sz (by omega), _, _, rfl, rfl, ?_⟩
    refine ⟨_, rfl, p2, _, dx2, _, _, rfl, hp2, T.c_Endless.cl, T.n_start, fe_start s2 l2 m2 r2 t2, _, rfl, p2, _, dx2, _, _, rfl, hp2, T.c_Endless.cl, T.n_middle, fe_middle s2 l2 m2 r2 t2, _, rfl, sz (by omega), _, _, rfl, rfl, t + ((S m).length : Int), t2 + ((S m2).length : Int), rfl, ?_⟩
    rw [S_len, S_len]
    change gName 3 (.int (mx (t + m.length) (t2 + m2.length))) _ _ _
    have b1 : mn t t2 ≤ t ∧ mn t t2 ≤ t2 ∧ (mn t t2 = t ∨ mn t t2 = t2) := by unfold mn; split <;> omega
    have b2 : t + m.length ≤ mx (t + m.length) (t2 + m2.length) ∧ t2 + m2.length ≤ mx (t + m.length) (t2 + m2.length) ∧ (mx (t + m.length) (t2 + m2.length) = t + m.length ∨ mx (t + m.length) (t2 + m2.length) = t2 + m2.length) := by unfold mx; split <;> omega
    generalize mn t t2 = lo at b1 z1 z2 ⊢
    generalize mx (t + m.length) (t2 + m2.length) = hi at b2 z1 z2 ⊢
    have L0 : 0 < Nat.lcm l.length l2.length := Nat.lcm_pos (by omega) (by omega)
    have R0 : 0 < Nat.lcm r.length r2.length := Nat.lcm_pos (by omega) (by omega)
    have LL : Nat.lcm l.length l2.length ≤ 36 := Nat.le_trans (Nat.le_of_dvd (Nat.mul_pos (by omega) (by omega)) (Nat.lcm_dvd_mul _ _)) (Nat.mul_le_mul l6 l26)
    have RR : Nat.lcm r.length r2.length ≤ 36 := Nat.le_trans (Nat.le_of_dvd (Nat.mul_pos (by omega) (by omega)) (Nat.lcm_dvd_mul _ _)) (Nat.mul_le_mul r6 r26)
    have far := far_near ok ok2 L0 R0 (Nat.dvd_lcm_left _ _) (Nat.dvd_lcm_right _ _) (Nat.dvd_lcm_left _ _) (Nat.dvd_lcm_right _ _) b1.1 b1.2.1 b2.1 b2.2.1
    refine ⟨_, rfl, _, rfl, p, _, dx, _, _, rfl, hp, T.c_Endless.cl, T.n_left, fe_left s l m r t, _, rfl, sz (by omega), _, rfl, p2, _, dx2, _, _, rfl, hp2, T.c_Endless.cl, T.n_left, fe_left s2 l2 m2 r2 t2, _, rfl, sz (by omega), (S l).length, (S l2).length, rfl, by rw [S_len]; omega, by rw [S_len]; omega, _, _, rfl, rfl, ?_⟩
    refine ⟨_, rfl, _, rfl, p, _, dx, _, _, rfl, hp, T.c_Endless.cl, T.n_right, fe_right s l m r t, _, rfl, sz (by omega), _, rfl, p2, _, dx2, _, _, rfl, hp2, T.c_Endless.cl, T.n_right, fe_right s2 l2 m2 r2 t2, _, rfl, sz (by omega), (S r).length, (S r2).length, rfl, by rw [S_len]; omega, by rw [S_len]; omega, _, _, rfl, rfl, ?_⟩
    rw [S_len, S_len, S_len, S_len]
    generalize hL : Nat.lcm l.length l2.length = L at *
    generalize hR : Nat.lcm r.length r2.length = Rr at *
    refine ⟨by show 0 ≤ sizeLine; decide, fun qf hqf => ?_⟩
    have k0 := ex_new (o := .lst []) hqf
    refine ⟨_, rfl, p, dx, _, rfl, k0 _ _ hp, fe_no s l m r t (by decide +kernel), _, rfl, _, rfl, p, s, R, C, n, l, m, r, t, _, _, rfl, e1.mono k0, by omega, by omega, by omega, by omega, fun G1 k1 => ?_⟩
    refine ⟨_, rfl, p2, dx2, _, rfl, k1 _ _ (k0 _ _ hp2), fe_no s2 l2 m2 r2 t2 (by decide +kernel), _, rfl, _, rfl, p2, s2, R2, C2, n2, l2, m2, r2, t2, _, _, rfl, (e2.mono k0).mono k1, by omega, by omega, by omega, by omega, fun G2 k2 => ?_⟩
    generalize hN : (hi + (Rr : Int) - (lo - (L : Int))).toNat = N
    have hN2 : (N : Int) = hi + Rr - (lo - L) := by omega
    have kk := (k0.trans k1).trans k2
    refine ⟨.T (S (win (wd l m r t) (lo - L) N)), .T (S (win (wd l2 m2 r2 t2) (lo - L) N)), _, _, rfl, rfl, rfl, ?_⟩
    have hb : (hi - lo).toNat ≤ 20000 := by omega
    refine for_it (walk_EZ (n := N) (by rw [signs_S, signs_S, List.length_map, List.length_map, win_len, win_len, Nat.min_self])) (fun i σ G => Same H G ∧ G qf = some (.lst ((difs (wd l m r t) (wd l2 m2 r2 t2) lo (min (lo - L + i - lo).toNat (hi - lo).toNat)).map V.int)) ∧
      (∀ j, lo - L ≤ j → j < lo - L + i → (j < lo ∨ hi ≤ j) → wd l m r t j = wd l2 m2 r2 t2 j) ∧ ∃ x y z u, σ = [some (.ref p), some (.ref p2), some (.int lo), some (.int hi), some (.int (lo - L)), some (.int (hi + Rr)), some (.ref qf), x, y, z, u])
      ⟨kk, ?_, fun j h1 h2 => by omega, none, none, none, none, rfl⟩ (fun i σ G _ h => ⟨rfl, rfl⟩) ?_ ?_
    · have e : min (lo - L + ((0 : Nat) : Int) - lo).toNat (hi - lo).toNat = 0 := by omega
      rw [e]
      exact k2 _ _ (k1 _ _ upd_same)
    · rintro i x σ G G' hi' ⟨k3, hG, eq, x0, y0, z0, u0, rfl⟩ ⟨Tt, U, c, d, rfl, hT, hU, ne, rfl, hc, hd⟩
      rw [signs_S, List.getElem?_map, win_at hi'] at hc hd
      cases hc
      cases hd
      have nTq : Tt ≠ qf := fun q => by rw [q, hG] at hT; cases hT
      have nUq : U ≠ qf := fun q => by rw [q, hG] at hU; cases hU
      have k4 : Same G (upd (upd G Tt (.tup [tx [wd l m r t (lo - L + i)], tx [wd l2 m2 r2 t2 (lo - L + i)]])) U (.tup [.int (i : Nat), .ref Tt])) := (ex_new hT).trans (ex_new (by rw [upd_ne (Ne.symm ne)]; exact hU))
      refine ⟨U, _, rfl, seqT_of upd_same, rfl, _, _, rfl, _, _, rfl, Tt, _, rfl, seqT_of (by rw [upd_ne ne]; exact upd_same), rfl, _, _, rfl, _, _, rfl, rfl, rfl, ?_⟩
      refine ⟨_, rfl, _, rfl, rfl, _, rfl, ?_⟩
      rw [one_ne]
      by_cases cw : wd l m r t (lo - L + i) = wd l2 m2 r2 t2 (lo - L + i)
      · refine itN (by rw [cw]; simp) ⟨k3.trans k4, ?_, fun j h1 h2 h3 => ?_, _, _, _, _, rfl⟩
        · rw [cnt_eq cw]
          exact k4 _ _ hG
        · by_cases q : j = lo - L + i
          · rw [q]
            exact cw
          · exact eq j h1 (by omega) h3
      · refine itP (by simp [cw]) ?_
        refine ⟨_, rfl, _, rfl, _, _, rfl, rfl, ?_⟩
        by_cases c1 : lo - L + (i : Int) < lo
        · exact ⟨_, rfl, _, rfl, _, _, rfl, rfl, _, rfl, itP (decide_eq_true c1) (iteT (z1 (.inl ⟨_, c1, cw⟩) _ (k3.trans k4)))⟩
        · refine ⟨_, rfl, _, rfl, _, _, rfl, rfl, _, rfl, itN (by rw [decide_eq_false c1]; decide) ?_⟩
          by_cases c2 : hi ≤ lo - L + (i : Int)
          · exact ⟨_, rfl, _, rfl, _, _, rfl, rfl, _, rfl, itP (decide_eq_true c2) (z1 (.inr ⟨_, c2, cw⟩) _ (k3.trans k4))⟩
          · refine ⟨_, rfl, _, rfl, _, _, rfl, rfl, _, rfl, itN (by rw [show decide (lo - L + (i : Int) ≥ hi) = false from decide_eq_false c2]; decide) ?_⟩
            have hG4 := k4 _ _ hG
            have fq : H qf = none := hqf
            have len : (difs (wd l m r t) (wd l2 m2 r2 t2) lo (min (lo - L + i - lo).toNat (hi - lo).toNat)).length ≤ 20000 := Nat.le_trans (difs_len _ _ _ _) (Nat.le_trans (Nat.min_le_right _ _) hb)
            refine ⟨_, rfl, .inl ⟨rfl, _, seqL_of hG4⟩, _, rfl, qf, _, _, rfl, rfl, hG4, by rw [List.length_map]; exact szlt (by omega), ?_⟩
            refine ⟨ex_mut (k3.trans k4) fq, ?_, fun j h1 h2 h3 => ?_, _, _, _, _, rfl⟩
            · rw [upd_same, cnt_ne cw (by omega) (by omega), List.map_append]
              rfl
            · exact eq j h1 (by omega) h3
    · rintro σ G ⟨k3, hG, eq, x0, y0, z0, u0, rfl⟩
      have nf : ¬ Far (wd l m r t) (wd l2 m2 r2 t2) lo hi := fun f => by
        rcases far.mp f with ⟨i, h1, h2, h3⟩ | ⟨i, h1, h2, h3⟩
        · exact h3 (eq i h1 (by omega) (.inl h2))
        · exact h3 (eq i (by omega) (by omega) (.inr h1))
      rw [show min (lo - (L : Int) + (N : Int) - lo).toNat (hi - lo).toNat = (hi - lo).toNat by omega] at hG
      exact ⟨_, rfl, z2 nf G qf k3 hqf hG⟩
/-! ### ==, moved, endless_apart -/
theorem mn_mx (t t2 : Int) (m m2 : List Nat) : mn t t2 ≤ mx (t + m.length) (t2 + m2.length) := by unfold mn mx; split <;> split <;> omega
def spEEq (a : Ad) : Sp := fun vs H Q _ => ∃ (p s : Addr) (R C n : Nat) (l m r : List Nat) (t : Int) (y : V), vs = [.ref p, y] ∧ EndAt a H p s R C n l m r t ∧
  ((∃ x, y = .str x ∧ ∀ G, Same H G → Q (.bl false) G) ∨ ∃ (p2 s2 : Addr) (R2 C2 n2 : Nat) (l2 m2 r2 : List Nat) (t2 : Int), y = .ref p2 ∧ EndAt a H p2 s2 R2 C2 n2 l2 m2 r2 t2 ∧
    (¬ (R = R2 ∧ C = C2) → ∀ G, Same H G → Q (.bl false) G) ∧ ((R = R2 ∧ C = C2) → ∀ b, (b = true ↔ ∀ i, wd l m r t i = wd l2 m2 r2 t2 i) → ∀ G, Same H G → Q (.bl b) G))
theorem c_Endless_eq (T : Txt K mg a) : CanM P w K mg base 4 a.Endless "__eq__" (spEEq a) := by
  refine canM_of T.c_Endless.cl T.m_Endless___eq__ sc_Endless___eq__ bd_Endless___eq__ (fun vs H Q E h => ?_) (fun f cdv A outer s0 H vs Q E hr h => ?_)
  · obtain ⟨p, s, R, C, n, l, m, r, t, y, rfl, _⟩ := h
    rfl
  · obtain ⟨p, s, R, C, n, l, m, r, t, y, rfl, e1, z⟩ := h
    refine ⟨_, (pss_one (ps_ret (pe_and (pe_callB (kisi K) (by rfl) T.b_isinstance (by decide +kernel) (pa_cons (pv 1) (pa_cons (pe_glob (v := .ref a.Endless) (by rfl) T.c_Endless.gC rfl) pa_nil))) (pe_and (pe_cmpR (eqO K (c_Scheme_eq T) hr (by decide) T.i_ni T.i_ns) (kfld K (pv 0)) (kfld K (pv 1)) (nomark _)) (pe_one (pe_cmpR (keqP K hr.units) (pc_f (c_apart T) hr (by decide) (by rfl) (pa_cons (pv 0) (pa_cons (pv 1) pa_nil))) (pe_lst pa_nil) (nomark _))))))), ?_⟩
    obtain ⟨dx, hp⟩ := e1.ob
    obtain ⟨sx, hs⟩ := e1.sch.1
    rcases z with ⟨x, rfl, z⟩ | ⟨p2, s2, R2, C2, n2, l2, m2, r2, t2, rfl, e2, z1, z2⟩
    · exact ⟨_, rfl, _, _, _, _, false, rfl, .own _, .base (.str x), T.p_str, _, rfl, iteF (z _ (.refl _))⟩
    · obtain ⟨dx2, hp2⟩ := e2.ob
      obtain ⟨sx2, hs2⟩ := e2.sch.1
      refine ⟨_, rfl, _, _, _, _, true, rfl, .own _, .base (.ins hp2 T.c_Endless.cl T.p_ha T.i_hn T.i_ht T.p_hm), T.p_own, _, rfl, iteT ?_⟩
      refine ⟨_, rfl, p, _, dx, _, _, rfl, hp, T.c_Endless.cl, T.n_scheme, fe_scheme s l m r t, _, rfl, p2, _, dx2, _, _, rfl, hp2, T.c_Endless.cl, T.n_scheme, fe_scheme s2 l2 m2 r2 t2, s, _, _, rfl, hs, .inr (.inr ⟨s2, _, _, rfl, hs2⟩), s, R, C, n, _, rfl, e1.sch, .inr (.inr ⟨s2, R2, C2, n2, rfl, e2.sch, _, rfl, _, rfl, ?_⟩)⟩
      by_cases c : R = R2 ∧ C = C2
      · rw [decide_eq_true c.1, decide_eq_true c.2]
        refine iteT ⟨_, rfl, _, rfl, p, s, p2, s2, R, C, n, R2, C2, n2, l, m, r, l2, m2, r2, t, t2, rfl, e1, e2, fun far G k => ⟨by show 0 ≤ sizeLine; decide, fun b hb => ?_⟩, fun far G q k hq hG => ⟨by show 0 ≤ sizeLine; decide, fun b hb => ?_⟩⟩
        · refine ⟨.none, pdI [], .non, dp_int (xs := []) upd_same, rfl, plainI [], by decide, ?_⟩
          rw [pdN_nil]
          exact z2 c false ⟨nofun, fun h => absurd ((same_iff (mn_mx t t2 m m2)).mp h).1 (fun q => q far)⟩ _ (k.trans (ex_new hb))
        · refine ⟨pdI _, pdI [], dp_int (ex_new hb _ _ hG), dp_int (xs := []) upd_same, plainI _, plainI [], depthI _, ?_⟩
          rw [pdI_nil]
          refine z2 c _ ?_ _ (k.trans (ex_new hb))
          rw [decide_eq_true_iff, same_iff (mn_mx t t2 m m2)]
          exact ⟨fun q => ⟨far, q⟩, fun q => q.2⟩
      · have e : (decide (R = R2) && decide (C = C2)) = false := by
          rw [Bool.and_eq_false_iff]
          by_cases k : R = R2
          · exact .inr (decide_eq_false fun q => c ⟨k, q⟩)
          · exact .inl (decide_eq_false k)
        rw [e]
        exact iteF (z1 c _ (.refl _))
def spEApart (a : Ad) : Sp := fun vs H Q E => ∃ (p s p2 s2 : Addr) (R C n R2 C2 n2 : Nat) (l m r l2 m2 r2 : List Nat) (t t2 : Int), vs = [.ref p, .ref p2] ∧ EndAt a H p s R C n l m r t ∧ EndAt a H p2 s2 R2 C2 n2 l2 m2 r2 t2 ∧
  (¬ (R = R2 ∧ C = C2) → RaZ E a.UnlikeSchemes H) ∧
  ((R = R2 ∧ C = C2) → Far (wd l m r t) (wd l2 m2 r2 t2) (mn t t2) (mx (t + m.length) (t2 + m2.length)) → ∀ G, Same H G → Q .non G) ∧
  ((R = R2 ∧ C = C2) → ¬ Far (wd l m r t) (wd l2 m2 r2 t2) (mn t t2) (mx (t + m.length) (t2 + m2.length)) → ∀ G q, Same H G → H q = none → G q = some (.lst ((difs (wd l m r t) (wd l2 m2 r2 t2) (mn t t2) (mx (t + m.length) (t2 + m2.length) - mn t t2).toNat).map V.int)) → Q (.ref q) G)
theorem c_endless_apart (T : Txt K mg a) : Can P w K mg base 4 "endless_apart" (spEApart a) := by
  refine can_of T.d_endless_apart sc_endless_apart bd_endless_apart (fun vs H Q E h => ?_) (fun f cdv A outer s0 H vs Q E hr h => ?_)
  · obtain ⟨p, s, p2, s2, R, C, n, R2, C2, n2, l, m, r, l2, m2, r2, t, t2, rfl, _⟩ := h
    rfl
  · obtain ⟨p, s, p2, s2, R, C, n, R2, C2, n2, l, m, r, l2, m2, r2, t, t2, rfl, e1, e2, y, z1, z2⟩ := h
    refine ⟨_, (pss_cons (ps_expr (pc_fS (c_check_alike T) (takes_of rfl rfl rfl rfl) hr (by decide) (by rfl) (pa_cons (pv 0) (pa_cons (pv 1) pa_nil))))
      (pss_one (ps_ret (pc_f (c_apart T) hr (by decide) (by rfl) (pa_cons (pv 0) (pa_cons (pv 1) pa_nil)))))), ?_⟩
    obtain ⟨dx1, hp1⟩ := e1.ob
    obtain ⟨dx2, hp2⟩ := e2.ob
    refine ⟨_, rfl, _, rfl, p, s, p2, s2, R, C, n, R2, C2, n2, rfl, ⟨a.Endless, dx1, _, hp1, T.c_Endless.cl, T.n_scheme, fe_scheme s l m r t⟩, ⟨a.Endless, dx2, _, hp2, T.c_Endless.cl, T.n_scheme, fe_scheme s2 l2 m2 r2 t2⟩, e1.sch, e2.sch, fun c => ?_, fun c => y c⟩
    exact ⟨_, rfl, _, rfl, p, s, p2, s2, R, C, n, R2, C2, n2, l, m, r, l2, m2, r2, t, t2, rfl, e1, e2, z1 c, z2 c⟩
/-- what the constructor asks of its caller, where the parts are good -/
def spMoved (a : Ad) : Sp := fun vs H Q _ => ∃ (p s : Addr) (R C n : Nat) (l m r : List Nat) (t b : Int), vs = [.ref p, .int b] ∧ EndAt a H p s R C n l m r t ∧ PartOk n l m r (t - b) ∧ ∀ G q, Same H G → EndAt a G q s R C n l m r (t - b) → Q (.ref q) G
theorem c_Endless_moved (T : Txt K mg a) : CanM P w K mg base 5 a.Endless "moved" (spMoved a) := by
  refine canM_of T.c_Endless.cl T.m_Endless_moved sc_Endless_moved bd_Endless_moved (fun vs H Q E h => ?_) (fun f cdv A outer s0 H vs Q E hr h => ?_)
  · obtain ⟨p, s, R, C, n, l, m, r, t, b, rfl, _⟩ := h
    rfl
  · obtain ⟨p, s, R, C, n, l, m, r, t, b, rfl, e1, ok, z⟩ := h
    refine ⟨_, (pss_one (ps_ret (pc_nK (c_Endless_init T) hr (by decide) (by rfl) (pa_cons (kfld K (pv 0)) (pa_cons (kfld K (pv 0)) (pa_cons (kfld K (pv 0)) (pa_cons (kfld K (pv 0)) pa_nil)))) (pk_cons (pe_op op_sub (kfld K (pv 0)) (pv 1)) pk_nil)))), ?_⟩
    obtain ⟨dx, hp⟩ := e1.ob
    refine ⟨_, rfl, p, _, dx, _, _, rfl, hp, T.c_Endless.cl, T.n_scheme, fe_scheme s l m r t, _, rfl, p, _, dx, _, _, rfl, hp, T.c_Endless.cl, T.n_left, fe_left s l m r t, _, rfl, p, _, dx, _, _, rfl, hp, T.c_Endless.cl, T.n_middle, fe_middle s l m r t, _, rfl, p, _, dx, _, _, rfl, hp, T.c_Endless.cl, T.n_right, fe_right s l m r t, ?_⟩
    refine ⟨_, rfl, p, _, dx, _, _, rfl, hp, T.c_Endless.cl, T.n_start, fe_start s l m r t, _, rfl, t, b, rfl, rfl, rfl, rfl, fun y d hy hd ne => init_end e1.sch ok hy hd ne fun G k e => z G y k e⟩
/-! ### the source: n more draws -/
def spLCol : Sp := fun vs H Q _ => ∃ (q : Addr) (n : Nat) (l m r : List Nat) (t i : Int), vs = [.ref q, .int i] ∧ H q = some (tpl l m r t) ∧ PartOk n l m r t ∧ Q (tx [wd l m r t i]) H
theorem c_law_column (T : Txt K mg a) : Can P w K mg base 1 "_law_column" spLCol := by
  refine can_of T.d_law_column sc_law_column bd_law_column (fun vs H Q E h => ?_) (fun f cdv A outer s0 H vs Q E hr h => ?_)
  · obtain ⟨q, n, l, m, r, t, i, rfl, _⟩ := h
    rfl
  · obtain ⟨q, n, l, m, r, t, i, rfl, hq, ok, z⟩ := h
    refine ⟨_, (pss_cons (ps_asg (pv 0) (pg_tup rfl (pgs_cons (pg_name (i := 2) sc_law_column.nd rfl (.inl rfl)) (pgs_cons (pg_name (i := 3) sc_law_column.nd rfl (.inl rfl)) (pgs_cons (pg_name (i := 4) sc_law_column.nd rfl (.inl rfl)) (pgs_cons (pg_name (i := 5) sc_law_column.nd rfl (.inl rfl)) pgs_nil))))))
      (pss_cons (ps_set (i := 6) sc_law_column.nd rfl (.inl rfl) (pe_op op_sub (pv 1) (pv 5)))
      (pss_cons (ps_if (pt_cmpR op_lt (pv 6) pe_int (nomark _)) (pss_one (ps_ret (pe_ix ix_str (pv 2) (pe_op op_modN (pe_callTy call_int1 (by rfl) T.b_int (by decide +kernel) (pa_cons (pv 6) pa_nil)) (pe_callB call_len_str (by rfl) T.b_len (by decide +kernel) (pa_cons (pv 2) pa_nil))) (fun _ _ => rfl)))) pss_nil)
      (pss_cons (ps_if (pt_cmpR op_lt (pv 6) (pe_callB call_len_str (by rfl) T.b_len (by decide +kernel) (pa_cons (pv 3) pa_nil)) (nomark _)) (pss_one (ps_ret (pe_ix ix_str (pv 3) (pv 6) (fun _ _ => rfl)))) pss_nil)
      (pss_one (ps_ret (pe_ix ix_str (pv 4) (pe_op op_modN (pe_callTy call_int1 (by rfl) T.b_int (by decide +kernel) (pa_cons (pe_op op_sub (pv 6) (pe_callB call_len_str (by rfl) T.b_len (by decide +kernel) (pa_cons (pv 3) pa_nil))) pa_nil)) (pe_callB call_len_str (by rfl) T.b_len (by decide +kernel) (pa_cons (pv 4) pa_nil))) (fun _ _ => rfl)))))))), ?_⟩
    have l0 := ok.l0
    have l6 := ok.l6
    have r0 := ok.r0
    have r6 := ok.r6
    have m1 := ok.m1
    have sz : ∀ {x : List Nat}, x.length ≤ 1000 → (S x).length ≤ sizeLine := fun h => by rw [S_len]; exact szl (by omega)
    refine ⟨_, rfl, q, _, rfl, seqT_of hq, rfl, _, _, rfl, _, _, rfl, _, _, rfl, _, _, rfl, rfl, ?_⟩
    refine ⟨_, rfl, _, rfl, _, _, rfl, rfl, _, rfl, _, _, rfl, rfl, _, rfl, ?_⟩
    by_cases c1 : i - t < 0
    · rw [decide_eq_true c1]
      refine iteT ⟨_, rfl, _, rfl, .inl ⟨_, rfl, _, rfl, _, rfl, sz (by omega), _, _, rfl, rfl, by rw [S_len]; omega, ?_⟩⟩
      rw [S_len]
      refine ⟨_, _, wd l m r t i, rfl, rfl, sz (by omega), ?_, z⟩
      rw [mod_at l0]
      unfold wd
      rw [col_neg c1]
    · rw [decide_eq_false c1]
      refine iteF ⟨_, rfl, _, rfl, _, rfl, sz (by omega), _, _, rfl, rfl, _, rfl, ?_⟩
      rw [S_len]
      by_cases c2 : i - t < (m.length : Int)
      · rw [decide_eq_true c2]
        exact iteT ⟨_, rfl, _, rfl, _, _, wd l m r t i, rfl, rfl, sz (by omega), col_mid c1 c2, z⟩
      · rw [decide_eq_false c2]
        refine iteF ⟨_, rfl, _, rfl, _, rfl, _, rfl, sz (by omega), _, _, rfl, rfl, .inl ⟨_, rfl, _, rfl, _, rfl, sz (by omega), _, _, rfl, rfl, by show ((S r).length : Int) ≠ 0; rw [S_len]; omega, ?_⟩⟩
        rw [S_len, S_len]
        refine ⟨_, _, wd l m r t i, rfl, rfl, sz (by omega), ?_, z⟩
        rw [mod_at r0]
        unfold wd
        rw [col_pos c1 c2]
def spLText : Sp := fun vs H Q _ => ∃ (q : Addr) (n : Nat) (l m r : List Nat) (t b e : Int), vs = [.ref q, .int b, .int e] ∧ H q = some (tpl l m r t) ∧ PartOk n l m r t ∧ -20000 ≤ b ∧ b ≤ 20000 ∧ -20000 ≤ e ∧ e ≤ 20000 ∧ ∀ G, Same H G → Q (tx (win (wd l m r t) b (e - b).toNat)) G
theorem c_law_text (T : Txt K mg a) : Can P w K mg base 2 "_law_text" spLText := by
  refine can_of T.d_law_text sc_law_text bd_law_text (fun vs H Q E h => ?_) (fun f cdv A outer s0 H vs Q E hr h => ?_)
  · obtain ⟨q, n, l, m, r, t, b, e, rfl, _⟩ := h
    rfl
  · obtain ⟨q, n, l, m, r, t, b, e, rfl, hq, ok, b1, b2, b3, b4, z⟩ := h
    refine ⟨_, (pss_one (ps_ret (kjoin K pe_str (pe_lc (own := [("index", 3)]) (g := gName 3) (tt := tYes) (by rfl) sc_law_text.nd (pi_range2 (by rfl) T.b_range (pa_cons (pv 1) (pa_cons (pv 2) pa_nil))) (blkOk_by (N := N_law_text) (sc := defScope s_law_text) (by decide +kernel)) (fun _ _ _ _ _ => (pg_name (i := 3) sc_law_text.nd rfl (.inl rfl))) (fun _ _ _ _ _ => pts_nil) (fun _ _ _ _ _ => (pc_f (c_law_column T) hr (by decide) (by rfl) (pa_cons (pv 0) (pa_cons (pv 3) pa_nil)))))))), ?_⟩
    refine ⟨⟨_, rfl⟩, _, rfl, _, rfl, b, e, rfl, by omega, fun D hD => ?_⟩
    refine lc_one (walk_range (lo := b) (n := (e - b).toNat)) ((win (wd l m r t) b (e - b).toNat).map fun x => tx [x]) (by rw [List.length_map, win_len]) (by omega) hD (fun _ _ => True.intro) ?_ ?_
    · rintro i x G G' v hi s1 ⟨rfl, rfl⟩ hv
      rw [List.getElem?_map, win_at hi] at hv
      cases hv
      exact ⟨.refl _, fun Q' k => ⟨_, rfl, _, rfl, q, n, l, m, r, t, _, rfl, s1 _ _ hq, ok, k _ (.refl _)⟩⟩
    · intro G s1 hG
      refine ⟨_, _, (win (wd l m r t) b (e - b).toNat).map fun y => S [y], rfl, rfl, .inl (seqL_of (by rw [List.map_map]; exact hG)), ?_, ?_⟩
      · rw [sum_ones, win_len, lit_e, S_len, List.length_map, win_len]
        exact szl (by show _ + _ * 0 ≤ _; omega)
      · rw [join_win]
        exact z G s1
def spLMade (a : Ad) : Sp := fun vs H Q _ => ∃ (s q : Addr) (R C n : Nat) (l m r : List Nat) (t : Int), vs = [.ref s, .ref q] ∧ SchemeAt a.Scheme H s R C n ∧ H q = some (tpl l m r t) ∧ PartOk n l m r t ∧ ∀ G y, Same H G → EndAt a G y s R C n l m r t → Q (.ref y) G
theorem c_law_made (T : Txt K mg a) : Can P w K mg base 5 "_law_made" (spLMade a) := by
  refine can_of T.d_law_made sc_law_made bd_law_made (fun vs H Q E h => ?_) (fun f cdv A outer s0 H vs Q E hr h => ?_)
  · obtain ⟨s, q, R, C, n, l, m, r, t, rfl, _⟩ := h
    rfl
  · obtain ⟨s, q, R, C, n, l, m, r, t, rfl, sch, hq, ok, z⟩ := h
    refine ⟨_, (pss_one (ps_ret (pc_nK (c_Endless_init T) hr (by decide) (by rfl) (pa_cons (pv 0) (pa_cons (pe_ix (kix_tup K) (pv 1) pe_int (fun _ _ => rfl)) (pa_cons (pe_ix (kix_tup K) (pv 1) pe_int (fun _ _ => rfl)) (pa_cons (pe_ix (kix_tup K) (pv 1) pe_int (fun _ _ => rfl)) pa_nil)))) (pk_cons (pe_ix (kix_tup K) (pv 1) pe_int (fun _ _ => rfl)) pk_nil)))), ?_⟩
    exact ⟨_, rfl, _, rfl, q, _, 0, _, rfl, rfl, seqT_of hq, rfl, _, rfl, q, _, 1, _, rfl, rfl, seqT_of hq, rfl, _, rfl, q, _, 2, _, rfl, rfl, seqT_of hq, rfl, _, rfl, q, _, 3, _, rfl, rfl, seqT_of hq, rfl, rfl, rfl, fun y d hy hd ne => init_end sch ok hy hd ne fun G k e => z G y k e⟩
theorem all_rng {m : Nat} {p : Nat → Bool} : ((List.range m).map p).all id = true ↔ ∀ k < m, p k = true := by
  rw [List.all_eq_true]
  constructor
  · intro h k hk
    exact h (p k) (List.mem_map.mpr ⟨k, List.mem_range.mpr hk, rfl⟩)
  · rintro h b hb
    obtain ⟨k, hk, rfl⟩ := List.mem_map.mp hb
    exact h k (List.mem_range.mp hk)
theorem at_getD {l : List Nat} {i : Nat} (h : i < l.length) : atI (S l).cps.toList ((i : Nat) : Int) = some (l.getD i 0) := atI_S (getD_at h)
theorem one_eq (x y : Nat) : decide (V.str ⟨#[x]⟩ = V.str ⟨#[y]⟩) = decide (x = y) := decide_eq_decide.mpr ⟨fun e => by
  have h := congrArg Array.toList (congrArg Str.cps (V.str.inj e))
  exact List.head_eq_of_cons_eq h, fun e => by rw [e]⟩
theorem fd_len {l : List Nat} {n : Nat} : Int.fdiv ((S l).length : Int) ((n : Nat) : Int) = ((l.length / n : Nat) : Int) := by
  rw [S_len]
  exact fd _ _
theorem cutE {l : List Nat} {n : Nat} : cutS (S l) none (some (Int.fdiv ((S l).length : Int) ((n : Nat) : Int))) = S (l.take (l.length / n)) := by rw [fd_len, cut_take]
theorem ef {l : List Nat} {n : Nat} : decide (tx l = V.str (Txt.mul (cutS (S l) none (some (Int.fdiv ((S l).length : Int) ((n : Nat) : Int)))) ((n : Nat) : Int))) = true ↔ free n l := by
  rw [cutE, mul_S, decide_eq_true_iff]
  exact ⟨fun e => (S_inj (V.str.inj e)).symm, fun e => by show V.str (S l) = _; rw [e]⟩
def spBlind : Sp := fun vs H Q _ => ∃ (res : List Nat) (n : Nat), vs = [tx res, .int n] ∧ 2 ≤ n ∧ n ≤ 9 ∧ res.length ≤ 1000 ∧ ∀ G b, Same H G → (b = true ↔ blind n res) → Q (.bl b) G
theorem c_is_blind (T : Txt K mg a) : Can P w K mg base 1 "_is_blind" spBlind := by
  refine can_of T.d_is_blind sc_is_blind bd_is_blind (fun vs H Q E h => ?_) (fun f cdv A outer s0 H vs Q E hr h => ?_)
  · obtain ⟨res, n, rfl, _⟩ := h
    rfl
  · obtain ⟨res, n, rfl, n1, n2, hl, z⟩ := h
    refine ⟨_, (pss_one (ps_ret (pe_callB (kall K (by rfl)) (by rfl) T.b_all (by decide +kernel) (pa_cons (pe_lc (own := [("at", 2)]) (g := gName 2) (tt := tYes) (by rfl) sc_is_blind.nd (pi_range1 (by rfl) T.b_range (pa_cons (pe_callB call_len_str (by rfl) T.b_len (by decide +kernel) (pa_cons (pv 0) pa_nil)) pa_nil)) (blkOk_by (N := N_is_blind) (sc := defScope s_is_blind) (by decide +kernel)) (fun _ _ _ _ _ => (pg_name (i := 2) sc_is_blind.nd rfl (.inl rfl))) (fun _ _ _ _ _ => pts_nil) (fun _ _ _ _ _ => (pe_cmpR op_eq (pe_ix ix_str (pv 0) (pv 2) (fun _ _ => rfl)) (pe_ix ix_str (pv 0) (pe_op op_sub (pv 2) (pe_op op_modN (pv 2) (pv 1))) (fun _ _ => rfl)) (nomark _)))) pa_nil)))), ?_⟩
    have sz : (S res).length ≤ sizeLine := by rw [S_len]; exact szl (by omega)
    refine ⟨_, rfl, _, rfl, sz, ?_⟩
    rw [S_len]
    refine ⟨_, rfl, by omega, by omega, fun D hD => lc_one (walk_range (lo := 0) (n := ((res.length : Nat) : Int).toNat)) ((List.range res.length).map fun k => V.bl (decide (res.getD k 0 = res.getD (k - k % n) 0))) (by rw [List.length_map, List.length_range]; rfl) (by show res.length ≤ _; omega) hD (fun _ _ => True.intro) ?_ ?_⟩
    · rintro i x G G' v hi s1 ⟨rfl, rfl⟩ hv
      have hi : i < res.length := hi
      rw [List.getElem?_map, List.getElem?_range hi] at hv
      cases hv
      refine ⟨.refl _, fun Q' k => ⟨_, rfl, _, rfl, _, _, res.getD i 0, rfl, rfl, sz, ?_, ?_⟩⟩
      · rw [Int.zero_add]
        exact at_getD hi
      · refine ⟨_, rfl, _, rfl, _, rfl, _, rfl, _, _, rfl, rfl, (by show ((n : Nat) : Int) ≠ 0; omega), _, _, rfl, rfl, _, _, res.getD (i - i % n) 0, rfl, rfl, sz, ?_, ?_⟩
        · rw [Int.zero_add, fm, show ((i : Nat) : Int) - ((i % n : Nat) : Int) = ((i - i % n : Nat) : Int) by have := Nat.mod_le i n; omega]
          exact at_getD (Nat.lt_of_le_of_lt (Nat.sub_le _ _) hi)
        · refine ⟨rfl, ?_⟩
          show Q' (.bl (decide (V.str ⟨#[_]⟩ = V.str ⟨#[_]⟩))) _
          rw [one_eq]
          exact k _ (.refl _)
    · intro G s1 hG
      refine ⟨D, (List.range res.length).map fun k => decide (res.getD k 0 = res.getD (k - k % n) 0), rfl, seqL_of (by rw [List.map_map]; exact hG), ?_⟩
      refine z G _ s1 ?_
      rw [all_rng]
      unfold blind
      exact forall_congr' fun k => forall_congr' fun _ => decide_eq_true_iff
def spLeastF (a : Ad) : Sp := fun vs H Q _ => ∃ (s : Addr) (R C n l r : Nat) (res : List Nat), vs = [.ref s, .int l, .int r, tx res] ∧ SchemeAt a.Scheme H s R C n ∧ Tab n l r res ∧ n ^ (l + 1 + r) ≤ 729 ∧
  ∀ G q l' r' res', Same H G → Lf n l r res l' r' res' → H q = none → G q = some (.tup [.int (l' : Nat), .int (r' : Nat), tx res']) → Q (.ref q) G
theorem c_least_form (T : Txt K mg a) : Can P w K mg base 3 "_least_form" (spLeastF a) := by
  refine can_of T.d_least_form sc_least_form bd_least_form (fun vs H Q E h => ?_) (fun f cdv A outer s0 H vs Q E hr h => ?_)
  · obtain ⟨s, R, C, n, l, r, res, rfl, _⟩ := h
    rfl
  · obtain ⟨s, R, C, n, l, r, res, rfl, sch, t, hw, z⟩ := h
    refine ⟨_, (pss_cons (ps_set (i := 4) sc_least_form.nd rfl (.inl rfl) (pe_callB (lenO (c_Scheme_len T) hr (by decide)) (by rfl) T.b_len (by decide +kernel) (pa_cons (pv 0) pa_nil)))
      (pss_cons (ps_set (i := 5) sc_least_form.nd rfl (.inl rfl) (pv 3))
      (pss_cons (ps_set (i := 6) sc_least_form.nd rfl (.inl rfl) (pv 1))
      (C8.pss_cut (ps_while (passes_of rfl) (PW.pt (pw_and (pt_cmpR op_gt (pv 6) pe_int (nomark _)) (pw_and1 (pt_cmpR op_eq (pv 5) (pe_op op_repS (pe_slice sl_str (pv 5) po_none (po_some (pe_op op_fdivN (pe_callB call_len_str (by rfl) T.b_len (by decide +kernel) (pa_cons (pv 5) pa_nil)) (pv 4)))) (pv 4)) (nomark _))))) (pss_cons (ps_set (i := 5) sc_least_form.nd rfl (.inl rfl) (pe_slice sl_str (pv 5) po_none (po_some (pe_op op_fdivN (pe_callB call_len_str (by rfl) T.b_len (by decide +kernel) (pa_cons (pv 5) pa_nil)) (pv 4)))))
      (pss_one (ps_aug (i := 6) sc_least_form.nd rfl (.inl rfl) pe_int ip_sub))))
      (pss_cons (ps_set (i := 7) sc_least_form.nd rfl (.inl rfl) (pv 2))
      (C8.pss_cut (ps_while (passes_of rfl) (PW.pt (pw_and (pt_cmpR op_gt (pv 7) pe_int (nomark _)) (pw_and1 (pt_val (pc_f (c_is_blind T) hr (by decide) (by rfl) (pa_cons (pv 5) (pa_cons (pv 4) pa_nil))))))) (pss_cons (ps_set (i := 5) sc_least_form.nd rfl (.inl rfl) (pe_stepS (pv 5) (pv 4)))
      (pss_one (ps_aug (i := 7) sc_least_form.nd rfl (.inl rfl) pe_int ip_sub))))
      (pss_one (ps_ret (pe_tup (pa_cons (pv 6) (pa_cons (pv 7) (pa_cons (pv 5) pa_nil)))))))))))), ?_⟩
    have gn := good_n sch.2
    have n0 : 0 < n := by omega
    obtain ⟨ds, hs⟩ := sch.1
    refine ⟨_, rfl, s, ds, _, rfl, hs, s, R, C, n, rfl, sch, n, rfl, by omega, by omega, _, rfl, _, rfl, ?_⟩
    refine ⟨fun σ G => G = H ∧ ∃ (f : Nat) (res1 : List Nat), Tab n f r res1 ∧ f ≤ l ∧ (∀ c, Ok n c → sem n l r res c = sem n f r res1 c) ∧ (f = 0 ∨ Dep n (sem n f r res1) (-(f : Int))) ∧ σ = [some (.ref s), some (.int (l : Nat)), some (.int (r : Nat)), some (tx res), some (.int (n : Nat)), some (tx res1), some (.int (f : Nat)), none], ?_, ?_⟩
    · refine ⟨fun k σ G => G = H ∧ ∃ res1 : List Nat, Tab n k r res1 ∧ k ≤ l ∧ (∀ c, Ok n c → sem n l r res c = sem n k r res1 c) ∧ σ = [some (.ref s), some (.int (l : Nat)), some (.int (r : Nat)), some (tx res), some (.int (n : Nat)), some (tx res1), some (.int (k : Nat)), none], ⟨l, rfl, res, t, Nat.le_refl _, fun _ _ => rfl, rfl⟩, ?_⟩
      rintro k σ G ⟨rfl, res1, t1, k1, e1, rfl⟩
      have pw : n ^ (k + 1 + r) ≤ 729 := Nat.le_trans (Nat.pow_le_pow_right n0 (by omega)) hw
      have l1 : res1.length ≤ 729 := by rw [t1.len]; exact pw
      have sz : (S res1).length ≤ sizeLine := by rw [S_len]; exact szl (by omega)
      refine ⟨_, rfl, _, _, rfl, rfl, _, rfl, ?_⟩
      by_cases c1 : 0 < k
      · refine itP (decide_eq_true (by omega)) ?_
        refine ⟨_, rfl, _, rfl, _, rfl, _, rfl, sz, _, rfl, _, _, rfl, rfl, ?_, ?_⟩
        · exact ⟨by omega, by omega⟩
        · refine ⟨_, rfl, _, rfl, sz, _, rfl, _, _, rfl, rfl, ?_, ?_⟩
          · rw [cutE]
            exact mulOk_of 1000 10 (by rw [S_len, List.length_take]; omega) (by omega) (by omega) (by decide) (by decide)
          · refine ⟨rfl, _, rfl, ?_⟩
            obtain ⟨g, rfl⟩ : ∃ g, k = g + 1 := ⟨k - 1, by omega⟩
            by_cases c2 : free n res1
            · refine itP (ef.mpr c2) ?_
              refine ⟨fun σ G' => G' = G ∧ σ = [some (.ref s), some (.int (l : Nat)), some (.int (r : Nat)), some (tx res), some (.int (n : Nat)), some (tx (res1.take (res1.length / n))), some (.int (g : Nat)), none], ?_, ?_⟩
              · rintro _ _ ⟨rfl, rfl⟩
                exact ⟨g, by omega, rfl, _, tabL n0 t1, by omega, fun c o => (e1 c o).trans (semL n0 t1 c2 o), rfl⟩
              · refine ⟨_, rfl, _, rfl, _, rfl, sz, _, rfl, _, _, rfl, rfl, ⟨by omega, by omega⟩, _, rfl, _, rfl, sz, ?_⟩
                rw [cutE]
                refine ⟨_, rfl, _, 1, rfl, rfl, rfl, ?_⟩
                show [_, _, _, _, _, _, some (V.int (((g + 1 : Nat) : Int) - 1)), _] = _
                rw [show ((g + 1 : Nat) : Int) - 1 = (g : Int) by omega]
            · refine itN (fun q => c2 (ef.mp q)) ?_
              exact ⟨rfl, g + 1, res1, t1, k1, e1, .inr (depL n0 t1 c2), rfl⟩
      · refine itN (by rw [decide_eq_false (by omega)]; decide) ?_
        have k0 : k = 0 := by omega
        subst k0
        exact ⟨rfl, 0, res1, t1, k1, e1, .inl rfl, rfl⟩
    · rintro σ G ⟨rfl, f, res1, t1, f1, e1, d1, rfl⟩
      refine ⟨_, rfl, ?_⟩
      refine ⟨fun σ G' => Same G G' ∧ ∃ (b : Nat) (res2 : List Nat), Lf n l r res f b res2 ∧ σ = [some (.ref s), some (.int (l : Nat)), some (.int (r : Nat)), some (tx res), some (.int (n : Nat)), some (tx res2), some (.int (f : Nat)), some (.int (b : Nat))], ?_, ?_⟩
      · refine ⟨fun k σ G' => Same G G' ∧ ∃ res2 : List Nat, Tab n f k res2 ∧ k ≤ r ∧ (∀ c, Ok n c → sem n f r res1 c = sem n f k res2 c) ∧ σ = [some (.ref s), some (.int (l : Nat)), some (.int (r : Nat)), some (tx res), some (.int (n : Nat)), some (tx res2), some (.int (f : Nat)), some (.int (k : Nat))], ⟨r, .refl _, res1, t1, Nat.le_refl _, fun _ _ => rfl, rfl⟩, ?_⟩
        rintro k σ G' ⟨s1, res2, t2, k2, e2, rfl⟩
        have pw : n ^ (f + 1 + k) ≤ 729 := Nat.le_trans (Nat.pow_le_pow_right n0 (by omega)) hw
        have l2 : res2.length ≤ 729 := by rw [t2.len]; exact pw
        have sz : (S res2).length ≤ sizeLine := by rw [S_len]; exact szl (by omega)
        have ds1 : f = 0 ∨ Dep n (sem n f k res2) (-(f : Int)) := d1.imp id fun d => dep_congr e2 d
        refine ⟨_, rfl, _, _, rfl, rfl, _, rfl, ?_⟩
        by_cases c1 : 0 < k
        · refine itP (decide_eq_true (by omega)) ?_
          refine ⟨_, rfl, _, rfl, res2, n, rfl, by omega, by omega, by omega, fun G2 b s2 hb => ⟨_, rfl, ?_⟩⟩
          obtain ⟨g, rfl⟩ : ∃ g, k = g + 1 := ⟨k - 1, by omega⟩
          by_cases c2 : b = true
          · refine itP c2 ?_
            have c2 := hb.mp c2
            refine ⟨fun σ G' => Same G G' ∧ σ = [some (.ref s), some (.int (l : Nat)), some (.int (r : Nat)), some (tx res), some (.int (n : Nat)), some (tx (every res2 n)), some (.int (f : Nat)), some (.int (g : Nat))], ?_, ?_⟩
            · rintro _ _ ⟨s3, rfl⟩
              exact ⟨g, by omega, s3, _, tabR n0 t2, by omega, fun c o => (e2 c o).trans (semR n0 t2 c2 o), rfl⟩
            · refine ⟨_, rfl, res2, rfl, by omega, _, rfl, _, rfl, n, rfl, by omega, ?_⟩
              refine ⟨_, rfl, _, 1, rfl, rfl, s1.trans s2, ?_⟩
              show [_, _, _, _, _, _, _, some (V.int (((g + 1 : Nat) : Int) - 1))] = _
              rw [show ((g + 1 : Nat) : Int) - 1 = (g : Int) by omega]
          · refine itN c2 ?_
            have c2 : ¬ blind n res2 := fun q => c2 (hb.mpr q)
            exact ⟨s1.trans s2, g + 1, res2, ⟨t2, ⟨ds1, .inr (depR n0 t2 c2)⟩, fun c o => (e1 c o).trans (e2 c o), f1, k2⟩, rfl⟩
        · refine itN (by rw [decide_eq_false (by omega)]; decide) ?_
          have k0 : k = 0 := by omega
          subst k0
          exact ⟨s1, 0, res2, ⟨t2, ⟨ds1, .inl rfl⟩, fun c o => (e1 c o).trans (e2 c o), f1, k2⟩, rfl⟩
      · rintro σ G' ⟨s1, b, res2, lf, rfl⟩
        exact ⟨_, rfl, _, rfl, _, rfl, by show 3 ≤ sizeLine; decide, fun q hq => z _ q f b res2 (s1.trans (ex_new hq)) lf (free_same s1 hq) upd_same⟩
theorem lit_reach : Str.ofString "reach" = S [114, 101, 97, 99, 104] := by decide +kernel
theorem lit_results : Str.ofString "results" = S [114, 101, 115, 117, 108, 116, 115] := by decide +kernel
/-! ### the new columns of the windows -/
theorem words_nd {n : Nat} (w : Nat) : (words n w).Nodup := by
  unfold words
  refine List.pairwise_map.mpr (List.Pairwise.imp_of_mem (fun {a b} ha hb h e => h ?_) List.nodup_range)
  have ha := List.mem_range.mp ha
  have hb := List.mem_range.mp hb
  rw [← ixw_wdig w a ha, ← ixw_wdig w b hb, e]
def keysW (n w : Nat) : List Key := (words n w).map fun u => Sum.inr (S u)
theorem keysW_len (n w : Nat) : (keysW n w).length = n ^ w := by unfold keysW; rw [List.length_map, words_len]
theorem keysW_nd {n : Nat} (w : Nat) : (keysW n w).Nodup :=
  List.pairwise_map.mpr (List.Pairwise.imp (fun h e => h (S_inj (Sum.inr.inj e))) (words_nd w))
def newsL (n w : Nat) (res : List Nat) : List (Key × V) := (keysW n w).zip (res.map fun x => tx [x])
theorem news_at {n w : Nat} (hn : 0 < n) {res u : List Nat} (hl : res.length = n ^ w) (h : isStrip n u = true) (hu : u.length = w) : valV (newsL n w res) (.inr (S u)) = some (tx [res.getD (ixw n u) 0]) := by
  have hi := ixw_lt h
  rw [hu] at hi
  refine zip_get (i := ixw n u) (by rw [keysW_len, List.length_map, hl]; exact Nat.le_refl _) (keysW_nd w) ?_ ?_
  · unfold keysW
    rw [List.getElem?_map, words_at hi, wdig_ixw hn w u hu h]
    rfl
  · rw [List.getElem?_map, getD_at (by rw [hl]; exact hi)]
    rfl
/-! ### a block -/
def fb (s : Addr) (l r : Nat) (res : List Nat) (q : Addr) : List (Str × V) := [("scheme", .ref s), ("left", .int (l : Nat)), ("right", .int (r : Nat)), ("results", tx res), ("_news", .ref q)]
theorem kb : (("left" : Str) == ("scheme" : Str)) = false ∧ (("right" : Str) == ("scheme" : Str)) = false ∧ (("right" : Str) == ("left" : Str)) = false ∧ (("results" : Str) == ("scheme" : Str)) = false ∧ (("results" : Str) == ("left" : Str)) = false ∧ (("results" : Str) == ("right" : Str)) = false ∧
  (("_news" : Str) == ("scheme" : Str)) = false ∧ (("_news" : Str) == ("left" : Str)) = false ∧ (("_news" : Str) == ("right" : Str)) = false ∧ (("_news" : Str) == ("results" : Str)) = false := by decide +kernel
theorem fb_scheme (s : Addr) (l r : Nat) (res : List Nat) (q : Addr) : (fb s l r res q).lookup ("scheme" : Str) = some (.ref s) := by
  unfold fb
  rw [List.lookup_cons, beq_self_eq_true]
theorem fb_left (s : Addr) (l r : Nat) (res : List Nat) (q : Addr) : (fb s l r res q).lookup ("left" : Str) = some (.int (l : Nat)) := by
  unfold fb
  rw [List.lookup_cons, kb.1, List.lookup_cons, beq_self_eq_true]
theorem fb_right (s : Addr) (l r : Nat) (res : List Nat) (q : Addr) : (fb s l r res q).lookup ("right" : Str) = some (.int (r : Nat)) := by
  unfold fb
  rw [List.lookup_cons, kb.2.1, List.lookup_cons, kb.2.2.1, List.lookup_cons, beq_self_eq_true]
theorem fb_results (s : Addr) (l r : Nat) (res : List Nat) (q : Addr) : (fb s l r res q).lookup ("results" : Str) = some (tx res) := by
  unfold fb
  rw [List.lookup_cons, kb.2.2.2.1, List.lookup_cons, kb.2.2.2.2.1, List.lookup_cons, kb.2.2.2.2.2.1, List.lookup_cons, beq_self_eq_true]
theorem fb_news (s : Addr) (l r : Nat) (res : List Nat) (q : Addr) : (fb s l r res q).lookup ("_news" : Str) = some (.ref q) := by
  unfold fb
  rw [List.lookup_cons, kb.2.2.2.2.2.2.1, List.lookup_cons, kb.2.2.2.2.2.2.2.1, List.lookup_cons, kb.2.2.2.2.2.2.2.2.1, List.lookup_cons, kb.2.2.2.2.2.2.2.2.2, List.lookup_cons, beq_self_eq_true]
theorem fb_no (s : Addr) (l r : Nat) (res : List Nat) (q : Addr) {x : Str} (h : (x == ("scheme" : Str)) = false ∧ (x == ("left" : Str)) = false ∧ (x == ("right" : Str)) = false ∧ (x == ("results" : Str)) = false ∧ (x == ("_news" : Str)) = false) : (fb s l r res q).lookup x = none := by
  unfold fb
  rw [List.lookup_cons, h.1, List.lookup_cons, h.2.1, List.lookup_cons, h.2.2.1, List.lookup_cons, h.2.2.2.1, List.lookup_cons, h.2.2.2.2]
  rfl
theorem put_fb (s : Addr) (l r : Nat) (res : List Nat) (q : Addr) : putF "_news" (.ref q) (putF "results" (tx res) (putF "right" (.int (r : Nat)) (putF "left" (.int (l : Nat)) (putF "scheme" (.ref s) [])))) = fb s l r res q := by
  have h := kb
  unfold fb
  simp only [putF, h.1, h.2.1, h.2.2.1, h.2.2.2.1, h.2.2.2.2.1, h.2.2.2.2.2.1, h.2.2.2.2.2.2.1, h.2.2.2.2.2.2.2.1, h.2.2.2.2.2.2.2.2.1, h.2.2.2.2.2.2.2.2.2]
  rfl
theorem ne_int {a b : Nat} (h : ¬ a = b) : (!decide (V.int (a : Int) = V.int (b : Int))) = true := by
  have : decide (V.int (a : Int) = V.int (b : Int)) = false := decide_eq_false fun q => h (Int.ofNat.inj (V.int.inj q))
  rw [this]
  rfl
theorem eq_int {a : Nat} : (!decide (V.int (a : Int) = V.int (a : Int))) = false := by
  rw [decide_eq_true rfl]
  rfl
structure BlockAt (a : Ad) (H : Hp) (p s : Addr) (R C n l r : Nat) (res : List Nat) : Prop where
  ob : ∃ dx q, H p = some (.ins a.Block dx (fb s l r res q)) ∧ H q = some (.dK (newsL n (l + 1 + r) res))
  sch : SchemeAt a.Scheme H s R C n
  tab : Tab n l r res
  least : Least n l r res
  wide : n ^ (l + 1 + r) ≤ 729
theorem BlockAt.mono {a : Ad} {H G : Hp} {p s : Addr} {R C n l r : Nat} {res : List Nat} (h : BlockAt a H p s R C n l r res) (e : Same H G) : BlockAt a G p s R C n l r res :=
  ⟨let ⟨dx, q, h1, h2⟩ := h.ob; ⟨dx, q, e _ _ h1, e _ _ h2⟩, h.sch.mono e, h.tab, h.least, h.wide⟩
def wrongB (n : Nat) (l r : Int) (res : List Nat) : Option (List Nat) :=
  if l < 0 ∨ r < 0 ∨ ¬ n ^ (l + 1 + r).toNat ≤ 729 then some [114, 101, 97, 99, 104] else if isStrip n res = false ∨ ¬ res.length = n ^ (l + 1 + r).toNat then some [114, 101, 115, 117, 108, 116, 115] else none
def spBInit (a : Ad) : Sp := fun vs H Q E => ∃ (p dx s : Addr) (R C n : Nat) (l r : Int) (res : List Nat), vs = [.ref p, .ref s, .int l, .int r, tx res] ∧ H p = some (.ins a.Block dx []) ∧ SchemeAt a.Scheme H s R C n ∧ res.length ≤ 1000 ∧
  (∀ y, wrongB n l r res = some y → Ra E a.BadBlock "part" (tx y) H) ∧
  (∀ l1 r1 : Nat, l = l1 → r = r1 → Tab n l1 r1 res → n ^ (l1 + 1 + r1) ≤ 729 → ∀ (l' r' : Nat) res' q G, Lf n l1 r1 res l' r' res' → n ^ (l' + 1 + r') ≤ 729 → (∀ b o, H b = some o → b ≠ p → G b = some o) → G p = some (.ins a.Block dx (fb s l' r' res' q)) → G q = some (.dK (newsL n (l' + 1 + r') res')) → Q .non G)
theorem c_Block_init (T : Txt K mg a) : CanN P w K mg base 4 a.Block "Block" (spBInit a) := by
  refine canN_of T.c_Block T.m_Block___init__ sc_Block___init__ bd_Block___init__ (fun vs H Q E h => ?_) (fun f cdv A outer s0 H vs Q E hr h => ?_)
  · obtain ⟨p, dx, s, R, C, n, l, r, res, rfl, _⟩ := h
    rfl
  · obtain ⟨p, dx, s, R, C, n, l, r, res, rfl, hp, sch, nl, y, z⟩ := h
    refine ⟨_, (pss_cons (ps_if (PW.pt (pw_or (pt_cmpR op_lt (pv 2) pe_int (nomark _)) (pw_or (pt_cmpR op_lt (pv 3) pe_int (nomark _)) (pw_or1 (pt_not (pt_val (pc_f (c_is_narrow T) hr (by decide) (by rfl) (pa_cons (pv 1) (pa_cons (pe_op op_add (pe_op op_add (pv 2) pe_int) (pv 3)) pa_nil))))))))) (pss_one (pr_err (c_BadBlock T) (takes_of rfl rfl rfl rfl) (by rfl) hr (by decide) (by rfl) pe_str)) pss_nil)
      (pss_cons (ps_if (PW.pt (pw_or (pt_not (pt_val (pc_m (c_Scheme_is_strip T) hr (by decide) (pv 1) (pa_cons (pv 4) pa_nil)))) (pw_or1 (pt_cmpR op_ne (pe_callB call_len_str (by rfl) T.b_len (by decide +kernel) (pa_cons (pv 4) pa_nil)) (pe_callB (klen_seq K) (by rfl) T.b_len (by decide +kernel) (pa_cons (pc_f (c_words_of T) hr (by decide) (by rfl) (pa_cons (pv 1) (pa_cons (pe_op op_add (pe_op op_add (pv 2) pe_int) (pv 3)) pa_nil))) pa_nil)) (nomark _))))) (pss_one (pr_err (c_BadBlock T) (takes_of rfl rfl rfl rfl) (by rfl) hr (by decide) (by rfl) pe_str)) pss_nil)
      (pss_cons (ps_asg (pc_f (c_least_form T) hr (by decide) (by rfl) (pa_cons (pv 1) (pa_cons (pv 2) (pa_cons (pv 3) (pa_cons (pv 4) pa_nil))))) (pg_tup rfl (pgs_cons (pg_name (i := 5) sc_Block___init__.nd rfl (.inl rfl)) (pgs_cons (pg_name (i := 6) sc_Block___init__.nd rfl (.inl rfl)) (pgs_cons (pg_name (i := 7) sc_Block___init__.nd rfl (.inl rfl)) pgs_nil)))))
      (pss_cons (ps_fld (pv 0) (pv 1) rfl)
      (pss_cons (ps_fld (pv 0) (pv 5) rfl)
      (pss_cons (ps_fld (pv 0) (pv 6) rfl)
      (pss_cons (ps_fld (pv 0) (pv 7) rfl)
      (pss_cons (ps_set (i := 8) sc_Block___init__.nd rfl (.inl rfl) (pc_f (c_words_of T) hr (by decide) (by rfl) (pa_cons (pv 1) (pa_cons (pe_op op_add (pe_op op_add (pv 5) pe_int) (pv 6)) pa_nil))))
      (pss_one (ps_fld (pv 0) (pe_dc (own := [("window", 9), ("new", 10)]) (g := (gTup _ 2 (gCons (gName 9) (gCons (gName 10) gNil)))) (tt := tYes) (by rfl) sc_Block___init__.nd (pi_zipZ (by rfl) T.b_zip (pa_cons (pv 8) (pa_cons (pv 7) pa_nil))) (blkOk_by (N := N_Block___init__) (sc := defScope s_Block___init__) (by decide +kernel)) (fun _ _ _ _ _ => (pg_tup rfl (pgs_cons (pg_name (i := 9) sc_Block___init__.nd rfl (.inl rfl)) (pgs_cons (pg_name (i := 10) sc_Block___init__.nd rfl (.inl rfl)) pgs_nil)))) (fun _ _ _ _ _ => pts_nil) (fun _ _ _ _ _ => (pv 9)) (fun _ _ _ _ _ => (pv 10))) rfl)))))))))), ?_⟩
    rw [lit_reach]
    have yr : ∀ G, Same H G → wrongB n l r res = some [114, 101, 115, 117, 108, 116, 115] → Ra E a.BadBlock "part" (.str (Str.ofString "results")) G := fun G k e => by
      rw [lit_results]
      exact (y _ e).mono k
    have gn := good_n sch.2
    have n0 : 0 < n := by omega
    have sz : (S res).length ≤ sizeLine := by rw [S_len]; exact szl (by omega)
    by_cases hl : l < 0
    · exact ⟨_, rfl, _, _, rfl, rfl, _, rfl, itP (decide_eq_true hl) (y _ (if_pos (.inl hl))).now⟩
    · refine ⟨_, rfl, _, _, rfl, rfl, _, rfl, itN (by rw [decide_eq_false hl]; decide) ?_⟩
      by_cases hr0 : r < 0
      · exact ⟨_, rfl, _, _, rfl, rfl, _, rfl, itP (decide_eq_true hr0) (y _ (if_pos (.inr (.inl hr0)))).now⟩
      · refine ⟨_, rfl, _, _, rfl, rfl, _, rfl, itN (by rw [decide_eq_false hr0]; decide) ?_⟩
        obtain ⟨l1, rfl⟩ : ∃ l1 : Nat, (l1 : Int) = l := ⟨l.toNat, by omega⟩
        obtain ⟨r1, rfl⟩ : ∃ r1 : Nat, (r1 : Int) = r := ⟨r.toNat, by omega⟩
        have et : ((l1 : Int) + 1 + (r1 : Int)).toNat = l1 + 1 + r1 := by omega
        refine ⟨_, rfl, _, rfl, _, _, rfl, rfl, _, rfl, _, _, rfl, rfl, s, R, C, n, l1 + 1 + r1, rfl, sch, ?_⟩
        refine ⟨_, rfl, ?_⟩
        by_cases hw : n ^ (l1 + 1 + r1) ≤ 729
        · refine itN (by rw [decide_eq_true hw]; decide) ?_
          obtain ⟨ds, hs⟩ := sch.1
          refine ⟨_, rfl, s, ds, _, rfl, hs, fl_no R C n (by decide +kernel) (by decide +kernel) (by decide +kernel), _, rfl, s, R, C, n, res, rfl, sch, by omega, fun G1 k1 => ⟨_, rfl, ?_⟩⟩
          cases e1 : isStrip n res with
          | false => exact itP rfl (yr _ k1 (by unfold wrongB; rw [if_neg (by rw [et]; omega), if_pos (.inl e1)])).now
          | true =>
            refine itN (by decide) ?_
            refine ⟨_, rfl, _, rfl, sz, _, rfl, _, rfl, _, _, rfl, rfl, _, rfl, _, _, rfl, rfl, s, R, C, n, l1 + 1 + r1, rfl, sch.mono k1, hw, fun G2 q2 k2 h2 hq2 => ?_⟩
            refine ⟨q2, _, rfl, .inl (seqL_of hq2), ?_⟩
            have lw : ((words n (l1 + 1 + r1)).map tx).length = n ^ (l1 + 1 + r1) := by rw [List.length_map, words_len]
            rw [lw, S_len]
            refine ⟨rfl, _, rfl, ?_⟩
            by_cases e2 : res.length = n ^ (l1 + 1 + r1)
            · refine itN (by rw [e2, eq_int]; decide) ?_
              have tab : Tab n l1 r1 res := ⟨e2, e1⟩
              have k12 := k1.trans k2
              refine ⟨_, rfl, _, rfl, _, rfl, _, rfl, s, R, C, n, l1, r1, res, rfl, sch.mono k12, tab, hw, fun G3 q3 l' r' res' k3 lf h3 hq3 => ?_⟩
              have k13 := k12.trans k3
              refine ⟨q3, _, rfl, seqT_of hq3, rfl, _, _, rfl, _, _, rfl, _, _, rfl, rfl, ?_⟩
              refine ⟨_, rfl, _, rfl, p, _, dx, [], rfl, k13 _ _ hp, T.c_Block.cl, T.w_scheme, by show 0 < 1000; decide, ?_⟩
              refine ⟨_, rfl, _, rfl, p, _, dx, _, rfl, upd_same, T.c_Block.cl, T.w_left, by show 1 < 1000; decide, ?_⟩
              refine ⟨_, rfl, _, rfl, p, _, dx, _, rfl, upd_same, T.c_Block.cl, T.w_right, by show 2 < 1000; decide, ?_⟩
              refine ⟨_, rfl, _, rfl, p, _, dx, _, rfl, upd_same, T.c_Block.cl, T.w_results, by show 3 < 1000; decide, ?_⟩
              have sp : s ≠ p := fun e => by
                rw [e, hp] at hs
                have q := congrArg List.length (HO.ins.inj (Option.some.inj hs)).2.2
                cases q
              have pw : n ^ (l' + 1 + r') ≤ 729 := Nat.le_trans (Nat.pow_le_pow_right n0 (by have := lf.le; have := lf.re; omega)) hw
              refine ⟨_, rfl, _, rfl, _, _, rfl, rfl, _, rfl, _, _, rfl, rfl, s, R, C, n, l' + 1 + r', rfl, ⟨⟨ds, ?_⟩, sch.2⟩, pw, fun G4 q4 k4 h4 hq4 => ?_⟩
              · rw [upd_ne sp, upd_ne sp, upd_ne sp, upd_ne sp]
                exact k13 _ _ hs
              · have hq4 : G4 q4 = some (.lst ((words n (l' + 1 + r')).map tx)) := hq4
                have lr : res'.length = n ^ (l' + 1 + r') := lf.tab.len
                have lw' : ((words n (l' + 1 + r')).map tx).length = n ^ (l' + 1 + r') := by rw [List.length_map, words_len]
                have kp := k4 _ _ upd_same
                refine ⟨_, rfl, _, rfl, .L q4, .T (S res'), _, _, rfl, hq4, rfl, fun D hD => dc_two (walk_Z (n := n ^ (l' + 1 + r')) (by rw [signs_S, lw', List.length_map, lr, Nat.min_self])) (keysW n (l' + 1 + r')) (res'.map fun x => tx [x]) (keysW_len _ _) (by rw [List.length_map, lr]) (keysW_nd _) (by omega) hD (fun M s1 => ⟨s1 _ _ hq4, rfl⟩) (fun _ _ => rfl) ?_ ?_⟩
                · intro j u v M k o hj s1 hu hv hk ho Q' q'
                  rw [List.getElem?_map, words_at hj] at hu
                  unfold keysW at hk
                  rw [List.getElem?_map, words_at hj] at hk
                  rw [signs_S] at hv
                  rw [hv] at ho
                  cases hu
                  cases hk
                  cases ho
                  exact ⟨_, rfl, _, rfl, q' _ (.refl _)⟩
                · intro M s1 hM
                  have Dp : D ≠ p := fun e => by
                    rw [e, kp] at hD
                    cases hD
                  refine ⟨_, rfl, p, _, dx, _, rfl, s1 _ _ kp, T.c_Block.cl, T.w_news, by show 4 < 1000; decide, ?_⟩
                  refine z l1 r1 rfl rfl tab hw l' r' res' D _ lf pw (fun b o e hb => ?_) ?_ ?_
                  · rw [upd_ne hb]
                    refine s1 _ _ (k4 _ _ ?_)
                    rw [upd_ne hb, upd_ne hb, upd_ne hb, upd_ne hb]
                    exact k13 _ _ e
                  · exact upd_same.trans (congrArg (fun l => some (HO.ins a.Block dx l)) (put_fb s l' r' res' D))
                  · rw [upd_ne Dp]
                    exact hM
            · exact itP (ne_int e2) (yr _ (k1.trans k2) (by unfold wrongB; rw [if_neg (by rw [et]; omega), if_pos (.inr (by rw [et]; exact e2))])).now
        · exact itP (by rw [decide_eq_false hw]; decide) (y _ (if_pos (.inr (.inr (by rw [et]; exact hw))))).now
theorem wrongB_ok {n l r : Nat} {res : List Nat} (t : Tab n l r res) (h : n ^ (l + 1 + r) ≤ 729) : wrongB n l r res = none := by
  have et : ((l : Int) + 1 + (r : Int)).toNat = l + 1 + r := by omega
  unfold wrongB
  rw [if_neg (by rw [et]; omega), if_neg (by rw [et, t.ok, t.len]; simp)]
theorem init_block {a : Ad} {H : Hp} {y dx s : Addr} {R C n l r : Nat} {res : List Nat} {Q : V → Hp → Prop} {E : XK} (sch : SchemeAt a.Scheme H s R C n) (t : Tab n l r res) (hw : n ^ (l + 1 + r) ≤ 729) (hy : H y = none) (hdx : H dx = none) (ne : dx ≠ y)
    (k : ∀ G (l' r' : Nat) res', Same H G → Lf n l r res l' r' res' → BlockAt a G y s R C n l' r' res' → Q (.ref y) G) :
    spBInit a (.ref y :: [.ref s, .int (l : Nat), .int (r : Nat), tx res] ++ []) (upd (upd H dx (.own y)) y (.ins a.Block dx [])) (fun v G => v = .non ∧ Q (.ref y) G) E := by
  have hy2 : upd H dx (.own y) y = none := by rw [upd_ne (Ne.symm ne)]; exact hy
  have s2 : Same H (upd (upd H dx (.own y)) y (.ins a.Block dx [])) := (ex_new hdx).trans (ex_new hy2)
  refine ⟨y, dx, s, R, C, n, l, r, res, rfl, upd_same, sch.mono s2, by rw [t.len]; omega, fun x h => absurd (h.symm.trans (wrongB_ok t hw)) nofun, ?_⟩
  intro l1 r1 el er t1 hw1 l' r' res' q G lf hw2 hk hG hq
  obtain rfl : l = l1 := Int.ofNat.inj el
  obtain rfl : r = r1 := Int.ofNat.inj er
  have sG : Same H G := fun b o e => hk b o (s2 _ _ e) (ne_of_none e hy)
  exact ⟨rfl, k G l' r' res' sG lf ⟨⟨dx, q, hG, hq⟩, sch.mono sG, lf.tab, lf.least, hw2⟩⟩
theorem init_blockH {a : Ad} {H : Hp} {y dx s : Addr} {R C n l r : Nat} {res : List Nat} {Q : Hp → Prop} {E : XK} (sch : SchemeAt a.Scheme H s R C n) (t : Tab n l r res) (hw : n ^ (l + 1 + r) ≤ 729) (hy : H y = none) (hdx : H dx = none) (ne : dx ≠ y)
    (k : ∀ G (l' r' : Nat) res', Same H G → Lf n l r res l' r' res' → BlockAt a G y s R C n l' r' res' → Q G) :
    spBInit a (.ref y :: ([.ref s, .int (l : Nat), .int (r : Nat), tx res] ++ [])) (upd (upd H dx (.own y)) y (.ins a.Block dx [])) (fun v G => v = .non ∧ Q G) E := init_block (Q := fun _ G => Q G) sch t hw hy hdx ne k
theorem dint (a b : Nat) : decide (V.int (a : Int) = V.int (b : Int)) = decide (a = b) := decide_eq_decide.mpr ⟨fun e => Int.ofNat.inj (V.int.inj e), fun e => by rw [e]⟩
theorem dtx (s s2 : List Nat) : decide (tx s = tx s2) = decide (s = s2) := decide_eq_decide.mpr ⟨fun e => S_inj (V.str.inj e), fun e => by rw [e]⟩
theorem tab_id {n : Nat} (h : 0 < n) : Tab n 0 0 (cols n) := ⟨by rw [cols_len]; exact (Nat.pow_one n).symm, by
  refine List.all_eq_true.mpr fun x hx => ?_
  unfold cols at hx
  obtain ⟨k, hk, rfl⟩ := List.mem_map.mp hx
  exact cols_in (List.mem_range.mp hk)⟩
def spBId (a : Ad) : Sp := fun vs H Q _ => ∃ (s : Addr) (R C n : Nat), vs = [.ref a.Block, .ref s] ∧ SchemeAt a.Scheme H s R C n ∧ ∀ G y (l' r' : Nat) res', Same H G → Lf n 0 0 (cols n) l' r' res' → BlockAt a G y s R C n l' r' res' → Q (.ref y) G
theorem c_Block_identity (T : Txt K mg a) : CanC P w K mg base 6 a.Block "identity" (spBId a) := by
  refine canC_of T.m_Block_identity sc_Block_identity bd_Block_identity (fun vs H Q E h => ?_) (fun f cdv A outer s0 H vs Q E hr h => ?_)
  · obtain ⟨s, R, C, n, rfl, _⟩ := h
    rfl
  · obtain ⟨s, R, C, n, rfl, sch, z⟩ := h
    refine ⟨_, (pss_one (ps_ret (pc_nV (i := 0) (c_Block_init T) (takes_of rfl rfl rfl rfl) hr (by decide) (by rfl) (.inl rfl) (pa_cons (pv 1) (pa_cons pe_int (pa_cons pe_int (pa_cons (kfld K (pv 1)) pa_nil))))))), ?_⟩
    have gn := good_n sch.2
    obtain ⟨ds, hs⟩ := sch.1
    refine ⟨rfl, _, rfl, _, rfl, s, _, ds, _, _, rfl, hs, T.c_Scheme.cl, T.n_columns, fl_columns R C n, fun y d hy hd ne => init_block (l := 0) (r := 0) sch (tab_id (by omega)) (by rw [Nat.pow_one]; omega) hy hd ne fun G l' r' res' k lf b => z G y l' r' res' k lf b⟩
/-- == with another thing: another block, an int, a text -/
def spBEq (a : Ad) : Sp := fun vs H Q _ => ∃ (p s : Addr) (R C n l r : Nat) (res : List Nat) (y : V), vs = [.ref p, y] ∧ BlockAt a H p s R C n l r res ∧
  ((∃ i, y = .int i ∧ Q (.bl false) H) ∨ (∃ t, y = .str t ∧ Q (.bl false) H) ∨ ∃ p2 s2 R2 C2 n2 l2 r2 res2, y = .ref p2 ∧ BlockAt a H p2 s2 R2 C2 n2 l2 r2 res2 ∧ Q (.bl (decide ((R = R2 ∧ C = C2) ∧ l = l2 ∧ r = r2 ∧ res = res2))) H)
theorem c_Block_eq (T : Txt K mg a) : CanM P w K mg base 2 a.Block "__eq__" (spBEq a) := by
  refine canM_of T.c_Block.cl T.m_Block___eq__ sc_Block___eq__ bd_Block___eq__ (fun vs H Q E h => ?_) (fun f cdv A outer s0 H vs Q E hr h => ?_)
  · obtain ⟨p, s, R, C, n, l, r, res, y, rfl, _⟩ := h
    rfl
  · obtain ⟨p, s, R, C, n, l, r, res, y, rfl, b1, z⟩ := h
    refine ⟨_, (pss_one (ps_ret (pe_and (pe_callB (kisi K) (by rfl) T.b_isinstance (by decide +kernel) (pa_cons (pv 1) (pa_cons (pe_glob (v := .ref a.Block) (by rfl) T.c_Block.gC rfl) pa_nil))) (pe_and (pe_cmpR (eqO K (c_Scheme_eq T) hr (by decide) T.i_ni T.i_ns) (kfld K (pv 0)) (kfld K (pv 1)) (nomark _)) (pe_and (pe_cmpR op_eq (kfld K (pv 0)) (kfld K (pv 1)) (nomark _)) (pe_and (pe_cmpR op_eq (kfld K (pv 0)) (kfld K (pv 1)) (nomark _)) (pe_one (pe_cmpR op_eq (kfld K (pv 0)) (kfld K (pv 1)) (nomark _))))))))), ?_⟩
    obtain ⟨dx, q, hp, hq⟩ := b1.ob
    rcases z with ⟨i, rfl, z⟩ | ⟨t, rfl, z⟩ | ⟨p2, s2, R2, C2, n2, l2, r2, res2, rfl, b2, z⟩
    · exact ⟨_, rfl, _, _, _, _, false, rfl, .own _, .base (.int i), T.u_int, _, rfl, iteF z⟩
    · exact ⟨_, rfl, _, _, _, _, false, rfl, .own _, .base (.str t), T.u_str, _, rfl, iteF z⟩
    · obtain ⟨dx2, q2, hp2, hq2⟩ := b2.ob
      obtain ⟨sx, hs⟩ := b1.sch.1
      obtain ⟨sx2, hs2⟩ := b2.sch.1
      refine ⟨_, rfl, _, _, _, _, true, rfl, .own _, .base (.ins hp2 T.c_Block.cl T.u_ha T.i_hn T.i_ht T.u_hm), T.u_own, _, rfl, iteT ?_⟩
      refine ⟨_, rfl, p, _, dx, _, _, rfl, hp, T.c_Block.cl, T.w_scheme, fb_scheme s l r res q, _, rfl, p2, _, dx2, _, _, rfl, hp2, T.c_Block.cl, T.w_scheme, fb_scheme s2 l2 r2 res2 q2, s, _, _, rfl, hs, .inr (.inr ⟨s2, _, _, rfl, hs2⟩), s, R, C, n, _, rfl, b1.sch, .inr (.inr ⟨s2, R2, C2, n2, rfl, b2.sch, _, rfl, _, rfl, ?_⟩)⟩
      by_cases c : R = R2 ∧ C = C2
      · rw [decide_eq_true c.1, decide_eq_true c.2]
        refine iteT ⟨_, rfl, p, _, dx, _, _, rfl, hp, T.c_Block.cl, T.w_left, fb_left s l r res q, _, rfl, p2, _, dx2, _, _, rfl, hp2, T.c_Block.cl, T.w_left, fb_left s2 l2 r2 res2 q2, rfl, _, rfl, ?_⟩
        rw [dint]
        by_cases c1 : l = l2
        · rw [decide_eq_true c1]
          refine iteT ⟨_, rfl, p, _, dx, _, _, rfl, hp, T.c_Block.cl, T.w_right, fb_right s l r res q, _, rfl, p2, _, dx2, _, _, rfl, hp2, T.c_Block.cl, T.w_right, fb_right s2 l2 r2 res2 q2, rfl, _, rfl, ?_⟩
          rw [dint]
          by_cases c2 : r = r2
          · rw [decide_eq_true c2]
            refine iteT ⟨_, rfl, p, _, dx, _, _, rfl, hp, T.c_Block.cl, T.w_results, fb_results s l r res q, _, rfl, p2, _, dx2, _, _, rfl, hp2, T.c_Block.cl, T.w_results, fb_results s2 l2 r2 res2 q2, rfl, ?_⟩
            rw [dtx]
            rw [show decide ((R = R2 ∧ C = C2) ∧ l = l2 ∧ r = r2 ∧ res = res2) = decide (res = res2) from decide_eq_decide.mpr ⟨fun e => e.2.2.2, fun e => ⟨c, c1, c2, e⟩⟩] at z
            exact z
          · rw [decide_eq_false c2]
            rw [decide_eq_false fun e => c2 e.2.2.1] at z
            exact iteF z
        · rw [decide_eq_false c1]
          rw [decide_eq_false fun e => c1 e.2.1] at z
          exact iteF z
      · have e : (decide (R = R2) && decide (C = C2)) = false := by
          rw [Bool.and_eq_false_iff]
          by_cases k : R = R2
          · exact .inr (decide_eq_false fun q => c ⟨k, q⟩)
          · exact .inl (decide_eq_false k)
        rw [e]
        rw [decide_eq_false fun e => c e.1] at z
        exact iteF z
/-- what the block makes of the columns W -/
def img (n l r : Nat) (res : List Nat) (W : Int → Nat) : Int → Nat := fun j => sem n l r res fun i => W (j + i)
theorem img_at {n l r : Nat} {res : List Nat} {W : Int → Nat} {b : Int} : sem n l r res (fun i => W (b + l + i)) = res.getD (ixw n (win W b (l + 1 + r))) 0 := by
  unfold sem
  congr 2
  refine List.ext_getElem? fun k => ?_
  by_cases c : k < l + 1 + r
  · rw [win_at c, win_at c, show b + (l : Int) + (-(l : Int) + (k : Int)) = b + (k : Int) by omega]
  · rw [List.getElem?_eq_none (by rw [win_len]; omega), List.getElem?_eq_none (by rw [win_len]; omega)]
theorem img_ok {n l r : Nat} {res : List Nat} {W : Int → Nat} (t : Tab n l r res) (h : Ok n W) : Ok n (img n l r res W) := fun _ => sem_col t fun _ => h _
theorem win_drop (W : Int → Nat) (b : Int) (i k m : Nat) (h : i + k ≤ m) : ((win W b m).drop i).take k = win W (b + i) k := by
  refine List.ext_getElem? fun j => ?_
  by_cases c : j < k
  · rw [List.getElem?_take, if_pos c, List.getElem?_drop, win_at (by omega), win_at c, show b + ((i + j : Nat) : Int) = b + (i : Int) + (j : Int) by omega]
  · rw [List.getElem?_take, if_neg c, List.getElem?_eq_none (by rw [win_len]; omega)]
theorem cut_mid (l : List Nat) (i w : Nat) (h : i + w ≤ l.length) : cutS (S l) (some (i : Int)) (some ((i + w : Nat) : Int)) = S ((l.drop i).take w) := by
  rw [cut_S, sIx_some, sIx_some, Nat.min_eq_left (by omega), Nat.min_eq_left (by omega), Nat.add_sub_cancel_left]
def inn (n l r : Nat) (res x : List Nat) : List Nat := (List.range (x.length - (l + r))).map fun i => res.getD (ixw n ((x.drop i).take (l + 1 + r))) 0
theorem inn_len (n l r : Nat) (res x : List Nat) : (inn n l r res x).length = x.length - (l + r) := by unfold inn; rw [List.length_map, List.length_range]
theorem inn_win {n l r : Nat} {res : List Nat} (W : Int → Nat) (b : Int) (k : Nat) : inn n l r res (win W b (k + l + r)) = win (img n l r res W) (b + l) k := by
  unfold inn
  rw [win_len, show k + l + r - (l + r) = k by omega]
  show _ = (List.range k).map _
  refine List.map_congr_left fun i hi => ?_
  have hi := List.mem_range.mp hi
  rw [win_drop _ _ _ _ _ (by omega), ← img_at]
  show _ = sem n l r res _
  congr 1
  funext j
  rw [show b + (i : Int) + (l : Int) + j = b + (l : Int) + (i : Int) + j by omega]
theorem inn_strip {n l r : Nat} {res x : List Nat} (t : Tab n l r res) (hs : isStrip n x = true) : isStrip n (inn n l r res x) = true := by
  refine List.all_eq_true.mpr fun c hc => ?_
  unfold inn at hc
  obtain ⟨i, hi, rfl⟩ := List.mem_map.mp hc
  have hi := List.mem_range.mp hi
  have s := strip_take (k := l + 1 + r) (strip_drop (k := i) hs)
  have q := ixw_lt s
  rw [List.length_take, List.length_drop, Nat.min_eq_left (by omega)] at q
  exact strip_getD t.ok (by rw [t.len]; exact q)
def spInner (a : Ad) : Sp := fun vs H Q E => ∃ (p s : Addr) (R C n l r : Nat) (res x : List Nat), vs = [.ref p, tx x] ∧ BlockAt a H p s R C n l r res ∧ x.length ≤ 990 ∧ (isStrip n x = true → ∀ G, Same H G → Q (tx (inn n l r res x)) G) ∧ (isStrip n x = false → Ra E a.BadStrip "text" (tx x) H)
theorem c_Block_inner (T : Txt K mg a) : CanM P w K mg base 4 a.Block "inner" (spInner a) := by
  refine canM_of T.c_Block.cl T.m_Block_inner sc_Block_inner bd_Block_inner (fun vs H Q E h => ?_) (fun f cdv A outer s0 H vs Q E hr h => ?_)
  · obtain ⟨p, s, R, C, n, l, r, res, x, rfl, _⟩ := h
    rfl
  · obtain ⟨p, s, R, C, n, l, r, res, x, rfl, bl, hx, z, y⟩ := h
    refine ⟨_, (pss_cons (ps_expr (pc_mS (c_Scheme_check T) (takes_of rfl rfl rfl rfl) hr (by decide) (kfld K (pv 0)) (pa_cons (pv 1) pa_nil)))
      (pss_cons (ps_set (i := 2) sc_Block_inner.nd rfl (.inr rfl) (pe_op op_add (pe_op op_add (kfld K (pv 0)) pe_int) (kfld K (pv 0))))
      (pss_one (ps_ret (kjoin K pe_str (pe_lc (own := [("at", 3)]) (g := gName 3) (tt := tYes) (by rfl) sc_Block_inner.nd (pi_range1 (by rfl) T.b_range (pa_cons (pe_op op_add (pe_op op_sub (pe_callB call_len_str (by rfl) T.b_len (by decide +kernel) (pa_cons (pv 1) pa_nil)) (pv 2)) pe_int) pa_nil)) (blkOk_by (N := N_Block_inner) (sc := defScope s_Block_inner) (by decide +kernel)) (fun _ _ _ _ _ => (pg_name (i := 3) sc_Block_inner.nd rfl (.inl rfl))) (fun _ _ _ _ _ => pts_nil) (fun _ _ _ _ _ => (pe_dget (units1 hr) (kfld K (pv 0)) (pe_slice sl_str (pv 1) (po_some (pv 3)) (po_some (pe_op op_add (pv 3) (pv 2)))) (fun _ _ => rfl))))))))), ?_⟩
    obtain ⟨dx, q, hp, hq⟩ := bl.ob
    obtain ⟨ds, hs⟩ := bl.sch.1
    have gn := good_n bl.sch.2
    have w9 := small_w gn.2.2.2.2 bl.wide
    have sz : (S x).length ≤ sizeLine := by rw [S_len]; exact szl (by omega)
    refine ⟨_, rfl, p, _, dx, _, _, rfl, hp, T.c_Block.cl, T.w_scheme, fb_scheme s l r res q, s, ds, _, rfl, hs, fl_no R C n (by decide +kernel) (by decide +kernel) (by decide +kernel), _, rfl, s, R, C, n, x, rfl, bl.sch, by omega, fun st G1 k1 => ?_, fun e => y e⟩
    have ek : ((((x.length : Nat) : Int) - ((l : Int) + 1 + (r : Int)) + 1)).toNat = x.length - (l + r) := by omega
    refine ⟨_, rfl, p, _, dx, _, _, rfl, k1 _ _ hp, T.c_Block.cl, T.w_left, fb_left s l r res q, _, _, rfl, rfl, _, rfl, p, _, dx, _, _, rfl, k1 _ _ hp, T.c_Block.cl, T.w_right, fb_right s l r res q, _, _, rfl, rfl, ?_⟩
    refine ⟨⟨_, rfl⟩, _, rfl, _, rfl, sz, ?_⟩
    rw [S_len]
    refine ⟨_, rfl, _, _, rfl, rfl, _, _, rfl, rfl, ?_⟩
    refine ⟨((x.length : Nat) : Int) - ((l : Int) + 1 + (r : Int)) + 1, rfl, by omega, by omega, fun D hD => lc_one (walk_range (lo := 0) (n := (((x.length : Nat) : Int) - ((l : Int) + 1 + (r : Int)) + 1).toNat)) ((inn n l r res x).map fun x => tx [x]) (by rw [List.length_map, inn_len, ek]) (by omega) hD (fun _ _ => True.intro) ?_ ?_⟩
    · rintro i c G G' v hi s1 ⟨rfl, rfl⟩ hv
      rw [ek] at hi
      unfold inn at hv
      rw [List.getElem?_map, List.getElem?_map, List.getElem?_range hi] at hv
      cases hv
      refine ⟨.refl _, fun Q' kk => ?_⟩
      have s2 := k1.trans s1
      have e0 : ∀ j : Nat, (0 : Int) + (j : Int) = (j : Int) := fun j => by omega
      have lk : ((x.drop i).take (l + 1 + r)).length = l + 1 + r := by rw [List.length_take, List.length_drop]; omega
      refine ⟨_, rfl, p, _, dx, _, _, rfl, s2 _ _ hp, T.c_Block.cl, T.w_news, fb_news s l r res q, _, rfl, _, rfl, _, rfl, _, rfl, _, rfl, _, _, rfl, rfl, _, rfl, _, rfl, sz, q, tx [res.getD (ixw n ((x.drop i).take (l + 1 + r))) 0], rfl, ?_, kk _ (.refl _)⟩
      have ec : cutS (S x) (some ((0 : Int) + (i : Int))) (some ((0 : Int) + (i : Int) + ((l : Int) + 1 + (r : Int)))) = S ((x.drop i).take (l + 1 + r)) := by
        rw [e0, show (i : Int) + ((l : Int) + 1 + (r : Int)) = ((i + (l + 1 + r) : Nat) : Int) by omega, cut_mid _ _ _ (by omega)]
      show DGet G' q (.str (cutS _ _ _)) _
      rw [ec]
      have v := news_at (w := l + 1 + r) (by omega) bl.tab.len (strip_take (strip_drop st)) lk
      have g := DGet.k (k := Sum.inr (S ((x.drop i).take (l + 1 + r)))) (s2 _ _ hq)
      rw [v] at g
      exact g
    · intro G s1 hG
      refine ⟨_, _, (inn n l r res x).map fun y => S [y], rfl, rfl, .inl (seqL_of (by rw [List.map_map]; exact hG)), ?_, ?_⟩
      · rw [sum_ones, inn_len, lit_e, S_len, List.length_map, inn_len]
        exact szl (by show _ + _ * 0 ≤ _; omega)
      · rw [join_win]
        exact z st G (k1.trans s1)
def spMade (a : Ad) : Sp := fun vs H Q _ => ∃ (p s e s2 : Addr) (R C n l r : Nat) (res le m re : List Nat) (t b : Int) (k : Nat), vs = [.ref p, .ref e, .int b, .int (b + k)] ∧ BlockAt a H p s R C n l r res ∧ EndAt a H e s2 R C n le m re t ∧ k ≤ 900 ∧ -15000 ≤ b ∧ b ≤ 15000 ∧
  ∀ G, Same H G → Q (tx (win (img n l r res (wd le m re t)) b k)) G
theorem wd_ok {n : Nat} {l m r : List Nat} {t : Int} (h : PartOk n l m r t) : Ok n (wd l m r t) := wd_in h
theorem c_Block__made (T : Txt K mg a) : CanM P w K mg base 5 a.Block "_made" (spMade a) := by
  refine canM_of T.c_Block.cl T.m_Block__made sc_Block__made bd_Block__made (fun vs H Q E h => ?_) (fun f cdv A outer s0 H vs Q E hr h => ?_)
  · obtain ⟨p, s, e, s2, R, C, n, l, r, res, le, m, re, t, b, k, rfl, _⟩ := h
    rfl
  · obtain ⟨p, s, e, s2, R, C, n, l, r, res, le, m, re, t, b, k, rfl, bl, en, hk, b1, b2, z⟩ := h
    refine ⟨_, (pss_one (ps_ret (pc_m (c_Block_inner T) hr (by decide) (pv 0) (pa_cons (pc_m (c_Endless_window T) hr (by decide) (pv 1) (pa_cons (pe_op op_sub (pv 2) (kfld K (pv 0))) (pa_cons (pe_op op_add (pv 3) (kfld K (pv 0))) pa_nil))) pa_nil)))), ?_⟩
    obtain ⟨dx, q, hp, hq⟩ := bl.ob
    obtain ⟨de, he⟩ := en.ob
    have gn := good_n bl.sch.2
    have w9 := small_w gn.2.2.2.2 bl.wide
    refine ⟨_, rfl, p, dx, _, rfl, hp, fb_no s l r res q (by decide +kernel), _, rfl, e, de, _, rfl, he, fe_no s2 le m re t (by decide +kernel), _, rfl, _, rfl, p, _, dx, _, _, rfl, hp, T.c_Block.cl, T.w_left, fb_left s l r res q, _, _, rfl, rfl,
      _, rfl, _, rfl, p, _, dx, _, _, rfl, hp, T.c_Block.cl, T.w_right, fb_right s l r res q, _, _, rfl, rfl, ?_⟩
    refine ⟨e, s2, R, C, n, le, m, re, t, b - l, b + k + r, rfl, en, by omega, by omega, by omega, by omega, fun G k1 => ?_⟩
    rw [show (b + (k : Int) + (r : Int) - (b - (l : Int))).toNat = k + l + r by omega]
    have wst := win_ok (wd_ok en.ok) (b - l) (k + l + r)
    refine ⟨p, s, R, C, n, l, r, res, _, rfl, bl.mono k1, by rw [win_len]; omega, fun _ G2 k2 => ?_, fun e => absurd (wst.symm.trans e) nofun⟩
    rw [inn_win, show b - (l : Int) + (l : Int) = b by omega]
    exact z G2 (k1.trans k2)
/-! ### the endless strip that a block makes -/
theorem wd_left {l m r : List Nat} {t j : Int} (h : j < t) : wd l m r t j = l.getD ((j - t) % (l.length : Int)).toNat 0 := by
  unfold wd
  exact col_neg (by omega)
theorem wd_right {l m r : List Nat} {t j : Int} (h : t + m.length ≤ j) : wd l m r t j = r.getD ((j - t - m.length) % (r.length : Int)).toNat 0 := by
  unfold wd
  exact col_pos (by omega) (by omega)
theorem wd_mid {l m r : List Nat} {t j : Int} (h : t ≤ j) (g : j < t + m.length) : wd l m r t j = m.getD (j - t).toNat 0 := by
  unfold wd col
  rw [if_neg (by omega), if_pos (by omega)]
theorem win_getD {c : Int → Nat} {b : Int} {n i : Nat} (h : i < n) : (win c b n).getD i 0 = c (b + i) := by
  rw [List.getD_eq_getElem?_getD, win_at h]
  rfl
theorem made_wd {n l r : Nat} {res le m re : List Nat} {t : Int} (hl : 1 ≤ le.length) (hr : 1 ≤ re.length) (j : Int) :
    wd (win (img n l r res (wd le m re t)) (t - r - le.length) le.length) (win (img n l r res (wd le m re t)) (t - r) (m.length + l + r)) (win (img n l r res (wd le m re t)) (t + m.length + l) re.length) (t - r) j = img n l r res (wd le m re t) j := by
  by_cases c1 : j < t - r
  · rw [wd_left c1, win_len]
    have q0 := Int.emod_nonneg (j - (t - r)) (show (le.length : Int) ≠ 0 by omega)
    have q1 := Int.emod_lt_of_pos (j - (t - r)) (show (0 : Int) < (le.length : Int) by omega)
    rw [win_getD (by omega)]
    unfold img
    refine sem_congr fun i h1 h2 => ?_
    rw [wd_left (by omega), wd_left (by omega)]
    congr 2
    have e := Int.emod_add_mul_ediv (j - (t - r)) (le.length : Int)
    generalize (j - (t - r)) % (le.length : Int) = u at *
    generalize (j - (t - r)) / (le.length : Int) = v at *
    rw [show j + i - t = (t - r - le.length + ((u.toNat : Nat) : Int) + i - t) + le.length * (v + 1) by rw [Int.mul_add, Int.mul_one]; omega, Int.add_mul_emod_self_left]
  · by_cases c2 : j < t - r + (m.length + l + r : Nat)
    · rw [wd_mid (by omega) (by rw [win_len]; exact c2), win_getD (by omega)]
      congr 1
      omega
    · rw [wd_right (by rw [win_len]; omega), win_len, win_len]
      have q0 := Int.emod_nonneg (j - (t - r) - (m.length + l + r : Nat)) (show (re.length : Int) ≠ 0 by omega)
      have q1 := Int.emod_lt_of_pos (j - (t - r) - (m.length + l + r : Nat)) (show (0 : Int) < (re.length : Int) by omega)
      rw [win_getD (by omega)]
      unfold img
      refine sem_congr fun i h1 h2 => ?_
      rw [wd_right (by omega), wd_right (by omega)]
      congr 2
      have e := Int.emod_add_mul_ediv (j - (t - r) - (m.length + l + r : Nat)) (re.length : Int)
      generalize (j - (t - r) - (m.length + l + r : Nat)) % (re.length : Int) = u at *
      generalize (j - (t - r) - (m.length + l + r : Nat)) / (re.length : Int) = v at *
      rw [show j + i - t - m.length = (t + m.length + l + ((u.toNat : Nat) : Int) + i - t - m.length) + re.length * v by omega, Int.add_mul_emod_self_left]
theorem good_un {r c n m : Nat} (h : Good r c n) (g : Good r c m) : n = m := by
  have a := (good_sizeOf h).1
  rw [(good_sizeOf g).1] at a
  exact (Option.some.inj a).symm
def spCall (a : Ad) : Sp := fun vs H Q E => ∃ (p s e s2 : Addr) (R C n l r R2 C2 n2 : Nat) (res le m re : List Nat) (t : Int), vs = [.ref p, .ref e] ∧ BlockAt a H p s R C n l r res ∧ EndAt a H e s2 R2 C2 n2 le m re t ∧ m.length ≤ 80 ∧ -4000 ≤ t ∧ t ≤ 4000 ∧
  ((R = R2 ∧ C = C2) → ∀ G y l' m' r', Same H G → EndAt a G y s R C n l' m' r' (t - r) → l'.length = le.length → m'.length = m.length + l + r → r'.length = re.length → (∀ j, wd l' m' r' (t - r) j = img n l r res (wd le m re t) j) → Q (.ref y) G) ∧ (¬ (R = R2 ∧ C = C2) → RaZ E a.UnlikeSchemes H)
theorem c_Block___call__ (T : Txt K mg a) : CanF P w K mg base 6 a.Block "__call__" (spCall a) := by
  refine canF_of T.c_Block.cl T.m_Block___call__ sc_Block___call__ bd_Block___call__ (fun vs H Q E h => ?_) (fun f cdv A outer s0 H vs Q E hr h => ?_)
  · obtain ⟨p, s, e, s2, R, C, n, l, r, R2, C2, n2, res, le, m, re, t, rfl, _⟩ := h
    rfl
  · obtain ⟨p, s, e, s2, R, C, n, l, r, R2, C2, n2, res, le, m, re, t, rfl, bl, en, hm, t1, t2, z, zz⟩ := h
    refine ⟨_, (pss_cons (ps_expr (pc_fS (c_check_alike T) (takes_of rfl rfl rfl rfl) hr (by decide) (by rfl) (pa_cons (pv 0) (pa_cons (pv 1) pa_nil))))
      (pss_cons (ps_set (i := 2) sc_Block___call__.nd rfl (.inl rfl) (pe_op op_sub (kfld K (pv 1)) (kfld K (pv 0))))
      (pss_cons (ps_set (i := 3) sc_Block___call__.nd rfl (.inl rfl) (pe_op op_add (pe_op op_add (kfld K (pv 1)) (pe_callB call_len_str (by rfl) T.b_len (by decide +kernel) (pa_cons (kfld K (pv 1)) pa_nil))) (kfld K (pv 0))))
      (pss_cons (ps_set (i := 4) sc_Block___call__.nd rfl (.inl rfl) (pc_m (c_Block__made T) hr (by decide) (pv 0) (pa_cons (pv 1) (pa_cons (pe_op op_sub (pv 2) (pe_callB call_len_str (by rfl) T.b_len (by decide +kernel) (pa_cons (kfld K (pv 1)) pa_nil))) (pa_cons (pv 2) pa_nil)))))
      (pss_cons (ps_set (i := 5) sc_Block___call__.nd rfl (.inl rfl) (pc_m (c_Block__made T) hr (by decide) (pv 0) (pa_cons (pv 1) (pa_cons (pv 2) (pa_cons (pv 3) pa_nil)))))
      (pss_cons (ps_set (i := 6) sc_Block___call__.nd rfl (.inl rfl) (pc_m (c_Block__made T) hr (by decide) (pv 0) (pa_cons (pv 1) (pa_cons (pv 3) (pa_cons (pe_op op_add (pv 3) (pe_callB call_len_str (by rfl) T.b_len (by decide +kernel) (pa_cons (kfld K (pv 1)) pa_nil))) pa_nil)))))
      (pss_one (ps_ret (pc_nK (c_Endless_init T) hr (by decide) (by rfl) (pa_cons (kfld K (pv 0)) (pa_cons (pv 4) (pa_cons (pv 5) (pa_cons (pv 6) pa_nil)))) (pk_cons (pv 2) pk_nil)))))))))), ?_⟩
    obtain ⟨dx, q, hp, hq⟩ := bl.ob
    obtain ⟨de, he⟩ := en.ob
    have gn := good_n bl.sch.2
    have w9 := small_w gn.2.2.2.2 bl.wide
    have ok := en.ok
    have l6 := ok.l6
    have r6 := ok.r6
    have szL : (S le).length ≤ sizeLine := by rw [S_len]; exact szl (by omega)
    have szM : (S m).length ≤ sizeLine := by rw [S_len]; exact szl (by omega)
    have szR : (S re).length ≤ sizeLine := by rw [S_len]; exact szl (by omega)
    refine ⟨_, rfl, _, rfl, p, s, e, s2, R, C, n, R2, C2, n2, rfl, ⟨a.Block, dx, _, hp, T.c_Block.cl, T.w_scheme, fb_scheme s l r res q⟩, ⟨a.Endless, de, _, he, T.c_Endless.cl, T.n_scheme, fe_scheme s2 le m re t⟩, bl.sch, en.sch, ?_, fun c => zz c⟩
    rintro ⟨rfl, rfl⟩
    obtain rfl := good_un bl.sch.2 en.sch.2
    refine ⟨_, rfl, e, _, de, _, _, rfl, he, T.c_Endless.cl, T.n_start, fe_start s2 le m re t, _, rfl, p, _, dx, _, _, rfl, hp, T.c_Block.cl, T.w_right, fb_right s l r res q, _, _, rfl, rfl, ?_⟩
    refine ⟨_, rfl, e, _, de, _, _, rfl, he, T.c_Endless.cl, T.n_start, fe_start s2 le m re t, _, rfl, e, _, de, _, _, rfl, he, T.c_Endless.cl, T.n_middle, fe_middle s2 le m re t, _, rfl, szM, _, _, rfl, rfl, _, rfl, p, _, dx, _, _, rfl, hp, T.c_Block.cl, T.w_left, fb_left s l r res q, _, _, rfl, rfl, ?_⟩
    refine ⟨_, rfl, p, dx, _, rfl, hp, fb_no s l r res q (by decide +kernel), _, rfl, _, rfl, _, rfl, e, _, de, _, _, rfl, he, T.c_Endless.cl, T.n_left, fe_left s2 le m re t, _, rfl, szL, _, _, rfl, rfl, _, rfl, p, s, e, s2, R, C, n, l, r, res, le, m, re, t, t - r - le.length, le.length, ?_, bl, en, by omega, by omega, by omega, fun G1 k1 => ?_⟩
    · show [_, _, V.int (t - (r : Int) - ((S le).length : Int)), V.int (t - (r : Int))] = _
      rw [S_len, show t - (r : Int) - (le.length : Int) + (le.length : Int) = t - r by omega]
    refine ⟨_, rfl, p, dx, _, rfl, k1 _ _ hp, fb_no s l r res q (by decide +kernel), _, rfl, _, rfl, _, rfl, p, s, e, s2, R, C, n, l, r, res, le, m, re, t, t - r, m.length + l + r, ?_, bl.mono k1, en.mono k1, by omega, by omega, by omega, fun G2 k2 => ?_⟩
    · show [_, _, V.int (t - (r : Int)), V.int (t + ((S m).length : Int) + (l : Int))] = _
      rw [S_len, show t - (r : Int) + ((m.length + l + r : Nat) : Int) = t + m.length + l by omega]
    have k12 := k1.trans k2
    refine ⟨_, rfl, p, dx, _, rfl, k12 _ _ hp, fb_no s l r res q (by decide +kernel), _, rfl, _, rfl, _, rfl, _, rfl, e, _, de, _, _, rfl, k12 _ _ he, T.c_Endless.cl, T.n_right, fe_right s2 le m re t, _, rfl, szR, _, _, rfl, rfl, p, s, e, s2, R, C, n, l, r, res, le, m, re, t, t + m.length + l, re.length, ?_, bl.mono k12, en.mono k12, by omega, by omega, by omega, fun G3 k3 => ?_⟩
    · show [_, _, V.int (t + ((S m).length : Int) + (l : Int)), V.int (t + ((S m).length : Int) + (l : Int) + ((S re).length : Int))] = _
      rw [S_len, S_len]
    have k13 := k12.trans k3
    have wok : Ok n (img n l r res (wd le m re t)) := img_ok bl.tab (wd_ok ok)
    have po : PartOk n (win (img n l r res (wd le m re t)) (t - r - le.length) le.length) (win (img n l r res (wd le m re t)) (t - r) (m.length + l + r)) (win (img n l r res (wd le m re t)) (t + m.length + l) re.length) (t - r) :=
      ⟨win_ok wok _ _, win_ok wok _ _, win_ok wok _ _, by rw [win_len]; exact ok.l0, by rw [win_len]; exact ok.l6, by rw [win_len]; exact ok.r0, by rw [win_len]; exact ok.r6, by rw [win_len]; omega, by omega, by omega⟩
    refine ⟨_, rfl, p, _, dx, _, _, rfl, k13 _ _ hp, T.c_Block.cl, T.w_scheme, fb_scheme s l r res q, _, rfl, _, rfl, _, rfl, _, rfl, rfl, rfl, fun y d hy hd ne => init_end (bl.sch.mono k13) po hy hd ne fun G k en' => ?_⟩
    exact z ⟨rfl, rfl⟩ G y _ _ _ (k13.trans k) en' (by rw [win_len]) (by rw [win_len]) (by rw [win_len]) fun j => made_wd ok.l0 ok.r0 j
def spInt : Sp := fun vs H Q _ => ∃ i : Int, vs = [.int i] ∧ Q (.bl true) H
theorem c_law_is_integer (T : Txt K mg a) : Can P w K mg base 1 "_law_is_integer" spInt := by
  refine can_of T.d_law_is_integer sc_law_is_integer bd_law_is_integer (fun vs H Q E h => ?_) (fun f cdv A outer s0 H vs Q E hr h => ?_)
  · obtain ⟨i, rfl, _⟩ := h
    rfl
  · obtain ⟨i, rfl, z⟩ := h
    refine ⟨_, (pss_one (ps_ret (pe_and (pe_callB (kisi K) (by rfl) T.b_isinstance (by decide +kernel) (pa_cons (pv 0) (pa_cons (pe_bltn (v := .ty "int") (by rfl) T.b_int (by decide +kernel) rfl) pa_nil))) (pe_one (pe_not (pe_callB (kisi K) (by rfl) T.b_isinstance (by decide +kernel) (pa_cons (pv 0) (pa_cons (pe_bltn (v := .ty "bool") (by rfl) T.b_bool (by decide +kernel) rfl) pa_nil)))))))), ?_⟩
    exact ⟨_, rfl, _, _, _, _, true, rfl, .ty _, .base (.int i), by rfl, _, rfl, iteT ⟨_, rfl, _, _, _, _, false, rfl, .ty _, .base (.int i), by rfl, _, rfl, z⟩⟩
def spWins : Sp := fun vs H Q _ => ∃ n m : Nat, vs = [tx (cols n), .int m] ∧ 2 ≤ n ∧ n ≤ 9 ∧ n ^ m ≤ 729 ∧ ∀ G q, Same H G → H q = none → G q = some (.lst ((words n m).map tx)) → Q (.ref q) G
theorem c_law_windows (T : Txt K mg a) : Can P w K mg base 1 "_law_windows" spWins := by
  refine can_of T.d_law_windows sc_law_windows bd_law_windows (fun vs H Q E h => ?_) (fun f cdv A outer s0 H vs Q E hr h => ?_)
  · obtain ⟨n, m, rfl, _⟩ := h
    rfl
  · obtain ⟨n, m, rfl, n2, n9, hm, z⟩ := h
    refine ⟨_, (pss_cons (ps_set (i := 2) sc_law_windows.nd rfl (.inl rfl) (pe_lst (pa_cons pe_str pa_nil)))
      (pss_cons (ps_for (passes_of rfl) (by rfl) (pi_range1 (by rfl) T.b_range (pa_cons (pv 1) pa_nil)) (pg_name (i := 3) sc_law_windows.nd rfl (.inl rfl)) (pss_cons (ps_set (i := 4) sc_law_windows.nd rfl (.inl rfl) (pe_lst pa_nil))
      (pss_cons (ps_for (passes_of rfl) (by rfl) (kpi_list K (pv 2)) (pg_name (i := 5) sc_law_windows.nd rfl (.inl rfl)) (pss_one (ps_for (passes_of rfl) (by rfl) (pi_str (pv 0)) (pg_name (i := 6) sc_law_windows.nd rfl (.inl rfl)) (pss_one (ps_expr (pe_bm PySem.F.plainAttrs_list PySem.F.slot_list_append PySem.F.type_list_append mt_append (pv 4) (pa_cons (pe_op op_add_str (pv 5) (pv 6)) pa_nil)))))))
      (pss_one (ps_set (i := 2) sc_law_windows.nd rfl (.inl rfl) (pv 4))))))
      (pss_one (ps_ret (pv 2))))), ?_⟩
    have m9 := small_w n2 hm
    rw [lit_e]
    refine ⟨by show 1 ≤ sizeLine; decide, fun q0 hq0 => ?_⟩
    have k0 := ex_new (o := .lst [tx []]) hq0
    refine ⟨_, rfl, m, rfl, by omega, by omega, for_it (walk_range (lo := 0) (n := ((m : Nat) : Int).toNat)) (fun i σ G => Same H G ∧ ∃ (q : Addr) (x3 x4 x5 x6 : Option V), H q = none ∧ G q = some (.lst ((words n i).map tx)) ∧ σ = [some (tx (cols n)), some (.int (m : Nat)), some (.ref q), x3, x4, x5, x6]) ⟨k0, q0, none, none, none, none, hq0, by rw [words_zero]; exact upd_same, rfl⟩ (fun _ _ _ _ _ => True.intro) ?_ ?_⟩
    · rintro i x σ G' G hi' ⟨k1, q, x3, x4, x5, x6, hq, hG, rfl⟩ ⟨rfl, rfl⟩
      have hi' : i < m := hi'
      have pw : n ^ (i + 1) ≤ 729 := Nat.le_trans (Nat.pow_le_pow_right (by omega) (by omega)) hm
      have lw := words_len n i
      refine ⟨by show 0 ≤ sizeLine; decide, fun D hD => ?_⟩
      have nD : D ≠ q := fun e => by rw [e, hG] at hD; cases hD
      have fD : H D = none := free_same k1 hD
      have hG2 : upd G D (.lst []) q = some (.lst ((words n i).map tx)) := by rw [upd_ne (Ne.symm nD)]; exact hG
      refine ⟨_, rfl, q, rfl, ⟨_, seqL_of hG2⟩, for_it (walk_list (xs := (words n i).map tx)) (fun j σ M => Same G M ∧ ∃ (ys : List (List Nat)) (x5 x6 : Option V), ys = ((words n i).take j).flatMap (exts n) ∧ ys.length = j * n ∧ M D = some (.lst (ys.map tx)) ∧ σ = [some (tx (cols n)), some (.int (m : Nat)), some (.ref q), some (.int (0 + (i : Nat))), some (.ref D), x5, x6]) ⟨ex_new hD, [], x5, x6, rfl, by rw [Nat.zero_mul]; rfl, upd_same, rfl⟩ (fun j σ M _ h => seqL_of (h.1 _ _ hG)) ?_ ?_⟩
      · rintro j x σ M' M hj ⟨k2, ys, y5, y6, hys, lys, hM, rfl⟩ ⟨rfl, hx⟩
        rw [List.length_map] at hj
        have hm' := List.getElem?_eq_getElem hj
        rw [List.getElem?_map, hm'] at hx
        cases hx
        generalize hu : (words n i)[j] = u at hm'
        have lu : u.length = i := by
          rw [words_at (by rw [← lw]; exact hj)] at hm'
          cases hm'
          exact wdig_len n i j
        have hjn : (j + 1) * n ≤ 729 := by
          rw [Nat.pow_succ] at pw
          exact Nat.le_trans (Nat.mul_le_mul_right _ (by omega)) pw
        rw [Nat.add_mul, Nat.one_mul] at hjn
        refine ⟨_, rfl, _, rfl, for_it walk_str (fun t σ M' => Same G M' ∧ M' D = some (.lst ((ys ++ (exts n u).take t).map tx)) ∧ ∃ x6, σ = [some (tx (cols n)), some (.int (m : Nat)), some (.ref q), some (.int (0 + (i : Nat))), some (.ref D), some (tx u), x6]) ⟨k2, by rw [List.take_zero, List.append_nil]; exact hM, y6, rfl⟩ (fun _ _ _ _ _ => True.intro) ?_ ?_⟩
        · rintro t c σ M1' M1 ht ⟨k3, hM1, z6, rfl⟩ ⟨rfl, c', hc, rfl⟩
          have hc := at_S hc
          have ht : t < (S (cols n)).length := ht
          rw [cols_ln] at ht
          refine ⟨_, rfl, .inl ⟨rfl, _, seqL_of hM1⟩, _, rfl, _, rfl, _, _, rfl, rfl, by rw [S_len, lu]; exact szl (by show i + 1 ≤ _; omega), D, _, _, rfl, rfl, hM1, ?_, ?_⟩
          · rw [List.length_map, List.length_append, lys, List.length_take]
            exact szlt (by omega)
          · refine ⟨ex_mut k3 hD, ?_, _, rfl⟩
            rw [upd_same, exts_take hc, ← List.append_assoc, List.map_append (l₁ := ys ++ _)]
            exact congrArg some (congrArg HO.lst (congrArg _ (congrArg (fun x => [V.str x]) (S_app _ _))))
        · rintro σ M1 ⟨k3, hM1, z6, rfl⟩
          have e : (exts n u).take (S (cols n)).length = exts n u := List.take_of_length_le (by rw [exts_len, cols_ln]; exact Nat.le_refl _)
          have hM1 : M1 D = some (.lst ((ys ++ (exts n u).take (S (cols n)).length).map tx)) := hM1
          rw [e] at hM1
          exact ⟨k3, ys ++ exts n u, _, _, by rw [exts_step hm', ← hys], by rw [List.length_append, lys, exts_len, Nat.add_mul, Nat.one_mul], hM1, rfl⟩
      · rintro σ M ⟨k2, ys, y5, y6, hys, lys, hM, rfl⟩
        have e : (words n i).take ((words n i).map tx).length = words n i := List.take_of_length_le (by rw [List.length_map]; exact Nat.le_refl _)
        rw [e] at hys
        refine ⟨_, rfl, k1.trans k2, D, _, _, _, _, fD, ?_, rfl⟩
        rw [words_succ (by omega), show (words n i).flatMap (fun u => (cols n).map fun c => u ++ [c]) = ys from hys.symm]
        exact hM
    · rintro σ G ⟨k1, q, x3, x4, x5, x6, hq, hG, rfl⟩
      exact ⟨_, rfl, z G q k1 hq hG⟩
theorem seq_ix {d : Int} {m : Nat} (h0 : 0 ≤ d) (h1 : d < m) : seqIndex? d m = some d.toNat := by
  have h2 : ¬ d < 0 := by omega
  unfold seqIndex?
  simp [h2, h0, h1]
theorem erase_map {α β : Type} (f : α → β) : ∀ (l : List α) (k : Nat), (l.map f).eraseIdx k = (l.eraseIdx k).map f
  | [], _ => rfl
  | _ :: _, 0 => rfl
  | x :: l, k + 1 => congrArg (f x :: ·) (erase_map f l k)
def spTable : Sp := fun vs H Q _ => ∃ (n m : Nat) (res : List Nat), vs = [tx (cols n), .int m, tx res] ∧ 2 ≤ n ∧ n ≤ 9 ∧ n ^ m ≤ 729 ∧ res.length = n ^ m ∧ ∀ G D, Same H G → H D = none → G D = some (.dK (newsL n m res)) → Q (.ref D) G
theorem c_law_table (T : Txt K mg a) : Can P w K mg base 2 "_law_table" spTable := by
  refine can_of T.d_law_table sc_law_table bd_law_table (fun vs H Q E h => ?_) (fun f cdv A outer s0 H vs Q E hr h => ?_)
  · obtain ⟨n, m, res, rfl, _⟩ := h
    rfl
  · obtain ⟨n, m, res, rfl, n2, n9, hm, hl, z⟩ := h
    refine ⟨_, (pss_cons (ps_set (i := 3) sc_law_table.nd rfl (.inl rfl) pe_dnewK)
      (pss_cons (ps_set (i := 4) sc_law_table.nd rfl (.inl rfl) pe_int)
      (pss_cons (ps_for (passes_of rfl) (by rfl) (kpi_list K (pc_f (c_law_windows T) hr (by decide) (by rfl) (pa_cons (pv 0) (pa_cons (pv 1) pa_nil)))) (pg_name (i := 5) sc_law_table.nd rfl (.inl rfl)) (pss_cons (ps_asg (pe_ix ix_str (pv 2) (pv 4) (fun _ _ => rfl)) (pg_sub (pv 3) (pv 5) (set_dict (units1 hr))))
      (pss_one (ps_set (i := 4) sc_law_table.nd rfl (.inl rfl) (pe_op op_add (pv 4) pe_int)))))
      (pss_one (ps_ret (pv 3)))))), ?_⟩
    have sz : (S res).length ≤ sizeLine := by rw [S_len]; exact szl (by omega)
    show ∀ D, H D = none → _
    intro D hD
    refine ⟨_, rfl, _, rfl, n, m, rfl, n2, n9, hm, fun G q k1 hq hG => ?_⟩
    have nD : q ≠ D := fun e => by rw [e, upd_same] at hq; cases hq
    have kH : Same H G := (ex_new hD).trans k1
    refine ⟨q, rfl, ⟨_, seqL_of hG⟩, for_it (walk_list (xs := (words n m).map tx)) (fun j σ M => Same H M ∧ M q = some (.lst ((words n m).map tx)) ∧ M D = some (.dK ((newsL n m res).take j)) ∧ ∃ x5, σ = [some (tx (cols n)), some (.int (m : Nat)), some (tx res), some (.ref D), some (.int (j : Nat)), x5]) ⟨kH, hG, by rw [List.take_zero]; exact k1 _ _ upd_same, none, rfl⟩ (fun j σ M _ h => seqL_of h.2.1) ?_ ?_⟩
    · rintro j x σ M' M hj ⟨k2, hq2, hM, x5, rfl⟩ ⟨rfl, hx⟩
      rw [List.length_map, words_len] at hj
      rw [List.getElem?_map, words_at hj] at hx
      cases hx
      refine ⟨_, rfl, _, rfl, _, _, res.getD j 0, rfl, rfl, sz, at_getD (by omega), ?_⟩
      refine ⟨_, rfl, _, rfl, D, _, rfl, DPut.k (k := Sum.inr (S (wdig n m j))) hM (by rw [List.length_take]; exact szlt (by omega)), ?_⟩
      refine ⟨_, rfl, _, _, rfl, rfl, ex_mut k2 hD, by rw [upd_ne nD]; exact hq2, ?_, _, rfl⟩
      rw [upd_same]
      unfold newsL
      show some (HO.dK (putK _ _ (tx [res.getD j 0]))) = _
      rw [put_take (by rw [keysW_len, List.length_map, hl]; exact Nat.le_refl _) (keysW_nd m) (k := Sum.inr (S (wdig n m j))) (v := tx [res.getD j 0])]
      · unfold keysW
        rw [List.getElem?_map, words_at hj]
        rfl
      · rw [List.getElem?_map, getD_at (by omega)]
        rfl
    · rintro σ M ⟨k2, hq2, hM, x5, rfl⟩
      refine ⟨_, rfl, z M D k2 hD ?_⟩
      rw [hM]
      have : (newsL n m res).length ≤ ((words n m).map tx).length := by
        unfold newsL
        rw [List.length_zip, keysW_len, List.length_map, List.length_map, words_len]
        exact Nat.min_le_left _ _
      rw [List.take_of_length_le this]
def spShuf : Sp := fun vs H Q _ => ∃ (p : Addr) (N k : Nat), vs = [.ref p, tx (cols N)] ∧ BoxAt (k + N) H p ∧ 2 ≤ N ∧ N ≤ 9 ∧ ∀ G l, Bu k p H G → l.length = N → isStrip N l = true → Q (tx l) G
theorem c_law_shuffled (T : Txt K mg a) : Can P w K mg base 2 "_law_shuffled" spShuf := by
  refine can_of T.d_law_shuffled sc_law_shuffled bd_law_shuffled (fun vs H Q E h => ?_) (fun f cdv A outer s0 H vs Q E hr h => ?_)
  · obtain ⟨p, N, k, rfl, _⟩ := h
    rfl
  · obtain ⟨p, N, k, rfl, hb, N2, N9, z⟩ := h
    refine ⟨_, (pss_cons (ps_set (i := 2) sc_law_shuffled.nd rfl (.inl rfl) (pe_callTy (listS (by rfl)) (by rfl) T.b_list (by decide +kernel) (pa_cons (pv 1) pa_nil)))
      (pss_cons (ps_set (i := 3) sc_law_shuffled.nd rfl (.inl rfl) pe_str)
      (pss_cons (ps_for (passes_of rfl) (by rfl) (pi_range1 (by rfl) T.b_range (pa_cons (pe_op op_sub (pe_callB call_len_str (by rfl) T.b_len (by decide +kernel) (pa_cons (pv 1) pa_nil)) pe_int) pa_nil)) (pg_name (i := 4) sc_law_shuffled.nd rfl (.inl rfl)) (pss_one (ps_set (i := 3) sc_law_shuffled.nd rfl (.inl rfl) (pe_op op_add_str (pv 3) (pe_bm PySem.F.plainAttrs_list PySem.F.slot_list_pop PySem.F.type_list_pop mt_popAt (pv 2) (pa_cons (pc_f (c_law_draw T) hr (by decide) (by rfl) (pa_cons (pv 0) (pa_cons (pe_callB (klen_seq K) (by rfl) T.b_len (by decide +kernel) (pa_cons (pv 2) pa_nil)) pa_nil))) pa_nil))))))
      (pss_one (ps_ret (pe_op op_add_str (pv 3) (pe_ix (kix_list K) (pv 2) pe_int (fun _ _ => rfl)))))))), ?_⟩
    rw [lit_e]
    have cl := cols_len N
    have ec : ((S (cols N)).length : Int) = (N : Int) := by rw [cols_ln]
    have szc : (S (cols N)).length ≤ sizeLine := by rw [cols_ln]; exact szl (by omega)
    refine ⟨_, rfl, cols N, rfl, by omega, fun D hD => ?_⟩
    have neD : D ≠ p := box_ne hb hD
    have k0 : Same H (upd H D (.lst ((cols N).map fun x => tx [x]))) := ex_new hD
    refine ⟨_, rfl, _, rfl, szc, _, _, rfl, rfl, ?_⟩
    refine ⟨((N - 1 : Nat) : Int), by show [V.int (((S (cols N)).length : Int) - 1)] = _; rw [ec]; exact congrArg (fun i => [V.int i]) (by omega), by omega, by omega, for_it (walk_range (lo := 0) (n := ((N - 1 : Nat) : Int).toNat)) (fun i σ G => Bu (k + (N - i)) p H G ∧ ∃ (rs row : List Nat) (x4 : Option V), G D = some (.lst (rs.map fun c => tx [c])) ∧ rs.length = N - i ∧ (∀ c ∈ rs, inCol N c = true) ∧ row.length = i ∧ isStrip N row = true ∧ σ = [some (.ref p), some (tx (cols N)), some (.ref D), some (tx row), x4]) ⟨same_bu k0 (Bu.refl (hb.mono k0)), cols N, [], none, upd_same, cl, fun c hc => List.all_eq_true.mp (tab_id (by omega)).ok c hc, rfl, rfl, rfl⟩ (fun _ _ _ _ _ => True.intro) ?_ ?_⟩
    · rintro i x σ G' G hi ⟨bu, rs, row, x4, hG, lr, hr2, lrow, srow, rfl⟩ ⟨rfl, rfl⟩
      have hi : i < N - 1 := hi
      refine ⟨_, rfl, _, rfl, .inl ⟨rfl, _, seqL_of hG⟩, _, rfl, _, rfl, D, _, rfl, .inl (seqL_of hG), ?_⟩
      rw [List.length_map, lr]
      refine ⟨p, ((N - i : Nat) : Int), k + (N - (i + 1)), rfl, bu.box.le (by omega), by omega, by omega, fun d G2 d0 d1 bu2 => ?_⟩
      have hd : d.toNat < rs.length := by omega
      refine ⟨D, _, d, d.toNat, tx [rs[d.toNat]], rfl, rfl, bu2.1 _ _ hG neD, by omega, by omega, seq_ix d0 (by rw [List.length_map]; omega), by rw [List.getElem?_map, List.getElem?_eq_getElem hd]; rfl, ?_⟩
      have lr' : (rs.eraseIdx d.toNat).length = N - (i + 1) := by rw [List.length_eraseIdx_of_lt hd]; omega
      have hc : inCol N rs[d.toNat] = true := hr2 _ (List.getElem_mem _)
      refine ⟨_, _, rfl, rfl, by rw [S_len, S_len]; exact szl (by show row.length + 1 ≤ _; omega), ?_⟩
      refine ⟨(bu.trans bu2).put hb hD, rs.eraseIdx d.toNat, row ++ [rs[d.toNat]], some (.int (0 + (i : Nat))), ?_, lr', fun c h => hr2 c (List.mem_of_mem_eraseIdx h), by rw [List.length_append, lrow]; rfl, strip_app srow (strip_one hc), ?_⟩
      · rw [upd_same, erase_map]
      · show [_, _, _, some (V.str (S row ++ S [rs[d.toNat]])), _] = _
        rw [S_app]
    · rintro σ G ⟨bu, rs, row, x4, hG, lr, hr2, lrow, srow, rfl⟩
      have l1 : rs.length = 1 := by rw [lr]; show N - (N - 1) = 1; omega
      obtain ⟨c, rfl⟩ := List.length_eq_one_iff.mp l1
      have lrow : row.length = N - 1 := lrow
      have bu := bu.le (show k ≤ k + (N - (N - 1)) by omega)
      refine ⟨_, rfl, _, rfl, D, _, 0, tx [c], rfl, rfl, seqL_of hG, rfl, _, _, rfl, rfl, by rw [S_len, S_len]; exact szl (by show row.length + 1 ≤ _; omega), ?_⟩
      rw [S_app]
      exact z G (row ++ [c]) bu (by rw [List.length_append, lrow]; show N - 1 + 1 = N; omega) (strip_app srow (strip_one (hr2 c (.head _))))
theorem join_flat : ∀ ls : List (List Nat), Txt.join (S []) (ls.map S) = S ls.flatten
  | [] => rfl
  | [x] => by
    show S x = S (x ++ [])
    rw [List.append_nil]
  | x :: y :: l => by
    have e := join_flat (y :: l)
    have z : Txt.join (S []) ((x :: y :: l).map S) = S x ++ S [] ++ Txt.join (S []) ((y :: l).map S) := by
      rw [join_eq, join_eq]
      rfl
    rw [z, e, S_app, S_app, List.append_nil]
    rfl
theorem sum_flat (ls : List (List Nat)) : ((ls.map S).map (·.length)).sum = ls.flatten.length := by
  rw [List.length_flatten, List.map_map]
  exact congrArg List.sum (List.map_congr_left fun l _ => S_len l)
theorem flat_len {N : Nat} : ∀ {ls : List (List Nat)}, (∀ l ∈ ls, l.length = N) → ls.flatten.length = ls.length * N
  | [], _ => by
    show 0 = 0 * N
    rw [Nat.zero_mul]
  | x :: l, h => by
    rw [List.flatten_cons, List.length_append, h x (.head _), flat_len fun y hy => h y (.tail _ hy), List.length_cons, Nat.add_mul, Nat.one_mul, Nat.add_comm]
theorem flat_strip {N : Nat} : ∀ {ls : List (List Nat)}, (∀ l ∈ ls, isStrip N l = true) → isStrip N ls.flatten = true
  | [], _ => rfl
  | x :: l, h => by
    rw [List.flatten_cons]
    exact strip_app (h x (.head _)) (flat_strip fun y hy => h y (.tail _ hy))
theorem pow_pred {n m : Nat} (h : 1 ≤ m) : n ^ (m - 1) * n = n ^ m := by
  rw [← Nat.pow_succ]
  congr 1
  omega
theorem cols_getD {n k : Nat} (h : k < n) : (cols n).getD k 0 = 97 + k := by
  unfold cols
  rw [List.getD_eq_getElem?_getD, List.getElem?_map, List.getElem?_range h]
  rfl
def spPerm : Sp := fun vs H Q _ => ∃ (p : Addr) (N m k : Nat) (kind : Int), vs = [.ref p, tx (cols N), .int m, .int kind] ∧ BoxAt (k + 2000) H p ∧ 2 ≤ N ∧ N ≤ 9 ∧ 1 ≤ m ∧ N ^ m ≤ 729 ∧ ∀ G l, Bu k p H G → l.length = N ^ m → isStrip N l = true → Q (tx l) G
theorem c_law_permuted (T : Txt K mg a) : Can P w K mg base 3 "_law_permuted" spPerm := by
  refine can_of T.d_law_permuted sc_law_permuted bd_law_permuted (fun vs H Q E h => ?_) (fun f cdv A outer s0 H vs Q E hr h => ?_)
  · obtain ⟨p, N, m, k, kind, rfl, _⟩ := h
    rfl
  · obtain ⟨p, N, m, k, kind, rfl, hb, N2, N9, m1, hm, z⟩ := h
    refine ⟨_, (pss_cons (ps_set (i := 4) sc_law_permuted.nd rfl (.inr rfl) (pe_lc (own := [("prefix", 5)]) (g := gName 5) (tt := tYes) (by rfl) sc_law_permuted.nd (kpi_list K (pc_f (c_law_windows T) hr (by decide) (by rfl) (pa_cons (pv 1) (pa_cons (pe_op op_sub (pv 2) pe_int) pa_nil)))) (blkOk_by (N := N_law_permuted) (sc := defScope s_law_permuted) (by decide +kernel)) (fun _ _ _ _ _ => (pg_name (i := 5) sc_law_permuted.nd rfl (.inl rfl))) (fun _ _ _ _ _ => pts_nil) (fun _ _ _ _ _ => (pc_f (c_law_shuffled T) hr (by decide) (by rfl) (pa_cons (pv 0) (pa_cons (pv 1) pa_nil))))))
      (pss_cons (ps_set (i := 6) sc_law_permuted.nd rfl (.inr rfl) (pe_callB (klen_seq K) (by rfl) T.b_len (by decide +kernel) (pa_cons (pv 4) pa_nil)))
      (pss_cons (ps_if (pt_cmpR op_eq (pv 3) pe_int (nomark _)) (pss_one (ps_ret (kjoin K pe_str (pe_lc (own := [("k", 7)]) (g := gName 7) (tt := tYes) (by rfl) sc_law_permuted.nd (pi_range1 (by rfl) T.b_range (pa_cons (pe_op op_mul (pv 6) (pe_callB call_len_str (by rfl) T.b_len (by decide +kernel) (pa_cons (pv 1) pa_nil))) pa_nil)) (blkOk_by (N := N_law_permuted) (sc := defScope s_law_permuted) (by decide +kernel)) (fun _ _ _ _ _ => (pg_name (i := 7) sc_law_permuted.nd rfl (.inl rfl))) (fun _ _ _ _ _ => pts_nil) (fun _ _ _ _ _ => (pe_ix ix_str (pe_ix (kix_list K) (pv 4) (pe_op op_modN (pe_callTy call_int1 (by rfl) T.b_int (by decide +kernel) (pa_cons (pv 7) pa_nil)) (pv 6)) (fun _ _ => rfl)) (pe_op op_fdivN (pv 7) (pv 6)) (fun _ _ => rfl))))))) pss_nil)
      (pss_cons (ps_set (i := 8) sc_law_permuted.nd rfl (.inl rfl) (kjoin K pe_str (pv 4)))
      (pss_cons (ps_if (pt_cmpR op_eq (pv 3) pe_int (nomark _)) (pss_cons (ps_set (i := 9) sc_law_permuted.nd rfl (.inl rfl) (pc_f (c_law_draw T) hr (by decide) (by rfl) (pa_cons (pv 0) (pa_cons (pe_callB call_len_str (by rfl) T.b_len (by decide +kernel) (pa_cons (pv 8) pa_nil)) pa_nil))))
      (pss_one (ps_set (i := 8) sc_law_permuted.nd rfl (.inl rfl) (pe_op op_add_str (pe_op op_add_str (pe_slice sl_str (pv 8) po_none (po_some (pv 9))) (pe_ix ix_str (pv 1) (pc_f (c_law_draw T) hr (by decide) (by rfl) (pa_cons (pv 0) (pa_cons (pe_callB call_len_str (by rfl) T.b_len (by decide +kernel) (pa_cons (pv 1) pa_nil)) pa_nil))) (fun _ _ => rfl))) (pe_slice sl_str (pv 8) (po_some (pe_op op_add (pv 9) pe_int)) po_none))))) pss_nil)
      (pss_one (ps_ret (pv 8)))))))), ?_⟩
    rw [lit_e]
    have pp := pow_pred (n := N) m1
    have hm1 : N ^ (m - 1) * 2 ≤ N ^ (m - 1) * N := Nat.mul_le_mul_left _ N2
    have hmm : N ^ (m - 1) ≤ 729 := by omega
    have hpos : 0 < N ^ (m - 1) := Nat.pow_pos (by omega)
    have szc : (S (cols N)).length ≤ sizeLine := by rw [cols_ln]; exact szl (by omega)
    have e1 : ((m : Int) - 1) = ((m - 1 : Nat) : Int) := by omega
    generalize hM : N ^ (m - 1) = M at *
    refine ⟨_, rfl, _, rfl, _, _, rfl, rfl, N, m - 1, by show [_, V.int ((m : Int) - 1)] = _; rw [e1], N2, N9, by omega, fun G1 q k1 hq hG1 => ?_⟩
    have neq : q ≠ p := box_ne hb hq
    have lw : ((words N (m - 1)).map tx).length = M := by rw [List.length_map, words_len, hM]
    refine ⟨q, rfl, ⟨_, seqL_of hG1⟩, fun D hD => ?_⟩
    have hD0 : H D = none := free_same k1 hD
    have neD : D ≠ p := box_ne hb hD0
    have nqD : q ≠ D := fun e => by rw [← e, hG1] at hD; cases hD
    refine lc_it (walk_list (xs := (words N (m - 1)).map tx)) (fun i G => i ≤ M ∧ Bu (k + 2000 - i * N) p H G ∧ G q = some (.lst ((words N (m - 1)).map tx)) ∧ ∃ ls : List (List Nat), ls.length = i ∧ (∀ l ∈ ls, l.length = N ∧ isStrip N l = true) ∧ G D = some (.lst (ls.map tx))) ⟨Nat.zero_le _, ?_, ?_, [], rfl, nofun, upd_same⟩ (fun i G _ h => seqL_of h.2.2.1) ?_ ?_
    · rw [Nat.zero_mul]
      exact same_bu (k1.trans (ex_new hD)) (Bu.refl (hb.mono (k1.trans (ex_new hD))))
    · rw [upd_ne nqD]
      exact hG1
    · rintro i x G G' hi ⟨hiM, bu, hGq, ls, hls, hok, hG⟩ ⟨rfl, hx⟩
      rw [lw] at hi
      have hiN : (i + 1) * N ≤ M * N := Nat.mul_le_mul_right _ hi
      rw [Nat.add_mul, Nat.one_mul] at hiN
      refine ⟨rfl, yesT (iteT ⟨_, rfl, _, rfl, p, N, k + 2000 - (i + 1) * N, rfl, bu.box.le (by rw [Nat.add_mul, Nat.one_mul]; omega), N2, N9, fun G2 l bu2 ll sl => ⟨_, bu2.1 _ _ hG neD, by rw [List.length_map]; exact szlt (by omega), hi, (bu.trans bu2).put hb hD0, by rw [upd_ne nqD]; exact bu2.1 _ _ hGq neq, ls ++ [l], by rw [List.length_append, hls]; rfl, ?_, ?_⟩⟩)⟩
      · intro y hy
        rcases List.mem_append.mp hy with h | h
        · exact hok y h
        · rw [List.mem_singleton.mp h]
          exact ⟨ll, sl⟩
      · rw [upd_same, List.map_append]
        rfl
    · rintro G ⟨_, bu, hGq, ls, hls, hok, hG⟩
      rw [lw] at hls bu
      have fl := flat_len fun l h => (hok l h).1
      have fs := flat_strip fun l h => (hok l h).2
      rw [hls] at fl
      refine ⟨_, rfl, D, _, rfl, .inl (seqL_of hG), ?_⟩
      rw [List.length_map, hls]
      refine ⟨_, rfl, rfl, _, rfl, ite2 (fun _ => ?_) (fun _ => ?_)⟩
      · refine ⟨⟨_, rfl⟩, _, rfl, _, rfl, _, rfl, szc, ?_⟩
        rw [cols_ln]
        refine ⟨_, _, rfl, rfl, .inr ⟨by omega, by omega⟩, ((M * N : Nat) : Int), by rw [Int.natCast_mul], by omega, by omega, fun D2 hD2 => lc_one (walk_range (lo := 0) (n := ((M * N : Nat) : Int).toNat)) (((List.range (M * N)).map fun t => (ls.getD (t % M) []).getD (t / M) 0).map fun x => tx [x]) (by rw [List.length_map, List.length_map, List.length_range]; rfl) (by show M * N ≤ _; omega) hD2 (fun _ _ => True.intro) ?_ ?_⟩
        · rintro t x G1 G2 v ht s1 ⟨rfl, rfl⟩ hv
          have ht : t < M * N := ht
          rw [List.getElem?_map, List.getElem?_map, List.getElem?_range ht] at hv
          cases hv
          have e0 : (0 : Int) + (t : Int) = (t : Int) := by omega
          have h1 : t % M < ls.length := by rw [hls]; exact Nat.mod_lt _ hpos
          have h2 : t / M < N := Nat.div_lt_of_lt_mul ht
          have hx := getD_lst (List.getElem?_eq_getElem h1)
          have hl := hok _ (List.getElem_mem h1)
          rw [← hx] at hl
          refine ⟨.refl _, fun Q' kk => ⟨_, rfl, _, rfl, .inl ⟨_, rfl, _, rfl, _, _, rfl, rfl, (by show ((M : Nat) : Int) ≠ 0; omega), D, _, _, tx (ls.getD (t % M) []), rfl, rfl, seqL_of (s1 _ _ hG), ?_, _, rfl, _, rfl, _, _, rfl, rfl, ⟨by omega, by omega⟩, _, _, (ls.getD (t % M) []).getD (t / M) 0, rfl, rfl, by rw [S_len, hl.1]; exact szl (by omega), ?_, kk _ (.refl _)⟩⟩⟩
          · rw [e0, fm]
            exact atI_nat (by rw [List.getElem?_map, List.getElem?_eq_getElem h1, hx]; rfl)
          · rw [e0, fd]
            exact at_getD (by rw [hl.1]; exact h2)
        · intro G1 s1 hG1'
          refine ⟨_, _, ((List.range (M * N)).map fun t => (ls.getD (t % M) []).getD (t / M) 0).map fun y => S [y], rfl, rfl, .inl (seqL_of (by rw [List.map_map]; exact hG1')), ?_, ?_⟩
          · rw [sum_ones, List.length_map, List.length_map, List.length_map, List.length_range, S_len]
            exact szl (by show _ + _ * 0 ≤ _; omega)
          · rw [join_ones]
            refine z G1 _ ((bu.le (by omega)).same s1) (by rw [List.length_map, List.length_range, pp]) (List.all_eq_true.mpr fun c hc => ?_)
            obtain ⟨t, ht, rfl⟩ := List.mem_map.mp hc
            have ht := List.mem_range.mp ht
            have h1 : t % M < ls.length := by rw [hls]; exact Nat.mod_lt _ hpos
            have h2 : t / M < N := Nat.div_lt_of_lt_mul ht
            have hx := getD_lst (List.getElem?_eq_getElem h1)
            have hl := hok _ (List.getElem_mem h1)
            rw [← hx] at hl
            exact strip_getD hl.2 (by rw [hl.1]; exact h2)
      · have szt : (S ls.flatten).length ≤ sizeLine := by rw [S_len, fl]; exact szl (by omega)
        refine ⟨⟨_, rfl⟩, _, rfl, _, _, ls.map S, rfl, rfl, .inl (seqL_of (by rw [List.map_map]; exact hG)), ?_, ?_⟩
        · rw [sum_flat, fl, S_len]
          exact szl (by show _ + _ * 0 ≤ _; omega)
        rw [join_flat]
        refine ⟨_, rfl, rfl, _, rfl, ite2 (fun _ => ?_) (fun _ => ?_)⟩
        · refine ⟨_, rfl, _, rfl, _, rfl, szt, ?_⟩
          rw [S_len, fl]
          refine ⟨p, ((M * N : Nat) : Int), k + 1, rfl, bu.box.le (by omega), by omega, by omega, fun d G2 d0 d1 bu2 => ?_⟩
          obtain ⟨d, rfl⟩ : ∃ d' : Nat, (d' : Int) = d := ⟨d.toNat, by omega⟩
          refine ⟨_, rfl, _, rfl, _, rfl, _, rfl, szt, _, rfl, _, rfl, _, rfl, _, rfl, szc, ?_⟩
          rw [cols_ln]
          refine ⟨p, (N : Int), k, rfl, bu2.box, by omega, by omega, fun d2 G3 d20 d21 bu3 => ?_⟩
          obtain ⟨d2, rfl⟩ : ∃ d' : Nat, (d' : Int) = d2 := ⟨d2.toNat, by omega⟩
          have ec : (cols N).getD d2 0 = 97 + d2 := cols_getD (by omega)
          have lt : (ls.flatten.take d).length = d := by rw [List.length_take, fl]; omega
          refine ⟨_, _, (cols N).getD d2 0, rfl, rfl, szc, at_getD (by rw [cols_len]; omega), _, _, rfl, rfl, ?_, ?_⟩
          · rw [cut_take, S_len, lt]
            exact szl (by show d + 1 ≤ _; omega)
          · have ev : cutS (S ls.flatten) none (some ((d : Nat) : Int)) ++ S [(cols N).getD d2 0] ++ cutS (S ls.flatten) (some ((d : Int) + 1)) none = S (ls.flatten.take d ++ [(cols N).getD d2 0] ++ ls.flatten.drop (d + 1)) := by
              rw [show (d : Int) + 1 = ((d + 1 : Nat) : Int) by omega, cut_take, cut_drop, S_app, S_app]
            have lv : (ls.flatten.take d ++ [(cols N).getD d2 0] ++ ls.flatten.drop (d + 1)).length = M * N := by
              rw [List.length_append, List.length_append, lt, List.length_drop, fl]
              show d + 1 + _ = _
              omega
            refine ⟨_, rfl, _, rfl, _, _, rfl, rfl, _, rfl, _, rfl, szt, _, _, rfl, rfl, ?_, ?_⟩
            · rw [cut_take, show (d : Int) + 1 = ((d + 1 : Nat) : Int) by omega, cut_drop]
              show (S _ ++ S [(cols N).getD d2 0]).length + _ ≤ _
              rw [S_app, S_len, S_len, List.length_append, lt, List.length_drop, fl]
              exact szl (by show d + 1 + _ ≤ _; omega)
            · refine ⟨_, rfl, ?_⟩
              show Q (.str (cutS _ _ _ ++ S [(cols N).getD d2 0] ++ cutS _ _ _)) G3
              rw [ev]
              exact z G3 _ ((bu.trans bu2).trans bu3) (by rw [lv, pp]) (strip_app (strip_app (strip_take fs) (strip_one (by rw [ec]; exact cols_in (by omega)))) (strip_drop fs))
        · exact ⟨_, rfl, z G _ (bu.le (by omega)) (by rw [fl, pp]) fs⟩
theorem find_col {n x : Nat} (hn : n ≤ 9) (h : inCol n x = true) : Txt.find (S (cols n)) (S [x]) = ((x - 97 : Nat) : Int) := by
  have hx := col_lt h
  have z : ∀ n ≤ 9, ∀ k < n, Txt.find (S (cols n)) (S [97 + k]) = (k : Int) := by decide +kernel
  have y := z n hn (x - 97) hx.2
  rw [show 97 + (x - 97) = x by omega] at y
  exact y
theorem rep_flat_len {n : Nat} (xs : List Nat) : ((List.replicate n xs).flatten).length = n * xs.length := rep_len xs n
theorem rep_strip {N n : Nat} {xs : List Nat} (h : isStrip N xs = true) : isStrip N (List.replicate n xs).flatten = true := flat_strip fun l hl => by rw [List.eq_of_mem_replicate hl]; exact h
def spResults : Sp := fun vs H Q _ => ∃ (p : Addr) (N m k : Nat) (kind : Int), vs = [.ref p, tx (cols N), .int m, .int kind] ∧ BoxAt (k + 2000) H p ∧ 2 ≤ N ∧ N ≤ 9 ∧ 1 ≤ m ∧ N ^ m ≤ 729 ∧ ∀ G l, Bu k p H G → l.length = N ^ m → isStrip N l = true → Q (tx l) G
theorem c_law_results (T : Txt K mg a) : Can P w K mg base 4 "_law_results" spResults := by
  refine can_of T.d_law_results sc_law_results bd_law_results (fun vs H Q E h => ?_) (fun f cdv A outer s0 H vs Q E hr h => ?_)
  · obtain ⟨p, N, m, k, kind, rfl, _⟩ := h
    rfl
  · obtain ⟨p, N, m, k, kind, rfl, hb, N2, N9, m1, hm, z⟩ := h
    refine ⟨_, (pss_cons (ps_if (pt_cmpR op_lt (pv 3) pe_int (nomark _)) (pss_one (ps_ret (pc_f (c_law_permuted T) hr (by decide) (by rfl) (pa_cons (pv 0) (pa_cons (pv 1) (pa_cons (pv 2) (pa_cons (pv 3) pa_nil))))))) pss_nil)
      (pss_cons (ps_set (i := 4) sc_law_results.nd rfl (.inl rfl) (pc_f (c_law_windows T) hr (by decide) (by rfl) (pa_cons (pv 1) (pa_cons (pv 2) pa_nil))))
      (pss_cons (ps_if (pt_cmpR op_eq (pv 3) pe_int (nomark _)) (pss_cons (ps_set (i := 5) sc_law_results.nd rfl (.inr rfl) (pc_f (c_law_draw T) hr (by decide) (by rfl) (pa_cons (pv 0) (pa_cons (pv 2) pa_nil))))
      (pss_cons (ps_set (i := 6) sc_law_results.nd rfl (.inr rfl) (pc_f (c_law_shuffled T) hr (by decide) (by rfl) (pa_cons (pv 0) (pa_cons (pv 1) pa_nil))))
      (pss_one (ps_ret (kjoin K pe_str (pe_lc (own := [("window", 7)]) (g := gName 7) (tt := tYes) (by rfl) sc_law_results.nd (kpi_list K (pv 4)) (blkOk_by (N := N_law_results) (sc := defScope s_law_results) (by decide +kernel)) (fun _ _ _ _ _ => (pg_name (i := 7) sc_law_results.nd rfl (.inl rfl))) (fun _ _ _ _ _ => pts_nil) (fun _ _ _ _ _ => (pe_ix ix_str (pv 6) (pe_m1 PySem.F.slot_str_find PySem.F.type_str_find mt_find (pv 1) (pe_ix ix_str (pv 7) (pv 5) (fun _ _ => rfl))) (fun _ _ => rfl))))))))) pss_nil)
      (pss_cons (ps_if (PW.pt (pw_and (pt_cmpR op_eq (pv 3) pe_int (nomark _)) (pw_and1 (pt_cmpR op_gt (pv 2) pe_int (nomark _))))) (pss_cons (ps_set (i := 8) sc_law_results.nd rfl (.inl rfl) (pc_f (c_law_strip T) hr (by decide) (by rfl) (pa_cons (pv 0) (pa_cons (pv 1) (pa_cons (pe_op op_fdivN (pe_callB (klen_seq K) (by rfl) T.b_len (by decide +kernel) (pa_cons (pv 4) pa_nil)) (pe_callB call_len_str (by rfl) T.b_len (by decide +kernel) (pa_cons (pv 1) pa_nil))) pa_nil)))))
      (pss_cons (ps_if (pt_cmpR op_eq (pc_f (c_law_draw T) hr (by decide) (by rfl) (pa_cons (pv 0) (pa_cons pe_int pa_nil))) pe_int (nomark _)) (pss_one (ps_ret (pe_op op_repS (pv 8) (pe_callB call_len_str (by rfl) T.b_len (by decide +kernel) (pa_cons (pv 1) pa_nil))))) pss_nil)
      (pss_one (ps_ret (kjoin K pe_str (pe_lc (own := [("column", 9)]) (g := gName 9) (tt := tYes) (by rfl) sc_law_results.nd (pi_str (pv 8)) (blkOk_by (N := N_law_results) (sc := defScope s_law_results) (by decide +kernel)) (fun _ _ _ _ _ => (pg_name (i := 9) sc_law_results.nd rfl (.inl rfl))) (fun _ _ _ _ _ => pts_nil) (fun _ _ _ _ _ => (pe_op op_repS (pv 9) (pe_callB call_len_str (by rfl) T.b_len (by decide +kernel) (pa_cons (pv 1) pa_nil)))))))))) pss_nil)
      (pss_one (ps_ret (pc_f (c_law_strip T) hr (by decide) (by rfl) (pa_cons (pv 0) (pa_cons (pv 1) (pa_cons (pe_callB (klen_seq K) (by rfl) T.b_len (by decide +kernel) (pa_cons (pv 4) pa_nil)) pa_nil)))))))))), ?_⟩
    rw [lit_e]
    have pp := pow_pred (n := N) m1
    have hpos : 0 < N ^ (m - 1) := Nat.pow_pos (by omega)
    have pm : N ^ (m - 1) * 2 ≤ N ^ (m - 1) * N := Nat.mul_le_mul_left _ N2
    have szc : (S (cols N)).length ≤ sizeLine := by rw [cols_ln]; exact szl (by omega)
    refine ⟨_, rfl, _, _, rfl, rfl, _, rfl, ite2 (fun _ => ?_) (fun _ => ?_)⟩
    · exact ⟨_, rfl, _, rfl, _, rfl, _, rfl, p, N, m, k, kind, rfl, hb, N2, N9, m1, hm, z⟩
    · refine ⟨_, rfl, _, rfl, N, m, rfl, N2, N9, hm, fun G1 q k1 hq hG1 => ?_⟩
      have hb1 := hb.mono k1
      have bu1 : Bu (k + 2000) p H G1 := same_bu k1 (Bu.refl hb1)
      have lw : ((words N m).map tx).length = N ^ m := by rw [List.length_map, words_len]
      refine ⟨_, rfl, rfl, _, rfl, ite2 (fun _ => ?_) (fun _ => ?_)⟩
      · refine ⟨_, rfl, _, rfl, p, (m : Int), k + N, rfl, hb1.le (by omega), by omega, by have := small_w N2 hm; omega, fun d G2 d0 d1 bu2 => ?_⟩
        refine ⟨_, rfl, _, rfl, p, N, k, rfl, bu2.box, N2, N9, fun G3 row bu3 lr sr => ?_⟩
        have hq3 : G3 q = some (.lst ((words N m).map tx)) := bu3.1 _ _ (bu2.1 _ _ hG1 (box_ne hb hq)) (box_ne hb hq)
        obtain ⟨d, rfl⟩ : ∃ d' : Nat, (d' : Int) = d := ⟨d.toNat, by omega⟩
        refine ⟨⟨_, rfl⟩, _, rfl, q, rfl, ⟨_, seqL_of hq3⟩, fun D hD => lc_one (walk_list (xs := (words N m).map tx)) (((words N m).map fun u => row.getD (u.getD d 0 - 97) 0).map fun x => tx [x]) (by rw [List.length_map, List.length_map, List.length_map]) (by rw [lw]; omega) hD (fun M s => seqL_of (s _ _ hq3)) ?_ ?_⟩
        · rintro i x M M' v hi s1 ⟨rfl, hx⟩ hv
          rw [lw] at hi
          rw [List.getElem?_map, words_at hi] at hx
          rw [List.getElem?_map, List.getElem?_map, words_at hi] at hv
          cases hx
          cases hv
          have lu := wdig_len N m i
          have su := wdig_strip (show 0 < N by omega) m i
          generalize wdig N m i = u at *
          have hc := strip_getD su (i := d) (by omega)
          have hc2 := col_lt hc
          refine ⟨.refl _, fun Q' kk => ⟨_, rfl, _, rfl, ⟨_, rfl⟩, _, rfl, _, rfl, _, _, u.getD d 0, rfl, rfl, by rw [S_len, lu]; exact szl (by have := small_w N2 hm; omega), at_getD (by omega), ?_⟩⟩
          refine ⟨_, _, rfl, rfl, _, _, row.getD (u.getD d 0 - 97) 0, rfl, rfl, by rw [S_len, lr]; exact szl (by omega), ?_, kk _ (.refl _)⟩
          show atI (S row).cps.toList (Txt.find (S (cols N)) (S [u.getD d 0])) = _
          rw [find_col N9 hc]
          exact at_getD (by omega)
        · intro M s1 hM
          refine ⟨_, _, ((words N m).map fun u => row.getD (u.getD d 0 - 97) 0).map fun y => S [y], rfl, rfl, .inl (seqL_of (by rw [List.map_map]; exact hM)), ?_, ?_⟩
          · rw [sum_ones, List.length_map, List.length_map, List.length_map, words_len, S_len]
            exact szl (by show _ + _ * 0 ≤ _; omega)
          · rw [join_ones]
            refine z M _ (((bu1.trans bu2).trans bu3).same s1) (by rw [List.length_map, words_len]) (List.all_eq_true.mpr fun c hc => ?_)
            obtain ⟨u, hu, rfl⟩ := List.mem_map.mp hc
            unfold words at hu
            obtain ⟨j, _, rfl⟩ := List.mem_map.mp hu
            have lu := wdig_len N m j
            have hc := strip_getD (wdig_strip (show 0 < N by omega) m j) (i := d) (by omega)
            have hc2 := col_lt hc
            exact strip_getD sr (by omega)
      · refine ⟨_, rfl, rfl, _, rfl, ite2 (fun _ => ?_) (fun _ => ?_)⟩
        · refine ⟨_, rfl, _, _, rfl, rfl, _, rfl, ite2 (fun _ => ?_) (fun _ => ?_)⟩
          · refine ⟨_, rfl, _, rfl, _, rfl, q, _, rfl, .inl (seqL_of hG1), _, rfl, _, rfl, szc, _, _, rfl, rfl, by rw [cols_ln]; exact ⟨by omega, by omega⟩, p, N, N ^ (m - 1), k + 1, ?_, hb1.le (by omega), by omega, N2, N9, fun G2 core bu2 lc sc => ?_⟩
            · rw [lw, cols_ln]
              show [_, _, V.int (Int.fdiv ((N ^ m : Nat) : Int) ((N : Nat) : Int))] = _
              rw [fd, ← pp, Nat.mul_div_cancel _ (by omega)]
            have szk : (S core).length ≤ sizeLine := by rw [S_len, lc]; exact szl (by omega)
            refine ⟨_, rfl, p, 2, k, rfl, bu2.box, by omega, by omega, fun d G3 d0 d1 bu3 => ?_⟩
            have bu := (bu1.trans bu2).trans bu3
            refine ⟨rfl, _, rfl, ite2 (fun _ => ?_) (fun _ => ?_)⟩
            · refine ⟨_, rfl, _, rfl, _, rfl, szc, ?_⟩
              rw [cols_ln]
              refine ⟨_, _, rfl, rfl, mulOk_of 1000 10 (by rw [S_len, lc]; omega) (by omega) (by omega) (by decide) (by decide), ?_⟩
              rw [mul_S]
              exact z G3 _ bu (by rw [rep_flat_len, lc, Nat.mul_comm, pp]) (rep_strip sc)
            · refine ⟨⟨_, rfl⟩, _, rfl, _, rfl, fun D hD => lc_one walk_str ((core.map fun x => (List.replicate N [x]).flatten).map tx) (by rw [List.length_map, List.length_map]; exact (S_len core).symm) (by show (S core).length ≤ _; rw [S_len, lc]; omega) hD (fun _ _ => True.intro) ?_ ?_⟩
              · rintro i x M M' v hi s1 ⟨rfl, c', hc, rfl⟩ hv
                have hc := at_S hc
                rw [List.getElem?_map, List.getElem?_map, hc] at hv
                cases hv
                refine ⟨.refl _, fun Q' kk => ⟨_, rfl, _, rfl, _, rfl, szc, ?_⟩⟩
                rw [cols_ln]
                refine ⟨S [c'], _, rfl, rfl, mulOk_of 1000 10 (by rw [S_len]; show 1 ≤ 1000; decide) (by omega) (by omega) (by decide) (by decide), ?_⟩
                rw [mul_S]
                exact kk _ (.refl _)
              · intro M s1 hM
                have fl : (core.map fun x => (List.replicate N [x]).flatten).flatten.length = N ^ m := by
                  rw [flat_len (N := N), List.length_map, lc, pp]
                  intro l hl
                  obtain ⟨x, _, rfl⟩ := List.mem_map.mp hl
                  rw [rep_flat_len]
                  exact Nat.mul_one N
                refine ⟨_, _, (core.map fun x => (List.replicate N [x]).flatten).map S, rfl, rfl, .inl (seqL_of (by rw [List.map_map (g := V.str)]; exact hM)), ?_, ?_⟩
                · rw [sum_flat, fl, S_len]
                  exact szl (by show _ + _ * 0 ≤ _; omega)
                · rw [join_flat]
                  refine z M _ (bu.same s1) fl (flat_strip fun l hl => ?_)
                  obtain ⟨x, hx, rfl⟩ := List.mem_map.mp hl
                  exact rep_strip (strip_one (List.all_eq_true.mp sc x hx))
          · exact ⟨_, rfl, _, rfl, _, rfl, q, _, rfl, .inl (seqL_of hG1), p, N, N ^ m, k, by rw [lw]; rfl, hb1.le (by omega), by omega, N2, N9, fun G l bu ll sl => z G l (same_bu k1 bu) ll sl⟩
        · exact ⟨_, rfl, _, rfl, _, rfl, q, _, rfl, .inl (seqL_of hG1), p, N, N ^ m, k, by rw [lw]; rfl, hb1.le (by omega), by omega, N2, N9, fun G l bu ll sl => z G l (same_bu k1 bu) ll sl⟩
theorem mapW {n w : Nat} (hn : 0 < n) (F : List Nat → Nat) {u : List Nat} (hu : u.length = w) (hs : isStrip n u = true) : ((words n w).map F).getD (ixw n u) 0 = F u := by
  have h := ixw_lt hs
  rw [hu] at h
  rw [List.getD_eq_getElem?_getD, List.getElem?_map, words_at h, wdig_ixw hn w u hu hs]
  rfl
abbrev tb (l r : Nat) (res : List Nat) : HO := .tup [.int (l : Nat), .int (r : Nat), tx res]
theorem rep_one (n x : Nat) : (List.replicate n [x]).flatten = List.replicate n x := by
  induction n with
  | zero => rfl
  | succ n ih => rw [List.replicate_succ, List.flatten_cons, ih, List.replicate_succ]; rfl
theorem each_at {n : Nat} (hn : 0 < n) : ∀ (ys : List Nat) (k : Nat), k < n * ys.length → (ys.map fun x => (List.replicate n [x]).flatten).flatten[k]? = ys[k / n]?
  | [], k, h => by
    rw [List.length_nil, Nat.mul_zero] at h
    exact absurd h (Nat.not_lt_zero _)
  | x :: ys, k, h => by
    rw [List.map_cons, List.flatten_cons, rep_one]
    by_cases c : k < n
    · rw [List.getElem?_append_left (by rw [List.length_replicate]; exact c), Nat.div_eq_of_lt c, List.getElem?_replicate, if_pos c]
      rfl
    · rw [List.getElem?_append_right (by rw [List.length_replicate]; omega), List.length_replicate, each_at hn ys (k - n) (by rw [List.length_cons, Nat.mul_add, Nat.mul_one] at h; omega)]
      have e : k / n = (k - n) / n + 1 := by
        obtain ⟨j, rfl⟩ : ∃ j, k = j + n := ⟨k - n, by omega⟩
        rw [Nat.add_sub_cancel, Nat.add_div_right _ hn]
      rw [e]
      rfl
theorem blind_of {n w : Nat} (hn : 0 < n) {res : List Nat} (hl : res.length = n ^ (w + 1)) (h : res = ((every res n).map fun x => (List.replicate n [x]).flatten).flatten) : blind n res := by
  intro k hk
  have el := every_pow hn hl
  have h1 := each_at hn (every res n) k (by rw [el, Nat.mul_comm, ← Nat.pow_succ, ← hl]; exact hk)
  rw [← h] at h1
  have h2 : k / n < (every res n).length := by
    rw [el]
    rw [hl, Nat.pow_succ] at hk
    exact Nat.div_lt_of_lt_mul (by rw [Nat.mul_comm]; exact hk)
  have h3 := every_getD h2
  rw [List.getD_eq_getElem?_getD, ← h1, ← List.getD_eq_getElem?_getD] at h3
  rw [h3]
  congr 1
  have := Nat.div_add_mod k n
  omega
abbrev pdT (l r : Nat) (res : List Nat) : PyData := .tuple [.int (l : Nat), .int (r : Nat), .str (S res)]
theorem pdT_eq (l r l2 r2 : Nat) (res res2 : List Nat) : PyData.eqv (pdT l r res) (pdT l2 r2 res2) = decide (l = l2 ∧ r = r2 ∧ res = res2) := by
  have e : PyData.eqv (pdT l r res) (pdT l2 r2 res2) = (((l : Int) == (l2 : Int)) && (((r : Int) == (r2 : Int)) && ((S res == S res2) && true))) := by simp only [pdT, PyData.eqv, PyData.eqvAll]
  rw [e, Bool.eq_iff_iff, Bool.and_eq_true, Bool.and_eq_true, Bool.and_true, beq_iff_eq, beq_iff_eq, beq_iff_eq, decide_eq_true_iff]
  constructor
  · rintro ⟨h1, h2, h3⟩
    exact ⟨by omega, by omega, S_inj h3⟩
  · rintro ⟨rfl, rfl, rfl⟩
    exact ⟨rfl, rfl, rfl⟩
theorem pdT_depth (l r : Nat) (res : List Nat) : (pdT l r res).depth ≤ 64 := by
  simp [pdT, PyData.depth, PyData.depthAll]
theorem dpT {K : PySem.W.Frag} {H : Hp} {q : Addr} {l r : Nat} {res : List Nat} (h : H q = some (.tup [.int (l : Nat), .int (r : Nat), tx res])) : Dp K H (.ref q) (pdT l r res) := .tup (seqT_of h) (.cons (.int _) (.cons (.int _) (.cons (.str _) .nil)))
abbrev isN (N : Nat) : Prop := N = 2 ∨ N = 3 ∨ N = 4 ∨ N = 8 ∨ N = 9
theorem lit_c10 : Str.ofString "abcdefghij" = S (cols 10) := by decide +kernel
theorem lit_signs : Str.ofString "zA0 .-" = S [122, 65, 48, 32, 46, 45] := by decide +kernel
def signX (N : Nat) : List Nat := [97 + N] ++ [122, 65, 48, 32, 46, 45]
theorem signX_bad {N g : Nat} (h : N ≤ 9) (hg : g < 7) : inCol N ((signX N).getD g 0) = false := by
  have e : ∀ x, (x < 97 ∨ 97 + N ≤ x) → inCol N x = false := fun x hx => decide_eq_false (by omega)
  refine e _ ?_
  match g, hg with
  | 0, _ => exact .inr (Nat.le_refl _)
  | 1, _ => exact .inr (by show 97 + N ≤ 122; omega)
  | 2, _ => exact .inl (by show 65 < 97; decide)
  | 3, _ => exact .inl (by show 48 < 97; decide)
  | 4, _ => exact .inl (by show 32 < 97; decide)
  | 5, _ => exact .inl (by show 46 < 97; decide)
  | 6, _ => exact .inl (by show 45 < 97; decide)
theorem spoil {n x : Nat} (a b : List Nat) (h : inCol n x = false) : isStrip n (a ++ [x] ++ b) = false := by
  unfold isStrip
  rw [List.all_append, List.all_append, List.all_cons, h, Bool.false_and, Bool.and_false, Bool.false_and]
abbrev dueOf (o : Option (List Nat)) : List V := match o with
  | some y => [tx y]
  | none => []
theorem xdok {d : Addr} {M : Hp} {fs : List (Str × V)} (h : M d = some (.xd fs)) : XdOk (some d) M := fun dd e => by
  cases e
  exact ⟨fs, h⟩
abbrev pdD (o : Option (List Nat)) : PyData := .tuple (match o with | some y => [.str (S y)] | none => [])
theorem pdD_eq (o : Option (List Nat)) : PyData.eqv (pdD o) (pdD o) = true := by
  cases o with
  | none => rfl
  | some y => simp [pdD, PyData.eqv, PyData.eqvAll]
theorem pdD_plain (o : Option (List Nat)) : (pdD o).plain = true := by
  cases o with
  | none => rfl
  | some y => rfl
theorem pdD_depth (o : Option (List Nat)) : (pdD o).depth ≤ 64 := by
  cases o with
  | none => simp [pdD, PyData.depth, PyData.depthAll]
  | some y => simp [pdD, PyData.depth, PyData.depthAll]
theorem dpD {K : PySem.W.Frag} {H : Hp} {q : Addr} {o : Option (List Nat)} (h : H q = some (.tup (dueOf o))) : Dp K H (.ref q) (pdD o) := by
  cases o with
  | none => exact .tup (seqT_of h) .nil
  | some y => exact .tup (seqT_of h) (.cons (.str _) .nil)
structure TB where
  ad : Addr
  l : Nat
  r : Nat
  res : List Nat
def TabAt (N : Nat) (H : Hp) (t : TB) : Prop := H t.ad = some (tb t.l t.r t.res) ∧ Tab N t.l t.r t.res ∧ N ^ (t.l + 1 + t.r) ≤ 729
theorem TabAt.mono {N : Nat} {H G : Hp} {t : TB} (h : TabAt N H t) (e : Same H G) : TabAt N G t := ⟨e _ _ h.1, h.2⟩
theorem BlockAt.bu {a : Ad} {p s b : Addr} {H G : Hp} {R C n l r k m : Nat} {res : List Nat} (h : BlockAt a H p s R C n l r res) (hb : BoxAt k H b) (e : Bu m b H G) : BlockAt a G p s R C n l r res := by
  obtain ⟨q', ns, i, x, y, z, hbp, _⟩ := id hb
  obtain ⟨dx, q, hp, hq⟩ := h.ob
  have n1 : p ≠ b := fun q => by rw [q, hbp] at hp; cases hp
  have n2 : q ≠ b := fun q => by rw [q, hbp] at hq; cases hq
  exact ⟨⟨dx, q, e.1 _ _ hp n1, e.1 _ _ hq n2⟩, h.sch.bu hb e, h.tab, h.least, h.wide⟩
theorem good_isN {r c n : Nat} (h : Good r c n) : isN n := by
  rcases h.cases with ⟨_, _, rfl⟩ | ⟨_, _, rfl⟩ | ⟨_, _, rfl⟩ | ⟨_, _, rfl⟩ | ⟨_, _, rfl⟩ <;> decide
end
end K42

end
section
set_option Elab.async false
set_option linter.all false
set_option maxRecDepth 100000
set_option maxHeartbeats 4000000
namespace K42
open PySem PySem.Spec PyProof.Rows L2 Kit K40 K4B
/-! ### a table made window by window -/
theorem mapT {n l r : Nat} (hn : 0 < n) (F : List Nat → Nat) (h : ∀ u, u.length = l + 1 + r → isStrip n u = true → inCol n (F u) = true) : Tab n l r ((words n (l + 1 + r)).map F) := by
  refine ⟨by rw [List.length_map, words_len], List.all_eq_true.mpr fun x hx => ?_⟩
  obtain ⟨u, hu, rfl⟩ := List.mem_map.mp hx
  unfold words at hu
  obtain ⟨j, _, rfl⟩ := List.mem_map.mp hu
  exact h _ (wdig_len _ _ _) (wdig_strip hn _ _)
theorem mapT_sem {n l r : Nat} (hn : 0 < n) (F : List Nat → Nat) {c : Int → Nat} (h : Ok n c) : sem n l r ((words n (l + 1 + r)).map F) c = F (win c (-(l : Int)) (l + 1 + r)) := by
  unfold sem
  exact mapW hn F (win_len ..) (win_ok h _ _)
theorem tab_at {n l r : Nat} {res : List Nat} (t : Tab n l r res) {u : List Nat} (hu : u.length = l + 1 + r) (su : isStrip n u = true) : inCol n (res.getD (ixw n u) 0) = true := by
  have q := ixw_lt su
  rw [hu] at q
  exact strip_getD t.ok (by rw [t.len]; exact q)
/-! ### products -/
def prodF (n l r : Nat) (res : List Nat) (l2 r2 : Nat) (res2 : List Nat) (u : List Nat) : Nat := res2.getD (ixw n (inn n l r res u)) 0
def prodT (n l r : Nat) (res : List Nat) (l2 r2 : Nat) (res2 : List Nat) : List Nat := (words n (l + l2 + 1 + (r + r2))).map (prodF n l r res l2 r2 res2)
theorem inn_one {n l r l2 r2 : Nat} {res u : List Nat} (hu : u.length = l + l2 + 1 + (r + r2)) : (inn n l r res u).length = l2 + 1 + r2 := by
  rw [inn_len, hu]
  omega
theorem prod_tab {n l r l2 r2 : Nat} {res res2 : List Nat} (hn : 0 < n) (t : Tab n l r res) (t2 : Tab n l2 r2 res2) : Tab n (l + l2) (r + r2) (prodT n l r res l2 r2 res2) :=
  mapT hn _ fun u hu su => tab_at t2 (inn_one hu) (inn_strip t su)
theorem prod_sem {n l r l2 r2 : Nat} {res res2 : List Nat} (hn : 0 < n) {W : Int → Nat} (h : Ok n W) : sem n (l + l2) (r + r2) (prodT n l r res l2 r2 res2) W = sem n l2 r2 res2 (img n l r res W) := by
  unfold prodT
  rw [mapT_sem hn _ h]
  unfold prodF
  rw [show l + l2 + 1 + (r + r2) = (l2 + 1 + r2) + l + r by omega, inn_win, show -((l + l2 : Nat) : Int) + (l : Int) = -(l2 : Int) by omega]
  rfl
theorem prod_img {n l r l2 r2 : Nat} {res res2 : List Nat} (hn : 0 < n) {W : Int → Nat} (h : Ok n W) (j : Int) : img n (l + l2) (r + r2) (prodT n l r res l2 r2 res2) W j = img n l2 r2 res2 (img n l r res W) j := by
  unfold img
  rw [prod_sem hn fun i => h _]
  unfold img
  congr 1
  funext i
  congr 1
  funext k
  rw [Int.add_assoc]
/-! ### rings -/
def per (x : List Nat) : Int → Nat := fun j => x.getD (j % (x.length : Int)).toNat 0
theorem per_ok {n : Nat} {x : List Nat} (h : isStrip n x = true) (hl : 0 < x.length) : Ok n (per x) := fun j => by
  have q0 := Int.emod_nonneg j (show (x.length : Int) ≠ 0 by omega)
  have q1 := Int.emod_lt_of_pos j (show (0 : Int) < (x.length : Int) by omega)
  exact strip_getD h (by omega)
def ard (n l r : Nat) (res x : List Nat) : List Nat := if x = [] then [] else win (img n l r res (per x)) 0 x.length
/-! ### mirrors -/
def mirT (n l r : Nat) (res : List Nat) : List Nat := (words n (r + 1 + l)).map fun u => res.getD (ixw n u.reverse) 0
theorem strip_rev {n : Nat} {u : List Nat} (h : isStrip n u = true) : isStrip n u.reverse = true := List.all_eq_true.mpr fun c hc => List.all_eq_true.mp h c (List.mem_reverse.mp hc)
theorem mir_tab {n l r : Nat} {res : List Nat} (hn : 0 < n) (t : Tab n l r res) : Tab n r l (mirT n l r res) :=
  mapT hn _ fun u hu su => tab_at t (by rw [List.length_reverse, hu]; omega) (strip_rev su)
theorem win_rev (c : Int → Nat) (b : Int) (k : Nat) : (win c b k).reverse = win (fun j => c (-j)) (-(b + k - 1)) k := by
  refine List.ext_getElem? fun i => ?_
  by_cases h : i < k
  · rw [List.getElem?_reverse (by rw [win_len]; exact h), win_len, win_at (by omega), win_at h]
    congr 2
    omega
  · rw [List.getElem?_eq_none (by rw [List.length_reverse, win_len]; omega), List.getElem?_eq_none (by rw [win_len]; omega)]
theorem mir_sem {n l r : Nat} {res : List Nat} (hn : 0 < n) {c : Int → Nat} (h : Ok n c) : sem n r l (mirT n l r res) c = sem n l r res fun j => c (-j) := by
  unfold mirT
  rw [mapT_sem hn _ h, win_rev, show -(-(r : Int) + ((r + 1 + l : Nat) : Int) - 1) = -(l : Int) by omega, show r + 1 + l = l + 1 + r by omega]
  rfl
theorem dep_mir {n : Nat} {F : (Int → Nat) → Nat} {i : Int} (d : Dep n F i) : Dep n (fun c => F fun j => c (-j)) (-i) := by
  obtain ⟨c, c', o, o', e, f⟩ := d
  refine ⟨fun j => c (-j), fun j => c' (-j), fun j => o _, fun j => o' _, fun j hj => e _ (by omega), ?_⟩
  have a : ∀ c : Int → Nat, (fun j => (fun j => c (-j)) (-j)) = c := fun c => by
    funext j
    show c (- -j) = c j
    rw [Int.neg_neg]
  show F (fun j => (fun j => c (-j)) (-j)) ≠ F (fun j => (fun j => c' (-j)) (-j))
  rw [a, a]
  exact f
theorem mir_least {n l r : Nat} {res : List Nat} (hn : 0 < n) (h : Least n l r res) : Least n r l (mirT n l r res) := by
  refine ⟨h.right.imp id fun d => ?_, h.left.imp id fun d => ?_⟩
  · exact dep_congr (fun c o => (mir_sem hn o).symm) (dep_mir d)
  · have := dep_congr (fun c o => (mir_sem hn o).symm) (dep_mir d)
    rw [Int.neg_neg] at this
    exact this
theorem lf_self {n l r : Nat} {res : List Nat} (t : Tab n l r res) (h : Least n l r res) : Lf n l r res l r res := ⟨t, h, fun _ _ => rfl, Nat.le_refl _, Nat.le_refl _⟩
/-! ### shifts -/
def shT (n l r : Nat) (by_ : Int) : List Nat := (words n (l + 1 + r)).map fun u => u.getD (by_ + l).toNat 0
theorem sh_tab {n l r : Nat} {b : Int} (hn : 0 < n) (h1 : -(l : Int) ≤ b) (h2 : b ≤ r) : Tab n l r (shT n l r b) :=
  mapT hn _ fun u hu su => strip_getD su (by omega)
theorem sh_sem {n l r : Nat} {b : Int} (hn : 0 < n) (h1 : -(l : Int) ≤ b) (h2 : b ≤ r) {c : Int → Nat} (h : Ok n c) : sem n l r (shT n l r b) c = c b := by
  unfold shT
  rw [mapT_sem hn _ h, win_getD (by omega)]
  congr 1
  omega
theorem sh_dep {n : Nat} (hn : 2 ≤ n) (b : Int) : Dep n (fun c => c b) b := by
  refine ⟨fun _ => 97, fun j => if j = b then 98 else 97, fun _ => col_of (x := 0) (by omega), fun j => ?_, fun j hj => ?_, ?_⟩
  · show inCol n (if j = b then 98 else 97) = true
    split
    · exact col_of (x := 1) (by omega)
    · exact col_of (x := 0) (by omega)
  · show 97 = if j = b then 98 else 97
    rw [if_neg hj]
  · show 97 ≠ if b = b then 98 else 97
    rw [if_pos rfl]
    decide
theorem sh_least {n l r : Nat} {b : Int} (hn : 2 ≤ n) (h : (b = -(l : Int) ∧ r = 0) ∨ (b = r ∧ l = 0)) : Least n l r (shT n l r b) := by
  have h1 : -(l : Int) ≤ b := by omega
  have h2 : b ≤ r := by omega
  have d := dep_congr (fun c o => (sh_sem (by omega) h1 h2 o).symm) (sh_dep hn b)
  rcases h with ⟨e, f⟩ | ⟨e, f⟩
  · exact ⟨.inr (by rw [← e]; exact d), .inl f⟩
  · exact ⟨.inl f, .inr (by rw [← e]; exact d)⟩
/-! ### equal in effect, equal -/
theorem id_sem {n : Nat} (hn : 0 < n) {c : Int → Nat} (h : Ok n c) : sem n 0 0 (cols n) c = c 0 := by
  unfold sem
  have hc := col_lt (h 0)
  have e : win c (-((0 : Nat) : Int)) (0 + 1 + 0) = [c 0] := rfl
  rw [e]
  have : ixw n [c 0] = c 0 - 97 := by
    show 0 * n + (c 0 - 97) = _
    omega
  rw [this, cols_getD hc.2]
  omega
theorem id_least (n : Nat) : Least n 0 0 (cols n) := ⟨.inl rfl, .inl rfl⟩
end K42

end
section
set_option Elab.async false
set_option linter.all false
set_option maxRecDepth 100000
set_option maxHeartbeats 4000000
namespace K42
open PySem PySem.Spec PyProof.Rows L2 Kit K40 K4B
theorem win_one {l : List Nat} (h : l.length = 1) : l = [l.getD 0 0] := by
  obtain ⟨x, rfl⟩ := List.length_eq_one_iff.mp h
  rfl
section
variable {P : Program} {w : World} {K : PySem.W.Frag} {mg : Str → Option Value} {base : Heap} {a : Ad}
def spMul (a : Ad) : Sp := fun vs H Q E => ∃ (p s p2 s2 : Addr) (R C n l r R2 C2 n2 l2 r2 : Nat) (res res2 : List Nat), vs = [.ref p, .ref p2] ∧ BlockAt a H p s R C n l r res ∧ BlockAt a H p2 s2 R2 C2 n2 l2 r2 res2 ∧
  (¬ (R = R2 ∧ C = C2) → RaZ E a.UnlikeSchemes H) ∧ ((R = R2 ∧ C = C2) → ¬ n ^ (l + l2 + 1 + (r + r2)) ≤ 729 → RaZ E a.TooWide H) ∧
  ((R = R2 ∧ C = C2) → n ^ (l + l2 + 1 + (r + r2)) ≤ 729 → ∀ G y (l' r' : Nat) res', Same H G → Lf n (l + l2) (r + r2) (prodT n l r res l2 r2 res2) l' r' res' → BlockAt a G y s R C n l' r' res' → Q (.ref y) G)
theorem c_Block_mul (T : Txt K mg a) : CanM P w K mg base 6 a.Block "__mul__" (spMul a) := by
  refine canM_of T.c_Block.cl T.m_Block___mul__ sc_Block___mul__ bd_Block___mul__ (fun vs H Q E h => ?_) (fun f cdv A outer s0 H vs Q E hr h => ?_)
  · obtain ⟨p, s, p2, s2, R, C, n, l, r, R2, C2, n2, l2, r2, res, res2, rfl, _⟩ := h
    rfl
  · obtain ⟨p, s, p2, s2, R, C, n, l, r, R2, C2, n2, l2, r2, res, res2, rfl, b1, b2, y1, y2, z⟩ := h
    refine ⟨_, (pss_cons (ps_expr (pc_fS (c_check_alike T) (takes_of rfl rfl rfl rfl) hr (by decide) (by rfl) (pa_cons (pv 0) (pa_cons (pv 1) pa_nil))))
      (pss_cons (ps_set (i := 2) sc_Block___mul__.nd rfl (.inl rfl) (pe_op op_add (kfld K (pv 0)) (kfld K (pv 1))))
      (pss_cons (ps_set (i := 3) sc_Block___mul__.nd rfl (.inl rfl) (pe_op op_add (kfld K (pv 0)) (kfld K (pv 1))))
      (pss_cons (ps_if (pt_not (pt_val (pc_f (c_is_narrow T) hr (by decide) (by rfl) (pa_cons (kfld K (pv 0)) (pa_cons (pe_op op_add (pe_op op_add (pv 2) pe_int) (pv 3)) pa_nil))))) (pss_one (pr_own0 T.z_TooWide (takes_of rfl rfl rfl rfl) (by rfl) (by rfl))) pss_nil)
      (pss_cons (ps_set (i := 4) sc_Block___mul__.nd rfl (.inl rfl) (pc_f (c_words_of T) hr (by decide) (by rfl) (pa_cons (kfld K (pv 0)) (pa_cons (pe_op op_add (pe_op op_add (pv 2) pe_int) (pv 3)) pa_nil))))
      (pss_one (ps_ret (pc_n (c_Block_init T) hr (by decide) (by rfl) (pa_cons (kfld K (pv 0)) (pa_cons (pv 2) (pa_cons (pv 3) (pa_cons (kjoin K pe_str (pe_lc (own := [("window", 5)]) (g := gName 5) (tt := tYes) (by rfl) sc_Block___mul__.nd (kpi_list K (pv 4)) (blkOk_by (N := N_Block___mul__) (sc := defScope s_Block___mul__) (by decide +kernel)) (fun _ _ _ _ _ => (pg_name (i := 5) sc_Block___mul__.nd rfl (.inl rfl))) (fun _ _ _ _ _ => pts_nil) (fun _ _ _ _ _ => (pc_m (c_Block_inner T) hr (by decide) (pv 1) (pa_cons (pc_m (c_Block_inner T) hr (by decide) (pv 0) (pa_cons (pv 5) pa_nil)) pa_nil))))) pa_nil)))))))))))), ?_⟩
    rw [lit_e]
    obtain ⟨dx, q, hp, hq⟩ := b1.ob
    obtain ⟨dx2, q2, hp2, hq2⟩ := b2.ob
    have gn := good_n b1.sch.2
    have n0 : 0 < n := by omega
    have w1 := small_w gn.2.2.2.2 b1.wide
    refine ⟨_, rfl, _, rfl, p, s, p2, s2, R, C, n, R2, C2, n2, rfl, ⟨a.Block, dx, _, hp, T.c_Block.cl, T.w_scheme, fb_scheme s l r res q⟩, ⟨a.Block, dx2, _, hp2, T.c_Block.cl, T.w_scheme, fb_scheme s2 l2 r2 res2 q2⟩, b1.sch, b2.sch, ?_, fun c => y1 c⟩
    rintro ⟨rfl, rfl⟩
    obtain rfl := good_un b1.sch.2 b2.sch.2
    have w2 := small_w gn.2.2.2.2 b2.wide
    refine ⟨_, rfl, p, _, dx, _, _, rfl, hp, T.c_Block.cl, T.w_left, fb_left s l r res q, _, rfl, p2, _, dx2, _, _, rfl, hp2, T.c_Block.cl, T.w_left, fb_left s2 l2 r2 res2 q2, _, _, rfl, rfl, ?_⟩
    refine ⟨_, rfl, p, _, dx, _, _, rfl, hp, T.c_Block.cl, T.w_right, fb_right s l r res q, _, rfl, p2, _, dx2, _, _, rfl, hp2, T.c_Block.cl, T.w_right, fb_right s2 l2 r2 res2 q2, _, _, rfl, rfl, ?_⟩
    refine ⟨_, rfl, p, _, dx, _, _, rfl, hp, T.c_Block.cl, T.w_scheme, fb_scheme s l r res q, _, rfl, _, _, rfl, rfl, _, rfl, _, _, rfl, rfl, s, R, C, n, l + l2 + 1 + (r + r2), rfl, b1.sch, _, rfl, ?_⟩
    by_cases hw : n ^ (l + l2 + 1 + (r + r2)) ≤ 729
    · rw [decide_eq_true hw]
      refine iteF ?_
      refine ⟨_, rfl, p, _, dx, _, _, rfl, hp, T.c_Block.cl, T.w_scheme, fb_scheme s l r res q, _, rfl, _, _, rfl, rfl, _, rfl, _, _, rfl, rfl, s, R, C, n, l + l2 + 1 + (r + r2), rfl, b1.sch, hw, fun G1 q1 k1 hq1 hG1 => ?_⟩
      have lw : ((words n (l + l2 + 1 + (r + r2))).map tx).length = n ^ (l + l2 + 1 + (r + r2)) := by rw [List.length_map, words_len]
      refine ⟨_, rfl, p, _, dx, _, _, rfl, k1 _ _ hp, T.c_Block.cl, T.w_scheme, fb_scheme s l r res q, _, rfl, _, rfl, ⟨_, rfl⟩, _, rfl, q1, rfl, ⟨_, seqL_of hG1⟩, fun D hD => lc_one (walk_list (xs := (words n (l + l2 + 1 + (r + r2))).map tx)) ((prodT n l r res l2 r2 res2).map fun x => tx [x]) (by unfold prodT; rw [List.length_map, List.length_map, List.length_map]) (by rw [lw]; omega) hD (fun M s => seqL_of (s _ _ hG1)) ?_ ?_⟩
      · rintro i x M M' v hi s1 ⟨rfl, hx⟩ hv
        rw [lw] at hi
        unfold prodT at hv
        rw [List.getElem?_map, words_at hi] at hx
        rw [List.getElem?_map, List.getElem?_map, words_at hi] at hv
        cases hx
        cases hv
        have lu := wdig_len n (l + l2 + 1 + (r + r2)) i
        have su := wdig_strip n0 (l + l2 + 1 + (r + r2)) i
        generalize wdig n (l + l2 + 1 + (r + r2)) i = u at *
        have k2 := k1.trans s1
        have l1 := inn_one (res := res) (n := n) lu
        have s1' := inn_strip b1.tab su
        have l3 : (inn n l2 r2 res2 (inn n l r res u)).length = 1 := by rw [inn_len, l1]; omega
        refine ⟨.refl _, fun Q' kk => ?_⟩
        refine ⟨_, rfl, p2, dx2, _, rfl, k2 _ _ hp2, fb_no s2 l2 r2 res2 q2 (by decide +kernel), _, rfl, p, dx, _, rfl, k2 _ _ hp, fb_no s l r res q (by decide +kernel), _, rfl, p, s, R, C, n, l, r, res, u, rfl, b1.mono k2, by omega, fun _ G3 k3 => ?_, fun e => absurd (su.symm.trans e) nofun⟩
        refine ⟨p2, s2, R, C, n, l2, r2, res2, inn n l r res u, rfl, (b2.mono k2).mono k3, by omega, fun _ G4 k4 => ?_, fun e => absurd (s1'.symm.trans e) nofun⟩
        have ev : inn n l2 r2 res2 (inn n l r res u) = [prodF n l r res l2 r2 res2 u] := by
          rw [win_one l3]
          congr 1
          unfold inn
          rw [List.getD_eq_getElem?_getD, List.getElem?_map, List.getElem?_range (by rw [List.length_map, List.length_range]; omega)]
          show res2.getD (ixw n (List.take (l2 + 1 + r2) (List.drop 0 (inn n l r res u)))) 0 = _
          rw [List.drop_zero, List.take_of_length_le (by omega)]
          rfl
        rw [ev]
        exact kk _ (k3.trans k4)
      · intro M s1 hM
        refine ⟨_, _, (prodT n l r res l2 r2 res2).map fun y => S [y], rfl, rfl, .inl (seqL_of (by rw [List.map_map]; exact hM)), ?_, ?_⟩
        · rw [sum_ones, List.length_map]
          unfold prodT
          rw [List.length_map, words_len, S_len]
          exact szl (by show _ + _ * 0 ≤ _; omega)
        · rw [join_ones]
          have k2 := k1.trans s1
          exact fun y d hy hd ne => init_block (l := l + l2) (r := r + r2) (b1.sch.mono k2) (prod_tab n0 b1.tab b2.tab) hw hy hd ne fun G l' r' res' k lf bl => z ⟨rfl, rfl⟩ hw G y l' r' res' (k2.trans k) lf bl
    · rw [decide_eq_false hw]
      exact iteT (y2 ⟨rfl, rfl⟩ hw H (.refl _))
end
end K42

end
section
set_option Elab.async false
set_option linter.all false
set_option maxRecDepth 100000
set_option maxHeartbeats 4000000
namespace Kit
open PySem PySem.Spec PyProof.Rows L2
/-! ### text[::-1] -/
theorem rev_at (l : List Nat) : (Builtin.Str.strSliceIndices none none (-1) (S l).length).filterMap ((S l).cps[·]?) = l.reverse := by
  rw [S_len]
  have e : Builtin.Str.strSliceIndices none none (-1) l.length = (List.range l.length).map fun k => l.length - 1 - k := by
    show sliceRange ((l.length : Int) - 1) (-1) (-1) = _
    exact PySem.W.krv_sliceRange _
  rw [e, PySem.W.krv_range, List.filterMap_reverse]
  have h := PySem.W.krv_all l.toArray
  rw [List.size_toArray] at h
  have h2 : (List.range l.length).filterMap ((S l).cps[·]?) = l := h
  rw [h2]
def tRevS (te : TE) : TE := fun σ H Q => te σ H fun x H1 => ∃ l : List Nat, x = tx l ∧ l.length ≤ 100000 ∧ Q (tx l.reverse) H1
theorem pe_revS {X : Cx} {e : Expr} {te : TE} {k : Nat} {p1 p2 p3 pos : Pos} (he : PE X e te) : PE X (.Subscript e (.Slice none none (some (.UnaryOp .USub (.Constant (.int 1) k p1) p2)) p3) pos) (tRevS te) := by
  refine ⟨fun pins s σ H Q I h => ?_⟩
  refine Subscript_ (thn (he.run pins s σ H _ I h) fun v s1 ⟨x, H1, I1, r1, q1⟩ => ?_)
  obtain ⟨l, ex, hz, q⟩ := q1
  subst ex
  obtain ⟨t, rfl⟩ := r1
  have hst : PO X (some (.UnaryOp .USub (.Constant (.int 1) k p1) p2)) (tPart (tUn (rU fun i => .int (-i)) (tC (.int 1)))) := po_some (pe_un un_neg pe_int)
  refine wpAny_Slice (thn (po_none.run pins s1 σ H1 (fun o H2 => o = none ∧ H2 = H1) I1 ⟨rfl, rfl⟩) fun vl s2 ⟨lo, H2, I2, pl, el, e2⟩ => ?_)
  subst el e2
  refine thn (po_none.run pins s2 σ H2 (fun o H3 => o = none ∧ H3 = H2) I2 ⟨rfl, rfl⟩) fun vu s3 ⟨u, H3, I3, pu, eu, e3⟩ => ?_
  subst eu e3
  refine thn (hst.run pins s3 σ H3 (fun o H4 => o = some (-1) ∧ H4 = H3) I3 ⟨1, rfl, -1, rfl, rfl, rfl⟩) fun vs s4 ⟨o, H4, I4, ps, eo, e4⟩ => ?_
  subst eo e4
  have I5 : Inv X pins σ H4 { s4 with heap := s4.heap.push { cls := .type "slice", data := .fields #[vl, vu, vs] } } := I4.kept (t' := s4.toks) fun b ob q => Heap.get?_push_of_some _ q
  cases pl
  cases pu
  cases ps with
  | int _ t2 =>
    show wpAny (model X.prog X.w) X.A (subscriptTail e (.Slice none none (some (.UnaryOp .USub (.Constant (.int 1) k p1) p2)) p3) (.str (S l) t) (.ref s4.heap.objs.size)) (EP X pins σ Q) X.xe { s4 with heap := s4.heap.push { cls := .type "slice", data := .fields #[.none, .none, .int (-1) t2] } }
    refine tail_any (ops := [.str (S l) t, .ref s4.heap.objs.size]) (typeIs_str _ _ _) F.slot_str_getitem.lookup ?_ (by with_unfolding_all rfl)
    refine wpAny_getItem_str_slice (l := none) (u := none) (st := some (-1, t2)) ⟨_, Heap.get?_push_size _ rfl, rfl, rfl⟩ rfl ?_
    show Made.post (if ((-1 : Int) == 1 && _) = true then _ else Made.str ⟨((Builtin.Str.strSliceIndices none none (-1) (S l).length).filterMap ((S l).cps[·]?)).toArray⟩) (EP X pins σ Q) _
    rw [if_neg (by simp), rev_at]
    exact ⟨by show (S l.reverse).length ≤ _; rw [S_len, List.length_reverse]; exact szl hz, .str _, H4, I5.tok _, ⟨_, rfl⟩, q⟩
end Kit

end
section
set_option Elab.async false
set_option linter.all false
set_option maxRecDepth 100000
set_option maxHeartbeats 4000000
namespace K42
open PySem PySem.Spec PyProof.Rows L2 Kit K40 K4B
section
variable {P : Program} {w : World} {K : PySem.W.Frag} {mg : Str → Option Value} {base : Heap} {a : Ad}
def spAround (a : Ad) : Sp := fun vs H Q E => ∃ (p s : Addr) (R C n l r : Nat) (res x : List Nat), vs = [.ref p, tx x] ∧ BlockAt a H p s R C n l r res ∧ x.length ≤ 900 ∧ (isStrip n x = true → ∀ G, Same H G → Q (tx (ard n l r res x)) G) ∧ (isStrip n x = false → Ra E a.BadStrip "text" (tx x) H)
theorem c_Block_around (T : Txt K mg a) : CanM P w K mg base 5 a.Block "around" (spAround a) := by
  refine canM_of T.c_Block.cl T.m_Block_around sc_Block_around bd_Block_around (fun vs H Q E h => ?_) (fun f cdv A outer s0 H vs Q E hr h => ?_)
  · obtain ⟨p, s, R, C, n, l, r, res, x, rfl, _⟩ := h
    rfl
  · obtain ⟨p, s, R, C, n, l, r, res, x, rfl, bl, hx, z, y⟩ := h
    refine ⟨_, (pss_cons (ps_expr (pc_mS (c_Scheme_check T) (takes_of rfl rfl rfl rfl) hr (by decide) (kfld K (pv 0)) (pa_cons (pv 1) pa_nil)))
      (pss_cons (ps_if (pt_not (pt_truth (pv 1) (by intro _; rfl))) (pss_one (ps_ret (pv 1))) pss_nil)
      (pss_cons (ps_set (i := 2) sc_Block_around.nd rfl (.inl rfl) (pe_callTy cr_range2 (by rfl) T.b_range (by decide +kernel) (pa_cons (pe_un un_neg (kfld K (pv 0))) (pa_cons (pe_op op_add (pe_callB call_len_str (by rfl) T.b_len (by decide +kernel) (pa_cons (pv 1) pa_nil)) (kfld K (pv 0))) pa_nil))))
      (pss_one (ps_ret (pc_m (c_Block_inner T) hr (by decide) (pv 0) (pa_cons (kjoin K pe_str (pe_lc (own := [("place", 3)]) (g := gName 3) (tt := tYes) (by rfl) sc_Block_around.nd (pi_rngV (pv 2)) (blkOk_by (N := N_Block_around) (sc := defScope s_Block_around) (by decide +kernel)) (fun _ _ _ _ _ => (pg_name (i := 3) sc_Block_around.nd rfl (.inl rfl))) (fun _ _ _ _ _ => pts_nil) (fun _ _ _ _ _ => (pe_ix ix_str (pv 1) (pe_op op_modN (pv 3) (pe_callB call_len_str (by rfl) T.b_len (by decide +kernel) (pa_cons (pv 1) pa_nil))) (fun _ _ => rfl))))) pa_nil))))))), ?_⟩
    rw [lit_e]
    obtain ⟨dx, q, hp, hq⟩ := bl.ob
    obtain ⟨ds, hs⟩ := bl.sch.1
    have gn := good_n bl.sch.2
    have w9 := small_w gn.2.2.2.2 bl.wide
    have sz : (S x).length ≤ sizeLine := by rw [S_len]; exact szl (by omega)
    refine ⟨_, rfl, p, _, dx, _, _, rfl, hp, T.c_Block.cl, T.w_scheme, fb_scheme s l r res q, s, ds, _, rfl, hs, fl_no R C n (by decide +kernel) (by decide +kernel) (by decide +kernel), _, rfl, s, R, C, n, x, rfl, bl.sch, by omega, fun st G1 k1 => ?_, fun e => y e⟩
    refine ⟨_, rfl, _, ⟨sz, rfl⟩, ?_⟩
    rw [S_len]
    by_cases hx0 : x = []
    · subst hx0
      refine iteT ⟨_, rfl, ?_⟩
      exact z st G1 k1
    · have lx : 0 < x.length := by
        cases x with
        | nil => exact absurd rfl hx0
        | cons a b => exact Nat.succ_pos _
      rw [show (((x.length : Nat) : Int) != 0) = true by rw [bne_iff_ne]; omega]
      refine iteF ?_
      refine ⟨_, rfl, p, _, dx, _, _, rfl, k1 _ _ hp, T.c_Block.cl, T.w_left, fb_left s l r res q, _, rfl, _, rfl, _, rfl, sz, _, rfl, p, _, dx, _, _, rfl, k1 _ _ hp, T.c_Block.cl, T.w_right, fb_right s l r res q, _, _, rfl, rfl, _, _, rfl, fun D hD => ?_⟩
      have k2 := k1.trans (ex_new (o := .rng (-(l : Int)) (((S x).length : Int) + (r : Int))) hD)
      refine ⟨_, rfl, p, dx, _, rfl, k2 _ _ hp, fb_no s l r res q (by decide +kernel), ⟨_, rfl⟩, _, rfl, D, _, _, rfl, upd_same, ⟨by omega, by omega, by rw [S_len]; omega, by rw [S_len]; omega⟩, fun D2 hD2 => ?_⟩
      have en : (((S x).length : Int) + (r : Int) - -(l : Int)).toNat = x.length + l + r := by rw [S_len]; omega
      refine lc_one (walk_range (lo := -(l : Int)) (n := (((S x).length : Int) + (r : Int) - -(l : Int)).toNat)) ((win (per x) (-(l : Int)) (x.length + l + r)).map fun c => tx [c]) (by rw [List.length_map, win_len, en]) (by rw [en]; omega) hD2 (fun _ _ => True.intro) ?_ ?_
      · rintro i c G G' v hi s1 ⟨rfl, rfl⟩ hv
        rw [en] at hi
        rw [List.getElem?_map, win_at hi] at hv
        cases hv
        refine ⟨.refl _, fun Q' kk => ⟨_, rfl, _, rfl, _, rfl, _, rfl, sz, _, _, rfl, rfl, (by rw [S_len]; omega), _, _, per x (-(l : Int) + (i : Int)), rfl, rfl, sz, ?_, kk _ (.refl _)⟩⟩
        rw [S_len]
        exact mod_at lx _
      · intro G s1 hG
        refine ⟨_, _, (win (per x) (-(l : Int)) (x.length + l + r)).map fun y => S [y], rfl, rfl, .inl (seqL_of (by rw [List.map_map]; exact hG)), ?_, ?_⟩
        · rw [sum_ones, win_len, S_len, List.length_map, win_len]
          exact szl (by show _ + _ * 0 ≤ _; omega)
        · rw [join_ones]
          have k3 := k2.trans s1
          have wst := win_ok (per_ok st lx) (-(l : Int)) (x.length + l + r)
          refine ⟨p, s, R, C, n, l, r, res, _, rfl, bl.mono k3, by rw [win_len]; omega, fun _ G2 k4 => ?_, fun e => absurd (wst.symm.trans e) nofun⟩
          rw [inn_win, show -(l : Int) + (l : Int) = 0 by omega]
          have := z st G2 (k3.trans k4)
          unfold ard at this
          rw [if_neg hx0] at this
          exact this
def spMir (a : Ad) : Sp := fun vs H Q _ => ∃ (p s : Addr) (R C n l r : Nat) (res : List Nat), vs = [.ref p] ∧ BlockAt a H p s R C n l r res ∧ ∀ G y, Same H G → BlockAt a G y s R C n r l (mirT n l r res) → Q (.ref y) G
theorem c_Block_mirrored (T : Txt K mg a) : CanM P w K mg base 6 a.Block "mirrored" (spMir a) := by
  refine canM_of T.c_Block.cl T.m_Block_mirrored sc_Block_mirrored bd_Block_mirrored (fun vs H Q E h => ?_) (fun f cdv A outer s0 H vs Q E hr h => ?_)
  · obtain ⟨p, s, R, C, n, l, r, res, rfl, _⟩ := h
    rfl
  · obtain ⟨p, s, R, C, n, l, r, res, rfl, bl, z⟩ := h
    refine ⟨_, (pss_cons (ps_set (i := 1) sc_Block_mirrored.nd rfl (.inl rfl) (pc_f (c_words_of T) hr (by decide) (by rfl) (pa_cons (kfld K (pv 0)) (pa_cons (pe_op op_add (pe_op op_add (kfld K (pv 0)) pe_int) (kfld K (pv 0))) pa_nil))))
      (pss_cons (ps_set (i := 2) sc_Block_mirrored.nd rfl (.inl rfl) (kjoin K pe_str (pe_lc (own := [("window", 3)]) (g := gName 3) (tt := tYes) (by rfl) sc_Block_mirrored.nd (kpi_list K (pv 1)) (blkOk_by (N := N_Block_mirrored) (sc := defScope s_Block_mirrored) (by decide +kernel)) (fun _ _ _ _ _ => (pg_name (i := 3) sc_Block_mirrored.nd rfl (.inl rfl))) (fun _ _ _ _ _ => pts_nil) (fun _ _ _ _ _ => (pe_dget (units1 hr) (kfld K (pv 0)) (pe_revS (pv 3)) (fun _ _ => rfl))))))
      (pss_one (ps_ret (pc_n (c_Block_init T) hr (by decide) (by rfl) (pa_cons (kfld K (pv 0)) (pa_cons (kfld K (pv 0)) (pa_cons (kfld K (pv 0)) (pa_cons (pv 2) pa_nil))))))))), ?_⟩
    rw [lit_e]
    obtain ⟨dx, q, hp, hq⟩ := bl.ob
    have gn := good_n bl.sch.2
    have n0 : 0 < n := by omega
    have w9 := small_w gn.2.2.2.2 bl.wide
    have ew : r + 1 + l = l + 1 + r := by omega
    have lm : (mirT n l r res).length = n ^ (l + 1 + r) := by unfold mirT; rw [List.length_map, words_len, ew]
    refine ⟨_, rfl, p, _, dx, _, _, rfl, hp, T.c_Block.cl, T.w_scheme, fb_scheme s l r res q, _, rfl, p, _, dx, _, _, rfl, hp, T.c_Block.cl, T.w_left, fb_left s l r res q, _, _, rfl, rfl, _, rfl, p, _, dx, _, _, rfl, hp, T.c_Block.cl, T.w_right, fb_right s l r res q, _, _, rfl, rfl, s, R, C, n, l + 1 + r, rfl, bl.sch, bl.wide, fun G1 q1 k1 hq1 hG1 => ?_⟩
    have lw : ((words n (l + 1 + r)).map tx).length = n ^ (l + 1 + r) := by rw [List.length_map, words_len]
    have hbw := bl.wide
    refine ⟨⟨_, rfl⟩, _, rfl, q1, rfl, ⟨_, seqL_of hG1⟩, fun D hD => lc_one (walk_list (xs := (words n (l + 1 + r)).map tx)) ((mirT n l r res).map fun x => tx [x]) (by rw [List.length_map, lm, lw]) (by rw [lw]; omega) hD (fun M s => seqL_of (s _ _ hG1)) ?_ ?_⟩
    · rintro i x M M' v hi s1 ⟨rfl, hx⟩ hv
      rw [lw] at hi
      unfold mirT at hv
      rw [ew] at hv
      rw [List.getElem?_map, words_at hi] at hx
      rw [List.getElem?_map, List.getElem?_map, words_at hi] at hv
      cases hx
      cases hv
      have lu := wdig_len n (l + 1 + r) i
      have su := wdig_strip n0 (l + 1 + r) i
      generalize wdig n (l + 1 + r) i = u at *
      have k2 := k1.trans s1
      refine ⟨.refl _, fun Q' kk => ?_⟩
      refine ⟨_, rfl, p, _, dx, _, _, rfl, k2 _ _ hp, T.c_Block.cl, T.w_news, fb_news s l r res q, _, rfl, u, rfl, by omega, q, tx [res.getD (ixw n u.reverse) 0], rfl, ?_, kk _ (.refl _)⟩
      have g := DGet.k (k := Sum.inr (S u.reverse)) (k2 _ _ hq)
      rw [news_at n0 bl.tab.len (strip_rev su) (by rw [List.length_reverse, lu])] at g
      exact g
    · intro M s1 hM
      refine ⟨_, _, (mirT n l r res).map fun y => S [y], rfl, rfl, .inl (seqL_of (by rw [List.map_map]; exact hM)), ?_, ?_⟩
      · rw [sum_ones, List.length_map, lm, S_len]
        exact szl (by show _ + _ * 0 ≤ _; omega)
      · rw [join_ones]
        have k2 := k1.trans s1
        refine ⟨_, rfl, p, _, dx, _, _, rfl, k2 _ _ hp, T.c_Block.cl, T.w_scheme, fb_scheme s l r res q, _, rfl, p, _, dx, _, _, rfl, k2 _ _ hp, T.c_Block.cl, T.w_right, fb_right s l r res q, _, rfl, p, _, dx, _, _, rfl, k2 _ _ hp, T.c_Block.cl, T.w_left, fb_left s l r res q, _, rfl, fun y d hy hd ne => init_block (l := r) (r := l) (bl.sch.mono k2) (mir_tab n0 bl.tab) (by rw [ew]; exact bl.wide) hy hd ne fun G l' r' res' k lf b2 => ?_⟩
        have tm := mir_tab n0 bl.tab
        obtain ⟨rfl, rfl, rfl⟩ := Lf.unique n0 lf (lf_self tm (mir_least n0 bl.least))
        exact z G y (k2.trans k) b2
end
end K42

end
section
set_option Elab.async false
set_option linter.all false
set_option maxRecDepth 100000
set_option maxHeartbeats 4000000
namespace K42
open PySem PySem.Spec PyProof.Rows L2 Kit K40 K4B
theorem each_eq {n w : Nat} (hn : 0 < n) {res : List Nat} (hl : res.length = n ^ (w + 1)) (h : blind n res) : res = ((every res n).map fun x => (List.replicate n [x]).flatten).flatten := by
  have el := every_pow hn hl
  have fl : ((every res n).map fun x => (List.replicate n [x]).flatten).flatten.length = res.length := by
    rw [flat_len (N := n), List.length_map, el, hl, Nat.pow_succ]
    intro l hl
    obtain ⟨x, _, rfl⟩ := List.mem_map.mp hl
    rw [rep_flat_len]
    exact Nat.mul_one n
  refine List.ext_getElem? fun k => ?_
  by_cases c : k < res.length
  · have c2 : k < n * (every res n).length := by rw [el, Nat.mul_comm, ← Nat.pow_succ, ← hl]; exact c
    rw [each_at hn _ _ c2]
    have h2 : k / n < (every res n).length := Nat.div_lt_of_lt_mul c2
    rw [getD_at c, getD_at h2, every_getD h2, h k c]
    congr 2
    have := Nat.div_add_mod k n
    omega
  · rw [List.getElem?_eq_none (by omega), List.getElem?_eq_none (by omega)]
theorem per_win {x : List Nat} {l w at_ : Nat} (hx : 0 < x.length) (ha : at_ < x.length) (hl : l < w) : (((List.replicate (w + 1) x).flatten).drop (x.length * l + at_ - l)).take w = win (per x) ((at_ : Int) - (l : Int)) w ∧ x.length * l + at_ - l + w ≤ (w + 1) * x.length := by
  have h1 : l ≤ x.length * l := Nat.le_mul_of_pos_left l hx
  have h2 : x.length * l + at_ - l + w ≤ (w + 1) * x.length := by
    have e1 : (w + 1) * x.length = x.length * w + x.length := by rw [Nat.add_mul, Nat.one_mul, Nat.mul_comm]
    have e2 : x.length * (l + 1) ≤ x.length * w := Nat.mul_le_mul_left _ hl
    rw [Nat.mul_add, Nat.mul_one] at e2
    obtain ⟨d, rfl⟩ : ∃ d, w = l + 1 + d := ⟨w - (l + 1), by omega⟩
    have e3 : d ≤ x.length * d := Nat.le_mul_of_pos_left d hx
    have e4 : x.length * (l + 1 + d) = x.length * l + x.length + x.length * d := by rw [Nat.mul_add, Nat.mul_add, Nat.mul_one]
    omega
  refine ⟨List.ext_getElem? fun j => ?_, h2⟩
  by_cases c : j < w
  · rw [List.getElem?_take, if_pos c, List.getElem?_drop, rep_at _ _ _ (by omega), win_at c]
    have e : (x.length * l + at_ - l + j) % x.length = (((at_ : Int) - (l : Int) + (j : Int)) % (x.length : Int)).toNat := by
      have a : ((x.length * l + at_ - l + j : Nat) : Int) = ((at_ : Int) - (l : Int) + (j : Int)) + (x.length : Int) * (l : Int) := by
        have : ((x.length * l : Nat) : Int) = (x.length : Int) * (l : Int) := Int.natCast_mul _ _
        omega
      have b : (((x.length * l + at_ - l + j) % x.length : Nat) : Int) = ((at_ : Int) - (l : Int) + (j : Int)) % (x.length : Int) := by
        rw [Int.natCast_emod, a, Int.add_mul_emod_self_left]
      omega
    rw [e]
    unfold per
    have q0 := Int.emod_nonneg ((at_ : Int) - (l : Int) + (j : Int)) (show (x.length : Int) ≠ 0 by omega)
    have q1 := Int.emod_lt_of_pos ((at_ : Int) - (l : Int) + (j : Int)) (show (0 : Int) < (x.length : Int) by omega)
    exact getD_at (by omega)
  · rw [List.getElem?_take, if_neg c, List.getElem?_eq_none (by rw [win_len]; omega)]
section
variable {P : Program} {w : World} {K : PySem.W.Frag} {mg : Str → Option Value} {base : Heap} {a : Ad}
def spLInner : Sp := fun vs H Q _ => ∃ (D : Addr) (n l r : Nat) (res x : List Nat), vs = [.ref D, .int ((l + 1 + r : Nat) : Int), tx x] ∧ 0 < n ∧ H D = some (.dK (newsL n (l + 1 + r) res)) ∧ Tab n l r res ∧ l + r ≤ 20 ∧ x.length ≤ 990 ∧ isStrip n x = true ∧ ∀ G, Same H G → Q (tx (inn n l r res x)) G
theorem c_law_inner (T : Txt K mg a) : Can P w K mg base 1 "_law_inner" spLInner := by
  refine can_of T.d_law_inner sc_law_inner bd_law_inner (fun vs H Q E h => ?_) (fun f cdv A outer s0 H vs Q E hr h => ?_)
  · obtain ⟨D, n, l, r, res, x, rfl, _⟩ := h
    rfl
  · obtain ⟨D, n, l, r, res, x, rfl, n0, hD, tab, w9, hx, st, z⟩ := h
    refine ⟨_, (pss_one (ps_ret (kjoin K pe_str (pe_lc (own := [("at", 3)]) (g := gName 3) (tt := tYes) (by rfl) sc_law_inner.nd (pi_range1 (by rfl) T.b_range (pa_cons (pe_op op_add (pe_op op_sub (pe_callB call_len_str (by rfl) T.b_len (by decide +kernel) (pa_cons (pv 2) pa_nil)) (pv 1)) pe_int) pa_nil)) (blkOk_by (N := N_law_inner) (sc := defScope s_law_inner) (by decide +kernel)) (fun _ _ _ _ _ => (pg_name (i := 3) sc_law_inner.nd rfl (.inl rfl))) (fun _ _ _ _ _ => pts_nil) (fun _ _ _ _ _ => (pe_dget (units1 hr) (pv 0) (pe_slice sl_str (pv 2) (po_some (pv 3)) (po_some (pe_op op_add (pv 3) (pv 1)))) (fun _ _ => rfl))))))), ?_⟩
    have sz : (S x).length ≤ sizeLine := by rw [S_len]; exact szl (by omega)
    have ek : ((((x.length : Nat) : Int) - ((l + 1 + r : Nat) : Int) + 1)).toNat = x.length - (l + r) := by omega
    refine ⟨⟨_, rfl⟩, _, rfl, _, rfl, sz, ?_⟩
    rw [S_len]
    refine ⟨_, rfl, _, _, rfl, rfl, _, _, rfl, rfl, ?_⟩
    refine ⟨((x.length : Nat) : Int) - ((l + 1 + r : Nat) : Int) + 1, rfl, by omega, by omega, fun D1 hD1 => lc_one (walk_range (lo := 0) (n := (((x.length : Nat) : Int) - ((l + 1 + r : Nat) : Int) + 1).toNat)) ((inn n l r res x).map fun x => tx [x]) (by rw [List.length_map, inn_len, ek]) (by omega) hD1 (fun _ _ => True.intro) ?_ ?_⟩
    · rintro i c G G' v hi s1 ⟨rfl, rfl⟩ hv
      rw [ek] at hi
      unfold inn at hv
      rw [List.getElem?_map, List.getElem?_map, List.getElem?_range hi] at hv
      cases hv
      refine ⟨.refl _, fun Q' kk => ?_⟩
      have e0 : ∀ j : Nat, (0 : Int) + (j : Int) = (j : Int) := fun j => by omega
      have lk : ((x.drop i).take (l + 1 + r)).length = l + 1 + r := by rw [List.length_take, List.length_drop]; omega
      refine ⟨_, rfl, _, rfl, _, rfl, _, rfl, _, rfl, _, rfl, _, _, rfl, rfl, _, rfl, _, rfl, sz, D, tx [res.getD (ixw n ((x.drop i).take (l + 1 + r))) 0], rfl, ?_, kk _ (.refl _)⟩
      have ec : cutS (S x) (some ((0 : Int) + (i : Int))) (some ((0 : Int) + (i : Int) + ((l + 1 + r : Nat) : Int))) = S ((x.drop i).take (l + 1 + r)) := by
        rw [e0, show (i : Int) + ((l + 1 + r : Nat) : Int) = ((i + (l + 1 + r) : Nat) : Int) by omega, cut_mid _ _ _ (by omega)]
      show DGet G' D (.str (cutS _ _ _)) _
      rw [ec]
      have v := news_at (w := l + 1 + r) n0 tab.len (strip_take (strip_drop st)) lk
      have g := DGet.k (k := Sum.inr (S ((x.drop i).take (l + 1 + r)))) (s1 _ _ hD)
      rw [v] at g
      exact g
    · intro G s1 hG
      refine ⟨_, _, (inn n l r res x).map fun y => S [y], rfl, rfl, .inl (seqL_of (by rw [List.map_map]; exact hG)), ?_, ?_⟩
      · rw [sum_ones, inn_len, lit_e, S_len, List.length_map, inn_len]
        exact szl (by show _ + _ * 0 ≤ _; omega)
      · rw [join_win]
        exact z G s1
def spLAround : Sp := fun vs H Q _ => ∃ (D : Addr) (n l r : Nat) (res x : List Nat), vs = [.ref D, .int (l : Nat), .int ((l + 1 + r : Nat) : Int), tx x] ∧ 0 < n ∧ H D = some (.dK (newsL n (l + 1 + r) res)) ∧ Tab n l r res ∧ l + r ≤ 20 ∧ x.length ≤ 100 ∧ isStrip n x = true ∧ ∀ G, Same H G → Q (tx (ard n l r res x)) G
theorem c_law_around (T : Txt K mg a) : Can P w K mg base 1 "_law_around" spLAround := by
  refine can_of T.d_law_around sc_law_around bd_law_around (fun vs H Q E h => ?_) (fun f cdv A outer s0 H vs Q E hr h => ?_)
  · obtain ⟨D, n, l, r, res, x, rfl, _⟩ := h
    rfl
  · obtain ⟨D, n, l, r, res, x, rfl, n0, hD, tab, w9, hx, st, z⟩ := h
    refine ⟨_, (pss_cons (ps_if (pt_cmpR op_eq (pv 3) pe_str (nomark _)) (pss_one (ps_ret pe_str)) pss_nil)
      (pss_cons (ps_set (i := 4) sc_law_around.nd rfl (.inr rfl) (pe_callB call_len_str (by rfl) T.b_len (by decide +kernel) (pa_cons (pv 3) pa_nil)))
      (pss_cons (ps_set (i := 5) sc_law_around.nd rfl (.inr rfl) (pe_op op_repS (pv 3) (pe_op op_add (pv 2) pe_int)))
      (pss_one (ps_ret (kjoin K pe_str (pe_lc (own := [("at", 6)]) (g := gName 6) (tt := tYes) (by rfl) sc_law_around.nd (pi_range1 (by rfl) T.b_range (pa_cons (pv 4) pa_nil)) (blkOk_by (N := N_law_around) (sc := defScope s_law_around) (by decide +kernel)) (fun _ _ _ _ _ => (pg_name (i := 6) sc_law_around.nd rfl (.inl rfl))) (fun _ _ _ _ _ => pts_nil) (fun _ _ _ _ _ => (pe_dget (units1 hr) (pv 0) (pe_slice sl_str (pv 5) (po_some (pe_op op_sub (pe_op op_add (pe_op op_mul (pv 4) (pv 1)) (pv 6)) (pv 1))) (po_some (pe_op op_add (pe_op op_sub (pe_op op_add (pe_op op_mul (pv 4) (pv 1)) (pv 6)) (pv 1)) (pv 2)))) (fun _ _ => rfl)))))))))), ?_⟩
    rw [lit_e]
    have sz : (S x).length ≤ sizeLine := by rw [S_len]; exact szl (by omega)
    refine ⟨_, rfl, rfl, _, rfl, ?_⟩
    by_cases hx0 : x = []
    · subst hx0
      rw [decide_eq_true (show tx [] = V.str (S []) from rfl)]
      refine iteT ?_
      exact z H (.refl _)
    · have hne : ¬ tx x = V.str (S []) := fun e => hx0 (S_inj (V.str.inj e))
      have lx : 0 < x.length := by
        cases x with
        | nil => exact absurd rfl hx0
        | cons a b => exact Nat.succ_pos _
      rw [decide_eq_false hne]
      refine iteF ⟨_, rfl, _, rfl, sz, ?_⟩
      rw [S_len]
      have lL : ((List.replicate (l + 1 + r + 1) x).flatten).length = (l + 1 + r + 1) * x.length := rep_flat_len x
      have bL : (l + 1 + r + 1) * x.length ≤ 22 * 100 := Nat.mul_le_mul (by omega) hx
      refine ⟨_, rfl, _, rfl, _, _, rfl, rfl, _, _, rfl, rfl, mulOk_of 1000 30 (by rw [S_len]; omega) (by omega) (by omega) (by decide) (by decide), ?_⟩
      rw [show ((l + 1 + r : Nat) : Int) + 1 = ((l + 1 + r + 1 : Nat) : Int) by omega, mul_S]
      have szL : (S (List.replicate (l + 1 + r + 1) x).flatten).length ≤ sizeLine := by rw [S_len, lL]; exact szl (by omega)
      have la : (ard n l r res x).length = x.length := by
        unfold ard
        rw [if_neg hx0, win_len]
      refine ⟨⟨_, rfl⟩, _, rfl, _, rfl, by omega, by omega, fun D1 hD1 => lc_one (walk_range (lo := 0) (n := ((x.length : Nat) : Int).toNat)) ((ard n l r res x).map fun c => tx [c]) (by rw [List.length_map, la]; rfl) (by show x.length ≤ _; omega) hD1 (fun _ _ => True.intro) ?_ ?_⟩
      · rintro i c G G' v hi s1 ⟨rfl, rfl⟩ hv
        have hi : i < x.length := hi
        unfold ard at hv
        rw [if_neg hx0, List.getElem?_map, win_at hi] at hv
        cases hv
        obtain ⟨pw, pb⟩ := per_win (l := l) (w := l + 1 + r) lx hi (by omega)
        have ej : (x.length : Int) * (l : Int) + (0 + (i : Int)) - (l : Int) = ((x.length * l + i - l : Nat) : Int) := by
          have h1 : l ≤ x.length * l := Nat.le_mul_of_pos_left l lx
          have : ((x.length * l : Nat) : Int) = (x.length : Int) * (l : Int) := Int.natCast_mul _ _
          omega
        refine ⟨.refl _, fun Q' kk => ⟨_, rfl, _, rfl, _, rfl, _, rfl, _, _, rfl, rfl, .inr ⟨by omega, by omega⟩, _, rfl, _, _, rfl, rfl, _, rfl, _, _, rfl, rfl, _, rfl, _, rfl, _, rfl, _, _, rfl, rfl, .inr ⟨by omega, by omega⟩, _, rfl, _, _, rfl, rfl, _, rfl, _, _, rfl, rfl, _, rfl, _, _, rfl, rfl, _, rfl, _, rfl, szL, D, tx [img n l r res (per x) (0 + (i : Int))], rfl, ?_, kk _ (.refl _)⟩⟩
        show DGet G' D (.str (cutS _ (some ((x.length : Int) * (l : Int) + (0 + (i : Int)) - (l : Int))) (some ((x.length : Int) * (l : Int) + (0 + (i : Int)) - (l : Int) + ((l + 1 + r : Nat) : Int))))) _
        rw [ej, show ((x.length * l + i - l : Nat) : Int) + ((l + 1 + r : Nat) : Int) = ((x.length * l + i - l + (l + 1 + r) : Nat) : Int) by omega, cut_mid _ _ _ (by rw [lL]; exact pb), pw]
        have v := news_at (w := l + 1 + r) n0 tab.len (win_ok (per_ok st lx) ((i : Int) - (l : Int)) (l + 1 + r)) (win_len ..)
        have g := DGet.k (k := Sum.inr (S (win (per x) ((i : Int) - (l : Int)) (l + 1 + r)))) (s1 _ _ hD)
        rw [v, ← img_at, show (i : Int) - (l : Int) + (l : Int) = 0 + (i : Int) by omega] at g
        exact g
      · intro G s1 hG
        refine ⟨_, _, (ard n l r res x).map fun y => S [y], rfl, rfl, .inl (seqL_of (by rw [List.map_map]; exact hG)), ?_, ?_⟩
        · rw [sum_ones, la, S_len, List.length_map, la]
          exact szl (by show _ + _ * 0 ≤ _; omega)
        · rw [join_ones]
          exact z G s1
def spPow : Sp := fun vs H Q _ => ∃ b t : Nat, vs = [.int b, .int t] ∧ b ≤ 9 ∧ t ≤ 100 ∧ Q (.int ((b ^ t : Nat) : Int)) H
theorem c_law_power (T : Txt K mg a) : Can P w K mg base 1 "_law_power" spPow := by
  refine can_of T.d_law_power sc_law_power bd_law_power (fun vs H Q E h => ?_) (fun f cdv A outer s0 H vs Q E hr h => ?_)
  · obtain ⟨b, t, rfl, _⟩ := h
    rfl
  · obtain ⟨b, t, rfl, hb, ht, z⟩ := h
    refine ⟨_, (pss_cons (ps_set (i := 2) sc_law_power.nd rfl (.inl rfl) pe_int)
      (pss_cons (ps_for (passes_of rfl) (by rfl) (pi_range1 (by rfl) T.b_range (pa_cons (pv 1) pa_nil)) (pg_name (i := 3) sc_law_power.nd rfl (.inl rfl)) (pss_one (ps_set (i := 2) sc_law_power.nd rfl (.inl rfl) (pe_op op_mul (pv 2) (pv 0)))))
      (pss_one (ps_ret (pv 2))))), ?_⟩
    refine ⟨_, rfl, t, rfl, by omega, by omega, for_it (walk_range (lo := 0) (n := ((t : Nat) : Int).toNat)) (fun i σ G => G = H ∧ ∃ x3, σ = [some (.int (b : Nat)), some (.int (t : Nat)), some (.int ((b ^ i : Nat) : Int)), x3]) ⟨rfl, none, rfl⟩ (fun _ _ _ _ _ => True.intro) ?_ ?_⟩
    · rintro i x σ G' G hi ⟨rfl, x3, rfl⟩ ⟨rfl, rfl⟩
      refine ⟨_, rfl, _, rfl, _, _, rfl, rfl, .inr ⟨by omega, by omega⟩, rfl, some (.int (0 + (i : Nat))), ?_⟩
      show [_, _, some (V.int (((b ^ i : Nat) : Int) * (b : Int))), _] = _
      rw [← Int.natCast_mul, ← Nat.pow_succ]
    · rintro σ G ⟨rfl, x3, rfl⟩
      exact ⟨_, rfl, z⟩
end
end K42

end
section
set_option Elab.async false
set_option linter.all false
set_option maxRecDepth 100000
set_option maxHeartbeats 4000000
namespace K42
open PySem PySem.Spec PyProof.Rows L2 Kit K40 K4B
section
variable {P : Program} {w : World} {K : PySem.W.Frag} {mg : Str → Option Value} {base : Heap} {a : Ad}
def spLLeast : Sp := fun vs H Q _ => ∃ (c : Addr) (n l r : Nat) (res : List Nat), vs = [tx (cols n), .ref c] ∧ 2 ≤ n ∧ n ≤ 9 ∧ H c = some (tb l r res) ∧ Tab n l r res ∧ n ^ (l + 1 + r) ≤ 729 ∧ ∀ G q (l' r' : Nat) res', Same H G → Lf n l r res l' r' res' → G q = some (tb l' r' res') → Q (.ref q) G
theorem c_law_least (T : Txt K mg a) : Can P w K mg base 1 "_law_least" spLLeast := by
  refine can_of T.d_law_least sc_law_least bd_law_least (fun vs H Q E h => ?_) (fun f0 cdv A outer s0 H vs Q E hr h => ?_)
  · obtain ⟨c, n, l, r, res, rfl, _⟩ := h
    rfl
  · obtain ⟨c, n, l, r, res, rfl, n2, n9, hc, tab, hw, z⟩ := h
    refine ⟨_, (pss_cons (ps_asg (pv 1) (pg_tup rfl (pgs_cons (pg_name (i := 2) sc_law_least.nd rfl (.inl rfl)) (pgs_cons (pg_name (i := 3) sc_law_least.nd rfl (.inl rfl)) (pgs_cons (pg_name (i := 4) sc_law_least.nd rfl (.inl rfl)) pgs_nil)))))
      (pss_cons (ps_set (i := 5) sc_law_least.nd rfl (.inr rfl) (pe_callB call_len_str (by rfl) T.b_len (by decide +kernel) (pa_cons (pv 0) pa_nil)))
      (pss_cons (ps_set (i := 6) sc_law_least.nd rfl (.inl rfl) (pv 2))
      (pss_cons (ps_set (i := 7) sc_law_least.nd rfl (.inl rfl) (pv 3))
      (pss_cons (ps_for (passes_of rfl) (by rfl) (pi_range1 (by rfl) T.b_range (pa_cons (pv 2) pa_nil)) (pg_name (i := 8) sc_law_least.nd rfl (.inl rfl)) (pss_one (ps_if (pt_cmpR op_eq (pv 4) (pe_op op_repS (pe_slice sl_str (pv 4) po_none (po_some (pe_op op_fdivN (pe_callB call_len_str (by rfl) T.b_len (by decide +kernel) (pa_cons (pv 4) pa_nil)) (pv 5)))) (pv 5)) (nomark _)) (pss_cons (ps_set (i := 6) sc_law_least.nd rfl (.inl rfl) (pe_op op_sub (pv 6) pe_int))
      (pss_one (ps_set (i := 4) sc_law_least.nd rfl (.inl rfl) (pe_slice sl_str (pv 4) po_none (po_some (pe_op op_fdivN (pe_callB call_len_str (by rfl) T.b_len (by decide +kernel) (pa_cons (pv 4) pa_nil)) (pv 5))))))) pss_nil)))
      (pss_cons (ps_for (passes_of rfl) (by rfl) (pi_range1 (by rfl) T.b_range (pa_cons (pv 3) pa_nil)) (pg_name (i := 8) sc_law_least.nd rfl (.inl rfl)) (pss_one (ps_if (pt_cmpR op_eq (pv 4) (kjoin K pe_str (pe_lc (own := [("column", 9)]) (g := gName 9) (tt := tYes) (by rfl) sc_law_least.nd (pi_str (pe_stepS (pv 4) (pv 5))) (blkOk_by (N := N_law_least) (sc := defScope s_law_least) (by decide +kernel)) (fun _ _ _ _ _ => (pg_name (i := 9) sc_law_least.nd rfl (.inl rfl))) (fun _ _ _ _ _ => pts_nil) (fun _ _ _ _ _ => (pe_op op_repS (pv 9) (pv 5))))) (nomark _)) (pss_cons (ps_set (i := 7) sc_law_least.nd rfl (.inl rfl) (pe_op op_sub (pv 7) pe_int))
      (pss_one (ps_set (i := 4) sc_law_least.nd rfl (.inl rfl) (pe_stepS (pv 4) (pv 5))))) pss_nil)))
      (pss_one (ps_ret (pe_tup (pa_cons (pv 6) (pa_cons (pv 7) (pa_cons (pv 4) pa_nil)))))))))))), ?_⟩
    rw [lit_e]
    have n0 : 0 < n := by omega
    have w9 := small_w n2 hw
    have szc : (S (cols n)).length ≤ sizeLine := by rw [cols_ln]; exact szl (by omega)
    refine ⟨_, rfl, c, _, rfl, seqT_of hc, rfl, _, _, rfl, _, _, rfl, _, _, rfl, rfl, _, rfl, _, rfl, szc, ?_⟩
    rw [cols_ln]
    refine ⟨_, rfl, _, rfl, _, rfl, l, rfl, by omega, by omega, for_it (walk_range (lo := 0) (n := ((l : Nat) : Int).toNat)) (fun k σ G => G = H ∧ k ≤ l ∧ ∃ (f : Nat) (res1 : List Nat) (x8 : Option V), Tab n f r res1 ∧ f ≤ l ∧ (∀ c, Ok n c → sem n l r res c = sem n f r res1 c) ∧ (f + k = l ∨ (0 < f ∧ ¬ free n res1)) ∧ σ = [some (tx (cols n)), some (.ref c), some (.int (l : Nat)), some (.int (r : Nat)), some (tx res1), some (.int (n : Nat)), some (.int (f : Nat)), some (.int (r : Nat)), x8, none]) ⟨rfl, Nat.zero_le _, l, res, none, tab, Nat.le_refl _, fun _ _ => rfl, .inl rfl, rfl⟩ (fun _ _ _ _ _ => True.intro) ?_ ?_⟩
    · rintro k x σ G' G hk ⟨rfl, kl, f, res1, x8, t1, f1, e1, d1, rfl⟩ ⟨rfl, rfl⟩
      have hk : k < l := hk
      have pw : n ^ (f + 1 + r) ≤ 729 := Nat.le_trans (Nat.pow_le_pow_right n0 (by omega)) hw
      have l1 : res1.length ≤ 729 := by rw [t1.len]; exact pw
      have sz : (S res1).length ≤ sizeLine := by rw [S_len]; exact szl (by omega)
      refine ⟨_, rfl, _, rfl, _, rfl, _, rfl, sz, _, rfl, _, _, rfl, rfl, ⟨by omega, by omega⟩, _, rfl, _, rfl, sz, _, rfl, _, _, rfl, rfl, ?_, rfl, _, rfl, ite2 (fun h => ?_) (fun h => ?_)⟩
      · rw [cutE]
        exact mulOk_of 1000 10 (by rw [S_len, List.length_take]; omega) (by omega) (by omega) (by decide) (by decide)
      · have fr := ef.mp h
        have d1 : f + k = l := d1.elim id fun q => absurd fr q.2
        obtain ⟨g, rfl⟩ : ∃ g, f = g + 1 := ⟨f - 1, by omega⟩
        refine ⟨_, rfl, _, _, rfl, rfl, _, rfl, _, rfl, _, rfl, sz, _, rfl, _, _, rfl, rfl, ⟨by omega, by omega⟩, _, rfl, _, rfl, sz, ?_⟩
        rw [cutE]
        refine ⟨rfl, by omega, g, res1.take (res1.length / n), some (.int (0 + (k : Nat))), tabL n0 t1, by omega, fun c o => (e1 c o).trans (semL n0 t1 fr o), .inl (by omega), ?_⟩
        show [_, _, _, _, _, _, some (V.int (((g + 1 : Nat) : Int) - 1)), _, _, _] = _
        rw [show ((g + 1 : Nat) : Int) - 1 = (g : Int) by omega]
      · have fr : ¬ free n res1 := fun q => h (ef.mpr q)
        exact ⟨rfl, by omega, f, res1, _, t1, f1, e1, .inr ⟨by rcases d1 with q | q <;> omega, fr⟩, rfl⟩
    · rintro σ G ⟨rfl, _, f, res1, x8, t1, f1, e1, d1, rfl⟩
      have dL : f = 0 ∨ Dep n (sem n f r res1) (-(f : Int)) := by
        rcases d1 with q | ⟨q1, q2⟩
        · exact .inl (by have q : f + l = l := q; omega)
        · obtain ⟨g, rfl⟩ : ∃ g, f = g + 1 := ⟨f - 1, by omega⟩
          exact .inr (depL n0 t1 q2)
      refine ⟨_, rfl, r, rfl, by omega, by omega, for_it (walk_range (lo := 0) (n := ((r : Nat) : Int).toNat)) (fun k σ M => Same G M ∧ k ≤ r ∧ ∃ (b : Nat) (res2 : List Nat) (x8 : Option V), Tab n f b res2 ∧ b ≤ r ∧ (∀ c, Ok n c → sem n f r res1 c = sem n f b res2 c) ∧ (b + k = r ∨ (0 < b ∧ ¬ blind n res2)) ∧ σ = [some (tx (cols n)), some (.ref c), some (.int (l : Nat)), some (.int (r : Nat)), some (tx res2), some (.int (n : Nat)), some (.int (f : Nat)), some (.int (b : Nat)), x8, none]) ⟨.refl _, Nat.zero_le _, r, res1, x8, t1, Nat.le_refl _, fun _ _ => rfl, .inl rfl, rfl⟩ (fun _ _ _ _ _ => True.intro) ?_ ?_⟩
      · rintro k x σ M' M hk ⟨s1, kl, b, res2, x8, t2, f2, e2, d2, rfl⟩ ⟨rfl, rfl⟩
        have hk : k < r := hk
        have pw : n ^ (f + 1 + b) ≤ 729 := Nat.le_trans (Nat.pow_le_pow_right n0 (by omega)) hw
        have l2 : res2.length ≤ 729 := by rw [t2.len]; exact pw
        have sz : (S res2).length ≤ sizeLine := by rw [S_len]; exact szl (by omega)
        have el : (every res2 n).length ≤ 729 := by
          rw [every_len]
          refine Nat.div_le_of_le_mul ?_
          have : 2 * 729 ≤ n * 729 := Nat.mul_le_mul_right _ (by omega)
          omega
        have hb : 0 < b := by rcases d2 with q | q <;> omega
        obtain ⟨g, rfl⟩ : ∃ g, b = g + 1 := ⟨b - 1, by omega⟩
        have eB : res2 = ((every res2 n).map fun x => (List.replicate n [x]).flatten).flatten ↔ blind n res2 := ⟨fun q => blind_of (w := f + 1 + g) n0 t2.len q, fun q => each_eq (w := f + 1 + g) n0 t2.len q⟩
        refine ⟨_, rfl, ⟨_, rfl⟩, _, rfl, res2, rfl, by omega, _, rfl, _, rfl, n, rfl, by omega, _, rfl, fun D2 hD2 => lc_one walk_str (((every res2 n).map fun x => (List.replicate n [x]).flatten).map tx) (by rw [List.length_map, List.length_map]; exact (S_len _).symm) (by show (S _).length ≤ _; rw [S_len]; omega) hD2 (fun _ _ => True.intro) ?_ ?_⟩
        · rintro i x M1 M2 v hi s2 ⟨rfl, c', hc', rfl⟩ hv
          have hc' := at_S hc'
          rw [List.getElem?_map, List.getElem?_map, hc'] at hv
          cases hv
          refine ⟨.refl _, fun Q' kk => ⟨_, rfl, _, rfl, S [c'], _, rfl, rfl, mulOk_of 1000 10 (by rw [S_len]; show 1 ≤ 1000; decide) (by omega) (by omega) (by decide) (by decide), ?_⟩⟩
          rw [mul_S]
          exact kk _ (.refl _)
        · intro M1 s2 hM
          have fl : ((every res2 n).map fun x => (List.replicate n [x]).flatten).flatten.length ≤ 10000 := by
            rw [flat_len (N := n), List.length_map]
            · have : (every res2 n).length * n ≤ 729 * 9 := Nat.mul_le_mul el (by omega)
              omega
            · intro l hl
              obtain ⟨x, _, rfl⟩ := List.mem_map.mp hl
              rw [rep_flat_len]
              exact Nat.mul_one n
          refine ⟨_, _, ((every res2 n).map fun x => (List.replicate n [x]).flatten).map S, rfl, rfl, .inl (seqL_of (by rw [List.map_map (g := V.str)]; exact hM)), ?_, rfl, _, rfl, ite2 (fun h => ?_) (fun h => ?_)⟩
          · rw [sum_flat, S_len]
            exact szl (by show _ + _ * 0 ≤ _; omega)
          · have h := of_decide_eq_true h
            rw [join_flat] at h
            have bl := eB.mp (S_inj (V.str.inj h))
            have d2 : g + 1 + k = r := d2.elim id fun q => absurd bl q.2
            refine ⟨_, rfl, _, _, rfl, rfl, _, rfl, res2, rfl, by omega, _, rfl, _, rfl, n, rfl, by omega, ?_⟩
            refine ⟨s1.trans s2, by omega, g, every res2 n, some (.int (0 + (k : Nat))), tabR n0 t2, by omega, fun c o => (e2 c o).trans (semR n0 t2 bl o), .inl (by omega), ?_⟩
            show [_, _, _, _, _, _, _, some (V.int (((g + 1 : Nat) : Int) - 1)), _, _] = _
            rw [show ((g + 1 : Nat) : Int) - 1 = (g : Int) by omega]
          · have bl : ¬ blind n res2 := fun q => h (decide_eq_true (by rw [join_flat, ← eB.mpr q]))
            exact ⟨s1.trans s2, by omega, g + 1, res2, _, t2, f2, e2, .inr ⟨by omega, bl⟩, rfl⟩
      · rintro σ M ⟨s1, _, b, res2, x8, t2, f2, e2, d2, rfl⟩
        have dR : b = 0 ∨ Dep n (sem n f b res2) (b : Int) := by
          rcases d2 with q | ⟨q1, q2⟩
          · exact .inl (by have q : b + r = r := q; omega)
          · obtain ⟨g, rfl⟩ : ∃ g, b = g + 1 := ⟨b - 1, by omega⟩
            exact .inr (depR n0 t2 q2)
        exact ⟨_, rfl, _, rfl, _, rfl, by show 3 ≤ sizeLine; decide, fun q hq => z _ q f b res2 (s1.trans (ex_new hq)) ⟨t2, ⟨dL.imp id fun d => dep_congr e2 d, dR⟩, fun c o => (e1 c o).trans (e2 c o), f1, f2⟩ upd_same⟩
end
end K42

end
section
set_option Elab.async false
set_option linter.all false
set_option maxRecDepth 100000
set_option maxHeartbeats 4000000
namespace K42
open PySem PySem.Spec PyProof.Rows L2 Kit K40 K4B
section
variable {P : Program} {w : World} {K : PySem.W.Frag} {mg : Str → Option Value} {base : Heap} {a : Ad}
def spJoined : Sp := fun vs H Q _ => ∃ (c1 c2 : Addr) (n l r l2 r2 : Nat) (res res2 : List Nat), vs = [tx (cols n), .ref c1, .ref c2] ∧ 2 ≤ n ∧ n ≤ 9 ∧ H c1 = some (tb l r res) ∧ H c2 = some (tb l2 r2 res2) ∧ Tab n l r res ∧ Tab n l2 r2 res2 ∧ n ^ (l + l2 + 1 + (r + r2)) ≤ 729 ∧
  ∀ G q (l' r' : Nat) res', Same H G → Lf n (l + l2) (r + r2) (prodT n l r res l2 r2 res2) l' r' res' → G q = some (tb l' r' res') → Q (.ref q) G
theorem c_law_joined (T : Txt K mg a) : Can P w K mg base 3 "_law_joined" spJoined := by
  refine can_of T.d_law_joined sc_law_joined bd_law_joined (fun vs H Q E h => ?_) (fun f0 cdv A outer s0 H vs Q E hr h => ?_)
  · obtain ⟨c1, c2, n, l, r, l2, r2, res, res2, rfl, _⟩ := h
    rfl
  · obtain ⟨c1, c2, n, l, r, l2, r2, res, res2, rfl, n2, n9, h1, h2, t1, t2, hw, z⟩ := h
    refine ⟨_, (pss_cons (ps_set (i := 3) sc_law_joined.nd rfl (.inr rfl) (pe_op op_add (pe_op op_add (pe_ix (kix_tup K) (pv 1) pe_int (fun _ _ => rfl)) pe_int) (pe_ix (kix_tup K) (pv 1) pe_int (fun _ _ => rfl))))
      (pss_cons (ps_set (i := 4) sc_law_joined.nd rfl (.inr rfl) (pc_f (c_law_table T) hr (by decide) (by rfl) (pa_cons (pv 0) (pa_cons (pv 3) (pa_cons (pe_ix (kix_tup K) (pv 1) pe_int (fun _ _ => rfl)) pa_nil)))))
      (pss_cons (ps_set (i := 5) sc_law_joined.nd rfl (.inr rfl) (pc_f (c_law_table T) hr (by decide) (by rfl) (pa_cons (pv 0) (pa_cons (pe_op op_add (pe_op op_add (pe_ix (kix_tup K) (pv 2) pe_int (fun _ _ => rfl)) pe_int) (pe_ix (kix_tup K) (pv 2) pe_int (fun _ _ => rfl))) (pa_cons (pe_ix (kix_tup K) (pv 2) pe_int (fun _ _ => rfl)) pa_nil)))))
      (pss_cons (ps_set (i := 6) sc_law_joined.nd rfl (.inl rfl) (pc_f (c_law_windows T) hr (by decide) (by rfl) (pa_cons (pv 0) (pa_cons (pe_op op_add (pe_op op_add (pv 3) (pe_ix (kix_tup K) (pv 2) pe_int (fun _ _ => rfl))) (pe_ix (kix_tup K) (pv 2) pe_int (fun _ _ => rfl))) pa_nil))))
      (pss_cons (ps_set (i := 7) sc_law_joined.nd rfl (.inl rfl) (kjoin K pe_str (pe_lc (own := [("window", 8)]) (g := gName 8) (tt := tYes) (by rfl) sc_law_joined.nd (kpi_list K (pv 6)) (blkOk_by (N := N_law_joined) (sc := defScope s_law_joined) (by decide +kernel)) (fun _ _ _ _ _ => (pg_name (i := 8) sc_law_joined.nd rfl (.inl rfl))) (fun _ _ _ _ _ => pts_nil) (fun _ _ _ _ _ => (pe_dget (units1 hr) (pv 5) (pc_f (c_law_inner T) hr (by decide) (by rfl) (pa_cons (pv 4) (pa_cons (pv 3) (pa_cons (pv 8) pa_nil)))) (fun _ _ => rfl))))))
      (pss_one (ps_ret (pc_f (c_law_least T) hr (by decide) (by rfl) (pa_cons (pv 0) (pa_cons (pe_tup (pa_cons (pe_op op_add (pe_ix (kix_tup K) (pv 1) pe_int (fun _ _ => rfl)) (pe_ix (kix_tup K) (pv 2) pe_int (fun _ _ => rfl))) (pa_cons (pe_op op_add (pe_ix (kix_tup K) (pv 1) pe_int (fun _ _ => rfl)) (pe_ix (kix_tup K) (pv 2) pe_int (fun _ _ => rfl))) (pa_cons (pv 7) pa_nil)))) pa_nil)))))))))), ?_⟩
    rw [lit_e]
    have n0 : 0 < n := by omega
    have w9 := small_w n2 hw
    have hw1 : n ^ (l + 1 + r) ≤ 729 := Nat.le_trans (Nat.pow_le_pow_right n0 (by omega)) hw
    have hw2 : n ^ (l2 + 1 + r2) ≤ 729 := Nat.le_trans (Nat.pow_le_pow_right n0 (by omega)) hw
    have ew : l + 1 + r + l2 + r2 = l + l2 + 1 + (r + r2) := by omega
    refine ⟨_, rfl, c1, _, 0, _, rfl, rfl, seqT_of h1, rfl, _, _, rfl, rfl, _, rfl, c1, _, 1, _, rfl, rfl, seqT_of h1, rfl, _, _, rfl, rfl, ?_⟩
    refine ⟨_, rfl, _, rfl, _, rfl, c1, _, 2, _, rfl, rfl, seqT_of h1, rfl, n, l + 1 + r, res, rfl, n2, n9, hw1, t1.len, fun G1 D1 k1 hD1 hG1 => ?_⟩
    have h2' := k1 _ _ h2
    refine ⟨_, rfl, _, rfl, c2, _, 0, _, rfl, rfl, seqT_of h2', rfl, _, _, rfl, rfl, _, rfl, c2, _, 1, _, rfl, rfl, seqT_of h2', rfl, _, _, rfl, rfl, _, rfl, c2, _, 2, _, rfl, rfl, seqT_of h2', rfl, n, l2 + 1 + r2, res2, rfl, n2, n9, hw2, t2.len, fun G2 D2 k2 hD2 hG2 => ?_⟩
    have k12 := k1.trans k2
    have h2' := k12 _ _ h2
    refine ⟨_, rfl, _, rfl, _, rfl, c2, _, 0, _, rfl, rfl, seqT_of h2', rfl, _, _, rfl, rfl, _, rfl, c2, _, 1, _, rfl, rfl, seqT_of h2', rfl, _, _, rfl, rfl, n, l + 1 + r + l2 + r2, rfl, n2, n9, by rw [ew]; exact hw, fun G3 q k3 hq hG3 => ?_⟩
    rw [ew] at hG3
    have hD1' := k3 _ _ (k2 _ _ hG1)
    have hD2' := k3 _ _ hG2
    have k13 := k12.trans k3
    have lw : ((words n (l + l2 + 1 + (r + r2))).map tx).length = n ^ (l + l2 + 1 + (r + r2)) := by rw [List.length_map, words_len]
    have lp : (prodT n l r res l2 r2 res2).length = n ^ (l + l2 + 1 + (r + r2)) := by unfold prodT; rw [List.length_map, words_len]
    refine ⟨⟨_, rfl⟩, _, rfl, q, rfl, ⟨_, seqL_of hG3⟩, fun D hD => lc_one (walk_list (xs := (words n (l + l2 + 1 + (r + r2))).map tx)) ((prodT n l r res l2 r2 res2).map fun x => tx [x]) (by rw [List.length_map, lp, lw]) (by rw [lw]; omega) hD (fun M s => seqL_of (s _ _ hG3)) ?_ ?_⟩
    · rintro i x M M' v hi s1 ⟨rfl, hx⟩ hv
      rw [lw] at hi
      unfold prodT at hv
      rw [List.getElem?_map, words_at hi] at hx
      rw [List.getElem?_map, List.getElem?_map, words_at hi] at hv
      cases hx
      cases hv
      have lu := wdig_len n (l + l2 + 1 + (r + r2)) i
      have su := wdig_strip n0 (l + l2 + 1 + (r + r2)) i
      generalize wdig n (l + l2 + 1 + (r + r2)) i = u at *
      have li := inn_one (res := res) (n := n) lu
      have si := inn_strip t1 su
      refine ⟨.refl _, fun Q' kk => ?_⟩
      refine ⟨_, rfl, _, rfl, _, rfl, _, rfl, D1, n, l, r, res, u, rfl, n0, s1 _ _ hD1', t1, by omega, by omega, su, fun G4 k4 => ⟨D2, tx [prodF n l r res l2 r2 res2 u], rfl, ?_, kk _ k4⟩⟩
      have g := DGet.k (k := Sum.inr (S (inn n l r res u))) (k4 _ _ (s1 _ _ hD2'))
      rw [news_at n0 t2.len si li] at g
      exact g
    · intro M s1 hM
      refine ⟨_, _, (prodT n l r res l2 r2 res2).map fun y => S [y], rfl, rfl, .inl (seqL_of (by rw [List.map_map]; exact hM)), ?_, ?_⟩
      · rw [sum_ones, List.length_map, lp, S_len]
        exact szl (by show _ + _ * 0 ≤ _; omega)
      · rw [join_ones]
        have k14 := k13.trans s1
        have h1' := k14 _ _ h1
        have h2' := k14 _ _ h2
        refine ⟨_, rfl, _, rfl, c1, _, 0, _, rfl, rfl, seqT_of h1', rfl, _, rfl, c2, _, 0, _, rfl, rfl, seqT_of h2', rfl, _, _, rfl, rfl, _, rfl, c1, _, 1, _, rfl, rfl, seqT_of h1', rfl, _, rfl, c2, _, 1, _, rfl, rfl, seqT_of h2', rfl, _, _, rfl, rfl, _, rfl, by show 3 ≤ sizeLine; decide, fun c3 hc3 => ?_⟩
        exact ⟨c3, n, l + l2, r + r2, prodT n l r res l2 r2 res2, rfl, n2, n9, upd_same, prod_tab n0 t1 t2, hw, fun G q l' r' res' k lf hq => z G q l' r' res' ((k14.trans (ex_new hc3)).trans k) lf hq⟩
def spImage : Sp := fun vs H Q _ => ∃ (D q : Addr) (n l r : Nat) (res le m re : List Nat) (t : Int), vs = [.ref D, .int (l : Nat), .int (r : Nat), .ref q] ∧ 0 < n ∧ H D = some (.dK (newsL n (l + 1 + r) res)) ∧ Tab n l r res ∧ l + r ≤ 20 ∧ H q = some (tpl le m re t) ∧ PartOk n le m re t ∧ -4000 ≤ t ∧ t ≤ 4000 ∧
  ∀ G q2, Same H G → G q2 = some (tpl (win (img n l r res (wd le m re t)) (t - r - le.length) le.length) (win (img n l r res (wd le m re t)) (t - r) (m.length + l + r)) (win (img n l r res (wd le m re t)) (t + m.length + l) re.length) (t - r)) → Q (.ref q2) G
theorem c_law_image (T : Txt K mg a) : Can P w K mg base 3 "_law_image" spImage := by
  refine can_of T.d_law_image sc_law_image bd_law_image (fun vs H Q E h => ?_) (fun f0 cdv A outer s0 H vs Q E hr h => ?_)
  · obtain ⟨D, q, n, l, r, res, le, m, re, t, rfl, _⟩ := h
    rfl
  · obtain ⟨D, q, n, l, r, res, le, m, re, t, rfl, n0, hD, tab, w9, hq, ok, b1, b2, z⟩ := h
    refine ⟨_, (pss_cons (ps_set (i := 4) sc_law_image.nd rfl (.inl rfl) (pe_op op_sub (pe_ix (kix_tup K) (pv 3) pe_int (fun _ _ => rfl)) (pv 2)))
      (pss_cons (ps_set (i := 5) sc_law_image.nd rfl (.inl rfl) (pe_op op_add (pe_op op_add (pe_ix (kix_tup K) (pv 3) pe_int (fun _ _ => rfl)) (pe_callB call_len_str (by rfl) T.b_len (by decide +kernel) (pa_cons (pe_ix (kix_tup K) (pv 3) pe_int (fun _ _ => rfl)) pa_nil))) (pv 1)))
      (pss_cons (ps_set (i := 6) sc_law_image.nd rfl (.inl rfl) (pe_op op_sub (pv 4) (pe_callB call_len_str (by rfl) T.b_len (by decide +kernel) (pa_cons (pe_ix (kix_tup K) (pv 3) pe_int (fun _ _ => rfl)) pa_nil))))
      (pss_cons (ps_set (i := 7) sc_law_image.nd rfl (.inl rfl) (pe_op op_add (pv 5) (pe_callB call_len_str (by rfl) T.b_len (by decide +kernel) (pa_cons (pe_ix (kix_tup K) (pv 3) pe_int (fun _ _ => rfl)) pa_nil))))
      (pss_cons (ps_set (i := 8) sc_law_image.nd rfl (.inl rfl) (kjoin K pe_str (pe_lc (own := [("at", 9)]) (g := gName 9) (tt := tYes) (by rfl) sc_law_image.nd (pi_range2 (by rfl) T.b_range (pa_cons (pv 6) (pa_cons (pv 7) pa_nil))) (blkOk_by (N := N_law_image) (sc := defScope s_law_image) (by decide +kernel)) (fun _ _ _ _ _ => (pg_name (i := 9) sc_law_image.nd rfl (.inl rfl))) (fun _ _ _ _ _ => pts_nil) (fun _ _ _ _ _ => (pe_dget (units1 hr) (pv 0) (pc_f (c_law_text T) hr (by decide) (by rfl) (pa_cons (pv 3) (pa_cons (pe_op op_sub (pv 9) (pv 1)) (pa_cons (pe_op op_add (pe_op op_add (pv 9) (pv 2)) pe_int) pa_nil)))) (fun _ _ => rfl))))))
      (pss_one (ps_ret (pe_tup (pa_cons (pe_slice sl_str (pv 8) po_none (po_some (pe_op op_sub (pv 4) (pv 6)))) (pa_cons (pe_slice sl_str (pv 8) (po_some (pe_op op_sub (pv 4) (pv 6))) (po_some (pe_op op_sub (pv 5) (pv 6)))) (pa_cons (pe_slice sl_str (pv 8) (po_some (pe_op op_sub (pv 5) (pv 6))) po_none) (pa_cons (pv 4) pa_nil)))))))))))), ?_⟩
    rw [lit_e]
    have l6 := ok.l6
    have r6 := ok.r6
    have m1 := ok.m1
    have szL : (S le).length ≤ sizeLine := by rw [S_len]; exact szl (by omega)
    have szM : (S m).length ≤ sizeLine := by rw [S_len]; exact szl (by omega)
    have szR : (S re).length ≤ sizeLine := by rw [S_len]; exact szl (by omega)
    refine ⟨_, rfl, q, _, 3, _, rfl, rfl, seqT_of hq, rfl, _, rfl, _, _, rfl, rfl, ?_⟩
    refine ⟨_, rfl, q, _, 3, _, rfl, rfl, seqT_of hq, rfl, _, rfl, q, _, 1, _, rfl, rfl, seqT_of hq, rfl, _, rfl, szM, _, _, rfl, rfl, _, rfl, _, _, rfl, rfl, ?_⟩
    refine ⟨_, rfl, _, rfl, q, _, 0, _, rfl, rfl, seqT_of hq, rfl, _, rfl, szL, _, _, rfl, rfl, ?_⟩
    refine ⟨_, rfl, _, rfl, q, _, 2, _, rfl, rfl, seqT_of hq, rfl, _, rfl, szR, _, _, rfl, rfl, ?_⟩
    have wok : Ok n (wd le m re t) := wd_ok ok
    generalize hI : img n l r res (wd le m re t) = I at z
    refine ⟨⟨_, rfl⟩, _, rfl, _, rfl, t - r - le.length, t + m.length + l + re.length, by show [V.int (t - (r : Int) - ((S le).length : Int)), V.int (t + ((S m).length : Int) + (l : Int) + ((S re).length : Int))] = _; rw [S_len, S_len, S_len], ⟨by omega, by omega, by omega, by omega⟩, fun D1 hD1 => ?_⟩
    have en : (t + m.length + l + re.length - (t - r - le.length)).toNat = le.length + (m.length + l + r) + re.length := by omega
    refine lc_one (walk_range (lo := t - r - le.length) (n := (t + m.length + l + re.length - (t - r - le.length)).toNat)) ((win I (t - r - le.length) (le.length + (m.length + l + r) + re.length)).map fun c => tx [c]) (by rw [List.length_map, win_len, en]) (by rw [en]; omega) hD1 (fun _ _ => True.intro) ?_ ?_
    · rintro i c G G' v hi s1 ⟨rfl, rfl⟩ hv
      rw [en] at hi
      rw [List.getElem?_map, win_at hi] at hv
      cases hv
      refine ⟨.refl _, fun Q' kk => ⟨_, rfl, _, rfl, _, rfl, _, rfl, _, _, rfl, rfl, _, rfl, _, rfl, _, _, rfl, rfl, _, _, rfl, rfl, q, n, le, m, re, t, t - r - le.length + i - l, t - r - le.length + i + r + 1, rfl, s1 _ _ hq, ok, by omega, by omega, by omega, by omega, fun G4 k4 => ⟨D, tx [I (t - r - le.length + i)], rfl, ?_, kk _ k4⟩⟩⟩
      rw [show (t - r - le.length + i + r + 1 - (t - r - le.length + (i : Int) - l)).toNat = l + 1 + r by omega]
      have v := news_at (w := l + 1 + r) n0 tab.len (win_ok wok (t - r - le.length + i - l) (l + 1 + r)) (win_len ..)
      have g := DGet.k (k := Sum.inr (S (win (wd le m re t) (t - r - le.length + i - l) (l + 1 + r)))) (k4 _ _ (s1 _ _ hD))
      rw [v, ← img_at, show t - r - le.length + (i : Int) - l + l = t - r - le.length + i by omega] at g
      rw [← hI]
      exact g
    · intro M s1 hM
      have lT : (win I (t - r - le.length) (le.length + (m.length + l + r) + re.length)).length = le.length + (m.length + l + r) + re.length := win_len ..
      refine ⟨_, _, (win I (t - r - le.length) (le.length + (m.length + l + r) + re.length)).map fun y => S [y], rfl, rfl, .inl (seqL_of (by rw [List.map_map]; exact hM)), ?_, ?_⟩
      · rw [sum_ones, lT, S_len, List.length_map, lT]
        exact szl (by show _ + _ * 0 ≤ _; omega)
      · rw [join_ones]
        have szT : (S (win I (t - r - le.length) (le.length + (m.length + l + r) + re.length))).length ≤ sizeLine := by rw [S_len, lT]; exact szl (by omega)
        refine ⟨_, rfl, _, rfl, _, rfl, _, _, rfl, rfl, _, rfl, _, rfl, szT, _, rfl, _, rfl, _, rfl, _, _, rfl, rfl, _, rfl, _, rfl, _, rfl, _, _, rfl, rfl, _, rfl, _, rfl, szT, _, rfl, _, rfl, _, rfl, _, _, rfl, rfl, _, rfl, _, rfl, szT, _, rfl, by show 4 ≤ sizeLine; decide, fun y hy => ?_⟩
        refine z _ y (s1.trans (ex_new hy)) (upd_same.trans (congrArg some ?_))
        have e1 : t - (r : Int) - (t - r - ((S le).length : Int)) = ((le.length : Nat) : Int) := by rw [S_len]; omega
        have e2 : t + ((S m).length : Int) + (l : Int) - (t - r - ((S le).length : Int)) = ((le.length + (m.length + l + r) : Nat) : Int) := by rw [S_len, S_len]; omega
        show HO.tup [.str (cutS _ none (some (t - (r : Int) - (t - r - ((S le).length : Int))))), .str (cutS _ (some (t - (r : Int) - (t - r - ((S le).length : Int)))) (some (t + ((S m).length : Int) + (l : Int) - (t - r - ((S le).length : Int))))), .str (cutS _ (some (t + ((S m).length : Int) + (l : Int) - (t - r - ((S le).length : Int)))) none), .int (t - r)] = _
        have w1 := win_drop I (t - r - le.length) 0 le.length (le.length + (m.length + l + r) + re.length) (by omega)
        have w2 := win_drop I (t - r - le.length) le.length (m.length + l + r) (le.length + (m.length + l + r) + re.length) (by omega)
        have w3 := win_drop I (t - r - le.length) (le.length + (m.length + l + r)) re.length (le.length + (m.length + l + r) + re.length) (by omega)
        rw [List.drop_zero, show t - (r : Int) - (le.length : Int) + ((0 : Nat) : Int) = t - r - le.length by omega] at w1
        rw [show t - (r : Int) - (le.length : Int) + (le.length : Int) = t - r by omega] at w2
        rw [show t - (r : Int) - (le.length : Int) + ((le.length + (m.length + l + r) : Nat) : Int) = t + m.length + l by omega, List.take_of_length_le (by rw [List.length_drop, lT]; omega)] at w3
        rw [e1, e2, cut_take, cut_mid _ _ _ (by rw [lT]; omega), cut_drop, w1, w2, w3]
end
end K42

end
section
set_option Elab.async false
set_option linter.all false
set_option maxRecDepth 100000
set_option maxHeartbeats 4000000
namespace K42
open PySem PySem.Spec PyProof.Rows L2 Kit K40 K4B
theorem pick16 {d : Int} (h0 : 0 ≤ d) (h1 : d < 16) : ∃ k : Nat, k < 8 ∧ atI [V.int 0, .int 0, .int 0, .int 0, .int 0, .int 0, .int 0, .int 1, .int 2, .int 2, .int 3, .int 4, .int 4, .int 5, .int 6, .int 7] d = some (.int k) := by
  obtain ⟨j, rfl⟩ := Int.eq_ofNat_of_zero_le h0
  have hj : j < 16 := by omega
  match j, hj with
  | 0, _ => exact ⟨0, by decide, rfl⟩
  | 1, _ => exact ⟨0, by decide, rfl⟩
  | 2, _ => exact ⟨0, by decide, rfl⟩
  | 3, _ => exact ⟨0, by decide, rfl⟩
  | 4, _ => exact ⟨0, by decide, rfl⟩
  | 5, _ => exact ⟨0, by decide, rfl⟩
  | 6, _ => exact ⟨0, by decide, rfl⟩
  | 7, _ => exact ⟨1, by decide, rfl⟩
  | 8, _ => exact ⟨2, by decide, rfl⟩
  | 9, _ => exact ⟨2, by decide, rfl⟩
  | 10, _ => exact ⟨3, by decide, rfl⟩
  | 11, _ => exact ⟨4, by decide, rfl⟩
  | 12, _ => exact ⟨4, by decide, rfl⟩
  | 13, _ => exact ⟨5, by decide, rfl⟩
  | 14, _ => exact ⟨6, by decide, rfl⟩
  | 15, _ => exact ⟨7, by decide, rfl⟩
theorem pick8 {d : Int} (h0 : 0 ≤ d) (h1 : d < 8) : ∃ k : Nat, k ≤ 40 ∧ atI [V.int 0, .int 1, .int 2, .int 3, .int 4, .int 5, .int 6, .int 40] d = some (.int k) := by
  obtain ⟨j, rfl⟩ := Int.eq_ofNat_of_zero_le h0
  have hj : j < 8 := by omega
  match j, hj with
  | 0, _ => exact ⟨0, by decide, rfl⟩
  | 1, _ => exact ⟨1, by decide, rfl⟩
  | 2, _ => exact ⟨2, by decide, rfl⟩
  | 3, _ => exact ⟨3, by decide, rfl⟩
  | 4, _ => exact ⟨4, by decide, rfl⟩
  | 5, _ => exact ⟨5, by decide, rfl⟩
  | 6, _ => exact ⟨6, by decide, rfl⟩
  | 7, _ => exact ⟨40, by decide, rfl⟩
theorem cols_last {N : Nat} (h2 : 2 ≤ N) (h9 : N ≤ 9) : atI (S (cols N)).cps.toList (-1) = some (96 + N) := by
  have e : ∀ N ≤ 9, 2 ≤ N → atI (S (cols N)).cps.toList (-1) = some (96 + N) := by decide +kernel
  exact e N h9 h2
section
variable {P : Program} {w : World} {K : PySem.W.Frag} {mg : Str → Option Value} {base : Heap} {a : Ad}
def spShape : Sp := fun vs H Q _ => ∃ (p : Addr) (n : Nat), vs = [.ref p] ∧ BoxAt (n + 1) H p ∧ ∀ (G : Hp) (q : Addr) (R C N mo to : Nat), Bu n p H G → G q = some (.tup [.int (R : Nat), .int (C : Nat), tx (cols N), .int (mo : Nat), .int (to : Nat)]) → Good R C N → 1 ≤ mo → 1 ≤ to → to ≤ mo → N ^ (mo + 1) ≤ 729 → Q (.ref q) G
theorem c_law_shape (T : Txt K mg a) : Can P w K mg base 2 "_law_shape" spShape := by
  refine can_of T.d_law_shape sc_law_shape bd_law_shape (fun vs H Q E h => ?_) (fun f cdv A outer s H vs Q E hr h => ?_)
  · obtain ⟨p, n, rfl, _⟩ := h
    rfl
  · obtain ⟨p, n, rfl, hb, z⟩ := h
    refine ⟨_, (pss_cons (ps_set (i := 1) sc_law_shape.nd rfl (.inl rfl) (pe_ix (kix_list K) (pe_lst (pa_cons pe_int (pa_cons pe_int (pa_cons pe_int (pa_cons pe_int (pa_cons pe_int (pa_cons pe_int (pa_cons pe_int (pa_cons pe_int (pa_cons pe_int (pa_cons pe_int (pa_cons pe_int (pa_cons pe_int (pa_cons pe_int (pa_cons pe_int (pa_cons pe_int (pa_cons pe_int pa_nil))))))))))))))))) (pc_f (c_law_draw T) hr (by decide) (by rfl) (pa_cons (pv 0) (pa_cons pe_int pa_nil))) (fun _ _ => rfl)))
      (pss_cons (ps_set (i := 2) sc_law_shape.nd rfl (.inl rfl) (pe_lst (pa_cons (pe_tup (pa_cons pe_int (pa_cons pe_int (pa_cons pe_str (pa_cons pe_int (pa_cons pe_int pa_nil)))))) (pa_cons (pe_tup (pa_cons pe_int (pa_cons pe_int (pa_cons pe_str (pa_cons pe_int (pa_cons pe_int pa_nil)))))) (pa_cons (pe_tup (pa_cons pe_int (pa_cons pe_int (pa_cons pe_str (pa_cons pe_int (pa_cons pe_int pa_nil)))))) (pa_cons (pe_tup (pa_cons pe_int (pa_cons pe_int (pa_cons pe_str (pa_cons pe_int (pa_cons pe_int pa_nil)))))) pa_nil))))))
      (pss_cons (ps_set (i := 2) sc_law_shape.nd rfl (.inl rfl) (pe_op op_cat (pv 2) (pe_lst (pa_cons (pe_tup (pa_cons pe_int (pa_cons pe_int (pa_cons pe_str (pa_cons pe_int (pa_cons pe_int pa_nil)))))) (pa_cons (pe_tup (pa_cons pe_int (pa_cons pe_int (pa_cons pe_str (pa_cons pe_int (pa_cons pe_int pa_nil)))))) (pa_cons (pe_tup (pa_cons pe_int (pa_cons pe_int (pa_cons pe_str (pa_cons pe_int (pa_cons pe_int pa_nil)))))) pa_nil))))))
      (pss_one (ps_ret (pe_ix (kix_list K) (pe_op op_cat (pv 2) (pe_lst (pa_cons (pe_tup (pa_cons pe_int (pa_cons pe_int (pa_cons pe_str (pa_cons pe_int (pa_cons pe_int pa_nil)))))) pa_nil))) (pv 1) (fun _ _ => rfl))))))), ?_⟩
    rw [lit_c2, lit_c3, lit_c4, lit_c8, lit_c9]
    refine ⟨by show 16 ≤ sizeLine; decide, fun q hq => ?_⟩
    have b0 := (Bu.refl hb).put hb hq (o := .lst [V.int 0, .int 0, .int 0, .int 0, .int 0, .int 0, .int 0, .int 1, .int 2, .int 2, .int 3, .int 4, .int 4, .int 5, .int 6, .int 7])
    refine ⟨_, rfl, p, 16, n, rfl, b0.box, by decide, by decide, fun d G d0 d1 b1 => ?_⟩
    obtain ⟨k, hk, hix⟩ := pick16 d0 d1
    refine ⟨q, _, d, _, rfl, rfl, seqL_of (b1.1 _ _ upd_same (box_ne hb hq)), hix, ?_⟩
    have b2 := b0.trans b1
    refine ⟨by show 5 ≤ sizeLine; decide, fun t0 h0 => ?_⟩
    have e0 := ex_new h0 (o := .tup [.int 1, .int 2, tx (cols 2), .int 3, .int 3])
    have u0 := b2.put hb (bu_free b2 h0) (o := .tup [.int 1, .int 2, tx (cols 2), .int 3, .int 3])
    refine ⟨by show 5 ≤ sizeLine; decide, fun t1 h1 => ?_⟩
    have e1 := ex_new h1 (o := .tup [.int 1, .int 2, tx (cols 2), .int 6, .int 5])
    have u1 := u0.put hb (bu_free u0 h1) (o := .tup [.int 1, .int 2, tx (cols 2), .int 6, .int 5])
    refine ⟨by show 5 ≤ sizeLine; decide, fun t2 h2 => ?_⟩
    have e2 := ex_new h2 (o := .tup [.int 1, .int 3, tx (cols 3), .int 2, .int 2])
    have u2 := u1.put hb (bu_free u1 h2) (o := .tup [.int 1, .int 3, tx (cols 3), .int 2, .int 2])
    refine ⟨by show 5 ≤ sizeLine; decide, fun t3 h3 => ?_⟩
    have e3 := ex_new h3 (o := .tup [.int 1, .int 3, tx (cols 3), .int 4, .int 4])
    have u3 := u2.put hb (bu_free u2 h3) (o := .tup [.int 1, .int 3, tx (cols 3), .int 4, .int 4])
    refine ⟨by show 4 ≤ sizeLine; decide, fun a1 h4 => ?_⟩
    have e4 := ex_new h4 (o := .lst [.ref t0, .ref t1, .ref t2, .ref t3])
    have u4 := u3.put hb (bu_free u3 h4) (o := .lst [.ref t0, .ref t1, .ref t2, .ref t3])
    refine ⟨_, rfl, by show 5 ≤ sizeLine; decide, fun t4 h5 => ?_⟩
    have e5 := ex_new h5 (o := .tup [.int 2, .int 2, tx (cols 4), .int 2, .int 2])
    have u5 := u4.put hb (bu_free u4 h5) (o := .tup [.int 2, .int 2, tx (cols 4), .int 2, .int 2])
    refine ⟨by show 5 ≤ sizeLine; decide, fun t5 h6 => ?_⟩
    have e6 := ex_new h6 (o := .tup [.int 2, .int 2, tx (cols 4), .int 3, .int 3])
    have u6 := u5.put hb (bu_free u5 h6) (o := .tup [.int 2, .int 2, tx (cols 4), .int 3, .int 3])
    refine ⟨by show 5 ≤ sizeLine; decide, fun t6 h7 => ?_⟩
    have e7 := ex_new h7 (o := .tup [.int 3, .int 2, tx (cols 8), .int 2, .int 2])
    have u7 := u6.put hb (bu_free u6 h7) (o := .tup [.int 3, .int 2, tx (cols 8), .int 2, .int 2])
    refine ⟨by show 3 ≤ sizeLine; decide, fun a2 h8 => ?_⟩
    have e8 := ex_new h8 (o := .lst [.ref t4, .ref t5, .ref t6])
    have u8 := u7.put hb (bu_free u7 h8) (o := .lst [.ref t4, .ref t5, .ref t6])
    refine ⟨a1, a2, _, _, rfl, rfl, (e8 _ _ (e7 _ _ (e6 _ _ (e5 _ _ upd_same)))), upd_same, by show 7 ≤ sizeLine; decide, fun a3 h9 => ?_⟩
    have e9 := ex_new h9 (o := .lst ([V.ref t0, .ref t1, .ref t2, .ref t3] ++ [V.ref t4, .ref t5, .ref t6]))
    have u9 := u8.put hb (bu_free u8 h9) (o := .lst ([V.ref t0, .ref t1, .ref t2, .ref t3] ++ [V.ref t4, .ref t5, .ref t6]))
    refine ⟨_, rfl, by show 5 ≤ sizeLine; decide, fun t7 h10 => ?_⟩
    have e10 := ex_new h10 (o := .tup [.int 2, .int 3, tx (cols 9), .int 2, .int 2])
    have u10 := u9.put hb (bu_free u9 h10) (o := .tup [.int 2, .int 3, tx (cols 9), .int 2, .int 2])
    refine ⟨by show 1 ≤ sizeLine; decide, fun a4 h11 => ?_⟩
    have e11 := ex_new h11 (o := .lst [.ref t7])
    have u11 := u10.put hb (bu_free u10 h11) (o := .lst [.ref t7])
    refine ⟨a3, a4, _, _, rfl, rfl, (e11 _ _ (e10 _ _ upd_same)), upd_same, by show 8 ≤ sizeLine; decide, fun a5 h12 => ?_⟩
    have e12 := ex_new h12 (o := .lst (([V.ref t0, .ref t1, .ref t2, .ref t3] ++ [V.ref t4, .ref t5, .ref t6]) ++ [V.ref t7]))
    have u12 := u11.put hb (bu_free u11 h12) (o := .lst (([V.ref t0, .ref t1, .ref t2, .ref t3] ++ [V.ref t4, .ref t5, .ref t6]) ++ [V.ref t7]))
    match k, hk with
    | 0, _ => exact ⟨_, rfl, a5, _, 0, _, rfl, rfl, seqL_of upd_same, rfl, z _ t0 1 2 2 3 3 u12 (e12 _ _ (e11 _ _ (e10 _ _ (e9 _ _ (e8 _ _ (e7 _ _ (e6 _ _ (e5 _ _ (e4 _ _ (e3 _ _ (e2 _ _ (e1 _ _ upd_same)))))))))))) (by decide) (by decide) (by decide) (by decide) (by decide)⟩
    | 1, _ => exact ⟨_, rfl, a5, _, 1, _, rfl, rfl, seqL_of upd_same, rfl, z _ t1 1 2 2 6 5 u12 (e12 _ _ (e11 _ _ (e10 _ _ (e9 _ _ (e8 _ _ (e7 _ _ (e6 _ _ (e5 _ _ (e4 _ _ (e3 _ _ (e2 _ _ upd_same))))))))))) (by decide) (by decide) (by decide) (by decide) (by decide)⟩
    | 2, _ => exact ⟨_, rfl, a5, _, 2, _, rfl, rfl, seqL_of upd_same, rfl, z _ t2 1 3 3 2 2 u12 (e12 _ _ (e11 _ _ (e10 _ _ (e9 _ _ (e8 _ _ (e7 _ _ (e6 _ _ (e5 _ _ (e4 _ _ (e3 _ _ upd_same)))))))))) (by decide) (by decide) (by decide) (by decide) (by decide)⟩
    | 3, _ => exact ⟨_, rfl, a5, _, 3, _, rfl, rfl, seqL_of upd_same, rfl, z _ t3 1 3 3 4 4 u12 (e12 _ _ (e11 _ _ (e10 _ _ (e9 _ _ (e8 _ _ (e7 _ _ (e6 _ _ (e5 _ _ (e4 _ _ upd_same))))))))) (by decide) (by decide) (by decide) (by decide) (by decide)⟩
    | 4, _ => exact ⟨_, rfl, a5, _, 4, _, rfl, rfl, seqL_of upd_same, rfl, z _ t4 2 2 4 2 2 u12 (e12 _ _ (e11 _ _ (e10 _ _ (e9 _ _ (e8 _ _ (e7 _ _ (e6 _ _ upd_same))))))) (by decide) (by decide) (by decide) (by decide) (by decide)⟩
    | 5, _ => exact ⟨_, rfl, a5, _, 5, _, rfl, rfl, seqL_of upd_same, rfl, z _ t5 2 2 4 3 3 u12 (e12 _ _ (e11 _ _ (e10 _ _ (e9 _ _ (e8 _ _ (e7 _ _ upd_same)))))) (by decide) (by decide) (by decide) (by decide) (by decide)⟩
    | 6, _ => exact ⟨_, rfl, a5, _, 6, _, rfl, rfl, seqL_of upd_same, rfl, z _ t6 3 2 8 2 2 u12 (e12 _ _ (e11 _ _ (e10 _ _ (e9 _ _ (e8 _ _ upd_same))))) (by decide) (by decide) (by decide) (by decide) (by decide)⟩
    | 7, _ => exact ⟨_, rfl, a5, _, 7, _, rfl, rfl, seqL_of upd_same, rfl, z _ t7 2 3 9 2 2 u12 (e12 _ _ (e11 _ _ upd_same)) (by decide) (by decide) (by decide) (by decide) (by decide)⟩
def spLBlock : Sp := fun vs H Q _ => ∃ (p : Addr) (N k mo : Nat), vs = [.ref p, tx (cols N), .int (mo : Nat)] ∧ BoxAt (k + 2003) H p ∧ 2 ≤ N ∧ N ≤ 9 ∧ 1 ≤ mo ∧ N ^ mo ≤ 729 ∧ ∀ (G : Hp) (q : Addr) (l r : Nat) res, Bu k p H G → G q = some (tb l r res) → Tab N l r res → l + 1 + r ≤ mo → Q (.ref q) G
theorem c_law_block (T : Txt K mg a) : Can P w K mg base 5 "_law_block" spLBlock := by
  refine can_of T.d_law_block sc_law_block bd_law_block (fun vs H Q E h => ?_) (fun f cdv A outer s H vs Q E hr h => ?_)
  · obtain ⟨p, N, k, mo, rfl, _⟩ := h
    rfl
  · obtain ⟨p, N, k, mo, rfl, hb, N2, N9, hmo, hN, z⟩ := h
    refine ⟨_, (pss_cons (ps_set (i := 3) sc_law_block.nd rfl (.inl rfl) (pe_op op_add pe_int (pc_f (c_law_draw T) hr (by decide) (by rfl) (pa_cons (pv 0) (pa_cons (pv 2) pa_nil)))))
      (pss_cons (ps_set (i := 4) sc_law_block.nd rfl (.inl rfl) (pc_f (c_law_draw T) hr (by decide) (by rfl) (pa_cons (pv 0) (pa_cons pe_int pa_nil))))
      (pss_cons (ps_set (i := 5) sc_law_block.nd rfl (.inl rfl) (pc_f (c_law_draw T) hr (by decide) (by rfl) (pa_cons (pv 0) (pa_cons (pv 3) pa_nil))))
      (pss_one (ps_ret (pe_tup (pa_cons (pv 5) (pa_cons (pe_op op_sub (pe_op op_sub (pv 3) pe_int) (pv 5)) (pa_cons (pc_f (c_law_results T) hr (by decide) (by rfl) (pa_cons (pv 0) (pa_cons (pv 1) (pa_cons (pv 3) (pa_cons (pv 4) pa_nil))))) pa_nil))))))))), ?_⟩
    have mo9 := small_w N2 hN
    refine ⟨_, rfl, _, rfl, p, _, k + 2002, rfl, hb, by omega, by omega, fun wd0 G4 w0 w1 u4 => ⟨_, _, rfl, rfl, ?_⟩⟩
    obtain ⟨m0, rfl⟩ : ∃ m : Nat, (m : Int) = wd0 := ⟨wd0.toNat, by omega⟩
    have m2 : 1 + m0 ≤ mo := by omega
    have hm : N ^ (1 + m0) ≤ 729 := Nat.le_trans (Nat.pow_le_pow_right (by omega) (by omega)) hN
    refine ⟨_, rfl, p, 8, k + 2001, rfl, u4.box, by decide, by decide, fun kd G5 kd0 kd1 u5 => ?_⟩
    refine ⟨_, rfl, _, rfl, p, _, k + 2000, rfl, u5.box, by omega, by omega, fun lf0 G6 l0 l1 u6 => ?_⟩
    obtain ⟨l, rfl⟩ : ∃ l : Nat, (l : Int) = lf0 := ⟨lf0.toNat, by omega⟩
    refine ⟨_, rfl, _, rfl, _, _, rfl, rfl, _, rfl, _, _, rfl, rfl, _, rfl, _, rfl, _, rfl, _, rfl, p, N, 1 + m0, k, kd, rfl, u6.box, N2, N9, by omega, hm, fun G7 res u7 lr sr => ?_⟩
    refine ⟨by show 3 ≤ sizeLine; decide, fun c hc => ?_⟩
    have bu7 := ((u4.trans u5).trans u6).trans u7
    have ec : (HO.tup [.int (l : Nat), .int (1 + (m0 : Int) - 1 - (l : Nat)), tx res]) = tb l (m0 - l) res := by
      rw [show 1 + (m0 : Int) - 1 - ((l : Nat) : Int) = ((m0 - l : Nat) : Int) by omega]
    have e1 : l + 1 + (m0 - l) = 1 + m0 := by omega
    exact z _ c l (m0 - l) res (bu7.put hb (bu_free bu7 hc)) (upd_same.trans (congrArg some ec)) ⟨by rw [e1]; exact lr, sr⟩ (by omega)
def spLParts : Sp := fun vs H Q _ => ∃ (p : Addr) (N k : Nat), vs = [.ref p, tx (cols N)] ∧ BoxAt (k + 30) H p ∧ 2 ≤ N ∧ N ≤ 9 ∧ ∀ (G : Hp) (q : Addr) (l m r : List Nat) (t : Int), Bu k p H G → G q = some (tpl l m r t) → PartOk N l m r t → m.length ≤ 6 → -4 ≤ t → t ≤ 4 → Q (.ref q) G
theorem c_law_parts (T : Txt K mg a) : Can P w K mg base 3 "_law_parts" spLParts := by
  refine can_of T.d_law_parts sc_law_parts bd_law_parts (fun vs H Q E h => ?_) (fun f cdv A outer s H vs Q E hr h => ?_)
  · obtain ⟨p, N, k, rfl, _⟩ := h
    rfl
  · obtain ⟨p, N, k, rfl, hb, N2, N9, z⟩ := h
    refine ⟨_, (pss_cons (ps_set (i := 2) sc_law_parts.nd rfl (.inl rfl) (pe_op op_sub (pc_f (c_law_draw T) hr (by decide) (by rfl) (pa_cons (pv 0) (pa_cons pe_int pa_nil))) pe_int))
      (pss_cons (ps_set (i := 3) sc_law_parts.nd rfl (.inl rfl) (pc_f (c_law_strip T) hr (by decide) (by rfl) (pa_cons (pv 0) (pa_cons (pv 1) (pa_cons (pe_op op_add pe_int (pc_f (c_law_draw T) hr (by decide) (by rfl) (pa_cons (pv 0) (pa_cons pe_int pa_nil)))) pa_nil)))))
      (pss_cons (ps_set (i := 4) sc_law_parts.nd rfl (.inl rfl) (pc_f (c_law_strip T) hr (by decide) (by rfl) (pa_cons (pv 0) (pa_cons (pv 1) (pa_cons (pc_f (c_law_draw T) hr (by decide) (by rfl) (pa_cons (pv 0) (pa_cons pe_int pa_nil))) pa_nil)))))
      (pss_cons (ps_set (i := 5) sc_law_parts.nd rfl (.inl rfl) (pc_f (c_law_strip T) hr (by decide) (by rfl) (pa_cons (pv 0) (pa_cons (pv 1) (pa_cons (pe_op op_add pe_int (pc_f (c_law_draw T) hr (by decide) (by rfl) (pa_cons (pv 0) (pa_cons pe_int pa_nil)))) pa_nil)))))
      (pss_one (ps_ret (pe_tup (pa_cons (pv 3) (pa_cons (pv 4) (pa_cons (pv 5) (pa_cons (pv 2) pa_nil))))))))))), ?_⟩
    refine ⟨_, rfl, p, 9, k + 20, rfl, hb.le (by omega), by decide, by decide, fun t0 G1 ta tb1 u1 => ⟨_, _, rfl, rfl, ?_⟩⟩
    refine ⟨_, rfl, _, rfl, _, rfl, p, 4, k + 19, rfl, u1.box, by decide, by decide, fun n1 G2 na nb u2 => ⟨_, _, rfl, rfl, ?_⟩⟩
    obtain ⟨n1, rfl⟩ : ∃ m : Nat, (m : Int) = n1 := ⟨n1.toNat, by omega⟩
    refine ⟨p, N, 1 + n1, k + 13, rfl, u2.box.le (by omega), by omega, N2, N9, fun G3 l u3 ll sl => ?_⟩
    refine ⟨_, rfl, _, rfl, _, rfl, p, 7, k + 12, rfl, u3.box, by decide, by decide, fun n2 G4 na2 nb2 u4 => ?_⟩
    obtain ⟨n2, rfl⟩ : ∃ m : Nat, (m : Int) = n2 := ⟨n2.toNat, by omega⟩
    refine ⟨p, N, n2, k + 6, rfl, u4.box.le (by omega), by omega, N2, N9, fun G5 m u5 lm sm => ?_⟩
    refine ⟨_, rfl, _, rfl, _, rfl, p, 4, k + 5, rfl, u5.box, by decide, by decide, fun n3 G6 na3 nb3 u6 => ⟨_, _, rfl, rfl, ?_⟩⟩
    obtain ⟨n3, rfl⟩ : ∃ m : Nat, (m : Int) = n3 := ⟨n3.toNat, by omega⟩
    refine ⟨p, N, 1 + n3, k, rfl, u6.box.le (by omega), by omega, N2, N9, fun G7 r u7 lr sr => ?_⟩
    refine ⟨_, rfl, _, rfl, _, rfl, _, rfl, by show 4 ≤ sizeLine; decide, fun q hq => ?_⟩
    have bu := (((((u1.trans u2).trans u3).trans u4).trans u5).trans u6).trans u7
    exact z _ q l m r (t0 - 4) (bu.put hb (bu_free bu hq)) upd_same ⟨sl, sm, sr, by omega, by omega, by omega, by omega, by omega, by omega, by omega⟩ (by omega) (by omega) (by omega)
def spLStrips : Sp := fun vs H Q _ => ∃ (p : Addr) (N k : Nat), vs = [.ref p, tx (cols N)] ∧ BoxAt (k + 60) H p ∧ 2 ≤ N ∧ N ≤ 9 ∧ ∀ (G : Hp) (q : Addr) (ss : List (List Nat)), Bu k p H G → G q = some (.lst (ss.map tx)) → ss.length ≤ 10 → (∀ x ∈ ss, isStrip N x = true ∧ x.length ≤ 40) → Q (.ref q) G
theorem c_law_strips (T : Txt K mg a) : Can P w K mg base 3 "_law_strips" spLStrips := by
  refine can_of T.d_law_strips sc_law_strips bd_law_strips (fun vs H Q E h => ?_) (fun f cdv A outer s H vs Q E hr h => ?_)
  · obtain ⟨p, N, k, rfl, _⟩ := h
    rfl
  · obtain ⟨p, N, k, rfl, hb, N2, N9, z⟩ := h
    refine ⟨_, (pss_cons (ps_set (i := 2) sc_law_strips.nd rfl (.inl rfl) (pe_ix (kix_list K) (pe_lst (pa_cons pe_int (pa_cons pe_int (pa_cons pe_int (pa_cons pe_int (pa_cons pe_int (pa_cons pe_int (pa_cons pe_int (pa_cons pe_int pa_nil))))))))) (pc_f (c_law_draw T) hr (by decide) (by rfl) (pa_cons (pv 0) (pa_cons pe_int pa_nil))) (fun _ _ => rfl)))
      (pss_one (ps_ret (pe_lst (pa_cons pe_str (pa_cons (pe_ix ix_str (pv 1) (pe_un un_neg pe_int) (fun _ _ => rfl)) (pa_cons (pc_f (c_law_strip T) hr (by decide) (by rfl) (pa_cons (pv 0) (pa_cons (pv 1) (pa_cons (pv 2) pa_nil)))) (pa_cons (pc_f (c_law_strip T) hr (by decide) (by rfl) (pa_cons (pv 0) (pa_cons (pv 1) (pa_cons (pe_op op_add pe_int (pc_f (c_law_draw T) hr (by decide) (by rfl) (pa_cons (pv 0) (pa_cons pe_int pa_nil)))) pa_nil)))) pa_nil)))))))), ?_⟩
    rw [lit_e]
    have szc : (S (cols N)).length ≤ sizeLine := by rw [cols_ln]; exact szl (by omega)
    refine ⟨by show 8 ≤ sizeLine; decide, fun B hB => ?_⟩
    have b0 := (Bu.refl hb).put hb hB (o := .lst [V.int 0, .int 1, .int 2, .int 3, .int 4, .int 5, .int 6, .int 40])
    refine ⟨_, rfl, p, 8, k + 59, rfl, b0.box, by decide, by decide, fun d G1 d0 d1 b1 => ?_⟩
    obtain ⟨sz, hsz, hix⟩ := pick8 d0 d1
    refine ⟨B, _, d, _, rfl, rfl, seqL_of (b1.1 _ _ upd_same (box_ne hb hB)), hix, ?_⟩
    have b2 := b0.trans b1
    refine ⟨_, rfl, _, rfl, _, _, 96 + N, rfl, rfl, szc, cols_last N2 N9, ?_⟩
    refine ⟨_, rfl, _, rfl, _, rfl, p, N, sz, k + 15, rfl, b2.box.le (by omega), by omega, N2, N9, fun G2 x u2 lx sx => ?_⟩
    refine ⟨_, rfl, _, rfl, _, rfl, p, 6, k + 14, rfl, u2.box, by decide, by decide, fun n3 G3 na nb u3 => ⟨_, _, rfl, rfl, ?_⟩⟩
    obtain ⟨n3, rfl⟩ : ∃ m : Nat, (m : Int) = n3 := ⟨n3.toNat, by omega⟩
    refine ⟨p, N, 2 + n3, k, rfl, u3.box.le (by omega), by omega, N2, N9, fun G4 y u4 ly sy => ?_⟩
    refine ⟨by show 4 ≤ sizeLine; decide, fun q hq => ?_⟩
    have bu := ((b2.trans u2).trans u3).trans u4
    refine z _ q [[], [96 + N], x, y] (bu.put hb (bu_free bu hq)) upd_same (by show 4 ≤ 10; decide) ?_
    intro s hs
    rcases List.mem_cons.mp hs with rfl | hs
    · exact ⟨rfl, by show 0 ≤ 40; decide⟩
    rcases List.mem_cons.mp hs with rfl | hs
    · exact ⟨strip_one (by rw [show 96 + N = 97 + (N - 1) by omega]; exact cols_in (by omega)), by show 1 ≤ 40; decide⟩
    rcases List.mem_cons.mp hs with rfl | hs
    · exact ⟨sx, by omega⟩
    rw [List.mem_singleton.mp hs]
    exact ⟨sy, by omega⟩
end
end K42

end
section
set_option Elab.async false
set_option linter.all false
set_option maxRecDepth 100000
set_option maxHeartbeats 4000000
namespace K42
open PySem PySem.Spec PyProof.Rows L2 Kit K40 K4B
theorem xdno {M : Hp} : XdOk none M := fun dd e => nomatch e
section
variable {P : Program} {w : World} {K : PySem.W.Frag} {mg : Str → Option Value} {base : Heap} {a : Ad}
def spIsBlk (a : Ad) : Sp := fun vs H Q _ => ∃ (s y d : Addr) (R C n l r : Nat) (res : List Nat), vs = [.ref s, .ref y, .ref d] ∧ BlockAt a H y s R C n l r res ∧ H d = some (tb l r res) ∧ ∀ G, Same H G → Q (.bl true) G
theorem c_law_is_block (T : Txt K mg a) : Can P w K mg base 3 "_law_is_block" (spIsBlk a) := by
  refine can_of T.d_law_is_block sc_law_is_block bd_law_is_block (fun vs H Q E h => ?_) (fun f0 cdv A outer s0 H vs Q E hr h => ?_)
  · obtain ⟨s, y, d, R, C, n, l, r, res, rfl, _⟩ := h
    rfl
  · obtain ⟨s, y, d, R, C, n, l, r, res, rfl, bl, hd, z⟩ := h
    refine ⟨_, (pss_cons (ps_if (PW.pt (pw_or (pt_not (pt_val (pe_callB (kisi K) (by rfl) T.b_isinstance (by decide +kernel) (pa_cons (pv 1) (pa_cons (pe_glob (v := .ref a.Block) (by rfl) T.c_Block.gC rfl) pa_nil))))) (pw_or1 (pt_not (pt_cmpR (eqO K (c_Scheme_eq T) hr (by decide) T.i_ni T.i_ns) (kfld K (pv 1)) (pv 0) (nomark _)))))) (pss_one (ps_ret pe_bl)) pss_nil)
      (pss_cons (ps_if (PW.pt (pw_or (pt_not (pt_val (pc_f (c_law_is_integer T) hr (by decide) (by rfl) (pa_cons (kfld K (pv 1)) pa_nil)))) (pw_or (pt_not (pt_val (pc_f (c_law_is_integer T) hr (by decide) (by rfl) (pa_cons (kfld K (pv 1)) pa_nil)))) (pw_or1 (pt_not (pt_val (pe_callB (kisi K) (by rfl) T.b_isinstance (by decide +kernel) (pa_cons (kfld K (pv 1)) (pa_cons (pe_bltn (v := .ty "str") (by rfl) T.b_str (by decide +kernel) rfl) pa_nil))))))))) (pss_one (ps_ret pe_bl)) pss_nil)
      (pss_one (ps_ret (pe_cmpR (keqP K hr.units) (pe_tup (pa_cons (kfld K (pv 1)) (pa_cons (kfld K (pv 1)) (pa_cons (kfld K (pv 1)) pa_nil)))) (pv 2) (nomark _)))))), ?_⟩
    obtain ⟨dx, q, hp, hq⟩ := bl.ob
    obtain ⟨ds, hs⟩ := bl.sch.1
    refine ⟨_, rfl, _, _, _, _, true, rfl, .own _, .base (.ins hp T.c_Block.cl T.u_ha T.i_hn T.i_ht T.u_hm), T.u_own, _, rfl, itN (by decide) ?_⟩
    refine ⟨_, rfl, y, _, dx, _, _, rfl, hp, T.c_Block.cl, T.w_scheme, fb_scheme s l r res q, _, rfl, s, _, _, rfl, hs, .inr (.inr ⟨s, _, _, rfl, hs⟩), s, R, C, n, _, rfl, bl.sch, .inr (.inr ⟨s, R, C, n, rfl, bl.sch, _, rfl, _, rfl, ?_⟩)⟩
    refine itN (by simp) ?_
    refine ⟨_, rfl, y, _, dx, _, _, rfl, hp, T.c_Block.cl, T.w_left, fb_left s l r res q, _, rfl, _, rfl, itN (by decide) ?_⟩
    refine ⟨_, rfl, y, _, dx, _, _, rfl, hp, T.c_Block.cl, T.w_right, fb_right s l r res q, _, rfl, _, rfl, itN (by decide) ?_⟩
    refine ⟨_, rfl, y, _, dx, _, _, rfl, hp, T.c_Block.cl, T.w_results, fb_results s l r res q, _, _, _, _, true, rfl, .ty _, .base (.str _), by rfl, _, rfl, itN (by decide) ?_⟩
    refine ⟨_, rfl, y, _, dx, _, _, rfl, hp, T.c_Block.cl, T.w_left, fb_left s l r res q, _, rfl, y, _, dx, _, _, rfl, hp, T.c_Block.cl, T.w_right, fb_right s l r res q, _, rfl, y, _, dx, _, _, rfl, hp, T.c_Block.cl, T.w_results, fb_results s l r res q, by show 3 ≤ sizeLine; decide, fun t ht => ?_⟩
    have k1 := ex_new (o := .tup [.int (l : Nat), .int (r : Nat), tx res]) ht
    refine ⟨_, rfl, pdT l r res, pdT l r res, dpT upd_same, dpT (k1 _ _ hd), rfl, rfl, pdT_depth l r res, ?_⟩
    rw [pdT_eq, decide_eq_true ⟨rfl, rfl, rfl⟩]
    exact z _ k1
def spStripsH (a : Ad) : Sp := fun vs H Q _ => ∃ (y d t s : Addr) (R C n l r : Nat) (res : List Nat) (xs : List (List Nat)), vs = [tx (cols n), .ref y, .ref d, .ref t] ∧ BlockAt a H y s R C n l r res ∧ H d = some (tb l r res) ∧ H t = some (.lst (xs.map tx)) ∧ (∀ x ∈ xs, isStrip n x = true ∧ x.length ≤ 40) ∧ ∀ G, Same H G → Q (.bl true) G
theorem c_law_strips_hold (T : Txt K mg a) : Can P w K mg base 6 "_law_strips_hold" (spStripsH a) := by
  refine can_of T.d_law_strips_hold sc_law_strips_hold bd_law_strips_hold (fun vs H Q E h => ?_) (fun f0 cdv A outer s0 H vs Q E hr h => ?_)
  · obtain ⟨y, d, t, s, R, C, n, l, r, res, xs, rfl, _⟩ := h
    rfl
  · obtain ⟨y, d, t, s, R, C, n, l, r, res, xs, rfl, bl, hd, ht, hxs, z⟩ := h
    refine ⟨_, (pss_cons (ps_set (i := 4) sc_law_strips_hold.nd rfl (.inl rfl) (pe_op op_add (pe_op op_add (pe_ix (kix_tup K) (pv 2) pe_int (fun _ _ => rfl)) pe_int) (pe_ix (kix_tup K) (pv 2) pe_int (fun _ _ => rfl))))
      (pss_cons (ps_set (i := 5) sc_law_strips_hold.nd rfl (.inl rfl) (pc_f (c_law_table T) hr (by decide) (by rfl) (pa_cons (pv 0) (pa_cons (pv 4) (pa_cons (pe_ix (kix_tup K) (pv 2) pe_int (fun _ _ => rfl)) pa_nil)))))
      (pss_cons (ps_for (passes_of rfl) (by rfl) (kpi_list K (pv 3)) (pg_name (i := 6) sc_law_strips_hold.nd rfl (.inl rfl)) (pss_cons (ps_set (i := 7) sc_law_strips_hold.nd rfl (.inl rfl) (pc_m (c_Block_around T) hr (by decide) (pv 1) (pa_cons (pv 6) pa_nil)))
      (pss_cons (ps_if (PW.pt (pw_or (pt_not (pt_val (pe_callB (kisi K) (by rfl) T.b_isinstance (by decide +kernel) (pa_cons (pv 7) (pa_cons (pe_bltn (v := .ty "str") (by rfl) T.b_str (by decide +kernel) rfl) pa_nil))))) (pw_or1 (pt_cmpR op_ne (pv 7) (pc_f (c_law_around T) hr (by decide) (by rfl) (pa_cons (pv 5) (pa_cons (pe_ix (kix_tup K) (pv 2) pe_int (fun _ _ => rfl)) (pa_cons (pv 4) (pa_cons (pv 6) pa_nil))))) (nomark _))))) (pss_one (ps_ret pe_bl)) pss_nil)
      (pss_cons (ps_set (i := 7) sc_law_strips_hold.nd rfl (.inl rfl) (pc_m (c_Block_inner T) hr (by decide) (pv 1) (pa_cons (pv 6) pa_nil)))
      (pss_one (ps_if (PW.pt (pw_or (pt_not (pt_val (pe_callB (kisi K) (by rfl) T.b_isinstance (by decide +kernel) (pa_cons (pv 7) (pa_cons (pe_bltn (v := .ty "str") (by rfl) T.b_str (by decide +kernel) rfl) pa_nil))))) (pw_or1 (pt_cmpR op_ne (pv 7) (pc_f (c_law_inner T) hr (by decide) (by rfl) (pa_cons (pv 5) (pa_cons (pv 4) (pa_cons (pv 6) pa_nil)))) (nomark _))))) (pss_one (ps_ret pe_bl)) pss_nil))))))
      (pss_one (ps_ret pe_bl))))), ?_⟩
    have gn := good_n bl.sch.2
    have w9 := small_w gn.2.2.2.2 bl.wide
    refine ⟨_, rfl, d, _, 0, _, rfl, rfl, seqT_of hd, rfl, _, _, rfl, rfl, _, rfl, d, _, 1, _, rfl, rfl, seqT_of hd, rfl, _, _, rfl, rfl, ?_⟩
    refine ⟨_, rfl, _, rfl, _, rfl, d, _, 2, _, rfl, rfl, seqT_of hd, rfl, n, l + 1 + r, res, rfl, gn.2.2.2.2, gn.1, bl.wide, bl.tab.len, fun G1 D k1 hD hG1 => ?_⟩
    have ht1 := k1 _ _ ht
    refine ⟨_, rfl, t, rfl, ⟨_, seqL_of ht1⟩, for_it (walk_list (xs := xs.map tx)) (fun j σ M => Same G1 M ∧ ∃ x6 x7, σ = [some (tx (cols n)), some (.ref y), some (.ref d), some (.ref t), some (.int ((l + 1 + r : Nat) : Int)), some (.ref D), x6, x7]) ⟨.refl _, none, none, rfl⟩ (fun j σ M _ h => seqL_of (h.1 _ _ ht1)) ?_ ?_⟩
    · rintro j x σ M' M hj ⟨k2, x6, x7, rfl⟩ ⟨rfl, hx⟩
      rw [List.length_map] at hj
      rw [List.getElem?_map, List.getElem?_eq_getElem hj] at hx
      cases hx
      obtain ⟨st, lx⟩ := hxs _ (List.getElem_mem hj)
      generalize xs[j] = x at st lx
      have k12 := k1.trans k2
      have bl2 := bl.mono k12
      obtain ⟨dx, q, hp, hq⟩ := bl2.ob
      refine ⟨_, rfl, y, dx, _, rfl, hp, fb_no s l r res q (by decide +kernel), _, rfl, y, s, R, C, n, l, r, res, x, rfl, bl2, by omega, fun _ M1 k3 => ?_, fun e => absurd (st.symm.trans e) nofun⟩
      refine ⟨_, rfl, _, _, _, _, true, rfl, .ty _, .base (.str _), by rfl, _, rfl, itN (by decide) ?_⟩
      have k23 := k2.trans k3
      refine ⟨_, rfl, _, rfl, _, rfl, d, _, 0, _, rfl, rfl, seqT_of ((k1.trans k23) _ _ hd), rfl, _, rfl, _, rfl, D, n, l, r, res, x, rfl, by omega, k23 _ _ hG1, bl.tab, by omega, by omega, st, fun M2 k4 => ⟨rfl, _, rfl, itN (by simp) ?_⟩⟩
      have k24 := k23.trans k4
      refine ⟨_, rfl, y, dx, _, rfl, (k3.trans k4) _ _ hp, fb_no s l r res q (by decide +kernel), _, rfl, y, s, R, C, n, l, r, res, x, rfl, bl2.mono (k3.trans k4), by omega, fun _ M3 k5 => ?_, fun e => absurd (st.symm.trans e) nofun⟩
      refine ⟨_, rfl, _, _, _, _, true, rfl, .ty _, .base (.str _), by rfl, _, rfl, itN (by decide) ?_⟩
      have k25 := k24.trans k5
      exact ⟨_, rfl, _, rfl, _, rfl, _, rfl, D, n, l, r, res, x, rfl, by omega, k25 _ _ hG1, bl.tab, by omega, by omega, st, fun M4 k6 => ⟨rfl, _, rfl, itN (by simp) ⟨k25.trans k6, _, _, rfl⟩⟩⟩
    · rintro σ M ⟨k2, x6, x7, rfl⟩
      exact z M (k1.trans k2)
def spProd (a : Ad) : Sp := fun vs H Q _ => ∃ (p s p2 s2 : Addr) (R C n l r l2 r2 : Nat) (res res2 : List Nat), vs = [.ref p, .ref p2] ∧ BlockAt a H p s R C n l r res ∧ BlockAt a H p2 s2 R C n l2 r2 res2 ∧
  (¬ n ^ (l + l2 + 1 + (r + r2)) ≤ 729 → ∀ G q, Same H G → G q = some (.tup []) → Q (.ref q) G) ∧
  (n ^ (l + l2 + 1 + (r + r2)) ≤ 729 → ∀ G q y (l' r' : Nat) res', Same H G → Lf n (l + l2) (r + r2) (prodT n l r res l2 r2 res2) l' r' res' → BlockAt a G y s R C n l' r' res' → G q = some (.tup [.ref y]) → Q (.ref q) G)
theorem c_law_product (T : Txt K mg a) : Can P w K mg base 7 "_law_product" (spProd a) := by
  refine can_of T.d_law_product sc_law_product bd_law_product (fun vs H Q E h => ?_) (fun f cdv A outer s0 H vs Q E hr h => ?_)
  · obtain ⟨p, s, p2, s2, R, C, n, l, r, l2, r2, res, res2, rfl, _⟩ := h
    rfl
  · obtain ⟨p, s, p2, s2, R, C, n, l, r, l2, r2, res, res2, rfl, b1, b2, z0, z1⟩ := h
    refine ⟨_, (pss_cons (ps_try_as (i := 2) (tb := _) rfl rfl sc_law_product.nd rfl rfl ⟨rfl, by decide, .inl T.z_TooWide.gC⟩ takes0 (fun W pn xe tk po => (pss_one (ps_ret (pe_tup (pa_cons (pe_opS (c_Block_mul T) tk hr (by decide) T.u_sf (pv 0) (pv 1)) pa_nil))))) (fun ae oe cls d pn hz hf => (pss_one (ps_if (PW.pt (pw_and (pt_val (pe_callB (call_isU hz hf) (by rfl) T.b_isinstance (by decide +kernel) (pa_cons (pv 2) (pa_cons (pe_bltn (v := .ty "ValueError") (by rfl) T.b_ValueError (by decide +kernel) rfl) pa_nil)))) (pw_and (pt_val (pe_callB (call_isU hz hf) (by rfl) T.b_isinstance (by decide +kernel) (pa_cons (pv 2) (pa_cons (pe_glob (v := .ref a.GalloonError) (by rfl) T.g_GalloonError rfl) pa_nil)))) (pw_and1 (pt_not (pt_val (pe_callB (call_isU hz hf) (by rfl) T.b_isinstance (by decide +kernel) (pa_cons (pv 2) (pa_cons (pe_glob (v := .ref a.BadBlock) (by rfl) T.e_BadBlock.gC rfl) pa_nil))))))))) (pss_one (ps_ret (pe_tup pa_nil))) pss_nil))))
      (pss_one (ps_ret (pe_tup (pa_cons pe_non pa_nil))))), ?_⟩
    obtain ⟨dx, q, hp, hq⟩ := b1.ob
    obtain ⟨dx2, q2, hp2, hq2⟩ := b2.ob
    refine ⟨_, rfl, _, rfl, p, dx, _, p2, dx2, _, rfl, hp, rfl, hp2, p, s, p2, s2, R, C, n, l, r, R, C, n, l2, r2, res, res2, rfl, b1, b2, fun c => absurd ⟨rfl, rfl⟩ c, fun _ hw M s1 => ⟨true, T.xo_e 7 (by decide) 7 (by decide), fun _ x hx => ?_, nofun⟩, fun _ hw G y l' r' res' k lf bl => ⟨⟨_, rfl⟩, by show 1 ≤ sizeLine; decide, fun t ht => z1 hw _ t y l' r' res' (k.trans (ex_new ht)) lf (bl.mono (ex_new ht)) upd_same⟩⟩
    refine ⟨_, rfl, a.TooWide, _, _, true, rfl, T.x_TooWide, xdno, rfl, fun u h => h, T.kv_e 7 (by decide), _, rfl, iteT ⟨_, rfl, a.TooWide, _, _, true, rfl, T.x_TooWide, xdno, rfl, fun u h => h, T.kg_e 7 (by decide), _, rfl, iteT ⟨_, rfl, a.TooWide, _, _, false, rfl, T.x_TooWide, xdno, rfl, fun u h => h, T.kk_e 7 (by decide) 5 (by decide), _, rfl, iteT ?_⟩⟩⟩
    exact ⟨by show 0 ≤ sizeLine; decide, fun t ht => z0 hw _ t (s1.trans (ex_new ht)) upd_same⟩
end
end K42

end
section
set_option Elab.async false
set_option linter.all false
set_option maxRecDepth 100000
set_option maxHeartbeats 4000000
namespace K42
open PySem PySem.Spec PyProof.Rows L2 Kit K40 K4B
theorem itF_self {v : V} {A B : Prop} (h : B) : if (!decide (v = v)) = true then A else B := by
  rw [if_neg (by rw [decide_eq_true rfl]; decide)]
  exact h
theorem mir_mir {n l r : Nat} {res : List Nat} (hn : 0 < n) (t : Tab n l r res) (h : Least n l r res) : mirT n r l (mirT n l r res) = res := by
  have t1 := mir_tab hn t
  have l1 := mir_least hn h
  refine (Least.unique hn (mir_tab hn t1) t (mir_least hn l1) h fun c o => ?_).2.2
  rw [mir_sem hn o, mir_sem hn (fun i => o _)]
  congr 1
  funext j
  show c (- -j) = c j
  rw [Int.neg_neg]
theorem per_rev {x : List Nat} (hx : 0 < x.length) (k : Int) : per x.reverse k = per x (x.length - 1 - k) := by
  unfold per
  rw [List.length_reverse]
  have q0 := Int.emod_nonneg k (show (x.length : Int) ≠ 0 by omega)
  have q1 := Int.emod_lt_of_pos k (show (0 : Int) < (x.length : Int) by omega)
  have e := Int.emod_add_mul_ediv k (x.length : Int)
  have e2 : (x.length - 1 - k) % (x.length : Int) = x.length - 1 - k % (x.length : Int) := by
    generalize k % (x.length : Int) = u at *
    generalize k / (x.length : Int) = v at *
    rw [show (x.length : Int) - 1 - k = (x.length - 1 - u) + x.length * (-v) by rw [Int.mul_neg]; omega, Int.add_mul_emod_self_left, Int.emod_eq_of_lt (by omega) (by omega)]
  rw [e2, List.getD_eq_getElem?_getD, List.getD_eq_getElem?_getD, List.getElem?_reverse (by omega)]
  congr 2
  omega
theorem ard_mir {n l r : Nat} {res x : List Nat} (hn : 0 < n) (hs : isStrip n x = true) : ard n r l (mirT n l r res) x.reverse = (ard n l r res x).reverse := by
  unfold ard
  by_cases c : x = []
  · subst c
    rfl
  · have lx : 0 < x.length := by
      cases x with
      | nil => exact absurd rfl c
      | cons a b => exact Nat.succ_pos _
    rw [if_neg c, if_neg (fun q => c (List.reverse_eq_nil_iff.mp q)), win_rev, List.length_reverse]
    refine List.map_congr_left fun i _ => ?_
    have ok := per_ok (strip_rev hs) (by rw [List.length_reverse]; exact lx)
    show img n r l (mirT n l r res) (per x.reverse) (0 + (i : Int)) = img n l r res (per x) (-(-(0 + (x.length : Int) - 1) + (i : Int)))
    unfold img
    rw [mir_sem hn fun j => ok _]
    congr 1
    funext j
    rw [per_rev lx]
    congr 1
    omega
section
variable {P : Program} {w : World} {K : PySem.W.Frag} {mg : Str → Option Value} {base : Heap} {a : Ad}
def spPH (a : Ad) : Sp := fun vs H Q _ => ∃ (s c1 c2 p p2 t : Addr) (R C n l r l2 r2 : Nat) (res res2 : List Nat) (xs : List (List Nat)), vs = [.ref s, tx (cols n), .ref c1, .ref c2, .ref p, .ref p2, .ref t] ∧ BlockAt a H p s R C n l r res ∧ BlockAt a H p2 s R C n l2 r2 res2 ∧ H c1 = some (tb l r res) ∧ H c2 = some (tb l2 r2 res2) ∧ H t = some (.lst (xs.map tx)) ∧ (∀ x ∈ xs, isStrip n x = true ∧ x.length ≤ 40) ∧ ∀ G, Same H G → Q (.bl true) G
theorem c_law_product_holds (T : Txt K mg a) : Can P w K mg base 8 "_law_product_holds" (spPH a) := by
  refine can_of T.d_law_product_holds sc_law_product_holds bd_law_product_holds (fun vs H Q E h => ?_) (fun f0 cdv A outer s0 H vs Q E hr h => ?_)
  · obtain ⟨s, c1, c2, p, p2, t, R, C, n, l, r, l2, r2, res, res2, xs, rfl, _⟩ := h
    rfl
  · obtain ⟨s, c1, c2, p, p2, t, R, C, n, l, r, l2, r2, res, res2, xs, rfl, b1, b2, h1, h2, ht, hxs, z⟩ := h
    refine ⟨_, (pss_cons (ps_set (i := 7) sc_law_product_holds.nd rfl (.inl rfl) (pc_f (c_law_product T) hr (by decide) (by rfl) (pa_cons (pv 4) (pa_cons (pv 5) pa_nil))))
      (pss_cons (ps_if (pt_cmpR op_gt (pc_f (c_law_power T) hr (by decide) (by rfl) (pa_cons (pe_callB call_len_str (by rfl) T.b_len (by decide +kernel) (pa_cons (pv 1) pa_nil)) (pa_cons (pe_op op_add (pe_op op_add (pe_op op_add (pe_op op_add (pe_ix (kix_tup K) (pv 2) pe_int (fun _ _ => rfl)) (pe_ix (kix_tup K) (pv 3) pe_int (fun _ _ => rfl))) pe_int) (pe_ix (kix_tup K) (pv 2) pe_int (fun _ _ => rfl))) (pe_ix (kix_tup K) (pv 3) pe_int (fun _ _ => rfl))) pa_nil))) pe_int (nomark _)) (pss_one (ps_ret (pe_cmpR (keqP K hr.units) (pv 7) (pe_tup pa_nil) (nomark _)))) pss_nil)
      (pss_cons (ps_set (i := 8) sc_law_product_holds.nd rfl (.inl rfl) (pc_f (c_law_joined T) hr (by decide) (by rfl) (pa_cons (pv 1) (pa_cons (pv 2) (pa_cons (pv 3) pa_nil)))))
      (pss_one (ps_ret (pe_and (pe_cmpR op_eq (pe_callB (klen_seq K) (by rfl) T.b_len (by decide +kernel) (pa_cons (pv 7) pa_nil)) pe_int (nomark _)) (pe_and (pc_f (c_law_is_block T) hr (by decide) (by rfl) (pa_cons (pv 0) (pa_cons (pe_ix (kix_tup K) (pv 7) pe_int (fun _ _ => rfl)) (pa_cons (pv 8) pa_nil)))) (pe_one (pc_f (c_law_strips_hold T) hr (by decide) (by rfl) (pa_cons (pv 1) (pa_cons (pe_ix (kix_tup K) (pv 7) pe_int (fun _ _ => rfl)) (pa_cons (pv 8) (pa_cons (pv 6) pa_nil))))))))))))), ?_⟩
    have gn := good_n b1.sch.2
    have n0 : 0 < n := by omega
    have w1 := small_w gn.2.2.2.2 b1.wide
    have w2 := small_w gn.2.2.2.2 b2.wide
    have szc : (S (cols n)).length ≤ sizeLine := by rw [cols_ln]; exact szl (by omega)
    have ew : l + l2 + 1 + r + r2 = l + l2 + 1 + (r + r2) := by omega
    refine ⟨_, rfl, _, rfl, p, s, p2, s, R, C, n, l, r, l2, r2, res, res2, rfl, b1, b2, fun hw G q k hq => ?_, fun hw G q y l' r' res' k lf bl hq => ?_⟩
    · have h1' := k _ _ h1
      have h2' := k _ _ h2
      refine ⟨_, rfl, _, rfl, szc, _, rfl, c1, _, 0, _, rfl, rfl, seqT_of h1', rfl, _, rfl, c2, _, 0, _, rfl, rfl, seqT_of h2', rfl, _, _, rfl, rfl, _, _, rfl, rfl, _, rfl, c1, _, 1, _, rfl, rfl, seqT_of h1', rfl, _, _, rfl, rfl, _, rfl, c2, _, 1, _, rfl, rfl, seqT_of h2', rfl, _, _, rfl, rfl, n, l + l2 + 1 + r + r2, by rw [cols_ln]; rfl, gn.1, by omega, _, _, rfl, rfl, _, rfl, ?_⟩
      rw [ew, decide_eq_true (by omega)]
      refine iteT ⟨_, rfl, by show 0 ≤ sizeLine; decide, fun u hu => ?_⟩
      exact ⟨.tuple [], .tuple [], .tup (seqT_of (ex_new hu _ _ hq)) .nil, .tup (seqT_of upd_same) .nil, rfl, rfl, by decide, z _ (k.trans (ex_new hu))⟩
    · have h1' := k _ _ h1
      have h2' := k _ _ h2
      refine ⟨_, rfl, _, rfl, szc, _, rfl, c1, _, 0, _, rfl, rfl, seqT_of h1', rfl, _, rfl, c2, _, 0, _, rfl, rfl, seqT_of h2', rfl, _, _, rfl, rfl, _, _, rfl, rfl, _, rfl, c1, _, 1, _, rfl, rfl, seqT_of h1', rfl, _, _, rfl, rfl, _, rfl, c2, _, 1, _, rfl, rfl, seqT_of h2', rfl, _, _, rfl, rfl, n, l + l2 + 1 + r + r2, by rw [cols_ln]; rfl, gn.1, by omega, _, _, rfl, rfl, _, rfl, ?_⟩
      rw [ew, decide_eq_false (by omega)]
      refine iteF ⟨_, rfl, _, rfl, _, rfl, c1, c2, n, l, r, l2, r2, res, res2, rfl, gn.2.2.2.2, gn.1, h1', h2', b1.tab, b2.tab, hw, fun G2 q2 l3 r3 res3 k2 lf2 hq2 => ?_⟩
      obtain ⟨rfl, rfl, rfl⟩ := Lf.unique n0 lf2 lf
      have hq' := k2 _ _ hq
      have bl2 := bl.mono k2
      refine ⟨_, rfl, q, _, rfl, .inr (seqT_of hq'), rfl, _, rfl, iteT ?_⟩
      refine ⟨_, rfl, _, rfl, q, _, 0, _, rfl, rfl, seqT_of hq', rfl, _, rfl, s, y, q2, R, C, n, l3, r3, res3, rfl, bl2, hq2, fun G3 k3 => ⟨_, rfl, iteT ?_⟩⟩
      exact ⟨_, rfl, _, rfl, q, _, 0, _, rfl, rfl, seqT_of (k3 _ _ hq'), rfl, _, rfl, _, rfl, y, q2, t, s, R, C, n, l3, r3, res3, xs, rfl, bl2.mono k3, k3 _ _ hq2, ((k.trans k2).trans k3) _ _ ht, hxs, fun G4 k4 => z G4 (((k.trans k2).trans k3).trans k4)⟩
def spMH (a : Ad) : Sp := fun vs H Q _ => ∃ (s c1 p t : Addr) (R C n l r : Nat) (res : List Nat) (xs : List (List Nat)), vs = [.ref s, tx (cols n), .ref c1, .ref p, .ref t] ∧ BlockAt a H p s R C n l r res ∧ H c1 = some (tb l r res) ∧ H t = some (.lst (xs.map tx)) ∧ (∀ x ∈ xs, isStrip n x = true ∧ x.length ≤ 40) ∧ ∀ G, Same H G → Q (.bl true) G
theorem c_law_mirrored_holds (T : Txt K mg a) : Can P w K mg base 8 "_law_mirrored_holds" (spMH a) := by
  refine can_of T.d_law_mirrored_holds sc_law_mirrored_holds bd_law_mirrored_holds (fun vs H Q E h => ?_) (fun f0 cdv A outer s0 H vs Q E hr h => ?_)
  · obtain ⟨s, c1, p, t, R, C, n, l, r, res, xs, rfl, _⟩ := h
    rfl
  · obtain ⟨s, c1, p, t, R, C, n, l, r, res, xs, rfl, b1, h1, ht, hxs, z⟩ := h
    refine ⟨_, (pss_cons (ps_set (i := 5) sc_law_mirrored_holds.nd rfl (.inl rfl) (pe_op op_add (pe_op op_add (pe_ix (kix_tup K) (pv 2) pe_int (fun _ _ => rfl)) pe_int) (pe_ix (kix_tup K) (pv 2) pe_int (fun _ _ => rfl))))
      (pss_cons (ps_set (i := 6) sc_law_mirrored_holds.nd rfl (.inr rfl) (pc_f (c_law_table T) hr (by decide) (by rfl) (pa_cons (pv 1) (pa_cons (pv 5) (pa_cons (pe_ix (kix_tup K) (pv 2) pe_int (fun _ _ => rfl)) pa_nil)))))
      (pss_cons (ps_set (i := 7) sc_law_mirrored_holds.nd rfl (.inl rfl) (pe_tup (pa_cons (pe_ix (kix_tup K) (pv 2) pe_int (fun _ _ => rfl)) (pa_cons (pe_ix (kix_tup K) (pv 2) pe_int (fun _ _ => rfl)) (pa_cons (kjoin K pe_str (pe_lc (own := [("window", 8)]) (g := gName 8) (tt := tYes) (by rfl) sc_law_mirrored_holds.nd (kpi_list K (pc_f (c_law_windows T) hr (by decide) (by rfl) (pa_cons (pv 1) (pa_cons (pv 5) pa_nil)))) (blkOk_by (N := N_law_mirrored_holds) (sc := defScope s_law_mirrored_holds) (by decide +kernel)) (fun _ _ _ _ _ => (pg_name (i := 8) sc_law_mirrored_holds.nd rfl (.inl rfl))) (fun _ _ _ _ _ => pts_nil) (fun _ _ _ _ _ => (pe_dget (units1 hr) (pv 6) (pe_revS (pv 8)) (fun _ _ => rfl))))) pa_nil)))))
      (pss_cons (ps_set (i := 9) sc_law_mirrored_holds.nd rfl (.inl rfl) (pc_m0 (c_Block_mirrored T) hr (by decide) (pv 3)))
      (pss_cons (ps_if (PW.pt (pw_or (pt_not (pt_val (pc_f (c_law_is_block T) hr (by decide) (by rfl) (pa_cons (pv 0) (pa_cons (pv 9) (pa_cons (pv 7) pa_nil)))))) (pw_or1 (pt_not (pt_cmpR (eqO K (c_Block_eq T) hr (by decide) T.u_ni T.u_ns) (pc_m0 (c_Block_mirrored T) hr (by decide) (pv 9)) (pv 3) (nomark _)))))) (pss_one (ps_ret pe_bl)) pss_nil)
      (pss_cons (ps_for (passes_of rfl) (by rfl) (kpi_list K (pv 4)) (pg_name (i := 10) sc_law_mirrored_holds.nd rfl (.inl rfl)) (pss_one (ps_if (pt_cmpR op_ne (pc_m (c_Block_around T) hr (by decide) (pv 9) (pa_cons (pe_revS (pv 10)) pa_nil)) (pe_revS (pc_m (c_Block_around T) hr (by decide) (pv 3) (pa_cons (pv 10) pa_nil))) (nomark _)) (pss_one (ps_ret pe_bl)) pss_nil)))
      (pss_one (ps_ret pe_bl)))))))), ?_⟩
    rw [lit_e]
    have gn := good_n b1.sch.2
    have n0 : 0 < n := by omega
    have w1 := small_w gn.2.2.2.2 b1.wide
    have hbw := b1.wide
    have ew : r + 1 + l = l + 1 + r := by omega
    have lm : (mirT n l r res).length = n ^ (l + 1 + r) := by unfold mirT; rw [List.length_map, words_len, ew]
    refine ⟨_, rfl, c1, _, 0, _, rfl, rfl, seqT_of h1, rfl, _, _, rfl, rfl, _, rfl, c1, _, 1, _, rfl, rfl, seqT_of h1, rfl, _, _, rfl, rfl, ?_⟩
    refine ⟨_, rfl, _, rfl, _, rfl, c1, _, 2, _, rfl, rfl, seqT_of h1, rfl, n, l + 1 + r, res, rfl, gn.2.2.2.2, gn.1, b1.wide, b1.tab.len, fun G1 D k1 hD hG1 => ?_⟩
    have h1' := k1 _ _ h1
    refine ⟨_, rfl, c1, _, 1, _, rfl, rfl, seqT_of h1', rfl, _, rfl, c1, _, 0, _, rfl, rfl, seqT_of h1', rfl, ⟨_, rfl⟩, _, rfl, _, rfl, n, l + 1 + r, rfl, gn.2.2.2.2, gn.1, b1.wide, fun G2 q k2 hq hG2 => ?_⟩
    have lw : ((words n (l + 1 + r)).map tx).length = n ^ (l + 1 + r) := by rw [List.length_map, words_len]
    refine ⟨q, rfl, ⟨_, seqL_of hG2⟩, fun D2 hD2 => lc_one (walk_list (xs := (words n (l + 1 + r)).map tx)) ((mirT n l r res).map fun x => tx [x]) (by rw [List.length_map, lm, lw]) (by rw [lw]; omega) hD2 (fun M s => seqL_of (s _ _ hG2)) ?_ ?_⟩
    · rintro i x M M' v hi s1 ⟨rfl, hx⟩ hv
      rw [lw] at hi
      unfold mirT at hv
      rw [ew] at hv
      rw [List.getElem?_map, words_at hi] at hx
      rw [List.getElem?_map, List.getElem?_map, words_at hi] at hv
      cases hx
      cases hv
      have lu := wdig_len n (l + 1 + r) i
      have su := wdig_strip n0 (l + 1 + r) i
      generalize wdig n (l + 1 + r) i = u at *
      refine ⟨.refl _, fun Q' kk => ⟨_, rfl, _, rfl, u, rfl, by omega, D, tx [res.getD (ixw n u.reverse) 0], rfl, ?_, kk _ (.refl _)⟩⟩
      have g := DGet.k (k := Sum.inr (S u.reverse)) (s1 _ _ (k2 _ _ hG1))
      rw [news_at n0 b1.tab.len (strip_rev su) (by rw [List.length_reverse, lu])] at g
      exact g
    · intro M s1 hM
      refine ⟨_, _, (mirT n l r res).map fun y => S [y], rfl, rfl, .inl (seqL_of (by rw [List.map_map]; exact hM)), ?_, ?_⟩
      · rw [sum_ones, List.length_map, lm, S_len]
        exact szl (by show _ + _ * 0 ≤ _; omega)
      · rw [join_ones]
        refine ⟨by show 3 ≤ sizeLine; decide, fun d hd => ?_⟩
        have kM := (k1.trans k2).trans s1
        have k3 := kM.trans (ex_new (o := tb r l (mirT n l r res)) hd)
        have b3 := b1.mono k3
        obtain ⟨dx, qq, hp, _⟩ := b3.ob
        refine ⟨_, rfl, p, dx, _, rfl, hp, fb_no s l r res qq (by decide +kernel), p, s, R, C, n, l, r, res, rfl, b3, fun G4 y k4 b4 => ?_⟩
        refine ⟨_, rfl, _, rfl, _, rfl, s, y, d, R, C, n, r, l, mirT n l r res, rfl, b4, k4 _ _ upd_same, fun G5 k5 => ⟨_, rfl, itN (by decide) ?_⟩⟩
        have b5 := b4.mono k5
        obtain ⟨dy, qy, hy, _⟩ := b5.ob
        refine ⟨_, rfl, y, dy, _, rfl, hy, fb_no s r l (mirT n l r res) qy (by decide +kernel), y, s, R, C, n, r, l, mirT n l r res, rfl, b5, fun G6 y2 k6 b6 => ?_⟩
        rw [mir_mir n0 b1.tab b1.least] at b6
        have k46 := (k4.trans k5).trans k6
        have b1' := b3.mono k46
        obtain ⟨d6, q6, h6, _⟩ := b6.ob
        refine ⟨_, rfl, y2, _, _, rfl, h6, .inr (.inr ⟨p, _, _, rfl, k46 _ _ hp⟩), y2, s, R, C, n, l, r, res, _, rfl, b6, .inr (.inr ⟨p, s, R, C, n, l, r, res, rfl, b1', ?_⟩)⟩
        rw [decide_eq_true ⟨⟨rfl, rfl⟩, rfl, rfl, rfl⟩]
        refine ⟨_, rfl, _, rfl, itN (by decide) ?_⟩
        have ht6 := (k3.trans k46) _ _ ht
        have b4' := (b4.mono k5).mono k6
        refine ⟨_, rfl, t, rfl, ⟨_, seqL_of ht6⟩, for_it (walk_list (xs := xs.map tx)) (fun j σ M => Same G6 M ∧ ∃ x10, σ = [some (.ref s), some (tx (cols n)), some (.ref c1), some (.ref p), some (.ref t), some (.int ((l : Int) + 1 + (r : Int))), some (.ref D), some (.ref d), none, some (.ref y), x10]) ⟨.refl _, none, rfl⟩ (fun j σ M _ h => seqL_of (h.1 _ _ ht6)) ?_ ?_⟩
        · rintro j x σ M' M hj ⟨k7, x10, rfl⟩ ⟨rfl, hx⟩
          rw [List.length_map] at hj
          rw [List.getElem?_map, List.getElem?_eq_getElem hj] at hx
          cases hx
          obtain ⟨st, lx⟩ := hxs _ (List.getElem_mem hj)
          generalize xs[j] = x at st lx
          have bm := b4'.mono k7
          obtain ⟨dm, qm, hm, _⟩ := bm.ob
          refine ⟨_, rfl, y, dm, _, rfl, hm, fb_no s r l (mirT n l r res) qm (by decide +kernel), _, rfl, x, rfl, by omega, y, s, R, C, n, r, l, mirT n l r res, x.reverse, rfl, bm, by rw [List.length_reverse]; omega, fun _ M1 k8 => ?_, fun e => absurd ((strip_rev st).symm.trans e) nofun⟩
          have k78 := k7.trans k8
          have bf := b1'.mono k78
          obtain ⟨df, qf, hf, _⟩ := bf.ob
          refine ⟨_, rfl, p, df, _, rfl, hf, fb_no s l r res qf (by decide +kernel), _, rfl, p, s, R, C, n, l, r, res, x, rfl, bf, by omega, fun _ M2 k9 => ?_, fun e => absurd (st.symm.trans e) nofun⟩
          have la : (ard n l r res x).length ≤ 40 := by
            unfold ard
            split
            · show 0 ≤ 40
              decide
            · rw [win_len]
              exact lx
          refine ⟨ard n l r res x, rfl, by omega, rfl, _, rfl, ?_⟩
          rw [ard_mir n0 st]
          refine itF_self ⟨k78.trans k9, _, rfl⟩
        · rintro σ M ⟨k7, x10, rfl⟩
          exact z M ((k3.trans k46).trans k7)
end
end K42

end
section
set_option Elab.async false
set_option linter.all false
set_option maxRecDepth 100000
set_option maxHeartbeats 4000000
namespace K42
open PySem PySem.Spec PyProof.Rows L2 Kit K40 K4B
theorem part_img {n l r : Nat} {res le m re : List Nat} {t : Int} (tab : Tab n l r res) (ok : PartOk n le m re t) (hw : l + r ≤ 20) (hm : m.length ≤ 60) (t1 : -1000 ≤ t) (t2 : t ≤ 1000) :
    PartOk n (win (img n l r res (wd le m re t)) (t - r - le.length) le.length) (win (img n l r res (wd le m re t)) (t - r) (m.length + l + r)) (win (img n l r res (wd le m re t)) (t + m.length + l) re.length) (t - r) := by
  have wok : Ok n (img n l r res (wd le m re t)) := img_ok tab (wd_ok ok)
  exact ⟨win_ok wok _ _, win_ok wok _ _, win_ok wok _ _, by rw [win_len]; exact ok.l0, by rw [win_len]; exact ok.l6, by rw [win_len]; exact ok.r0, by rw [win_len]; exact ok.r6, by rw [win_len]; omega, by omega, by omega⟩
section
variable {P : Program} {w : World} {K : PySem.W.Frag} {mg : Str → Option Value} {base : Heap} {a : Ad}
def spCH (a : Ad) : Sp := fun vs H Q _ => ∃ (s c1 c2 p p2 q : Addr) (R C n l r l2 r2 : Nat) (res res2 le m re : List Nat) (t : Int), vs = [.ref s, tx (cols n), .ref c1, .ref c2, .ref p, .ref p2, .ref q] ∧ BlockAt a H p s R C n l r res ∧ BlockAt a H p2 s R C n l2 r2 res2 ∧ H c1 = some (tb l r res) ∧ H c2 = some (tb l2 r2 res2) ∧ H q = some (tpl le m re t) ∧ PartOk n le m re t ∧ m.length ≤ 6 ∧ -4 ≤ t ∧ t ≤ 4 ∧ ∀ G, Same H G → Q (.bl true) G
theorem c_law_call_holds (T : Txt K mg a) : Can P w K mg base 8 "_law_call_holds" (spCH a) := by
  refine can_of T.d_law_call_holds sc_law_call_holds bd_law_call_holds (fun vs H Q E h => ?_) (fun f0 cdv A outer s0 H vs Q E hr h => ?_)
  · obtain ⟨s, c1, c2, p, p2, q, R, C, n, l, r, l2, r2, res, res2, le, m, re, t, rfl, _⟩ := h
    rfl
  · obtain ⟨s, c1, c2, p, p2, q, R, C, n, l, r, l2, r2, res, res2, le, m, re, t, rfl, b1, b2, h1, h2, hq, ok, hm, t1, t2, z⟩ := h
    refine ⟨_, (pss_cons (ps_set (i := 7) sc_law_call_holds.nd rfl (.inl rfl) (pc_f (c_law_made T) hr (by decide) (by rfl) (pa_cons (pv 0) (pa_cons (pv 6) pa_nil))))
      (pss_cons (ps_set (i := 8) sc_law_call_holds.nd rfl (.inl rfl) (pc_f (c_law_table T) hr (by decide) (by rfl) (pa_cons (pv 1) (pa_cons (pe_op op_add (pe_op op_add (pe_ix (kix_tup K) (pv 2) pe_int (fun _ _ => rfl)) pe_int) (pe_ix (kix_tup K) (pv 2) pe_int (fun _ _ => rfl))) (pa_cons (pe_ix (kix_tup K) (pv 2) pe_int (fun _ _ => rfl)) pa_nil)))))
      (pss_cons (ps_set (i := 9) sc_law_call_holds.nd rfl (.inl rfl) (pc_f (c_law_image T) hr (by decide) (by rfl) (pa_cons (pv 8) (pa_cons (pe_ix (kix_tup K) (pv 2) pe_int (fun _ _ => rfl)) (pa_cons (pe_ix (kix_tup K) (pv 2) pe_int (fun _ _ => rfl)) (pa_cons (pv 6) pa_nil))))))
      (pss_cons (ps_set (i := 10) sc_law_call_holds.nd rfl (.inl rfl) (pc_c (c_Block___call__ T) hr (by decide) (pv 4) (pa_cons (pv 7) pa_nil)))
      (C8.pss_cut (ps_if (PW.pt (pw_or (pt_not (pt_val (pe_callB (kisi K) (by rfl) T.b_isinstance (by decide +kernel) (pa_cons (pv 10) (pa_cons (pe_glob (v := .ref a.Endless) (by rfl) T.c_Endless.gC rfl) pa_nil))))) (pw_or (pt_not (pt_cmpR (eqO K (c_Scheme_eq T) hr (by decide) T.i_ni T.i_ns) (kfld K (pv 10)) (pv 0) (nomark _))) (pw_or1 (pt_not (pt_cmpR (eqO K (c_Endless_eq T) hr (by decide) T.p_ni T.p_ns) (pv 10) (pc_f (c_law_made T) hr (by decide) (by rfl) (pa_cons (pv 0) (pa_cons (pv 9) pa_nil))) (nomark _))))))) (pss_one (ps_ret pe_bl)) pss_nil)
      (C8.pss_cut (ps_if (pt_cmpR op_ne (pc_m (c_Endless_window T) hr (by decide) (pv 10) (pa_cons (pe_op op_sub (pe_ix (kix_tup K) (pv 6) pe_int (fun _ _ => rfl)) pe_int) (pa_cons (pe_op op_add (pe_ix (kix_tup K) (pv 6) pe_int (fun _ _ => rfl)) pe_int) pa_nil))) (pc_f (c_law_text T) hr (by decide) (by rfl) (pa_cons (pv 9) (pa_cons (pe_op op_sub (pe_ix (kix_tup K) (pv 6) pe_int (fun _ _ => rfl)) pe_int) (pa_cons (pe_op op_add (pe_ix (kix_tup K) (pv 6) pe_int (fun _ _ => rfl)) pe_int) pa_nil)))) (nomark _)) (pss_one (ps_ret pe_bl)) pss_nil)
      (pss_cons (ps_set (i := 8) sc_law_call_holds.nd rfl (.inl rfl) (pc_f (c_law_table T) hr (by decide) (by rfl) (pa_cons (pv 1) (pa_cons (pe_op op_add (pe_op op_add (pe_ix (kix_tup K) (pv 3) pe_int (fun _ _ => rfl)) pe_int) (pe_ix (kix_tup K) (pv 3) pe_int (fun _ _ => rfl))) (pa_cons (pe_ix (kix_tup K) (pv 3) pe_int (fun _ _ => rfl)) pa_nil)))))
      (pss_cons (ps_set (i := 11) sc_law_call_holds.nd rfl (.inl rfl) (pc_f (c_law_image T) hr (by decide) (by rfl) (pa_cons (pv 8) (pa_cons (pe_ix (kix_tup K) (pv 3) pe_int (fun _ _ => rfl)) (pa_cons (pe_ix (kix_tup K) (pv 3) pe_int (fun _ _ => rfl)) (pa_cons (pv 9) pa_nil))))))
      (C8.pss_cut (ps_if (pt_cmpR (kneP K hr.units) (pc_f (c_endless_apart T) hr (by decide) (by rfl) (pa_cons (pc_c (c_Block___call__ T) hr (by decide) (pv 5) (pa_cons (pv 10) pa_nil)) (pa_cons (pc_f (c_law_made T) hr (by decide) (by rfl) (pa_cons (pv 0) (pa_cons (pv 11) pa_nil))) pa_nil))) (pe_lst pa_nil) (nomark _)) (pss_one (ps_ret pe_bl)) pss_nil)
      (pss_cons (ps_set (i := 12) sc_law_call_holds.nd rfl (.inl rfl) (pc_f (c_law_product T) hr (by decide) (by rfl) (pa_cons (pv 4) (pa_cons (pv 5) pa_nil))))
      (C8.pss_cut (ps_if (PW.pt (pw_and (pt_cmpR op_eq (pe_callB (klen_seq K) (by rfl) T.b_len (by decide +kernel) (pa_cons (pv 12) pa_nil)) pe_int (nomark _)) (pw_and1 (pt_not (pt_cmpR (eqO K (c_Endless_eq T) hr (by decide) T.p_ni T.p_ns) (pc_c (c_Block___call__ T) hr (by decide) (pe_ix (kix_tup K) (pv 12) pe_int (fun _ _ => rfl)) (pa_cons (pv 7) pa_nil)) (pc_c (c_Block___call__ T) hr (by decide) (pv 5) (pa_cons (pv 10) pa_nil)) (nomark _)))))) (pss_one (ps_ret pe_bl)) pss_nil)
      (pss_one (ps_ret (pe_cmpR (eqO K (c_Endless_eq T) hr (by decide) T.p_ni T.p_ns) (pv 7) (pc_f (c_law_made T) hr (by decide) (by rfl) (pa_cons (pv 0) (pa_cons (pv 6) pa_nil))) (nomark _))))))))))))))), ?_⟩
    have gn := good_n b1.sch.2
    have n0 : 0 < n := by omega
    have w1 := small_w gn.2.2.2.2 b1.wide
    have w2 := small_w gn.2.2.2.2 b2.wide
    refine ⟨_, rfl, _, rfl, s, q, R, C, n, le, m, re, t, rfl, b1.sch, hq, ok, fun G1 e k1 en => ?_⟩
    have h1' := k1 _ _ h1
    refine ⟨_, rfl, _, rfl, c1, _, 0, _, rfl, rfl, seqT_of h1', rfl, _, _, rfl, rfl, _, rfl, c1, _, 1, _, rfl, rfl, seqT_of h1', rfl, _, _, rfl, rfl, _, rfl, c1, _, 2, _, rfl, rfl, seqT_of h1', rfl, n, l + 1 + r, res, rfl, gn.2.2.2.2, gn.1, b1.wide, b1.tab.len, fun G2 D k2 hD hG2 => ?_⟩
    have k12 := k1.trans k2
    have h1' := k12 _ _ h1
    refine ⟨_, rfl, _, rfl, c1, _, 0, _, rfl, rfl, seqT_of h1', rfl, _, rfl, c1, _, 1, _, rfl, rfl, seqT_of h1', rfl, _, rfl, D, q, n, l, r, res, le, m, re, t, rfl, n0, hG2, b1.tab, by omega, k12 _ _ hq, ok, by omega, by omega, fun G3 qa k3 ha => ?_⟩
    have k13 := k12.trans k3
    have oka := part_img b1.tab ok (by omega) (by omega) (by omega) (by omega)
    have mw := made_wd (n := n) (l := l) (r := r) (res := res) (m := m) (t := t) ok.l0 ok.r0
    have lma : (win (img n l r res (wd le m re t)) (t - r) (m.length + l + r)).length = m.length + l + r := win_len ..
    generalize win (img n l r res (wd le m re t)) (t - r - le.length) le.length = la at ha oka mw
    generalize win (img n l r res (wd le m re t)) (t - r) (m.length + l + r) = ma at ha oka mw lma
    generalize win (img n l r res (wd le m re t)) (t + m.length + l) re.length = ra at ha oka mw
    have bp := b1.mono k13
    obtain ⟨dx, qx, hp, _⟩ := bp.ob
    refine ⟨_, rfl, p, rfl, _, rfl, ⟨dx, _, hp⟩, p, s, e, s, R, C, n, l, r, R, C, n, res, le, m, re, t, rfl, bp, en.mono (k2.trans k3), by omega, by omega, by omega, fun _ G4 o l1 m1 r1 k4 eo ll lm lr W1 => ?_, fun c => absurd ⟨rfl, rfl⟩ c⟩
    have eW : wd l1 m1 r1 (t - r) = wd la ma ra (t - r) := funext fun j => (W1 j).trans (mw j).symm
    have k14 := k13.trans k4
    have ha4 := k4 _ _ ha
    have sch4 := b1.sch.mono k14
    obtain ⟨ds, hs⟩ := sch4.1
    obtain ⟨do1, ho⟩ := eo.ob
    refine ⟨fun σ G => Same G4 G ∧ σ = [some (.ref s), some (tx (cols n)), some (.ref c1), some (.ref c2), some (.ref p), some (.ref p2), some (.ref q), some (.ref e), some (.ref D), some (.ref qa), some (.ref o), none, none], ?_, ?_⟩
    · refine ⟨_, rfl, _, _, _, _, true, rfl, .own _, .base (.ins ho T.c_Endless.cl T.p_ha T.i_hn T.i_ht T.p_hm), T.p_own, _, rfl, itN (by decide) ?_⟩
      refine ⟨_, rfl, o, _, do1, _, _, rfl, ho, T.c_Endless.cl, T.n_scheme, fe_scheme s l1 m1 r1 (t - r), _, rfl, s, _, _, rfl, hs, .inr (.inr ⟨s, _, _, rfl, hs⟩), s, R, C, n, _, rfl, sch4, .inr (.inr ⟨s, R, C, n, rfl, sch4, _, rfl, _, rfl, ?_⟩)⟩
      refine itN (by simp) ?_
      refine ⟨_, rfl, _, rfl, _, rfl, s, qa, R, C, n, la, ma, ra, t - r, rfl, sch4, ha4, oka, fun G5 e2 k5 en2 => ?_⟩
      have eo5 := eo.mono k5
      obtain ⟨de2, he2⟩ := en2.ob
      refine ⟨o, _, _, rfl, k5 _ _ ho, .inr (.inr ⟨e2, _, _, rfl, he2⟩), o, s, R, C, n, l1, m1, r1, t - r, _, rfl, eo5, .inr ⟨e2, s, R, C, n, la, ma, ra, t - r, rfl, en2, fun c => absurd ⟨rfl, rfl⟩ c, fun _ bb hb G6 k6 => ?_⟩⟩
      obtain rfl : bb = true := hb.mpr fun i => congrFun eW i
      exact ⟨_, rfl, _, rfl, itN (by decide) ⟨k5.trans k6, rfl⟩⟩
    · rintro σ G5 ⟨k5, rfl⟩
      have k15 := k14.trans k5
      have hq5 := k15 _ _ hq
      have ha5 := k5 _ _ ha4
      have eo5 := eo.mono k5
      refine ⟨fun σ G => Same G5 G ∧ σ = [some (.ref s), some (tx (cols n)), some (.ref c1), some (.ref c2), some (.ref p), some (.ref p2), some (.ref q), some (.ref e), some (.ref D), some (.ref qa), some (.ref o), none, none], ?_, ?_⟩
      · refine ⟨_, rfl, o, do1, _, rfl, k5 _ _ ho, fe_no _ _ _ _ _ (by decide +kernel), _, rfl, q, _, 3, _, rfl, rfl, seqT_of hq5, rfl, _, _, rfl, rfl, _, rfl, q, _, 3, _, rfl, rfl, seqT_of hq5, rfl, _, _, rfl, rfl, o, s, R, C, n, l1, m1, r1, t - r, t - 20, t + 30, rfl, eo5, by omega, by omega, by omega, by omega, fun G6 k6 => ?_⟩
        have hq6 := k6 _ _ hq5
        refine ⟨_, rfl, _, rfl, q, _, 3, _, rfl, rfl, seqT_of hq6, rfl, _, _, rfl, rfl, _, rfl, q, _, 3, _, rfl, rfl, seqT_of hq6, rfl, _, _, rfl, rfl, qa, n, la, ma, ra, t - r, t - 20, t + 30, rfl, k6 _ _ ha5, oka, by omega, by omega, by omega, by omega, fun G7 k7 => ⟨rfl, _, rfl, ?_⟩⟩
        rw [eW]
        exact itF_self ⟨k6.trans k7, rfl⟩
      · rintro σ G6 ⟨k6, rfl⟩
        have k16 := k15.trans k6
        have h2' := k16 _ _ h2
        have ha6 := k6 _ _ ha5
        refine ⟨_, rfl, _, rfl, c2, _, 0, _, rfl, rfl, seqT_of h2', rfl, _, _, rfl, rfl, _, rfl, c2, _, 1, _, rfl, rfl, seqT_of h2', rfl, _, _, rfl, rfl, _, rfl, c2, _, 2, _, rfl, rfl, seqT_of h2', rfl, n, l2 + 1 + r2, res2, rfl, gn.2.2.2.2, gn.1, b2.wide, b2.tab.len, fun G7 D2 k7 hD2 hG7 => ?_⟩
        have h2' := k7 _ _ h2'
        refine ⟨_, rfl, _, rfl, c2, _, 0, _, rfl, rfl, seqT_of h2', rfl, _, rfl, c2, _, 1, _, rfl, rfl, seqT_of h2', rfl, _, rfl, D2, qa, n, l2, r2, res2, la, ma, ra, t - r, rfl, n0, hG7, b2.tab, by omega, k7 _ _ ha6, oka, by omega, by omega, fun G8 qb k8 hb => ?_⟩
        have okb := part_img b2.tab oka (by omega) (by omega) (by omega) (by omega)
        have mw2 := made_wd (n := n) (l := l2) (r := r2) (res := res2) (m := ma) (t := t - r) oka.l0 oka.r0
        generalize win (img n l2 r2 res2 (wd la ma ra (t - r))) (t - r - r2 - la.length) la.length = lb at hb okb mw2
        generalize win (img n l2 r2 res2 (wd la ma ra (t - r))) (t - r - r2) (ma.length + l2 + r2) = mb at hb okb mw2
        generalize win (img n l2 r2 res2 (wd la ma ra (t - r))) (t - r + ma.length + l2) ra.length = rb at hb okb mw2
        have k78 := k7.trans k8
        have k18 := k16.trans k78
        have eo8 := (eo5.mono k6).mono k78
        have bp2 := b2.mono k18
        obtain ⟨dx2, qx2, hp2, _⟩ := bp2.ob
        refine ⟨fun σ G => Same G8 G ∧ σ = [some (.ref s), some (tx (cols n)), some (.ref c1), some (.ref c2), some (.ref p), some (.ref p2), some (.ref q), some (.ref e), some (.ref D2), some (.ref qa), some (.ref o), some (.ref qb), none], ?_, ?_⟩
        · refine ⟨_, rfl, p2, rfl, _, rfl, ⟨dx2, _, hp2⟩, p2, s, o, s, R, C, n, l2, r2, R, C, n, res2, l1, m1, r1, t - r, rfl, bp2, eo8, by omega, by omega, by omega, fun _ G9 o2 l4 m4 r4 k9 eo2 ll4 lm4 lr4 W2 => ?_, fun c => absurd ⟨rfl, rfl⟩ c⟩
          have sch9 := b1.sch.mono (k18.trans k9)
          refine ⟨_, rfl, _, rfl, s, qb, R, C, n, lb, mb, rb, t - r - r2, rfl, sch9, k9 _ _ hb, okb, fun G10 e3 k10 en3 => ?_⟩
          have eW2 : ∀ j, wd l4 m4 r4 (t - r - r2) j = wd lb mb rb (t - r - r2) j := fun j => by rw [W2 j, mw2 j, eW]
          have sm := (same_iff (mn_mx (t - r - r2) (t - r - r2) m4 mb)).mp eW2
          refine ⟨o2, s, e3, s, R, C, n, R, C, n, l4, m4, r4, lb, mb, rb, t - r - r2, t - r - r2, rfl, eo2.mono k10, en3, fun c => absurd ⟨rfl, rfl⟩ c, fun _ far => absurd far sm.1, fun _ _ G11 qd k11 hqd hG11 => ?_⟩
          rw [sm.2] at hG11
          refine ⟨by show 0 ≤ sizeLine; decide, fun u hu => ?_⟩
          refine ⟨pdI [], pdI [], dp_int (xs := []) (ex_new hu _ _ hG11), dp_int (xs := []) upd_same, plainI [], plainI [], by decide, _, rfl, ?_⟩
          exact iteF ⟨((k9.trans k10).trans k11).trans (ex_new hu), rfl⟩
        · rintro σ G9 ⟨k9, rfl⟩
          have k19 := k18.trans k9
          have eo9 := eo8.mono k9
          have c1' := b1.mono k19
          have c2' := b2.mono k19
          have en9 := en.mono ((((k2.trans k3).trans k4).trans k5).trans ((k6.trans k78).trans k9))
          have fin : ∀ M x12, Same G9 M → tRet (tOp (rEqO K a.Endless (spEEq a)) (tVar 7) (tCall (spLMade a) [] E0 (tCons (tVar 0) (tCons (tVar 6) tNil)))) { nx := fun x H' => Q V.non H', rt := Q } [some (.ref s), some (tx (cols n)), some (.ref c1), some (.ref c2), some (.ref p), some (.ref p2), some (.ref q), some (.ref e), some (.ref D2), some (.ref qa), some (.ref o), some (.ref qb), x12] M := by
            intro M x12 kM
            have kH := k19.trans kM
            have enM := en9.mono kM
            obtain ⟨dm, hem⟩ := enM.ob
            refine ⟨_, rfl, _, rfl, _, rfl, s, q, R, C, n, le, m, re, t, rfl, b1.sch.mono kH, kH _ _ hq, ok, fun M2 e5 km en5 => ?_⟩
            obtain ⟨d5, h5⟩ := en5.ob
            refine ⟨e, _, _, rfl, km _ _ hem, .inr (.inr ⟨e5, _, _, rfl, h5⟩), e, s, R, C, n, le, m, re, t, _, rfl, enM.mono km, .inr ⟨e5, s, R, C, n, le, m, re, t, rfl, en5, fun c => absurd ⟨rfl, rfl⟩ c, fun _ bb hb G6 k6 => ?_⟩⟩
            obtain rfl : bb = true := hb.mpr fun i => rfl
            exact ⟨_, rfl, z G6 ((kH.trans km).trans k6)⟩
          refine ⟨_, rfl, _, rfl, p, s, p2, s, R, C, n, l, r, l2, r2, res, res2, rfl, c1', c2', fun hw G q1 k hq1 => ?_, fun hw G q1 y l' r' res' k lf bl hq1 => ?_⟩
          · refine ⟨fun σ G' => Same G9 G' ∧ ∃ x12, σ = [some (.ref s), some (tx (cols n)), some (.ref c1), some (.ref c2), some (.ref p), some (.ref p2), some (.ref q), some (.ref e), some (.ref D2), some (.ref qa), some (.ref o), some (.ref qb), x12], ?_, ?_⟩
            · exact ⟨_, rfl, q1, _, rfl, .inr (seqT_of hq1), rfl, _, rfl, itN (by decide) ⟨k, _, rfl⟩⟩
            · rintro σ M ⟨kM, x12, rfl⟩
              exact fin M x12 kM
          · refine ⟨fun σ G' => Same G9 G' ∧ ∃ x12, σ = [some (.ref s), some (tx (cols n)), some (.ref c1), some (.ref c2), some (.ref p), some (.ref p2), some (.ref q), some (.ref e), some (.ref D2), some (.ref qa), some (.ref o), some (.ref qb), x12], ?_, ?_⟩
            · refine ⟨_, rfl, q1, _, rfl, .inr (seqT_of hq1), rfl, _, rfl, itP (decide_eq_true rfl) ?_⟩
              obtain ⟨dy, qy, hy, _⟩ := bl.ob
              refine ⟨_, rfl, q1, _, 0, _, rfl, rfl, seqT_of hq1, rfl, y, rfl, _, rfl, ⟨dy, _, hy⟩, y, s, e, s, R, C, n, l', r', R, C, n, res', le, m, re, t, rfl, bl, en9.mono k, by omega, by omega, by omega, fun _ G11 oy ly my ry k11 eoy lly lmy lry Wy => ?_, fun c => absurd ⟨rfl, rfl⟩ c⟩
              have kk := k.trans k11
              have cc := c2'.mono kk
              obtain ⟨dz, qz, hz, _⟩ := cc.ob
              refine ⟨_, rfl, p2, rfl, _, rfl, ⟨dz, _, hz⟩, p2, s, o, s, R, C, n, l2, r2, R, C, n, res2, l1, m1, r1, t - r, rfl, cc, eo9.mono kk, by omega, by omega, by omega, fun _ G12 o2 l4 m4 r4 k12' eo2 ll4 lm4 lr4 W2 => ?_, fun c => absurd ⟨rfl, rfl⟩ c⟩
              have eoy2 := eoy.mono k12'
              obtain ⟨d7, h7⟩ := eoy2.ob
              obtain ⟨d8, h8⟩ := eo2.ob
              refine ⟨oy, _, _, rfl, h7, .inr (.inr ⟨o2, _, _, rfl, h8⟩), oy, s, R, C, n, ly, my, ry, t - r', _, rfl, eoy2, .inr ⟨o2, s, R, C, n, l4, m4, r4, t - r - r2, rfl, eo2, fun c => absurd ⟨rfl, rfl⟩ c, fun _ bb hb G13 k13' => ?_⟩⟩
              obtain rfl : bb = true := hb.mpr fun i => by
                rw [Wy i, W2 i, show wd l1 m1 r1 (t - r) = img n l r res (wd le m re t) from funext W1, ← prod_img n0 (wd_ok ok)]
                show sem n l' r' res' _ = sem n (l + l2) (r + r2) _ _
                exact (lf.same _ fun j => wd_ok ok _).symm
              exact ⟨_, rfl, _, rfl, itN (by decide) ⟨(kk.trans k12').trans k13', _, rfl⟩⟩
            · rintro σ M ⟨kM, x12, rfl⟩
              exact fin M x12 kM
end
end K42

end
section
set_option Elab.async false
set_option linter.all false
set_option maxRecDepth 100000
set_option maxHeartbeats 4000000
namespace K42
open PySem PySem.Spec PyProof.Rows L2 Kit K40 K4B
theorem at_neg1 {u : List Nat} {m : Nat} (h : u.length = m + 1) : atI (S u).cps.toList (-1) = some (u.getD m 0) := by
  have hne : u ≠ [] := fun e => by rw [e] at h; cases h
  obtain ⟨v, x, rfl⟩ : ∃ v x, u = v ++ [x] := ⟨u.dropLast, u.getLast hne, (List.dropLast_concat_getLast hne).symm⟩
  have hv : v.length = m := by
    rw [List.length_append] at h
    exact Nat.succ.inj h
  rw [S_cps, atI_last, List.getD_eq_getElem?_getD, List.getElem?_append_right (by omega), hv, Nat.sub_self]
  rfl
theorem id_img {n : Nat} (hn : 0 < n) {W : Int → Nat} (h : Ok n W) : img n 0 0 (cols n) W = W := by
  funext j
  unfold img
  rw [id_sem hn fun i => h _, Int.add_zero]
theorem lf_id {n l' r' : Nat} {res' : List Nat} (hn : 0 < n) (h : Lf n 0 0 (cols n) l' r' res') : l' = 0 ∧ r' = 0 ∧ res' = cols n := Lf.unique hn h (lf_self (tab_id hn) (id_least n))
section
variable {P : Program} {w : World} {K : PySem.W.Frag} {mg : Str → Option Value} {base : Heap} {a : Ad}
def spShift (a : Ad) : Sp := fun vs H Q E => ∃ (s : Addr) (R C n : Nat) (b : Int), vs = [.ref a.Block, .ref s, .int b] ∧ SchemeAt a.Scheme H s R C n ∧ -20 ≤ b ∧ b ≤ 20 ∧ (¬ n ^ ((-b).toNat + 1 + b.toNat) ≤ 729 → Ra E a.BadBlock "part" (tx [114, 101, 97, 99, 104]) H) ∧
  (n ^ ((-b).toNat + 1 + b.toNat) ≤ 729 → ∀ G y, Same H G → BlockAt a G y s R C n (-b).toNat b.toNat (shT n (-b).toNat b.toNat b) → Q (.ref y) G)
theorem c_Block_shift (T : Txt K mg a) : CanC P w K mg base 6 a.Block "shift" (spShift a) := by
  refine canC_of T.m_Block_shift sc_Block_shift bd_Block_shift (fun vs H Q E h => ?_) (fun f cdv A outer s0 H vs Q E hr h => ?_)
  · obtain ⟨s, R, C, n, b, rfl, _⟩ := h
    rfl
  · obtain ⟨s, R, C, n, b, rfl, sch, b1, b2, y, z⟩ := h
    refine ⟨_, (pss_cons (ps_if (pt_not (pt_val (pc_f (c_is_narrow T) hr (by decide) (by rfl) (pa_cons (pv 1) (pa_cons (pe_op op_add (pe_callB call_abs (by rfl) T.b_abs (by decide +kernel) (pa_cons (pv 2) pa_nil)) pe_int) pa_nil))))) (pss_one (pr_err (c_BadBlock T) (takes_of rfl rfl rfl rfl) (by rfl) hr (by decide) (by rfl) pe_str)) pss_nil)
      (pss_cons (ps_set (i := 3) sc_Block_shift.nd rfl (.inl rfl) (pc_f (c_words_of T) hr (by decide) (by rfl) (pa_cons (pv 1) (pa_cons (pe_op op_add (pe_callB call_abs (by rfl) T.b_abs (by decide +kernel) (pa_cons (pv 2) pa_nil)) pe_int) pa_nil))))
      (pss_cons (ps_if (pt_cmpR op_lt (pv 2) pe_int (nomark _)) (pss_one (ps_ret (pc_nV (i := 0) (c_Block_init T) (takes_of rfl rfl rfl rfl) hr (by decide) (by rfl) (.inl rfl) (pa_cons (pv 1) (pa_cons (pe_un un_neg (pv 2)) (pa_cons pe_int (pa_cons (kjoin K pe_str (pe_lc (own := [("window", 4)]) (g := gName 4) (tt := tYes) (by rfl) sc_Block_shift.nd (kpi_list K (pv 3)) (blkOk_by (N := N_Block_shift) (sc := defScope s_Block_shift) (by decide +kernel)) (fun _ _ _ _ _ => (pg_name (i := 4) sc_Block_shift.nd rfl (.inl rfl))) (fun _ _ _ _ _ => pts_nil) (fun _ _ _ _ _ => (pe_ix ix_str (pv 4) pe_int (fun _ _ => rfl))))) pa_nil))))))) pss_nil)
      (pss_one (ps_ret (pc_nV (i := 0) (c_Block_init T) (takes_of rfl rfl rfl rfl) hr (by decide) (by rfl) (.inl rfl) (pa_cons (pv 1) (pa_cons pe_int (pa_cons (pv 2) (pa_cons (kjoin K pe_str (pe_lc (own := [("window", 4)]) (g := gName 4) (tt := tYes) (by rfl) sc_Block_shift.nd (kpi_list K (pv 3)) (blkOk_by (N := N_Block_shift) (sc := defScope s_Block_shift) (by decide +kernel)) (fun _ _ _ _ _ => (pg_name (i := 4) sc_Block_shift.nd rfl (.inl rfl))) (fun _ _ _ _ _ => pts_nil) (fun _ _ _ _ _ => (pe_ix ix_str (pv 4) (pe_un un_neg pe_int) (fun _ _ => rfl))))) pa_nil)))))))))), ?_⟩
    rw [lit_reach, lit_e]
    have gn := good_n sch.2
    have n0 : 0 < n := by omega
    have ab : (if b < 0 then -b else b) + 1 = (((-b).toNat + 1 + b.toNat : Nat) : Int) := by split <;> omega
    refine ⟨_, rfl, _, rfl, b, rfl, _, _, rfl, rfl, s, R, C, n, (-b).toNat + 1 + b.toNat, by show [_, V.int ((if b < 0 then -b else b) + 1)] = _; rw [ab], sch, _, rfl, ?_⟩
    by_cases hw : n ^ ((-b).toNat + 1 + b.toNat) ≤ 729
    · rw [decide_eq_true hw]
      refine iteF ?_
      have w9 := small_w gn.2.2.2.2 hw
      refine ⟨_, rfl, _, rfl, b, rfl, _, _, rfl, rfl, s, R, C, n, (-b).toNat + 1 + b.toNat, by show [_, V.int ((if b < 0 then -b else b) + 1)] = _; rw [ab], sch, hw, fun G1 q1 k1 hq1 hG1 => ?_⟩
      have lw : ((words n ((-b).toNat + 1 + b.toNat)).map tx).length = n ^ ((-b).toNat + 1 + b.toNat) := by rw [List.length_map, words_len]
      have ls : (shT n (-b).toNat b.toNat b).length = n ^ ((-b).toNat + 1 + b.toNat) := by unfold shT; rw [List.length_map, words_len]
      have le : Least n (-b).toNat b.toNat (shT n (-b).toNat b.toNat b) := sh_least gn.2.2.2.2 (by omega)
      have tab : Tab n (-b).toNat b.toNat (shT n (-b).toNat b.toNat b) := sh_tab n0 (by omega) (by omega)
      have fin : ∀ M, Same G1 M → ∀ y d, M y = none → M d = none → d ≠ y → spBInit a (.ref y :: [.ref s, .int ((-b).toNat : Nat), .int (b.toNat : Nat), tx (shT n (-b).toNat b.toNat b)] ++ []) (upd (upd M d (.own y)) y (.ins a.Block d [])) (fun v G => v = .non ∧ Q (.ref y) G) E := fun M kM y d hy hd ne => init_block ((sch.mono k1).mono kM) tab hw hy hd ne fun G l' r' res' k lf bl => by
        obtain ⟨rfl, rfl, rfl⟩ := Lf.unique n0 lf (lf_self tab le)
        exact z hw G y ((k1.trans kM).trans k) bl
      refine ⟨_, rfl, _, _, rfl, rfl, _, rfl, ite2 (fun h => ?_) (fun h => ?_)⟩
      · have hb := of_decide_eq_true h
        refine ⟨rfl, _, rfl, _, rfl, _, rfl, ⟨_, rfl⟩, _, rfl, q1, rfl, ⟨_, seqL_of hG1⟩, fun D hD => lc_one (walk_list (xs := (words n ((-b).toNat + 1 + b.toNat)).map tx)) ((shT n (-b).toNat b.toNat b).map fun x => tx [x]) (by rw [List.length_map, ls, lw]) (by rw [lw]; omega) hD (fun M s => seqL_of (s _ _ hG1)) ?_ ?_⟩
        · rintro i x M M' v hi s1 ⟨rfl, hx⟩ hv
          rw [lw] at hi
          unfold shT at hv
          rw [List.getElem?_map, words_at hi] at hx
          rw [List.getElem?_map, List.getElem?_map, words_at hi] at hv
          cases hx
          cases hv
          have lu := wdig_len n ((-b).toNat + 1 + b.toNat) i
          generalize wdig n ((-b).toNat + 1 + b.toNat) i = u at *
          have e0 : (b + ((-b).toNat : Int)).toNat = 0 := by omega
          rw [e0]
          exact ⟨.refl _, fun Q' kk => ⟨_, rfl, _, _, u.getD 0 0, rfl, rfl, by rw [S_len, lu]; exact szl (by omega), at_getD (i := 0) (by omega), kk _ (.refl _)⟩⟩
        · intro M s1 hM
          refine ⟨_, _, (shT n (-b).toNat b.toNat b).map fun y => S [y], rfl, rfl, .inl (seqL_of (by rw [List.map_map]; exact hM)), ?_, ?_⟩
          · rw [sum_ones, List.length_map, ls, S_len]
            exact szl (by show _ + _ * 0 ≤ _; omega)
          · rw [join_ones]
            have f := fin M s1
            rw [show (((-b).toNat : Nat) : Int) = -b by omega, show ((b.toNat : Nat) : Int) = 0 by omega] at f
            exact f
      · have hb : ¬ b < 0 := fun q => h (decide_eq_true q)
        refine ⟨rfl, _, rfl, _, rfl, ⟨_, rfl⟩, _, rfl, q1, rfl, ⟨_, seqL_of hG1⟩, fun D hD => lc_one (walk_list (xs := (words n ((-b).toNat + 1 + b.toNat)).map tx)) ((shT n (-b).toNat b.toNat b).map fun x => tx [x]) (by rw [List.length_map, ls, lw]) (by rw [lw]; omega) hD (fun M s => seqL_of (s _ _ hG1)) ?_ ?_⟩
        · rintro i x M M' v hi s1 ⟨rfl, hx⟩ hv
          rw [lw] at hi
          unfold shT at hv
          rw [List.getElem?_map, words_at hi] at hx
          rw [List.getElem?_map, List.getElem?_map, words_at hi] at hv
          cases hx
          cases hv
          have lu := wdig_len n ((-b).toNat + 1 + b.toNat) i
          generalize wdig n ((-b).toNat + 1 + b.toNat) i = u at *
          have e0 : (b + ((-b).toNat : Int)).toNat = b.toNat := by omega
          rw [e0]
          exact ⟨.refl _, fun Q' kk => ⟨_, rfl, _, rfl, _, _, u.getD b.toNat 0, rfl, rfl, by rw [S_len, lu]; exact szl (by omega), at_neg1 (by omega), kk _ (.refl _)⟩⟩
        · intro M s1 hM
          refine ⟨_, _, (shT n (-b).toNat b.toNat b).map fun y => S [y], rfl, rfl, .inl (seqL_of (by rw [List.map_map]; exact hM)), ?_, ?_⟩
          · rw [sum_ones, List.length_map, ls, S_len]
            exact szl (by show _ + _ * 0 ≤ _; omega)
          · rw [join_ones]
            have f := fin M s1
            rw [show (((-b).toNat : Nat) : Int) = 0 by omega, show ((b.toNat : Nat) : Int) = b by omega] at f
            exact f
    · rw [decide_eq_false hw]
      exact iteT (y hw).now
end
end K42

end
section
set_option Elab.async false
set_option linter.all false
set_option maxRecDepth 100000
set_option maxHeartbeats 4000000
namespace K42
open PySem PySem.Spec PyProof.Rows L2 Kit K40 K4B
section
variable {P : Program} {w : World} {K : PySem.W.Frag} {mg : Str → Option Value} {base : Heap} {a : Ad}
def spLShift (a : Ad) : Sp := fun vs H Q _ => ∃ (s : Addr) (R C n : Nat) (b : Int), vs = [.ref s, .int b] ∧ SchemeAt a.Scheme H s R C n ∧ -20 ≤ b ∧ b ≤ 20 ∧ (¬ n ^ ((-b).toNat + 1 + b.toNat) ≤ 729 → ∀ G q, Same H G → G q = some (.tup [tx [114, 101, 97, 99, 104]]) → Q (.ref q) G) ∧
  (n ^ ((-b).toNat + 1 + b.toNat) ≤ 729 → ∀ G q y, Same H G → BlockAt a G y s R C n (-b).toNat b.toNat (shT n (-b).toNat b.toNat b) → G q = some (.tup [.ref y]) → Q (.ref q) G)
theorem c_law_shift (T : Txt K mg a) : Can P w K mg base 7 "_law_shift" (spLShift a) := by
  refine can_of T.d_law_shift sc_law_shift bd_law_shift (fun vs H Q E h => ?_) (fun f cdv A outer s0 H vs Q E hr h => ?_)
  · obtain ⟨s, R, C, n, b, rfl, _⟩ := h
    rfl
  · obtain ⟨s, R, C, n, b, rfl, sch, b1, b2, z0, z1⟩ := h
    refine ⟨_, (pss_cons (ps_try_as (i := 2) (tb := _) rfl rfl sc_law_shift.nd rfl rfl ⟨rfl, by decide, .inl T.e_BadBlock.gC⟩ takes0 (fun W pn xe tk po => (pss_one (ps_ret (pe_tup (pa_cons (pc_cmS (c_Block_shift T) tk hr (by decide) (pe_glob (v := .ref a.Block) (by rfl) T.c_Block.gC rfl) (pa_cons (pv 0) (pa_cons (pv 1) pa_nil))) pa_nil))))) (fun ae oe cls d pn hz hf => (pss_one (ps_if (PW.pt (pw_and (pt_val (pe_callB (call_isU hz hf) (by rfl) T.b_isinstance (by decide +kernel) (pa_cons (pv 2) (pa_cons (pe_glob (v := .ref a.GalloonError) (by rfl) T.g_GalloonError rfl) pa_nil)))) (pw_and1 (pt_not (pt_val (pe_callB (call_isU hz hf) (by rfl) T.b_isinstance (by decide +kernel) (pa_cons (pv 2) (pa_cons (pe_glob (v := .ref a.TooWide) (by rfl) T.z_TooWide.gC rfl) pa_nil)))))))) (pss_one (ps_ret (pe_tup (pa_cons (pe_xu hz hf (pv 2)) pa_nil)))) pss_nil))))
      (pss_one (ps_ret (pe_tup pa_nil)))), ?_⟩
    refine ⟨rfl, _, rfl, _, rfl, s, R, C, n, b, rfl, sch, b1, b2, fun hw d M s1 hd => ⟨true, T.xo_e 5 (by decide) 5 (by decide), fun _ x hx => ?_, nofun⟩, fun hw G y k bl => ⟨by show 1 ≤ sizeLine; decide, fun t ht => z1 hw _ t y (k.trans (ex_new ht)) (bl.mono (ex_new ht)) upd_same⟩⟩
    refine ⟨_, rfl, a.BadBlock, _, _, true, rfl, T.x_BadBlock, xdok hd, rfl, fun u h => h, T.kg_e 5 (by decide), _, rfl, iteT ⟨_, rfl, a.BadBlock, _, _, false, rfl, T.x_BadBlock, xdok hd, rfl, fun u h => h, T.kk_e 5 (by decide) 7 (by decide), _, rfl, iteT ?_⟩⟩
    exact ⟨_, rfl, a.BadBlock, d, _, _, rfl, rfl, T.x_BadBlock.xf, T.e_BadBlock.noF, rfl, hd, by rw [List.lookup_cons, beq_self_eq_true], by show 1 ≤ sizeLine; decide, fun q hq => z0 hw _ q (s1.trans (ex_new hq)) upd_same⟩
def spRefu (a : Ad) : Sp := fun vs H Q _ => ∃ (p s : Addr) (R C n l r : Nat) (res x : List Nat) (i : Int), vs = [.ref p, tx x, .int i] ∧ BlockAt a H p s R C n l r res ∧ isStrip n x = false ∧ x.length ≤ 900 ∧ ∀ G, Same H G → Q (.bl true) G
theorem c_law_refused (T : Txt K mg a) : Can P w K mg base 7 "_law_refused" (spRefu a) := by
  refine can_of T.d_law_refused sc_law_refused bd_law_refused (fun vs H Q E h => ?_) (fun f cdv A outer s0 H vs Q E hr h => ?_)
  · obtain ⟨p, s, R, C, n, l, r, res, x, i, rfl, _⟩ := h
    rfl
  · obtain ⟨p, s, R, C, n, l, r, res, x, i, rfl, bl, st, hx, z⟩ := h
    refine ⟨_, (pss_cons (ps_try_as (i := 3) (tb := _) rfl rfl sc_law_refused.nd rfl rfl ⟨rfl, by decide, .inl T.e_BadStrip.gC⟩ takes0 (fun W pn xe tk po => (pss_one (ps_if (pt_cmpR op_eq (pv 2) pe_int (nomark _)) (pss_one (ps_expr (pc_mS (c_Block_around T) tk hr (by decide) (pv 0) (pa_cons (pv 1) pa_nil)))) (pss_one (ps_expr (pc_mS (c_Block_inner T) tk hr (by decide) (pv 0) (pa_cons (pv 1) pa_nil))))))) (fun ae oe cls d pn hz hf => (pss_one (ps_ret (pe_and (pe_callB (call_isU hz hf) (by rfl) T.b_isinstance (by decide +kernel) (pa_cons (pv 3) (pa_cons (pe_bltn (v := .ty "ValueError") (by rfl) T.b_ValueError (by decide +kernel) rfl) pa_nil))) (pe_and (pe_cmpR op_eq (pe_xu hz hf (pv 3)) (pv 1) (nomark _)) (pe_one (pe_not (pe_callB (call_isU hz hf) (by rfl) T.b_isinstance (by decide +kernel) (pa_cons (pv 3) (pa_cons (pe_glob (v := .ref a.BadBlock) (by rfl) T.e_BadBlock.gC rfl) pa_nil)))))))))))
      (pss_one (ps_ret pe_bl))), ?_⟩
    obtain ⟨dx, q, hp, hq⟩ := bl.ob
    refine ⟨_, rfl, rfl, _, rfl, ite2 (fun _ => ?_) (fun _ => ?_)⟩
    · refine ⟨_, rfl, p, dx, _, rfl, hp, fb_no s l r res q (by decide +kernel), _, rfl, p, s, R, C, n, l, r, res, x, rfl, bl, hx, fun e => absurd (st.symm.trans e) nofun, fun _ d M s1 hd => ⟨true, T.xo_e 3 (by decide) 3 (by decide), fun _ y hy => ?_, nofun⟩⟩
      refine ⟨_, rfl, a.BadStrip, _, _, true, rfl, T.x_BadStrip, xdok hd, rfl, fun u h => h, T.kv_e 3 (by decide), _, rfl, iteT ⟨_, rfl, a.BadStrip, d, _, _, rfl, rfl, T.x_BadStrip.xf, T.e_BadStrip.noF, rfl, hd, by rw [List.lookup_cons, beq_self_eq_true], _, rfl, rfl, _, rfl, ?_⟩⟩
      rw [decide_eq_true rfl]
      exact iteT ⟨_, rfl, a.BadStrip, _, _, false, rfl, T.x_BadStrip, xdok hd, rfl, fun u h => h, T.kk_e 3 (by decide) 5 (by decide), _, rfl, z M s1⟩
    · refine ⟨_, rfl, p, dx, _, rfl, hp, fb_no s l r res q (by decide +kernel), _, rfl, p, s, R, C, n, l, r, res, x, rfl, bl, by omega, fun e => absurd (st.symm.trans e) nofun, fun _ d M s1 hd => ⟨true, T.xo_e 3 (by decide) 3 (by decide), fun _ y hy => ?_, nofun⟩⟩
      refine ⟨_, rfl, a.BadStrip, _, _, true, rfl, T.x_BadStrip, xdok hd, rfl, fun u h => h, T.kv_e 3 (by decide), _, rfl, iteT ⟨_, rfl, a.BadStrip, d, _, _, rfl, rfl, T.x_BadStrip.xf, T.e_BadStrip.noF, rfl, hd, by rw [List.lookup_cons, beq_self_eq_true], _, rfl, rfl, _, rfl, ?_⟩⟩
      rw [decide_eq_true rfl]
      exact iteT ⟨_, rfl, a.BadStrip, _, _, false, rfl, T.x_BadStrip, xdok hd, rfl, fun u h => h, T.kk_e 3 (by decide) 5 (by decide), _, rfl, z M s1⟩
def spUnl (a : Ad) : Sp := fun vs H Q _ => ∃ (p s p2 s2 : Addr) (R C n l r R2 C2 n2 l2 r2 : Nat) (res res2 : List Nat), vs = [.ref p, .ref p2] ∧ BlockAt a H p s R C n l r res ∧ BlockAt a H p2 s2 R2 C2 n2 l2 r2 res2 ∧ ¬ (R = R2 ∧ C = C2) ∧ ∀ G, Same H G → Q (.bl true) G
theorem c_law_unlike (T : Txt K mg a) : Can P w K mg base 7 "_law_unlike" (spUnl a) := by
  refine can_of T.d_law_unlike sc_law_unlike bd_law_unlike (fun vs H Q E h => ?_) (fun f cdv A outer s0 H vs Q E hr h => ?_)
  · obtain ⟨p, s, p2, s2, R, C, n, l, r, R2, C2, n2, l2, r2, res, res2, rfl, _⟩ := h
    rfl
  · obtain ⟨p, s, p2, s2, R, C, n, l, r, R2, C2, n2, l2, r2, res, res2, rfl, b1, b2, ne, z⟩ := h
    refine ⟨_, (pss_cons (ps_try_as (i := 3) (tb := _) rfl rfl sc_law_unlike.nd rfl rfl ⟨rfl, by decide, .inl T.z_UnlikeSchemes.gC⟩ takes0 (fun W pn xe tk po => (pss_one (ps_set (i := 2) sc_law_unlike.nd rfl (.inl rfl) (pe_opS (c_Block_mul T) tk hr (by decide) T.u_sf (pv 0) (pv 1))))) (fun ae oe cls d pn hz hf => (pss_one (ps_ret (pe_and (pe_callB (call_isU hz hf) (by rfl) T.b_isinstance (by decide +kernel) (pa_cons (pv 3) (pa_cons (pe_glob (v := .ref a.GalloonError) (by rfl) T.g_GalloonError rfl) pa_nil))) (pe_one (pe_not (pe_callB (call_isU hz hf) (by rfl) T.b_isinstance (by decide +kernel) (pa_cons (pv 3) (pa_cons (pe_glob (v := .ref a.TooWide) (by rfl) T.z_TooWide.gC rfl) pa_nil))))))))))
      (pss_one (ps_ret pe_bl))), ?_⟩
    obtain ⟨dx, q, hp, hq⟩ := b1.ob
    obtain ⟨dx2, q2, hp2, hq2⟩ := b2.ob
    refine ⟨_, rfl, _, rfl, p, dx, _, p2, dx2, _, rfl, hp, rfl, hp2, p, s, p2, s2, R, C, n, l, r, R2, C2, n2, l2, r2, res, res2, rfl, b1, b2, fun _ M s1 => ⟨true, T.xo_e 6 (by decide) 6 (by decide), fun _ x hx => ?_, nofun⟩, fun c => absurd c ne, fun c => absurd c ne⟩
    exact ⟨_, rfl, a.UnlikeSchemes, _, _, true, rfl, T.x_UnlikeSchemes, xdno, rfl, fun u h => h, T.kg_e 6 (by decide), _, rfl, iteT ⟨_, rfl, a.UnlikeSchemes, _, _, false, rfl, T.x_UnlikeSchemes, xdno, rfl, fun u h => h, T.kk_e 6 (by decide) 7 (by decide), _, rfl, z M s1⟩⟩
def spUnlC (a : Ad) : Sp := fun vs H Q _ => ∃ (p s e s2 : Addr) (R C n l r R2 C2 n2 : Nat) (res le m re : List Nat) (t : Int), vs = [.ref p, .ref e] ∧ BlockAt a H p s R C n l r res ∧ EndAt a H e s2 R2 C2 n2 le m re t ∧ m.length ≤ 80 ∧ -4000 ≤ t ∧ t ≤ 4000 ∧ ¬ (R = R2 ∧ C = C2) ∧ ∀ G, Same H G → Q (.bl true) G
theorem c_law_unlike_call (T : Txt K mg a) : Can P w K mg base 7 "_law_unlike_call" (spUnlC a) := by
  refine can_of T.d_law_unlike_call sc_law_unlike_call bd_law_unlike_call (fun vs H Q E h => ?_) (fun f cdv A outer s0 H vs Q E hr h => ?_)
  · obtain ⟨p, s, e, s2, R, C, n, l, r, R2, C2, n2, res, le, m, re, t, rfl, _⟩ := h
    rfl
  · obtain ⟨p, s, e, s2, R, C, n, l, r, R2, C2, n2, res, le, m, re, t, rfl, b1, en, hm, t1, t2, ne, z⟩ := h
    refine ⟨_, (pss_cons (ps_try_as (i := 2) (tb := _) rfl rfl sc_law_unlike_call.nd rfl rfl ⟨rfl, by decide, .inl T.z_UnlikeSchemes.gC⟩ takes0 (fun W pn xe tk po => (pss_one (ps_expr (pc_cS (c_Block___call__ T) tk hr (by decide) (pv 0) (pa_cons (pv 1) pa_nil))))) (fun ae oe cls d pn hz hf => (pss_one (ps_ret (pe_and (pe_callB (call_isU hz hf) (by rfl) T.b_isinstance (by decide +kernel) (pa_cons (pv 2) (pa_cons (pe_glob (v := .ref a.GalloonError) (by rfl) T.g_GalloonError rfl) pa_nil))) (pe_one (pe_not (pe_callB (call_isU hz hf) (by rfl) T.b_isinstance (by decide +kernel) (pa_cons (pv 2) (pa_cons (pe_glob (v := .ref a.BadBlock) (by rfl) T.e_BadBlock.gC rfl) pa_nil))))))))))
      (pss_one (ps_ret pe_bl))), ?_⟩
    obtain ⟨dx, q, hp, hq⟩ := b1.ob
    refine ⟨_, rfl, p, rfl, _, rfl, ⟨dx, _, hp⟩, p, s, e, s2, R, C, n, l, r, R2, C2, n2, res, le, m, re, t, rfl, b1, en, hm, t1, t2, fun c => absurd c ne, fun _ M s1 => ⟨true, T.xo_e 6 (by decide) 6 (by decide), fun _ x hx => ?_, nofun⟩⟩
    exact ⟨_, rfl, a.UnlikeSchemes, _, _, true, rfl, T.x_UnlikeSchemes, xdno, rfl, fun u h => h, T.kg_e 6 (by decide), _, rfl, iteT ⟨_, rfl, a.UnlikeSchemes, _, _, false, rfl, T.x_UnlikeSchemes, xdno, rfl, fun u h => h, T.kk_e 6 (by decide) 5 (by decide), _, rfl, z M s1⟩⟩
def spIdH (a : Ad) : Sp := fun vs H Q _ => ∃ (p s : Addr) (R C n l r : Nat) (res : List Nat), vs = [.ref s, tx (cols n), .ref p] ∧ BlockAt a H p s R C n l r res ∧ ∀ G, Same H G → Q (.bl true) G
theorem c_law_identity_holds (T : Txt K mg a) : Can P w K mg base 7 "_law_identity_holds" (spIdH a) := by
  refine can_of T.d_law_identity_holds sc_law_identity_holds bd_law_identity_holds (fun vs H Q E h => ?_) (fun f cdv A outer s0 H vs Q E hr h => ?_)
  · obtain ⟨p, s, R, C, n, l, r, res, rfl, _⟩ := h
    rfl
  · obtain ⟨p, s, R, C, n, l, r, res, rfl, b1, z⟩ := h
    refine ⟨_, (pss_cons (ps_set (i := 3) sc_law_identity_holds.nd rfl (.inl rfl) (pc_cm (c_Block_identity T) hr (by decide) (pe_glob (v := .ref a.Block) (by rfl) T.c_Block.gC rfl) (pa_cons (pv 0) pa_nil)))
      (pss_one (ps_ret (pe_and (pc_f (c_law_is_block T) hr (by decide) (by rfl) (pa_cons (pv 0) (pa_cons (pv 3) (pa_cons (pe_tup (pa_cons pe_int (pa_cons pe_int (pa_cons (pv 1) pa_nil)))) pa_nil)))) (pe_and (pe_cmpR (eqO K (c_Block_eq T) hr (by decide) T.u_ni T.u_ns) (pe_op (opO (c_Block_mul T) hr (by decide) T.u_sf) (pv 3) (pv 2)) (pv 2) (nomark _)) (pe_one (pe_cmpR (eqO K (c_Block_eq T) hr (by decide) T.u_ni T.u_ns) (pe_op (opO (c_Block_mul T) hr (by decide) T.u_sf) (pv 2) (pv 3)) (pv 2) (nomark _)))))))), ?_⟩
    have gn := good_n b1.sch.2
    have n0 : 0 < n := by omega
    refine ⟨rfl, _, rfl, s, R, C, n, rfl, b1.sch, fun G1 y l' r' res' k1 lf bi => ?_⟩
    obtain ⟨rfl, rfl, rfl⟩ := lf_id n0 lf
    refine ⟨_, rfl, _, rfl, _, rfl, by show 3 ≤ sizeLine; decide, fun d hd => ?_⟩
    have kd := ex_new (o := tb 0 0 (cols n)) hd
    have bi2 := bi.mono kd
    refine ⟨s, y, d, R, C, n, 0, 0, cols n, rfl, bi2, upd_same, fun G2 k2 => ⟨_, rfl, iteT ?_⟩⟩
    have k12 := (k1.trans kd).trans k2
    have c1 := b1.mono k12
    have ci := bi2.mono k2
    obtain ⟨dx, q, hp, hq⟩ := c1.ob
    obtain ⟨di, qi, hi, hqi⟩ := ci.ob
    have w1 : n ^ (0 + l + 1 + (0 + r)) ≤ 729 := by rw [Nat.zero_add, Nat.zero_add]; exact b1.wide
    have w2 : n ^ (l + 0 + 1 + (r + 0)) ≤ 729 := b1.wide
    refine ⟨_, rfl, _, rfl, y, di, _, p, dx, _, rfl, hi, rfl, hp, y, s, p, s, R, C, n, 0, 0, R, C, n, l, r, cols n, res, rfl, ci, c1, fun c => absurd ⟨rfl, rfl⟩ c, fun _ c => absurd w1 c, fun _ _ G3 y3 l3 r3 res3 k3 lf3 b3 => ⟨⟨_, rfl⟩, ?_⟩⟩
    have e3 : l3 = l ∧ r3 = r ∧ res3 = res := lf3.least.unique n0 lf3.tab b1.tab b1.least fun c o => by
      rw [← lf3.same c o, prod_sem n0 o, id_img n0 o]
    obtain ⟨rfl, rfl, rfl⟩ := e3
    have c3 := c1.mono k3
    obtain ⟨d3, q3, h3, _⟩ := b3.ob
    refine ⟨_, rfl, y3, _, _, rfl, h3, .inr (.inr ⟨p, _, _, rfl, k3 _ _ hp⟩), y3, s, R, C, n, l3, r3, res3, _, rfl, b3, .inr (.inr ⟨p, s, R, C, n, l3, r3, res3, rfl, c3, ?_⟩)⟩
    rw [decide_eq_true ⟨⟨rfl, rfl⟩, rfl, rfl, rfl⟩]
    refine ⟨_, rfl, _, rfl, iteT ?_⟩
    refine ⟨_, rfl, _, rfl, p, dx, _, y, di, _, rfl, k3 _ _ hp, rfl, k3 _ _ hi, p, s, y, s, R, C, n, l3, r3, R, C, n, 0, 0, res3, cols n, rfl, c3, ci.mono k3, fun c => absurd ⟨rfl, rfl⟩ c, fun _ c => absurd w2 c, fun _ _ G4 y4 l4 r4 res4 k4 lf4 b4 => ⟨⟨_, rfl⟩, ?_⟩⟩
    have e4 : l4 = l3 ∧ r4 = r3 ∧ res4 = res3 := lf4.least.unique n0 lf4.tab b1.tab b1.least fun c o => by
      rw [← lf4.same c o, prod_sem n0 o, id_sem n0 (img_ok b1.tab o)]
      unfold img
      congr 1
      funext j
      rw [Int.zero_add]
    obtain ⟨rfl, rfl, rfl⟩ := e4
    obtain ⟨d4, q4, h4, _⟩ := b4.ob
    refine ⟨_, rfl, y4, _, _, rfl, h4, .inr (.inr ⟨p, _, _, rfl, (k3.trans k4) _ _ hp⟩), y4, s, R, C, n, l4, r4, res4, _, rfl, b4, .inr (.inr ⟨p, s, R, C, n, l4, r4, res4, rfl, c3.mono k4, ?_⟩)⟩
    rw [decide_eq_true ⟨⟨rfl, rfl⟩, rfl, rfl, rfl⟩]
    exact ⟨_, rfl, z _ ((k12.trans k3).trans k4)⟩
end
end K42

end
section
set_option Elab.async false
set_option linter.all false
set_option maxRecDepth 100000
set_option maxHeartbeats 4000000
namespace K42
open PySem PySem.Spec PyProof.Rows L2 Kit K40 K4B
def bd2 (N : Nat) : Nat := if N = 2 then 9 else if N = 3 then 6 else if N = 4 then 4 else 3
theorem bd2_at {N : Nat} (h : isN N) : atI [V.int 0, .int 0, .int 9, .int 6, .int 4, .int 0, .int 0, .int 0, .int 3, .int 3] ((N : Nat) : Int) = some (.int (bd2 N : Nat)) := by
  rcases h with rfl | rfl | rfl | rfl | rfl <;> rfl
theorem bd2_ok {N : Nat} (h : isN N) : 3 ≤ bd2 N ∧ bd2 N ≤ 9 ∧ N ^ bd2 N ≤ 729 ∧ 729 < N ^ (bd2 N + 1) := by
  rcases h with rfl | rfl | rfl | rfl | rfl <;> decide
theorem sh_img {n l r : Nat} {b : Int} (hn : 0 < n) (h1 : -(l : Int) ≤ b) (h2 : b ≤ r) {W : Int → Nat} (h : Ok n W) (j : Int) : img n l r (shT n l r b) W j = W (j + b) := by
  unfold img
  exact sh_sem hn h1 h2 fun i => h _
theorem wd_moved (le m re : List Nat) (t b j : Int) : wd le m re (t - b) j = wd le m re t (j + b) := by
  unfold wd
  rw [show j - (t - b) = j + b - t by omega]
section
variable {P : Program} {w : World} {K : PySem.W.Frag} {mg : Str → Option Value} {base : Heap} {a : Ad}
def spSH (a : Ad) : Sp := fun vs H Q _ => ∃ (b s p q : Addr) (k R C n l r : Nat) (res le m re : List Nat) (t : Int), vs = [.ref b, .ref s, tx (cols n), .ref p, .ref q] ∧ BoxAt (k + 2) H b ∧ BlockAt a H p s R C n l r res ∧ H q = some (tpl le m re t) ∧ PartOk n le m re t ∧ m.length ≤ 6 ∧ -4 ≤ t ∧ t ≤ 4 ∧ n ^ (l + 1 + r + 1) ≤ 729 ∧ ∀ G, Bu k b H G → Q (.bl true) G
theorem c_law_shift_holds (T : Txt K mg a) : Can P w K mg base 8 "_law_shift_holds" (spSH a) := by
  refine can_of T.d_law_shift_holds sc_law_shift_holds bd_law_shift_holds (fun vs H Q E h => ?_) (fun f0 cdv A outer s0 H vs Q E hr h => ?_)
  · obtain ⟨b, s, p, q, k, R, C, n, l, r, res, le, m, re, t, rfl, _⟩ := h
    rfl
  · obtain ⟨b, s, p, q, k, R, C, n, l, r, res, le, m, re, t, rfl, hb, b1, hq, ok, hm, t1, t2, hw, z⟩ := h
    refine ⟨_, (pss_cons (ps_set (i := 5) sc_law_shift_holds.nd rfl (.inl rfl) (pe_ix (kix_list K) (pe_lst (pa_cons pe_int (pa_cons pe_int (pa_cons pe_int (pa_cons pe_int (pa_cons pe_int (pa_cons pe_int (pa_cons pe_int (pa_cons pe_int (pa_cons pe_int (pa_cons pe_int pa_nil))))))))))) (pe_callB call_len_str (by rfl) T.b_len (by decide +kernel) (pa_cons (pv 2) pa_nil)) (fun _ _ => rfl)))
      (pss_cons (ps_set (i := 6) sc_law_shift_holds.nd rfl (.inl rfl) (pe_op op_sub (pc_f (c_law_draw T) hr (by decide) (by rfl) (pa_cons (pv 0) (pa_cons (pe_op op_add (pe_op op_mul pe_int (pv 5)) pe_int) pa_nil))) (pv 5)))
      (pss_cons (ps_set (i := 7) sc_law_shift_holds.nd rfl (.inl rfl) (pc_f (c_law_shift T) hr (by decide) (by rfl) (pa_cons (pv 1) (pa_cons (pv 6) pa_nil))))
      (pss_cons (ps_if (pt_cmpR op_eq (pe_callB call_abs (by rfl) T.b_abs (by decide +kernel) (pa_cons (pv 6) pa_nil)) (pv 5) (nomark _)) (pss_one (ps_ret (pe_cmpR (keqP K hr.units) (pv 7) (pe_tup (pa_cons pe_str pa_nil)) (nomark _)))) pss_nil)
      (pss_cons (ps_set (i := 8) sc_law_shift_holds.nd rfl (.inr rfl) (pv 6))
      (C8.pss_cut (ps_if (pt_cmpR op_lt (pv 6) pe_int (nomark _)) (pss_one (ps_set (i := 8) sc_law_shift_holds.nd rfl (.inr rfl) pe_int)) pss_nil)
      (pss_cons (ps_set (i := 9) sc_law_shift_holds.nd rfl (.inl rfl) (kjoin K pe_str (pe_lc (own := [("window", 10)]) (g := gName 10) (tt := tYes) (by rfl) sc_law_shift_holds.nd (kpi_list K (pc_f (c_law_windows T) hr (by decide) (by rfl) (pa_cons (pv 2) (pa_cons (pe_op op_add pe_int (pe_callB call_abs (by rfl) T.b_abs (by decide +kernel) (pa_cons (pv 6) pa_nil))) pa_nil)))) (blkOk_by (N := N_law_shift_holds) (sc := defScope s_law_shift_holds) (by decide +kernel)) (fun _ _ _ _ _ => (pg_name (i := 10) sc_law_shift_holds.nd rfl (.inl rfl))) (fun _ _ _ _ _ => pts_nil) (fun _ _ _ _ _ => (pe_ix ix_str (pv 10) (pv 8) (fun _ _ => rfl))))))
      (C8.pss_cut (ps_if (PW.pt (pw_or (pt_cmpR op_ne (pe_callB (klen_seq K) (by rfl) T.b_len (by decide +kernel) (pa_cons (pv 7) pa_nil)) pe_int (nomark _)) (pw_or1 (pt_not (pt_val (pc_f (c_law_is_block T) hr (by decide) (by rfl) (pa_cons (pv 1) (pa_cons (pe_ix (kix_tup K) (pv 7) pe_int (fun _ _ => rfl)) (pa_cons (pe_tup (pa_cons (pe_callB (call_max2 (by rfl)) (by rfl) T.b_max (by decide +kernel) (pa_cons pe_int (pa_cons (pe_un un_neg (pv 6)) pa_nil))) (pa_cons (pe_callB (call_max2 (by rfl)) (by rfl) T.b_max (by decide +kernel) (pa_cons pe_int (pa_cons (pv 6) pa_nil))) (pa_cons (pv 9) pa_nil)))) pa_nil))))))))) (pss_one (ps_ret pe_bl)) pss_nil)
      (pss_cons (ps_set (i := 11) sc_law_shift_holds.nd rfl (.inl rfl) (pc_f (c_law_made T) hr (by decide) (by rfl) (pa_cons (pv 1) (pa_cons (pv 4) pa_nil))))
      (pss_cons (ps_set (i := 12) sc_law_shift_holds.nd rfl (.inl rfl) (pc_cm (c_Block_shift T) hr (by decide) (pe_glob (v := .ref a.Block) (by rfl) T.c_Block.gC rfl) (pa_cons (pv 1) (pa_cons (pe_op op_sub (pc_f (c_law_draw T) hr (by decide) (by rfl) (pa_cons (pv 0) (pa_cons pe_int pa_nil))) pe_int) pa_nil))))
      (pss_one (ps_ret (pe_and (pe_cmpR (eqO K (c_Endless_eq T) hr (by decide) T.p_ni T.p_ns) (pc_c (c_Block___call__ T) hr (by decide) (pe_ix (kix_tup K) (pv 7) pe_int (fun _ _ => rfl)) (pa_cons (pv 11) pa_nil)) (pc_m (c_Endless_moved T) hr (by decide) (pv 11) (pa_cons (pv 6) pa_nil)) (nomark _)) (pe_one (pe_cmpR (eqO K (c_Block_eq T) hr (by decide) T.u_ni T.u_ns) (pe_op (opO (c_Block_mul T) hr (by decide) T.u_sf) (pv 12) (pv 3)) (pe_op (opO (c_Block_mul T) hr (by decide) T.u_sf) (pv 3) (pv 12)) (nomark _)))))))))))))))), ?_⟩
    rw [lit_reach, lit_e]
    have gn := good_n b1.sch.2
    have n0 : 0 < n := by omega
    have hN := good_isN b1.sch.2
    have bo := bd2_ok hN
    have w9 := small_w gn.2.2.2.2 hw
    have szc : (S (cols n)).length ≤ sizeLine := by rw [cols_ln]; exact szl (by omega)
    refine ⟨by show 10 ≤ sizeLine; decide, fun B hB => ?_⟩
    have u1 := (Bu.refl hb).put hb hB (o := .lst [.int 0, .int 0, .int 9, .int 6, .int 4, .int 0, .int 0, .int 0, .int 3, .int 3])
    refine ⟨_, rfl, _, rfl, szc, B, _, _, _, rfl, rfl, seqL_of upd_same, by rw [cols_ln]; exact bd2_at hN, ?_⟩
    refine ⟨_, rfl, _, rfl, _, _, rfl, rfl, .inr ⟨by omega, by omega⟩, _, _, rfl, rfl, b, 2 * (bd2 n : Int) + 1, k + 1, rfl, u1.box, by omega, by omega, fun d G2 d0 d1 u2 => ⟨_, rfl, _, _, rfl, rfl, ?_⟩⟩
    have u12 := u1.trans u2
    have c1 := b1.bu hb u12
    have hq2 := tup_bu hq hb u12
    refine ⟨_, rfl, _, rfl, s, R, C, n, (d - (bd2 n : Int)), rfl, c1.sch, by omega, by omega, fun hw0 G3 q3 k3 hq3 => ?_, fun hw1 G3 q3 y k3 by3 hq3 => ?_⟩
    · have hab : (if (d - (bd2 n : Int)) < 0 then -(d - (bd2 n : Int)) else (d - (bd2 n : Int))) = (bd2 n : Int) := by
        by_cases c : (-(d - (bd2 n : Int))).toNat + (d - (bd2 n : Int)).toNat < bd2 n
        · exfalso
          have : n ^ ((-(d - (bd2 n : Int))).toNat + 1 + (d - (bd2 n : Int)).toNat) ≤ n ^ bd2 n := Nat.pow_le_pow_right n0 (by omega)
          omega
        · split <;> omega
      refine ⟨_, rfl, (d - (bd2 n : Int)), rfl, ?_⟩
      rw [hab]
      refine ⟨_, rfl, rfl, _, rfl, ?_⟩
      rw [decide_eq_true rfl]
      refine iteT ⟨_, rfl, by show 1 ≤ sizeLine; decide, fun u hu => ?_⟩
      refine ⟨pdD (some [114, 101, 97, 99, 104]), pdD (some [114, 101, 97, 99, 104]), dpD (ex_new hu _ _ hq3), dpD upd_same, pdD_plain _, pdD_plain _, pdD_depth _, ?_⟩
      rw [pdD_eq]
      have u3 := u12.same k3
      exact z _ (u3.le (by omega) |>.put hb (bu_free u3 hu))
    · have hab : ¬ V.int (if (d - (bd2 n : Int)) < 0 then -(d - (bd2 n : Int)) else (d - (bd2 n : Int))) = V.int ((bd2 n : Nat) : Int) := by
        intro e
        have e := V.int.inj e
        have : n ^ (bd2 n + 1) ≤ n ^ ((-(d - (bd2 n : Int))).toNat + 1 + (d - (bd2 n : Int)).toNat) := Nat.pow_le_pow_right n0 (by split at e <;> omega)
        omega
      refine ⟨_, rfl, (d - (bd2 n : Int)), rfl, _, rfl, rfl, _, rfl, ?_⟩
      rw [decide_eq_false hab]
      refine iteF ⟨_, rfl, ?_⟩
      have u3 := u12.same k3
      have w0 := small_w gn.2.2.2.2 hw1
      have e8 : ∃ x8 : Int, x8 = (if (d - (bd2 n : Int)) < 0 then 0 else (d - (bd2 n : Int))) ∧ (x8 = (((d - (bd2 n : Int)) + ((-(d - (bd2 n : Int))).toNat : Int)).toNat : Nat)) := ⟨_, rfl, by split <;> omega⟩
      obtain ⟨x8, hx8, hx8'⟩ := e8
      refine ⟨fun σ G => G = G3 ∧ σ = [some (.ref b), some (.ref s), some (tx (cols n)), some (.ref p), some (.ref q), some (.int (bd2 n : Nat)), some (.int (d - (bd2 n : Int))), some (.ref q3), some (.int x8), none, none, none, none], ?_, ?_⟩
      · refine ⟨_, rfl, _, _, rfl, rfl, _, rfl, ite2 (fun h => ?_) (fun h => ?_)⟩
        · have h := of_decide_eq_true h
          rw [if_pos h] at hx8
          exact ⟨rfl, by rw [hx8]; rfl⟩
        · rw [if_neg (fun q => h (decide_eq_true q))] at hx8
          exact ⟨rfl, by rw [hx8]; rfl⟩
      · rintro σ G ⟨rfl, rfl⟩
        have ab : 1 + (if (d - (bd2 n : Int)) < 0 then -(d - (bd2 n : Int)) else (d - (bd2 n : Int))) = (((-(d - (bd2 n : Int))).toNat + 1 + (d - (bd2 n : Int)).toNat : Nat) : Int) := by split <;> omega
        refine ⟨⟨_, rfl⟩, _, rfl, _, rfl, (d - (bd2 n : Int)), rfl, _, _, rfl, rfl, n, (-(d - (bd2 n : Int))).toNat + 1 + (d - (bd2 n : Int)).toNat, by show [_, V.int (1 + (if (d - (bd2 n : Int)) < 0 then -(d - (bd2 n : Int)) else (d - (bd2 n : Int))))] = _; rw [ab], gn.2.2.2.2, gn.1, hw1, fun G4 q4 k4 hq4 hG4 => ?_⟩
        have lw : ((words n ((-(d - (bd2 n : Int))).toNat + 1 + (d - (bd2 n : Int)).toNat)).map tx).length = n ^ ((-(d - (bd2 n : Int))).toNat + 1 + (d - (bd2 n : Int)).toNat) := by rw [List.length_map, words_len]
        have ls : (shT n (-(d - (bd2 n : Int))).toNat (d - (bd2 n : Int)).toNat (d - (bd2 n : Int))).length = n ^ ((-(d - (bd2 n : Int))).toNat + 1 + (d - (bd2 n : Int)).toNat) := by unfold shT; rw [List.length_map, words_len]
        refine ⟨q4, rfl, ⟨_, seqL_of hG4⟩, fun D hD => lc_one (walk_list (xs := (words n ((-(d - (bd2 n : Int))).toNat + 1 + (d - (bd2 n : Int)).toNat)).map tx)) ((shT n (-(d - (bd2 n : Int))).toNat (d - (bd2 n : Int)).toNat (d - (bd2 n : Int))).map fun x => tx [x]) (by rw [List.length_map, ls, lw]) (by rw [lw]; omega) hD (fun M s => seqL_of (s _ _ hG4)) ?_ ?_⟩
        · rintro i x M M' v hi s1 ⟨rfl, hx⟩ hv
          rw [lw] at hi
          unfold shT at hv
          rw [List.getElem?_map, words_at hi] at hx
          rw [List.getElem?_map, List.getElem?_map, words_at hi] at hv
          cases hx
          cases hv
          have lu := wdig_len n ((-(d - (bd2 n : Int))).toNat + 1 + (d - (bd2 n : Int)).toNat) i
          generalize wdig n ((-(d - (bd2 n : Int))).toNat + 1 + (d - (bd2 n : Int)).toNat) i = u at *
          subst hx8'
          exact ⟨.refl _, fun Q' kk => ⟨_, rfl, _, rfl, _, _, u.getD ((d - (bd2 n : Int)) + ((-(d - (bd2 n : Int))).toNat : Int)).toNat 0, rfl, rfl, by rw [S_len, lu]; exact szl (by omega), at_getD (by omega), kk _ (.refl _)⟩⟩
        · intro M s1 hM
          refine ⟨_, _, (shT n (-(d - (bd2 n : Int))).toNat (d - (bd2 n : Int)).toNat (d - (bd2 n : Int))).map fun y => S [y], rfl, rfl, .inl (seqL_of (by rw [List.map_map]; exact hM)), ?_, ?_⟩
          · rw [sum_ones, List.length_map, ls, S_len]
            exact szl (by show _ + _ * 0 ≤ _; omega)
          · rw [join_ones]
            have b0 : (-((-(d - (bd2 n : Int))).toNat : Int)) ≤ d - (bd2 n : Int) := by omega
            have b0' : d - (bd2 n : Int) ≤ ((d - (bd2 n : Int)).toNat : Int) := by omega
            have m1 : (if -(d - (bd2 n : Int)) > 0 then -(d - (bd2 n : Int)) else 0) = (((-(d - (bd2 n : Int))).toNat : Nat) : Int) := by split <;> omega
            have m2 : (if (d - (bd2 n : Int)) > 0 then (d - (bd2 n : Int)) else 0) = (((d - (bd2 n : Int)).toNat : Nat) : Int) := by split <;> omega
            have kM := k4.trans s1
            have yM := by3.mono kM
            have qM := kM _ _ hq3
            have yd : -20 ≤ d - (bd2 n : Int) ∧ d - (bd2 n : Int) ≤ 20 := ⟨by omega, by omega⟩
            clear hD hG4 hq4 hM hx8'
            generalize hY : d - (bd2 n : Int) = Y at *
            refine ⟨fun σ G => Same M G ∧ σ = [some (.ref b), some (.ref s), some (tx (cols n)), some (.ref p), some (.ref q), some (.int (bd2 n : Nat)), some (.int Y), some (.ref q3), some (.int x8), some (tx (shT n (-Y).toNat Y.toNat Y)), none, none, none], ?_, ?_⟩
            · refine ⟨_, rfl, q3, _, rfl, .inr (seqT_of qM), rfl, _, rfl, ?_⟩
              refine iteF ?_
              refine ⟨_, rfl, _, rfl, q3, _, 0, _, rfl, rfl, seqT_of qM, rfl, _, rfl, _, rfl, _, _, rfl, _, rfl, _, _, rfl, _, rfl, by show 3 ≤ sizeLine; decide, fun c hc => ?_⟩
              have kc := ex_new (o := tb (-Y).toNat Y.toNat (shT n (-Y).toNat Y.toNat Y)) hc
              rw [m1, m2]
              exact ⟨s, y, c, R, C, n, _, _, _, rfl, yM.mono kc, upd_same, fun Gz kz => ⟨_, rfl, iteF ⟨kc.trans kz, rfl⟩⟩⟩
            · rintro σ G5 ⟨k5, rfl⟩
              have u5 := u3.same (kM.trans k5)
              have y5 := yM.mono k5
              have q5 := k5 _ _ qM
              have c5 := b1.bu hb u5
              have hq5 := tup_bu hq hb u5
              refine ⟨_, rfl, _, rfl, s, q, R, C, n, le, m, re, t, rfl, c5.sch, hq5, ok, fun G6 e k6 en => ?_⟩
              have u6 := u5.same k6
              refine ⟨rfl, _, rfl, _, rfl, b, 3, k, rfl, u6.box, by omega, by omega, fun d2 G7 d20 d21 u7 => ?_⟩
              have w2 : n ^ ((-(d2 - 1)).toNat + 1 + (d2 - 1).toNat) ≤ 729 := Nat.le_trans (Nat.pow_le_pow_right n0 (by omega)) hw
              have u67 := u6.trans u7
              refine ⟨_, _, rfl, rfl, s, R, C, n, d2 - 1, rfl, (b1.bu hb u67).sch, by omega, by omega, fun c => absurd w2 c, fun _ G8 y8 k8 b8 => ?_⟩
              have ye : -1 ≤ d2 - 1 ∧ d2 - 1 ≤ 1 := ⟨by omega, by omega⟩
              generalize d2 - 1 = Z at *
              have u8 := u67.same k8
              have c8 := b1.bu hb u8
              have y8' := (BlockAt.bu (y5.mono k6) u6.box u7).mono k8
              have q8 := k8 _ _ (tup_bu (k6 _ _ q5) u6.box u7)
              have en8 := (EndAt.bu en u6.box u7).mono k8
              obtain ⟨dy, qy, hy, _⟩ := y8'.ob
              have ww := small_w gn.2.2.2.2 b1.wide
              refine ⟨_, rfl, q3, _, 0, _, rfl, rfl, seqT_of q8, rfl, y, rfl, _, rfl, ⟨dy, _, hy⟩, y, s, e, s, R, C, n, (-Y).toNat, Y.toNat, R, C, n, _, le, m, re, t, rfl, y8', en8, by omega, by omega, by omega, fun _ G9 oy ly my ry k9 eoy lly lmy lry Wy => ?_, fun c => absurd ⟨rfl, rfl⟩ c⟩
              have en9 := en8.mono k9
              obtain ⟨de, he⟩ := en9.ob
              have okY : PartOk n le m re (t - Y) := ⟨ok.1, ok.2, ok.3, ok.4, ok.5, ok.6, ok.7, ok.8, by omega, by omega⟩
              refine ⟨_, rfl, e, de, _, rfl, he, fe_no _ _ _ _ _ (by decide +kernel), _, rfl, e, s, R, C, n, le, m, re, t, Y, rfl, en9, okY, fun G10 e10 k10 en10 => ?_⟩
              have eoy2 := eoy.mono k10
              obtain ⟨d7, h7⟩ := eoy2.ob
              obtain ⟨d8, h8⟩ := en10.ob
              refine ⟨oy, _, _, rfl, h7, .inr (.inr ⟨e10, _, _, rfl, h8⟩), oy, s, R, C, n, ly, my, ry, t - (Y.toNat : Nat), _, rfl, eoy2, .inr ⟨e10, s, R, C, n, le, m, re, t - Y, rfl, en10, fun c => absurd ⟨rfl, rfl⟩ c, fun _ bb hb G11 k11 => ?_⟩⟩
              obtain rfl : bb = true := hb.mpr fun i => by
                rw [Wy i, sh_img n0 b0 b0' (wd_ok ok), wd_moved]
              refine ⟨_, rfl, _, rfl, iteT ?_⟩
              have wA : n ^ ((-Z).toNat + l + 1 + (Z.toNat + r)) ≤ 729 := Nat.le_trans (Nat.pow_le_pow_right n0 (by omega)) hw
              have wB : n ^ (l + (-Z).toNat + 1 + (r + Z.toNat)) ≤ 729 := Nat.le_trans (Nat.pow_le_pow_right n0 (by omega)) hw
              have z0 : (-((-Z).toNat : Int)) ≤ Z := by omega
              have z0' : Z ≤ (Z.toNat : Int) := by omega
              have k811 := (k9.trans k10).trans k11
              have cn := b8.mono k811
              have cf := c8.mono k811
              obtain ⟨dx, qx, hp, _⟩ := cf.ob
              obtain ⟨dn, qn, hn, _⟩ := cn.ob
              refine ⟨_, rfl, _, rfl, y8, dn, _, p, dx, _, rfl, hn, rfl, hp, y8, s, p, s, R, C, n, _, _, R, C, n, l, r, _, res, rfl, cn, cf, fun c => absurd ⟨rfl, rfl⟩ c, fun _ c => absurd wA c, fun _ _ G12 y3 l3 r3 res3 k12 lf3 b3 => ⟨⟨_, rfl⟩, ?_⟩⟩
              refine ⟨_, rfl, _, rfl, p, dx, _, y8, dn, _, rfl, k12 _ _ hp, rfl, k12 _ _ hn, p, s, y8, s, R, C, n, l, r, R, C, n, _, _, res, _, rfl, cf.mono k12, cn.mono k12, fun c => absurd ⟨rfl, rfl⟩ c, fun _ c => absurd wB c, fun _ _ G13 y4 l4 r4 res4 k13 lf4 b4 => ⟨⟨_, rfl⟩, ?_⟩⟩
              have e3 : l3 = l4 ∧ r3 = r4 ∧ res3 = res4 := lf3.least.unique n0 lf3.tab lf4.tab lf4.least fun c o => by
                rw [← lf3.same c o, ← lf4.same c o, prod_sem n0 o, prod_sem n0 o, sh_sem n0 z0 z0' (img_ok b1.tab o)]
                unfold img
                congr 1
                funext j
                rw [sh_sem n0 z0 z0' fun i => o _, Int.add_comm]
              obtain ⟨rfl, rfl, rfl⟩ := e3
              have b3' := b3.mono k13
              obtain ⟨d3, q3', h3, _⟩ := b3'.ob
              obtain ⟨d4, q4', h4, _⟩ := b4.ob
              refine ⟨y3, _, _, rfl, h3, .inr (.inr ⟨y4, _, _, rfl, h4⟩), y3, s, R, C, n, l3, r3, res3, _, rfl, b3', .inr (.inr ⟨y4, s, R, C, n, l3, r3, res3, rfl, b4, ?_⟩)⟩
              rw [decide_eq_true ⟨⟨rfl, rfl⟩, rfl, rfl, rfl⟩]
              exact ⟨_, rfl, z _ (((u8.same k811).same k12).same k13)⟩
end
end K42

end
section
set_option Elab.async false
set_option linter.all false
set_option maxRecDepth 100000
set_option maxHeartbeats 4000000
namespace K42
open PySem PySem.Spec PyProof.Rows L2 Kit K40 K4B
section
variable {P : Program} {w : World} {K : PySem.W.Frag} {mg : Str → Option Value} {base : Heap} {a : Ad}
def spEH (a : Ad) : Sp := fun vs H Q _ => ∃ (b s p : Addr) (k R C n l r : Nat) (res : List Nat), vs = [.ref b, tx (cols n), .ref p] ∧ BoxAt (k + 10) H b ∧ BlockAt a H p s R C n l r res ∧ ∀ G, Bu k b H G → Q (.bl true) G
theorem c_law_errors_hold (T : Txt K mg a) : Can P w K mg base 8 "_law_errors_hold" (spEH a) := by
  refine can_of T.d_law_errors_hold sc_law_errors_hold bd_law_errors_hold (fun vs H Q E h => ?_) (fun f0 cdv A outer s0 H vs Q E hr h => ?_)
  · obtain ⟨b, s, p, k, R, C, n, l, r, res, rfl, _⟩ := h
    rfl
  · obtain ⟨b, s, p, k, R, C, n, l, r, res, rfl, hb, b1, z⟩ := h
    refine ⟨_, (pss_cons (ps_set (i := 3) sc_law_errors_hold.nd rfl (.inl rfl) (pc_n (c_Scheme_init T) hr (by decide) (by rfl) (pa_cons pe_int (pa_cons pe_int pa_nil))))
      (C8.pss_cut (ps_if (pt_cmpR op_gt (pe_callB call_len_str (by rfl) T.b_len (by decide +kernel) (pa_cons (pv 1) pa_nil)) pe_int (nomark _)) (pss_one (ps_set (i := 3) sc_law_errors_hold.nd rfl (.inl rfl) (pc_n (c_Scheme_init T) hr (by decide) (by rfl) (pa_cons pe_int (pa_cons pe_int pa_nil))))) pss_nil)
      (pss_cons (ps_set (i := 4) sc_law_errors_hold.nd rfl (.inl rfl) (pc_cm (c_Block_identity T) hr (by decide) (pe_glob (v := .ref a.Block) (by rfl) T.c_Block.gC rfl) (pa_cons (pv 3) pa_nil)))
      (C8.pss_cut (ps_if (PW.pt (pw_or (pt_not (pt_val (pc_f (c_law_unlike T) hr (by decide) (by rfl) (pa_cons (pv 2) (pa_cons (pv 4) pa_nil))))) (pw_or1 (pt_not (pt_val (pc_f (c_law_unlike T) hr (by decide) (by rfl) (pa_cons (pv 4) (pa_cons (pv 2) pa_nil)))))))) (pss_one (ps_ret pe_bl)) pss_nil)
      (C8.pss_cut (ps_if (PW.pt (pw_or (pt_not (pt_val (pc_f (c_law_unlike_call T) hr (by decide) (by rfl) (pa_cons (pv 2) (pa_cons (pc_nD (c_Endless_init T) hr (by decide) (by rfl) (pa_cons (pv 3) (pa_cons pe_str (pa_cons pe_str (pa_cons pe_str pa_nil))))) pa_nil))))) (pw_or1 (pt_cmpR (eqO K (c_Block_eq T) hr (by decide) T.u_ni T.u_ns) (pv 2) (pv 4) (nomark _))))) (pss_one (ps_ret pe_bl)) pss_nil)
      (pss_cons (ps_set (i := 5) sc_law_errors_hold.nd rfl (.inl rfl) (pc_f (c_law_strip T) hr (by decide) (by rfl) (pa_cons (pv 0) (pa_cons (pv 1) (pa_cons (pc_f (c_law_draw T) hr (by decide) (by rfl) (pa_cons (pv 0) (pa_cons pe_int pa_nil))) pa_nil)))))
      (pss_cons (ps_set (i := 6) sc_law_errors_hold.nd rfl (.inl rfl) (pc_f (c_law_draw T) hr (by decide) (by rfl) (pa_cons (pv 0) (pa_cons (pe_op op_add (pe_callB call_len_str (by rfl) T.b_len (by decide +kernel) (pa_cons (pv 5) pa_nil)) pe_int) pa_nil))))
      (pss_cons (ps_set (i := 5) sc_law_errors_hold.nd rfl (.inl rfl) (pe_op op_add_str (pe_op op_add_str (pe_slice sl_str (pv 5) po_none (po_some (pv 6))) (pe_ix ix_str (pe_op op_add_str (pe_ix ix_str pe_str (pe_callB call_len_str (by rfl) T.b_len (by decide +kernel) (pa_cons (pv 1) pa_nil)) (fun _ _ => rfl)) pe_str) (pc_f (c_law_draw T) hr (by decide) (by rfl) (pa_cons (pv 0) (pa_cons pe_int pa_nil))) (fun _ _ => rfl))) (pe_slice sl_str (pv 5) (po_some (pv 6)) po_none)))
      (pss_one (ps_ret (pe_and (pc_f (c_law_refused T) hr (by decide) (by rfl) (pa_cons (pv 2) (pa_cons (pv 5) (pa_cons pe_int pa_nil)))) (pe_one (pc_f (c_law_refused T) hr (by decide) (by rfl) (pa_cons (pv 2) (pa_cons (pv 5) (pa_cons pe_int pa_nil)))))))))))))))), ?_⟩
    rw [lit_a, lit_e, lit_c10, lit_signs]
    have gn := good_n b1.sch.2
    have gc := b1.sch.2.cases
    have n0 : 0 < n := by omega
    have szc : (S (cols n)).length ≤ sizeLine := by rw [cols_ln]; exact szl (by omega)
    refine fun y d hy hd ne => init_good (show Good 1 3 3 by decide) hy hd ne fun G1 k1 sch1 => ?_
    refine ⟨fun σ G => Same H G ∧ ∃ (y2 : Addr) (C2 n2 : Nat), SchemeAt a.Scheme G y2 1 C2 n2 ∧ ¬ (R = 1 ∧ C = C2) ∧ σ = [some (.ref b), some (tx (cols n)), some (.ref p), some (.ref y2), none, none, none], ?_, ?_⟩
    · refine ⟨_, rfl, _, rfl, szc, ?_⟩
      rw [cols_ln]
      refine ⟨_, _, rfl, rfl, _, rfl, ite2 (fun h => ?_) (fun h => ?_)⟩
      · have h := of_decide_eq_true h
        refine fun y3 d3 hy3 hd3 ne3 => init_good (show Good 1 2 2 by decide) hy3 hd3 ne3 fun G3 k3 sch3 => ⟨k1.trans k3, y3, 2, 2, sch3, ?_, rfl⟩
        rintro ⟨rfl, rfl⟩
        rcases gc with ⟨_, _, rfl⟩ | ⟨_, h2, _⟩ | ⟨h2, _, _⟩ | ⟨h2, _, _⟩ | ⟨h2, _, _⟩ <;> omega
      · have h : ¬ (2 : Int) < n := fun q => h (decide_eq_true q)
        refine ⟨k1, y, 3, 3, sch1, ?_, rfl⟩
        rintro ⟨rfl, rfl⟩
        rcases gc with ⟨_, h2, _⟩ | ⟨_, _, rfl⟩ | ⟨h2, _, _⟩ | ⟨h2, _, _⟩ | ⟨h2, _, _⟩ <;> omega
    · rintro σ G ⟨kG, y2, C2, n2, sch2, nd, rfl⟩
      refine ⟨rfl, _, rfl, y2, 1, C2, n2, rfl, sch2, fun G2 o l2 r2 res2 k2 lf2 bo => ?_⟩
      have k02 := kG.trans k2
      have c2 := b1.mono k02
      have nd' : ¬ (1 = R ∧ C2 = C) := fun q => nd ⟨q.1.symm, q.2.symm⟩
      have n2p : 0 < n2 := by have := good_n bo.sch.2; omega
      refine ⟨fun σ G => Same G2 G ∧ σ = [some (.ref b), some (tx (cols n)), some (.ref p), some (.ref y2), some (.ref o), none, none], ?_, ?_⟩
      · refine ⟨_, rfl, _, rfl, p, s, o, y2, R, C, n, l, r, 1, C2, n2, l2, r2, res, res2, rfl, c2, bo, nd, fun G3 k3 => ⟨_, rfl, iteF ?_⟩⟩
        exact ⟨_, rfl, _, rfl, o, y2, p, s, 1, C2, n2, l2, r2, R, C, n, l, r, res2, res, rfl, bo.mono k3, c2.mono k3, nd', fun G4 k4 => ⟨_, rfl, iteF ⟨k3.trans k4, rfl⟩⟩⟩
      · rintro σ G3 ⟨k3, rfl⟩
        refine ⟨fun σ G => Same G3 G ∧ σ = [some (.ref b), some (tx (cols n)), some (.ref p), some (.ref y2), some (.ref o), none, none], ?_, ?_⟩
        · refine ⟨_, rfl, _, rfl, fun e d2 he hd2 ne2 => init_endH (t := 0) (bo.sch.mono k3) (part_a n2p) he hd2 ne2 fun G4 k4 en => ?_⟩
          have k34 := k3.trans k4
          refine ⟨p, s, e, y2, R, C, n, l, r, 1, C2, n2, res, [97], [], [97], 0, rfl, c2.mono k34, en, by decide, by decide, by decide, nd, fun G5 k5 => ⟨_, rfl, iteF ?_⟩⟩
          have cf := c2.mono (k34.trans k5)
          have co := bo.mono (k34.trans k5)
          obtain ⟨dx, q, hp, _⟩ := cf.ob
          obtain ⟨dy, q2, ho, _⟩ := co.ob
          refine ⟨_, rfl, _, rfl, p, _, _, rfl, hp, .inr (.inr ⟨o, _, _, rfl, ho⟩), p, s, R, C, n, l, r, res, _, rfl, cf, .inr (.inr ⟨o, y2, 1, C2, n2, l2, r2, res2, rfl, co, ?_⟩)⟩
          rw [decide_eq_false fun h => nd h.1]
          exact ⟨_, rfl, _, rfl, iteF ⟨k4.trans k5, rfl⟩⟩
        · rintro σ G4 ⟨k4, rfl⟩
          have k24 := k3.trans k4
          have u4 := (Bu.refl hb).same (k02.trans k24)
          refine ⟨_, rfl, _, rfl, _, rfl, b, 5, k + 9, rfl, u4.box, by omega, by omega, fun d G5 d0 d1 u5 => ?_⟩
          obtain ⟨m, rfl⟩ : ∃ m : Nat, (m : Int) = d := ⟨d.toNat, by omega⟩
          obtain ⟨k', hk'⟩ : ∃ k' : Nat, k' + 2 + m = k + 9 ∧ k ≤ k' := ⟨k + 7 - m, by omega, by omega⟩
          refine ⟨b, n, m, k' + 2, rfl, by rw [hk'.1]; exact u5.box, by omega, by omega, by omega, fun G6 x u6 lx sx => ?_⟩
          have szx : (S x).length ≤ sizeLine := by rw [S_len]; exact szl (by omega)
          refine ⟨_, rfl, _, rfl, _, rfl, szx, _, _, rfl, rfl, ?_⟩
          rw [S_len]
          refine ⟨b, (x.length : Int) + 1, k' + 1, rfl, u6.box, by omega, by omega, fun e G7 e0 e1 u7 => ?_⟩
          obtain ⟨e, rfl⟩ : ∃ e' : Nat, (e' : Int) = e := ⟨e.toNat, by omega⟩
          have ld : (x.take e).length = e := by rw [List.length_take]; omega
          have ec : (cols 10).getD n 0 = 97 + n := cols_getD (by omega)
          have ea : S [(cols 10).getD n 0] ++ S [122, 65, 48, 32, 46, 45] = S (signX n) := by rw [ec, S_app]; rfl
          refine ⟨_, rfl, _, rfl, _, rfl, _, rfl, szx, _, rfl, _, rfl, szc, _, _, (cols 10).getD n 0, rfl, rfl, by rw [cols_ln]; exact szl (by decide), by rw [cols_ln]; exact at_getD (by rw [cols_len]; omega), _, _, rfl, rfl, ?_, _, rfl, b, 7, k', rfl, u7.box, by omega, by omega, fun g G8 g0 g1 u8 => ?_⟩
          · rw [S_len]
            exact szl (by show 1 + 6 ≤ _; decide)
          · obtain ⟨g, rfl⟩ : ∃ g' : Nat, (g' : Int) = g := ⟨g.toNat, by omega⟩
            refine ⟨_, _, (signX n).getD g 0, rfl, rfl, ?_, ?_, ?_⟩
            · show (S [_] ++ S _).length ≤ _
              rw [ea, S_len]
              exact szl (by show 7 ≤ _; decide)
            · show atI (S [_] ++ S _).cps.toList _ = _
              rw [ea]
              exact at_getD (by show g < 7; omega)
            · rw [cut_take]
              refine ⟨_, _, rfl, rfl, ?_, _, rfl, _, rfl, _, rfl, _, rfl, szx, ?_⟩
              · rw [S_len, ld]
                exact szl (by show e + 1 ≤ _; omega)
              · rw [cut_drop]
                have ev : S (x.take e) ++ S [(signX n).getD g 0] ++ S (x.drop e) = S (x.take e ++ [(signX n).getD g 0] ++ x.drop e) := by rw [S_app, S_app]
                have lX : (x.take e ++ [(signX n).getD g 0] ++ x.drop e).length ≤ 900 := by
                  rw [List.length_append, List.length_append, ld, List.length_drop]
                  show e + 1 + _ ≤ _
                  omega
                have bad : isStrip n (x.take e ++ [(signX n).getD g 0] ++ x.drop e) = false := spoil _ _ (signX_bad gn.1 (by omega))
                refine ⟨_, _, rfl, rfl, ?_, ?_⟩
                · show (S _ ++ S [(signX n).getD g 0]).length + _ ≤ _
                  rw [S_app, S_len, S_len, List.length_append, ld, List.length_drop]
                  exact szl (by show e + 1 + _ ≤ _; omega)
                · show gName 5 (V.str (S _ ++ S [(signX n).getD g 0] ++ S _)) _ _ _
                  rw [ev]
                  generalize x.take e ++ [(signX n).getD g 0] ++ x.drop e = X at bad lX
                  have u8' := ((((u4.trans u5).trans u6).trans u7).trans u8)
                  have c8 := b1.bu hb u8'
                  refine ⟨_, rfl, _, rfl, p, s, R, C, n, l, r, res, X, 0, rfl, c8, bad, lX, fun G9 k9 => ?_⟩
                  refine ⟨_, rfl, iteT ?_⟩
                  exact ⟨_, rfl, _, rfl, p, s, R, C, n, l, r, res, X, 1, rfl, c8.mono k9, bad, lX, fun G10 k10 => z _ (((u8'.same k9).same k10).le (by omega))⟩
end
end K42

end
section
set_option Elab.async false
set_option linter.all false
set_option maxRecDepth 100000
set_option maxHeartbeats 4000000
namespace K42
open PySem PySem.Spec PyProof.Rows L2 Kit K40 K4B
theorem lst_ne {n : Nat} {p q : Addr} {H : Hp} {xs : List (List Nat)} (h : BoxAt n H p) (hq : H q = some (.lst (xs.map tx))) : q ≠ p := by
  rintro rfl
  obtain ⟨q', ns, i, x, y, z, hp, _⟩ := h
  rw [hp] at hq
  cases xs with
  | nil => cases hq
  | cons a b => cases hq
section
variable {P : Program} {w : World} {K : PySem.W.Frag} {mg : Str → Option Value} {base : Heap} {a : Ad}
def spLaw (K : PySem.W.Frag) : Sp := fun vs H Q _ => ∃ (q : Addr) (ns : List Int), vs = [.ref q] ∧ SqL K H q (ns.map V.int) ∧ ns.length ≤ 63 ∧ ∀ G, Q (.bl true) G
theorem ok_law (T : Txt K mg a) {f : Addr} {fd : FuncData} (F : Fun K "law" "law" s_law f fd) : FnOk P w K mg base (L2.CX P w) 9 f fd P_law (spLaw K) := by
  refine F.okX sc_law (fun vs H Q E h => ?_) (fun cdv A outer s0 H vs Q E hr h => ?_)
  · obtain ⟨q, ns, rfl, _⟩ := h
    rfl
  · obtain ⟨sc, ns, rfl, hs, hl, z⟩ := h
    refine ⟨_, (pss_cons (ps_set (i := 1) sc_law.nd rfl (.inl rfl) (pc_f (c_law_source T) hr (by decide) (by rfl) (pa_cons (pv 0) pa_nil)))
      (pss_cons (ps_asg (pc_f (c_law_shape T) hr (by decide) (by rfl) (pa_cons (pv 1) pa_nil)) (pg_tup rfl (pgs_cons (pg_name (i := 2) sc_law.nd rfl (.inl rfl)) (pgs_cons (pg_name (i := 3) sc_law.nd rfl (.inl rfl)) (pgs_cons (pg_name (i := 4) sc_law.nd rfl (.inl rfl)) (pgs_cons (pg_name (i := 5) sc_law.nd rfl (.inl rfl)) (pgs_cons (pg_name (i := 6) sc_law.nd rfl (.inl rfl)) pgs_nil)))))))
      (pss_cons (ps_set (i := 7) sc_law.nd rfl (.inl rfl) (pc_n (c_Scheme_init T) hr (by decide) (by rfl) (pa_cons (pv 2) (pa_cons (pv 3) pa_nil))))
      (pss_cons (ps_set (i := 8) sc_law.nd rfl (.inl rfl) (pc_f (c_law_block T) hr (by decide) (by rfl) (pa_cons (pv 1) (pa_cons (pv 4) (pa_cons (pv 5) pa_nil)))))
      (pss_cons (ps_set (i := 9) sc_law.nd rfl (.inl rfl) (pc_f (c_law_strips T) hr (by decide) (by rfl) (pa_cons (pv 1) (pa_cons (pv 4) pa_nil))))
      (pss_cons (ps_set (i := 10) sc_law.nd rfl (.inl rfl) (pc_f (c_law_parts T) hr (by decide) (by rfl) (pa_cons (pv 1) (pa_cons (pv 4) pa_nil))))
      (C8.pss_cut (ps_set (i := 11) sc_law.nd rfl (.inl rfl) (pc_f (c_law_block T) hr (by decide) (by rfl) (pa_cons (pv 1) (pa_cons (pv 4) (pa_cons (pv 6) pa_nil)))))
      (pss_cons (ps_set (i := 12) sc_law.nd rfl (.inl rfl) (pc_n (c_Block_init T) hr (by decide) (by rfl) (pa_cons (pv 7) (pa_cons (pe_ix (kix_tup K) (pv 8) pe_int (fun _ _ => rfl)) (pa_cons (pe_ix (kix_tup K) (pv 8) pe_int (fun _ _ => rfl)) (pa_cons (pe_ix (kix_tup K) (pv 8) pe_int (fun _ _ => rfl)) pa_nil))))))
      (pss_cons (ps_set (i := 13) sc_law.nd rfl (.inl rfl) (pc_n (c_Block_init T) hr (by decide) (by rfl) (pa_cons (pv 7) (pa_cons (pe_ix (kix_tup K) (pv 11) pe_int (fun _ _ => rfl)) (pa_cons (pe_ix (kix_tup K) (pv 11) pe_int (fun _ _ => rfl)) (pa_cons (pe_ix (kix_tup K) (pv 11) pe_int (fun _ _ => rfl)) pa_nil))))))
      (pss_cons (ps_set (i := 8) sc_law.nd rfl (.inl rfl) (pc_f (c_law_least T) hr (by decide) (by rfl) (pa_cons (pv 4) (pa_cons (pv 8) pa_nil))))
      (C8.pss_cut (ps_set (i := 11) sc_law.nd rfl (.inl rfl) (pc_f (c_law_least T) hr (by decide) (by rfl) (pa_cons (pv 4) (pa_cons (pv 11) pa_nil))))
      (pss_cons (ps_for (passes_of rfl) (by rfl) (kpi_list K (pe_lst (pa_cons (pe_tup (pa_cons (pv 12) (pa_cons (pv 8) pa_nil))) (pa_cons (pe_tup (pa_cons (pv 13) (pa_cons (pv 11) pa_nil))) pa_nil)))) (pg_tup rfl (pgs_cons (pg_name (i := 14) sc_law.nd rfl (.inl rfl)) (pgs_cons (pg_name (i := 15) sc_law.nd rfl (.inl rfl)) pgs_nil))) (pss_one (ps_if (PW.pt (pw_or (pt_not (pt_val (pc_f (c_law_is_block T) hr (by decide) (by rfl) (pa_cons (pv 7) (pa_cons (pv 14) (pa_cons (pv 15) pa_nil)))))) (pw_or1 (pt_not (pt_val (pc_f (c_law_strips_hold T) hr (by decide) (by rfl) (pa_cons (pv 4) (pa_cons (pv 14) (pa_cons (pv 15) (pa_cons (pv 9) pa_nil)))))))))) (pss_one (ps_ret pe_bl)) pss_nil)))
      (pss_cons (ps_if (pt_not (pt_val (pc_f (c_law_product_holds T) hr (by decide) (by rfl) (pa_cons (pv 7) (pa_cons (pv 4) (pa_cons (pv 8) (pa_cons (pv 11) (pa_cons (pv 12) (pa_cons (pv 13) (pa_cons (pv 9) pa_nil)))))))))) (pss_one (ps_ret pe_bl)) pss_nil)
      (pss_cons (ps_if (pt_not (pt_val (pc_f (c_law_product_holds T) hr (by decide) (by rfl) (pa_cons (pv 7) (pa_cons (pv 4) (pa_cons (pv 11) (pa_cons (pv 8) (pa_cons (pv 13) (pa_cons (pv 12) (pa_cons (pv 9) pa_nil)))))))))) (pss_one (ps_ret pe_bl)) pss_nil)
      (pss_cons (ps_if (pt_not (pt_val (pc_f (c_law_call_holds T) hr (by decide) (by rfl) (pa_cons (pv 7) (pa_cons (pv 4) (pa_cons (pv 8) (pa_cons (pv 11) (pa_cons (pv 12) (pa_cons (pv 13) (pa_cons (pv 10) pa_nil)))))))))) (pss_one (ps_ret pe_bl)) pss_nil)
      (pss_cons (ps_if (pt_not (pt_val (pc_f (c_law_mirrored_holds T) hr (by decide) (by rfl) (pa_cons (pv 7) (pa_cons (pv 4) (pa_cons (pv 8) (pa_cons (pv 12) (pa_cons (pv 9) pa_nil)))))))) (pss_one (ps_ret pe_bl)) pss_nil)
      (pss_cons (ps_if (pt_not (pt_val (pc_f (c_law_shift_holds T) hr (by decide) (by rfl) (pa_cons (pv 1) (pa_cons (pv 7) (pa_cons (pv 4) (pa_cons (pv 12) (pa_cons (pv 10) pa_nil)))))))) (pss_one (ps_ret pe_bl)) pss_nil)
      (pss_cons (ps_if (PW.pt (pw_or (pt_not (pt_val (pc_f (c_law_identity_holds T) hr (by decide) (by rfl) (pa_cons (pv 7) (pa_cons (pv 4) (pa_cons (pv 12) pa_nil)))))) (pw_or1 (pt_not (pt_val (pc_f (c_law_errors_hold T) hr (by decide) (by rfl) (pa_cons (pv 1) (pa_cons (pv 4) (pa_cons (pv 12) pa_nil))))))))) (pss_one (ps_ret pe_bl)) pss_nil)
      (pss_one (ps_ret (pe_and (pc_f (c_law_is_block T) hr (by decide) (by rfl) (pa_cons (pv 7) (pa_cons (pv 12) (pa_cons (pv 8) pa_nil)))) (pe_one (pc_f (c_law_strips_hold T) hr (by decide) (by rfl) (pa_cons (pv 4) (pa_cons (pv 12) (pa_cons (pv 8) (pa_cons (pv 9) pa_nil))))))))))))))))))))))))))), ?_⟩
    refine ⟨_, rfl, sc, ns, rfl, hs, fun b G1 k1 f1 bA => ?_⟩
    refine ⟨_, rfl, b, 99999, rfl, bA.le (by decide), fun G2 tq R C N mo to u2 h2 gd hmo hto hle hN => ?_⟩
    refine ⟨tq, _, rfl, seqT_of h2, rfl, _, _, rfl, _, _, rfl, _, _, rfl, _, _, rfl, _, _, rfl, rfl, ?_⟩
    refine ⟨_, rfl, _, rfl, fun s dx0 hy hdx ne => init_good gd hy hdx ne fun G3 k3 sch => ?_⟩
    have gn := good_n gd
    have N0 : 0 < N := gn.2.2.2.1
    have hmo3 : N ^ mo ≤ 729 := Nat.le_trans (Nat.pow_le_pow_right N0 (by omega)) hN
    have hto3 : N ^ to ≤ 729 := Nat.le_trans (Nat.pow_le_pow_right N0 (by omega)) hN
    have bB := u2.box.mono k3
    refine ⟨_, rfl, _, rfl, _, rfl, b, N, 97990, mo, rfl, bB.le (by decide), gn.2.2.2.2, gn.1, hmo, hmo3, fun G4 q1 l1 r1 res1 u4 h1 t1 w1 => ?_⟩
    refine ⟨_, rfl, _, rfl, b, N, 97900, rfl, u4.box.le (by decide), gn.2.2.2.2, gn.1, fun G5 qs xs u5 hxs lxs sxs => ?_⟩
    refine ⟨_, rfl, _, rfl, b, N, 97800, rfl, u5.box.le (by decide), gn.2.2.2.2, gn.1, fun G6 qp le m re t u6 hqp okp hm0 t10 t20 => ?_⟩
    have bB4 := u4.box
    have bB5 := u5.box
    refine ⟨fun σ G => SchemeAt a.Scheme G s R C N ∧ BoxAt 95000 G b ∧ ∃ T1 T2 : TB, TabAt N G T1 ∧ TabAt N G T2 ∧ T1.l + 1 + T1.r ≤ mo ∧ G qs = some (.lst (xs.map tx)) ∧ G qp = some (tpl le m re t) ∧ σ = [some (.ref sc), some (.ref b), some (.int (R : Nat)), some (.int (C : Nat)), some (tx (cols N)), some (.int (mo : Nat)), some (.int (to : Nat)), some (.ref s), some (.ref T1.ad), some (.ref qs), some (.ref qp), some (.ref T2.ad), none, none, none, none], ?_, ?_⟩
    · refine ⟨_, rfl, _, rfl, _, rfl, b, N, 95000, to, rfl, u6.box.le (by decide), gn.2.2.2.2, gn.1, hto, hto3, fun G7 q2 l2 r2 res2 u7 h2' t2 w2 => ?_⟩
      have u47 := ((u4.trans u5).trans u6).trans u7
      have u57 := (u5.trans u6).trans u7
      refine ⟨sch.bu bB u47, u7.box, ⟨q1, l1, r1, res1⟩, ⟨q2, l2, r2, res2⟩, ⟨tup_bu h1 bB4 u57, t1, Nat.le_trans (Nat.pow_le_pow_right N0 w1) hmo3⟩, ⟨h2', t2, Nat.le_trans (Nat.pow_le_pow_right N0 w2) hto3⟩, w1, ?_, tup_bu hqp u6.box u7, rfl⟩
      exact (u6.trans u7).1 _ _ hxs (lst_ne bB5 hxs)
    · clear hqp hxs u6 u5 u4 u2 bB bB4 bB5 sch h1 h2 hs
      rintro σ G7 ⟨sch, bx, T1, T2, hT1, hT2, wT1, hxs, hqp, rfl⟩
      refine ⟨_, rfl, _, rfl, T1.ad, _, 0, _, rfl, rfl, seqT_of hT1.1, rfl, _, rfl, T1.ad, _, 1, _, rfl, rfl, seqT_of hT1.1, rfl, _, rfl, T1.ad, _, 2, _, rfl, rfl, seqT_of hT1.1, rfl, fun y1 d1 hy1 hd1 ne1 => init_blockH sch hT1.2.1 hT1.2.2 hy1 hd1 ne1 fun G8 l1 r1 res1 k8 lf1 b1 => ?_⟩
      have hT2' := hT2.mono k8
      refine ⟨_, rfl, _, rfl, T2.ad, _, 0, _, rfl, rfl, seqT_of hT2'.1, rfl, _, rfl, T2.ad, _, 1, _, rfl, rfl, seqT_of hT2'.1, rfl, _, rfl, T2.ad, _, 2, _, rfl, rfl, seqT_of hT2'.1, rfl, fun y2 d2 hy2 hd2 ne2 => init_blockH (sch.mono k8) hT2.2.1 hT2.2.2 hy2 hd2 ne2 fun G9 l2 r2 res2 k9 lf2 b2 => ?_⟩
      have k89 := k8.trans k9
      have hT1' := hT1.mono k89
      have hT2' := hT2.mono k89
      refine ⟨_, rfl, _, rfl, T1.ad, N, T1.l, T1.r, T1.res, rfl, gn.2.2.2.2, gn.1, hT1'.1, hT1.2.1, hT1.2.2, fun G10 c1 l1' r1' res1' k10 lf1' hc1 => ?_⟩
      obtain ⟨rfl, rfl, rfl⟩ := Lf.unique N0 lf1' lf1
      refine ⟨fun σ G => Same G10 G ∧ ∃ c2, G c2 = some (tb l2 r2 res2) ∧ σ = [some (.ref sc), some (.ref b), some (.int (R : Nat)), some (.int (C : Nat)), some (tx (cols N)), some (.int (mo : Nat)), some (.int (to : Nat)), some (.ref s), some (.ref c1), some (.ref qs), some (.ref qp), some (.ref c2), some (.ref y1), some (.ref y2), none, none], ?_, ?_⟩
      · refine ⟨_, rfl, _, rfl, T2.ad, N, T2.l, T2.r, T2.res, rfl, gn.2.2.2.2, gn.1, (hT2'.mono k10).1, hT2.2.1, hT2.2.2, fun G11 c2 l2' r2' res2' k11 lf2' hc2 => ?_⟩
        obtain ⟨rfl, rfl, rfl⟩ := Lf.unique N0 lf2' lf2
        exact ⟨k11, c2, hc2, rfl⟩
      · rintro σ G11 ⟨k11, c2, hc2, rfl⟩
        have k7 := (k89.trans k10).trans k11
        have bb1 := b1.mono ((k9.trans k10).trans k11)
        have bb2 := b2.mono (k10.trans k11)
        have hc1' := k11 _ _ hc1
        have hxs' := k7 _ _ hxs
        have hqp' := k7 _ _ hqp
        have bx' := bx.mono k7
        have w1 := lf1.le
        have w2 := lf1.re
        have hw1 : N ^ (l1' + 1 + r1' + 1) ≤ 729 := Nat.le_trans (Nat.pow_le_pow_right N0 (by omega)) hN
        clear hc1 hxs hqp bx b1 b2 k7 k11 k10 hT2' hT1' hT1 hT2 k89 k9 k8 sch lf1 lf2 lf1'
        refine ⟨_, rfl, _, rfl, by show 2 ≤ sizeLine; decide, fun v1 hv1 => ?_⟩
        refine ⟨_, rfl, _, rfl, by show 2 ≤ sizeLine; decide, fun v2 hv2 => ?_⟩
        refine ⟨by show 2 ≤ sizeLine; decide, fun L hL => ?_⟩
        have kv1 := ex_new (o := .tup [.ref y1, .ref c1]) hv1
        have kv2 := ex_new (o := .tup [.ref y2, .ref c2]) hv2
        have kL := ex_new (o := .lst [.ref v1, .ref v2]) hL
        refine ⟨L, rfl, ⟨_, seqL_of upd_same⟩, for_it (walk_list (xs := [.ref v1, .ref v2])) (fun j σ M => Same G11 M ∧ M v1 = some (.tup [.ref y1, .ref c1]) ∧ M v2 = some (.tup [.ref y2, .ref c2]) ∧ M L = some (.lst [.ref v1, .ref v2]) ∧ ∃ x14 x15, σ = [some (.ref sc), some (.ref b), some (.int (R : Nat)), some (.int (C : Nat)), some (tx (cols N)), some (.int (mo : Nat)), some (.int (to : Nat)), some (.ref s), some (.ref c1), some (.ref qs), some (.ref qp), some (.ref c2), some (.ref y1), some (.ref y2), x14, x15]) ⟨(kv1.trans kv2).trans kL, kL _ _ (kv2 _ _ upd_same), kL _ _ upd_same, upd_same, none, none, rfl⟩ (fun j σ M _ h => seqL_of h.2.2.2.1) ?_ ?_⟩
        · rintro j x σ M' M hj ⟨kM, m1, m2, mL, x14, x15, rfl⟩ ⟨rfl, hx⟩
          obtain ⟨u, y, c, l, r, res, hx2, hu, bb, hc⟩ : ∃ (u y c : Addr) (l r : Nat) (res : List Nat), x = .ref u ∧ M u = some (.tup [.ref y, .ref c]) ∧ BlockAt a M y s R C N l r res ∧ M c = some (tb l r res) := by
            have hj : j < 2 := hj
            match j, hj with
            | 0, _ => exact ⟨v1, y1, c1, l1', r1', res1', (Option.some.inj hx).symm, m1, bb1.mono kM, kM _ _ hc1'⟩
            | 1, _ => exact ⟨v2, y2, c2, l2, r2, res2, (Option.some.inj hx).symm, m2, bb2.mono kM, kM _ _ hc2⟩
          subst hx2
          refine ⟨u, _, rfl, seqT_of hu, rfl, _, _, rfl, _, _, rfl, rfl, ?_⟩
          refine ⟨_, rfl, _, rfl, _, rfl, s, y, c, R, C, N, l, r, res, rfl, bb, hc, fun M2 k2 => ⟨_, rfl, iteF ?_⟩⟩
          exact ⟨_, rfl, _, rfl, _, rfl, _, rfl, y, c, qs, s, R, C, N, l, r, res, xs, rfl, bb.mono k2, k2 _ _ hc, (kM.trans k2) _ _ hxs', sxs, fun M3 k3 => ⟨_, rfl, iteF ⟨(kM.trans k2).trans k3, (k2.trans k3) _ _ m1, (k2.trans k3) _ _ m2, (k2.trans k3) _ _ mL, _, _, rfl⟩⟩⟩
        · rintro σ M ⟨kM, m1, m2, mL, x14, x15, rfl⟩
          have bA := bb1.mono kM
          have bB := bb2.mono kM
          have hA := kM _ _ hc1'
          have hB := kM _ _ hc2
          have hX := kM _ _ hxs'
          have hP := kM _ _ hqp'
          have hb := bx'.mono kM
          clear m1 m2 mL hc1' hc2 hxs' hqp' bx' kM hv1 hv2 hL kv1 kv2 kL bb1 bb2
          refine ⟨_, rfl, _, rfl, _, rfl, _, rfl, _, rfl, _, rfl, _, rfl, s, c1, c2, y1, y2, qs, R, C, N, l1', r1', l2, r2, res1', res2, xs, rfl, bA, bB, hA, hB, hX, sxs, fun M1 k1 => ⟨_, rfl, itN (by decide) ?_⟩⟩
          refine ⟨_, rfl, _, rfl, _, rfl, _, rfl, _, rfl, _, rfl, _, rfl, s, c2, c1, y2, y1, qs, R, C, N, l2, r2, l1', r1', res2, res1', xs, rfl, bB.mono k1, bA.mono k1, k1 _ _ hB, k1 _ _ hA, k1 _ _ hX, sxs, fun M2 k2 => ⟨_, rfl, itN (by decide) ?_⟩⟩
          have k12 := k1.trans k2
          refine ⟨_, rfl, _, rfl, _, rfl, _, rfl, _, rfl, _, rfl, _, rfl, s, c1, c2, y1, y2, qp, R, C, N, l1', r1', l2, r2, res1', res2, le, m, re, t, rfl, bA.mono k12, bB.mono k12, k12 _ _ hA, k12 _ _ hB, k12 _ _ hP, okp, hm0, t10, t20, fun M3 k3 => ⟨_, rfl, itN (by decide) ?_⟩⟩
          have k13 := k12.trans k3
          refine ⟨_, rfl, _, rfl, _, rfl, _, rfl, _, rfl, s, c1, y1, qs, R, C, N, l1', r1', res1', xs, rfl, bA.mono k13, k13 _ _ hA, k13 _ _ hX, sxs, fun M4 k4 => ⟨_, rfl, itN (by decide) ?_⟩⟩
          have k14 := k13.trans k4
          have hb4 := hb.mono k14
          refine ⟨_, rfl, _, rfl, _, rfl, _, rfl, _, rfl, b, s, y1, qp, 90000, R, C, N, l1', r1', res1', le, m, re, t, rfl, hb4.le (by decide), bA.mono k14, k14 _ _ hP, okp, hm0, t10, t20, hw1, fun M5 u5' => ⟨_, rfl, itN (by decide) ?_⟩⟩
          have bA4 := bA.mono k14
          have bA5 := bA4.bu hb4 u5'
          have hA5 := tup_bu (k14 _ _ hA) hb4 u5'
          have hX5 : M5 qs = some (.lst (xs.map tx)) := u5'.1 _ _ (k14 _ _ hX) (lst_ne hb4 (k14 _ _ hX))
          refine ⟨_, rfl, _, rfl, _, rfl, y1, s, R, C, N, l1', r1', res1', rfl, bA5, fun M6 k6 => ⟨_, rfl, iteF ?_⟩⟩
          have hb6 := u5'.box.mono k6
          have bA6 := bA5.mono k6
          have hA6 := k6 _ _ hA5
          have hX6 := k6 _ _ hX5
          refine ⟨_, rfl, _, rfl, _, rfl, b, s, y1, 80000, R, C, N, l1', r1', res1', rfl, hb6.le (by decide), bA6, fun M7 u7 => ⟨_, rfl, iteF ?_⟩⟩
          have bA7 := bA6.bu hb6 u7
          have hA7 := tup_bu hA6 hb6 u7
          have hX7 : M7 qs = some (.lst (xs.map tx)) := u7.1 _ _ hX6 (lst_ne hb6 hX6)
          refine ⟨_, rfl, _, rfl, _, rfl, s, y1, c1, R, C, N, l1', r1', res1', rfl, bA7, hA7, fun M8 k8 => ⟨_, rfl, iteT ?_⟩⟩
          exact ⟨_, rfl, _, rfl, _, rfl, _, rfl, y1, c1, qs, s, R, C, N, l1', r1', res1', xs, rfl, bA7.mono k8, k8 _ _ hA7, k8 _ _ hX7, sxs, fun M9 k9 => z _⟩
end
theorem law_F {l : PySem.W.OpenLaw} {w : World} {K : PySem.W.Frag} {mg : Str → Option Value} {fa : Addr} {a : Ad} (T : Txt K mg a) (hfa : mg "law" = some (.ref fa)) :
    ∃ fd : FuncData, (∀ (s : Shared) (v : Value), BindsTo s fd ⟨[v], []⟩ [("script", v)]) ∧ ∀ base : Heap, K.In base → base.Ns mainGlobals mg → FnOk l.prog w K mg base (L2.CX l.prog w) 9 fa fd ["script"] (spLaw K) := by
  obtain ⟨f, fd, F, g⟩ := T.d_law.ex
  have e := hfa.symm.trans g
  cases e
  refine ⟨fd, fun s v => ?_, fun base _ _ => ok_law T F⟩
  obtain ⟨oc, od, kV, doc, pm, an, cdv, ct, osl, rfl, lk, hcd⟩ := F.ex
  exact .of_eq rfl
theorem walk {l : PySem.W.OpenLaw} {q : Program} {loose : List Str} {XP : (Str → Option Value) → Heap → Prop} {YP : World → Heap → Prop} {d : DefRec} {K : Params → PySem.W.Frag} (hn : l.most = some 63) (hdf : d.params.defaults = [])
    (hY : ∀ (w : World) (h : Heap), YP w h → (K w.params).In h) (hd : d.name = "law")
    (F : ∀ (w : World) (mg : Str → Option Value) (h : Heap), (K w.params).In h → h.Ns mainGlobals mg → ∃ a, Txt (K w.params) mg a) :
    PySem.W.WalkO q loose XP YP l.row.toRowW d [] (fun f vs => PySem.call f vs) :=
  L2.walk_of (n := 63) (k := 9) (x := "script") (CX := fun w => L2.CX l.prog w) (sp := fun w => spLaw (K w.params)) hn (by decide) hdf ⟨rfl, by decide, by decide⟩ hY
    (fun w mg fa h KX G hmg => let ⟨a, T⟩ := F w mg h KX G; law_F T (hd ▸ hmg))
    (fun _ _ a ns hl _ hS => ⟨a, ns, rfl, hS, hl, fun _ => rfl⟩) fun _ _ _ _ _ z => by
      obtain ⟨_, _, _, _, _, _, _, _, _, _, _, _, x⟩ := z
      exact x
end K42

end
section
set_option Elab.async false
set_option linter.all false
set_option maxRecDepth 100000
set_option maxHeartbeats 4000000
namespace K42
open PySem PySem.Spec PyProof.Rows L2 Kit
theorem kk_of {K : PySem.W.Frag} {CGalloonError CUnlikeSchemes CBadScheme CBadColumn CBadSpots CBadStrip CBadEndless CBadBlock CTooWide CScheme CEndless CBlock : Addr}
    (ic_UnlikeSchemes : PySem.W.isClsIn K CUnlikeSchemes = true)
    (tc_UnlikeSchemes : PySem.W.typeIn K (.ref CUnlikeSchemes) = some (.type "type"))
    (ic_BadScheme : PySem.W.isClsIn K CBadScheme = true)
    (tc_BadScheme : PySem.W.typeIn K (.ref CBadScheme) = some (.type "type"))
    (ic_BadColumn : PySem.W.isClsIn K CBadColumn = true)
    (tc_BadColumn : PySem.W.typeIn K (.ref CBadColumn) = some (.type "type"))
    (ic_BadSpots : PySem.W.isClsIn K CBadSpots = true)
    (tc_BadSpots : PySem.W.typeIn K (.ref CBadSpots) = some (.type "type"))
    (ic_BadStrip : PySem.W.isClsIn K CBadStrip = true)
    (tc_BadStrip : PySem.W.typeIn K (.ref CBadStrip) = some (.type "type"))
    (ic_BadEndless : PySem.W.isClsIn K CBadEndless = true)
    (tc_BadEndless : PySem.W.typeIn K (.ref CBadEndless) = some (.type "type"))
    (ic_BadBlock : PySem.W.isClsIn K CBadBlock = true)
    (tc_BadBlock : PySem.W.typeIn K (.ref CBadBlock) = some (.type "type"))
    (ic_TooWide : PySem.W.isClsIn K CTooWide = true)
    (tc_TooWide : PySem.W.typeIn K (.ref CTooWide) = some (.type "type"))
    (s_0_1 : PySem.W.subIn K (.ref CBadScheme) (.ref CBadColumn) = some false)
    (ne_0_1 : ((Value.ref CBadScheme) == Value.ref CBadColumn) = false)
    (s_0_2 : PySem.W.subIn K (.ref CBadScheme) (.ref CBadSpots) = some false)
    (ne_0_2 : ((Value.ref CBadScheme) == Value.ref CBadSpots) = false)
    (s_0_3 : PySem.W.subIn K (.ref CBadScheme) (.ref CBadStrip) = some false)
    (ne_0_3 : ((Value.ref CBadScheme) == Value.ref CBadStrip) = false)
    (s_0_4 : PySem.W.subIn K (.ref CBadScheme) (.ref CBadEndless) = some false)
    (ne_0_4 : ((Value.ref CBadScheme) == Value.ref CBadEndless) = false)
    (s_0_5 : PySem.W.subIn K (.ref CBadScheme) (.ref CBadBlock) = some false)
    (ne_0_5 : ((Value.ref CBadScheme) == Value.ref CBadBlock) = false)
    (s_0_6 : PySem.W.subIn K (.ref CBadScheme) (.ref CUnlikeSchemes) = some false)
    (ne_0_6 : ((Value.ref CBadScheme) == Value.ref CUnlikeSchemes) = false)
    (s_0_7 : PySem.W.subIn K (.ref CBadScheme) (.ref CTooWide) = some false)
    (ne_0_7 : ((Value.ref CBadScheme) == Value.ref CTooWide) = false)
    (s_1_0 : PySem.W.subIn K (.ref CBadColumn) (.ref CBadScheme) = some false)
    (ne_1_0 : ((Value.ref CBadColumn) == Value.ref CBadScheme) = false)
    (s_1_2 : PySem.W.subIn K (.ref CBadColumn) (.ref CBadSpots) = some false)
    (ne_1_2 : ((Value.ref CBadColumn) == Value.ref CBadSpots) = false)
    (s_1_3 : PySem.W.subIn K (.ref CBadColumn) (.ref CBadStrip) = some false)
    (ne_1_3 : ((Value.ref CBadColumn) == Value.ref CBadStrip) = false)
    (s_1_4 : PySem.W.subIn K (.ref CBadColumn) (.ref CBadEndless) = some false)
    (ne_1_4 : ((Value.ref CBadColumn) == Value.ref CBadEndless) = false)
    (s_1_5 : PySem.W.subIn K (.ref CBadColumn) (.ref CBadBlock) = some false)
    (ne_1_5 : ((Value.ref CBadColumn) == Value.ref CBadBlock) = false)
    (s_1_6 : PySem.W.subIn K (.ref CBadColumn) (.ref CUnlikeSchemes) = some false)
    (ne_1_6 : ((Value.ref CBadColumn) == Value.ref CUnlikeSchemes) = false)
    (s_1_7 : PySem.W.subIn K (.ref CBadColumn) (.ref CTooWide) = some false)
    (ne_1_7 : ((Value.ref CBadColumn) == Value.ref CTooWide) = false)
    (s_2_0 : PySem.W.subIn K (.ref CBadSpots) (.ref CBadScheme) = some false)
    (ne_2_0 : ((Value.ref CBadSpots) == Value.ref CBadScheme) = false)
    (s_2_1 : PySem.W.subIn K (.ref CBadSpots) (.ref CBadColumn) = some false)
    (ne_2_1 : ((Value.ref CBadSpots) == Value.ref CBadColumn) = false)
    (s_2_3 : PySem.W.subIn K (.ref CBadSpots) (.ref CBadStrip) = some false)
    (ne_2_3 : ((Value.ref CBadSpots) == Value.ref CBadStrip) = false)
    (s_2_4 : PySem.W.subIn K (.ref CBadSpots) (.ref CBadEndless) = some false)
    (ne_2_4 : ((Value.ref CBadSpots) == Value.ref CBadEndless) = false)
    (s_2_5 : PySem.W.subIn K (.ref CBadSpots) (.ref CBadBlock) = some false)
    (ne_2_5 : ((Value.ref CBadSpots) == Value.ref CBadBlock) = false)
    (s_2_6 : PySem.W.subIn K (.ref CBadSpots) (.ref CUnlikeSchemes) = some false)
    (ne_2_6 : ((Value.ref CBadSpots) == Value.ref CUnlikeSchemes) = false)
    (s_2_7 : PySem.W.subIn K (.ref CBadSpots) (.ref CTooWide) = some false)
    (ne_2_7 : ((Value.ref CBadSpots) == Value.ref CTooWide) = false)
    (s_3_0 : PySem.W.subIn K (.ref CBadStrip) (.ref CBadScheme) = some false)
    (ne_3_0 : ((Value.ref CBadStrip) == Value.ref CBadScheme) = false)
    (s_3_1 : PySem.W.subIn K (.ref CBadStrip) (.ref CBadColumn) = some false)
    (ne_3_1 : ((Value.ref CBadStrip) == Value.ref CBadColumn) = false)
    (s_3_2 : PySem.W.subIn K (.ref CBadStrip) (.ref CBadSpots) = some false)
    (ne_3_2 : ((Value.ref CBadStrip) == Value.ref CBadSpots) = false)
    (s_3_4 : PySem.W.subIn K (.ref CBadStrip) (.ref CBadEndless) = some false)
    (ne_3_4 : ((Value.ref CBadStrip) == Value.ref CBadEndless) = false)
    (s_3_5 : PySem.W.subIn K (.ref CBadStrip) (.ref CBadBlock) = some false)
    (ne_3_5 : ((Value.ref CBadStrip) == Value.ref CBadBlock) = false)
    (s_3_6 : PySem.W.subIn K (.ref CBadStrip) (.ref CUnlikeSchemes) = some false)
    (ne_3_6 : ((Value.ref CBadStrip) == Value.ref CUnlikeSchemes) = false)
    (s_3_7 : PySem.W.subIn K (.ref CBadStrip) (.ref CTooWide) = some false)
    (ne_3_7 : ((Value.ref CBadStrip) == Value.ref CTooWide) = false)
    (s_4_0 : PySem.W.subIn K (.ref CBadEndless) (.ref CBadScheme) = some false)
    (ne_4_0 : ((Value.ref CBadEndless) == Value.ref CBadScheme) = false)
    (s_4_1 : PySem.W.subIn K (.ref CBadEndless) (.ref CBadColumn) = some false)
    (ne_4_1 : ((Value.ref CBadEndless) == Value.ref CBadColumn) = false)
    (s_4_2 : PySem.W.subIn K (.ref CBadEndless) (.ref CBadSpots) = some false)
    (ne_4_2 : ((Value.ref CBadEndless) == Value.ref CBadSpots) = false)
    (s_4_3 : PySem.W.subIn K (.ref CBadEndless) (.ref CBadStrip) = some false)
    (ne_4_3 : ((Value.ref CBadEndless) == Value.ref CBadStrip) = false)
    (s_4_5 : PySem.W.subIn K (.ref CBadEndless) (.ref CBadBlock) = some false)
    (ne_4_5 : ((Value.ref CBadEndless) == Value.ref CBadBlock) = false)
    (s_4_6 : PySem.W.subIn K (.ref CBadEndless) (.ref CUnlikeSchemes) = some false)
    (ne_4_6 : ((Value.ref CBadEndless) == Value.ref CUnlikeSchemes) = false)
    (s_4_7 : PySem.W.subIn K (.ref CBadEndless) (.ref CTooWide) = some false)
    (ne_4_7 : ((Value.ref CBadEndless) == Value.ref CTooWide) = false)
    (s_5_0 : PySem.W.subIn K (.ref CBadBlock) (.ref CBadScheme) = some false)
    (ne_5_0 : ((Value.ref CBadBlock) == Value.ref CBadScheme) = false)
    (s_5_1 : PySem.W.subIn K (.ref CBadBlock) (.ref CBadColumn) = some false)
    (ne_5_1 : ((Value.ref CBadBlock) == Value.ref CBadColumn) = false)
    (s_5_2 : PySem.W.subIn K (.ref CBadBlock) (.ref CBadSpots) = some false)
    (ne_5_2 : ((Value.ref CBadBlock) == Value.ref CBadSpots) = false)
    (s_5_3 : PySem.W.subIn K (.ref CBadBlock) (.ref CBadStrip) = some false)
    (ne_5_3 : ((Value.ref CBadBlock) == Value.ref CBadStrip) = false)
    (s_5_4 : PySem.W.subIn K (.ref CBadBlock) (.ref CBadEndless) = some false)
    (ne_5_4 : ((Value.ref CBadBlock) == Value.ref CBadEndless) = false)
    (s_5_6 : PySem.W.subIn K (.ref CBadBlock) (.ref CUnlikeSchemes) = some false)
    (ne_5_6 : ((Value.ref CBadBlock) == Value.ref CUnlikeSchemes) = false)
    (s_5_7 : PySem.W.subIn K (.ref CBadBlock) (.ref CTooWide) = some false)
    (ne_5_7 : ((Value.ref CBadBlock) == Value.ref CTooWide) = false)
    (s_6_0 : PySem.W.subIn K (.ref CUnlikeSchemes) (.ref CBadScheme) = some false)
    (ne_6_0 : ((Value.ref CUnlikeSchemes) == Value.ref CBadScheme) = false)
    (s_6_1 : PySem.W.subIn K (.ref CUnlikeSchemes) (.ref CBadColumn) = some false)
    (ne_6_1 : ((Value.ref CUnlikeSchemes) == Value.ref CBadColumn) = false)
    (s_6_2 : PySem.W.subIn K (.ref CUnlikeSchemes) (.ref CBadSpots) = some false)
    (ne_6_2 : ((Value.ref CUnlikeSchemes) == Value.ref CBadSpots) = false)
    (s_6_3 : PySem.W.subIn K (.ref CUnlikeSchemes) (.ref CBadStrip) = some false)
    (ne_6_3 : ((Value.ref CUnlikeSchemes) == Value.ref CBadStrip) = false)
    (s_6_4 : PySem.W.subIn K (.ref CUnlikeSchemes) (.ref CBadEndless) = some false)
    (ne_6_4 : ((Value.ref CUnlikeSchemes) == Value.ref CBadEndless) = false)
    (s_6_5 : PySem.W.subIn K (.ref CUnlikeSchemes) (.ref CBadBlock) = some false)
    (ne_6_5 : ((Value.ref CUnlikeSchemes) == Value.ref CBadBlock) = false)
    (s_6_7 : PySem.W.subIn K (.ref CUnlikeSchemes) (.ref CTooWide) = some false)
    (ne_6_7 : ((Value.ref CUnlikeSchemes) == Value.ref CTooWide) = false)
    (s_7_0 : PySem.W.subIn K (.ref CTooWide) (.ref CBadScheme) = some false)
    (ne_7_0 : ((Value.ref CTooWide) == Value.ref CBadScheme) = false)
    (s_7_1 : PySem.W.subIn K (.ref CTooWide) (.ref CBadColumn) = some false)
    (ne_7_1 : ((Value.ref CTooWide) == Value.ref CBadColumn) = false)
    (s_7_2 : PySem.W.subIn K (.ref CTooWide) (.ref CBadSpots) = some false)
    (ne_7_2 : ((Value.ref CTooWide) == Value.ref CBadSpots) = false)
    (s_7_3 : PySem.W.subIn K (.ref CTooWide) (.ref CBadStrip) = some false)
    (ne_7_3 : ((Value.ref CTooWide) == Value.ref CBadStrip) = false)
    (s_7_4 : PySem.W.subIn K (.ref CTooWide) (.ref CBadEndless) = some false)
    (ne_7_4 : ((Value.ref CTooWide) == Value.ref CBadEndless) = false)
    (s_7_5 : PySem.W.subIn K (.ref CTooWide) (.ref CBadBlock) = some false)
    (ne_7_5 : ((Value.ref CTooWide) == Value.ref CBadBlock) = false)
    (s_7_6 : PySem.W.subIn K (.ref CTooWide) (.ref CUnlikeSchemes) = some false)
    (ne_7_6 : ((Value.ref CTooWide) == Value.ref CUnlikeSchemes) = false) : ∀ i < 8, ∀ j < 8, PySem.W.kitOne K (.ref (eAd ⟨CGalloonError, CUnlikeSchemes, CBadScheme, CBadColumn, CBadSpots, CBadStrip, CBadEndless, CBadBlock, CTooWide, CScheme, CEndless, CBlock⟩ i)) (.ref (eAd ⟨CGalloonError, CUnlikeSchemes, CBadScheme, CBadColumn, CBadSpots, CBadStrip, CBadEndless, CBadBlock, CTooWide, CScheme, CEndless, CBlock⟩ j)) = some (decide (i = j)) := by
  intro i hi j hj
  match i, hi, j, hj with
  | 0, _, 0, _ => exact kitS_of
  | 0, _, 1, _ => exact kitR_of ic_BadColumn tc_BadColumn s_0_1 ne_0_1
  | 0, _, 2, _ => exact kitR_of ic_BadSpots tc_BadSpots s_0_2 ne_0_2
  | 0, _, 3, _ => exact kitR_of ic_BadStrip tc_BadStrip s_0_3 ne_0_3
  | 0, _, 4, _ => exact kitR_of ic_BadEndless tc_BadEndless s_0_4 ne_0_4
  | 0, _, 5, _ => exact kitR_of ic_BadBlock tc_BadBlock s_0_5 ne_0_5
  | 0, _, 6, _ => exact kitR_of ic_UnlikeSchemes tc_UnlikeSchemes s_0_6 ne_0_6
  | 0, _, 7, _ => exact kitR_of ic_TooWide tc_TooWide s_0_7 ne_0_7
  | 1, _, 0, _ => exact kitR_of ic_BadScheme tc_BadScheme s_1_0 ne_1_0
  | 1, _, 1, _ => exact kitS_of
  | 1, _, 2, _ => exact kitR_of ic_BadSpots tc_BadSpots s_1_2 ne_1_2
  | 1, _, 3, _ => exact kitR_of ic_BadStrip tc_BadStrip s_1_3 ne_1_3
  | 1, _, 4, _ => exact kitR_of ic_BadEndless tc_BadEndless s_1_4 ne_1_4
  | 1, _, 5, _ => exact kitR_of ic_BadBlock tc_BadBlock s_1_5 ne_1_5
  | 1, _, 6, _ => exact kitR_of ic_UnlikeSchemes tc_UnlikeSchemes s_1_6 ne_1_6
  | 1, _, 7, _ => exact kitR_of ic_TooWide tc_TooWide s_1_7 ne_1_7
  | 2, _, 0, _ => exact kitR_of ic_BadScheme tc_BadScheme s_2_0 ne_2_0
  | 2, _, 1, _ => exact kitR_of ic_BadColumn tc_BadColumn s_2_1 ne_2_1
  | 2, _, 2, _ => exact kitS_of
  | 2, _, 3, _ => exact kitR_of ic_BadStrip tc_BadStrip s_2_3 ne_2_3
  | 2, _, 4, _ => exact kitR_of ic_BadEndless tc_BadEndless s_2_4 ne_2_4
  | 2, _, 5, _ => exact kitR_of ic_BadBlock tc_BadBlock s_2_5 ne_2_5
  | 2, _, 6, _ => exact kitR_of ic_UnlikeSchemes tc_UnlikeSchemes s_2_6 ne_2_6
  | 2, _, 7, _ => exact kitR_of ic_TooWide tc_TooWide s_2_7 ne_2_7
  | 3, _, 0, _ => exact kitR_of ic_BadScheme tc_BadScheme s_3_0 ne_3_0
  | 3, _, 1, _ => exact kitR_of ic_BadColumn tc_BadColumn s_3_1 ne_3_1
  | 3, _, 2, _ => exact kitR_of ic_BadSpots tc_BadSpots s_3_2 ne_3_2
  | 3, _, 3, _ => exact kitS_of
  | 3, _, 4, _ => exact kitR_of ic_BadEndless tc_BadEndless s_3_4 ne_3_4
  | 3, _, 5, _ => exact kitR_of ic_BadBlock tc_BadBlock s_3_5 ne_3_5
  | 3, _, 6, _ => exact kitR_of ic_UnlikeSchemes tc_UnlikeSchemes s_3_6 ne_3_6
  | 3, _, 7, _ => exact kitR_of ic_TooWide tc_TooWide s_3_7 ne_3_7
  | 4, _, 0, _ => exact kitR_of ic_BadScheme tc_BadScheme s_4_0 ne_4_0
  | 4, _, 1, _ => exact kitR_of ic_BadColumn tc_BadColumn s_4_1 ne_4_1
  | 4, _, 2, _ => exact kitR_of ic_BadSpots tc_BadSpots s_4_2 ne_4_2
  | 4, _, 3, _ => exact kitR_of ic_BadStrip tc_BadStrip s_4_3 ne_4_3
  | 4, _, 4, _ => exact kitS_of
  | 4, _, 5, _ => exact kitR_of ic_BadBlock tc_BadBlock s_4_5 ne_4_5
  | 4, _, 6, _ => exact kitR_of ic_UnlikeSchemes tc_UnlikeSchemes s_4_6 ne_4_6
  | 4, _, 7, _ => exact kitR_of ic_TooWide tc_TooWide s_4_7 ne_4_7
  | 5, _, 0, _ => exact kitR_of ic_BadScheme tc_BadScheme s_5_0 ne_5_0
  | 5, _, 1, _ => exact kitR_of ic_BadColumn tc_BadColumn s_5_1 ne_5_1
  | 5, _, 2, _ => exact kitR_of ic_BadSpots tc_BadSpots s_5_2 ne_5_2
  | 5, _, 3, _ => exact kitR_of ic_BadStrip tc_BadStrip s_5_3 ne_5_3
  | 5, _, 4, _ => exact kitR_of ic_BadEndless tc_BadEndless s_5_4 ne_5_4
  | 5, _, 5, _ => exact kitS_of
  | 5, _, 6, _ => exact kitR_of ic_UnlikeSchemes tc_UnlikeSchemes s_5_6 ne_5_6
  | 5, _, 7, _ => exact kitR_of ic_TooWide tc_TooWide s_5_7 ne_5_7
  | 6, _, 0, _ => exact kitR_of ic_BadScheme tc_BadScheme s_6_0 ne_6_0
  | 6, _, 1, _ => exact kitR_of ic_BadColumn tc_BadColumn s_6_1 ne_6_1
  | 6, _, 2, _ => exact kitR_of ic_BadSpots tc_BadSpots s_6_2 ne_6_2
  | 6, _, 3, _ => exact kitR_of ic_BadStrip tc_BadStrip s_6_3 ne_6_3
  | 6, _, 4, _ => exact kitR_of ic_BadEndless tc_BadEndless s_6_4 ne_6_4
  | 6, _, 5, _ => exact kitR_of ic_BadBlock tc_BadBlock s_6_5 ne_6_5
  | 6, _, 6, _ => exact kitS_of
  | 6, _, 7, _ => exact kitR_of ic_TooWide tc_TooWide s_6_7 ne_6_7
  | 7, _, 0, _ => exact kitR_of ic_BadScheme tc_BadScheme s_7_0 ne_7_0
  | 7, _, 1, _ => exact kitR_of ic_BadColumn tc_BadColumn s_7_1 ne_7_1
  | 7, _, 2, _ => exact kitR_of ic_BadSpots tc_BadSpots s_7_2 ne_7_2
  | 7, _, 3, _ => exact kitR_of ic_BadStrip tc_BadStrip s_7_3 ne_7_3
  | 7, _, 4, _ => exact kitR_of ic_BadEndless tc_BadEndless s_7_4 ne_7_4
  | 7, _, 5, _ => exact kitR_of ic_BadBlock tc_BadBlock s_7_5 ne_7_5
  | 7, _, 6, _ => exact kitR_of ic_UnlikeSchemes tc_UnlikeSchemes s_7_6 ne_7_6
  | 7, _, 7, _ => exact kitS_of
theorem kv_of {K : PySem.W.Frag} {CGalloonError CUnlikeSchemes CBadScheme CBadColumn CBadSpots CBadStrip CBadEndless CBadBlock CTooWide CScheme CEndless CBlock : Addr}
    (sv_0 : PySem.W.subIn K (.ref CBadScheme) (.type "ValueError") = some true)
    (sv_1 : PySem.W.subIn K (.ref CBadColumn) (.type "ValueError") = some true)
    (sv_2 : PySem.W.subIn K (.ref CBadSpots) (.type "ValueError") = some true)
    (sv_3 : PySem.W.subIn K (.ref CBadStrip) (.type "ValueError") = some true)
    (sv_4 : PySem.W.subIn K (.ref CBadEndless) (.type "ValueError") = some true)
    (sv_5 : PySem.W.subIn K (.ref CBadBlock) (.type "ValueError") = some true)
    (sv_6 : PySem.W.subIn K (.ref CUnlikeSchemes) (.type "ValueError") = some true)
    (sv_7 : PySem.W.subIn K (.ref CTooWide) (.type "ValueError") = some true) : ∀ i < 8, PySem.W.kitOne K (.ref (eAd ⟨CGalloonError, CUnlikeSchemes, CBadScheme, CBadColumn, CBadSpots, CBadStrip, CBadEndless, CBadBlock, CTooWide, CScheme, CEndless, CBlock⟩ i)) (.type "ValueError") = some true := by
  intro i hi
  match i, hi with
  | 0, _ => exact kitT_of (by decide +kernel) sv_0
  | 1, _ => exact kitT_of (by decide +kernel) sv_1
  | 2, _ => exact kitT_of (by decide +kernel) sv_2
  | 3, _ => exact kitT_of (by decide +kernel) sv_3
  | 4, _ => exact kitT_of (by decide +kernel) sv_4
  | 5, _ => exact kitT_of (by decide +kernel) sv_5
  | 6, _ => exact kitT_of (by decide +kernel) sv_6
  | 7, _ => exact kitT_of (by decide +kernel) sv_7
theorem xm_of {K : PySem.W.Frag} {CGalloonError CUnlikeSchemes CBadScheme CBadColumn CBadSpots CBadStrip CBadEndless CBadBlock CTooWide CScheme CEndless CBlock : Addr}
    (sB_GalloonError : PySem.W.subIn K (.ref CGalloonError) (.type "BaseException") = some true)
    (ic_GalloonError : PySem.W.isClsIn K CGalloonError = true)
    (tc_GalloonError : PySem.W.typeIn K (.ref CGalloonError) = some (.type "type"))
    (sg_0 : PySem.W.subIn K (.ref CBadScheme) (.ref CGalloonError) = some true)
    (sg_1 : PySem.W.subIn K (.ref CBadColumn) (.ref CGalloonError) = some true)
    (sg_2 : PySem.W.subIn K (.ref CBadSpots) (.ref CGalloonError) = some true)
    (sg_3 : PySem.W.subIn K (.ref CBadStrip) (.ref CGalloonError) = some true)
    (sg_4 : PySem.W.subIn K (.ref CBadEndless) (.ref CGalloonError) = some true)
    (sg_5 : PySem.W.subIn K (.ref CBadBlock) (.ref CGalloonError) = some true)
    (sg_6 : PySem.W.subIn K (.ref CUnlikeSchemes) (.ref CGalloonError) = some true)
    (sg_7 : PySem.W.subIn K (.ref CTooWide) (.ref CGalloonError) = some true) : ∀ i < 8, PySem.W.exmOne K (.ref (eAd ⟨CGalloonError, CUnlikeSchemes, CBadScheme, CBadColumn, CBadSpots, CBadStrip, CBadEndless, CBadBlock, CTooWide, CScheme, CEndless, CBlock⟩ i)) (.ref CGalloonError) = some true := by
  intro i hi
  match i, hi with
  | 0, _ => exact exm_of sB_GalloonError ic_GalloonError tc_GalloonError sg_0
  | 1, _ => exact exm_of sB_GalloonError ic_GalloonError tc_GalloonError sg_1
  | 2, _ => exact exm_of sB_GalloonError ic_GalloonError tc_GalloonError sg_2
  | 3, _ => exact exm_of sB_GalloonError ic_GalloonError tc_GalloonError sg_3
  | 4, _ => exact exm_of sB_GalloonError ic_GalloonError tc_GalloonError sg_4
  | 5, _ => exact exm_of sB_GalloonError ic_GalloonError tc_GalloonError sg_5
  | 6, _ => exact exm_of sB_GalloonError ic_GalloonError tc_GalloonError sg_6
  | 7, _ => exact exm_of sB_GalloonError ic_GalloonError tc_GalloonError sg_7
theorem kg_of {K : PySem.W.Frag} {CGalloonError CUnlikeSchemes CBadScheme CBadColumn CBadSpots CBadStrip CBadEndless CBadBlock CTooWide CScheme CEndless CBlock : Addr}
    (ic_GalloonError : PySem.W.isClsIn K CGalloonError = true)
    (tc_GalloonError : PySem.W.typeIn K (.ref CGalloonError) = some (.type "type"))
    (sg_0 : PySem.W.subIn K (.ref CBadScheme) (.ref CGalloonError) = some true)
    (sg_1 : PySem.W.subIn K (.ref CBadColumn) (.ref CGalloonError) = some true)
    (sg_2 : PySem.W.subIn K (.ref CBadSpots) (.ref CGalloonError) = some true)
    (sg_3 : PySem.W.subIn K (.ref CBadStrip) (.ref CGalloonError) = some true)
    (sg_4 : PySem.W.subIn K (.ref CBadEndless) (.ref CGalloonError) = some true)
    (sg_5 : PySem.W.subIn K (.ref CBadBlock) (.ref CGalloonError) = some true)
    (sg_6 : PySem.W.subIn K (.ref CUnlikeSchemes) (.ref CGalloonError) = some true)
    (sg_7 : PySem.W.subIn K (.ref CTooWide) (.ref CGalloonError) = some true)
    (ne_g_0 : ((Value.ref CBadScheme) == Value.ref CGalloonError) = false)
    (ne_g_1 : ((Value.ref CBadColumn) == Value.ref CGalloonError) = false)
    (ne_g_2 : ((Value.ref CBadSpots) == Value.ref CGalloonError) = false)
    (ne_g_3 : ((Value.ref CBadStrip) == Value.ref CGalloonError) = false)
    (ne_g_4 : ((Value.ref CBadEndless) == Value.ref CGalloonError) = false)
    (ne_g_5 : ((Value.ref CBadBlock) == Value.ref CGalloonError) = false)
    (ne_g_6 : ((Value.ref CUnlikeSchemes) == Value.ref CGalloonError) = false)
    (ne_g_7 : ((Value.ref CTooWide) == Value.ref CGalloonError) = false) : ∀ i < 8, PySem.W.kitOne K (.ref (eAd ⟨CGalloonError, CUnlikeSchemes, CBadScheme, CBadColumn, CBadSpots, CBadStrip, CBadEndless, CBadBlock, CTooWide, CScheme, CEndless, CBlock⟩ i)) (.ref CGalloonError) = some true := by
  intro i hi
  match i, hi with
  | 0, _ => exact kitR_of ic_GalloonError tc_GalloonError sg_0 ne_g_0
  | 1, _ => exact kitR_of ic_GalloonError tc_GalloonError sg_1 ne_g_1
  | 2, _ => exact kitR_of ic_GalloonError tc_GalloonError sg_2 ne_g_2
  | 3, _ => exact kitR_of ic_GalloonError tc_GalloonError sg_3 ne_g_3
  | 4, _ => exact kitR_of ic_GalloonError tc_GalloonError sg_4 ne_g_4
  | 5, _ => exact kitR_of ic_GalloonError tc_GalloonError sg_5 ne_g_5
  | 6, _ => exact kitR_of ic_GalloonError tc_GalloonError sg_6 ne_g_6
  | 7, _ => exact kitR_of ic_GalloonError tc_GalloonError sg_7 ne_g_7
theorem xo_of {K : PySem.W.Frag} {CGalloonError CUnlikeSchemes CBadScheme CBadColumn CBadSpots CBadStrip CBadEndless CBadBlock CTooWide CScheme CEndless CBlock : Addr}
    (sB_UnlikeSchemes : PySem.W.subIn K (.ref CUnlikeSchemes) (.type "BaseException") = some true)
    (ic_UnlikeSchemes : PySem.W.isClsIn K CUnlikeSchemes = true)
    (tc_UnlikeSchemes : PySem.W.typeIn K (.ref CUnlikeSchemes) = some (.type "type"))
    (sB_BadScheme : PySem.W.subIn K (.ref CBadScheme) (.type "BaseException") = some true)
    (ic_BadScheme : PySem.W.isClsIn K CBadScheme = true)
    (tc_BadScheme : PySem.W.typeIn K (.ref CBadScheme) = some (.type "type"))
    (sB_BadColumn : PySem.W.subIn K (.ref CBadColumn) (.type "BaseException") = some true)
    (ic_BadColumn : PySem.W.isClsIn K CBadColumn = true)
    (tc_BadColumn : PySem.W.typeIn K (.ref CBadColumn) = some (.type "type"))
    (sB_BadSpots : PySem.W.subIn K (.ref CBadSpots) (.type "BaseException") = some true)
    (ic_BadSpots : PySem.W.isClsIn K CBadSpots = true)
    (tc_BadSpots : PySem.W.typeIn K (.ref CBadSpots) = some (.type "type"))
    (sB_BadStrip : PySem.W.subIn K (.ref CBadStrip) (.type "BaseException") = some true)
    (ic_BadStrip : PySem.W.isClsIn K CBadStrip = true)
    (tc_BadStrip : PySem.W.typeIn K (.ref CBadStrip) = some (.type "type"))
    (sB_BadEndless : PySem.W.subIn K (.ref CBadEndless) (.type "BaseException") = some true)
    (ic_BadEndless : PySem.W.isClsIn K CBadEndless = true)
    (tc_BadEndless : PySem.W.typeIn K (.ref CBadEndless) = some (.type "type"))
    (sB_BadBlock : PySem.W.subIn K (.ref CBadBlock) (.type "BaseException") = some true)
    (ic_BadBlock : PySem.W.isClsIn K CBadBlock = true)
    (tc_BadBlock : PySem.W.typeIn K (.ref CBadBlock) = some (.type "type"))
    (sB_TooWide : PySem.W.subIn K (.ref CTooWide) (.type "BaseException") = some true)
    (ic_TooWide : PySem.W.isClsIn K CTooWide = true)
    (tc_TooWide : PySem.W.typeIn K (.ref CTooWide) = some (.type "type"))
    (ss_0 : PySem.W.subIn K (.ref CBadScheme) (.ref CBadScheme) = some true)
    (s_0_1 : PySem.W.subIn K (.ref CBadScheme) (.ref CBadColumn) = some false)
    (s_0_2 : PySem.W.subIn K (.ref CBadScheme) (.ref CBadSpots) = some false)
    (s_0_3 : PySem.W.subIn K (.ref CBadScheme) (.ref CBadStrip) = some false)
    (s_0_4 : PySem.W.subIn K (.ref CBadScheme) (.ref CBadEndless) = some false)
    (s_0_5 : PySem.W.subIn K (.ref CBadScheme) (.ref CBadBlock) = some false)
    (s_0_6 : PySem.W.subIn K (.ref CBadScheme) (.ref CUnlikeSchemes) = some false)
    (s_0_7 : PySem.W.subIn K (.ref CBadScheme) (.ref CTooWide) = some false)
    (s_1_0 : PySem.W.subIn K (.ref CBadColumn) (.ref CBadScheme) = some false)
    (ss_1 : PySem.W.subIn K (.ref CBadColumn) (.ref CBadColumn) = some true)
    (s_1_2 : PySem.W.subIn K (.ref CBadColumn) (.ref CBadSpots) = some false)
    (s_1_3 : PySem.W.subIn K (.ref CBadColumn) (.ref CBadStrip) = some false)
    (s_1_4 : PySem.W.subIn K (.ref CBadColumn) (.ref CBadEndless) = some false)
    (s_1_5 : PySem.W.subIn K (.ref CBadColumn) (.ref CBadBlock) = some false)
    (s_1_6 : PySem.W.subIn K (.ref CBadColumn) (.ref CUnlikeSchemes) = some false)
    (s_1_7 : PySem.W.subIn K (.ref CBadColumn) (.ref CTooWide) = some false)
    (s_2_0 : PySem.W.subIn K (.ref CBadSpots) (.ref CBadScheme) = some false)
    (s_2_1 : PySem.W.subIn K (.ref CBadSpots) (.ref CBadColumn) = some false)
    (ss_2 : PySem.W.subIn K (.ref CBadSpots) (.ref CBadSpots) = some true)
    (s_2_3 : PySem.W.subIn K (.ref CBadSpots) (.ref CBadStrip) = some false)
    (s_2_4 : PySem.W.subIn K (.ref CBadSpots) (.ref CBadEndless) = some false)
    (s_2_5 : PySem.W.subIn K (.ref CBadSpots) (.ref CBadBlock) = some false)
    (s_2_6 : PySem.W.subIn K (.ref CBadSpots) (.ref CUnlikeSchemes) = some false)
    (s_2_7 : PySem.W.subIn K (.ref CBadSpots) (.ref CTooWide) = some false)
    (s_3_0 : PySem.W.subIn K (.ref CBadStrip) (.ref CBadScheme) = some false)
    (s_3_1 : PySem.W.subIn K (.ref CBadStrip) (.ref CBadColumn) = some false)
    (s_3_2 : PySem.W.subIn K (.ref CBadStrip) (.ref CBadSpots) = some false)
    (ss_3 : PySem.W.subIn K (.ref CBadStrip) (.ref CBadStrip) = some true)
    (s_3_4 : PySem.W.subIn K (.ref CBadStrip) (.ref CBadEndless) = some false)
    (s_3_5 : PySem.W.subIn K (.ref CBadStrip) (.ref CBadBlock) = some false)
    (s_3_6 : PySem.W.subIn K (.ref CBadStrip) (.ref CUnlikeSchemes) = some false)
    (s_3_7 : PySem.W.subIn K (.ref CBadStrip) (.ref CTooWide) = some false)
    (s_4_0 : PySem.W.subIn K (.ref CBadEndless) (.ref CBadScheme) = some false)
    (s_4_1 : PySem.W.subIn K (.ref CBadEndless) (.ref CBadColumn) = some false)
    (s_4_2 : PySem.W.subIn K (.ref CBadEndless) (.ref CBadSpots) = some false)
    (s_4_3 : PySem.W.subIn K (.ref CBadEndless) (.ref CBadStrip) = some false)
    (ss_4 : PySem.W.subIn K (.ref CBadEndless) (.ref CBadEndless) = some true)
    (s_4_5 : PySem.W.subIn K (.ref CBadEndless) (.ref CBadBlock) = some false)
    (s_4_6 : PySem.W.subIn K (.ref CBadEndless) (.ref CUnlikeSchemes) = some false)
    (s_4_7 : PySem.W.subIn K (.ref CBadEndless) (.ref CTooWide) = some false)
    (s_5_0 : PySem.W.subIn K (.ref CBadBlock) (.ref CBadScheme) = some false)
    (s_5_1 : PySem.W.subIn K (.ref CBadBlock) (.ref CBadColumn) = some false)
    (s_5_2 : PySem.W.subIn K (.ref CBadBlock) (.ref CBadSpots) = some false)
    (s_5_3 : PySem.W.subIn K (.ref CBadBlock) (.ref CBadStrip) = some false)
    (s_5_4 : PySem.W.subIn K (.ref CBadBlock) (.ref CBadEndless) = some false)
    (ss_5 : PySem.W.subIn K (.ref CBadBlock) (.ref CBadBlock) = some true)
    (s_5_6 : PySem.W.subIn K (.ref CBadBlock) (.ref CUnlikeSchemes) = some false)
    (s_5_7 : PySem.W.subIn K (.ref CBadBlock) (.ref CTooWide) = some false)
    (s_6_0 : PySem.W.subIn K (.ref CUnlikeSchemes) (.ref CBadScheme) = some false)
    (s_6_1 : PySem.W.subIn K (.ref CUnlikeSchemes) (.ref CBadColumn) = some false)
    (s_6_2 : PySem.W.subIn K (.ref CUnlikeSchemes) (.ref CBadSpots) = some false)
    (s_6_3 : PySem.W.subIn K (.ref CUnlikeSchemes) (.ref CBadStrip) = some false)
    (s_6_4 : PySem.W.subIn K (.ref CUnlikeSchemes) (.ref CBadEndless) = some false)
    (s_6_5 : PySem.W.subIn K (.ref CUnlikeSchemes) (.ref CBadBlock) = some false)
    (ss_6 : PySem.W.subIn K (.ref CUnlikeSchemes) (.ref CUnlikeSchemes) = some true)
    (s_6_7 : PySem.W.subIn K (.ref CUnlikeSchemes) (.ref CTooWide) = some false)
    (s_7_0 : PySem.W.subIn K (.ref CTooWide) (.ref CBadScheme) = some false)
    (s_7_1 : PySem.W.subIn K (.ref CTooWide) (.ref CBadColumn) = some false)
    (s_7_2 : PySem.W.subIn K (.ref CTooWide) (.ref CBadSpots) = some false)
    (s_7_3 : PySem.W.subIn K (.ref CTooWide) (.ref CBadStrip) = some false)
    (s_7_4 : PySem.W.subIn K (.ref CTooWide) (.ref CBadEndless) = some false)
    (s_7_5 : PySem.W.subIn K (.ref CTooWide) (.ref CBadBlock) = some false)
    (s_7_6 : PySem.W.subIn K (.ref CTooWide) (.ref CUnlikeSchemes) = some false)
    (ss_7 : PySem.W.subIn K (.ref CTooWide) (.ref CTooWide) = some true) : ∀ i < 8, ∀ j < 8, PySem.W.exmOne K (.ref (eAd ⟨CGalloonError, CUnlikeSchemes, CBadScheme, CBadColumn, CBadSpots, CBadStrip, CBadEndless, CBadBlock, CTooWide, CScheme, CEndless, CBlock⟩ i)) (.ref (eAd ⟨CGalloonError, CUnlikeSchemes, CBadScheme, CBadColumn, CBadSpots, CBadStrip, CBadEndless, CBadBlock, CTooWide, CScheme, CEndless, CBlock⟩ j)) = some (decide (i = j)) := by
  intro i hi j hj
  match i, hi, j, hj with
  | 0, _, 0, _ => exact exm_of sB_BadScheme ic_BadScheme tc_BadScheme ss_0
  | 0, _, 1, _ => exact exm_of sB_BadColumn ic_BadColumn tc_BadColumn s_0_1
  | 0, _, 2, _ => exact exm_of sB_BadSpots ic_BadSpots tc_BadSpots s_0_2
  | 0, _, 3, _ => exact exm_of sB_BadStrip ic_BadStrip tc_BadStrip s_0_3
  | 0, _, 4, _ => exact exm_of sB_BadEndless ic_BadEndless tc_BadEndless s_0_4
  | 0, _, 5, _ => exact exm_of sB_BadBlock ic_BadBlock tc_BadBlock s_0_5
  | 0, _, 6, _ => exact exm_of sB_UnlikeSchemes ic_UnlikeSchemes tc_UnlikeSchemes s_0_6
  | 0, _, 7, _ => exact exm_of sB_TooWide ic_TooWide tc_TooWide s_0_7
  | 1, _, 0, _ => exact exm_of sB_BadScheme ic_BadScheme tc_BadScheme s_1_0
  | 1, _, 1, _ => exact exm_of sB_BadColumn ic_BadColumn tc_BadColumn ss_1
  | 1, _, 2, _ => exact exm_of sB_BadSpots ic_BadSpots tc_BadSpots s_1_2
  | 1, _, 3, _ => exact exm_of sB_BadStrip ic_BadStrip tc_BadStrip s_1_3
  | 1, _, 4, _ => exact exm_of sB_BadEndless ic_BadEndless tc_BadEndless s_1_4
  | 1, _, 5, _ => exact exm_of sB_BadBlock ic_BadBlock tc_BadBlock s_1_5
  | 1, _, 6, _ => exact exm_of sB_UnlikeSchemes ic_UnlikeSchemes tc_UnlikeSchemes s_1_6
  | 1, _, 7, _ => exact exm_of sB_TooWide ic_TooWide tc_TooWide s_1_7
  | 2, _, 0, _ => exact exm_of sB_BadScheme ic_BadScheme tc_BadScheme s_2_0
  | 2, _, 1, _ => exact exm_of sB_BadColumn ic_BadColumn tc_BadColumn s_2_1
  | 2, _, 2, _ => exact exm_of sB_BadSpots ic_BadSpots tc_BadSpots ss_2
  | 2, _, 3, _ => exact exm_of sB_BadStrip ic_BadStrip tc_BadStrip s_2_3
  | 2, _, 4, _ => exact exm_of sB_BadEndless ic_BadEndless tc_BadEndless s_2_4
  | 2, _, 5, _ => exact exm_of sB_BadBlock ic_BadBlock tc_BadBlock s_2_5
  | 2, _, 6, _ => exact exm_of sB_UnlikeSchemes ic_UnlikeSchemes tc_UnlikeSchemes s_2_6
  | 2, _, 7, _ => exact exm_of sB_TooWide ic_TooWide tc_TooWide s_2_7
  | 3, _, 0, _ => exact exm_of sB_BadScheme ic_BadScheme tc_BadScheme s_3_0
  | 3, _, 1, _ => exact exm_of sB_BadColumn ic_BadColumn tc_BadColumn s_3_1
  | 3, _, 2, _ => exact exm_of sB_BadSpots ic_BadSpots tc_BadSpots s_3_2
  | 3, _, 3, _ => exact exm_of sB_BadStrip ic_BadStrip tc_BadStrip ss_3
  | 3, _, 4, _ => exact exm_of sB_BadEndless ic_BadEndless tc_BadEndless s_3_4
  | 3, _, 5, _ => exact exm_of sB_BadBlock ic_BadBlock tc_BadBlock s_3_5
  | 3, _, 6, _ => exact exm_of sB_UnlikeSchemes ic_UnlikeSchemes tc_UnlikeSchemes s_3_6
  | 3, _, 7, _ => exact exm_of sB_TooWide ic_TooWide tc_TooWide s_3_7
  | 4, _, 0, _ => exact exm_of sB_BadScheme ic_BadScheme tc_BadScheme s_4_0
  | 4, _, 1, _ => exact exm_of sB_BadColumn ic_BadColumn tc_BadColumn s_4_1
  | 4, _, 2, _ => exact exm_of sB_BadSpots ic_BadSpots tc_BadSpots s_4_2
  | 4, _, 3, _ => exact exm_of sB_BadStrip ic_BadStrip tc_BadStrip s_4_3
  | 4, _, 4, _ => exact exm_of sB_BadEndless ic_BadEndless tc_BadEndless ss_4
  | 4, _, 5, _ => exact exm_of sB_BadBlock ic_BadBlock tc_BadBlock s_4_5
  | 4, _, 6, _ => exact exm_of sB_UnlikeSchemes ic_UnlikeSchemes tc_UnlikeSchemes s_4_6
  | 4, _, 7, _ => exact exm_of sB_TooWide ic_TooWide tc_TooWide s_4_7
  | 5, _, 0, _ => exact exm_of sB_BadScheme ic_BadScheme tc_BadScheme s_5_0
  | 5, _, 1, _ => exact exm_of sB_BadColumn ic_BadColumn tc_BadColumn s_5_1
  | 5, _, 2, _ => exact exm_of sB_BadSpots ic_BadSpots tc_BadSpots s_5_2
  | 5, _, 3, _ => exact exm_of sB_BadStrip ic_BadStrip tc_BadStrip s_5_3
  | 5, _, 4, _ => exact exm_of sB_BadEndless ic_BadEndless tc_BadEndless s_5_4
  | 5, _, 5, _ => exact exm_of sB_BadBlock ic_BadBlock tc_BadBlock ss_5
  | 5, _, 6, _ => exact exm_of sB_UnlikeSchemes ic_UnlikeSchemes tc_UnlikeSchemes s_5_6
  | 5, _, 7, _ => exact exm_of sB_TooWide ic_TooWide tc_TooWide s_5_7
  | 6, _, 0, _ => exact exm_of sB_BadScheme ic_BadScheme tc_BadScheme s_6_0
  | 6, _, 1, _ => exact exm_of sB_BadColumn ic_BadColumn tc_BadColumn s_6_1
  | 6, _, 2, _ => exact exm_of sB_BadSpots ic_BadSpots tc_BadSpots s_6_2
  | 6, _, 3, _ => exact exm_of sB_BadStrip ic_BadStrip tc_BadStrip s_6_3
  | 6, _, 4, _ => exact exm_of sB_BadEndless ic_BadEndless tc_BadEndless s_6_4
  | 6, _, 5, _ => exact exm_of sB_BadBlock ic_BadBlock tc_BadBlock s_6_5
  | 6, _, 6, _ => exact exm_of sB_UnlikeSchemes ic_UnlikeSchemes tc_UnlikeSchemes ss_6
  | 6, _, 7, _ => exact exm_of sB_TooWide ic_TooWide tc_TooWide s_6_7
  | 7, _, 0, _ => exact exm_of sB_BadScheme ic_BadScheme tc_BadScheme s_7_0
  | 7, _, 1, _ => exact exm_of sB_BadColumn ic_BadColumn tc_BadColumn s_7_1
  | 7, _, 2, _ => exact exm_of sB_BadSpots ic_BadSpots tc_BadSpots s_7_2
  | 7, _, 3, _ => exact exm_of sB_BadStrip ic_BadStrip tc_BadStrip s_7_3
  | 7, _, 4, _ => exact exm_of sB_BadEndless ic_BadEndless tc_BadEndless s_7_4
  | 7, _, 5, _ => exact exm_of sB_BadBlock ic_BadBlock tc_BadBlock s_7_5
  | 7, _, 6, _ => exact exm_of sB_UnlikeSchemes ic_UnlikeSchemes tc_UnlikeSchemes s_7_6
  | 7, _, 7, _ => exact exm_of sB_TooWide ic_TooWide tc_TooWide ss_7
theorem mkTxt {K : PySem.W.Frag} {h : Heap} {mg : Str → Option Value} (X : K.In h) (G : h.Ns mainGlobals mg)
    {CGalloonError CUnlikeSchemes CBadScheme CBadColumn CBadSpots CBadStrip CBadEndless CBadBlock CTooWide CScheme CEndless CBlock : Addr}
    {tk_DIGITS : Nat}
    {tk_LETTERS : Nat}
    {tk_MOST_LOOP : Nat}
    {f1 : Addr} {od1 an1 : Option Addr} {sl1 : Array (Option Value)} {oc1 kV1 dc1 pm1 cd1 ct1 : Value}
    {nm1 qn1 : Str} {N1 : Addr} {bs1 bm1 : List Value} {sn1 : List Str} {sub1 : List Value} {ab1 : Bool} {col1 : Option Bool} {dd1 : Option Addr} {m01 m11 m21 m31 m51 : Option Value}
    {f2 : Addr} {od2 an2 : Option Addr} {sl2 : Array (Option Value)} {oc2 kV2 dc2 pm2 cd2 ct2 : Value}
    {nm2 qn2 : Str} {N2 : Addr} {bs2 bm2 : List Value} {sn2 : List Str} {sub2 : List Value} {ab2 : Bool} {col2 : Option Bool} {dd2 : Option Addr} {m02 m12 m22 m32 m52 : Option Value}
    {f3 : Addr} {od3 an3 : Option Addr} {sl3 : Array (Option Value)} {oc3 kV3 dc3 pm3 cd3 ct3 : Value}
    {nm3 qn3 : Str} {N3 : Addr} {bs3 bm3 : List Value} {sn3 : List Str} {sub3 : List Value} {ab3 : Bool} {col3 : Option Bool} {dd3 : Option Addr} {m03 m13 m23 m33 m53 : Option Value}
    {f4 : Addr} {od4 an4 : Option Addr} {sl4 : Array (Option Value)} {oc4 kV4 dc4 pm4 cd4 ct4 : Value}
    {nm4 qn4 : Str} {N4 : Addr} {bs4 bm4 : List Value} {sn4 : List Str} {sub4 : List Value} {ab4 : Bool} {col4 : Option Bool} {dd4 : Option Addr} {m04 m14 m24 m34 m54 : Option Value}
    {f5 : Addr} {od5 an5 : Option Addr} {sl5 : Array (Option Value)} {oc5 kV5 dc5 pm5 cd5 ct5 : Value}
    {nm5 qn5 : Str} {N5 : Addr} {bs5 bm5 : List Value} {sn5 : List Str} {sub5 : List Value} {ab5 : Bool} {col5 : Option Bool} {dd5 : Option Addr} {m05 m15 m25 m35 m55 : Option Value}
    {f6 : Addr} {od6 an6 : Option Addr} {sl6 : Array (Option Value)} {oc6 kV6 dc6 pm6 cd6 ct6 : Value}
    {nm6 qn6 : Str} {N6 : Addr} {bs6 bm6 : List Value} {sn6 : List Str} {sub6 : List Value} {ab6 : Bool} {col6 : Option Bool} {dd6 : Option Addr} {m06 m16 m26 m36 m56 : Option Value}
    {f7 : Addr} {od7 an7 : Option Addr} {sl7 : Array (Option Value)} {oc7 kV7 dc7 pm7 cd7 ct7 : Value}
    {f8 : Addr} {od8 an8 : Option Addr} {sl8 : Array (Option Value)} {oc8 kV8 dc8 pm8 cd8 ct8 : Value}
    {f9 : Addr} {od9 an9 : Option Addr} {sl9 : Array (Option Value)} {oc9 kV9 dc9 pm9 cd9 ct9 : Value}
    {f10 : Addr} {od10 an10 : Option Addr} {sl10 : Array (Option Value)} {oc10 kV10 dc10 pm10 cd10 ct10 : Value}
    {f11 : Addr} {od11 an11 : Option Addr} {sl11 : Array (Option Value)} {oc11 kV11 dc11 pm11 cd11 ct11 : Value}
    {f12 : Addr} {od12 an12 : Option Addr} {sl12 : Array (Option Value)} {oc12 kV12 dc12 pm12 cd12 ct12 : Value}
    {f13 : Addr} {od13 an13 : Option Addr} {sl13 : Array (Option Value)} {oc13 kV13 dc13 pm13 cd13 ct13 : Value}
    {f14 : Addr} {od14 an14 : Option Addr} {sl14 : Array (Option Value)} {oc14 dc14 pm14 cd14 ct14 : Value}
    {D14 : Addr}
    {tw14_start : Nat}
    {f15 : Addr} {od15 an15 : Option Addr} {sl15 : Array (Option Value)} {oc15 kV15 dc15 pm15 cd15 ct15 : Value}
    {f16 : Addr} {od16 an16 : Option Addr} {sl16 : Array (Option Value)} {oc16 kV16 dc16 pm16 cd16 ct16 : Value}
    {f17 : Addr} {od17 an17 : Option Addr} {sl17 : Array (Option Value)} {oc17 kV17 dc17 pm17 cd17 ct17 : Value}
    {f18 : Addr} {od18 an18 : Option Addr} {sl18 : Array (Option Value)} {oc18 kV18 dc18 pm18 cd18 ct18 : Value}
    {f19 : Addr} {od19 an19 : Option Addr} {sl19 : Array (Option Value)} {oc19 kV19 dc19 pm19 cd19 ct19 : Value}
    {f20 : Addr} {od20 an20 : Option Addr} {sl20 : Array (Option Value)} {oc20 kV20 dc20 pm20 cd20 ct20 : Value}
    {p20 : Addr} {rs20 : List Value}
    {f21 : Addr} {od21 an21 : Option Addr} {sl21 : Array (Option Value)} {oc21 kV21 dc21 pm21 cd21 ct21 : Value}
    {p21 : Addr} {rs21 : List Value}
    {f22 : Addr} {od22 an22 : Option Addr} {sl22 : Array (Option Value)} {oc22 kV22 dc22 pm22 cd22 ct22 : Value}
    {f23 : Addr} {od23 an23 : Option Addr} {sl23 : Array (Option Value)} {oc23 kV23 dc23 pm23 cd23 ct23 : Value}
    {f24 : Addr} {od24 an24 : Option Addr} {sl24 : Array (Option Value)} {oc24 kV24 dc24 pm24 cd24 ct24 : Value}
    {f25 : Addr} {od25 an25 : Option Addr} {sl25 : Array (Option Value)} {oc25 kV25 dc25 pm25 cd25 ct25 : Value}
    {f26 : Addr} {od26 an26 : Option Addr} {sl26 : Array (Option Value)} {oc26 kV26 dc26 pm26 cd26 ct26 : Value}
    {f27 : Addr} {od27 an27 : Option Addr} {sl27 : Array (Option Value)} {oc27 kV27 dc27 pm27 cd27 ct27 : Value}
    {f28 : Addr} {od28 an28 : Option Addr} {sl28 : Array (Option Value)} {oc28 kV28 dc28 pm28 cd28 ct28 : Value}
    {f29 : Addr} {od29 an29 : Option Addr} {sl29 : Array (Option Value)} {oc29 kV29 dc29 pm29 cd29 ct29 : Value}
    {f30 : Addr} {od30 an30 : Option Addr} {sl30 : Array (Option Value)} {oc30 kV30 dc30 pm30 cd30 ct30 : Value}
    {f31 : Addr} {od31 an31 : Option Addr} {sl31 : Array (Option Value)} {oc31 kV31 dc31 pm31 cd31 ct31 : Value}
    {f32 : Addr} {od32 an32 : Option Addr} {sl32 : Array (Option Value)} {oc32 kV32 dc32 pm32 cd32 ct32 : Value}
    {f33 : Addr} {od33 an33 : Option Addr} {sl33 : Array (Option Value)} {oc33 kV33 dc33 pm33 cd33 ct33 : Value}
    {f34 : Addr} {od34 an34 : Option Addr} {sl34 : Array (Option Value)} {oc34 kV34 dc34 pm34 cd34 ct34 : Value}
    {f35 : Addr} {od35 an35 : Option Addr} {sl35 : Array (Option Value)} {oc35 kV35 dc35 pm35 cd35 ct35 : Value}
    {f36 : Addr} {od36 an36 : Option Addr} {sl36 : Array (Option Value)} {oc36 kV36 dc36 pm36 cd36 ct36 : Value}
    {f37 : Addr} {od37 an37 : Option Addr} {sl37 : Array (Option Value)} {oc37 kV37 dc37 pm37 cd37 ct37 : Value}
    {f38 : Addr} {od38 an38 : Option Addr} {sl38 : Array (Option Value)} {oc38 kV38 dc38 pm38 cd38 ct38 : Value}
    {f39 : Addr} {od39 an39 : Option Addr} {sl39 : Array (Option Value)} {oc39 kV39 dc39 pm39 cd39 ct39 : Value}
    {f40 : Addr} {od40 an40 : Option Addr} {sl40 : Array (Option Value)} {oc40 kV40 dc40 pm40 cd40 ct40 : Value}
    {f41 : Addr} {od41 an41 : Option Addr} {sl41 : Array (Option Value)} {oc41 kV41 dc41 pm41 cd41 ct41 : Value}
    {f42 : Addr} {od42 an42 : Option Addr} {sl42 : Array (Option Value)} {oc42 kV42 dc42 pm42 cd42 ct42 : Value}
    {f43 : Addr} {od43 an43 : Option Addr} {sl43 : Array (Option Value)} {oc43 kV43 dc43 pm43 cd43 ct43 : Value}
    {f44 : Addr} {od44 an44 : Option Addr} {sl44 : Array (Option Value)} {oc44 kV44 dc44 pm44 cd44 ct44 : Value}
    {f45 : Addr} {od45 an45 : Option Addr} {sl45 : Array (Option Value)} {oc45 kV45 dc45 pm45 cd45 ct45 : Value}
    {f46 : Addr} {od46 an46 : Option Addr} {sl46 : Array (Option Value)} {oc46 kV46 dc46 pm46 cd46 ct46 : Value}
    {f47 : Addr} {od47 an47 : Option Addr} {sl47 : Array (Option Value)} {oc47 kV47 dc47 pm47 cd47 ct47 : Value}
    {f48 : Addr} {od48 an48 : Option Addr} {sl48 : Array (Option Value)} {oc48 kV48 dc48 pm48 cd48 ct48 : Value}
    {f49 : Addr} {od49 an49 : Option Addr} {sl49 : Array (Option Value)} {oc49 kV49 dc49 pm49 cd49 ct49 : Value}
    {f50 : Addr} {od50 an50 : Option Addr} {sl50 : Array (Option Value)} {oc50 kV50 dc50 pm50 cd50 ct50 : Value}
    {f51 : Addr} {od51 an51 : Option Addr} {sl51 : Array (Option Value)} {oc51 kV51 dc51 pm51 cd51 ct51 : Value}
    {f52 : Addr} {od52 an52 : Option Addr} {sl52 : Array (Option Value)} {oc52 kV52 dc52 pm52 cd52 ct52 : Value}
    {f53 : Addr} {od53 an53 : Option Addr} {sl53 : Array (Option Value)} {oc53 kV53 dc53 pm53 cd53 ct53 : Value}
    {f54 : Addr} {od54 an54 : Option Addr} {sl54 : Array (Option Value)} {oc54 kV54 dc54 pm54 cd54 ct54 : Value}
    {f55 : Addr} {od55 an55 : Option Addr} {sl55 : Array (Option Value)} {oc55 kV55 dc55 pm55 cd55 ct55 : Value}
    {f56 : Addr} {od56 an56 : Option Addr} {sl56 : Array (Option Value)} {oc56 kV56 dc56 pm56 cd56 ct56 : Value}
    {f57 : Addr} {od57 an57 : Option Addr} {sl57 : Array (Option Value)} {oc57 kV57 dc57 pm57 cd57 ct57 : Value}
    {f58 : Addr} {od58 an58 : Option Addr} {sl58 : Array (Option Value)} {oc58 kV58 dc58 pm58 cd58 ct58 : Value}
    {f59 : Addr} {od59 an59 : Option Addr} {sl59 : Array (Option Value)} {oc59 kV59 dc59 pm59 cd59 ct59 : Value}
    {f60 : Addr} {od60 an60 : Option Addr} {sl60 : Array (Option Value)} {oc60 kV60 dc60 pm60 cd60 ct60 : Value}
    {f61 : Addr} {od61 an61 : Option Addr} {sl61 : Array (Option Value)} {oc61 kV61 dc61 pm61 cd61 ct61 : Value}
    {f62 : Addr} {od62 an62 : Option Addr} {sl62 : Array (Option Value)} {oc62 kV62 dc62 pm62 cd62 ct62 : Value}
    {f63 : Addr} {od63 an63 : Option Addr} {sl63 : Array (Option Value)} {oc63 kV63 dc63 pm63 cd63 ct63 : Value}
    {f64 : Addr} {od64 an64 : Option Addr} {sl64 : Array (Option Value)} {oc64 kV64 dc64 pm64 cd64 ct64 : Value}
    {f65 : Addr} {od65 an65 : Option Addr} {sl65 : Array (Option Value)} {oc65 kV65 dc65 pm65 cd65 ct65 : Value}
    {f66 : Addr} {od66 an66 : Option Addr} {sl66 : Array (Option Value)} {oc66 kV66 dc66 pm66 cd66 ct66 : Value}
    {f67 : Addr} {od67 an67 : Option Addr} {sl67 : Array (Option Value)} {oc67 kV67 dc67 pm67 cd67 ct67 : Value}
    {f68 : Addr} {od68 an68 : Option Addr} {sl68 : Array (Option Value)} {oc68 kV68 dc68 pm68 cd68 ct68 : Value}
    {f69 : Addr} {od69 an69 : Option Addr} {sl69 : Array (Option Value)} {oc69 kV69 dc69 pm69 cd69 ct69 : Value}
    {f70 : Addr} {od70 an70 : Option Addr} {sl70 : Array (Option Value)} {oc70 kV70 dc70 pm70 cd70 ct70 : Value}
    {f71 : Addr} {od71 an71 : Option Addr} {sl71 : Array (Option Value)} {oc71 kV71 dc71 pm71 cd71 ct71 : Value}
    {f72 : Addr} {od72 an72 : Option Addr} {sl72 : Array (Option Value)} {oc72 kV72 dc72 pm72 cd72 ct72 : Value}
    {t_Scheme_MOST : Nat}
    {t_Scheme_BLANK : Nat}
    {tc_Block_MOST : Nat}
    (a_GalloonError : PySem.W.nsIn K mainGlobals "GalloonError" = some (some (.ref CGalloonError)))
    (a_UnlikeSchemes : PySem.W.nsIn K mainGlobals "UnlikeSchemes" = some (some (.ref CUnlikeSchemes)))
    (a_BadScheme : PySem.W.nsIn K mainGlobals "BadScheme" = some (some (.ref CBadScheme)))
    (a_BadColumn : PySem.W.nsIn K mainGlobals "BadColumn" = some (some (.ref CBadColumn)))
    (a_BadSpots : PySem.W.nsIn K mainGlobals "BadSpots" = some (some (.ref CBadSpots)))
    (a_BadStrip : PySem.W.nsIn K mainGlobals "BadStrip" = some (some (.ref CBadStrip)))
    (a_BadEndless : PySem.W.nsIn K mainGlobals "BadEndless" = some (some (.ref CBadEndless)))
    (a_BadBlock : PySem.W.nsIn K mainGlobals "BadBlock" = some (some (.ref CBadBlock)))
    (a_TooWide : PySem.W.nsIn K mainGlobals "TooWide" = some (some (.ref CTooWide)))
    (a_Scheme : PySem.W.nsIn K mainGlobals "Scheme" = some (some (.ref CScheme)))
    (a_Endless : PySem.W.nsIn K mainGlobals "Endless" = some (some (.ref CEndless)))
    (a_Block : PySem.W.nsIn K mainGlobals "Block" = some (some (.ref CBlock)))
    (z_ValueError : PySem.W.nsIn K mainGlobals "ValueError" = some none)
    (z_abs : PySem.W.nsIn K mainGlobals "abs" = some none)
    (z_all : PySem.W.nsIn K mainGlobals "all" = some none)
    (z_bool : PySem.W.nsIn K mainGlobals "bool" = some none)
    (z_classmethod : PySem.W.nsIn K mainGlobals "classmethod" = some none)
    (z_enumerate : PySem.W.nsIn K mainGlobals "enumerate" = some none)
    (z_int : PySem.W.nsIn K mainGlobals "int" = some none)
    (z_isinstance : PySem.W.nsIn K mainGlobals "isinstance" = some none)
    (z_len : PySem.W.nsIn K mainGlobals "len" = some none)
    (z_list : PySem.W.nsIn K mainGlobals "list" = some none)
    (z_max : PySem.W.nsIn K mainGlobals "max" = some none)
    (z_min : PySem.W.nsIn K mainGlobals "min" = some none)
    (z_range : PySem.W.nsIn K mainGlobals "range" = some none)
    (z_str : PySem.W.nsIn K mainGlobals "str" = some none)
    (z_zip : PySem.W.nsIn K mainGlobals "zip" = some none)
    (v_DIGITS : PySem.W.nsIn K mainGlobals "DIGITS" = some (some (.str "012" tk_DIGITS)))
    (v_LETTERS : PySem.W.nsIn K mainGlobals "LETTERS" = some (some (.str "abcdefghi" tk_LETTERS)))
    (v_MOST_LOOP : PySem.W.nsIn K mainGlobals "MOST_LOOP" = some (some (.int 6 tk_MOST_LOOP)))
    (sB_GalloonError : PySem.W.subIn K (.ref CGalloonError) (.type "BaseException") = some true)
    (ic_GalloonError : PySem.W.isClsIn K CGalloonError = true)
    (tc_GalloonError : PySem.W.typeIn K (.ref CGalloonError) = some (.type "type"))
    (sB_UnlikeSchemes : PySem.W.subIn K (.ref CUnlikeSchemes) (.type "BaseException") = some true)
    (ic_UnlikeSchemes : PySem.W.isClsIn K CUnlikeSchemes = true)
    (tc_UnlikeSchemes : PySem.W.typeIn K (.ref CUnlikeSchemes) = some (.type "type"))
    (sB_BadScheme : PySem.W.subIn K (.ref CBadScheme) (.type "BaseException") = some true)
    (ic_BadScheme : PySem.W.isClsIn K CBadScheme = true)
    (tc_BadScheme : PySem.W.typeIn K (.ref CBadScheme) = some (.type "type"))
    (sB_BadColumn : PySem.W.subIn K (.ref CBadColumn) (.type "BaseException") = some true)
    (ic_BadColumn : PySem.W.isClsIn K CBadColumn = true)
    (tc_BadColumn : PySem.W.typeIn K (.ref CBadColumn) = some (.type "type"))
    (sB_BadSpots : PySem.W.subIn K (.ref CBadSpots) (.type "BaseException") = some true)
    (ic_BadSpots : PySem.W.isClsIn K CBadSpots = true)
    (tc_BadSpots : PySem.W.typeIn K (.ref CBadSpots) = some (.type "type"))
    (sB_BadStrip : PySem.W.subIn K (.ref CBadStrip) (.type "BaseException") = some true)
    (ic_BadStrip : PySem.W.isClsIn K CBadStrip = true)
    (tc_BadStrip : PySem.W.typeIn K (.ref CBadStrip) = some (.type "type"))
    (sB_BadEndless : PySem.W.subIn K (.ref CBadEndless) (.type "BaseException") = some true)
    (ic_BadEndless : PySem.W.isClsIn K CBadEndless = true)
    (tc_BadEndless : PySem.W.typeIn K (.ref CBadEndless) = some (.type "type"))
    (sB_BadBlock : PySem.W.subIn K (.ref CBadBlock) (.type "BaseException") = some true)
    (ic_BadBlock : PySem.W.isClsIn K CBadBlock = true)
    (tc_BadBlock : PySem.W.typeIn K (.ref CBadBlock) = some (.type "type"))
    (sB_TooWide : PySem.W.subIn K (.ref CTooWide) (.type "BaseException") = some true)
    (ic_TooWide : PySem.W.isClsIn K CTooWide = true)
    (tc_TooWide : PySem.W.typeIn K (.ref CTooWide) = some (.type "type"))
    (ic_Scheme : PySem.W.isClsIn K CScheme = true)
    (tc_Scheme : PySem.W.typeIn K (.ref CScheme) = some (.type "type"))
    (ic_Endless : PySem.W.isClsIn K CEndless = true)
    (tc_Endless : PySem.W.typeIn K (.ref CEndless) = some (.type "type"))
    (ic_Block : PySem.W.isClsIn K CBlock = true)
    (tc_Block : PySem.W.typeIn K (.ref CBlock) = some (.type "type"))
    (xz_UnlikeSchemes : PySem.W.excIn K CUnlikeSchemes veB "ValueError.__new__" = true)
    (kc_UnlikeSchemes : PySem.W.keepIn K (.ref CUnlikeSchemes) = true)
    (ga_UnlikeSchemes : PySem.W.findIn K (.ref CUnlikeSchemes) "__getattribute__" = some (some (.builtin "BaseException.__getattribute__")))
    (gg_UnlikeSchemes : PySem.W.findIn K (.ref CUnlikeSchemes) "__getattr__" = some none)
    (hd_UnlikeSchemes : PySem.W.hasDictIn K CUnlikeSchemes = true)
    (ha_UnlikeSchemes : PySem.W.findIn K (.ref CUnlikeSchemes) "__class__" = some (some (.builtin "object.__class__")))
    (hm_UnlikeSchemes : PySem.W.mroIn K CUnlikeSchemes (.type "object") = some true)
    (x_BadScheme : K.lookup CBadScheme = some (excClassObj nm1 qn1 CBadScheme N1 bs1 bm1 true sn1 sub1 ab1 col1 dd1 m01 m11 m21 m31 m51 "ValueError.__new__"))
    (rf_BadScheme : PySem.HandSPX.refsVE bm1 = true)
    (sa_BadScheme : PySem.W.findIn K (.ref CBadScheme) "__setattr__" = some (some (.builtin "object.__setattr__")))
    (kc_BadScheme : PySem.W.keepIn K (.ref CBadScheme) = true)
    (nb_BadScheme : PySem.W.findIn K (.ref CBadScheme) "part" = some none)
    (ai_BadScheme : PySem.W.findIn K (.ref CBadScheme) "__init__" = some (some (.ref f1)))
    (ti_BadScheme : PySem.W.typeIn K (.ref f1) = some (.type "function"))
    (li_BadScheme : K.lookup f1 = some ⟨oc1, od1, .func (PySem.W.fnOf "__init__" "BadScheme.__init__" (defArgs s_BadScheme___init__) (defBody s_BadScheme___init__) (defScope s_BadScheme___init__) .none kV1 dc1 pm1 an1 cd1 ct1), sl1⟩)
    (ci_BadScheme : PySem.W.codeIn K cd1 "BadScheme.__init__" = true)
    (ki_BadScheme : PySem.W.keepIn K (.ref f1) = true)
    (ga_BadScheme : PySem.W.findIn K (.ref CBadScheme) "__getattribute__" = some (some (.builtin "BaseException.__getattribute__")))
    (gg_BadScheme : PySem.W.findIn K (.ref CBadScheme) "__getattr__" = some none)
    (hd_BadScheme : PySem.W.hasDictIn K CBadScheme = true)
    (ha_BadScheme : PySem.W.findIn K (.ref CBadScheme) "__class__" = some (some (.builtin "object.__class__")))
    (hm_BadScheme : PySem.W.mroIn K CBadScheme (.type "object") = some true)
    (x_BadColumn : K.lookup CBadColumn = some (excClassObj nm2 qn2 CBadColumn N2 bs2 bm2 true sn2 sub2 ab2 col2 dd2 m02 m12 m22 m32 m52 "ValueError.__new__"))
    (rf_BadColumn : PySem.HandSPX.refsVE bm2 = true)
    (sa_BadColumn : PySem.W.findIn K (.ref CBadColumn) "__setattr__" = some (some (.builtin "object.__setattr__")))
    (kc_BadColumn : PySem.W.keepIn K (.ref CBadColumn) = true)
    (nb_BadColumn : PySem.W.findIn K (.ref CBadColumn) "text" = some none)
    (ai_BadColumn : PySem.W.findIn K (.ref CBadColumn) "__init__" = some (some (.ref f2)))
    (ti_BadColumn : PySem.W.typeIn K (.ref f2) = some (.type "function"))
    (li_BadColumn : K.lookup f2 = some ⟨oc2, od2, .func (PySem.W.fnOf "__init__" "BadColumn.__init__" (defArgs s_BadColumn___init__) (defBody s_BadColumn___init__) (defScope s_BadColumn___init__) .none kV2 dc2 pm2 an2 cd2 ct2), sl2⟩)
    (ci_BadColumn : PySem.W.codeIn K cd2 "BadColumn.__init__" = true)
    (ki_BadColumn : PySem.W.keepIn K (.ref f2) = true)
    (ga_BadColumn : PySem.W.findIn K (.ref CBadColumn) "__getattribute__" = some (some (.builtin "BaseException.__getattribute__")))
    (gg_BadColumn : PySem.W.findIn K (.ref CBadColumn) "__getattr__" = some none)
    (hd_BadColumn : PySem.W.hasDictIn K CBadColumn = true)
    (ha_BadColumn : PySem.W.findIn K (.ref CBadColumn) "__class__" = some (some (.builtin "object.__class__")))
    (hm_BadColumn : PySem.W.mroIn K CBadColumn (.type "object") = some true)
    (x_BadSpots : K.lookup CBadSpots = some (excClassObj nm3 qn3 CBadSpots N3 bs3 bm3 true sn3 sub3 ab3 col3 dd3 m03 m13 m23 m33 m53 "ValueError.__new__"))
    (rf_BadSpots : PySem.HandSPX.refsVE bm3 = true)
    (sa_BadSpots : PySem.W.findIn K (.ref CBadSpots) "__setattr__" = some (some (.builtin "object.__setattr__")))
    (kc_BadSpots : PySem.W.keepIn K (.ref CBadSpots) = true)
    (nb_BadSpots : PySem.W.findIn K (.ref CBadSpots) "text" = some none)
    (ai_BadSpots : PySem.W.findIn K (.ref CBadSpots) "__init__" = some (some (.ref f3)))
    (ti_BadSpots : PySem.W.typeIn K (.ref f3) = some (.type "function"))
    (li_BadSpots : K.lookup f3 = some ⟨oc3, od3, .func (PySem.W.fnOf "__init__" "BadSpots.__init__" (defArgs s_BadSpots___init__) (defBody s_BadSpots___init__) (defScope s_BadSpots___init__) .none kV3 dc3 pm3 an3 cd3 ct3), sl3⟩)
    (ci_BadSpots : PySem.W.codeIn K cd3 "BadSpots.__init__" = true)
    (ki_BadSpots : PySem.W.keepIn K (.ref f3) = true)
    (ga_BadSpots : PySem.W.findIn K (.ref CBadSpots) "__getattribute__" = some (some (.builtin "BaseException.__getattribute__")))
    (gg_BadSpots : PySem.W.findIn K (.ref CBadSpots) "__getattr__" = some none)
    (hd_BadSpots : PySem.W.hasDictIn K CBadSpots = true)
    (ha_BadSpots : PySem.W.findIn K (.ref CBadSpots) "__class__" = some (some (.builtin "object.__class__")))
    (hm_BadSpots : PySem.W.mroIn K CBadSpots (.type "object") = some true)
    (x_BadStrip : K.lookup CBadStrip = some (excClassObj nm4 qn4 CBadStrip N4 bs4 bm4 true sn4 sub4 ab4 col4 dd4 m04 m14 m24 m34 m54 "ValueError.__new__"))
    (rf_BadStrip : PySem.HandSPX.refsVE bm4 = true)
    (sa_BadStrip : PySem.W.findIn K (.ref CBadStrip) "__setattr__" = some (some (.builtin "object.__setattr__")))
    (kc_BadStrip : PySem.W.keepIn K (.ref CBadStrip) = true)
    (nb_BadStrip : PySem.W.findIn K (.ref CBadStrip) "text" = some none)
    (ai_BadStrip : PySem.W.findIn K (.ref CBadStrip) "__init__" = some (some (.ref f4)))
    (ti_BadStrip : PySem.W.typeIn K (.ref f4) = some (.type "function"))
    (li_BadStrip : K.lookup f4 = some ⟨oc4, od4, .func (PySem.W.fnOf "__init__" "BadStrip.__init__" (defArgs s_BadStrip___init__) (defBody s_BadStrip___init__) (defScope s_BadStrip___init__) .none kV4 dc4 pm4 an4 cd4 ct4), sl4⟩)
    (ci_BadStrip : PySem.W.codeIn K cd4 "BadStrip.__init__" = true)
    (ki_BadStrip : PySem.W.keepIn K (.ref f4) = true)
    (ga_BadStrip : PySem.W.findIn K (.ref CBadStrip) "__getattribute__" = some (some (.builtin "BaseException.__getattribute__")))
    (gg_BadStrip : PySem.W.findIn K (.ref CBadStrip) "__getattr__" = some none)
    (hd_BadStrip : PySem.W.hasDictIn K CBadStrip = true)
    (ha_BadStrip : PySem.W.findIn K (.ref CBadStrip) "__class__" = some (some (.builtin "object.__class__")))
    (hm_BadStrip : PySem.W.mroIn K CBadStrip (.type "object") = some true)
    (x_BadEndless : K.lookup CBadEndless = some (excClassObj nm5 qn5 CBadEndless N5 bs5 bm5 true sn5 sub5 ab5 col5 dd5 m05 m15 m25 m35 m55 "ValueError.__new__"))
    (rf_BadEndless : PySem.HandSPX.refsVE bm5 = true)
    (sa_BadEndless : PySem.W.findIn K (.ref CBadEndless) "__setattr__" = some (some (.builtin "object.__setattr__")))
    (kc_BadEndless : PySem.W.keepIn K (.ref CBadEndless) = true)
    (nb_BadEndless : PySem.W.findIn K (.ref CBadEndless) "part" = some none)
    (ai_BadEndless : PySem.W.findIn K (.ref CBadEndless) "__init__" = some (some (.ref f5)))
    (ti_BadEndless : PySem.W.typeIn K (.ref f5) = some (.type "function"))
    (li_BadEndless : K.lookup f5 = some ⟨oc5, od5, .func (PySem.W.fnOf "__init__" "BadEndless.__init__" (defArgs s_BadEndless___init__) (defBody s_BadEndless___init__) (defScope s_BadEndless___init__) .none kV5 dc5 pm5 an5 cd5 ct5), sl5⟩)
    (ci_BadEndless : PySem.W.codeIn K cd5 "BadEndless.__init__" = true)
    (ki_BadEndless : PySem.W.keepIn K (.ref f5) = true)
    (ga_BadEndless : PySem.W.findIn K (.ref CBadEndless) "__getattribute__" = some (some (.builtin "BaseException.__getattribute__")))
    (gg_BadEndless : PySem.W.findIn K (.ref CBadEndless) "__getattr__" = some none)
    (hd_BadEndless : PySem.W.hasDictIn K CBadEndless = true)
    (ha_BadEndless : PySem.W.findIn K (.ref CBadEndless) "__class__" = some (some (.builtin "object.__class__")))
    (hm_BadEndless : PySem.W.mroIn K CBadEndless (.type "object") = some true)
    (x_BadBlock : K.lookup CBadBlock = some (excClassObj nm6 qn6 CBadBlock N6 bs6 bm6 true sn6 sub6 ab6 col6 dd6 m06 m16 m26 m36 m56 "ValueError.__new__"))
    (rf_BadBlock : PySem.HandSPX.refsVE bm6 = true)
    (sa_BadBlock : PySem.W.findIn K (.ref CBadBlock) "__setattr__" = some (some (.builtin "object.__setattr__")))
    (kc_BadBlock : PySem.W.keepIn K (.ref CBadBlock) = true)
    (nb_BadBlock : PySem.W.findIn K (.ref CBadBlock) "part" = some none)
    (ai_BadBlock : PySem.W.findIn K (.ref CBadBlock) "__init__" = some (some (.ref f6)))
    (ti_BadBlock : PySem.W.typeIn K (.ref f6) = some (.type "function"))
    (li_BadBlock : K.lookup f6 = some ⟨oc6, od6, .func (PySem.W.fnOf "__init__" "BadBlock.__init__" (defArgs s_BadBlock___init__) (defBody s_BadBlock___init__) (defScope s_BadBlock___init__) .none kV6 dc6 pm6 an6 cd6 ct6), sl6⟩)
    (ci_BadBlock : PySem.W.codeIn K cd6 "BadBlock.__init__" = true)
    (ki_BadBlock : PySem.W.keepIn K (.ref f6) = true)
    (ga_BadBlock : PySem.W.findIn K (.ref CBadBlock) "__getattribute__" = some (some (.builtin "BaseException.__getattribute__")))
    (gg_BadBlock : PySem.W.findIn K (.ref CBadBlock) "__getattr__" = some none)
    (hd_BadBlock : PySem.W.hasDictIn K CBadBlock = true)
    (ha_BadBlock : PySem.W.findIn K (.ref CBadBlock) "__class__" = some (some (.builtin "object.__class__")))
    (hm_BadBlock : PySem.W.mroIn K CBadBlock (.type "object") = some true)
    (xz_TooWide : PySem.W.excIn K CTooWide veB "ValueError.__new__" = true)
    (kc_TooWide : PySem.W.keepIn K (.ref CTooWide) = true)
    (ga_TooWide : PySem.W.findIn K (.ref CTooWide) "__getattribute__" = some (some (.builtin "BaseException.__getattribute__")))
    (gg_TooWide : PySem.W.findIn K (.ref CTooWide) "__getattr__" = some none)
    (hd_TooWide : PySem.W.hasDictIn K CTooWide = true)
    (ha_TooWide : PySem.W.findIn K (.ref CTooWide) "__class__" = some (some (.builtin "object.__class__")))
    (hm_TooWide : PySem.W.mroIn K CTooWide (.type "object") = some true)
    (pg_Scheme : PySem.W.plainGet K CScheme Str.empty = true)
    (hd_Scheme : PySem.W.hasDictIn K CScheme = true)
    (po_Scheme : PySem.W.plainOver K CScheme = true)
    (sa_Scheme : PySem.W.findIn K (.ref CScheme) "__setattr__" = some (some (.builtin "object.__setattr__")))
    (mk_Scheme : PySem.W.makesIn K CScheme = true)
    (kc_Scheme : PySem.W.keepIn K (.ref CScheme) = true)
    (am_Scheme___init__ : PySem.W.findIn K (.ref CScheme) "__init__" = some (some (.ref f7)))
    (im_Scheme___init__ : PySem.W.isFn K (.ref f7) = true)
    (lm_Scheme___init__ : K.lookup f7 = some ⟨oc7, od7, .func (PySem.W.fnOf "__init__" "Scheme.__init__" (defArgs s_Scheme___init__) (defBody s_Scheme___init__) (defScope s_Scheme___init__) .none kV7 dc7 pm7 an7 cd7 ct7), sl7⟩)
    (cm_Scheme___init__ : PySem.W.codeIn K cd7 "Scheme.__init__" = true)
    (km_Scheme___init__ : PySem.W.keepIn K (.ref f7) = true)
    (am_Scheme___eq__ : PySem.W.findIn K (.ref CScheme) "__eq__" = some (some (.ref f8)))
    (im_Scheme___eq__ : PySem.W.isFn K (.ref f8) = true)
    (lm_Scheme___eq__ : K.lookup f8 = some ⟨oc8, od8, .func (PySem.W.fnOf "__eq__" "Scheme.__eq__" (defArgs s_Scheme___eq__) (defBody s_Scheme___eq__) (defScope s_Scheme___eq__) .none kV8 dc8 pm8 an8 cd8 ct8), sl8⟩)
    (cm_Scheme___eq__ : PySem.W.codeIn K cd8 "Scheme.__eq__" = true)
    (km_Scheme___eq__ : PySem.W.keepIn K (.ref f8) = true)
    (am_Scheme___len__ : PySem.W.findIn K (.ref CScheme) "__len__" = some (some (.ref f9)))
    (im_Scheme___len__ : PySem.W.isFn K (.ref f9) = true)
    (lm_Scheme___len__ : K.lookup f9 = some ⟨oc9, od9, .func (PySem.W.fnOf "__len__" "Scheme.__len__" (defArgs s_Scheme___len__) (defBody s_Scheme___len__) (defScope s_Scheme___len__) .none kV9 dc9 pm9 an9 cd9 ct9), sl9⟩)
    (cm_Scheme___len__ : PySem.W.codeIn K cd9 "Scheme.__len__" = true)
    (km_Scheme___len__ : PySem.W.keepIn K (.ref f9) = true)
    (am_Scheme_is_column : PySem.W.findIn K (.ref CScheme) "is_column" = some (some (.ref f10)))
    (im_Scheme_is_column : PySem.W.isFn K (.ref f10) = true)
    (lm_Scheme_is_column : K.lookup f10 = some ⟨oc10, od10, .func (PySem.W.fnOf "is_column" "Scheme.is_column" (defArgs s_Scheme_is_column) (defBody s_Scheme_is_column) (defScope s_Scheme_is_column) .none kV10 dc10 pm10 an10 cd10 ct10), sl10⟩)
    (cm_Scheme_is_column : PySem.W.codeIn K cd10 "Scheme.is_column" = true)
    (km_Scheme_is_column : PySem.W.keepIn K (.ref f10) = true)
    (am_Scheme_is_colour : PySem.W.findIn K (.ref CScheme) "is_colour" = some (some (.ref f11)))
    (im_Scheme_is_colour : PySem.W.isFn K (.ref f11) = true)
    (lm_Scheme_is_colour : K.lookup f11 = some ⟨oc11, od11, .func (PySem.W.fnOf "is_colour" "Scheme.is_colour" (defArgs s_Scheme_is_colour) (defBody s_Scheme_is_colour) (defScope s_Scheme_is_colour) .none kV11 dc11 pm11 an11 cd11 ct11), sl11⟩)
    (cm_Scheme_is_colour : PySem.W.codeIn K cd11 "Scheme.is_colour" = true)
    (km_Scheme_is_colour : PySem.W.keepIn K (.ref f11) = true)
    (am_Scheme_is_strip : PySem.W.findIn K (.ref CScheme) "is_strip" = some (some (.ref f12)))
    (im_Scheme_is_strip : PySem.W.isFn K (.ref f12) = true)
    (lm_Scheme_is_strip : K.lookup f12 = some ⟨oc12, od12, .func (PySem.W.fnOf "is_strip" "Scheme.is_strip" (defArgs s_Scheme_is_strip) (defBody s_Scheme_is_strip) (defScope s_Scheme_is_strip) .none kV12 dc12 pm12 an12 cd12 ct12), sl12⟩)
    (cm_Scheme_is_strip : PySem.W.codeIn K cd12 "Scheme.is_strip" = true)
    (km_Scheme_is_strip : PySem.W.keepIn K (.ref f12) = true)
    (am_Scheme_check : PySem.W.findIn K (.ref CScheme) "check" = some (some (.ref f13)))
    (im_Scheme_check : PySem.W.isFn K (.ref f13) = true)
    (lm_Scheme_check : K.lookup f13 = some ⟨oc13, od13, .func (PySem.W.fnOf "check" "Scheme.check" (defArgs s_Scheme_check) (defBody s_Scheme_check) (defScope s_Scheme_check) .none kV13 dc13 pm13 an13 cd13 ct13), sl13⟩)
    (cm_Scheme_check : PySem.W.codeIn K cd13 "Scheme.check" = true)
    (km_Scheme_check : PySem.W.keepIn K (.ref f13) = true)
    (pg_Endless : PySem.W.plainGet K CEndless Str.empty = true)
    (hd_Endless : PySem.W.hasDictIn K CEndless = true)
    (po_Endless : PySem.W.plainOver K CEndless = true)
    (sa_Endless : PySem.W.findIn K (.ref CEndless) "__setattr__" = some (some (.builtin "object.__setattr__")))
    (mk_Endless : PySem.W.makesIn K CEndless = true)
    (kc_Endless : PySem.W.keepIn K (.ref CEndless) = true)
    (am_Endless___init__ : PySem.W.findIn K (.ref CEndless) "__init__" = some (some (.ref f14)))
    (im_Endless___init__ : PySem.W.isFn K (.ref f14) = true)
    (lm_Endless___init__ : K.lookup f14 = some ⟨oc14, od14, .func (PySem.W.fnOf "__init__" "Endless.__init__" (defArgs s_Endless___init__) (defBody s_Endless___init__) (defScope s_Endless___init__) .none (.ref D14) dc14 pm14 an14 cd14 ct14), sl14⟩)
    (cm_Endless___init__ : PySem.W.codeIn K cd14 "Endless.__init__" = true)
    (km_Endless___init__ : PySem.W.keepIn K (.ref f14) = true)
    (kw14_start : PySem.W.nsIn K D14 "start" = some (some (.int 0 tw14_start)))
    (am_Endless___eq__ : PySem.W.findIn K (.ref CEndless) "__eq__" = some (some (.ref f15)))
    (im_Endless___eq__ : PySem.W.isFn K (.ref f15) = true)
    (lm_Endless___eq__ : K.lookup f15 = some ⟨oc15, od15, .func (PySem.W.fnOf "__eq__" "Endless.__eq__" (defArgs s_Endless___eq__) (defBody s_Endless___eq__) (defScope s_Endless___eq__) .none kV15 dc15 pm15 an15 cd15 ct15), sl15⟩)
    (cm_Endless___eq__ : PySem.W.codeIn K cd15 "Endless.__eq__" = true)
    (km_Endless___eq__ : PySem.W.keepIn K (.ref f15) = true)
    (am_Endless_column_at : PySem.W.findIn K (.ref CEndless) "column_at" = some (some (.ref f16)))
    (im_Endless_column_at : PySem.W.isFn K (.ref f16) = true)
    (lm_Endless_column_at : K.lookup f16 = some ⟨oc16, od16, .func (PySem.W.fnOf "column_at" "Endless.column_at" (defArgs s_Endless_column_at) (defBody s_Endless_column_at) (defScope s_Endless_column_at) .none kV16 dc16 pm16 an16 cd16 ct16), sl16⟩)
    (cm_Endless_column_at : PySem.W.codeIn K cd16 "Endless.column_at" = true)
    (km_Endless_column_at : PySem.W.keepIn K (.ref f16) = true)
    (am_Endless_window : PySem.W.findIn K (.ref CEndless) "window" = some (some (.ref f17)))
    (im_Endless_window : PySem.W.isFn K (.ref f17) = true)
    (lm_Endless_window : K.lookup f17 = some ⟨oc17, od17, .func (PySem.W.fnOf "window" "Endless.window" (defArgs s_Endless_window) (defBody s_Endless_window) (defScope s_Endless_window) .none kV17 dc17 pm17 an17 cd17 ct17), sl17⟩)
    (cm_Endless_window : PySem.W.codeIn K cd17 "Endless.window" = true)
    (km_Endless_window : PySem.W.keepIn K (.ref f17) = true)
    (am_Endless_moved : PySem.W.findIn K (.ref CEndless) "moved" = some (some (.ref f18)))
    (im_Endless_moved : PySem.W.isFn K (.ref f18) = true)
    (lm_Endless_moved : K.lookup f18 = some ⟨oc18, od18, .func (PySem.W.fnOf "moved" "Endless.moved" (defArgs s_Endless_moved) (defBody s_Endless_moved) (defScope s_Endless_moved) .none kV18 dc18 pm18 an18 cd18 ct18), sl18⟩)
    (cm_Endless_moved : PySem.W.codeIn K cd18 "Endless.moved" = true)
    (km_Endless_moved : PySem.W.keepIn K (.ref f18) = true)
    (pg_Block : PySem.W.plainGet K CBlock Str.empty = true)
    (hd_Block : PySem.W.hasDictIn K CBlock = true)
    (po_Block : PySem.W.plainOver K CBlock = true)
    (sa_Block : PySem.W.findIn K (.ref CBlock) "__setattr__" = some (some (.builtin "object.__setattr__")))
    (mk_Block : PySem.W.makesIn K CBlock = true)
    (kc_Block : PySem.W.keepIn K (.ref CBlock) = true)
    (am_Block___init__ : PySem.W.findIn K (.ref CBlock) "__init__" = some (some (.ref f19)))
    (im_Block___init__ : PySem.W.isFn K (.ref f19) = true)
    (lm_Block___init__ : K.lookup f19 = some ⟨oc19, od19, .func (PySem.W.fnOf "__init__" "Block.__init__" (defArgs s_Block___init__) (defBody s_Block___init__) (defScope s_Block___init__) .none kV19 dc19 pm19 an19 cd19 ct19), sl19⟩)
    (cm_Block___init__ : PySem.W.codeIn K cd19 "Block.__init__" = true)
    (km_Block___init__ : PySem.W.keepIn K (.ref f19) = true)
    (cg_Block_identity : PySem.W.findCls K (.ref CBlock) (.type "type") "identity" = some (.get (.builtin "classmethod.__get__") (.ref p20) .none (.ref CBlock)))
    (cr_Block_identity : PySem.W.recIn K p20 "classmethod" = some (.ref f20 :: rs20))
    (cf_Block_identity : PySem.W.fnIn K f20 = true)
    (lm_Block_identity : K.lookup f20 = some ⟨oc20, od20, .func (PySem.W.fnOf "identity" "Block.identity" (defArgs s_Block_identity) (defBody s_Block_identity) (defScope s_Block_identity) .none kV20 dc20 pm20 an20 cd20 ct20), sl20⟩)
    (cm_Block_identity : PySem.W.codeIn K cd20 "Block.identity" = true)
    (km_Block_identity : PySem.W.keepIn K (.ref f20) = true)
    (cg_Block_shift : PySem.W.findCls K (.ref CBlock) (.type "type") "shift" = some (.get (.builtin "classmethod.__get__") (.ref p21) .none (.ref CBlock)))
    (cr_Block_shift : PySem.W.recIn K p21 "classmethod" = some (.ref f21 :: rs21))
    (cf_Block_shift : PySem.W.fnIn K f21 = true)
    (lm_Block_shift : K.lookup f21 = some ⟨oc21, od21, .func (PySem.W.fnOf "shift" "Block.shift" (defArgs s_Block_shift) (defBody s_Block_shift) (defScope s_Block_shift) .none kV21 dc21 pm21 an21 cd21 ct21), sl21⟩)
    (cm_Block_shift : PySem.W.codeIn K cd21 "Block.shift" = true)
    (km_Block_shift : PySem.W.keepIn K (.ref f21) = true)
    (am_Block___call__ : PySem.W.findIn K (.ref CBlock) "__call__" = some (some (.ref f22)))
    (im_Block___call__ : PySem.W.isFn K (.ref f22) = true)
    (lm_Block___call__ : K.lookup f22 = some ⟨oc22, od22, .func (PySem.W.fnOf "__call__" "Block.__call__" (defArgs s_Block___call__) (defBody s_Block___call__) (defScope s_Block___call__) .none kV22 dc22 pm22 an22 cd22 ct22), sl22⟩)
    (cm_Block___call__ : PySem.W.codeIn K cd22 "Block.__call__" = true)
    (km_Block___call__ : PySem.W.keepIn K (.ref f22) = true)
    (am_Block___eq__ : PySem.W.findIn K (.ref CBlock) "__eq__" = some (some (.ref f23)))
    (im_Block___eq__ : PySem.W.isFn K (.ref f23) = true)
    (lm_Block___eq__ : K.lookup f23 = some ⟨oc23, od23, .func (PySem.W.fnOf "__eq__" "Block.__eq__" (defArgs s_Block___eq__) (defBody s_Block___eq__) (defScope s_Block___eq__) .none kV23 dc23 pm23 an23 cd23 ct23), sl23⟩)
    (cm_Block___eq__ : PySem.W.codeIn K cd23 "Block.__eq__" = true)
    (km_Block___eq__ : PySem.W.keepIn K (.ref f23) = true)
    (am_Block___mul__ : PySem.W.findIn K (.ref CBlock) "__mul__" = some (some (.ref f24)))
    (im_Block___mul__ : PySem.W.isFn K (.ref f24) = true)
    (lm_Block___mul__ : K.lookup f24 = some ⟨oc24, od24, .func (PySem.W.fnOf "__mul__" "Block.__mul__" (defArgs s_Block___mul__) (defBody s_Block___mul__) (defScope s_Block___mul__) .none kV24 dc24 pm24 an24 cd24 ct24), sl24⟩)
    (cm_Block___mul__ : PySem.W.codeIn K cd24 "Block.__mul__" = true)
    (km_Block___mul__ : PySem.W.keepIn K (.ref f24) = true)
    (am_Block_inner : PySem.W.findIn K (.ref CBlock) "inner" = some (some (.ref f25)))
    (im_Block_inner : PySem.W.isFn K (.ref f25) = true)
    (lm_Block_inner : K.lookup f25 = some ⟨oc25, od25, .func (PySem.W.fnOf "inner" "Block.inner" (defArgs s_Block_inner) (defBody s_Block_inner) (defScope s_Block_inner) .none kV25 dc25 pm25 an25 cd25 ct25), sl25⟩)
    (cm_Block_inner : PySem.W.codeIn K cd25 "Block.inner" = true)
    (km_Block_inner : PySem.W.keepIn K (.ref f25) = true)
    (am_Block_around : PySem.W.findIn K (.ref CBlock) "around" = some (some (.ref f26)))
    (im_Block_around : PySem.W.isFn K (.ref f26) = true)
    (lm_Block_around : K.lookup f26 = some ⟨oc26, od26, .func (PySem.W.fnOf "around" "Block.around" (defArgs s_Block_around) (defBody s_Block_around) (defScope s_Block_around) .none kV26 dc26 pm26 an26 cd26 ct26), sl26⟩)
    (cm_Block_around : PySem.W.codeIn K cd26 "Block.around" = true)
    (km_Block_around : PySem.W.keepIn K (.ref f26) = true)
    (am_Block_mirrored : PySem.W.findIn K (.ref CBlock) "mirrored" = some (some (.ref f27)))
    (im_Block_mirrored : PySem.W.isFn K (.ref f27) = true)
    (lm_Block_mirrored : K.lookup f27 = some ⟨oc27, od27, .func (PySem.W.fnOf "mirrored" "Block.mirrored" (defArgs s_Block_mirrored) (defBody s_Block_mirrored) (defScope s_Block_mirrored) .none kV27 dc27 pm27 an27 cd27 ct27), sl27⟩)
    (cm_Block_mirrored : PySem.W.codeIn K cd27 "Block.mirrored" = true)
    (km_Block_mirrored : PySem.W.keepIn K (.ref f27) = true)
    (am_Block__made : PySem.W.findIn K (.ref CBlock) "_made" = some (some (.ref f28)))
    (im_Block__made : PySem.W.isFn K (.ref f28) = true)
    (lm_Block__made : K.lookup f28 = some ⟨oc28, od28, .func (PySem.W.fnOf "_made" "Block._made" (defArgs s_Block__made) (defBody s_Block__made) (defScope s_Block__made) .none kV28 dc28 pm28 an28 cd28 ct28), sl28⟩)
    (cm_Block__made : PySem.W.codeIn K cd28 "Block._made" = true)
    (km_Block__made : PySem.W.keepIn K (.ref f28) = true)
    (ad_check_alike : PySem.W.nsIn K mainGlobals "check_alike" = some (some (.ref f29)))
    (ld_check_alike : K.lookup f29 = some ⟨oc29, od29, .func (PySem.W.fnOf "check_alike" "check_alike" (defArgs s_check_alike) (defBody s_check_alike) (defScope s_check_alike) .none kV29 dc29 pm29 an29 cd29 ct29), sl29⟩)
    (cd_check_alike : PySem.W.codeIn K cd29 "check_alike" = true)
    (kd_check_alike : PySem.W.keepIn K (.ref f29) = true)
    (ad_endless_apart : PySem.W.nsIn K mainGlobals "endless_apart" = some (some (.ref f30)))
    (ld_endless_apart : K.lookup f30 = some ⟨oc30, od30, .func (PySem.W.fnOf "endless_apart" "endless_apart" (defArgs s_endless_apart) (defBody s_endless_apart) (defScope s_endless_apart) .none kV30 dc30 pm30 an30 cd30 ct30), sl30⟩)
    (cd_endless_apart : PySem.W.codeIn K cd30 "endless_apart" = true)
    (kd_endless_apart : PySem.W.keepIn K (.ref f30) = true)
    (ad_is_loop : PySem.W.nsIn K mainGlobals "_is_loop" = some (some (.ref f31)))
    (ld_is_loop : K.lookup f31 = some ⟨oc31, od31, .func (PySem.W.fnOf "_is_loop" "_is_loop" (defArgs s_is_loop) (defBody s_is_loop) (defScope s_is_loop) .none kV31 dc31 pm31 an31 cd31 ct31), sl31⟩)
    (cd_is_loop : PySem.W.codeIn K cd31 "_is_loop" = true)
    (kd_is_loop : PySem.W.keepIn K (.ref f31) = true)
    (ad_apart : PySem.W.nsIn K mainGlobals "_apart" = some (some (.ref f32)))
    (ld_apart : K.lookup f32 = some ⟨oc32, od32, .func (PySem.W.fnOf "_apart" "_apart" (defArgs s_apart) (defBody s_apart) (defScope s_apart) .none kV32 dc32 pm32 an32 cd32 ct32), sl32⟩)
    (cd_apart : PySem.W.codeIn K cd32 "_apart" = true)
    (kd_apart : PySem.W.keepIn K (.ref f32) = true)
    (ad_is_narrow : PySem.W.nsIn K mainGlobals "is_narrow" = some (some (.ref f33)))
    (ld_is_narrow : K.lookup f33 = some ⟨oc33, od33, .func (PySem.W.fnOf "is_narrow" "is_narrow" (defArgs s_is_narrow) (defBody s_is_narrow) (defScope s_is_narrow) .none kV33 dc33 pm33 an33 cd33 ct33), sl33⟩)
    (cd_is_narrow : PySem.W.codeIn K cd33 "is_narrow" = true)
    (kd_is_narrow : PySem.W.keepIn K (.ref f33) = true)
    (ad_words_of : PySem.W.nsIn K mainGlobals "words_of" = some (some (.ref f34)))
    (ld_words_of : K.lookup f34 = some ⟨oc34, od34, .func (PySem.W.fnOf "words_of" "words_of" (defArgs s_words_of) (defBody s_words_of) (defScope s_words_of) .none kV34 dc34 pm34 an34 cd34 ct34), sl34⟩)
    (cd_words_of : PySem.W.codeIn K cd34 "words_of" = true)
    (kd_words_of : PySem.W.keepIn K (.ref f34) = true)
    (ad_least_form : PySem.W.nsIn K mainGlobals "_least_form" = some (some (.ref f35)))
    (ld_least_form : K.lookup f35 = some ⟨oc35, od35, .func (PySem.W.fnOf "_least_form" "_least_form" (defArgs s_least_form) (defBody s_least_form) (defScope s_least_form) .none kV35 dc35 pm35 an35 cd35 ct35), sl35⟩)
    (cd_least_form : PySem.W.codeIn K cd35 "_least_form" = true)
    (kd_least_form : PySem.W.keepIn K (.ref f35) = true)
    (ad_is_blind : PySem.W.nsIn K mainGlobals "_is_blind" = some (some (.ref f36)))
    (ld_is_blind : K.lookup f36 = some ⟨oc36, od36, .func (PySem.W.fnOf "_is_blind" "_is_blind" (defArgs s_is_blind) (defBody s_is_blind) (defScope s_is_blind) .none kV36 dc36 pm36 an36 cd36 ct36), sl36⟩)
    (cd_is_blind : PySem.W.codeIn K cd36 "_is_blind" = true)
    (kd_is_blind : PySem.W.keepIn K (.ref f36) = true)
    (ad_law_source : PySem.W.nsIn K mainGlobals "_law_source" = some (some (.ref f37)))
    (ld_law_source : K.lookup f37 = some ⟨oc37, od37, .func (PySem.W.fnOf "_law_source" "_law_source" (defArgs s_law_source) (defBody s_law_source) (defScope s_law_source) .none kV37 dc37 pm37 an37 cd37 ct37), sl37⟩)
    (cd_law_source : PySem.W.codeIn K cd37 "_law_source" = true)
    (kd_law_source : PySem.W.keepIn K (.ref f37) = true)
    (ad_law_draw : PySem.W.nsIn K mainGlobals "_law_draw" = some (some (.ref f38)))
    (ld_law_draw : K.lookup f38 = some ⟨oc38, od38, .func (PySem.W.fnOf "_law_draw" "_law_draw" (defArgs s_law_draw) (defBody s_law_draw) (defScope s_law_draw) .none kV38 dc38 pm38 an38 cd38 ct38), sl38⟩)
    (cd_law_draw : PySem.W.codeIn K cd38 "_law_draw" = true)
    (kd_law_draw : PySem.W.keepIn K (.ref f38) = true)
    (ad_law_strip : PySem.W.nsIn K mainGlobals "_law_strip" = some (some (.ref f39)))
    (ld_law_strip : K.lookup f39 = some ⟨oc39, od39, .func (PySem.W.fnOf "_law_strip" "_law_strip" (defArgs s_law_strip) (defBody s_law_strip) (defScope s_law_strip) .none kV39 dc39 pm39 an39 cd39 ct39), sl39⟩)
    (cd_law_strip : PySem.W.codeIn K cd39 "_law_strip" = true)
    (kd_law_strip : PySem.W.keepIn K (.ref f39) = true)
    (ad_law_is_integer : PySem.W.nsIn K mainGlobals "_law_is_integer" = some (some (.ref f40)))
    (ld_law_is_integer : K.lookup f40 = some ⟨oc40, od40, .func (PySem.W.fnOf "_law_is_integer" "_law_is_integer" (defArgs s_law_is_integer) (defBody s_law_is_integer) (defScope s_law_is_integer) .none kV40 dc40 pm40 an40 cd40 ct40), sl40⟩)
    (cd_law_is_integer : PySem.W.codeIn K cd40 "_law_is_integer" = true)
    (kd_law_is_integer : PySem.W.keepIn K (.ref f40) = true)
    (ad_law_windows : PySem.W.nsIn K mainGlobals "_law_windows" = some (some (.ref f41)))
    (ld_law_windows : K.lookup f41 = some ⟨oc41, od41, .func (PySem.W.fnOf "_law_windows" "_law_windows" (defArgs s_law_windows) (defBody s_law_windows) (defScope s_law_windows) .none kV41 dc41 pm41 an41 cd41 ct41), sl41⟩)
    (cd_law_windows : PySem.W.codeIn K cd41 "_law_windows" = true)
    (kd_law_windows : PySem.W.keepIn K (.ref f41) = true)
    (ad_law_table : PySem.W.nsIn K mainGlobals "_law_table" = some (some (.ref f42)))
    (ld_law_table : K.lookup f42 = some ⟨oc42, od42, .func (PySem.W.fnOf "_law_table" "_law_table" (defArgs s_law_table) (defBody s_law_table) (defScope s_law_table) .none kV42 dc42 pm42 an42 cd42 ct42), sl42⟩)
    (cd_law_table : PySem.W.codeIn K cd42 "_law_table" = true)
    (kd_law_table : PySem.W.keepIn K (.ref f42) = true)
    (ad_law_shuffled : PySem.W.nsIn K mainGlobals "_law_shuffled" = some (some (.ref f43)))
    (ld_law_shuffled : K.lookup f43 = some ⟨oc43, od43, .func (PySem.W.fnOf "_law_shuffled" "_law_shuffled" (defArgs s_law_shuffled) (defBody s_law_shuffled) (defScope s_law_shuffled) .none kV43 dc43 pm43 an43 cd43 ct43), sl43⟩)
    (cd_law_shuffled : PySem.W.codeIn K cd43 "_law_shuffled" = true)
    (kd_law_shuffled : PySem.W.keepIn K (.ref f43) = true)
    (ad_law_permuted : PySem.W.nsIn K mainGlobals "_law_permuted" = some (some (.ref f44)))
    (ld_law_permuted : K.lookup f44 = some ⟨oc44, od44, .func (PySem.W.fnOf "_law_permuted" "_law_permuted" (defArgs s_law_permuted) (defBody s_law_permuted) (defScope s_law_permuted) .none kV44 dc44 pm44 an44 cd44 ct44), sl44⟩)
    (cd_law_permuted : PySem.W.codeIn K cd44 "_law_permuted" = true)
    (kd_law_permuted : PySem.W.keepIn K (.ref f44) = true)
    (ad_law_results : PySem.W.nsIn K mainGlobals "_law_results" = some (some (.ref f45)))
    (ld_law_results : K.lookup f45 = some ⟨oc45, od45, .func (PySem.W.fnOf "_law_results" "_law_results" (defArgs s_law_results) (defBody s_law_results) (defScope s_law_results) .none kV45 dc45 pm45 an45 cd45 ct45), sl45⟩)
    (cd_law_results : PySem.W.codeIn K cd45 "_law_results" = true)
    (kd_law_results : PySem.W.keepIn K (.ref f45) = true)
    (ad_law_inner : PySem.W.nsIn K mainGlobals "_law_inner" = some (some (.ref f46)))
    (ld_law_inner : K.lookup f46 = some ⟨oc46, od46, .func (PySem.W.fnOf "_law_inner" "_law_inner" (defArgs s_law_inner) (defBody s_law_inner) (defScope s_law_inner) .none kV46 dc46 pm46 an46 cd46 ct46), sl46⟩)
    (cd_law_inner : PySem.W.codeIn K cd46 "_law_inner" = true)
    (kd_law_inner : PySem.W.keepIn K (.ref f46) = true)
    (ad_law_around : PySem.W.nsIn K mainGlobals "_law_around" = some (some (.ref f47)))
    (ld_law_around : K.lookup f47 = some ⟨oc47, od47, .func (PySem.W.fnOf "_law_around" "_law_around" (defArgs s_law_around) (defBody s_law_around) (defScope s_law_around) .none kV47 dc47 pm47 an47 cd47 ct47), sl47⟩)
    (cd_law_around : PySem.W.codeIn K cd47 "_law_around" = true)
    (kd_law_around : PySem.W.keepIn K (.ref f47) = true)
    (ad_law_least : PySem.W.nsIn K mainGlobals "_law_least" = some (some (.ref f48)))
    (ld_law_least : K.lookup f48 = some ⟨oc48, od48, .func (PySem.W.fnOf "_law_least" "_law_least" (defArgs s_law_least) (defBody s_law_least) (defScope s_law_least) .none kV48 dc48 pm48 an48 cd48 ct48), sl48⟩)
    (cd_law_least : PySem.W.codeIn K cd48 "_law_least" = true)
    (kd_law_least : PySem.W.keepIn K (.ref f48) = true)
    (ad_law_joined : PySem.W.nsIn K mainGlobals "_law_joined" = some (some (.ref f49)))
    (ld_law_joined : K.lookup f49 = some ⟨oc49, od49, .func (PySem.W.fnOf "_law_joined" "_law_joined" (defArgs s_law_joined) (defBody s_law_joined) (defScope s_law_joined) .none kV49 dc49 pm49 an49 cd49 ct49), sl49⟩)
    (cd_law_joined : PySem.W.codeIn K cd49 "_law_joined" = true)
    (kd_law_joined : PySem.W.keepIn K (.ref f49) = true)
    (ad_law_power : PySem.W.nsIn K mainGlobals "_law_power" = some (some (.ref f50)))
    (ld_law_power : K.lookup f50 = some ⟨oc50, od50, .func (PySem.W.fnOf "_law_power" "_law_power" (defArgs s_law_power) (defBody s_law_power) (defScope s_law_power) .none kV50 dc50 pm50 an50 cd50 ct50), sl50⟩)
    (cd_law_power : PySem.W.codeIn K cd50 "_law_power" = true)
    (kd_law_power : PySem.W.keepIn K (.ref f50) = true)
    (ad_law_column : PySem.W.nsIn K mainGlobals "_law_column" = some (some (.ref f51)))
    (ld_law_column : K.lookup f51 = some ⟨oc51, od51, .func (PySem.W.fnOf "_law_column" "_law_column" (defArgs s_law_column) (defBody s_law_column) (defScope s_law_column) .none kV51 dc51 pm51 an51 cd51 ct51), sl51⟩)
    (cd_law_column : PySem.W.codeIn K cd51 "_law_column" = true)
    (kd_law_column : PySem.W.keepIn K (.ref f51) = true)
    (ad_law_text : PySem.W.nsIn K mainGlobals "_law_text" = some (some (.ref f52)))
    (ld_law_text : K.lookup f52 = some ⟨oc52, od52, .func (PySem.W.fnOf "_law_text" "_law_text" (defArgs s_law_text) (defBody s_law_text) (defScope s_law_text) .none kV52 dc52 pm52 an52 cd52 ct52), sl52⟩)
    (cd_law_text : PySem.W.codeIn K cd52 "_law_text" = true)
    (kd_law_text : PySem.W.keepIn K (.ref f52) = true)
    (ad_law_made : PySem.W.nsIn K mainGlobals "_law_made" = some (some (.ref f53)))
    (ld_law_made : K.lookup f53 = some ⟨oc53, od53, .func (PySem.W.fnOf "_law_made" "_law_made" (defArgs s_law_made) (defBody s_law_made) (defScope s_law_made) .none kV53 dc53 pm53 an53 cd53 ct53), sl53⟩)
    (cd_law_made : PySem.W.codeIn K cd53 "_law_made" = true)
    (kd_law_made : PySem.W.keepIn K (.ref f53) = true)
    (ad_law_image : PySem.W.nsIn K mainGlobals "_law_image" = some (some (.ref f54)))
    (ld_law_image : K.lookup f54 = some ⟨oc54, od54, .func (PySem.W.fnOf "_law_image" "_law_image" (defArgs s_law_image) (defBody s_law_image) (defScope s_law_image) .none kV54 dc54 pm54 an54 cd54 ct54), sl54⟩)
    (cd_law_image : PySem.W.codeIn K cd54 "_law_image" = true)
    (kd_law_image : PySem.W.keepIn K (.ref f54) = true)
    (ad_law_shape : PySem.W.nsIn K mainGlobals "_law_shape" = some (some (.ref f55)))
    (ld_law_shape : K.lookup f55 = some ⟨oc55, od55, .func (PySem.W.fnOf "_law_shape" "_law_shape" (defArgs s_law_shape) (defBody s_law_shape) (defScope s_law_shape) .none kV55 dc55 pm55 an55 cd55 ct55), sl55⟩)
    (cd_law_shape : PySem.W.codeIn K cd55 "_law_shape" = true)
    (kd_law_shape : PySem.W.keepIn K (.ref f55) = true)
    (ad_law_block : PySem.W.nsIn K mainGlobals "_law_block" = some (some (.ref f56)))
    (ld_law_block : K.lookup f56 = some ⟨oc56, od56, .func (PySem.W.fnOf "_law_block" "_law_block" (defArgs s_law_block) (defBody s_law_block) (defScope s_law_block) .none kV56 dc56 pm56 an56 cd56 ct56), sl56⟩)
    (cd_law_block : PySem.W.codeIn K cd56 "_law_block" = true)
    (kd_law_block : PySem.W.keepIn K (.ref f56) = true)
    (ad_law_parts : PySem.W.nsIn K mainGlobals "_law_parts" = some (some (.ref f57)))
    (ld_law_parts : K.lookup f57 = some ⟨oc57, od57, .func (PySem.W.fnOf "_law_parts" "_law_parts" (defArgs s_law_parts) (defBody s_law_parts) (defScope s_law_parts) .none kV57 dc57 pm57 an57 cd57 ct57), sl57⟩)
    (cd_law_parts : PySem.W.codeIn K cd57 "_law_parts" = true)
    (kd_law_parts : PySem.W.keepIn K (.ref f57) = true)
    (ad_law_strips : PySem.W.nsIn K mainGlobals "_law_strips" = some (some (.ref f58)))
    (ld_law_strips : K.lookup f58 = some ⟨oc58, od58, .func (PySem.W.fnOf "_law_strips" "_law_strips" (defArgs s_law_strips) (defBody s_law_strips) (defScope s_law_strips) .none kV58 dc58 pm58 an58 cd58 ct58), sl58⟩)
    (cd_law_strips : PySem.W.codeIn K cd58 "_law_strips" = true)
    (kd_law_strips : PySem.W.keepIn K (.ref f58) = true)
    (ad_law_is_block : PySem.W.nsIn K mainGlobals "_law_is_block" = some (some (.ref f59)))
    (ld_law_is_block : K.lookup f59 = some ⟨oc59, od59, .func (PySem.W.fnOf "_law_is_block" "_law_is_block" (defArgs s_law_is_block) (defBody s_law_is_block) (defScope s_law_is_block) .none kV59 dc59 pm59 an59 cd59 ct59), sl59⟩)
    (cd_law_is_block : PySem.W.codeIn K cd59 "_law_is_block" = true)
    (kd_law_is_block : PySem.W.keepIn K (.ref f59) = true)
    (ad_law_strips_hold : PySem.W.nsIn K mainGlobals "_law_strips_hold" = some (some (.ref f60)))
    (ld_law_strips_hold : K.lookup f60 = some ⟨oc60, od60, .func (PySem.W.fnOf "_law_strips_hold" "_law_strips_hold" (defArgs s_law_strips_hold) (defBody s_law_strips_hold) (defScope s_law_strips_hold) .none kV60 dc60 pm60 an60 cd60 ct60), sl60⟩)
    (cd_law_strips_hold : PySem.W.codeIn K cd60 "_law_strips_hold" = true)
    (kd_law_strips_hold : PySem.W.keepIn K (.ref f60) = true)
    (ad_law_product : PySem.W.nsIn K mainGlobals "_law_product" = some (some (.ref f61)))
    (ld_law_product : K.lookup f61 = some ⟨oc61, od61, .func (PySem.W.fnOf "_law_product" "_law_product" (defArgs s_law_product) (defBody s_law_product) (defScope s_law_product) .none kV61 dc61 pm61 an61 cd61 ct61), sl61⟩)
    (cd_law_product : PySem.W.codeIn K cd61 "_law_product" = true)
    (kd_law_product : PySem.W.keepIn K (.ref f61) = true)
    (ad_law_product_holds : PySem.W.nsIn K mainGlobals "_law_product_holds" = some (some (.ref f62)))
    (ld_law_product_holds : K.lookup f62 = some ⟨oc62, od62, .func (PySem.W.fnOf "_law_product_holds" "_law_product_holds" (defArgs s_law_product_holds) (defBody s_law_product_holds) (defScope s_law_product_holds) .none kV62 dc62 pm62 an62 cd62 ct62), sl62⟩)
    (cd_law_product_holds : PySem.W.codeIn K cd62 "_law_product_holds" = true)
    (kd_law_product_holds : PySem.W.keepIn K (.ref f62) = true)
    (ad_law_call_holds : PySem.W.nsIn K mainGlobals "_law_call_holds" = some (some (.ref f63)))
    (ld_law_call_holds : K.lookup f63 = some ⟨oc63, od63, .func (PySem.W.fnOf "_law_call_holds" "_law_call_holds" (defArgs s_law_call_holds) (defBody s_law_call_holds) (defScope s_law_call_holds) .none kV63 dc63 pm63 an63 cd63 ct63), sl63⟩)
    (cd_law_call_holds : PySem.W.codeIn K cd63 "_law_call_holds" = true)
    (kd_law_call_holds : PySem.W.keepIn K (.ref f63) = true)
    (ad_law_mirrored_holds : PySem.W.nsIn K mainGlobals "_law_mirrored_holds" = some (some (.ref f64)))
    (ld_law_mirrored_holds : K.lookup f64 = some ⟨oc64, od64, .func (PySem.W.fnOf "_law_mirrored_holds" "_law_mirrored_holds" (defArgs s_law_mirrored_holds) (defBody s_law_mirrored_holds) (defScope s_law_mirrored_holds) .none kV64 dc64 pm64 an64 cd64 ct64), sl64⟩)
    (cd_law_mirrored_holds : PySem.W.codeIn K cd64 "_law_mirrored_holds" = true)
    (kd_law_mirrored_holds : PySem.W.keepIn K (.ref f64) = true)
    (ad_law_shift : PySem.W.nsIn K mainGlobals "_law_shift" = some (some (.ref f65)))
    (ld_law_shift : K.lookup f65 = some ⟨oc65, od65, .func (PySem.W.fnOf "_law_shift" "_law_shift" (defArgs s_law_shift) (defBody s_law_shift) (defScope s_law_shift) .none kV65 dc65 pm65 an65 cd65 ct65), sl65⟩)
    (cd_law_shift : PySem.W.codeIn K cd65 "_law_shift" = true)
    (kd_law_shift : PySem.W.keepIn K (.ref f65) = true)
    (ad_law_shift_holds : PySem.W.nsIn K mainGlobals "_law_shift_holds" = some (some (.ref f66)))
    (ld_law_shift_holds : K.lookup f66 = some ⟨oc66, od66, .func (PySem.W.fnOf "_law_shift_holds" "_law_shift_holds" (defArgs s_law_shift_holds) (defBody s_law_shift_holds) (defScope s_law_shift_holds) .none kV66 dc66 pm66 an66 cd66 ct66), sl66⟩)
    (cd_law_shift_holds : PySem.W.codeIn K cd66 "_law_shift_holds" = true)
    (kd_law_shift_holds : PySem.W.keepIn K (.ref f66) = true)
    (ad_law_identity_holds : PySem.W.nsIn K mainGlobals "_law_identity_holds" = some (some (.ref f67)))
    (ld_law_identity_holds : K.lookup f67 = some ⟨oc67, od67, .func (PySem.W.fnOf "_law_identity_holds" "_law_identity_holds" (defArgs s_law_identity_holds) (defBody s_law_identity_holds) (defScope s_law_identity_holds) .none kV67 dc67 pm67 an67 cd67 ct67), sl67⟩)
    (cd_law_identity_holds : PySem.W.codeIn K cd67 "_law_identity_holds" = true)
    (kd_law_identity_holds : PySem.W.keepIn K (.ref f67) = true)
    (ad_law_refused : PySem.W.nsIn K mainGlobals "_law_refused" = some (some (.ref f68)))
    (ld_law_refused : K.lookup f68 = some ⟨oc68, od68, .func (PySem.W.fnOf "_law_refused" "_law_refused" (defArgs s_law_refused) (defBody s_law_refused) (defScope s_law_refused) .none kV68 dc68 pm68 an68 cd68 ct68), sl68⟩)
    (cd_law_refused : PySem.W.codeIn K cd68 "_law_refused" = true)
    (kd_law_refused : PySem.W.keepIn K (.ref f68) = true)
    (ad_law_unlike : PySem.W.nsIn K mainGlobals "_law_unlike" = some (some (.ref f69)))
    (ld_law_unlike : K.lookup f69 = some ⟨oc69, od69, .func (PySem.W.fnOf "_law_unlike" "_law_unlike" (defArgs s_law_unlike) (defBody s_law_unlike) (defScope s_law_unlike) .none kV69 dc69 pm69 an69 cd69 ct69), sl69⟩)
    (cd_law_unlike : PySem.W.codeIn K cd69 "_law_unlike" = true)
    (kd_law_unlike : PySem.W.keepIn K (.ref f69) = true)
    (ad_law_unlike_call : PySem.W.nsIn K mainGlobals "_law_unlike_call" = some (some (.ref f70)))
    (ld_law_unlike_call : K.lookup f70 = some ⟨oc70, od70, .func (PySem.W.fnOf "_law_unlike_call" "_law_unlike_call" (defArgs s_law_unlike_call) (defBody s_law_unlike_call) (defScope s_law_unlike_call) .none kV70 dc70 pm70 an70 cd70 ct70), sl70⟩)
    (cd_law_unlike_call : PySem.W.codeIn K cd70 "_law_unlike_call" = true)
    (kd_law_unlike_call : PySem.W.keepIn K (.ref f70) = true)
    (ad_law_errors_hold : PySem.W.nsIn K mainGlobals "_law_errors_hold" = some (some (.ref f71)))
    (ld_law_errors_hold : K.lookup f71 = some ⟨oc71, od71, .func (PySem.W.fnOf "_law_errors_hold" "_law_errors_hold" (defArgs s_law_errors_hold) (defBody s_law_errors_hold) (defScope s_law_errors_hold) .none kV71 dc71 pm71 an71 cd71 ct71), sl71⟩)
    (cd_law_errors_hold : PySem.W.codeIn K cd71 "_law_errors_hold" = true)
    (kd_law_errors_hold : PySem.W.keepIn K (.ref f71) = true)
    (ad_law : PySem.W.nsIn K mainGlobals "law" = some (some (.ref f72)))
    (ld_law : K.lookup f72 = some ⟨oc72, od72, .func (PySem.W.fnOf "law" "law" (defArgs s_law) (defBody s_law) (defScope s_law) .none kV72 dc72 pm72 an72 cd72 ct72), sl72⟩)
    (cd_law : PySem.W.codeIn K cd72 "law" = true)
    (kd_law : PySem.W.keepIn K (.ref f72) = true)
    (i_hn : PySem.W.specialIn K (.builtin "object.__class__") "__get__" = some (some (.builtin "getset_descriptor.__get__")))
    (i_ht : PySem.W.takesIn K (.builtin "object.__class__") = some true)
    (nn_Scheme_rows : PySem.W.findIn K (.ref CScheme) "rows" = some none)
    (nn_Scheme_colours : PySem.W.findIn K (.ref CScheme) "colours" = some none)
    (nn_Scheme_columns : PySem.W.findIn K (.ref CScheme) "columns" = some none)
    (f_Scheme_MOST : PySem.W.findIn K (.ref CScheme) "MOST" = some (some (.int 9 t_Scheme_MOST)))
    (s_Scheme_MOST : PySem.W.specialIn K (.int 9 t_Scheme_MOST) "__get__" = some none)
    (f_Scheme_BLANK : PySem.W.findIn K (.ref CScheme) "BLANK" = some (some (.str "a" t_Scheme_BLANK)))
    (s_Scheme_BLANK : PySem.W.specialIn K (.str "a" t_Scheme_BLANK) "__get__" = some none)
    (i_ha : PySem.W.findIn K (.ref CScheme) "__class__" = some (some (.builtin "object.__class__")))
    (i_hm : PySem.W.mroIn K CScheme (.type "object") = some true)
    (nf_Scheme_int : PySem.W.notFirst K CScheme (.type "int") = true)
    (nf_Scheme_str : PySem.W.notFirst K CScheme (.type "str") = true)
    (s_int_Scheme : PySem.W.subIn K (.type "int") (.ref CScheme) = some false)
    (s_str_Scheme : PySem.W.subIn K (.type "str") (.ref CScheme) = some false)
    (ne_Scheme : PySem.W.findIn K (.ref CScheme) "__ne__" = some (some (.builtin "object.__ne__")))
    (nn_Endless_scheme : PySem.W.findIn K (.ref CEndless) "scheme" = some none)
    (nn_Endless_left : PySem.W.findIn K (.ref CEndless) "left" = some none)
    (nn_Endless_middle : PySem.W.findIn K (.ref CEndless) "middle" = some none)
    (nn_Endless_right : PySem.W.findIn K (.ref CEndless) "right" = some none)
    (nn_Endless_start : PySem.W.findIn K (.ref CEndless) "start" = some none)
    (p_ha : PySem.W.findIn K (.ref CEndless) "__class__" = some (some (.builtin "object.__class__")))
    (p_hm : PySem.W.mroIn K CEndless (.type "object") = some true)
    (nf_Endless_int : PySem.W.notFirst K CEndless (.type "int") = true)
    (nf_Endless_str : PySem.W.notFirst K CEndless (.type "str") = true)
    (s_str_Endless : PySem.W.subIn K (.type "str") (.ref CEndless) = some false)
    (nn_Block_scheme : PySem.W.findIn K (.ref CBlock) "scheme" = some none)
    (nn_Block_left : PySem.W.findIn K (.ref CBlock) "left" = some none)
    (nn_Block_right : PySem.W.findIn K (.ref CBlock) "right" = some none)
    (nn_Block_results : PySem.W.findIn K (.ref CBlock) "results" = some none)
    (nn_Block__news : PySem.W.findIn K (.ref CBlock) "_news" = some none)
    (rS_Block : PySem.W.readsIn K CBlock (.type "type") = true)
    (gS_Block : PySem.W.specialIn K (.ref CBlock) "__getattribute__" = some (some (.builtin "type.__getattribute__")))
    (cv_Block_MOST : PySem.W.findCls K (.ref CBlock) (.type "type") "MOST" = some (.val (.int 729 tc_Block_MOST)))
    (u_ha : PySem.W.findIn K (.ref CBlock) "__class__" = some (some (.builtin "object.__class__")))
    (u_hm : PySem.W.mroIn K CBlock (.type "object") = some true)
    (nf_Block_int : PySem.W.notFirst K CBlock (.type "int") = true)
    (nf_Block_str : PySem.W.notFirst K CBlock (.type "str") = true)
    (s_int_Block : PySem.W.subIn K (.type "int") (.ref CBlock) = some false)
    (s_str_Block : PySem.W.subIn K (.type "str") (.ref CBlock) = some false)
    (sf_Block : PySem.W.selfFirst K CBlock = true)
    (im_lcm : PySem.W.nsIn K mainGlobals "lcm" = some (some (.builtin "math.lcm")))
    (ss_0 : PySem.W.subIn K (.ref CBadScheme) (.ref CBadScheme) = some true)
    (s_0_1 : PySem.W.subIn K (.ref CBadScheme) (.ref CBadColumn) = some false)
    (ne_0_1 : ((Value.ref CBadScheme) == Value.ref CBadColumn) = false)
    (s_0_2 : PySem.W.subIn K (.ref CBadScheme) (.ref CBadSpots) = some false)
    (ne_0_2 : ((Value.ref CBadScheme) == Value.ref CBadSpots) = false)
    (s_0_3 : PySem.W.subIn K (.ref CBadScheme) (.ref CBadStrip) = some false)
    (ne_0_3 : ((Value.ref CBadScheme) == Value.ref CBadStrip) = false)
    (s_0_4 : PySem.W.subIn K (.ref CBadScheme) (.ref CBadEndless) = some false)
    (ne_0_4 : ((Value.ref CBadScheme) == Value.ref CBadEndless) = false)
    (s_0_5 : PySem.W.subIn K (.ref CBadScheme) (.ref CBadBlock) = some false)
    (ne_0_5 : ((Value.ref CBadScheme) == Value.ref CBadBlock) = false)
    (s_0_6 : PySem.W.subIn K (.ref CBadScheme) (.ref CUnlikeSchemes) = some false)
    (ne_0_6 : ((Value.ref CBadScheme) == Value.ref CUnlikeSchemes) = false)
    (s_0_7 : PySem.W.subIn K (.ref CBadScheme) (.ref CTooWide) = some false)
    (ne_0_7 : ((Value.ref CBadScheme) == Value.ref CTooWide) = false)
    (s_1_0 : PySem.W.subIn K (.ref CBadColumn) (.ref CBadScheme) = some false)
    (ne_1_0 : ((Value.ref CBadColumn) == Value.ref CBadScheme) = false)
    (ss_1 : PySem.W.subIn K (.ref CBadColumn) (.ref CBadColumn) = some true)
    (s_1_2 : PySem.W.subIn K (.ref CBadColumn) (.ref CBadSpots) = some false)
    (ne_1_2 : ((Value.ref CBadColumn) == Value.ref CBadSpots) = false)
    (s_1_3 : PySem.W.subIn K (.ref CBadColumn) (.ref CBadStrip) = some false)
    (ne_1_3 : ((Value.ref CBadColumn) == Value.ref CBadStrip) = false)
    (s_1_4 : PySem.W.subIn K (.ref CBadColumn) (.ref CBadEndless) = some false)
    (ne_1_4 : ((Value.ref CBadColumn) == Value.ref CBadEndless) = false)
    (s_1_5 : PySem.W.subIn K (.ref CBadColumn) (.ref CBadBlock) = some false)
    (ne_1_5 : ((Value.ref CBadColumn) == Value.ref CBadBlock) = false)
    (s_1_6 : PySem.W.subIn K (.ref CBadColumn) (.ref CUnlikeSchemes) = some false)
    (ne_1_6 : ((Value.ref CBadColumn) == Value.ref CUnlikeSchemes) = false)
    (s_1_7 : PySem.W.subIn K (.ref CBadColumn) (.ref CTooWide) = some false)
    (ne_1_7 : ((Value.ref CBadColumn) == Value.ref CTooWide) = false)
    (s_2_0 : PySem.W.subIn K (.ref CBadSpots) (.ref CBadScheme) = some false)
    (ne_2_0 : ((Value.ref CBadSpots) == Value.ref CBadScheme) = false)
    (s_2_1 : PySem.W.subIn K (.ref CBadSpots) (.ref CBadColumn) = some false)
    (ne_2_1 : ((Value.ref CBadSpots) == Value.ref CBadColumn) = false)
    (ss_2 : PySem.W.subIn K (.ref CBadSpots) (.ref CBadSpots) = some true)
    (s_2_3 : PySem.W.subIn K (.ref CBadSpots) (.ref CBadStrip) = some false)
    (ne_2_3 : ((Value.ref CBadSpots) == Value.ref CBadStrip) = false)
    (s_2_4 : PySem.W.subIn K (.ref CBadSpots) (.ref CBadEndless) = some false)
    (ne_2_4 : ((Value.ref CBadSpots) == Value.ref CBadEndless) = false)
    (s_2_5 : PySem.W.subIn K (.ref CBadSpots) (.ref CBadBlock) = some false)
    (ne_2_5 : ((Value.ref CBadSpots) == Value.ref CBadBlock) = false)
    (s_2_6 : PySem.W.subIn K (.ref CBadSpots) (.ref CUnlikeSchemes) = some false)
    (ne_2_6 : ((Value.ref CBadSpots) == Value.ref CUnlikeSchemes) = false)
    (s_2_7 : PySem.W.subIn K (.ref CBadSpots) (.ref CTooWide) = some false)
    (ne_2_7 : ((Value.ref CBadSpots) == Value.ref CTooWide) = false)
    (s_3_0 : PySem.W.subIn K (.ref CBadStrip) (.ref CBadScheme) = some false)
    (ne_3_0 : ((Value.ref CBadStrip) == Value.ref CBadScheme) = false)
    (s_3_1 : PySem.W.subIn K (.ref CBadStrip) (.ref CBadColumn) = some false)
    (ne_3_1 : ((Value.ref CBadStrip) == Value.ref CBadColumn) = false)
    (s_3_2 : PySem.W.subIn K (.ref CBadStrip) (.ref CBadSpots) = some false)
    (ne_3_2 : ((Value.ref CBadStrip) == Value.ref CBadSpots) = false)
    (ss_3 : PySem.W.subIn K (.ref CBadStrip) (.ref CBadStrip) = some true)
    (s_3_4 : PySem.W.subIn K (.ref CBadStrip) (.ref CBadEndless) = some false)
    (ne_3_4 : ((Value.ref CBadStrip) == Value.ref CBadEndless) = false)
    (s_3_5 : PySem.W.subIn K (.ref CBadStrip) (.ref CBadBlock) = some false)
    (ne_3_5 : ((Value.ref CBadStrip) == Value.ref CBadBlock) = false)
    (s_3_6 : PySem.W.subIn K (.ref CBadStrip) (.ref CUnlikeSchemes) = some false)
    (ne_3_6 : ((Value.ref CBadStrip) == Value.ref CUnlikeSchemes) = false)
    (s_3_7 : PySem.W.subIn K (.ref CBadStrip) (.ref CTooWide) = some false)
    (ne_3_7 : ((Value.ref CBadStrip) == Value.ref CTooWide) = false)
    (s_4_0 : PySem.W.subIn K (.ref CBadEndless) (.ref CBadScheme) = some false)
    (ne_4_0 : ((Value.ref CBadEndless) == Value.ref CBadScheme) = false)
    (s_4_1 : PySem.W.subIn K (.ref CBadEndless) (.ref CBadColumn) = some false)
    (ne_4_1 : ((Value.ref CBadEndless) == Value.ref CBadColumn) = false)
    (s_4_2 : PySem.W.subIn K (.ref CBadEndless) (.ref CBadSpots) = some false)
    (ne_4_2 : ((Value.ref CBadEndless) == Value.ref CBadSpots) = false)
    (s_4_3 : PySem.W.subIn K (.ref CBadEndless) (.ref CBadStrip) = some false)
    (ne_4_3 : ((Value.ref CBadEndless) == Value.ref CBadStrip) = false)
    (ss_4 : PySem.W.subIn K (.ref CBadEndless) (.ref CBadEndless) = some true)
    (s_4_5 : PySem.W.subIn K (.ref CBadEndless) (.ref CBadBlock) = some false)
    (ne_4_5 : ((Value.ref CBadEndless) == Value.ref CBadBlock) = false)
    (s_4_6 : PySem.W.subIn K (.ref CBadEndless) (.ref CUnlikeSchemes) = some false)
    (ne_4_6 : ((Value.ref CBadEndless) == Value.ref CUnlikeSchemes) = false)
    (s_4_7 : PySem.W.subIn K (.ref CBadEndless) (.ref CTooWide) = some false)
    (ne_4_7 : ((Value.ref CBadEndless) == Value.ref CTooWide) = false)
    (s_5_0 : PySem.W.subIn K (.ref CBadBlock) (.ref CBadScheme) = some false)
    (ne_5_0 : ((Value.ref CBadBlock) == Value.ref CBadScheme) = false)
    (s_5_1 : PySem.W.subIn K (.ref CBadBlock) (.ref CBadColumn) = some false)
    (ne_5_1 : ((Value.ref CBadBlock) == Value.ref CBadColumn) = false)
    (s_5_2 : PySem.W.subIn K (.ref CBadBlock) (.ref CBadSpots) = some false)
    (ne_5_2 : ((Value.ref CBadBlock) == Value.ref CBadSpots) = false)
    (s_5_3 : PySem.W.subIn K (.ref CBadBlock) (.ref CBadStrip) = some false)
    (ne_5_3 : ((Value.ref CBadBlock) == Value.ref CBadStrip) = false)
    (s_5_4 : PySem.W.subIn K (.ref CBadBlock) (.ref CBadEndless) = some false)
    (ne_5_4 : ((Value.ref CBadBlock) == Value.ref CBadEndless) = false)
    (ss_5 : PySem.W.subIn K (.ref CBadBlock) (.ref CBadBlock) = some true)
    (s_5_6 : PySem.W.subIn K (.ref CBadBlock) (.ref CUnlikeSchemes) = some false)
    (ne_5_6 : ((Value.ref CBadBlock) == Value.ref CUnlikeSchemes) = false)
    (s_5_7 : PySem.W.subIn K (.ref CBadBlock) (.ref CTooWide) = some false)
    (ne_5_7 : ((Value.ref CBadBlock) == Value.ref CTooWide) = false)
    (s_6_0 : PySem.W.subIn K (.ref CUnlikeSchemes) (.ref CBadScheme) = some false)
    (ne_6_0 : ((Value.ref CUnlikeSchemes) == Value.ref CBadScheme) = false)
    (s_6_1 : PySem.W.subIn K (.ref CUnlikeSchemes) (.ref CBadColumn) = some false)
    (ne_6_1 : ((Value.ref CUnlikeSchemes) == Value.ref CBadColumn) = false)
    (s_6_2 : PySem.W.subIn K (.ref CUnlikeSchemes) (.ref CBadSpots) = some false)
    (ne_6_2 : ((Value.ref CUnlikeSchemes) == Value.ref CBadSpots) = false)
    (s_6_3 : PySem.W.subIn K (.ref CUnlikeSchemes) (.ref CBadStrip) = some false)
    (ne_6_3 : ((Value.ref CUnlikeSchemes) == Value.ref CBadStrip) = false)
    (s_6_4 : PySem.W.subIn K (.ref CUnlikeSchemes) (.ref CBadEndless) = some false)
    (ne_6_4 : ((Value.ref CUnlikeSchemes) == Value.ref CBadEndless) = false)
    (s_6_5 : PySem.W.subIn K (.ref CUnlikeSchemes) (.ref CBadBlock) = some false)
    (ne_6_5 : ((Value.ref CUnlikeSchemes) == Value.ref CBadBlock) = false)
    (ss_6 : PySem.W.subIn K (.ref CUnlikeSchemes) (.ref CUnlikeSchemes) = some true)
    (s_6_7 : PySem.W.subIn K (.ref CUnlikeSchemes) (.ref CTooWide) = some false)
    (ne_6_7 : ((Value.ref CUnlikeSchemes) == Value.ref CTooWide) = false)
    (s_7_0 : PySem.W.subIn K (.ref CTooWide) (.ref CBadScheme) = some false)
    (ne_7_0 : ((Value.ref CTooWide) == Value.ref CBadScheme) = false)
    (s_7_1 : PySem.W.subIn K (.ref CTooWide) (.ref CBadColumn) = some false)
    (ne_7_1 : ((Value.ref CTooWide) == Value.ref CBadColumn) = false)
    (s_7_2 : PySem.W.subIn K (.ref CTooWide) (.ref CBadSpots) = some false)
    (ne_7_2 : ((Value.ref CTooWide) == Value.ref CBadSpots) = false)
    (s_7_3 : PySem.W.subIn K (.ref CTooWide) (.ref CBadStrip) = some false)
    (ne_7_3 : ((Value.ref CTooWide) == Value.ref CBadStrip) = false)
    (s_7_4 : PySem.W.subIn K (.ref CTooWide) (.ref CBadEndless) = some false)
    (ne_7_4 : ((Value.ref CTooWide) == Value.ref CBadEndless) = false)
    (s_7_5 : PySem.W.subIn K (.ref CTooWide) (.ref CBadBlock) = some false)
    (ne_7_5 : ((Value.ref CTooWide) == Value.ref CBadBlock) = false)
    (s_7_6 : PySem.W.subIn K (.ref CTooWide) (.ref CUnlikeSchemes) = some false)
    (ne_7_6 : ((Value.ref CTooWide) == Value.ref CUnlikeSchemes) = false)
    (ss_7 : PySem.W.subIn K (.ref CTooWide) (.ref CTooWide) = some true)
    (sv_0 : PySem.W.subIn K (.ref CBadScheme) (.type "ValueError") = some true)
    (sv_1 : PySem.W.subIn K (.ref CBadColumn) (.type "ValueError") = some true)
    (sv_2 : PySem.W.subIn K (.ref CBadSpots) (.type "ValueError") = some true)
    (sv_3 : PySem.W.subIn K (.ref CBadStrip) (.type "ValueError") = some true)
    (sv_4 : PySem.W.subIn K (.ref CBadEndless) (.type "ValueError") = some true)
    (sv_5 : PySem.W.subIn K (.ref CBadBlock) (.type "ValueError") = some true)
    (sv_6 : PySem.W.subIn K (.ref CUnlikeSchemes) (.type "ValueError") = some true)
    (sv_7 : PySem.W.subIn K (.ref CTooWide) (.type "ValueError") = some true)
    (sg_0 : PySem.W.subIn K (.ref CBadScheme) (.ref CGalloonError) = some true)
    (sg_1 : PySem.W.subIn K (.ref CBadColumn) (.ref CGalloonError) = some true)
    (sg_2 : PySem.W.subIn K (.ref CBadSpots) (.ref CGalloonError) = some true)
    (sg_3 : PySem.W.subIn K (.ref CBadStrip) (.ref CGalloonError) = some true)
    (sg_4 : PySem.W.subIn K (.ref CBadEndless) (.ref CGalloonError) = some true)
    (sg_5 : PySem.W.subIn K (.ref CBadBlock) (.ref CGalloonError) = some true)
    (sg_6 : PySem.W.subIn K (.ref CUnlikeSchemes) (.ref CGalloonError) = some true)
    (sg_7 : PySem.W.subIn K (.ref CTooWide) (.ref CGalloonError) = some true)
    (ne_g_0 : ((Value.ref CBadScheme) == Value.ref CGalloonError) = false)
    (ne_g_1 : ((Value.ref CBadColumn) == Value.ref CGalloonError) = false)
    (ne_g_2 : ((Value.ref CBadSpots) == Value.ref CGalloonError) = false)
    (ne_g_3 : ((Value.ref CBadStrip) == Value.ref CGalloonError) = false)
    (ne_g_4 : ((Value.ref CBadEndless) == Value.ref CGalloonError) = false)
    (ne_g_5 : ((Value.ref CBadBlock) == Value.ref CGalloonError) = false)
    (ne_g_6 : ((Value.ref CUnlikeSchemes) == Value.ref CGalloonError) = false)
    (ne_g_7 : ((Value.ref CTooWide) == Value.ref CGalloonError) = false) :
    Txt K mg ⟨CGalloonError, CUnlikeSchemes, CBadScheme, CBadColumn, CBadSpots, CBadStrip, CBadEndless, CBadBlock, CTooWide, CScheme, CEndless, CBlock⟩ :=
  { b_ValueError := PySem.W.mg_none_of X G z_ValueError
    b_abs := PySem.W.mg_none_of X G z_abs
    b_all := PySem.W.mg_none_of X G z_all
    b_bool := PySem.W.mg_none_of X G z_bool
    b_classmethod := PySem.W.mg_none_of X G z_classmethod
    b_enumerate := PySem.W.mg_none_of X G z_enumerate
    b_int := PySem.W.mg_none_of X G z_int
    b_isinstance := PySem.W.mg_none_of X G z_isinstance
    b_len := PySem.W.mg_none_of X G z_len
    b_list := PySem.W.mg_none_of X G z_list
    b_max := PySem.W.mg_none_of X G z_max
    b_min := PySem.W.mg_none_of X G z_min
    b_range := PySem.W.mg_none_of X G z_range
    b_str := PySem.W.mg_none_of X G z_str
    b_zip := PySem.W.mg_none_of X G z_zip
    g_DIGITS := gval_of X G v_DIGITS ⟨_, rfl⟩
    g_LETTERS := gval_of X G v_LETTERS ⟨_, rfl⟩
    g_MOST_LOOP := gval_of X G v_MOST_LOOP ⟨_, rfl⟩
    g_GalloonError := PySem.W.mg_of X G a_GalloonError
    z_UnlikeSchemes := ⟨PySem.W.mg_of X G a_UnlikeSchemes, xz_UnlikeSchemes, kc_UnlikeSchemes, sB_UnlikeSchemes, tc_UnlikeSchemes⟩
    x_UnlikeSchemes := errC_of ga_UnlikeSchemes gg_UnlikeSchemes sB_UnlikeSchemes hd_UnlikeSchemes ha_UnlikeSchemes i_hn i_ht hm_UnlikeSchemes ic_UnlikeSchemes
    e_BadScheme := errT_of X G a_BadScheme x_BadScheme rf_BadScheme sa_BadScheme sB_BadScheme tc_BadScheme kc_BadScheme nb_BadScheme ai_BadScheme ti_BadScheme li_BadScheme ci_BadScheme ki_BadScheme
    x_BadScheme := errC_of ga_BadScheme gg_BadScheme sB_BadScheme hd_BadScheme ha_BadScheme i_hn i_ht hm_BadScheme ic_BadScheme
    e_BadColumn := errT_of X G a_BadColumn x_BadColumn rf_BadColumn sa_BadColumn sB_BadColumn tc_BadColumn kc_BadColumn nb_BadColumn ai_BadColumn ti_BadColumn li_BadColumn ci_BadColumn ki_BadColumn
    x_BadColumn := errC_of ga_BadColumn gg_BadColumn sB_BadColumn hd_BadColumn ha_BadColumn i_hn i_ht hm_BadColumn ic_BadColumn
    e_BadSpots := errT_of X G a_BadSpots x_BadSpots rf_BadSpots sa_BadSpots sB_BadSpots tc_BadSpots kc_BadSpots nb_BadSpots ai_BadSpots ti_BadSpots li_BadSpots ci_BadSpots ki_BadSpots
    x_BadSpots := errC_of ga_BadSpots gg_BadSpots sB_BadSpots hd_BadSpots ha_BadSpots i_hn i_ht hm_BadSpots ic_BadSpots
    e_BadStrip := errT_of X G a_BadStrip x_BadStrip rf_BadStrip sa_BadStrip sB_BadStrip tc_BadStrip kc_BadStrip nb_BadStrip ai_BadStrip ti_BadStrip li_BadStrip ci_BadStrip ki_BadStrip
    x_BadStrip := errC_of ga_BadStrip gg_BadStrip sB_BadStrip hd_BadStrip ha_BadStrip i_hn i_ht hm_BadStrip ic_BadStrip
    e_BadEndless := errT_of X G a_BadEndless x_BadEndless rf_BadEndless sa_BadEndless sB_BadEndless tc_BadEndless kc_BadEndless nb_BadEndless ai_BadEndless ti_BadEndless li_BadEndless ci_BadEndless ki_BadEndless
    x_BadEndless := errC_of ga_BadEndless gg_BadEndless sB_BadEndless hd_BadEndless ha_BadEndless i_hn i_ht hm_BadEndless ic_BadEndless
    e_BadBlock := errT_of X G a_BadBlock x_BadBlock rf_BadBlock sa_BadBlock sB_BadBlock tc_BadBlock kc_BadBlock nb_BadBlock ai_BadBlock ti_BadBlock li_BadBlock ci_BadBlock ki_BadBlock
    x_BadBlock := errC_of ga_BadBlock gg_BadBlock sB_BadBlock hd_BadBlock ha_BadBlock i_hn i_ht hm_BadBlock ic_BadBlock
    z_TooWide := ⟨PySem.W.mg_of X G a_TooWide, xz_TooWide, kc_TooWide, sB_TooWide, tc_TooWide⟩
    x_TooWide := errC_of ga_TooWide gg_TooWide sB_TooWide hd_TooWide ha_TooWide i_hn i_ht hm_TooWide ic_TooWide
    c_Scheme := clsT_of X G a_Scheme pg_Scheme hd_Scheme po_Scheme sa_Scheme mk_Scheme kc_Scheme
    m_Scheme___init__ := metT_of am_Scheme___init__ im_Scheme___init__ lm_Scheme___init__ cm_Scheme___init__ km_Scheme___init__
    m_Scheme___eq__ := metT_of am_Scheme___eq__ im_Scheme___eq__ lm_Scheme___eq__ cm_Scheme___eq__ km_Scheme___eq__
    m_Scheme___len__ := metT_of am_Scheme___len__ im_Scheme___len__ lm_Scheme___len__ cm_Scheme___len__ km_Scheme___len__
    m_Scheme_is_column := metT_of am_Scheme_is_column im_Scheme_is_column lm_Scheme_is_column cm_Scheme_is_column km_Scheme_is_column
    m_Scheme_is_colour := metT_of am_Scheme_is_colour im_Scheme_is_colour lm_Scheme_is_colour cm_Scheme_is_colour km_Scheme_is_colour
    m_Scheme_is_strip := metT_of am_Scheme_is_strip im_Scheme_is_strip lm_Scheme_is_strip cm_Scheme_is_strip km_Scheme_is_strip
    m_Scheme_check := metT_of am_Scheme_check im_Scheme_check lm_Scheme_check cm_Scheme_check km_Scheme_check
    c_Endless := clsT_of X G a_Endless pg_Endless hd_Endless po_Endless sa_Endless mk_Endless kc_Endless
    m_Endless___init__ := initK_of am_Endless___init__ im_Endless___init__ lm_Endless___init__ cm_Endless___init__ km_Endless___init__ (ks_cons kw14_start ⟨_, rfl⟩ ks_nil)
    m_Endless___eq__ := metT_of am_Endless___eq__ im_Endless___eq__ lm_Endless___eq__ cm_Endless___eq__ km_Endless___eq__
    m_Endless_column_at := metT_of am_Endless_column_at im_Endless_column_at lm_Endless_column_at cm_Endless_column_at km_Endless_column_at
    m_Endless_window := metT_of am_Endless_window im_Endless_window lm_Endless_window cm_Endless_window km_Endless_window
    m_Endless_moved := metT_of am_Endless_moved im_Endless_moved lm_Endless_moved cm_Endless_moved km_Endless_moved
    c_Block := clsT_of X G a_Block pg_Block hd_Block po_Block sa_Block mk_Block kc_Block
    m_Block___init__ := metT_of am_Block___init__ im_Block___init__ lm_Block___init__ cm_Block___init__ km_Block___init__
    m_Block_identity := ⟨_, _, _, _, fun_mk (st := s_Block_identity) lm_Block_identity cm_Block_identity km_Block_identity, ⟨rS_Block, gS_Block⟩, ⟨cg_Block_identity, ⟨_, cr_Block_identity⟩, cf_Block_identity⟩⟩
    m_Block_shift := ⟨_, _, _, _, fun_mk (st := s_Block_shift) lm_Block_shift cm_Block_shift km_Block_shift, ⟨rS_Block, gS_Block⟩, ⟨cg_Block_shift, ⟨_, cr_Block_shift⟩, cf_Block_shift⟩⟩
    m_Block___call__ := metT_of am_Block___call__ im_Block___call__ lm_Block___call__ cm_Block___call__ km_Block___call__
    m_Block___eq__ := metT_of am_Block___eq__ im_Block___eq__ lm_Block___eq__ cm_Block___eq__ km_Block___eq__
    m_Block___mul__ := metT_of am_Block___mul__ im_Block___mul__ lm_Block___mul__ cm_Block___mul__ km_Block___mul__
    m_Block_inner := metT_of am_Block_inner im_Block_inner lm_Block_inner cm_Block_inner km_Block_inner
    m_Block_around := metT_of am_Block_around im_Block_around lm_Block_around cm_Block_around km_Block_around
    m_Block_mirrored := metT_of am_Block_mirrored im_Block_mirrored lm_Block_mirrored cm_Block_mirrored km_Block_mirrored
    m_Block__made := metT_of am_Block__made im_Block__made lm_Block__made cm_Block__made km_Block__made
    d_check_alike := defT_of X G ad_check_alike ld_check_alike cd_check_alike kd_check_alike
    d_endless_apart := defT_of X G ad_endless_apart ld_endless_apart cd_endless_apart kd_endless_apart
    d_is_loop := defT_of X G ad_is_loop ld_is_loop cd_is_loop kd_is_loop
    d_apart := defT_of X G ad_apart ld_apart cd_apart kd_apart
    d_is_narrow := defT_of X G ad_is_narrow ld_is_narrow cd_is_narrow kd_is_narrow
    d_words_of := defT_of X G ad_words_of ld_words_of cd_words_of kd_words_of
    d_least_form := defT_of X G ad_least_form ld_least_form cd_least_form kd_least_form
    d_is_blind := defT_of X G ad_is_blind ld_is_blind cd_is_blind kd_is_blind
    d_law_source := defT_of X G ad_law_source ld_law_source cd_law_source kd_law_source
    d_law_draw := defT_of X G ad_law_draw ld_law_draw cd_law_draw kd_law_draw
    d_law_strip := defT_of X G ad_law_strip ld_law_strip cd_law_strip kd_law_strip
    d_law_is_integer := defT_of X G ad_law_is_integer ld_law_is_integer cd_law_is_integer kd_law_is_integer
    d_law_windows := defT_of X G ad_law_windows ld_law_windows cd_law_windows kd_law_windows
    d_law_table := defT_of X G ad_law_table ld_law_table cd_law_table kd_law_table
    d_law_shuffled := defT_of X G ad_law_shuffled ld_law_shuffled cd_law_shuffled kd_law_shuffled
    d_law_permuted := defT_of X G ad_law_permuted ld_law_permuted cd_law_permuted kd_law_permuted
    d_law_results := defT_of X G ad_law_results ld_law_results cd_law_results kd_law_results
    d_law_inner := defT_of X G ad_law_inner ld_law_inner cd_law_inner kd_law_inner
    d_law_around := defT_of X G ad_law_around ld_law_around cd_law_around kd_law_around
    d_law_least := defT_of X G ad_law_least ld_law_least cd_law_least kd_law_least
    d_law_joined := defT_of X G ad_law_joined ld_law_joined cd_law_joined kd_law_joined
    d_law_power := defT_of X G ad_law_power ld_law_power cd_law_power kd_law_power
    d_law_column := defT_of X G ad_law_column ld_law_column cd_law_column kd_law_column
    d_law_text := defT_of X G ad_law_text ld_law_text cd_law_text kd_law_text
    d_law_made := defT_of X G ad_law_made ld_law_made cd_law_made kd_law_made
    d_law_image := defT_of X G ad_law_image ld_law_image cd_law_image kd_law_image
    d_law_shape := defT_of X G ad_law_shape ld_law_shape cd_law_shape kd_law_shape
    d_law_block := defT_of X G ad_law_block ld_law_block cd_law_block kd_law_block
    d_law_parts := defT_of X G ad_law_parts ld_law_parts cd_law_parts kd_law_parts
    d_law_strips := defT_of X G ad_law_strips ld_law_strips cd_law_strips kd_law_strips
    d_law_is_block := defT_of X G ad_law_is_block ld_law_is_block cd_law_is_block kd_law_is_block
    d_law_strips_hold := defT_of X G ad_law_strips_hold ld_law_strips_hold cd_law_strips_hold kd_law_strips_hold
    d_law_product := defT_of X G ad_law_product ld_law_product cd_law_product kd_law_product
    d_law_product_holds := defT_of X G ad_law_product_holds ld_law_product_holds cd_law_product_holds kd_law_product_holds
    d_law_call_holds := defT_of X G ad_law_call_holds ld_law_call_holds cd_law_call_holds kd_law_call_holds
    d_law_mirrored_holds := defT_of X G ad_law_mirrored_holds ld_law_mirrored_holds cd_law_mirrored_holds kd_law_mirrored_holds
    d_law_shift := defT_of X G ad_law_shift ld_law_shift cd_law_shift kd_law_shift
    d_law_shift_holds := defT_of X G ad_law_shift_holds ld_law_shift_holds cd_law_shift_holds kd_law_shift_holds
    d_law_identity_holds := defT_of X G ad_law_identity_holds ld_law_identity_holds cd_law_identity_holds kd_law_identity_holds
    d_law_refused := defT_of X G ad_law_refused ld_law_refused cd_law_refused kd_law_refused
    d_law_unlike := defT_of X G ad_law_unlike ld_law_unlike cd_law_unlike kd_law_unlike
    d_law_unlike_call := defT_of X G ad_law_unlike_call ld_law_unlike_call cd_law_unlike_call kd_law_unlike_call
    d_law_errors_hold := defT_of X G ad_law_errors_hold ld_law_errors_hold cd_law_errors_hold kd_law_errors_hold
    d_law := defT_of X G ad_law ld_law cd_law kd_law
    i_hn := i_hn
    i_ht := i_ht
    n_rows := nn_Scheme_rows
    n_colours := nn_Scheme_colours
    n_columns := nn_Scheme_columns
    k_MOST := ⟨_, f_Scheme_MOST, ⟨_, rfl⟩, s_Scheme_MOST, by decide +kernel⟩
    k_BLANK := ⟨_, f_Scheme_BLANK, ⟨_, rfl⟩, s_Scheme_BLANK, by decide +kernel⟩
    i_ha := i_ha
    i_hm := i_hm
    i_own := kitS_of
    i_ni := nf_Scheme_int
    i_ns := nf_Scheme_str
    i_int := kitR_of ic_Scheme tc_Scheme s_int_Scheme rfl
    i_str := kitR_of ic_Scheme tc_Scheme s_str_Scheme rfl
    n_Scheme := ⟨ne_Scheme, i_hm⟩
    n_scheme := nn_Endless_scheme
    n_left := nn_Endless_left
    n_middle := nn_Endless_middle
    n_right := nn_Endless_right
    n_start := nn_Endless_start
    p_ha := p_ha
    p_hm := p_hm
    p_own := kitS_of
    p_ni := nf_Endless_int
    p_ns := nf_Endless_str
    p_str := kitR_of ic_Endless tc_Endless s_str_Endless rfl
    w_scheme := nn_Block_scheme
    w_left := nn_Block_left
    w_right := nn_Block_right
    w_results := nn_Block_results
    w_news := nn_Block__news
    r_Block := ⟨_, ⟨rS_Block, gS_Block⟩, ⟨_, ⟨cv_Block_MOST, ⟨_, rfl⟩⟩⟩⟩
    u_ha := u_ha
    u_hm := u_hm
    u_own := kitS_of
    u_ni := nf_Block_int
    u_ns := nf_Block_str
    u_int := kitR_of ic_Block tc_Block s_int_Block rfl
    u_str := kitR_of ic_Block tc_Block s_str_Block rfl
    u_sf := sf_Block
    m_lcm := PySem.W.mg_of X G im_lcm
    kk_e := kk_of ic_UnlikeSchemes tc_UnlikeSchemes ic_BadScheme tc_BadScheme ic_BadColumn tc_BadColumn ic_BadSpots tc_BadSpots ic_BadStrip tc_BadStrip ic_BadEndless tc_BadEndless ic_BadBlock tc_BadBlock ic_TooWide tc_TooWide s_0_1 ne_0_1 s_0_2 ne_0_2 s_0_3 ne_0_3 s_0_4 ne_0_4 s_0_5 ne_0_5 s_0_6 ne_0_6 s_0_7 ne_0_7 s_1_0 ne_1_0 s_1_2 ne_1_2 s_1_3 ne_1_3 s_1_4 ne_1_4 s_1_5 ne_1_5 s_1_6 ne_1_6 s_1_7 ne_1_7 s_2_0 ne_2_0 s_2_1 ne_2_1 s_2_3 ne_2_3 s_2_4 ne_2_4 s_2_5 ne_2_5 s_2_6 ne_2_6 s_2_7 ne_2_7 s_3_0 ne_3_0 s_3_1 ne_3_1 s_3_2 ne_3_2 s_3_4 ne_3_4 s_3_5 ne_3_5 s_3_6 ne_3_6 s_3_7 ne_3_7 s_4_0 ne_4_0 s_4_1 ne_4_1 s_4_2 ne_4_2 s_4_3 ne_4_3 s_4_5 ne_4_5 s_4_6 ne_4_6 s_4_7 ne_4_7 s_5_0 ne_5_0 s_5_1 ne_5_1 s_5_2 ne_5_2 s_5_3 ne_5_3 s_5_4 ne_5_4 s_5_6 ne_5_6 s_5_7 ne_5_7 s_6_0 ne_6_0 s_6_1 ne_6_1 s_6_2 ne_6_2 s_6_3 ne_6_3 s_6_4 ne_6_4 s_6_5 ne_6_5 s_6_7 ne_6_7 s_7_0 ne_7_0 s_7_1 ne_7_1 s_7_2 ne_7_2 s_7_3 ne_7_3 s_7_4 ne_7_4 s_7_5 ne_7_5 s_7_6 ne_7_6
    kv_e := kv_of sv_0 sv_1 sv_2 sv_3 sv_4 sv_5 sv_6 sv_7
    xm_e := xm_of sB_GalloonError ic_GalloonError tc_GalloonError sg_0 sg_1 sg_2 sg_3 sg_4 sg_5 sg_6 sg_7
    kg_e := kg_of ic_GalloonError tc_GalloonError sg_0 sg_1 sg_2 sg_3 sg_4 sg_5 sg_6 sg_7 ne_g_0 ne_g_1 ne_g_2 ne_g_3 ne_g_4 ne_g_5 ne_g_6 ne_g_7
    xo_e := xo_of sB_UnlikeSchemes ic_UnlikeSchemes tc_UnlikeSchemes sB_BadScheme ic_BadScheme tc_BadScheme sB_BadColumn ic_BadColumn tc_BadColumn sB_BadSpots ic_BadSpots tc_BadSpots sB_BadStrip ic_BadStrip tc_BadStrip sB_BadEndless ic_BadEndless tc_BadEndless sB_BadBlock ic_BadBlock tc_BadBlock sB_TooWide ic_TooWide tc_TooWide ss_0 s_0_1 s_0_2 s_0_3 s_0_4 s_0_5 s_0_6 s_0_7 s_1_0 ss_1 s_1_2 s_1_3 s_1_4 s_1_5 s_1_6 s_1_7 s_2_0 s_2_1 ss_2 s_2_3 s_2_4 s_2_5 s_2_6 s_2_7 s_3_0 s_3_1 s_3_2 ss_3 s_3_4 s_3_5 s_3_6 s_3_7 s_4_0 s_4_1 s_4_2 s_4_3 ss_4 s_4_5 s_4_6 s_4_7 s_5_0 s_5_1 s_5_2 s_5_3 s_5_4 ss_5 s_5_6 s_5_7 s_6_0 s_6_1 s_6_2 s_6_3 s_6_4 s_6_5 ss_6 s_6_7 s_7_0 s_7_1 s_7_2 s_7_3 s_7_4 s_7_5 s_7_6 ss_7 }
end K42

end
set_option Elab.async false
set_option maxRecDepth 100000
open PySem PySem.W PyProof.Rows
set_option maxRecDepth 100000 in
set_option maxHeartbeats 0 in
theorem PySem.Challenge.cw_galloon_k42_products_and_calls_holds : PySem.Challenge.rw_galloon_k42_products_and_calls.Holds := by
  w_on; o_law; k_head; (case hw => w_witness2)
  k_fill
  refine K42.walk (l := PySem.Challenge.rw_galloon_k42_products_and_calls) rfl rfl (fun w h Y => PySem.W.kIn_of Y) rfl ?F
  case F =>
    intro w mg h KX G
    refine' ⟨_, K42.mkTxt KX G ?a_GalloonError ?a_UnlikeSchemes ?a_BadScheme ?a_BadColumn ?a_BadSpots ?a_BadStrip ?a_BadEndless ?a_BadBlock ?a_TooWide ?a_Scheme ?a_Endless ?a_Block ?z_ValueError ?z_abs ?z_all ?z_bool ?z_classmethod ?z_enumerate ?z_int ?z_isinstance ?z_len ?z_list ?z_max ?z_min ?z_range ?z_str ?z_zip ?v_DIGITS ?v_LETTERS ?v_MOST_LOOP ?sB_GalloonError ?ic_GalloonError ?tc_GalloonError ?sB_UnlikeSchemes ?ic_UnlikeSchemes ?tc_UnlikeSchemes ?sB_BadScheme ?ic_BadScheme ?tc_BadScheme ?sB_BadColumn ?ic_BadColumn ?tc_BadColumn ?sB_BadSpots ?ic_BadSpots ?tc_BadSpots ?sB_BadStrip ?ic_BadStrip ?tc_BadStrip ?sB_BadEndless ?ic_BadEndless ?tc_BadEndless ?sB_BadBlock ?ic_BadBlock ?tc_BadBlock ?sB_TooWide ?ic_TooWide ?tc_TooWide ?ic_Scheme ?tc_Scheme ?ic_Endless ?tc_Endless ?ic_Block ?tc_Block ?xz_UnlikeSchemes ?kc_UnlikeSchemes ?ga_UnlikeSchemes ?gg_UnlikeSchemes ?hd_UnlikeSchemes ?ha_UnlikeSchemes ?hm_UnlikeSchemes ?x_BadScheme ?rf_BadScheme ?sa_BadScheme ?kc_BadScheme ?nb_BadScheme ?ai_BadScheme ?ti_BadScheme ?li_BadScheme ?ci_BadScheme ?ki_BadScheme ?ga_BadScheme ?gg_BadScheme ?hd_BadScheme ?ha_BadScheme ?hm_BadScheme ?x_BadColumn ?rf_BadColumn ?sa_BadColumn ?kc_BadColumn ?nb_BadColumn ?ai_BadColumn ?ti_BadColumn ?li_BadColumn ?ci_BadColumn ?ki_BadColumn ?ga_BadColumn ?gg_BadColumn ?hd_BadColumn ?ha_BadColumn ?hm_BadColumn ?x_BadSpots ?rf_BadSpots ?sa_BadSpots ?kc_BadSpots ?nb_BadSpots ?ai_BadSpots ?ti_BadSpots ?li_BadSpots ?ci_BadSpots ?ki_BadSpots ?ga_BadSpots ?gg_BadSpots ?hd_BadSpots ?ha_BadSpots ?hm_BadSpots ?x_BadStrip ?rf_BadStrip ?sa_BadStrip ?kc_BadStrip ?nb_BadStrip ?ai_BadStrip ?ti_BadStrip ?li_BadStrip ?ci_BadStrip ?ki_BadStrip ?ga_BadStrip ?gg_BadStrip ?hd_BadStrip ?ha_BadStrip ?hm_BadStrip ?x_BadEndless ?rf_BadEndless ?sa_BadEndless ?kc_BadEndless ?nb_BadEndless ?ai_BadEndless ?ti_BadEndless ?li_BadEndless ?ci_BadEndless ?ki_BadEndless ?ga_BadEndless ?gg_BadEndless ?hd_BadEndless ?ha_BadEndless ?hm_BadEndless ?x_BadBlock ?rf_BadBlock ?sa_BadBlock ?kc_BadBlock ?nb_BadBlock ?ai_BadBlock ?ti_BadBlock ?li_BadBlock ?ci_BadBlock ?ki_BadBlock ?ga_BadBlock ?gg_BadBlock ?hd_BadBlock ?ha_BadBlock ?hm_BadBlock ?xz_TooWide ?kc_TooWide ?ga_TooWide ?gg_TooWide ?hd_TooWide ?ha_TooWide ?hm_TooWide ?pg_Scheme ?hd_Scheme ?po_Scheme ?sa_Scheme ?mk_Scheme ?kc_Scheme ?am_Scheme___init__ ?im_Scheme___init__ ?lm_Scheme___init__ ?cm_Scheme___init__ ?km_Scheme___init__ ?am_Scheme___eq__ ?im_Scheme___eq__ ?lm_Scheme___eq__ ?cm_Scheme___eq__ ?km_Scheme___eq__ ?am_Scheme___len__ ?im_Scheme___len__ ?lm_Scheme___len__ ?cm_Scheme___len__ ?km_Scheme___len__ ?am_Scheme_is_column ?im_Scheme_is_column ?lm_Scheme_is_column ?cm_Scheme_is_column ?km_Scheme_is_column ?am_Scheme_is_colour ?im_Scheme_is_colour ?lm_Scheme_is_colour ?cm_Scheme_is_colour ?km_Scheme_is_colour ?am_Scheme_is_strip ?im_Scheme_is_strip ?lm_Scheme_is_strip ?cm_Scheme_is_strip ?km_Scheme_is_strip ?am_Scheme_check ?im_Scheme_check ?lm_Scheme_check ?cm_Scheme_check ?km_Scheme_check ?pg_Endless ?hd_Endless ?po_Endless ?sa_Endless ?mk_Endless ?kc_Endless ?am_Endless___init__ ?im_Endless___init__ ?lm_Endless___init__ ?cm_Endless___init__ ?km_Endless___init__ ?kw14_start ?am_Endless___eq__ ?im_Endless___eq__ ?lm_Endless___eq__ ?cm_Endless___eq__ ?km_Endless___eq__ ?am_Endless_column_at ?im_Endless_column_at ?lm_Endless_column_at ?cm_Endless_column_at ?km_Endless_column_at ?am_Endless_window ?im_Endless_window ?lm_Endless_window ?cm_Endless_window ?km_Endless_window ?am_Endless_moved ?im_Endless_moved ?lm_Endless_moved ?cm_Endless_moved ?km_Endless_moved ?pg_Block ?hd_Block ?po_Block ?sa_Block ?mk_Block ?kc_Block ?am_Block___init__ ?im_Block___init__ ?lm_Block___init__ ?cm_Block___init__ ?km_Block___init__ ?cg_Block_identity ?cr_Block_identity ?cf_Block_identity ?lm_Block_identity ?cm_Block_identity ?km_Block_identity ?cg_Block_shift ?cr_Block_shift ?cf_Block_shift ?lm_Block_shift ?cm_Block_shift ?km_Block_shift ?am_Block___call__ ?im_Block___call__ ?lm_Block___call__ ?cm_Block___call__ ?km_Block___call__ ?am_Block___eq__ ?im_Block___eq__ ?lm_Block___eq__ ?cm_Block___eq__ ?km_Block___eq__ ?am_Block___mul__ ?im_Block___mul__ ?lm_Block___mul__ ?cm_Block___mul__ ?km_Block___mul__ ?am_Block_inner ?im_Block_inner ?lm_Block_inner ?cm_Block_inner ?km_Block_inner ?am_Block_around ?im_Block_around ?lm_Block_around ?cm_Block_around ?km_Block_around ?am_Block_mirrored ?im_Block_mirrored ?lm_Block_mirrored ?cm_Block_mirrored ?km_Block_mirrored ?am_Block__made ?im_Block__made ?lm_Block__made ?cm_Block__made ?km_Block__made ?ad_check_alike ?ld_check_alike ?cd_check_alike ?kd_check_alike ?ad_endless_apart ?ld_endless_apart ?cd_endless_apart ?kd_endless_apart ?ad_is_loop ?ld_is_loop ?cd_is_loop ?kd_is_loop ?ad_apart ?ld_apart ?cd_apart ?kd_apart ?ad_is_narrow ?ld_is_narrow ?cd_is_narrow ?kd_is_narrow ?ad_words_of ?ld_words_of ?cd_words_of ?kd_words_of ?ad_least_form ?ld_least_form ?cd_least_form ?kd_least_form ?ad_is_blind ?ld_is_blind ?cd_is_blind ?kd_is_blind ?ad_law_source ?ld_law_source ?cd_law_source ?kd_law_source ?ad_law_draw ?ld_law_draw ?cd_law_draw ?kd_law_draw ?ad_law_strip ?ld_law_strip ?cd_law_strip ?kd_law_strip ?ad_law_is_integer ?ld_law_is_integer ?cd_law_is_integer ?kd_law_is_integer ?ad_law_windows ?ld_law_windows ?cd_law_windows ?kd_law_windows ?ad_law_table ?ld_law_table ?cd_law_table ?kd_law_table ?ad_law_shuffled ?ld_law_shuffled ?cd_law_shuffled ?kd_law_shuffled ?ad_law_permuted ?ld_law_permuted ?cd_law_permuted ?kd_law_permuted ?ad_law_results ?ld_law_results ?cd_law_results ?kd_law_results ?ad_law_inner ?ld_law_inner ?cd_law_inner ?kd_law_inner ?ad_law_around ?ld_law_around ?cd_law_around ?kd_law_around ?ad_law_least ?ld_law_least ?cd_law_least ?kd_law_least ?ad_law_joined ?ld_law_joined ?cd_law_joined ?kd_law_joined ?ad_law_power ?ld_law_power ?cd_law_power ?kd_law_power ?ad_law_column ?ld_law_column ?cd_law_column ?kd_law_column ?ad_law_text ?ld_law_text ?cd_law_text ?kd_law_text ?ad_law_made ?ld_law_made ?cd_law_made ?kd_law_made ?ad_law_image ?ld_law_image ?cd_law_image ?kd_law_image ?ad_law_shape ?ld_law_shape ?cd_law_shape ?kd_law_shape ?ad_law_block ?ld_law_block ?cd_law_block ?kd_law_block ?ad_law_parts ?ld_law_parts ?cd_law_parts ?kd_law_parts ?ad_law_strips ?ld_law_strips ?cd_law_strips ?kd_law_strips ?ad_law_is_block ?ld_law_is_block ?cd_law_is_block ?kd_law_is_block ?ad_law_strips_hold ?ld_law_strips_hold ?cd_law_strips_hold ?kd_law_strips_hold ?ad_law_product ?ld_law_product ?cd_law_product ?kd_law_product ?ad_law_product_holds ?ld_law_product_holds ?cd_law_product_holds ?kd_law_product_holds ?ad_law_call_holds ?ld_law_call_holds ?cd_law_call_holds ?kd_law_call_holds ?ad_law_mirrored_holds ?ld_law_mirrored_holds ?cd_law_mirrored_holds ?kd_law_mirrored_holds ?ad_law_shift ?ld_law_shift ?cd_law_shift ?kd_law_shift ?ad_law_shift_holds ?ld_law_shift_holds ?cd_law_shift_holds ?kd_law_shift_holds ?ad_law_identity_holds ?ld_law_identity_holds ?cd_law_identity_holds ?kd_law_identity_holds ?ad_law_refused ?ld_law_refused ?cd_law_refused ?kd_law_refused ?ad_law_unlike ?ld_law_unlike ?cd_law_unlike ?kd_law_unlike ?ad_law_unlike_call ?ld_law_unlike_call ?cd_law_unlike_call ?kd_law_unlike_call ?ad_law_errors_hold ?ld_law_errors_hold ?cd_law_errors_hold ?kd_law_errors_hold ?ad_law ?ld_law ?cd_law ?kd_law ?i_hn ?i_ht ?nn_Scheme_rows ?nn_Scheme_colours ?nn_Scheme_columns ?f_Scheme_MOST ?s_Scheme_MOST ?f_Scheme_BLANK ?s_Scheme_BLANK ?i_ha ?i_hm ?nf_Scheme_int ?nf_Scheme_str ?s_int_Scheme ?s_str_Scheme ?ne_Scheme ?nn_Endless_scheme ?nn_Endless_left ?nn_Endless_middle ?nn_Endless_right ?nn_Endless_start ?p_ha ?p_hm ?nf_Endless_int ?nf_Endless_str ?s_str_Endless ?nn_Block_scheme ?nn_Block_left ?nn_Block_right ?nn_Block_results ?nn_Block__news ?rS_Block ?gS_Block ?cv_Block_MOST ?u_ha ?u_hm ?nf_Block_int ?nf_Block_str ?s_int_Block ?s_str_Block ?sf_Block ?im_lcm ?ss_0 ?s_0_1 ?ne_0_1 ?s_0_2 ?ne_0_2 ?s_0_3 ?ne_0_3 ?s_0_4 ?ne_0_4 ?s_0_5 ?ne_0_5 ?s_0_6 ?ne_0_6 ?s_0_7 ?ne_0_7 ?s_1_0 ?ne_1_0 ?ss_1 ?s_1_2 ?ne_1_2 ?s_1_3 ?ne_1_3 ?s_1_4 ?ne_1_4 ?s_1_5 ?ne_1_5 ?s_1_6 ?ne_1_6 ?s_1_7 ?ne_1_7 ?s_2_0 ?ne_2_0 ?s_2_1 ?ne_2_1 ?ss_2 ?s_2_3 ?ne_2_3 ?s_2_4 ?ne_2_4 ?s_2_5 ?ne_2_5 ?s_2_6 ?ne_2_6 ?s_2_7 ?ne_2_7 ?s_3_0 ?ne_3_0 ?s_3_1 ?ne_3_1 ?s_3_2 ?ne_3_2 ?ss_3 ?s_3_4 ?ne_3_4 ?s_3_5 ?ne_3_5 ?s_3_6 ?ne_3_6 ?s_3_7 ?ne_3_7 ?s_4_0 ?ne_4_0 ?s_4_1 ?ne_4_1 ?s_4_2 ?ne_4_2 ?s_4_3 ?ne_4_3 ?ss_4 ?s_4_5 ?ne_4_5 ?s_4_6 ?ne_4_6 ?s_4_7 ?ne_4_7 ?s_5_0 ?ne_5_0 ?s_5_1 ?ne_5_1 ?s_5_2 ?ne_5_2 ?s_5_3 ?ne_5_3 ?s_5_4 ?ne_5_4 ?ss_5 ?s_5_6 ?ne_5_6 ?s_5_7 ?ne_5_7 ?s_6_0 ?ne_6_0 ?s_6_1 ?ne_6_1 ?s_6_2 ?ne_6_2 ?s_6_3 ?ne_6_3 ?s_6_4 ?ne_6_4 ?s_6_5 ?ne_6_5 ?ss_6 ?s_6_7 ?ne_6_7 ?s_7_0 ?ne_7_0 ?s_7_1 ?ne_7_1 ?s_7_2 ?ne_7_2 ?s_7_3 ?ne_7_3 ?s_7_4 ?ne_7_4 ?s_7_5 ?ne_7_5 ?s_7_6 ?ne_7_6 ?ss_7 ?sv_0 ?sv_1 ?sv_2 ?sv_3 ?sv_4 ?sv_5 ?sv_6 ?sv_7 ?sg_0 ?sg_1 ?sg_2 ?sg_3 ?sg_4 ?sg_5 ?sg_6 ?sg_7 ?ne_g_0 ?ne_g_1 ?ne_g_2 ?ne_g_3 ?ne_g_4 ?ne_g_5 ?ne_g_6 ?ne_g_7⟩
    (case a_GalloonError => k_is)
    (case a_UnlikeSchemes => k_is)
    (case a_BadScheme => k_is)
    (case a_BadColumn => k_is)
    (case a_BadSpots => k_is)
    (case a_BadStrip => k_is)
    (case a_BadEndless => k_is)
    (case a_BadBlock => k_is)
    (case a_TooWide => k_is)
    (case a_Scheme => k_is)
    (case a_Endless => k_is)
    (case a_Block => k_is)
    (case z_ValueError => k_is)
    (case z_abs => k_is)
    (case z_all => k_is)
    (case z_bool => k_is)
    (case z_classmethod => k_is)
    (case z_enumerate => k_is)
    (case z_int => k_is)
    (case z_isinstance => k_is)
    (case z_len => k_is)
    (case z_list => k_is)
    (case z_max => k_is)
    (case z_min => k_is)
    (case z_range => k_is)
    (case z_str => k_is)
    (case z_zip => k_is)
    (case v_DIGITS => k_is)
    (case v_LETTERS => k_is)
    (case v_MOST_LOOP => k_is)
    (case sB_GalloonError => k_is)
    (case ic_GalloonError => k_is)
    (case tc_GalloonError => k_is)
    (case sB_UnlikeSchemes => k_is)
    (case ic_UnlikeSchemes => k_is)
    (case tc_UnlikeSchemes => k_is)
    (case sB_BadScheme => k_is)
    (case ic_BadScheme => k_is)
    (case tc_BadScheme => k_is)
    (case sB_BadColumn => k_is)
    (case ic_BadColumn => k_is)
    (case tc_BadColumn => k_is)
    (case sB_BadSpots => k_is)
    (case ic_BadSpots => k_is)
    (case tc_BadSpots => k_is)
    (case sB_BadStrip => k_is)
    (case ic_BadStrip => k_is)
    (case tc_BadStrip => k_is)
    (case sB_BadEndless => k_is)
    (case ic_BadEndless => k_is)
    (case tc_BadEndless => k_is)
    (case sB_BadBlock => k_is)
    (case ic_BadBlock => k_is)
    (case tc_BadBlock => k_is)
    (case sB_TooWide => k_is)
    (case ic_TooWide => k_is)
    (case tc_TooWide => k_is)
    (case ic_Scheme => k_is)
    (case tc_Scheme => k_is)
    (case ic_Endless => k_is)
    (case tc_Endless => k_is)
    (case ic_Block => k_is)
    (case tc_Block => k_is)
    (case xz_UnlikeSchemes => k_exc)
    (case kc_UnlikeSchemes => k_is)
    (case ga_UnlikeSchemes => k_is)
    (case gg_UnlikeSchemes => k_is)
    (case hd_UnlikeSchemes => k_is)
    (case ha_UnlikeSchemes => k_is)
    (case hm_UnlikeSchemes => k_is)
    (case x_BadScheme => k_is)
    (case rf_BadScheme => decide +kernel)
    (case sa_BadScheme => k_is)
    (case kc_BadScheme => k_is)
    (case nb_BadScheme => k_is)
    (case ai_BadScheme => k_is)
    (case ti_BadScheme => k_is)
    (case li_BadScheme => k_is)
    (case ci_BadScheme => k_is)
    (case ki_BadScheme => k_is)
    (case ga_BadScheme => k_is)
    (case gg_BadScheme => k_is)
    (case hd_BadScheme => k_is)
    (case ha_BadScheme => k_is)
    (case hm_BadScheme => k_is)
    (case x_BadColumn => k_is)
    (case rf_BadColumn => decide +kernel)
    (case sa_BadColumn => k_is)
    (case kc_BadColumn => k_is)
    (case nb_BadColumn => k_is)
    (case ai_BadColumn => k_is)
    (case ti_BadColumn => k_is)
    (case li_BadColumn => k_is)
    (case ci_BadColumn => k_is)
    (case ki_BadColumn => k_is)
    (case ga_BadColumn => k_is)
    (case gg_BadColumn => k_is)
    (case hd_BadColumn => k_is)
    (case ha_BadColumn => k_is)
    (case hm_BadColumn => k_is)
    (case x_BadSpots => k_is)
    (case rf_BadSpots => decide +kernel)
    (case sa_BadSpots => k_is)
    (case kc_BadSpots => k_is)
    (case nb_BadSpots => k_is)
    (case ai_BadSpots => k_is)
    (case ti_BadSpots => k_is)
    (case li_BadSpots => k_is)
    (case ci_BadSpots => k_is)
    (case ki_BadSpots => k_is)
    (case ga_BadSpots => k_is)
    (case gg_BadSpots => k_is)
    (case hd_BadSpots => k_is)
    (case ha_BadSpots => k_is)
    (case hm_BadSpots => k_is)
    (case x_BadStrip => k_is)
    (case rf_BadStrip => decide +kernel)
    (case sa_BadStrip => k_is)
    (case kc_BadStrip => k_is)
    (case nb_BadStrip => k_is)
    (case ai_BadStrip => k_is)
    (case ti_BadStrip => k_is)
    (case li_BadStrip => k_is)
    (case ci_BadStrip => k_is)
    (case ki_BadStrip => k_is)
    (case ga_BadStrip => k_is)
    (case gg_BadStrip => k_is)
    (case hd_BadStrip => k_is)
    (case ha_BadStrip => k_is)
    (case hm_BadStrip => k_is)
    (case x_BadEndless => k_is)
    (case rf_BadEndless => decide +kernel)
    (case sa_BadEndless => k_is)
    (case kc_BadEndless => k_is)
    (case nb_BadEndless => k_is)
    (case ai_BadEndless => k_is)
    (case ti_BadEndless => k_is)
    (case li_BadEndless => k_is)
    (case ci_BadEndless => k_is)
    (case ki_BadEndless => k_is)
    (case ga_BadEndless => k_is)
    (case gg_BadEndless => k_is)
    (case hd_BadEndless => k_is)
    (case ha_BadEndless => k_is)
    (case hm_BadEndless => k_is)
    (case x_BadBlock => k_is)
    (case rf_BadBlock => decide +kernel)
    (case sa_BadBlock => k_is)
    (case kc_BadBlock => k_is)
    (case nb_BadBlock => k_is)
    (case ai_BadBlock => k_is)
    (case ti_BadBlock => k_is)
    (case li_BadBlock => k_is)
    (case ci_BadBlock => k_is)
    (case ki_BadBlock => k_is)
    (case ga_BadBlock => k_is)
    (case gg_BadBlock => k_is)
    (case hd_BadBlock => k_is)
    (case ha_BadBlock => k_is)
    (case hm_BadBlock => k_is)
    (case xz_TooWide => k_exc)
    (case kc_TooWide => k_is)
    (case ga_TooWide => k_is)
    (case gg_TooWide => k_is)
    (case hd_TooWide => k_is)
    (case ha_TooWide => k_is)
    (case hm_TooWide => k_is)
    (case pg_Scheme => k_is)
    (case hd_Scheme => k_is)
    (case po_Scheme => k_is)
    (case sa_Scheme => k_is)
    (case mk_Scheme => k_is)
    (case kc_Scheme => k_is)
    (case am_Scheme___init__ => k_is)
    (case im_Scheme___init__ => k_is)
    (case lm_Scheme___init__ => k_is)
    (case cm_Scheme___init__ => k_is)
    (case km_Scheme___init__ => k_is)
    (case am_Scheme___eq__ => k_is)
    (case im_Scheme___eq__ => k_is)
    (case lm_Scheme___eq__ => k_is)
    (case cm_Scheme___eq__ => k_is)
    (case km_Scheme___eq__ => k_is)
    (case am_Scheme___len__ => k_is)
    (case im_Scheme___len__ => k_is)
    (case lm_Scheme___len__ => k_is)
    (case cm_Scheme___len__ => k_is)
    (case km_Scheme___len__ => k_is)
    (case am_Scheme_is_column => k_is)
    (case im_Scheme_is_column => k_is)
    (case lm_Scheme_is_column => k_is)
    (case cm_Scheme_is_column => k_is)
    (case km_Scheme_is_column => k_is)
    (case am_Scheme_is_colour => k_is)
    (case im_Scheme_is_colour => k_is)
    (case lm_Scheme_is_colour => k_is)
    (case cm_Scheme_is_colour => k_is)
    (case km_Scheme_is_colour => k_is)
    (case am_Scheme_is_strip => k_is)
    (case im_Scheme_is_strip => k_is)
    (case lm_Scheme_is_strip => k_is)
    (case cm_Scheme_is_strip => k_is)
    (case km_Scheme_is_strip => k_is)
    (case am_Scheme_check => k_is)
    (case im_Scheme_check => k_is)
    (case lm_Scheme_check => k_is)
    (case cm_Scheme_check => k_is)
    (case km_Scheme_check => k_is)
    (case pg_Endless => k_is)
    (case hd_Endless => k_is)
    (case po_Endless => k_is)
    (case sa_Endless => k_is)
    (case mk_Endless => k_is)
    (case kc_Endless => k_is)
    (case am_Endless___init__ => k_is)
    (case im_Endless___init__ => k_is)
    (case lm_Endless___init__ => k_is)
    (case cm_Endless___init__ => k_is)
    (case km_Endless___init__ => k_is)
    (case kw14_start => k_is)
    (case am_Endless___eq__ => k_is)
    (case im_Endless___eq__ => k_is)
    (case lm_Endless___eq__ => k_is)
    (case cm_Endless___eq__ => k_is)
    (case km_Endless___eq__ => k_is)
    (case am_Endless_column_at => k_is)
    (case im_Endless_column_at => k_is)
    (case lm_Endless_column_at => k_is)
    (case cm_Endless_column_at => k_is)
    (case km_Endless_column_at => k_is)
    (case am_Endless_window => k_is)
    (case im_Endless_window => k_is)
    (case lm_Endless_window => k_is)
    (case cm_Endless_window => k_is)
    (case km_Endless_window => k_is)
    (case am_Endless_moved => k_is)
    (case im_Endless_moved => k_is)
    (case lm_Endless_moved => k_is)
    (case cm_Endless_moved => k_is)
    (case km_Endless_moved => k_is)
    (case pg_Block => k_is)
    (case hd_Block => k_is)
    (case po_Block => k_is)
    (case sa_Block => k_is)
    (case mk_Block => k_is)
    (case kc_Block => k_is)
    (case am_Block___init__ => k_is)
    (case im_Block___init__ => k_is)
    (case lm_Block___init__ => k_is)
    (case cm_Block___init__ => k_is)
    (case km_Block___init__ => k_is)
    (case cg_Block_identity => k_is)
    (case cr_Block_identity => k_is)
    (case cf_Block_identity => k_is)
    (case lm_Block_identity => k_is)
    (case cm_Block_identity => k_is)
    (case km_Block_identity => k_is)
    (case cg_Block_shift => k_is)
    (case cr_Block_shift => k_is)
    (case cf_Block_shift => k_is)
    (case lm_Block_shift => k_is)
    (case cm_Block_shift => k_is)
    (case km_Block_shift => k_is)
    (case am_Block___call__ => k_is)
    (case im_Block___call__ => k_is)
    (case lm_Block___call__ => k_is)
    (case cm_Block___call__ => k_is)
    (case km_Block___call__ => k_is)
    (case am_Block___eq__ => k_is)
    (case im_Block___eq__ => k_is)
    (case lm_Block___eq__ => k_is)
    (case cm_Block___eq__ => k_is)
    (case km_Block___eq__ => k_is)
    (case am_Block___mul__ => k_is)
    (case im_Block___mul__ => k_is)
    (case lm_Block___mul__ => k_is)
    (case cm_Block___mul__ => k_is)
    (case km_Block___mul__ => k_is)
    (case am_Block_inner => k_is)
    (case im_Block_inner => k_is)
    (case lm_Block_inner => k_is)
    (case cm_Block_inner => k_is)
    (case km_Block_inner => k_is)
    (case am_Block_around => k_is)
    (case im_Block_around => k_is)
    (case lm_Block_around => k_is)
    (case cm_Block_around => k_is)
    (case km_Block_around => k_is)
    (case am_Block_mirrored => k_is)
    (case im_Block_mirrored => k_is)
    (case lm_Block_mirrored => k_is)
    (case cm_Block_mirrored => k_is)
    (case km_Block_mirrored => k_is)
    (case am_Block__made => k_is)
    (case im_Block__made => k_is)
    (case lm_Block__made => k_is)
    (case cm_Block__made => k_is)
    (case km_Block__made => k_is)
    (case ad_check_alike => k_is)
    (case ld_check_alike => k_is)
    (case cd_check_alike => k_is)
    (case kd_check_alike => k_is)
    (case ad_endless_apart => k_is)
    (case ld_endless_apart => k_is)
    (case cd_endless_apart => k_is)
    (case kd_endless_apart => k_is)
    (case ad_is_loop => k_is)
    (case ld_is_loop => k_is)
    (case cd_is_loop => k_is)
    (case kd_is_loop => k_is)
    (case ad_apart => k_is)
    (case ld_apart => k_is)
    (case cd_apart => k_is)
    (case kd_apart => k_is)
    (case ad_is_narrow => k_is)
    (case ld_is_narrow => k_is)
    (case cd_is_narrow => k_is)
    (case kd_is_narrow => k_is)
    (case ad_words_of => k_is)
    (case ld_words_of => k_is)
    (case cd_words_of => k_is)
    (case kd_words_of => k_is)
    (case ad_least_form => k_is)
    (case ld_least_form => k_is)
    (case cd_least_form => k_is)
    (case kd_least_form => k_is)
    (case ad_is_blind => k_is)
    (case ld_is_blind => k_is)
    (case cd_is_blind => k_is)
    (case kd_is_blind => k_is)
    (case ad_law_source => k_is)
    (case ld_law_source => k_is)
    (case cd_law_source => k_is)
    (case kd_law_source => k_is)
    (case ad_law_draw => k_is)
    (case ld_law_draw => k_is)
    (case cd_law_draw => k_is)
    (case kd_law_draw => k_is)
    (case ad_law_strip => k_is)
    (case ld_law_strip => k_is)
    (case cd_law_strip => k_is)
    (case kd_law_strip => k_is)
    (case ad_law_is_integer => k_is)
    (case ld_law_is_integer => k_is)
    (case cd_law_is_integer => k_is)
    (case kd_law_is_integer => k_is)
    (case ad_law_windows => k_is)
    (case ld_law_windows => k_is)
    (case cd_law_windows => k_is)
    (case kd_law_windows => k_is)
    (case ad_law_table => k_is)
    (case ld_law_table => k_is)
    (case cd_law_table => k_is)
    (case kd_law_table => k_is)
    (case ad_law_shuffled => k_is)
    (case ld_law_shuffled => k_is)
    (case cd_law_shuffled => k_is)
    (case kd_law_shuffled => k_is)
    (case ad_law_permuted => k_is)
    (case ld_law_permuted => k_is)
    (case cd_law_permuted => k_is)
    (case kd_law_permuted => k_is)
    (case ad_law_results => k_is)
    (case ld_law_results => k_is)
    (case cd_law_results => k_is)
    (case kd_law_results => k_is)
    (case ad_law_inner => k_is)
    (case ld_law_inner => k_is)
    (case cd_law_inner => k_is)
    (case kd_law_inner => k_is)
    (case ad_law_around => k_is)
    (case ld_law_around => k_is)
    (case cd_law_around => k_is)
    (case kd_law_around => k_is)
    (case ad_law_least => k_is)
    (case ld_law_least => k_is)
    (case cd_law_least => k_is)
    (case kd_law_least => k_is)
    (case ad_law_joined => k_is)
    (case ld_law_joined => k_is)
    (case cd_law_joined => k_is)
    (case kd_law_joined => k_is)
    (case ad_law_power => k_is)
    (case ld_law_power => k_is)
    (case cd_law_power => k_is)
    (case kd_law_power => k_is)
    (case ad_law_column => k_is)
    (case ld_law_column => k_is)
    (case cd_law_column => k_is)
    (case kd_law_column => k_is)
    (case ad_law_text => k_is)
    (case ld_law_text => k_is)
    (case cd_law_text => k_is)
    (case kd_law_text => k_is)
    (case ad_law_made => k_is)
    (case ld_law_made => k_is)
    (case cd_law_made => k_is)
    (case kd_law_made => k_is)
    (case ad_law_image => k_is)
    (case ld_law_image => k_is)
    (case cd_law_image => k_is)
    (case kd_law_image => k_is)
    (case ad_law_shape => k_is)
    (case ld_law_shape => k_is)
    (case cd_law_shape => k_is)
    (case kd_law_shape => k_is)
    (case ad_law_block => k_is)
    (case ld_law_block => k_is)
    (case cd_law_block => k_is)
    (case kd_law_block => k_is)
    (case ad_law_parts => k_is)
    (case ld_law_parts => k_is)
    (case cd_law_parts => k_is)
    (case kd_law_parts => k_is)
    (case ad_law_strips => k_is)
    (case ld_law_strips => k_is)
    (case cd_law_strips => k_is)
    (case kd_law_strips => k_is)
    (case ad_law_is_block => k_is)
    (case ld_law_is_block => k_is)
    (case cd_law_is_block => k_is)
    (case kd_law_is_block => k_is)
    (case ad_law_strips_hold => k_is)
    (case ld_law_strips_hold => k_is)
    (case cd_law_strips_hold => k_is)
    (case kd_law_strips_hold => k_is)
    (case ad_law_product => k_is)
    (case ld_law_product => k_is)
    (case cd_law_product => k_is)
    (case kd_law_product => k_is)
    (case ad_law_product_holds => k_is)
    (case ld_law_product_holds => k_is)
    (case cd_law_product_holds => k_is)
    (case kd_law_product_holds => k_is)
    (case ad_law_call_holds => k_is)
    (case ld_law_call_holds => k_is)
    (case cd_law_call_holds => k_is)
    (case kd_law_call_holds => k_is)
    (case ad_law_mirrored_holds => k_is)
    (case ld_law_mirrored_holds => k_is)
    (case cd_law_mirrored_holds => k_is)
    (case kd_law_mirrored_holds => k_is)
    (case ad_law_shift => k_is)
    (case ld_law_shift => k_is)
    (case cd_law_shift => k_is)
    (case kd_law_shift => k_is)
    (case ad_law_shift_holds => k_is)
    (case ld_law_shift_holds => k_is)
    (case cd_law_shift_holds => k_is)
    (case kd_law_shift_holds => k_is)
    (case ad_law_identity_holds => k_is)
    (case ld_law_identity_holds => k_is)
    (case cd_law_identity_holds => k_is)
    (case kd_law_identity_holds => k_is)
    (case ad_law_refused => k_is)
    (case ld_law_refused => k_is)
    (case cd_law_refused => k_is)
    (case kd_law_refused => k_is)
    (case ad_law_unlike => k_is)
    (case ld_law_unlike => k_is)
    (case cd_law_unlike => k_is)
    (case kd_law_unlike => k_is)
    (case ad_law_unlike_call => k_is)
    (case ld_law_unlike_call => k_is)
    (case cd_law_unlike_call => k_is)
    (case kd_law_unlike_call => k_is)
    (case ad_law_errors_hold => k_is)
    (case ld_law_errors_hold => k_is)
    (case cd_law_errors_hold => k_is)
    (case kd_law_errors_hold => k_is)
    (case ad_law => k_is)
    (case ld_law => k_is)
    (case cd_law => k_is)
    (case kd_law => k_is)
    (case i_hn => k_is)
    (case i_ht => k_is)
    (case nn_Scheme_rows => k_is)
    (case nn_Scheme_colours => k_is)
    (case nn_Scheme_columns => k_is)
    (case f_Scheme_MOST => k_is)
    (case s_Scheme_MOST => k_is)
    (case f_Scheme_BLANK => k_is)
    (case s_Scheme_BLANK => k_is)
    (case i_ha => k_is)
    (case i_hm => k_is)
    (case nf_Scheme_int => k_is)
    (case nf_Scheme_str => k_is)
    (case s_int_Scheme => k_is)
    (case s_str_Scheme => k_is)
    (case ne_Scheme => k_is)
    (case nn_Endless_scheme => k_is)
    (case nn_Endless_left => k_is)
    (case nn_Endless_middle => k_is)
    (case nn_Endless_right => k_is)
    (case nn_Endless_start => k_is)
    (case p_ha => k_is)
    (case p_hm => k_is)
    (case nf_Endless_int => k_is)
    (case nf_Endless_str => k_is)
    (case s_str_Endless => k_is)
    (case nn_Block_scheme => k_is)
    (case nn_Block_left => k_is)
    (case nn_Block_right => k_is)
    (case nn_Block_results => k_is)
    (case nn_Block__news => k_is)
    (case rS_Block => k_is)
    (case gS_Block => k_is)
    (case cv_Block_MOST => k_is)
    (case u_ha => k_is)
    (case u_hm => k_is)
    (case nf_Block_int => k_is)
    (case nf_Block_str => k_is)
    (case s_int_Block => k_is)
    (case s_str_Block => k_is)
    (case sf_Block => k_is)
    (case im_lcm => k_is)
    (case ss_0 => k_is)
    (case s_0_1 => k_is)
    (case ne_0_1 => first | rfl | decide)
    (case s_0_2 => k_is)
    (case ne_0_2 => first | rfl | decide)
    (case s_0_3 => k_is)
    (case ne_0_3 => first | rfl | decide)
    (case s_0_4 => k_is)
    (case ne_0_4 => first | rfl | decide)
    (case s_0_5 => k_is)
    (case ne_0_5 => first | rfl | decide)
    (case s_0_6 => k_is)
    (case ne_0_6 => first | rfl | decide)
    (case s_0_7 => k_is)
    (case ne_0_7 => first | rfl | decide)
    (case s_1_0 => k_is)
    (case ne_1_0 => first | rfl | decide)
    (case ss_1 => k_is)
    (case s_1_2 => k_is)
    (case ne_1_2 => first | rfl | decide)
    (case s_1_3 => k_is)
    (case ne_1_3 => first | rfl | decide)
    (case s_1_4 => k_is)
    (case ne_1_4 => first | rfl | decide)
    (case s_1_5 => k_is)
    (case ne_1_5 => first | rfl | decide)
    (case s_1_6 => k_is)
    (case ne_1_6 => first | rfl | decide)
    (case s_1_7 => k_is)
    (case ne_1_7 => first | rfl | decide)
    (case s_2_0 => k_is)
    (case ne_2_0 => first | rfl | decide)
    (case s_2_1 => k_is)
    (case ne_2_1 => first | rfl | decide)
    (case ss_2 => k_is)
    (case s_2_3 => k_is)
    (case ne_2_3 => first | rfl | decide)
    (case s_2_4 => k_is)
    (case ne_2_4 => first | rfl | decide)
    (case s_2_5 => k_is)
    (case ne_2_5 => first | rfl | decide)
    (case s_2_6 => k_is)
    (case ne_2_6 => first | rfl | decide)
    (case s_2_7 => k_is)
    (case ne_2_7 => first | rfl | decide)
    (case s_3_0 => k_is)
    (case ne_3_0 => first | rfl | decide)
    (case s_3_1 => k_is)
    (case ne_3_1 => first | rfl | decide)
    (case s_3_2 => k_is)
    (case ne_3_2 => first | rfl | decide)
    (case ss_3 => k_is)
    (case s_3_4 => k_is)
    (case ne_3_4 => first | rfl | decide)
    (case s_3_5 => k_is)
    (case ne_3_5 => first | rfl | decide)
    (case s_3_6 => k_is)
    (case ne_3_6 => first | rfl | decide)
    (case s_3_7 => k_is)
    (case ne_3_7 => first | rfl | decide)
    (case s_4_0 => k_is)
    (case ne_4_0 => first | rfl | decide)
    (case s_4_1 => k_is)
    (case ne_4_1 => first | rfl | decide)
    (case s_4_2 => k_is)
    (case ne_4_2 => first | rfl | decide)
    (case s_4_3 => k_is)
    (case ne_4_3 => first | rfl | decide)
    (case ss_4 => k_is)
    (case s_4_5 => k_is)
    (case ne_4_5 => first | rfl | decide)
    (case s_4_6 => k_is)
    (case ne_4_6 => first | rfl | decide)
    (case s_4_7 => k_is)
    (case ne_4_7 => first | rfl | decide)
    (case s_5_0 => k_is)
    (case ne_5_0 => first | rfl | decide)
    (case s_5_1 => k_is)
    (case ne_5_1 => first | rfl | decide)
    (case s_5_2 => k_is)
    (case ne_5_2 => first | rfl | decide)
    (case s_5_3 => k_is)
    (case ne_5_3 => first | rfl | decide)
    (case s_5_4 => k_is)
    (case ne_5_4 => first | rfl | decide)
    (case ss_5 => k_is)
    (case s_5_6 => k_is)
    (case ne_5_6 => first | rfl | decide)
    (case s_5_7 => k_is)
    (case ne_5_7 => first | rfl | decide)
    (case s_6_0 => k_is)
    (case ne_6_0 => first | rfl | decide)
    (case s_6_1 => k_is)
    (case ne_6_1 => first | rfl | decide)
    (case s_6_2 => k_is)
    (case ne_6_2 => first | rfl | decide)
    (case s_6_3 => k_is)
    (case ne_6_3 => first | rfl | decide)
    (case s_6_4 => k_is)
    (case ne_6_4 => first | rfl | decide)
    (case s_6_5 => k_is)
    (case ne_6_5 => first | rfl | decide)
    (case ss_6 => k_is)
    (case s_6_7 => k_is)
    (case ne_6_7 => first | rfl | decide)
    (case s_7_0 => k_is)
    (case ne_7_0 => first | rfl | decide)
    (case s_7_1 => k_is)
    (case ne_7_1 => first | rfl | decide)
    (case s_7_2 => k_is)
    (case ne_7_2 => first | rfl | decide)
    (case s_7_3 => k_is)
    (case ne_7_3 => first | rfl | decide)
    (case s_7_4 => k_is)
    (case ne_7_4 => first | rfl | decide)
    (case s_7_5 => k_is)
    (case ne_7_5 => first | rfl | decide)
    (case s_7_6 => k_is)
    (case ne_7_6 => first | rfl | decide)
    (case ss_7 => k_is)
    (case sv_0 => k_is)
    (case sv_1 => k_is)
    (case sv_2 => k_is)
    (case sv_3 => k_is)
    (case sv_4 => k_is)
    (case sv_5 => k_is)
    (case sv_6 => k_is)
    (case sv_7 => k_is)
    (case sg_0 => k_is)
    (case sg_1 => k_is)
    (case sg_2 => k_is)
    (case sg_3 => k_is)
    (case sg_4 => k_is)
    (case sg_5 => k_is)
    (case sg_6 => k_is)
    (case sg_7 => k_is)
    (case ne_g_0 => first | rfl | decide)
    (case ne_g_1 => first | rfl | decide)
    (case ne_g_2 => first | rfl | decide)
    (case ne_g_3 => first | rfl | decide)
    (case ne_g_4 => first | rfl | decide)
    (case ne_g_5 => first | rfl | decide)
    (case ne_g_6 => first | rfl | decide)
    (case ne_g_7 => first | rfl | decide)

