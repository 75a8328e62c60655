import PyProof.Rows.All
import Wide.All
import OpenK.AllK
import Wide.FinOn
import KE.KStateDown
import HandS.Base
import HandS.Call
import HandS.Ends
import HandS.Exc
import HandS.HeadHook1
import HandS.HeadHook2
import HandS.HeadHook3
import HandS.Head0
import HandS.Head1
import HandS.Head2
import HandS.ForMost
import HandS.TryOnly
import HandS.ExcOwn
import HandS.WordsExc
import HandS.ExcInit
import HandS.ExcField
import HandS.ExcIs
import HandS.HotCalls
import HandS.IsInst
import HandS.ClsMeth
import HandS.More
import KE.KExcIs
import HandS.StrMore
import HandS.Walk
import HandS.Codes
import KE.GoesEnumKw
import KE.GoesMore
import PyProof.ListStr
import KE.KCallOwn
import HandS.Star
import PyProof.CollectStr
import HandS.Strs
import KE.GoesZip
import HandS.Zip
import HandS.Small
import HandS.DictComp
import PyProof.StrLawsFrom
import PyProof.Rows.StrCountLaw
import KE.DataEq
import KE.KDictZip
import KE.GoesEnum
import HandS.MakeKwOnly
import KE.KRevSl
import HandS.Style
import HandS.Sort
import PyProof.StrBlock2
import HandS.Gcd
import KE.KOpsOwn
import HandS.Property
import HandS.Iter
import HandS.Conv
import PyProof.DictFindH
import PyProof.EqAt
import PyProof.EqKinds
import KE.KEqDict
import HandS.List
import HandS.Dict
import HandS.Set
import HandS.SetFor
import OpenK.KMeth
import HandS.SortRule
import KE.KSortTupAny
import HandS.FStr
import PyProof.EnumMake
import PySem.Challenge.RW_galloon_k32_fonts_and_prints
import HandS.TupSets
import HandS.HeadWalk
set_option Elab.async false
set_option linter.all false
set_option maxRecDepth 100000
section
set_option Elab.async false
set_option linter.all false
set_option maxRecDepth 100000
set_option maxHeartbeats 2000000
/-! The head by one run: my own Hook. -/
namespace Hd
open PySem PySem.Spec PyProof.Rows L2 He
/-! ### what stands where -/
abbrev FnV : Type := Option (Str × Str × Arguments × FuncBody × Scope × Addr × List (Str × Addr) × Addr)
def fnV (K : PySem.W.Frag) (a : Addr) : FnV := match K.lookup a with
  | some ⟨_, _, .func fd, _⟩ => some (fd.name, fd.qualname, fd.params, fd.body, fd.scope, fd.globals, fd.closure, fd.builtins)
  | _ => none
structure FnS where
  at_ : PySem.W.Frag → Addr
  name : Str
  qual : Str
  params : Arguments
  body : List Stmt
  scope : Scope
def FnS.val (d : FnS) : FnV := some (d.name, d.qual, d.params, .stmts d.body, d.scope, mainGlobals, [], builtinsNs)
def FnS.okB (K : PySem.W.Frag) (d : FnS) : Bool := match K.lookup (d.at_ K) with
  | some ⟨_, _, .func fd, _⟩ => decide (fd.defaults = .none) && PySem.W.codeIn K fd.code d.qual
  | _ => false
/-- the dict of a def's keyword defaults -/
def kwD (K : PySem.W.Frag) (f : Addr) : Addr := match K.lookup f with
  | some ⟨_, _, .func fd, _⟩ => (match fd.kwdefaults with
    | .ref D => D
    | _ => 0)
  | _ => 0
def kwR (K : PySem.W.Frag) (f : Addr) : Bool := match K.lookup f with
  | some ⟨_, _, .func fd, _⟩ => (match fd.kwdefaults with
    | .ref _ => true
    | _ => false)
  | _ => false
theorem fn_at {K : PySem.W.Frag} {d : FnS} (e : fnV K (d.at_ K) = d.val) (c : d.okB K = true) :
    ∃ oc od osl kV doc pm an cdv ct, K.lookup (d.at_ K) = some ⟨oc, od, .func (PySem.W.fnOf d.name d.qual d.params d.body d.scope .none kV doc pm an cdv ct), osl⟩ ∧ PySem.W.codeIn K cdv d.qual = true := by
  unfold FnS.okB at c
  unfold fnV at e
  cases q : K.lookup (d.at_ K) with
  | none =>
    rw [q] at c
    cases c
  | some o =>
    obtain ⟨oc, od, dt, osl⟩ := o
    rw [q] at c e
    cases dt with
    | func fd =>
      obtain ⟨n1, n2, n3, n4, n5, n6, n7, n8, n9, n10, n11, n12, n13, n14, n15⟩ := fd
      have e2 : (some (n1, n2, n3, n4, n5, n6, n7, n15) : FnV) = some (d.name, d.qual, d.params, .stmts d.body, d.scope, mainGlobals, [], builtinsNs) := e
      simp only [Option.some.injEq, Prod.mk.injEq] at e2
      obtain ⟨h1, h2, h3, h4, h5, h6, h7, h8⟩ := e2
      subst h1 h2 h3 h4 h5 h6 h7 h8
      obtain ⟨c1, c2⟩ := ba (show (decide (n8 = .none) && PySem.W.codeIn K n13 d.qual) = true from c)
      have c3 : n8 = .none := of_decide_eq_true c1
      subst c3
      exact ⟨oc, od, osl, n9, n10, n11, n12, n13, n14, rfl, c2⟩
    | _ => cases c
theorem fn_kw {K : PySem.W.Frag} {d : FnS} (e : fnV K (d.at_ K) = d.val) (c : d.okB K = true) (r : kwR K (d.at_ K) = true) :
    ∃ oc od osl doc pm an cdv ct, K.lookup (d.at_ K) = some ⟨oc, od, .func (PySem.W.fnOf d.name d.qual d.params d.body d.scope .none (.ref (kwD K (d.at_ K))) doc pm an cdv ct), osl⟩ ∧ PySem.W.codeIn K cdv d.qual = true := by
  obtain ⟨oc, od, osl, kV, doc, pm, an, cdv, ct, lk, hc⟩ := fn_at e c
  unfold kwR at r
  rw [lk] at r
  cases kV with
  | ref D =>
    refine ⟨oc, od, osl, doc, pm, an, cdv, ct, ?_, hc⟩
    have : kwD K (d.at_ K) = D := by
      unfold kwD
      rw [lk]
    rw [this]
    exact lk
  | _ => cases r
/-- an exception class of the program -/
def excB (K : PySem.W.Frag) (C : Addr) : Bool := match K.lookup C with
  | some ⟨c, _, .cls ⟨_, _, m, _, _, hd, _, _, _, _, dl⟩, ⟨sl⟩⟩ => decide (c = .type "type") && (decide (hd = true) && (decide (dl = false) && ((match m with
    | c :: r => decide (c = .ref C) && PySem.HandSPX.refsVE r
    | [] => false) && (match sl with
    | [_, _, _, _, k, _] => decide (k = some (.builtin "ValueError.__new__"))
    | _ => false))))
  | _ => false
theorem excB_ok {K : PySem.W.Frag} {C : Addr} (h : excB K C = true) : ∃ nm qn N bs bm sn sub ab col dd m0 m1 m2 m3 m5, K.lookup C = some (excClassObj nm qn C N bs bm true sn sub ab col dd m0 m1 m2 m3 m5 "ValueError.__new__") ∧ PySem.HandSPX.refsVE bm = true := by
  unfold excB at h
  cases q : K.lookup C with
  | none =>
    rw [q] at h
    cases h
  | some o =>
    obtain ⟨oc, od, dt, ⟨sl⟩⟩ := o
    rw [q] at h
    cases dt with
    | cls cd =>
      obtain ⟨nm, bs, m, N, qn, hd, sn, sub, ab, col, dl⟩ := cd
      obtain ⟨h1, h⟩ := ba h
      obtain ⟨h2, h⟩ := ba h
      obtain ⟨h3, h⟩ := ba h
      obtain ⟨h4, h5⟩ := ba h
      have e1 : oc = .type "type" := of_decide_eq_true h1
      have e2 : hd = true := of_decide_eq_true h2
      have e3 : dl = false := of_decide_eq_true h3
      subst e1 e2 e3
      match m, sl, h4, h5 with
      | c :: r, [k0, k1, k2, k3, k4, k5], h4, h5 =>
        obtain ⟨g1, g2⟩ := ba h4
        have e4 : c = .ref C := of_decide_eq_true g1
        have e5 : k4 = some (.builtin "ValueError.__new__") := of_decide_eq_true h5
        subst e4 e5
        exact ⟨_, _, _, _, _, _, _, _, _, _, _, _, _, _, _, rfl, g2⟩
    | _ => cases h
def tgV : Value → Nat
  | .str _ t => t
  | .int _ t => t
  | _ => 0
def tgO : Option (Option Value) → Nat
  | some (some v) => tgV v
  | _ => 0
def cfV : Option PySem.W.CFound → Option Value
  | some (.val v) => some v
  | _ => none
theorem cfV_ok {o : Option PySem.W.CFound} {v : Value} (h : cfV o = some v) : o = some (.val v) := by
  cases o with
  | none => cases h
  | some c =>
    cases c with
    | val w =>
      have e : w = v := Option.some.inj h
      rw [e]
    | get g a o t => cases h
def cfG : Option PySem.W.CFound → Option (Value × Value × Value × Value)
  | some (.get g a o t) => some (g, a, o, t)
  | _ => none
theorem cfG_ok {o : Option PySem.W.CFound} {g a b t : Value} (h : cfG o = some (g, a, b, t)) : o = some (.get g a b t) := by
  cases o with
  | none => cases h
  | some c =>
    cases c with
    | val w => cases h
    | get g' a' b' t' =>
      have e : (g', a', b', t') = (g, a, b, t) := Option.some.inj h
      obtain ⟨e1, e2⟩ := Prod.mk.inj e
      obtain ⟨e2, e3⟩ := Prod.mk.inj e2
      obtain ⟨e3, e4⟩ := Prod.mk.inj e3
      rw [e1, e2, e3, e4]
def cmP (K : PySem.W.Frag) (C : Addr) (m : Str) : Addr := match PySem.W.findCls K (.ref C) (.type "type") m with
  | some (.get _ (.ref p) _ _) => p
  | _ => 0
def cmF (K : PySem.W.Frag) (p : Addr) : Addr := match PySem.W.recIn K p "classmethod" with
  | some (.ref f :: _) => f
  | _ => 0
def cmR (K : PySem.W.Frag) (p : Addr) : List Value := match PySem.W.recIn K p "classmethod" with
  | some (_ :: r) => r
  | _ => []
def prF (K : PySem.W.Frag) (p : Addr) : Addr := match PySem.W.recIn K p "property" with
  | some (.ref f :: _) => f
  | _ => 0
def prR (K : PySem.W.Frag) (p : Addr) : List Value := match PySem.W.recIn K p "property" with
  | some (_ :: r) => r
  | _ => []
/-! ### the Hook -/
def asR (g : Addr → Option Obj) : Nat → List Addr
  | 0 => [mainGlobals, cStatics]
  | n + 1 => growD g (asR g n)
abbrev Al : Type := Bool × List FnV
def obsK (fb : PySem.W.Frag → Bool) (fn : List FnS) (K : PySem.W.Frag) : Al := (fb K && fn.all fun d => d.okB K, fn.map fun d => fnV K (d.at_ K))
def valH (fn : List FnS) : Al := (true, fn.map FnS.val)
def Says (fb : PySem.W.Frag → Bool) (fn : List FnS) (K : PySem.W.Frag) : Prop := obsK fb fn K = valH fn
def obsH (n : Nat) (fb : PySem.W.Frag → Bool) (fn : List FnS) (g : Addr → Option Obj) : Al := obsK fb fn (frG g (asR g n))
def hook (n : Nat) (fb : PySem.W.Frag → Bool) (fn : List FnS) : PySem.W.Hook where
  α := Al
  obs := fun s => obsH n fb fn s.heap.get?
  val := fun _ => valH fn
  says := fun _ h => ∃ K : PySem.W.Frag, K.In h ∧ Says fb fn K
  of := fun _ _ e => ⟨_, frG_in, e⟩
  keeps := fun _ _ _ ⟨K, hK, c⟩ k => ⟨K, PySem.W.Frag.In.keeps hK k, c⟩
theorem obsH_eq {n : Nat} {fb : PySem.W.Frag → Bool} {fn : List FnS} {g : Addr → Option Obj} {s : Shared} (h : ∀ a, g a = s.heap.get? a) : obsH n fb fn g = (hook n fb fn).obs s := by
  have e : g = s.heap.get? := funext h
  rw [e] <;> rfl
section
variable {fb : PySem.W.Frag → Bool} {fn : List FnS} {K : PySem.W.Frag}
theorem Says.b (c : Says fb fn K) : fb K = true := (ba (show (fb K && fn.all fun d => d.okB K) = true from congrArg (fun z : Al => z.1) c)).1
theorem Says.v (c : Says fb fn K) {d : FnS} (h : d ∈ fn) : fnV K (d.at_ K) = d.val ∧ d.okB K = true := by
  have c2 := (ba (show (fb K && fn.all fun d => d.okB K) = true from congrArg (fun z : Al => z.1) c)).2
  have e : fn.map (fun d => fnV K (d.at_ K)) = fn.map FnS.val := congrArg (fun z : Al => z.2) c
  exact ⟨List.map_inj_left.mp e d h, List.all_eq_true.mp c2 d h⟩
theorem Says.fnA (c : Says fb fn K) {d : FnS} (h : d ∈ fn) :
    ∃ oc od osl kV doc pm an cdv ct, K.lookup (d.at_ K) = some ⟨oc, od, .func (PySem.W.fnOf d.name d.qual d.params d.body d.scope .none kV doc pm an cdv ct), osl⟩ ∧ PySem.W.codeIn K cdv d.qual = true := fn_at (c.v h).1 (c.v h).2
theorem Says.fnk (c : Says fb fn K) {d : FnS} (h : d ∈ fn) (r : kwR K (d.at_ K) = true) :
    ∃ oc od osl doc pm an cdv ct, K.lookup (d.at_ K) = some ⟨oc, od, .func (PySem.W.fnOf d.name d.qual d.params d.body d.scope .none (.ref (kwD K (d.at_ K))) doc pm an cdv ct), osl⟩ ∧ PySem.W.codeIn K cdv d.qual = true := fn_kw (c.v h).1 (c.v h).2 r
end
end Hd

end
section
set_option Elab.async false
set_option maxRecDepth 100000
set_option maxHeartbeats 4000000
namespace Kit
open PySem PySem.Spec PyProof.Rows L2
abbrev St := L2.St

/-! ### defs as they stand in the text, and what they promise -/
structure DefT (K : PySem.W.Frag) (mg : Str → Option Value) (x : Str) (st : Stmt) : Prop where
  ex : ∃ (f : Addr) (fd : FuncData), Fun K x x st f fd ∧ mg x = some (.ref f)
structure MetT (K : PySem.W.Frag) (C : Addr) (m q : Str) (st : Stmt) : Prop where
  ex : ∃ (f : Addr) (fd : FuncData), Fun K m q st f fd ∧ Meth K C m f
structure ClsT (K : PySem.W.Frag) (mg : Str → Option Value) (C : Addr) (x : Str) : Prop where
  cl : Cls K C
  gC : mg x = some (.ref C)
  mak : PySem.W.makesIn K C = true
  kp : PySem.W.keepIn K (.ref C) = true
section
variable (P : Program) (w : World) (K : PySem.W.Frag) (mg : Str → Option Value) (base : Heap)
structure Can (k : Nat) (x : Str) (sp : Sp) : Prop where
  ex : ∃ (f : Addr) (fd : FuncData) (ps : List Str), FnOk P w K mg base (L2.CX P w) k f fd ps sp ∧ mg x = some (.ref f) ∧ PySem.W.keepIn K (.ref f) = true ∧ Binds K fd ps []
structure CanM (k : Nat) (C : Addr) (m : Str) (sp : Sp) : Prop where
  ex : ∃ (f : Addr) (fd : FuncData) (ps : List Str), FnOk P w K mg base (L2.CX P w) k f fd ps sp ∧ Cls K C ∧ Meth K C m f ∧ Binds K fd ps []
structure CanN (k : Nat) (C : Addr) (x : Str) (sp : Sp) : Prop where
  ex : ∃ (f : Addr) (fd : FuncData) (ps : List Str), FnOk P w K mg base (L2.CX P w) k f fd ps sp ∧ Mk K C f ∧ mg x = some (.ref C) ∧ Binds K fd ps []
end
/-- how n plain parameters bind -/
def BindsPlain (st : Stmt) (x q : Str) (ps : List Str) : Prop := ∀ (kV doc pm : Value) (an : Option Addr) (cdv ct : Value) (us : List Value), us.length = ps.length →
  bindArgs (PySem.W.fnOf x q (defArgs st) (defBody st) (defScope st) .none kV doc pm an cdv ct) ⟨us, []⟩ = pure (ps.zip us)
section
variable {P : Program} {w : World} {K : PySem.W.Frag} {mg : Str → Option Value} {base : Heap}
theorem can_of {x : Str} {st : Stmt} {N ps : List Str} {k : Nat} {sp : Sp} (D : DefT K mg x st) (S : FnScope N ps (defScope st)) (hb : BindsPlain st x x ps) (len : ∀ vs H Q E, sp vs H Q E → vs.length = ps.length)
    (body : ∀ (f : Addr) (cdv : Value) (A : Around) (outer : List Env) (s : Shared) (H : Hp) (vs : List V) (Q : VK) (E : XK), Room k (A.deeper (envOfC x (defScope st) s.heap.objs.size f cdv)) → sp vs H Q E →
      ∃ t, PSs (cxOf (L2.CX P w) P w K mg base N x (defScope st) f cdv A outer s H E) (defBody st) t ∧ t { nx := fun _ H' => Q .non H', rt := Q } (start N vs) H) : Can P w K mg base (k + 1) x sp := by
  obtain ⟨f, fd, F, g⟩ := D.ex
  exact ⟨f, fd, ps, F.okX S len (body f), g, F.kp, F.binds hb⟩
theorem canM_of {m q : Str} {C : Addr} {st : Stmt} {N ps : List Str} {k : Nat} {sp : Sp} (c : Cls K C) (D : MetT K C m q st) (S : FnScope N ps (defScope st)) (hb : BindsPlain st m q ps) (len : ∀ vs H Q E, sp vs H Q E → vs.length = ps.length)
    (body : ∀ (f : Addr) (cdv : Value) (A : Around) (outer : List Env) (s : Shared) (H : Hp) (vs : List V) (Q : VK) (E : XK), Room k (A.deeper (envOfC q (defScope st) s.heap.objs.size f cdv)) → sp vs H Q E →
      ∃ t, PSs (cxOf (L2.CX P w) P w K mg base N q (defScope st) f cdv A outer s H E) (defBody st) t ∧ t { nx := fun _ H' => Q .non H', rt := Q } (start N vs) H) : CanM P w K mg base (k + 1) C m sp := by
  obtain ⟨f, fd, F, g⟩ := D.ex
  exact ⟨f, fd, ps, F.okX S len (body f), c, g, F.binds hb⟩
theorem canN_of {x q : Str} {C : Addr} {st : Stmt} {N ps : List Str} {k : Nat} {sp : Sp} (c : ClsT K mg C x) (D : MetT K C "__init__" q st) (S : FnScope N ps (defScope st)) (hb : BindsPlain st "__init__" q ps) (len : ∀ vs H Q E, sp vs H Q E → vs.length = ps.length)
    (body : ∀ (f : Addr) (cdv : Value) (A : Around) (outer : List Env) (s : Shared) (H : Hp) (vs : List V) (Q : VK) (E : XK), Room k (A.deeper (envOfC q (defScope st) s.heap.objs.size f cdv)) → sp vs H Q E →
      ∃ t, PSs (cxOf (L2.CX P w) P w K mg base N q (defScope st) f cdv A outer s H E) (defBody st) t ∧ t { nx := fun _ H' => Q .non H', rt := Q } (start N vs) H) : CanN P w K mg base (k + 1) C x sp := by
  obtain ⟨f, fd, F, g⟩ := D.ex
  exact ⟨f, fd, ps, F.okX S len (body f), ⟨c.mak, g.at_, g.fn, c.kp⟩, c.gC, F.binds hb⟩
end

/-! ### calls: E0 where nothing is raised; a wish at the slots where something may be -/
section
variable {X : Cx} {k j : Nat} {C : Addr} {x m : Str} {sp : Sp} {W : WX} {p pos apos : Pos} {e o : Expr} {es : List Expr} {ta : TE} {t : TA}
theorem pc_f (c : Can X.prog X.w X.K X.mg X.base k x sp) (hr : Room j X.A) (hk : k ≤ j) (hg : Gl X x) (ha : PA X (e :: es) t)
    (hdb : (x == ("__debug__" : Str)) = false := by decide) (he : starEach (e :: es) X.env = (false, eval e X.env) :: starEach es X.env := by rfl) (hpl : (backTo pos (starEach es X.env)).any (·.1) = false := by rfl) :
    PE X (.Call (.Name x p) (e :: es) [] pos) (tCall sp [] E0 t) := by
  obtain ⟨f, fd, ps, F, hm, kp, b⟩ := c.ex
  exact pe_call F (hr.mono hk) hg hm kp b .nil passL ha hdb he hpl
theorem pc_f0 (c : Can X.prog X.w X.K X.mg X.base k x sp) (hr : Room j X.A) (hk : k ≤ j) (hg : Gl X x)
    (hdb : (x == ("__debug__" : Str)) = false := by decide) : PE X (.Call (.Name x p) [] [] pos) (tCall sp [] E0 tNil) := by
  obtain ⟨f, fd, ps, F, hm, kp, b⟩ := c.ex
  exact pe_call0 F (hr.mono hk) hg hm kp b .nil passL hdb
theorem pc_fS (c : Can X.prog X.w X.K X.mg X.base k x sp) (tk : Takes X W) (hr : Room j X.A) (hk : k ≤ j) (hg : Gl X x) (ha : PA X (e :: es) t)
    (hdb : (x == ("__debug__" : Str)) = false := by decide) (he : starEach (e :: es) X.env = (false, eval e X.env) :: starEach es X.env := by rfl) (hpl : (backTo pos (starEach es X.env)).any (·.1) = false := by rfl) :
    PE X (.Call (.Name x p) (e :: es) [] pos) (tCallS sp (WE W) t) := by
  obtain ⟨f, fd, ps, F, hm, kp, b⟩ := c.ex
  exact pe_callS F (hr.mono hk) hg hm kp b (passAt tk) ha hdb he hpl
theorem pc_m {pl : Sem Bool} (c : CanM X.prog X.w X.K X.mg X.base k C m sp) (hr : Room j X.A) (hk : k ≤ j) (he : PE X o ta) (ha : PA X (e :: es) t)
    (hst : starEach (e :: es) X.env = (false, eval e X.env) :: starEach es X.env := by rfl) (hpl : (backTo pos (starEach es X.env)).any (·.1) = false := by rfl)
    (ht : eval (.Call (.Attribute o m apos) (e :: es) [] pos) X.env = (do
      let v ← eval o X.env
      standAt apos.atName
      let (f, first) ← holding [v] (getMethod v m pl)
      callWith pos f first (backTo pos (starEach (e :: es) X.env)) (backToKw pos (keywordEach [] X.env))) := by rfl) :
    PE X (.Call (.Attribute o m apos) (e :: es) [] pos) (tMeth C m sp [] E0 ta t) := by
  obtain ⟨f, fd, ps, F, hc, hm, b⟩ := c.ex
  exact pe_meth (pl := pl) he hc hm F (hr.mono hk) b .nil passL ha hst hpl ht
/-- o.m(e, ..) that may raise, the wish at the slots -/
def tMethS (C : Addr) (m : Str) (sp : Sp) (W : WX) (ta : TE) (t : TA) : TE := fun σ H Q => ta σ H fun y G => ∃ a dx fs, y = .ref a ∧ G a = some (.ins C dx fs) ∧ fs.lookup m = none ∧ t σ G fun vs G' => sp (y :: vs) G' Q (WE W σ)
theorem pc_mS {pl : Sem Bool} (c : CanM X.prog X.w X.K X.mg X.base k C m sp) (tk : Takes X W) (hr : Room j X.A) (hk : k ≤ j) (he : PE X o ta) (ha : PA X (e :: es) t)
    (hst : starEach (e :: es) X.env = (false, eval e X.env) :: starEach es X.env := by rfl) (hpl : (backTo pos (starEach es X.env)).any (·.1) = false := by rfl)
    (ht : eval (.Call (.Attribute o m apos) (e :: es) [] pos) X.env = (do
      let v ← eval o X.env
      standAt apos.atName
      let (f, first) ← holding [v] (getMethod v m pl)
      callWith pos f first (backTo pos (starEach (e :: es) X.env)) (backToKw pos (keywordEach [] X.env))) := by rfl) :
    PE X (.Call (.Attribute o m apos) (e :: es) [] pos) (tMethS C m sp W ta t) := by
  obtain ⟨f, fd, ps, F, hc, hm, b⟩ := c.ex
  constructor
  intro pins s σ H Q I h
  refine PySem.W.methodCall_KW (pl := pl) (thn (he.run pins s σ H _ I h) ?_) ht
  rintro u s1 ⟨y, G, I1, ry, a, dx, fs, rfl, ga, l, q⟩
  cases ry
  refine getmeth_ok I1 ga hc hm l ?_
  refine PySem.W.callWith_K (first := [.ref a]) (h₀ := X.base) I.ok.mod.kin hm.kp (thn (ha.run pos pins s1 σ G _ I1 q) ?_) hst hpl
  rintro us s2 ⟨vs, G', I2, r, q2⟩
  exact ⟨I2.kIn, run_fnS (us := .ref a :: us) (vs := .ref a :: vs) F (hr.mono hk) b (passAt tk σ) I2 (.cons rfl r) q2⟩
theorem pc_n (c : CanN X.prog X.w X.K X.mg X.base k C x sp) (hr : Room j X.A) (hk : k + 1 ≤ j) (hg : Gl X x) (ha : PA X (e :: es) t)
    (hdb : (x == ("__debug__" : Str)) = false := by decide) (he : starEach (e :: es) X.env = (false, eval e X.env) :: starEach es X.env := by rfl) (hpl : (backTo pos (starEach es X.env)).any (·.1) = false := by rfl) :
    PE X (.Call (.Name x p) (e :: es) [] pos) (tMake C sp [] E0 t) := by
  obtain ⟨f, fd, ps, F, M, hm, b⟩ := c.ex
  exact pe_make M F (hr.mono hk) hg hm b .nil passL ha hdb he hpl
def tMakeS (C : Addr) (sp : Sp) (W : WX) (t : TA) : TE := fun σ H Q => t σ H fun vs G => ∀ y dx, G y = none → G dx = none → dx ≠ y →
  sp (.ref y :: vs) (upd (upd G dx (.own y)) y (.ins C dx [])) (fun v G' => v = .non ∧ Q (.ref y) G') (WE W σ)
end
end Kit

end
section
set_option Elab.async false
set_option maxRecDepth 100000
set_option maxHeartbeats 4000000
namespace Kit
open PySem PySem.Spec PyProof.Rows L2

/-! ### a class made, whose __init__ may raise -/
section
variable {X : Cx} {k j : Nat} {C : Addr} {x : Str} {sp : Sp} {W : WX} {p pos : Pos} {e : Expr} {es : List Expr} {t : TA}
theorem pc_nS (c : CanN X.prog X.w X.K X.mg X.base k C x sp) (tk : Takes X W) (hr : Room j X.A) (hk : k + 1 ≤ j) (hg : Gl X x) (ha : PA X (e :: es) t)
    (hdb : (x == ("__debug__" : Str)) = false := by decide) (he : starEach (e :: es) X.env = (false, eval e X.env) :: starEach es X.env := by rfl) (hpl : (backTo pos (starEach es X.env)).any (·.1) = false := by rfl) :
    PE X (.Call (.Name x p) (e :: es) [] pos) (tMakeS C sp W t) := by
  obtain ⟨f, fd, ps, F, M, hm, b⟩ := c.ex
  have hr := hr.mono hk
  constructor
  intro pins s σ H Q I h
  refine wpAny_Call_Name_kw (ld_glob I hg hm ?_ hdb)
  refine PySem.W.callWith_K (h₀ := X.base) I.ok.mod.kin M.kp (thn (ha.run pos pins s σ H _ I h) ?_) he hpl
  rintro us s1 ⟨vs, G, I1, r, q⟩
  refine ⟨I1.kIn, ?_⟩
  have hq := q (s1.heap.objs.size + 1) s1.heap.objs.size (I1.hok.fresh (Nat.le_succ _)) (I1.hok.fresh (Nat.le_refl _)) (Nat.ne_of_lt (Nat.lt_succ_self _))
  have J := Inv.made (C := C) I1
  have r2 : Vals (V.ref (s1.heap.objs.size + 1) :: vs) (Value.ref (s1.heap.objs.size + 1) :: us) := .cons rfl r
  have hl : (Value.ref (s1.heap.objs.size + 1) :: us ++ []).length = ps.length := by
    have z := r2.length
    rw [F.len _ _ _ _ hq] at z
    rw [List.append_nil]
    exact z.symm
  have bb := b _ (Value.ref (s1.heap.objs.size + 1) :: us) J.kIn hl
  rw [List.append_nil] at bb
  refine wpAny_call (make_map (f := f) I1.kIn M.makes M.init (beq_iff_eq.mp M.fn) (codeAny_mono (F.run _ X.stack _ _ ⟨Value.ref (s1.heap.objs.size + 1) :: us, []⟩ (Value.ref (s1.heap.objs.size + 1) :: us) _ _ (WE W σ) (hr.make C us []) (J.env0.make C us []) bb r2 hq) ?_))
  intro r s' z
  cases r with
  | error er => exact passAt tk σ pins _ _ er s' J z
  | ok fl =>
    cases fl with
    | ret u =>
      obtain ⟨v, H', I3, rv, ev, q3⟩ := J.after z
      subst ev
      exact ⟨rv, V.ref (s1.heap.objs.size + 1), H', I3, rfl, q3⟩
    | next => exact z.elim
    | brk => exact z.elim
    | cont => exact z.elim
end

/-! ### own errors with one field -/
structure ErrT (K : PySem.W.Frag) (mg : Str → Option Value) (C : Addr) (x q fld : Str) (st : Stmt) : Prop where
  gC : mg x = some (.ref C)
  oex : OexC K C
  noF : PySem.W.findIn K (.ref C) fld = some none
  ini : ∃ (f : Addr) (fd : FuncData), Fun K "__init__" q st f fd ∧ PySem.W.findIn K (.ref C) "__init__" = some (some (.ref f)) ∧ PySem.W.typeIn K (.ref f) = some (.type "function")
/-- what isinstance and the reading of a field ask of an error's class -/
structure ErrC (K : PySem.W.Frag) (C : Addr) : Prop where
  xf : XfC K C
  ha : PySem.W.findIn K (.ref C) "__class__" = some (some (.builtin "object.__class__"))
  hn : PySem.W.specialIn K (.builtin "object.__class__") "__get__" = some (some (.builtin "getset_descriptor.__get__"))
  ht : PySem.W.takesIn K (.builtin "object.__class__") = some true
  hm : PySem.W.mroIn K C (.type "object") = some true
  hc : (PySem.W.clsIn K C).isSome = true
def spErr (C : Addr) (fld : Str) : Sp := fun vs H Q _ => ∃ (a : Addr) (y : V), vs = [.ref a, y] ∧ H a = some (exo a C none) ∧ ∀ dx, H dx = none → dx ≠ a → Q .non (upd (upd H dx (exd dx [(fld, y)])) a (exo a C (some dx)))
section
variable (P : Program) (w : World) (K : PySem.W.Frag) (mg : Str → Option Value) (base : Heap)
structure CanE (C : Addr) (x fld : Str) : Prop where
  gC : mg x = some (.ref C)
  oex : OexC K C
  ex : ∃ (f : Addr) (fd : FuncData) (ps : List Str), FnOk P w K mg base (L2.CX P w) 1 f fd ps (spErr C fld) ∧ PySem.W.findIn K (.ref C) "__init__" = some (some (.ref f)) ∧ PySem.W.typeIn K (.ref f) = some (.type "function") ∧ Binds K fd ps []
end
section
variable {P : Program} {w : World} {K : PySem.W.Frag} {mg : Str → Option Value} {base : Heap}
theorem canE_of {C : Addr} {x q fld : Str} {st : Stmt} {N ps : List Str} (D : ErrT K mg C x q fld st) (S : FnScope N ps (defScope st)) (hb : BindsPlain st "__init__" q ps) (hl : ps.length = 2)
    (body : ∀ (f : Addr) (cdv : Value) (A : Around) (outer : List Env) (s : Shared) (H : Hp) (E : XK),
      PSs (cxOf (L2.CX P w) P w K mg base N q (defScope st) f cdv A outer s H E) (defBody st) (tOst K fld (tVar 0) (tVar 1))) (hN : N.length = 2) : CanE P w K mg base C x fld := by
  obtain ⟨f, fd, F, g, ty⟩ := D.ini
  refine ⟨D.gC, D.oex, f, fd, ps, F.okX S (fun vs H Q E h => ?_) (fun cdv A outer s H vs Q E _ h => ?_), g, ty, F.binds hb⟩
  · obtain ⟨a, y, rfl, _⟩ := h
    rw [hl]
    rfl
  · obtain ⟨a, y, rfl, ha, z⟩ := h
    refine ⟨_, body f cdv A outer s H E, ?_⟩
    match N, hN with
    | [n0, n1], _ => exact ⟨y, rfl, .ref a, rfl, a, C, rfl, D.oex, D.noF, .inl ⟨ha, fun dx n ne => z dx n ne⟩⟩
end
section
variable {X : Cx} {C : Addr} {x fld : Str} {W : WX} {p pos pos2 : Pos} {e : Expr} {te : TE} {j : Nat}
/-- raise X(e) -/
theorem pr_err (c : CanE X.prog X.w X.K X.mg X.base C x fld) (tk : Takes X W) (hcalm : X.calm = true) (hr : Room j X.A) (hk : 2 ≤ j) (hg : Gl X x) (ha : PE X e te)
    (he : starEach [e] X.env = (false, eval e X.env) :: starEach [] X.env := by rfl) (hpl : (backTo pos (starEach [] X.env)).any (·.1) = false := by rfl) (hdb : (x == ("__debug__" : Str)) = false := by decide) :
    PS X (.Raise (some (.Call (.Name x p) [e] [] pos)) none pos2) (fun _ σ H => tMkO C (spErr C fld) [] (tCons te tNil) σ H fun cls d H' => W cls d σ H') := by
  obtain ⟨f, fd, ps, F, g, ty, b⟩ := c.ex
  exact L2.ps_raise hcalm tk (pmk_oex c.oex g ty F (hr.mono hk) b .nil passL hg c.gC (pa_cons ha pa_nil (hs := he)) hdb he hpl)
/-- the reading behind the value of e -/
theorem mkE {H : Hp} {y : V} {Q : XK} (h : ∀ d, H d = none → Q (.ref C) (some d) (upd H d (.xd [(fld, y)]))) : [y].length ≤ 1000 ∧ ∀ a, H a = none → spErr C fld (.ref a :: ([y] ++ [])) (upd H a (exo a C none))
    (fun v G => v = .non ∧ ∃ (d : Addr) (fs : List (Str × V)), G a = some (exo a C (some d)) ∧ G d = some (exd d fs) ∧ H d = none ∧ Q (.ref C) (some d) (upd (L2.del G a) d (.xd fs))) (fun _ _ _ => False) := by
  refine ⟨by show 1 ≤ 1000; decide, fun a na => ⟨a, y, rfl, upd_same, fun dx n ne => ⟨rfl, dx, [(fld, y)], upd_same, ?_, ?_, ?_⟩⟩⟩
  · rw [upd_ne ne, upd_same]
  · rw [upd_ne ne] at n
    exact n
  · rw [upd_ne ne] at n
    have z : upd (L2.del (upd (upd (upd H a (exo a C none)) dx (exd dx [(fld, y)])) a (exo a C (some dx))) a) dx (.xd [(fld, y)]) = upd H dx (.xd [(fld, y)]) := by
      funext b
      by_cases hb : b = dx
      · rw [hb, upd_same, upd_same]
      · rw [upd_ne hb, upd_ne hb]
        by_cases hc : b = a
        · rw [hc, L2.del_same, na]
        · rw [L2.del_ne hc, upd_ne hc, upd_ne hb, upd_ne hc]
    rw [z]
    exact h dx n
end

/-! ### a def called in an except suite, the caught error handed to it -/
abbrev SpE := Addr → Value → Option Addr → Sp
structure FnE (P : Program) (w : World) (K : PySem.W.Frag) (mg : Str → Option Value) (base : Heap) (k : Nat) (f : Addr) (fd : FuncData) (ps : List Str) (sp : SpE) : Prop where
  len : ∀ a cls d vs H Q E, sp a cls d vs H Q E → vs.length = ps.length
  run : ∀ (A : Around) (outer : List Env) (s : Shared) (H : Hp) (args : Args) (us : List Value) (vs : List V) (Q : VK) (E : XK) (p : Addr × Obj) (cls : Value) (d : Option Addr), L2H.RoomH k A → L2H.PinOk outer H s p → Zc cls d p.2 → (∃ z, p.2.data = .fields z) →
    Env0 P w K mg base A outer s H → BindsTo s fd args (ps.zip us) → Vals vs us → sp p.1 cls d vs H Q E → codeAny (model P w) A (.call (.ref f) args) (CR (L2.CX P w) outer P w H s Q E) s
abbrev cxE (P : Program) (w : World) (K : PySem.W.Frag) (mg : Str → Option Value) (base : Heap) (N : List Str) (x : Str) (st : Stmt) (f : Addr) (cdv : Value) (A : Around) (outer : List Env) (s : Shared) (H : Hp) (E : XK) (p : Addr × Obj) : Cx :=
  L2H.cxH (L2.CX P w) P w K mg base N x (defScope st) f cdv A outer s H E p
structure CanS (P : Program) (w : World) (K : PySem.W.Frag) (mg : Str → Option Value) (base : Heap) (k : Nat) (x : Str) (sp : SpE) : Prop where
  ex : ∃ (f : Addr) (fd : FuncData) (ps : List Str), FnE P w K mg base k f fd ps sp ∧ mg x = some (.ref f) ∧ PySem.W.keepIn K (.ref f) = true ∧ Binds K fd ps []
section
variable {P : Program} {w : World} {K : PySem.W.Frag} {mg : Str → Option Value} {base : Heap}
theorem canS_of {x : Str} {st : Stmt} {N ps : List Str} {k : Nat} {sp : SpE} (D : DefT K mg x st) (S : FnScope N ps (defScope st)) (hb : BindsPlain st x x ps) (len : ∀ a cls d vs H Q E, sp a cls d vs H Q E → vs.length = ps.length)
    (body : ∀ (f : Addr) (cdv : Value) (A : Around) (outer : List Env) (s : Shared) (H : Hp) (vs : List V) (Q : VK) (E : XK) (p : Addr × Obj) (cls : Value) (d : Option Addr), L2H.RoomH k (A.deeper (envOfC x (defScope st) s.heap.objs.size f cdv)) → Zc cls d p.2 → (∃ z, p.2.data = .fields z) → sp p.1 cls d vs H Q E →
      ∃ t, PSs (cxE P w K mg base N x st f cdv A outer s H E p) (defBody st) t ∧ t { nx := fun _ H' => Q .non H', rt := Q } (start N vs) H) : CanS P w K mg base (k + 1) x sp := by
  obtain ⟨f, fd, F, g⟩ := D.ex
  refine ⟨f, fd, ps, ⟨len, ?_⟩, g, F.kp, F.binds hb⟩
  obtain ⟨oc, od, kV, doc, pm, an, cdv, ct, osl, rfl, lk, hcd⟩ := F.ex
  intro A outer s H args us vs Q E p cls d hr hpin hz hf e0 hbt r hsp
  have hl := len _ _ _ _ _ _ _ hsp
  have KX : K.In s.heap := e0.mod.kin.keeps fun b o e => (e0.bs b o e).1
  have lim : s.heap.NoLimit := e0.mod.nolimit.keeps fun b o e => (e0.bs b o e).1
  have hkind : ∀ y ∈ ps.zip us, (defScope st).names.lookup y.1 = some .local ∨ ((defScope st).names.lookup y.1 = some .cell ∧ ((cellsFrom (s.heap.objs.size + 1) (defScope st).names []).lookup y.1).isSome = true) := by
    rintro ⟨n, v⟩ hy
    rcases S.par n (List.of_mem_zip hy).1 with q | q
    · exact .inl q
    · exact .inr ⟨q, PySem.W.cellsFrom_some _ _ _ (.inl q)⟩
  refine codeAny_call_function hr.depth (KX _ _ lk) rfl S.co S.gen rfl (PySem.W.codeRec_of KX hcd) (hbt _ _ _ _ ?_)
  refine wpAny_newFunctionEnv_cells S.kind hkind ?_
  intro env he s1 y
  subst he
  refine ⟨lim.keeps y.toInCall.keep, codeAny_func ?_⟩
  obtain ⟨t, ht, hq⟩ := body f cdv A outer s H vs Q E p cls d (hr.deeper _) hz hf hsp
  have I : Inv (cxE P w K mg base N x st f cdv A outer s H E p) [] (start N vs) H s1 := L2H.inv_startH S hpin e0 hl r y
  refine wpAny_mono (ht.run [] s1 (start N vs) H _ I hq) ?_ fun e s' hs => hs
  intro fl s' hs
  cases fl with
  | ret u =>
    obtain ⟨v, σ', H', J, rv, q⟩ := hs
    exact ⟨v, H', J.os, J.bare, J.base, J.hok, rv, q⟩
  | next =>
    obtain ⟨σ', H', J, q⟩ := hs
    exact ⟨V.non, H', J.os, J.bare, J.base, J.hok, rfl, q⟩
  | brk =>
    obtain ⟨_, _, _, q⟩ := hs
    exact q.elim
  | cont =>
    obtain ⟨_, _, _, q⟩ := hs
    exact q.elim
end
/-- f(e, ..) in a suite that holds the error at a -/
def tCallE (sp : SpE) (a : Addr) (cls : Value) (d : Option Addr) (t : TA) : TE := fun σ H Q => t σ H fun vs G => sp a cls d vs G Q E0
section
variable {X : Cx} {k j : Nat} {x : Str} {sp : SpE} {a : Addr} {oe : Obj} {pn : List (Addr × Obj)} {cls : Value} {d : Option Addr} {p pos : Pos} {e : Expr} {es : List Expr} {t : TA}
theorem pc_E (c : CanS X.prog X.w X.K X.mg X.base k x sp) (hz : Zc cls d oe) (hf : ∃ z, oe.data = .fields z) (hr : Room j X.A) (hk : k ≤ j) (hg : Gl X x) (ha : PA (X.suite a ((a, oe) :: pn)) (e :: es) t)
    (hdb : (x == ("__debug__" : Str)) = false := by decide) (he : starEach (e :: es) X.env = (false, eval e X.env) :: starEach es X.env := by rfl) (hpl : (backTo pos (starEach es X.env)).any (·.1) = false := by rfl) :
    PE (X.suite a ((a, oe) :: pn)) (.Call (.Name x p) (e :: es) [] pos) (tCallE sp a cls d t) := by
  obtain ⟨f, fd, ps, F, hm, kp, hb⟩ := c.ex
  constructor
  intro pins s σ H Q I h
  refine wpAny_Call_Name_kw (ld_glob I hg hm ?_ hdb)
  refine PySem.W.callWith_K (h₀ := X.base) I.ok.mod.kin kp (thn (ha.run pos pins s σ H _ I h) ?_) he hpl
  rintro us s1 ⟨vs, G, I1, r, q⟩
  refine ⟨I1.kIn, ?_⟩
  have hl : us.length = ps.length := by
    rw [← r.length]
    exact F.len _ _ _ _ _ _ _ q
  have b := hb s1 us I1.kIn (by rw [List.append_nil]; exact hl)
  rw [List.append_nil] at b
  have P1 := I1.pin (a, oe) (List.mem_append_left _ List.mem_cons_self)
  have hpin : L2H.PinOk (X.suite a ((a, oe) :: pn)).stack G s1 (a, oe) := ⟨P1.1, P1.2.1, fun hm => (List.mem_cons.mp (I1.stkSub a hm)).elim P1.2.2.1 P1.2.2.2.1, P1.2.2.2.2⟩
  refine wpAny_call (codeAny_mono (F.run _ _ s1 G ⟨us, []⟩ us vs Q E0 (a, oe) cls d ?_ hpin hz hf I1.env0 b r q) ?_)
  · exact ⟨(hr.mono hk).dp, (hr.mono hk).un⟩
  · intro z s' hq
    cases z with
    | error er =>
      obtain ⟨_, _, _, _, _, _, _, _, _, _, _, _, y⟩ := hq
      exact y.elim
    | ok fl =>
      cases fl with
      | ret u => exact I1.after hq
      | next => exact hq.elim
      | brk => exact hq.elim
      | cont => exact hq.elim
end
/-! ### what such a def asks of the error: isinstance, a field -/
/-- the error's own dict, where it has one, is tracked -/
def XdOk (d : Option Addr) (H : Hp) : Prop := ∀ dd, d = some dd → ∃ fs, H dd = some (.xd fs)
section
variable {X : Cx} {a : Addr} {oe : Obj} {cls : Value} {d : Option Addr} {e : Expr} {te : TE} {fld : Str} {pos : Pos}
theorem pin_at (hp : (a, oe) ∈ X.pn) (hz : Zc cls d oe) (hf : ∃ z, oe.data = .fields z) {pins : List (Addr × Obj)} {σ : St} {H : Hp} {s : Shared} (I : Inv X pins σ H s) (hd : XdOk d H) {D : Addr} (hD : cls = .ref D) : ∃ od, PySem.W.InstAt s.heap a oe D od := by
  obtain ⟨hget, _⟩ := I.pin (a, oe) (List.mem_append_left _ hp)
  obtain ⟨vs, hv⟩ := hf
  subst hD
  cases hd0 : d with
  | none => exact ⟨none, hget, hz.1, by unfold PySem.W.notCls; rw [hv] <;> rfl, by rw [hz.2, hd0] <;> trivial⟩
  | some dd =>
    obtain ⟨fs, hfs⟩ := hd dd hd0
    have z : ObjOk X.prog X.w H s.heap dd (.xd fs) := I.hok dd _ hfs
    obtain ⟨mA, ⟨od, es, ep, ho, _⟩, _⟩ := z
    exact ⟨some od, hget, hz.1, by unfold PySem.W.notCls; rw [hv] <;> rfl, by rw [hz.2, hd0]; exact ho⟩
/-- isinstance(e, c), e the pinned error at a -/
def rIsP (K : PySem.W.Frag) (a : Addr) (cls : Value) (d : Option Addr) : List V → Hp → VK → Prop := fun xs H Q => ∃ (D : Addr) (c : V) (cv : Value) (b : Bool), cls = .ref D ∧ ErrC K D ∧ XdOk d H ∧ xs = [.ref a, c] ∧ (∀ u, RelV c u → u = cv) ∧ PySem.W.kitOne K (.ref D) cv = some b ∧ Q (.bl b) H
theorem call_isP (hp : (a, oe) ∈ X.pn) (hz : Zc cls d oe) (hf : ∃ z, oe.data = .fields z) : CallR X (.builtin "isinstance") (rIsP X.K a cls d) := by
  intro pins s σ H xs us Q I r h
  obtain ⟨D, c, cv, b, hD, C, hdd, rfl, hcv, e, q⟩ := h
  cases r with
  | cons rx rr =>
    cases rr with
    | cons rt rr =>
      cases rr
      cases rx
      have ec := hcv _ rt
      subst ec
      obtain ⟨od, J⟩ := pin_at hp hz hf I hdd hD
      exact PySem.W.kia_one (PySem.W.kitx_exc C.hc C.xf.ga C.xf.gg C.xf.exC C.ha C.hn C.ht C.hm) I.kIn J e (fun z => nomatch z) fun tk => ⟨.bl b, H, I.kept (t' := tk) fun _ _ z => z, rfl, q⟩
/-- e.fld, e the pinned error at a -/
def tXP (K : PySem.W.Frag) (a : Addr) (cls : Value) (d : Option Addr) (fld : Str) (te : TE) : TE := fun σ H Q => te σ H fun x G => ∃ (D dd : Addr) (fs : List (Str × V)) (v : V), x = .ref a ∧ cls = .ref D ∧ XfC K D ∧ PySem.W.findIn K (.ref D) fld = some none ∧ d = some dd ∧ G dd = some (.xd fs) ∧ fs.lookup fld = some v ∧ Q v G
theorem pe_xp (hp : (a, oe) ∈ X.pn) (hz : Zc cls d oe) (hf : ∃ z, oe.data = .fields z) (he : PE X e te) (hb : attributeBase e fld X.env (eval e X.env) = eval e X.env := by rfl) : PE X (.Attribute e fld pos) (tXP X.K a cls d fld te) := by
  constructor
  intro pins s σ H Q I h
  refine attr_of hb (thn (he.run pins s σ H _ I h) ?_)
  rintro u s1 ⟨x, G, I1, rx, D, dd, fs, v, rfl, hD, T, hno, ed, ea, l, q⟩
  cases rx
  subst ed
  obtain ⟨hget, _⟩ := I1.pin (a, oe) (List.mem_append_left _ hp)
  obtain ⟨vs, hv⟩ := hf
  have hx : ObjOk X.prog X.w G s1.heap dd (.xd fs) := I1.hok dd _ ea
  obtain ⟨mA, hns, hrel⟩ := hx
  obtain ⟨od, ho, hl⟩ := lookIn_ns hns
  obtain ⟨u, hu, ru⟩ := RelO.some_of (v := v) (o := mA fld) (by rw [← l]; exact hrel fld)
  have J : PySem.W.InstAt s1.heap a oe D (some od) := ⟨hget, hz.1.trans hD, by unfold PySem.W.notCls; rw [hv] <;> rfl, by rw [hz.2]; exact ho⟩
  exact HandSPX.exc_get I1.kIn J T.ga T.gg T.exC (PySem.W.findObj_own T.hdC hno rfl (by rw [hl, hu])) (handed_of ru) ⟨v, G, I1.tok _, ru, q⟩
/-- list.count of flat items -/
def rCntF (K : PySem.W.Frag) : V → List V → Hp → VK → Prop := fun x xs H Q => ∃ (p : Addr) (ys : List V) (y : V), x = .ref p ∧ xs = [y] ∧ SqL K H p ys ∧ flatV y = true ∧ ys.all flatV = true ∧ Q (.int (ys.countP fun z => eqV z y : Nat)) H
theorem countU {y : V} : ∀ {ys : List V} {us : List Value}, Vals ys us → ys.all flatV = true → us.countP (eqU y) = ys.countP fun z => eqV z y
  | _, _, .nil, _ => rfl
  | z :: zs, u :: us, .cons r t, f => by
    rw [List.all_cons, Bool.and_eq_true] at f
    rw [List.countP_cons, List.countP_cons, countU t f.2, eqU_of r f.1]
theorem mt_countF : MtR X "list.count" (rCntF X.K) := by
  intro pins s σ H x xs v us Q I rx rxs h
  obtain ⟨p, ys, y, rfl, rfl, hs, fy, fys, q⟩ := h
  cases rx
  cases rxs with
  | cons ry rt =>
    rename_i uy ut
    cases rt
    obtain ⟨its, rv, ⟨⟨cls, dd, data, sl⟩, n, ho, hc, hdn, hd⟩, hlen⟩ := I.list hs
    simp only at hc hd
    subst hc hd
    refine call_meets PySem.F.slot_list_count ⟨_, ho, rfl⟩ PySem.F.entry_list_count (PySem.F.args_list_count_2 _ _)
      (SeqAt.list_countAt p its.toArray n dd sl uy (eqU y)) ⟨ho, fun u hu => mem_eqAt ry fy rv fys u (by simpa using hu), ?_⟩
    have ec : its.toArray.toList.countP (eqU y) = ys.countP fun z => eqV z y := countU rv fys
    refine ⟨.int (ys.countP fun z => eqV z y : Nat), H, I.tok _, ⟨s.toks, ?_⟩, q⟩
    show Value.int ((its.toArray.toList.countP (eqU y) : Nat) : Int) s.toks = _
    rw [ec]
end
end Kit

end
section
set_option Elab.async false
set_option maxRecDepth 100000
set_option maxHeartbeats 4000000
namespace Kit
open PySem PySem.Spec PyProof.Rows L2

/-! ### texts as lists of codes -/
def S (l : List Nat) : Str := ⟨l.toArray⟩
abbrev tx (l : List Nat) : V := .str (S l)
theorem S_len (l : List Nat) : (S l).length = l.length := by
  show l.toArray.size = l.length
  exact List.size_toArray
theorem S_cps (l : List Nat) : (S l).cps.toList = l := rfl
theorem S_app (l m : List Nat) : S l ++ S m = S (l ++ m) := by
  show (⟨l.toArray ++ m.toArray⟩ : Str) = ⟨(l ++ m).toArray⟩
  rw [List.append_toArray]
theorem S_inj {l m : List Nat} (h : S l = S m) : l = m := by
  have z := congrArg (fun s => s.cps.toList) h
  exact z
theorem S_eq {l m : List Nat} : S l = S m ↔ l = m := ⟨S_inj, fun h => by rw [h]⟩
theorem S_of (s : Str) : ∃ l, s = S l := ⟨s.cps.toList, by cases s; rfl⟩
theorem S_one (c : Nat) : (⟨#[c]⟩ : Str) = S [c] := rfl
theorem cut_S (l : List Nat) (lo hi : Option Int) : cutS (S l) lo hi = S ((l.drop (HT.sIx l.length 0 lo)).take (HT.sIx l.length l.length hi - HT.sIx l.length 0 lo)) := by
  unfold cutS
  rw [S_len]
  rfl
/-- what was tracked stays -/
abbrev Ex := @Same
theorem ex_new {H : Hp} {p : Addr} {o : HO} (h : H p = none) : Same H (upd H p o) := fun b u e => by
  rw [upd_ne (ne_of_none e h)]
  exact e
/-- an object that H does not know may change -/
theorem ex_mut {H G : Hp} {p : Addr} {o : HO} (e : Same H G) (h : H p = none) : Same H (upd G p o) := fun b u hb => by
  rw [upd_ne (ne_of_none hb h)]
  exact e b u hb
theorem szl {n : Nat} (h : n ≤ 100000) : n ≤ sizeLine := Nat.le_trans h (by decide)
theorem szlt {n : Nat} (h : n < 100000) : n < sizeLine := Nat.lt_of_lt_of_le h (by decide)
theorem seqL_of {K : PySem.W.Frag} {H : Hp} {a : Addr} {xs : List V} (h : H a = some (.lst xs)) : SqL K H a xs := .inl (.inl h)
theorem seqT_of {K : PySem.W.Frag} {H : Hp} {a : Addr} {xs : List V} (h : H a = some (.tup xs)) : SqT K H a xs := .inl (.inl h)

/-! ### data: what laws compare -/
inductive D where
  | non | bl (b : Bool) | int (i : Int) | txt (l : List Nat) | lst (xs : List D) | tup (xs : List D)
mutual
def Rp (H : Hp) : D → V → Prop
  | .non, v => v = .non
  | .bl b, v => v = .bl b
  | .int i, v => v = .int i
  | .txt l, v => v = tx l
  | .lst ds, v => ∃ p vs, v = .ref p ∧ H p = some (.lst vs) ∧ Rps H ds vs
  | .tup ds, v => ∃ p vs, v = .ref p ∧ H p = some (.tup vs) ∧ Rps H ds vs
def Rps (H : Hp) : List D → List V → Prop
  | [], vs => vs = []
  | d :: ds, vs => ∃ v r, vs = v :: r ∧ Rp H d v ∧ Rps H ds r
end
mutual
theorem Rp.mono {H G : Hp} (e : Same H G) : ∀ (d : D) (v : V), Rp H d v → Rp G d v
  | .non, _, h => h
  | .bl _, _, h => h
  | .int _, _, h => h
  | .txt _, _, h => h
  | .lst ds, _, ⟨p, vs, hv, hp, r⟩ => ⟨p, vs, hv, e _ _ hp, Rps.mono e ds vs r⟩
  | .tup ds, _, ⟨p, vs, hv, hp, r⟩ => ⟨p, vs, hv, e _ _ hp, Rps.mono e ds vs r⟩
theorem Rps.mono {H G : Hp} (e : Same H G) : ∀ (ds : List D) (vs : List V), Rps H ds vs → Rps G ds vs
  | [], _, h => h
  | d :: ds, _, ⟨v, r, hv, h1, h2⟩ => ⟨v, r, hv, Rp.mono e d v h1, Rps.mono e ds r h2⟩
end
theorem Rps.len {H : Hp} : ∀ {ds : List D} {vs : List V}, Rps H ds vs → vs.length = ds.length
  | [], _, h => by
    cases h
    rfl
  | d :: ds, _, ⟨v, r, hv, _, h2⟩ => by
    rw [hv, List.length_cons, List.length_cons, Rps.len h2]
theorem Rps.at {H : Hp} : ∀ {ds : List D} {vs : List V} (i : Nat) (d : D), Rps H ds vs → ds[i]? = some d → ∃ v, vs[i]? = some v ∧ Rp H d v
  | [], _, _, _, _, e => by simp at e
  | d :: ds, _, 0, d', ⟨v, r, hv, h1, _⟩, e => by
    rw [hv]
    simp at e
    subst e
    exact ⟨v, rfl, h1⟩
  | d :: ds, _, i + 1, d', ⟨v, r, hv, _, h2⟩, e => by
    rw [hv]
    exact Rps.at i d' h2 (by simpa using e)
theorem Rps.txts {H : Hp} : ∀ (ls : List (List Nat)), Rps H (ls.map .txt) (ls.map tx)
  | [] => rfl
  | l :: ls => ⟨tx l, ls.map tx, rfl, rfl, Rps.txts ls⟩
theorem Rps.txts_eq {H : Hp} : ∀ {ls : List (List Nat)} {vs : List V}, Rps H (ls.map .txt) vs → vs = ls.map tx
  | [], _, h => h
  | l :: ls, _, ⟨v, r, hv, h1, h2⟩ => by
    rw [hv, Rps.txts_eq h2, show v = tx l from h1]
    rfl

/-! ### purses -/
def PurseAt (H : Hp) (p : Addr) : Prop := ∃ x y z : Int, H p = some (.lst [.int x, .int y, .int z]) ∧ 0 ≤ x
def spDraw : Sp := fun vs H Q _ => ∃ (p : Addr) (n : Int), vs = [.ref p, .int n] ∧ PurseAt H p ∧ 0 < n ∧ n < 1000000000 ∧ ∀ (d : Int) (o : HO), 0 ≤ d → d < n → PurseAt (upd H p o) p → Q (.int d) (upd H p o)
def spPurse (K : PySem.W.Frag) : Sp := fun vs H Q _ => ∃ (a : Addr) (ns : List Int) (k s : Int), vs = [.ref a, .int k, .int s] ∧ SqL K H a (ns.map V.int) ∧ ns.length ≤ 63 ∧ 0 ≤ k ∧ k ≤ 63 ∧ ∀ (q : Addr) (o : HO), H q = none → PurseAt (upd H q o) q → Q (.ref q) (upd H q o)
end Kit

end
section
set_option Elab.async false
set_option maxRecDepth 100000
set_option maxHeartbeats 4000000
namespace Kit
open PySem PySem.Spec PyProof.Rows L2

/-! ### comprehensions without a test, one name -/
section
variable {J : It} {n : Nat} {G : Hp → Prop} {Y : Nat → Hp → V → Hp → Prop} {te : TE} {σ : St} {H1 : Hp} {D : Addr} {Qd : Hp → Prop}
theorem wipe1 (j : Nat) (x : Option V) : wipe ((wipe σ [j]).set j x) [j] = wipe σ [j] := by
  show ((wipe σ [j]).set j x).set j none = σ.set j none
  rw [List.set_set]
  show (σ.set j none).set j none = σ.set j none
  rw [List.set_set]
theorem set1 (j : Nat) (x : Option V) : (wipe σ [j]).set j x = σ.set j x := by
  show (σ.set j none).set j x = _
  rw [List.set_set]
theorem lc_one (w : Walk J n G Y) {j : Nat} (out : List V) (hn : out.length = n) (hsz : n ≤ 100000) (hD : H1 D = none) (hG : ∀ H, Same H1 H → G H)
    (hs : ∀ i x H H' v, i < n → Same H1 H → Y i H x H' → out[i]? = some v → Same H H' ∧ ∀ Q : VK, (∀ M, Same H' M → Q v M) → te (σ.set j (some x)) H' Q)
    (hd : ∀ H, Same H1 H → H D = some (.lst out) → Qd H) :
    ∃ W : Nat → Nat → Hp → Prop, (∃ m, W 0 m (upd H1 D (.lst []))) ∧ ∀ i m H, W i m H →
      (J.stop i H ∧ Qd H) ∨ (J.go i H ∧ ∃ Nx : Hp → Prop, (∀ H', Nx H' → ∃ m', m' < m ∧ W (i + 1) m' H') ∧ ∀ x H', J.yld i H x H' → gName j x (wipe σ [j]) H' fun σ2 H2 => wipe σ2 [j] = wipe σ [j] ∧ tYes σ2 H2 fun b H3 =>
        if b = true then te σ2 H3 fun y H4 => ∃ acc, H4 D = some (.lst acc) ∧ acc.length < sizeLine ∧ Nx (upd H4 D (.lst (acc ++ [y]))) else Nx H3) := by
  refine lc_it w (fun i H => Same H1 H ∧ H D = some (.lst (out.take i))) ⟨ex_new hD, upd_same⟩ (fun i H _ h => hG H h.1) ?_ ?_
  · rintro i x H H' hi ⟨s1, hHD⟩ y
    have hv : out[i]? = some (out[i]'(by omega)) := List.getElem?_eq_getElem _
    obtain ⟨s2, ht⟩ := hs i x H H' _ hi s1 y hv
    show wipe ((wipe σ [j]).set j (some x)) [j] = _ ∧ _
    refine ⟨wipe1 j _, ?_⟩
    unfold tYes
    dsimp only
    rw [if_pos rfl]
    rw [set1]
    refine ht _ fun M s3 => ⟨out.take i, s3 _ _ (s2 _ _ hHD), by rw [List.length_take]; exact szlt (by omega), ?_⟩
    refine ⟨ex_mut ((s1.trans s2).trans s3) hD, ?_⟩
    rw [upd_same, List.take_add_one, hv]
    rfl
  · rintro H ⟨s1, hHD⟩
    refine hd H s1 ?_
    rw [hHD, List.take_of_length_le (by omega)]
end

/-! ### what a def may let out -/
def Ra (E : XK) (C : Addr) (fld : Str) (y : V) (H : Hp) : Prop := ∀ d M, Same H M → M d = some (.xd [(fld, y)]) → E (.ref C) (some d) M
theorem Ra.mono {E : XK} {C : Addr} {fld : Str} {y : V} {H G : Hp} (h : Ra E C fld y H) (e : Same H G) : Ra E C fld y G := fun d M s => h d M (e.trans s)
theorem Ra.now {E : XK} {C : Addr} {fld : Str} {y : V} {H : Hp} (h : Ra E C fld y H) : [y].length ≤ 1000 ∧ ∀ a, H a = none → spErr C fld (.ref a :: ([y] ++ [])) (upd H a (exo a C none))
    (fun v G => v = .non ∧ ∃ (d : Addr) (fs : List (Str × V)), G a = some (exo a C (some d)) ∧ G d = some (exd d fs) ∧ H d = none ∧ E (.ref C) (some d) (upd (L2.del G a) d (.xd fs))) (fun _ _ _ => False) :=
  mkE fun d hd => h d _ (ex_new hd) upd_same

/-! ### columns of a scheme: plain facts -/
def cols (n : Nat) : List Nat := (List.range n).map (97 + ·)
def inCol (n x : Nat) : Bool := decide (97 ≤ x ∧ x < 97 + n)
def inDig (c x : Nat) : Bool := decide (48 ≤ x ∧ x < 48 + c)
def isCol (n : Nat) (l : List Nat) : Bool := decide (l.length = 1) && l.all (inCol n)
def isStrip (n : Nat) (l : List Nat) : Bool := l.all (inCol n)
def isColour (c : Nat) (l : List Nat) : Bool := decide (l.length = 1) && l.all (inDig c)
def isDigs (r c : Nat) (l : List Nat) : Bool := decide (l.length = r) && l.all (inDig c)
def dig : Nat → Nat → Nat → List Nat
  | 0, _, _ => []
  | r + 1, c, k => (48 + (k / c ^ r) % c) :: dig r c k
def num (c : Nat) (l : List Nat) : Nat := l.foldl (fun acc d => acc * c + (d - 48)) 0
def Good (r c n : Nat) : Prop := (r, c, n) ∈ [(1, 2, 2), (1, 3, 3), (2, 2, 4), (2, 3, 9), (3, 2, 8)]
instance : Decidable (Good r c n) := by unfold Good; infer_instance
theorem mem_cols {n x : Nat} : x ∈ cols n ↔ inCol n x = true := by
  unfold cols inCol
  rw [List.mem_map, decide_eq_true_iff]
  constructor
  · rintro ⟨k, hk, rfl⟩
    have := List.mem_range.mp hk
    omega
  · intro h
    exact ⟨x - 97, List.mem_range.mpr (by omega), by omega⟩
theorem Good.cases {r c n : Nat} (h : Good r c n) : (r = 1 ∧ c = 2 ∧ n = 2) ∨ (r = 1 ∧ c = 3 ∧ n = 3) ∨ (r = 2 ∧ c = 2 ∧ n = 4) ∨ (r = 2 ∧ c = 3 ∧ n = 9) ∨ (r = 3 ∧ c = 2 ∧ n = 8) := by
  simpa [Good] using h
theorem cols_len (n : Nat) : (cols n).length = n := by simp [cols]
theorem dig_len (r c k : Nat) : (dig r c k).length = r := by
  induction r with
  | zero => rfl
  | succ r ih => rw [dig, List.length_cons, ih]
theorem dig_in {r c k : Nat} (hc : 0 < c) : (dig r c k).all (inDig c) = true := by
  induction r with
  | zero => rfl
  | succ r ih =>
    rw [dig, List.all_cons, ih, Bool.and_true]
    unfold inDig
    have := Nat.mod_lt (k / c ^ r) hc
    rw [decide_eq_true_iff]
    omega
theorem dig_digs {r c k : Nat} (hc : 0 < c) : isDigs r c (dig r c k) = true := by
  unfold isDigs
  rw [dig_len, dig_in hc]
  simp
/-- a list of digits is one of finitely many -/
def digLists : Nat → Nat → List (List Nat)
  | 0, _ => [[]]
  | r + 1, c => (List.range c).flatMap fun d => (digLists r c).map ((48 + d) :: ·)
theorem mem_digLists {r c : Nat} : ∀ {l : List Nat}, isDigs r c l = true → l ∈ digLists r c := by
  induction r with
  | zero =>
    intro l h
    unfold isDigs at h
    rw [Bool.and_eq_true, decide_eq_true_iff] at h
    rw [List.length_eq_zero_iff.mp h.1]
    exact List.mem_singleton.mpr rfl
  | succ r ih =>
    intro l h
    unfold isDigs at h
    rw [Bool.and_eq_true, decide_eq_true_iff] at h
    match l, h with
    | x :: l, ⟨h1, h2⟩ =>
      rw [List.all_cons, Bool.and_eq_true] at h2
      have hx := h2.1
      unfold inDig at hx
      rw [decide_eq_true_iff] at hx
      rw [digLists, List.mem_flatMap]
      refine ⟨x - 48, List.mem_range.mpr (by omega), List.mem_map.mpr ⟨l, ih ?_, ?_⟩⟩
      · unfold isDigs
        rw [Bool.and_eq_true, decide_eq_true_iff]
        exact ⟨by simpa using h1, h2.2⟩
      · rw [show 48 + (x - 48) = x by omega]
theorem num_lt {r c n : Nat} (h : Good r c n) {l : List Nat} (hl : isDigs r c l = true) : num c l < n := by
  suffices z : ∀ l ∈ digLists r c, num c l < n from z l (mem_digLists hl)
  clear hl
  rcases h.cases with ⟨rfl, rfl, rfl⟩ | ⟨rfl, rfl, rfl⟩ | ⟨rfl, rfl, rfl⟩ | ⟨rfl, rfl, rfl⟩ | ⟨rfl, rfl, rfl⟩ <;> decide +kernel
theorem dig_num {r c n : Nat} (h : Good r c n) {l : List Nat} (hl : isDigs r c l = true) : dig r c (num c l) = l := by
  suffices z : ∀ l ∈ digLists r c, dig r c (num c l) = l from z l (mem_digLists hl)
  clear hl
  rcases h.cases with ⟨rfl, rfl, rfl⟩ | ⟨rfl, rfl, rfl⟩ | ⟨rfl, rfl, rfl⟩ | ⟨rfl, rfl, rfl⟩ | ⟨rfl, rfl, rfl⟩ <;> decide +kernel
theorem num_dig {r c n k : Nat} (h : Good r c n) (hk : k < n) : num c (dig r c k) = k := by
  suffices z : ∀ k < n, num c (dig r c k) = k from z k hk
  clear hk
  rcases h.cases with ⟨rfl, rfl, rfl⟩ | ⟨rfl, rfl, rfl⟩ | ⟨rfl, rfl, rfl⟩ | ⟨rfl, rfl, rfl⟩ | ⟨rfl, rfl, rfl⟩ <;> decide +kernel
end Kit

end
section
set_option Elab.async false
set_option maxRecDepth 100000
set_option maxHeartbeats 4000000
namespace Kit
open PySem PySem.Spec PyProof.Rows L2
/-! ### rules whose reading names the written part: it is given -/
section
variable {X : Cx} {e e2 : Expr} {es : List Expr} {ta tb : TE} {t : TA} {f : Str} {pos p apos cpos : Pos} {tg : Expr}
theorem kfld (K : PySem.W.Frag) (he : PE X e ta) (hK : X.K = K := by rfl) (hb : attributeBase e f X.env (eval e X.env) = eval e X.env := by rfl) : PE X (.Attribute e f pos) (tFld K ta f) := hK ▸ pe_fld he hb
theorem kcon (K : PySem.W.Frag) (he : PE X e ta) (hK : X.K = K := by rfl) (hb : attributeBase e f X.env (eval e X.env) = eval e X.env := by rfl) : PE X (.Attribute e f pos) (tCon K ta f) := hK ▸ pe_con he hb
theorem kix_list (K : PySem.W.Frag) (hK : X.K = K := by rfl) : IxR X (rIxL K) := hK ▸ ix_list
theorem kix_tup (K : PySem.W.Frag) (hK : X.K = K := by rfl) : IxR X (rIxT K) := hK ▸ ix_tup
theorem kix_seq (K : PySem.W.Frag) (hK : X.K = K := by rfl) : IxR X (rIx K) := hK ▸ ix_seq
theorem kpi_list (K : PySem.W.Frag) (hl : PE X e ta) (hK : X.K = K := by rfl) : PI X tg e (iList K ta) := hK ▸ pi_list hl
theorem kpi_tup (K : PySem.W.Frag) (hl : PE X e ta) (hK : X.K = K := by rfl) : PI X tg e (iTup K ta) := hK ▸ pi_tup hl
theorem kisi (K : PySem.W.Frag) (hK : X.K = K := by rfl) : CallR X (.builtin "isinstance") (rIsi K) := hK ▸ call_isi
theorem klen_seq (K : PySem.W.Frag) (hK : X.K = K := by rfl) : CallR X (.builtin "len") (fun xs H Q => ∃ p ys, xs = [.ref p] ∧ (SqL K H p ys ∨ SqT K H p ys) ∧ Q (.int ys.length) H) := hK ▸ call_len_seq
theorem klen (K : PySem.W.Frag) (hK : X.K = K := by rfl) : CallR X (.builtin "len") (fun xs H Q => ∃ x n, xs = [x] ∧ LenV K x H n ∧ Q (.int n) H) := hK ▸ call_len
theorem ksum (K : PySem.W.Frag) (hc : X.calm = true) (hK : X.K = K := by rfl) : CallR X (.builtin "sum") (rSum K) := hK ▸ cr_sum hc
theorem kall (K : PySem.W.Frag) (hc : X.calm = true) (hK : X.K = K := by rfl) : CallR X (.builtin "all") (rAll K) := hK ▸ cr_all hc
theorem kin (K : PySem.W.Frag) (hK : X.K = K := by rfl) : OpR X (compareOp .In) (rIn K false) := hK ▸ op_in_seq
theorem knotin (K : PySem.W.Frag) (hK : X.K = K := by rfl) : OpR X (compareOp .NotIn) (rIn K true) := hK ▸ op_notIn_seq
theorem keqD (K : PySem.W.Frag) (hu : X.A.units + 64 < cLine) (hK : X.K = K := by rfl) : OpR X (compareOp .Eq) (rEqD K) := hK ▸ op_eqD hu
theorem kneD (K : PySem.W.Frag) (hu : X.A.units + 64 < cLine) (hK : X.K = K := by rfl) : OpR X (compareOp .NotEq) (rNeD K) := hK ▸ op_neD hu
theorem klist_of (K : PySem.W.Frag) (hK : X.K = K := by rfl) : CallR X (.type "list") (fun xs H Q => ∃ p ys, xs = [.ref p] ∧ (SqL K H p ys ∨ SqT K H p ys) ∧ ∀ l, H l = none → Q (.ref l) (upd H l (.lst ys))) := hK ▸ call_list_of
theorem ksl_list (K : PySem.W.Frag) (hK : X.K = K := by rfl) : SlR X (rSlL K) := hK ▸ sl_list
theorem kjoin (K : PySem.W.Frag) {o : Expr} {to te : TE} (ho : PE X o to) (he : PE X e te) (hK : X.K = K := by rfl) (hs : starEach [e] X.env = [(false, eval e X.env)] := by rfl) (hbase : attributeBase o "join" X.env (eval o X.env) = eval o X.env := by rfl) (hline : (apos.endLine == cpos.line) = true := by rfl) :
    PE X (.Call (.Attribute o "join" apos) [e] [] cpos) (tM1 (fun x xs H Q => ∃ a p, ∃ ys : List Str, x = .str a ∧ xs = [.ref p] ∧ (SqL K H p (ys.map V.str) ∨ SqT K H p (ys.map V.str)) ∧ (ys.map (·.length)).sum + ys.length * a.length ≤ 16777216 ∧ Q (.str (Txt.join a ys)) H) to te) := hK ▸ pe_join ho he hs hbase hline
end
end Kit

end
section
set_option Elab.async false
set_option linter.all false
set_option maxRecDepth 100000
set_option maxHeartbeats 4000000
namespace Kit
open PySem PySem.Spec PyProof.Rows L2
/-! ### an own == : what its def promises, of any other thing whose type does not come first -/
section
variable {X : Cx} {C : Addr} {k j : Nat} {sp : Sp}
/-- what the type of the other thing must be -/
def OtherOk (K : PySem.W.Frag) (C : Addr) (H : Hp) (y : V) : Prop := (∃ i, y = .int i) ∨ (∃ z, y = .str z) ∨ ∃ b dx fs, y = .ref b ∧ H b = some (.ins C dx fs)
def rEqO (K : PySem.W.Frag) (C : Addr) (sp : Sp) : R2 := fun x y H Q => ∃ a dx fs, x = .ref a ∧ H a = some (.ins C dx fs) ∧ OtherOk K C H y ∧ sp [x, y] H (fun v G => ∃ b, v = .bl b ∧ Q (.bl b) G) E0
theorem eqO (K : PySem.W.Frag) (c : CanM X.prog X.w X.K X.mg X.base k C "__eq__" sp) (hr : Room j X.A) (hk : k ≤ j) (hni : PySem.W.notFirst K C (.type "int") = true) (hns : PySem.W.notFirst K C (.type "str") = true) (hK : X.K = K := by rfl) : OpR X (compareOp .Eq) (rEqO K C sp) := by
  subst hK
  obtain ⟨f, fd, ps, F, hc, hm, b⟩ := c.ex
  intro pins s σ H x y v u Q I rx ry hq
  obtain ⟨a, dx, fs, rfl, ha, ho, h⟩ := hq
  cases rx
  show wpAny (model X.prog X.w) X.A (richCompare .Eq (.ref a) u) (EP X pins σ Q) X.xe s
  obtain ⟨mA, J, _⟩ := ins_get I.hok ha
  obtain ⟨od, J, _⟩ := J.look
  obtain ⟨m, hF⟩ := I.fr
  have tb : ∃ tb, PySem.W.Looks (model X.prog X.w) s.heap (typeOf u) tb ∧ PySem.W.notFirst X.K C tb = true := by
    rcases ho with ⟨i, rfl⟩ | ⟨z, rfl⟩ | ⟨b', dy, gs, rfl, hb'⟩
    · obtain ⟨t, rfl⟩ := ry
      exact ⟨.type "int", .now, hni⟩
    · obtain ⟨t, rfl⟩ := ry
      exact ⟨.type "str", .now, hns⟩
    · cases ry
      obtain ⟨mB, J', _⟩ := ins_get I.hok hb'
      obtain ⟨od', J', _⟩ := J'.look
      exact ⟨.ref C, J'.type, by simp [PySem.W.notFirst]⟩
  obtain ⟨tb, htb, hnf⟩ := tb
  refine PySem.W.cmp_K (op := .Eq) (tb := tb) (hr.mono hk).units0 hF I.ok.mod.kin J htb hnf hm.at_ hm.fn ?_
  refine wpAny_mono (run_fn (us := [.ref a, u]) (vs := [.ref a, y]) (dvs := []) (ds := []) F (hr.mono hk) b .nil passL I (.cons rfl (.cons ry .nil)) h) (fun r s' z => ?_) fun _ _ x => x
  obtain ⟨v, H', I', rv, bb, rfl, q⟩ := z
  cases rv
  exact ⟨.bl bb, H', I', rfl, q⟩
/-- len(o) by an own __len__ -/
def rLenO (C : Addr) (sp : Sp) : List V → Hp → VK → Prop := fun xs H Q => ∃ a dx fs, xs = [.ref a] ∧ H a = some (.ins C dx fs) ∧ sp [.ref a] H (fun v G => ∃ n : Int, v = .int n ∧ 0 ≤ n ∧ n < 2 ^ 63 ∧ Q (.int n) G) E0
theorem lenO (c : CanM X.prog X.w X.K X.mg X.base k C "__len__" sp) (hr : Room j X.A) (hk : k + 1 ≤ j) : CallR X (.builtin "len") (rLenO C sp) := by
  obtain ⟨f, fd, ps, F, hc, hm, b⟩ := c.ex
  intro pins s σ H xs us Q I r h
  obtain ⟨a, dx, fs, rfl, ha, h⟩ := h
  rw [Vals.ref1 r]
  obtain ⟨mA, J, _⟩ := ins_get I.hok ha
  obtain ⟨od, J, _⟩ := J.look
  obtain ⟨m, hF⟩ := I.fr
  refine PySem.W.len_K hF I.ok.mod.kin J hm.at_ hm.fn ?_
  have hr1 : Room k X.A.in1 := (hr.mono hk).in1
  have e0 : Env0 X.prog X.w X.K X.mg X.base X.A.in1 X.stack s H := by
    have e := I.env0
    exact ⟨e.frames, e.mod, e.bs, e.bsz, e.funs, e.frf, e.hok, e.bare⟩
  have hl := F.len _ _ _ _ h
  have bb := b s [.ref a] I.kIn (by simpa using hl)
  refine wpAny_call (codeAny_mono (F.run X.A.in1 X.stack s H ⟨[.ref a], []⟩ [.ref a] [.ref a] _ E0 hr1 e0 (by simpa using bb) (.cons rfl .nil) h) ?_)
  intro z s' hq
  cases z with
  | error e =>
    obtain ⟨_, _, _, _, _, _, _, _, _, _, _, _, y⟩ := hq
    exact y.elim
  | ok fl =>
    cases fl with
    | ret w =>
      obtain ⟨v, H', I', rz, n, rfl, h0, h1, q⟩ := I.after hq
      obtain ⟨t, rfl⟩ := rz
      exact ⟨⟨h0, h1⟩, .int n, H', I'.tok _, ⟨_, rfl⟩, q⟩
    | next => exact hq.elim
    | brk => exact hq.elim
    | cont => exact hq.elim
theorem vals_get : ∀ {xs : List V} {us : List Value}, xs.length = us.length → (∀ (i : Nat) x u, xs[i]? = some x → us[i]? = some u → RelV x u) → Vals xs us
  | [], [], _, _ => .nil
  | x :: xs, u :: us, h, f => .cons (f 0 x u rfl rfl) (vals_get (by simpa using h) fun i y v h1 h2 => f (i + 1) y v (by simpa using h1) (by simpa using h2))
/-- list(text) -/
theorem listS (hc : X.calm = true) : CallR X (.type "list") (fun xs H Q => ∃ l : List Nat, xs = [tx l] ∧ l.length ≤ 100000 ∧ ∀ p, H p = none → Q (.ref p) (upd H p (.lst (l.map fun x => tx [x])))) := by
  intro pins s σ H xs us Q I r h
  obtain ⟨l, rfl, hl, q⟩ := h
  cases r with
  | cons rx rr =>
    cases rr
    obtain ⟨t, rfl⟩ := rx
    refine call_list_str (I.ok.hd hc) (S l) t (hn := by show (S l).length ≤ _; rw [S_len]; exact szl hl) ?_
    intro h' tk acc c' hk hS hit
    refine ⟨.ref s.heap.objs.size, _, I.laid (t' := tk) (o := .lst (l.map fun x => tx [x])) hk (Nat.le_refl _) ?_, rfl, q _ (I.hok.fresh (Nat.le_refl _))⟩
    have hn : acc.toList.length = l.length := by
      rw [Array.length_toList, hit.1]
      exact S_len l
    refine ⟨szl (by rw [List.length_map]; exact hl), acc.toList, c', vals_get (by rw [List.length_map, hn]) ?_, hS⟩
    intro i v u hv hu
    obtain ⟨ch, t', h1, rfl⟩ := hit.2 i u (by rw [← Array.getElem?_toList]; exact hu)
    have h1 : l[i]? = some ch := by
      have z : (S l).cps[i]? = l[i]? := List.getElem?_toArray ..
      rw [← z]
      exact h1
    rw [List.getElem?_map, h1] at hv
    cases hv
    exact ⟨t', rfl⟩
end

/-! ### enumerate(xs, start=k) -/
def ItS (a : Addr) (k : Int) : It :=
  ⟨fun i G => ∃ (xs : List V) (x : V), G a = some (.lst xs) ∧ xs[i]? = some x, fun i G v G' => ∃ T x, v = .ref T ∧ G T = none ∧ G' = upd G T (.tup [.int (k + (i : Nat)), x]) ∧ ∀ xs, G a = some (.lst xs) → xs[i]? = some x, fun i G => ∃ xs : List V, G a = some (.lst xs) ∧ xs.length = i⟩
theorem turn_S {P : Program} {w : World} {K : PySem.W.Frag} {elts : List Expr} {kk : Nat} {tpos : Pos} (a e it : Addr) (k : Int) :
    Turn P w K (.Tuple elts kk tpos) (ItS a k) [e, it] e (fun i h => (∃ old, IsEnum h e it (k + ((i : Nat) : Int)) old) ∧ h.IsListIter it a i ∧ e ≠ it) where
  mem := by simp
  obj := by
    rintro i h ⟨⟨old, he⟩, ⟨o, ho, hc, hd⟩, _⟩ b hb
    have z : b = e ∨ b = it := by simpa using hb
    rcases z with rfl | rfl
    · exact ⟨_, he, fun v q => nomatch q⟩
    · exact ⟨o, ho, fun v q => by rw [hd] at q; cases q⟩
  keep := by
    rintro i h h' ⟨⟨old, he⟩, hi, hne⟩ k
    exact ⟨⟨old, k e (by simp) _ he⟩, hi.at fun o q => k it (by simp) o q, hne⟩
  item := by
    intro X hP hw hK hc i pins s σ H E I hf st hg
    subst hP hw hK
    obtain ⟨⟨old, he⟩, hit, hne⟩ := st
    obtain ⟨xs, x, hq, hx⟩ := hg
    obtain ⟨hzz, its, nn, rv, hl0⟩ := (show ObjOk X.prog X.w H s.heap a (.lst xs) from I.hok a _ hq)
    have hL : s.heap.IsList a its.toArray := ⟨_, hl0, rfl, nn, rfl⟩
    obtain ⟨u, hu, ru⟩ := rv.get hx
    have nai : a ≠ it := fun z => by
      have := (hf it (by simp)).1
      rw [← z, hq] at this
      cases this
    have nae : a ≠ e := fun z => by
      have := (hf e (by simp)).1
      rw [← z, hq] at this
      cases this
    have hlen : i < its.toArray.size := by
      have z := (List.getElem?_eq_some_iff.mp hx).1
      have y := rv.length
      rw [List.size_toArray]
      omega
    have le : e < s.heap.objs.size := Heap.lt_size he
    have li : it < s.heap.objs.size := by
      obtain ⟨_, q, _⟩ := hit
      exact Heap.lt_size q
    refine wpAny_pyNext_enum_itemC (Draws.list (A := X.A.in1) (show X.A.in1.handled = none from I.ok.hd hc) it a nai its.toArray) he ⟨hit, hL⟩ hlen hne (by simp [hne, Ne.symm nae]) ?_
    intro u' h' tk hu' ho hit' hT hsz hk
    obtain rfl : u' = u := by
      have z : its[i]? = some u' := by simpa using hu'
      rw [hu] at z
      exact (Option.some.inj z).symm
    refine ⟨_, rfl, wpAny_letOwnedTupleGo_enum (s := { s with heap := h', toks := tk + 1 }) ho ?_⟩
    intro h'' he' sb
    have hT2 : h''.get? s.heap.objs.size = some { cls := .type "tuple", data := .seq #[.int (k + (i : Nat)) tk, u'] } := (sb.2 _ (Nat.ne_of_gt le)).trans hT
    have new : ObjOk X.prog X.w (upd H s.heap.objs.size (.tup [.int (k + (i : Nat)), x])) h'' s.heap.objs.size (.tup [.int (k + (i : Nat)), x]) :=
      ⟨by show 2 ≤ sizeLine; decide, [.int (k + (i : Nat)) tk, u'], .cons ⟨_, rfl⟩ (.cons ru .nil), ⟨_, hT2, rfl, _, rfl⟩⟩
    have J : Inv X pins σ (upd H s.heap.objs.size (.tup [.int (k + (i : Nat)), x])) { s with heap := h'', toks := tk + 1 } :=
      I.turnedNew (ch := [e, it]) (fun b ob hb q => (sb.2 b (fun z => hb (by simp [z]))).trans (hk b ob (fun z => hb (by simp [z])) (fun z => hb (by simp [z])) q)) hf (Nat.le_refl _) new
    refine ⟨.ref s.heap.objs.size, _, J, rfl, ⟨_, x, rfl, I.hok.fresh (Nat.le_refl _), rfl, fun ys hy => by rw [hq] at hy; cases hy; exact hx⟩, ⟨⟨u', ?_⟩, hit'.1.at fun o q => (sb.2 it (Ne.symm hne)).trans q, hne⟩, ?_⟩
    · rw [show k + ((i + 1 : Nat) : Int) = k + (i : Int) + 1 by omega]
      exact he'
    · intro b hb
      have hb' : b < s.heap.objs.size := by
        have z : b = e ∨ b = it := by simpa using hb
        rcases z with rfl | rfl
        · exact le
        · exact li
      rw [upd_ne (Nat.ne_of_lt hb')]
      exact (hf b hb).1
  done := by
    intro X hP hw hK hc i pins s σ H E I hf st hg
    subst hP hw hK
    obtain ⟨⟨old, he⟩, hit, hne⟩ := st
    obtain ⟨xs, hq, hx⟩ := hg
    obtain ⟨hzz, its, nn, rv, hl0⟩ := (show ObjOk X.prog X.w H s.heap a (.lst xs) from I.hok a _ hq)
    have hL : s.heap.IsList a its.toArray := ⟨_, hl0, rfl, nn, rfl⟩
    obtain ⟨f0, f1, f2, f3, f4, f5⟩ := hf it (by simp)
    have hl := rv.length
    have nai : a ≠ it := fun z => by
      rw [← z, hq] at f0
      cases f0
    have nae : a ≠ e := fun z => by
      have := (hf e (by simp)).1
      rw [← z, hq] at this
      cases this
    have hz : its.toArray.size = i := by
      rw [List.size_toArray]
      omega
    subst hz
    exact wpAny_pyNext_enum_endD (Draws.list (A := X.A.in1) (show X.A.in1.handled = none from I.ok.hd hc) it a nai its.toArray) he ⟨hit, hL⟩ fun h' eb => ⟨rfl, I.turned (t' := s.toks) (fun b o hb q => eb b o hb q) f0 f1 f3 f4 f5⟩
  self := by
    rintro A i s Q E ⟨⟨_, he⟩, _⟩ h
    exact wpAny_pyIter_enum he h
theorem walk_S {a : Addr} {k : Int} {xs : List V} : Walk (ItS a k) xs.length (fun G => G a = some (.lst xs)) (YPair (fun i => some (.int (k + (i : Nat)))) (fun i => xs[i]?)) := by
  refine ⟨fun i G hi q => ⟨xs, xs[i], q, List.getElem?_eq_getElem hi⟩, fun G q => ⟨xs, q, rfl⟩, ?_⟩
  rintro i G v G' hi q ⟨T, x, rfl, hT, rfl, hx⟩
  exact ⟨T, _, x, rfl, hT, rfl, rfl, hx xs q⟩
def iEnumS (K : PySem.W.Frag) (t tk : TA) : TI := fun σ H R => t σ H fun vs G => tk σ G fun zs G' => ∃ a xs k, vs = [.ref a] ∧ zs = [.int k] ∧ -(2 ^ 63) ≤ k ∧ k < 2 ^ 63 ∧ G' a = some (.lst xs) ∧ R (ItS a k) G'
theorem kws_type {M : Model} {A : Around} {E : Value → Shared → Prop} {s : Shared} {pos : Pos} {T : String} {args : List (Bool × Sem Value)} {keywords : List (Option Str × Sem Value)} {Q : Value → Shared → Prop}
    (hplain : args.any (·.1) = false) (hkw : keywords.any (·.1.isNone) = false) (h : wpAny M A (evalArgs (.type T) true args keywords) (fun a s₁ => wpAny M A (call (.type T) a.pos a.kw) Q E s₁) E s) : wpAny M A (callWith pos (.type T) [] args keywords) Q E s := by
  unfold callWith
  refine wpAny_bind (wpAny_holding (wpAny_mono h ?_ fun _ _ x => x))
  intro a s₁ h₁
  refine wpAny_bind (wpAny_standAt ?_)
  simp only [hplain, hkw, Bool.or_false]
  refine wpAny_bind (wpAny_pure ?_)
  exact wpAny_bind (wpAny_mono h₁ (fun r s₂ hr => wpAny_bind (wpAny_holding (wpAny_point (wpAny_pure hr)))) fun _ _ x => x)
theorem pi_enumS {X : Cx} {e : Expr} {t tk : TA} {p pos tpos kp : Pos} {elts : List Expr} {kk : Nat} {kv : Expr} (hg : Gl X "enumerate") (hm : X.mg "enumerate" = none) (ha : PA X [e] t) (hk : PK X [⟨some "start", kv, kp⟩] tk)
    (he : backTo pos (starEach [e] X.env) = (false, eval e X.env) :: backTo pos (starEach [] X.env) := by rfl) (hpl : (backTo pos (starEach [e] X.env)).any (·.1) = false := by rfl)
    (hall : (backToKw pos (keywordEach [⟨some "start", kv, kp⟩] X.env)).all (·.1.isSome) = true := by rfl) (hnone : (backToKw pos (keywordEach [⟨some "start", kv, kp⟩] X.env)).any (·.1.isNone) = false := by rfl)
    (hks : (backToKw pos (keywordEach [⟨some "start", kv, kp⟩] X.env)).filterMap (·.1) = [("start" : Str)] := by rfl) :
    PI X (.Tuple elts kk tpos) (.Call (.Name "enumerate" p) [e] [⟨some "start", kv, kp⟩] pos) (iEnumS X.K t tk) := by
  constructor
  intro pins s σ H R I h
  refine wpAny_Call_Name_kw (ld_blt I hg hm boot_enumerate ?_ (by decide) (by decide))
  refine kws_type hpl hnone ?_
  have run := thn (ha.run pos pins s σ H _ I h) fun us s1 (z : AP X pins σ _ us s1) => (show wpAny (model X.prog X.w) X.A (evalAll ((backToKw pos (keywordEach [⟨some "start", kv, kp⟩] X.env)).map (·.2))) (fun ws s2 => wpAny (model X.prog X.w) X.A (call (.type "enumerate") us ([("start" : Str)].zip ws))
      (fun v s1 => wpAny (model X.prog X.w) X.A (pyIter v) (PIE X pins σ (.Tuple elts kk tpos) R) X.xe s1) X.xe s2) X.xe s1 from by
    obtain ⟨vs, G, I1, r1, q1⟩ := z
    refine thn (hk.run pos pins s1 σ G _ I1 q1) ?_
    rintro ws s2 ⟨zs, G', I2, r2, a, xs, k, rfl, rfl, hk0, hk1, hq, q⟩
    cases r1 with
    | cons ra rr =>
      cases rr
      cases ra
      cases r2 with
      | cons rk rr =>
        cases rr
        obtain ⟨tk', rfl⟩ := rk
        obtain ⟨hzz, its, nn, rv, hl0⟩ := (show ObjOk X.prog X.w G' s2.heap a (.lst xs) from I2.hok a _ hq)
        have hL : s2.heap.IsList a its.toArray := ⟨_, hl0, rfl, nn, rfl⟩
        refine enum_begins_start (begins_list a its.toArray) hL hk0 hk1 ?_
        intro h' hen hit hsz hkeep
        refine wpAny_pyIter_enum hen ?_
        have J : Inv X pins σ G' { s2 with heap := h' } := I2.kept (t' := s2.toks) hkeep
        refine ⟨s2.heap.objs.size + 1, [s2.heap.objs.size + 1, s2.heap.objs.size], _, _, G', rfl, J, turn_S a (s2.heap.objs.size + 1) s2.heap.objs.size k, ⟨⟨.none, by simpa using hen⟩, ⟨_, hit, rfl, rfl⟩, Nat.succ_ne_self _⟩, ?_, q⟩
        intro b hb
        have z : b = s2.heap.objs.size + 1 ∨ b = s2.heap.objs.size := by simpa using hb
        have hle : s2.heap.objs.size ≤ b := by
          rcases z with z | z
          · rw [z]
            exact Nat.le_succ _
          · rw [z]
            exact Nat.le_refl _
        exact I2.fpOk hle (I2.hok.fresh hle))
  rw [he] at run ⊢
  refine PyProof.Rows.evalArgs_kwB hall ?_
  rw [hks]
  exact run
end Kit

end
section
set_option Elab.async false
set_option linter.all false
set_option maxRecDepth 100000
set_option maxHeartbeats 4000000
namespace Kit
open PySem PySem.Spec PyProof.Rows L2
/-! ### own two-place operators, str(o), o(..), classmethods, a class in a name -/
section
variable {X : Cx} {C : Addr} {k j : Nat} {sp : Sp} {m : Str}
def rOpO (C : Addr) (sp : Sp) : R2 := fun x y H Q => ∃ a dx fs b dy gs, x = .ref a ∧ H a = some (.ins C dx fs) ∧ y = .ref b ∧ H b = some (.ins C dy gs) ∧ sp [x, y] H (fun v G => (∃ p, v = .ref p) ∧ Q v G) E0
theorem opO {op : Operator} (c : CanM X.prog X.w X.K X.mg X.base k C m sp) (hr : Room j X.A) (hk : k ≤ j) (hc : PySem.W.selfFirst X.K C = true) (hd : PySem.dunder op.info.2 = m := by decide +kernel) : OpR X (binaryOp op) (rOpO C sp) := by
  obtain ⟨f, fd, ps, F, hcl, hm, b⟩ := c.ex
  subst hd
  intro pins s σ H x y v u Q I rx ry hq
  obtain ⟨a, dx, fs, b', dy, gs, rfl, ha, rfl, hb, h⟩ := hq
  cases rx
  cases ry
  obtain ⟨mA, J, _⟩ := ins_get I.hok ha
  obtain ⟨od, J, _⟩ := J.look
  obtain ⟨mB, J', _⟩ := ins_get I.hok hb
  obtain ⟨od', J', _⟩ := J'.look
  obtain ⟨mm, hF⟩ := I.fr
  refine PySem.W.binop_K hF I.ok.mod.kin J J'.type hc hm.at_ hm.fn ?_
  refine wpAny_mono (run_fn (us := [.ref a, .ref b']) (vs := [.ref a, .ref b']) (dvs := []) (ds := []) F (hr.mono hk) b .nil passL I (.cons rfl (.cons rfl .nil)) h) (fun r s' z => ?_) fun _ _ x => x
  obtain ⟨v, H', I', rv, ⟨p, rfl⟩, q⟩ := z
  cases rv
  exact ⟨.ref p, H', I', rfl, q⟩
/-- .. that may raise, the wish at the slots -/
def tOpS (C : Addr) (sp : Sp) (W : WX) (ta tb : TE) : TE := fun σ H Q => ta σ H fun x H1 => tb σ H1 fun y H2 => ∃ a dx fs b dy gs, x = .ref a ∧ H2 a = some (.ins C dx fs) ∧ y = .ref b ∧ H2 b = some (.ins C dy gs) ∧ sp [x, y] H2 (fun v G => (∃ p, v = .ref p) ∧ Q v G) (WE W σ)
theorem pe_opS {op : Operator} {W : WX} {a b : Expr} {ta tb : TE} {pos : Pos} (c : CanM X.prog X.w X.K X.mg X.base k C m sp) (tk : Takes X W) (hr : Room j X.A) (hk : k ≤ j) (hc : PySem.W.selfFirst X.K C = true) (ha : PE X a ta) (hb : PE X b tb)
    (hd : PySem.dunder op.info.2 = m := by decide +kernel) : PE X (.BinOp a op b pos) (tOpS C sp W ta tb) := by
  obtain ⟨f, fd, ps, F, hcl, hm, b⟩ := c.ex
  subst hd
  refine ⟨fun pins s σ H Q I h => ?_⟩
  refine wpAny_BinOp (binT ha hb I h fun v u s2 x y H2 I2 rx ry q => ?_)
  obtain ⟨a, dx, fs, b', dy, gs, rfl, ha, rfl, hb, h⟩ := q
  cases rx
  cases ry
  obtain ⟨mA, J, _⟩ := ins_get I2.hok ha
  obtain ⟨od, J, _⟩ := J.look
  obtain ⟨mB, J', _⟩ := ins_get I2.hok hb
  obtain ⟨od', J', _⟩ := J'.look
  obtain ⟨mm, hF⟩ := I2.fr
  refine PySem.W.binop_K hF I2.ok.mod.kin J J'.type hc hm.at_ hm.fn ?_
  refine wpAny_mono (run_fnS (us := [.ref a, .ref b']) (vs := [.ref a, .ref b']) F (hr.mono hk) b (passAt tk σ) I2 (.cons rfl (.cons rfl .nil)) h) (fun r s' z => ?_) fun _ _ x => x
  obtain ⟨v, H', I', rv, ⟨p, rfl⟩, q⟩ := z
  cases rv
  exact ⟨.ref p, H', I', rfl, q⟩
/-- str(o) by an own __str__ -/
def rStrO (C : Addr) (sp : Sp) : List V → Hp → VK → Prop := fun xs H Q => ∃ a dx fs, xs = [.ref a] ∧ H a = some (.ins C dx fs) ∧ sp [.ref a] H (fun v G => ∃ z : Str, v = .str z ∧ Q (.str z) G) E0
theorem strO (c : CanM X.prog X.w X.K X.mg X.base k C "__str__" sp) (hr : Room j X.A) (hk : k + 2 ≤ j) : CallR X (.type "str") (rStrO C sp) := by
  obtain ⟨f, fd, ps, F, hc, hm, b⟩ := c.ex
  intro pins s σ H xs us Q I r h
  obtain ⟨a, dx, fs, rfl, ha, h⟩ := h
  rw [Vals.ref1 r]
  obtain ⟨mA, J, _⟩ := ins_get I.hok ha
  obtain ⟨od, J, _⟩ := J.look
  have hr1 : Room k X.A.in1.in1 := (hr.mono hk).in1.in1
  refine PySem.W.kso_call hr1.units0 I.kIn J hm.at_ hm.fn ?_
  have e0 : Env0 X.prog X.w X.K X.mg X.base X.A.in1.in1 X.stack s H := by
    have e := I.env0
    exact ⟨e.frames, e.mod, e.bs, e.bsz, e.funs, e.frf, e.hok, e.bare⟩
  have hl := F.len _ _ _ _ h
  have bb := b s [.ref a] I.kIn (by simpa using hl)
  refine wpAny_call (codeAny_mono (F.run X.A.in1.in1 X.stack s H ⟨[.ref a], []⟩ [.ref a] [.ref a] _ E0 hr1 e0 (by simpa using bb) (.cons rfl .nil) h) ?_)
  intro z s' hq
  cases z with
  | error e =>
    obtain ⟨_, _, _, _, _, _, _, _, _, _, _, _, y⟩ := hq
    exact y.elim
  | ok fl =>
    cases fl with
    | ret w =>
      obtain ⟨v, H', I', rz, z, rfl, q⟩ := I.after hq
      obtain ⟨t, rfl⟩ := rz
      exact ⟨.str z, H', I', ⟨_, rfl⟩, q⟩
    | next => exact hq.elim
    | brk => exact hq.elim
    | cont => exact hq.elim
end
section
variable (P : Program) (w : World) (K : PySem.W.Frag) (mg : Str → Option Value) (base : Heap)
structure CanF (k : Nat) (C : Addr) (m : Str) (sp : Sp) : Prop where
  ex : ∃ (f : Addr) (fd : FuncData) (ps : List Str), FnOk P w K mg base (L2.CX P w) k f fd ps sp ∧ Cls K C ∧ Meth K C m f ∧ Binds K fd ps [] ∧ PySem.W.fnIn K f = true
structure CanC (k : Nat) (C : Addr) (m : Str) (sp : Sp) : Prop where
  ex : ∃ (mc : Value) (p g : Addr) (fd : FuncData) (ps : List Str), FnOk P w K mg base (L2.CX P w) k g fd ps sp ∧ ClX.CRead K C mc ∧ ClX.CMet K C mc m p g ∧ Binds K fd ps []
end
/-- a classmethod as it stands in the text -/
structure CmT (K : PySem.W.Frag) (C : Addr) (m q : Str) (st : Stmt) : Prop where
  ex : ∃ (mc : Value) (p g : Addr) (fd : FuncData), Fun K m q st g fd ∧ ClX.CRead K C mc ∧ ClX.CMet K C mc m p g
section
variable {P : Program} {w : World} {K : PySem.W.Frag} {mg : Str → Option Value} {base : Heap}
theorem fnIn_of {x q : Str} {st : Stmt} {f : Addr} {fd : FuncData} (F : Fun K x q st f fd) : PySem.W.fnIn K f = true := by
  obtain ⟨oc, od, kV, doc, pm, an, cdv, ct, osl, rfl, lk, hcd⟩ := F.ex
  unfold PySem.W.fnIn
  rw [lk]
theorem canF_of {m q : Str} {C : Addr} {st : Stmt} {N ps : List Str} {k : Nat} {sp : Sp} (c : Cls K C) (D : MetT K C m q st) (S : FnScope N ps (defScope st)) (hb : BindsPlain st m q ps) (len : ∀ vs H Q E, sp vs H Q E → vs.length = ps.length)
    (body : ∀ (f : Addr) (cdv : Value) (A : Around) (outer : List Env) (s : Shared) (H : Hp) (vs : List V) (Q : VK) (E : XK), Room k (A.deeper (envOfC q (defScope st) s.heap.objs.size f cdv)) → sp vs H Q E →
      ∃ t, PSs (cxOf (L2.CX P w) P w K mg base N q (defScope st) f cdv A outer s H E) (defBody st) t ∧ t { nx := fun _ H' => Q .non H', rt := Q } (start N vs) H) : CanF P w K mg base (k + 1) C m sp := by
  obtain ⟨f, fd, F, g⟩ := D.ex
  exact ⟨f, fd, ps, F.okX S len (body f), c, g, F.binds hb, fnIn_of F⟩
theorem canC_of {m q : Str} {C : Addr} {st : Stmt} {N ps : List Str} {k : Nat} {sp : Sp} (D : CmT K C m q st) (S : FnScope N ps (defScope st)) (hb : BindsPlain st m q ps) (len : ∀ vs H Q E, sp vs H Q E → vs.length = ps.length)
    (body : ∀ (f : Addr) (cdv : Value) (A : Around) (outer : List Env) (s : Shared) (H : Hp) (vs : List V) (Q : VK) (E : XK), Room k (A.deeper (envOfC q (defScope st) s.heap.objs.size f cdv)) → sp vs H Q E →
      ∃ t, PSs (cxOf (L2.CX P w) P w K mg base N q (defScope st) f cdv A outer s H E) (defBody st) t ∧ t { nx := fun _ H' => Q .non H', rt := Q } (start N vs) H) : CanC P w K mg base (k + 1) C m sp := by
  obtain ⟨mc, p, g, fd, F, r, c⟩ := D.ex
  exact ⟨mc, p, g, fd, ps, F.okX S len (body g), r, c, F.binds hb⟩
end
section
variable {X : Cx} {k j i : Nat} {C : Addr} {x m : Str} {sp : Sp} {W : WX} {p pos apos : Pos} {e o fe : Expr} {es : List Expr} {ta tf : TE} {t : TA}
theorem codeS {f : Addr} {fd : FuncData} {ps : List Str} {pins : List (Addr × Obj)} {σ : St} {H : Hp} {s : Shared} {Q : VK} {us : List Value} {vs : List V} (F : FnOk X.prog X.w X.K X.mg X.base (L2.CX X.prog X.w) k f fd ps sp) (hr : Room k X.A) (hb : Binds X.K fd ps []) (tk : Takes X W)
    (I : Inv X pins σ H s) (r : Vals vs us) (h : sp vs H Q (WE W σ)) : codeAny (model X.prog X.w) X.A (.call (.ref f) ⟨us, []⟩) (fun r s' => match r with | .ok (.ret v) => EP X pins σ Q v s' | .ok _ => False | .error e => X.xe e s') s := by
  have hl : us.length = ps.length := by rw [← r.length]; exact F.len _ _ _ _ h
  have b := hb s us I.kIn (by rw [List.append_nil]; exact hl)
  rw [List.append_nil] at b
  refine codeAny_mono (F.run X.A X.stack s H ⟨us, []⟩ us vs Q (WE W σ) hr I.env0 b r h) fun r s' hq => ?_
  cases r with
  | error e => exact passAt tk σ pins H s e s' I hq
  | ok fl =>
    cases fl with
    | ret v => exact I.after hq
    | next => exact hq.elim
    | brk => exact hq.elim
    | cont => exact hq.elim
/-- o(e, ..) by an own __call__ -/
def tCallOS (X : Cx) (C : Addr) (sp : Sp) (W : WX) (tf : TE) (t : TA) : TE := fun σ H Q => tf σ H fun y H1 => ∃ a, y = V.ref a ∧ t σ H1 fun vs H2 => (∃ dx fs, H2 a = some (.ins C dx fs)) ∧ sp (V.ref a :: vs) H2 Q (WE W σ)
theorem pc_cS (c : CanF X.prog X.w X.K X.mg X.base k C "__call__" sp) (tk : Takes X W) (hr : Room j X.A) (hk : k ≤ j) (hf : PE X fe tf) (ha : PA X (e :: es) t)
    (ht : eval (.Call fe (e :: es) [] pos) X.env = (do callWith pos (← eval fe X.env) [] (backTo pos (starEach (e :: es) X.env)) (backToKw pos (keywordEach [] X.env))) := by rfl)
    (he : starEach (e :: es) X.env = (false, eval e X.env) :: starEach es X.env := by rfl) (hpl : (backTo pos (starEach es X.env)).any (·.1) = false := by rfl) : PE X (.Call fe (e :: es) [] pos) (tCallOS X C sp W tf t) := by
  obtain ⟨f, fd, ps, F, hcl, hm, b, hfn⟩ := c.ex
  refine ⟨fun pins s σ H Q I h => ?_⟩
  refine Call_ (thn (hf.run pins s σ H _ I h) fun u s1 ⟨y, H1, I1, ry, a, ey, q⟩ => ?_) ht
  subst ey
  obtain rfl : u = Value.ref a := ry
  refine StX.callO_with (thn (ha.run pos pins s1 σ H1 _ I1 q) fun us s2 ⟨vs, H2, I2, r, hi, q2⟩ => ?_) he hpl
  have hi2 : StX.InsC X H2 a C := .inr hi
  obtain ⟨ox, od, J, hd⟩ := StX.insC_at I2 hi2
  exact ⟨⟨C, ox, od, J, hd⟩, wpAny_call (PySem.W.kco_code I2.kIn J hd hm.at_ hm.fn hfn (codeS (us := .ref a :: us) (vs := .ref a :: vs) F (hr.mono hk) b tk I2 (.cons rfl r) q2))⟩
def tCallO0 (X : Cx) (C : Addr) (sp : Sp) (tf : TE) (t : TA) : TE := fun σ H Q => tf σ H fun y H1 => ∃ a, y = V.ref a ∧ t σ H1 fun vs H2 => (∃ dx fs, H2 a = some (.ins C dx fs)) ∧ sp (V.ref a :: vs) H2 Q E0
theorem pc_c (c : CanF X.prog X.w X.K X.mg X.base k C "__call__" sp) (hr : Room j X.A) (hk : k ≤ j) (hf : PE X fe tf) (ha : PA X (e :: es) t)
    (ht : eval (.Call fe (e :: es) [] pos) X.env = (do callWith pos (← eval fe X.env) [] (backTo pos (starEach (e :: es) X.env)) (backToKw pos (keywordEach [] X.env))) := by rfl)
    (he : starEach (e :: es) X.env = (false, eval e X.env) :: starEach es X.env := by rfl) (hpl : (backTo pos (starEach es X.env)).any (·.1) = false := by rfl) : PE X (.Call fe (e :: es) [] pos) (tCallO0 X C sp tf t) := by
  obtain ⟨f, fd, ps, F, hcl, hm, b, hfn⟩ := c.ex
  refine ⟨fun pins s σ H Q I h => ?_⟩
  refine Call_ (thn (hf.run pins s σ H _ I h) fun u s1 ⟨y, H1, I1, ry, a, ey, q⟩ => ?_) ht
  subst ey
  obtain rfl : u = Value.ref a := ry
  refine StX.callO_with (thn (ha.run pos pins s1 σ H1 _ I1 q) fun us s2 ⟨vs, H2, I2, r, hi, q2⟩ => ?_) he hpl
  have hi2 : StX.InsC X H2 a C := .inr hi
  obtain ⟨ox, od, J, hd⟩ := StX.insC_at I2 hi2
  have F' : FnR X.prog X.w X.K X.mg X.base (L2.CX X.prog X.w) k f (fun vs H Q E => sp (vs ++ []) H Q E) := F.raw b .nil
  exact ⟨⟨C, ox, od, J, hd⟩, wpAny_call (PySem.W.kco_code I2.kIn J hd hm.at_ hm.fn hfn (run_fnR (us := .ref a :: us) (vs := .ref a :: vs) F' (hr.mono hk) passL I2 (.cons rfl r) (by rw [List.append_nil]; exact q2)))⟩
/-- C.m(e, ..), m a classmethod -/
def tCmS (C : Addr) (sp : Sp) (W : WX) (ta : TE) (t : TA) : TE := fun σ H Q => ta σ H fun x H1 => x = .ref C ∧ t σ H1 fun vs H2 => sp (.ref C :: vs) H2 Q (WE W σ)
theorem pc_cmS {pl : Sem Bool} (c : CanC X.prog X.w X.K X.mg X.base k C m sp) (tk : Takes X W) (hr : Room j X.A) (hk : k ≤ j) (he : PE X o ta) (ha : PA X (e :: es) t)
    (hst : starEach (e :: es) X.env = (false, eval e X.env) :: starEach es X.env := by rfl) (hpl : (backTo pos (starEach es X.env)).any (·.1) = false := by rfl)
    (ht : eval (.Call (.Attribute o m apos) (e :: es) [] pos) X.env = (do
      let ov ← eval o X.env
      standAt apos.atName
      let (f, first) ← holding [ov] (getMethod ov m pl)
      callWith pos f first (backTo pos (starEach (e :: es) X.env)) (backToKw pos (keywordEach [] X.env))) := by rfl) :
    PE X (.Call (.Attribute o m apos) (e :: es) [] pos) (tCmS C sp W ta t) := by
  obtain ⟨mc, pp, g, fd, ps, F, r, cm, b⟩ := c.ex
  refine ⟨fun pins s σ H Q I h => ?_⟩
  refine PySem.W.methodCall_KW (pl := pl) (thn (he.run pins s σ H _ I h) fun u s1 ⟨x, H1, I1, rx, ex, q⟩ => ?_) ht
  subst ex
  obtain rfl : u = Value.ref C := rx
  refine ClX.getmethcm_ok I1 r cm fun s2 I2 => ?_
  refine ClX.callwith_cm I2 (ClX.base_none I1 (Nat.le_refl _)) cm.fi (thn (ha.run pos _ s2 σ H1 _ I2 q) fun us s3 ⟨vs, H3, I3, r3, q3⟩ => ?_) hst hpl
  refine ⟨⟨ClX.pin_at I3, I3.kIn⟩, ?_⟩
  have z : wpAny (model X.prog X.w) X.A (call (.ref s1.heap.objs.size) us) (EP X ((s1.heap.objs.size, PySem.W.methodObj (.ref g) (.ref C)) :: pins) σ Q) X.xe s3 :=
    wpAny_call (PySem.W.method_call (ClX.pin_at I3) (codeS (us := .ref C :: us) (vs := .ref C :: vs) F (hr.mono hk) b tk I3 (.cons rfl r3) q3))
  exact thn z fun _ _ y => ClX.unpinE y
def tCm0 (C : Addr) (sp : Sp) (ta : TE) (t : TA) : TE := ClX.tCMeth C (fun vs H Q E => sp (vs ++ []) H Q E) E0 ta t
theorem pc_cm {pl : Sem Bool} (c : CanC X.prog X.w X.K X.mg X.base k C m sp) (hr : Room j X.A) (hk : k ≤ j) (he : PE X o ta) (ha : PA X (e :: es) t)
    (hst : starEach (e :: es) X.env = (false, eval e X.env) :: starEach es X.env := by rfl) (hpl : (backTo pos (starEach es X.env)).any (·.1) = false := by rfl)
    (ht : eval (.Call (.Attribute o m apos) (e :: es) [] pos) X.env = (do
      let ov ← eval o X.env
      standAt apos.atName
      let (f, first) ← holding [ov] (getMethod ov m pl)
      callWith pos f first (backTo pos (starEach (e :: es) X.env)) (backToKw pos (keywordEach [] X.env))) := by rfl) :
    PE X (.Call (.Attribute o m apos) (e :: es) [] pos) (tCm0 C sp ta t) := by
  obtain ⟨mc, pp, g, fd, ps, F, r, cm, b⟩ := c.ex
  exact ClX.pe_cmeth (pl := pl) he r cm (F.raw b .nil) (hr.mono hk) passL ha hst hpl ht
/-- cls(e, ..), the class at C in the slot i -/
def tMakeV (i : Nat) (C : Addr) (sp : Sp) (W : WX) (t : TA) : TE := fun σ H Q => σ[i]? = some (some (.ref C)) ∧ tMakeS C sp W t σ H Q
theorem pc_nV {n : Str} (c : CanN X.prog X.w X.K X.mg X.base k C n sp) (tk : Takes X W) (hr : Room j X.A) (hk : k + 1 ≤ j) (hN : X.N[i]? = some x) (hv : Vis X.env.scope x) (ha : PA X (e :: es) t)
    (hdb : (x == ("__debug__" : Str)) = false := by decide) (hcd : (x == ("__classdict__" : Str)) = false := by decide) (he : starEach (e :: es) X.env = (false, eval e X.env) :: starEach es X.env := by rfl) (hpl : (backTo pos (starEach es X.env)).any (·.1) = false := by rfl) :
    PE X (.Call (.Name x p) (e :: es) [] pos) (tMakeV i C sp W t) := by
  obtain ⟨f, fd, ps, F, M, hm, b⟩ := c.ex
  have hr := hr.mono hk
  constructor
  intro pins s σ H Q I h
  obtain ⟨hs, h⟩ := h
  refine wpAny_Call_Name_kw (thn ((pe_var (pos := p) hN hv hdb hcd).run pins s σ H (fun v H1 => v = .ref C ∧ H1 = H) I ⟨.ref C, hs, rfl, rfl⟩) fun u s0 ⟨v, H1, I0, r1, q1⟩ => ?_)
  obtain ⟨rfl, rfl⟩ := q1
  cases r1
  refine PySem.W.callWith_K (h₀ := X.base) I0.ok.mod.kin M.kp (thn (ha.run pos pins s0 σ _ _ I0 h) ?_) he hpl
  rintro us s1 ⟨vs, G, I1, r, q⟩
  refine ⟨I1.kIn, ?_⟩
  have hq := q (s1.heap.objs.size + 1) s1.heap.objs.size (I1.hok.fresh (Nat.le_succ _)) (I1.hok.fresh (Nat.le_refl _)) (Nat.ne_of_lt (Nat.lt_succ_self _))
  have J := Inv.made (C := C) I1
  have r2 : Vals (V.ref (s1.heap.objs.size + 1) :: vs) (Value.ref (s1.heap.objs.size + 1) :: us) := .cons rfl r
  have hl : (Value.ref (s1.heap.objs.size + 1) :: us ++ []).length = ps.length := by
    have z := r2.length
    rw [F.len _ _ _ _ hq] at z
    rw [List.append_nil]
    exact z.symm
  have bb := b _ (Value.ref (s1.heap.objs.size + 1) :: us) J.kIn hl
  rw [List.append_nil] at bb
  refine wpAny_call (make_map (f := f) I1.kIn M.makes M.init (beq_iff_eq.mp M.fn) (codeAny_mono (F.run _ X.stack _ _ ⟨Value.ref (s1.heap.objs.size + 1) :: us, []⟩ (Value.ref (s1.heap.objs.size + 1) :: us) _ _ (WE W σ) (hr.make C us []) (J.env0.make C us []) bb r2 hq) ?_))
  intro r s' z
  cases r with
  | error er => exact passAt tk σ pins _ _ er s' J z
  | ok fl =>
    cases fl with
    | ret u =>
      obtain ⟨v, H', I3, rv, ev, q3⟩ := J.after z
      subst ev
      exact ⟨rv, V.ref (s1.heap.objs.size + 1), H', I3, rfl, q3⟩
    | next => exact z.elim
    | brk => exact z.elim
    | cont => exact z.elim
end
end Kit

end
section
set_option Elab.async false
set_option linter.all false
set_option maxRecDepth 100000
set_option maxHeartbeats 4000000
namespace Kit
open PySem PySem.Spec PyProof.Rows L2
/-! ### sorted(text) -/
section
variable {X : Cx}
theorem sortT (hcalm : X.calm = true) : CallR X (.builtin "sorted") (fun xs H Q => ∃ l : List Nat, xs = [tx l] ∧ l.length < 64 ∧ ∀ (ys : List Str) (p : Addr), ys.Perm (l.map fun x => S [x]) → sortedS ys = true → H p = none → Q (.ref p) (upd H p (.lst (ys.map V.str)))) := by
  intro pins s σ H xs us Q I r q
  obtain ⟨l, rfl, h64, q⟩ := q
  obtain ⟨u, rfl, t, rfl⟩ := vals1 r
  refine Calls.call_function_entry PyProof.Rows.kind_sorted PyProof.Rows.plain_sorted PyProof.Rows.entry_sorted (PyProof.Rows.args_sorted1 _) ?_
  unfold Builtin.«sorted»
  refine wpAny_bind (m := checkCount "sorted" 1 1 _) (wpAny_pure ?_)
  have hsz : (S l).cps.size = l.length := S_len l
  refine wpAny_bind (wpAny_collect_str (A := X.A.in1) (I.ok.hd hcalm) (S l) t (hn := by rw [hsz, sizeLine_eq]; omega) fun s' acc hk hg hdr hos hacc => ?_)
  have hal : acc.toList.length = l.length := by rw [Array.length_toList, hacc.1, hsz]
  have hS : StrsAre acc.toList (l.map fun x => S [x]) := strs_at (by rw [hal, List.length_map]) fun j v e => by
    obtain ⟨c, tk, e1, rfl⟩ := hacc.2 j v (by rw [← Array.getElem?_toList]; exact e)
    refine ⟨S [c], tk, ?_, rfl⟩
    have e1' : l[j]? = some c := by
      rw [← Array.getElem?_toList] at e1
      exact e1
    rw [List.getElem?_map, e1']
    rfl
  obtain ⟨h', g', d', tk', os'⟩ := s'
  have eg : g' = s.gens := hg
  have ed : d' = s.drawn := hdr
  have eo : os' = s.os := hos
  subst eg; subst ed; subst eo
  have I1 : Inv X pins σ H { s with heap := h', toks := tk' } := I.kept hk
  refine wpAny_bind (wpAny_newList ?_ (by rw [hal, sizeLine_eq]; omega))
  have hoL : (h'.push (seqObj "list" acc.toList.toArray 0)).get? h'.objs.size = some (seqObj "list" acc.toList.toArray 0) := Heap.get?_push_size _ rfl
  show wpAny _ _ _ _ _ { s with heap := h'.push (seqObj "list" acc.toList.toArray 0), toks := tk' }
  refine wpAny_bind (wpAny_holding (wpAny_call_entry PyProof.Rows.slot_list_sort ⟨_, hoL, rfl⟩ PyProof.Rows.entry_list_sort
    (list_sort_treeK strKind_oneLt (s := { s with heap := h'.push (seqObj "list" acc.toList.toArray 0), toks := tk' }) hoL hS.keysOf (fun v₁ v₂ rest e => keyKind_strs (by rw [← e]; exact hS)) (by rw [hal]; exact h64) fun st' hp hs => ⟨_, rfl, ?_⟩)
    (PyProof.Rows.args_list_sort _)))
  obtain ⟨ys, g1, g2, g3⟩ := sorted_out_str hS hp hs
  obtain ⟨e', he'⟩ := PyProof.Rows.sortedHeap_at (vs := acc.toList) (out := (arrOf st').map (·.2)) hoL
  have hlen : (ys.map V.str).length ≤ sizeLine := by
    rw [List.length_map, g2.length_eq, List.length_map]
    exact Nat.le_trans (Nat.le_of_lt h64) (by decide)
  refine wpAny_pure ⟨_, rfl, .ref h'.objs.size, upd H h'.objs.size (.lst (ys.map V.str)), I1.laid (t' := tk') (fun b u e => ?_) (Nat.le_refl _)
    (show ObjOk X.prog X.w _ _ _ (.lst (ys.map V.str)) from ⟨hlen, ((arrOf st').map (·.2)).toList, e', vals_of_strs g1, by rw [Array.toArray_toList]; exact he'⟩), rfl, q ys _ g2 g3 (I1.hok.fresh (Nat.le_refl _))⟩
  have hb : b < h'.objs.size := Heap.lt_size e
  rw [PyProof.Rows.sortedHeap_old (Nat.ne_of_lt hb) (by rw [size_push']; exact Nat.lt_succ_of_lt hb)]
  exact Heap.get?_push_of_some _ e
end
/-! ### len(set(text)) -/
section
variable {prog : Program} {w : World} {A : Around} {R : Result → Shared → Prop} {I : Addr} {fp wr : List Addr} {G : Array GenState → Array GenState → Prop} {n : Nat} {x : Str} {St : Nat → Shared → Prop}
def one1 (c : Nat) : Str := ⟨#[c]⟩
theorem one1_inj {c d : Nat} (h : one1 c = one1 d) : c = d := by
  have q : [c] = [d] := congrArg (fun y : Str => y.cps.toList) h
  exact (List.cons.inj q).1
theorem mem_one1 {acc : List Nat} {c : Nat} : decide (one1 c ∈ acc.map one1) = decide (c ∈ acc) := by
  by_cases h : c ∈ acc
  · rw [decide_eq_true h, decide_eq_true (List.mem_map_of_mem h)]
  · rw [decide_eq_false h, decide_eq_false]
    intro q
    obtain ⟨d, hd, e⟩ := List.mem_map.mp q
    exact h (one1_inj e ▸ hd)
theorem loopTx (W : WalksS prog w A.in1 I fp wr G n (SignAt x) St) (P : Addr) (hPf : P ∉ fp) (hsz : x.cps.size = n) (hn1 : n ≤ 1000) :
    ∀ (k i : Nat) (s : Shared) (acc : List Nat), n - i = k → i ≤ n → St i s → acc.Nodup → (∀ c, c ∈ acc ↔ c ∈ x.cps.toList.take i) → acc.length ≤ i →
      s.heap.SetOf (PySem.strKind prog w) P (fun k' => decide (k' ∈ acc.map one1)) acc.length →
      (∀ (s' : Shared) (acc' : List Nat), Moved (P :: wr) G s s' → acc'.Nodup → (∀ c, c ∈ acc' ↔ c ∈ x.cps.toList) → acc'.length ≤ n → s'.heap.SetOf (PySem.strKind prog w) P (fun k' => decide (k' ∈ acc'.map one1)) acc'.length → R (.ok (.ret .none)) s') →
      codeAny (model prog w) A (.builtin "set.update.loop" ⟨[.ref P, .ref I], []⟩) R s := by
  have hPw : P ∉ wr := fun h => hPf (W.sub _ h)
  have hsub : ∀ b ∈ wr, b ∈ P :: wr := fun b hb => List.mem_cons_of_mem _ hb
  intro k
  induction k with
  | zero =>
    intro i s acc hk hi hst hnd hmem hle hS hR
    have hin : i = n := by omega
    subst hin
    refine codeAny_builtin PyProof.Rows.F.entry_set_update_loop ?_
    rw [Around.under_plainId PyProof.Rows.F.plain_set_update_loop _]
    show wpAny _ A.in1 (pyNext (.ref I) >>= _) _ _ s
    refine wpAny_bind (W.done s _ _ hst fun s' hm => ?_)
    show wpAny _ A.in1 (ret Value.none) _ _ s'
    refine wpAny_pure (hR s' acc (hm.mono hsub) hnd (fun c => ?_) hle (by
      obtain ⟨o, es, ep, t, ho, rest⟩ := hS
      exact ⟨o, es, ep, t, hm.heap P _ hPw ho, rest⟩))
    rw [hmem c, List.take_of_length_le (by rw [Array.length_toList]; omega)]
  | succ k ih =>
    intro i s acc hk hi hst hnd hmem hle hS hR
    have hlt : i < n := by omega
    refine codeAny_builtin PyProof.Rows.F.entry_set_update_loop ?_
    rw [Around.under_plainId PyProof.Rows.F.plain_set_update_loop _]
    show wpAny _ A.in1 (pyNext (.ref I) >>= _) _ _ s
    refine wpAny_bind (W.item i s _ _ hlt hst fun v s' hP hst' hm => ?_)
    obtain ⟨c, t, hc, rfl⟩ := hP
    have hS' : s'.heap.SetOf (PySem.strKind prog w) P (fun k' => decide (k' ∈ acc.map one1)) acc.length := by
      obtain ⟨o, es, ep, tb, ho, rest⟩ := hS
      exact ⟨o, es, ep, tb, hm.heap P _ hPw ho, rest⟩
    have htk : x.cps.toList.take (i + 1) = x.cps.toList.take i ++ [c] := by
      rw [List.take_add_one, Array.getElem?_toList, hc]
      rfl
    show wpAny _ A.in1 (holding [Value.str (one1 c) t] (setAdd P (.str (one1 c) t)) >>= _) _ _ s'
    refine wpAny_bind (wpAny_holding ?_)
    unfold setAdd
    refine wpAny_holding ?_
    refine wpAny_bind ((PySem.strKind prog w).pyHash (k := one1 c) (strKind_is _ _ _ _) ?_)
    refine wpAny_setAddHashed_of (knd := PySem.strKind prog w) (s := { s' with toks := s'.toks + 1 }) (strKind_is _ _ _ _) rfl hS' (by unfold scanBound; omega) fun h' hsb hS2 => ?_
    have step : ∃ acc2 : List Nat, acc2.Nodup ∧ (∀ d, d ∈ acc2 ↔ d ∈ x.cps.toList.take (i + 1)) ∧ acc2.length ≤ i + 1 ∧ h'.SetOf (PySem.strKind prog w) P (fun k' => decide (k' ∈ acc2.map one1)) acc2.length := by
      by_cases hin : c ∈ acc
      · refine ⟨acc, hnd, fun d => ?_, by omega, SetOf_congr hS2 (fun k' => ?_) ?_⟩
        · rw [htk, List.mem_append, ← hmem d, List.mem_singleton]
          exact ⟨.inl, fun q => q.elim id fun e => e ▸ hin⟩
        · show (decide (k' ∈ acc.map one1) || decide (k' = one1 c)) = decide (k' ∈ acc.map one1)
          by_cases e : k' = one1 c
          · subst e
            rw [mem_one1, decide_eq_true hin, Bool.true_or]
          · rw [decide_eq_false e, Bool.or_false]
        · rw [mem_one1, if_pos (decide_eq_true hin)]
      · refine ⟨c :: acc, List.nodup_cons.mpr ⟨hin, hnd⟩, fun d => ?_, by simp; omega, SetOf_congr hS2 (fun k' => ?_) ?_⟩
        · rw [htk, List.mem_append, ← hmem d, List.mem_singleton, List.mem_cons]
          exact Or.comm
        · show (decide (k' ∈ acc.map one1) || decide (k' = one1 c)) = decide (k' ∈ (c :: acc).map one1)
          rw [List.map_cons]
          by_cases e : k' = one1 c
          · subst e
            rw [decide_eq_true (List.mem_cons_self ..), decide_eq_true rfl, Bool.or_true]
          · rw [decide_eq_false e, Bool.or_false]
            by_cases q : k' ∈ acc.map one1
            · rw [decide_eq_true q, decide_eq_true (List.mem_cons_of_mem _ q)]
            · rw [decide_eq_false q, decide_eq_false (fun z => (List.mem_cons.mp z).elim e q)]
        · rw [mem_one1, if_neg (by rw [decide_eq_false hin]; exact Bool.false_ne_true)]
          rfl
    obtain ⟨acc2, n2, m2, l2, S2⟩ := step
    refine wpAny_pure ⟨plainId_quiet PyProof.Rows.F.plain_set_update_loop _, ih (i + 1) _ acc2 (by omega) hlt (W.frame _ s' _ _ hst' (Nat.le_succ _) fun b hb o e => ?_) n2 m2 l2 S2 fun s'' acc' hm'' a1 a2 a3 a4 => ?_⟩
    · rw [hsb.2 b (fun h : b = P => hPf (by rw [← h]; exact hb))]; exact e
    · refine hR s'' acc' (Moved.trans W.gtrans ((hm.mono hsub).then_heap (Nat.le_succ _) fun b o hb e => ?_) hm'') a1 a2 a3 a4
      rw [hsb.2 b (fun h : b = P => hb (by rw [h]; exact List.mem_cons_self))]; exact e
end
theorem sub_str_set : isSubtype (.type "str") (.type "set") = pure false := by rw [isSubtype_type]; kernel_rfl
theorem sub_str_frozenset : isSubtype (.type "str") (.type "frozenset") = pure false := by rw [isSubtype_type]; kernel_rfl
section
variable {prog : Program} {w : World} {A : Around} {E : Value → Shared → Prop} {s : Shared}
set_option maxHeartbeats 3200000 in
theorem call_set_tx {x : Str} {u : Tok} {Q : Value → Shared → Prop} (hh : A.handled = none) (hn1 : x.cps.size ≤ 1000)
    (h : ∀ (h' : Heap) (tk : Nat) (acc : List Nat), acc.Nodup → (∀ c, c ∈ acc ↔ c ∈ x.cps.toList) → acc.length ≤ x.cps.size → h'.SetOf (PySem.strKind prog w) s.heap.objs.size (fun k' => decide (k' ∈ acc.map one1)) acc.length →
      (∀ b o, b < s.heap.objs.size → s.heap.get? b = some o → h'.get? b = some o) → Q (.ref s.heap.objs.size) { s with heap := h', toks := tk }) :
    wpAny (model prog w) A (call (.type "set") [.str x u]) Q E s := by
  obtain ⟨c, tl, hmro⟩ := PySem.F.called_set.mro
  have hmade := PySem.F.called_set.made
  have hsub := PySem.F.called_set.sub
  refine wpAny_call (codeAny_of_tree ?_)
  show wpAny _ _ (callAny (.type "set") _) _ _ _
  refine wpAny_pure ⟨Code.quiet_builtin _ (by decide +kernel), codeAny_builtin PySem.F.entry_type_call ?_⟩
  rw [Around.under_plain (weight_type_call_type "set" [.str x u] []) rfl]
  have h1 := PySem.F.called_set.notType
  have h2 := PySem.F.called_set.canCreate
  have hct := PySem.F.typeCall_set_1 (.str x u)
  repeat (any_goals (first | assumption | wp_step))

  refine codeAny_mono (code_set_new_1 (.str x u) (E := E) (Q₁ := fun obj s₁ => ∃ led : Bool, obj = .ref s.heap.objs.size ∧ s₁ = { s with heap := s.heap.push { cls := .type "set", dict := none, data := .set #[] 0 (.fresh 0 0 led) } }) fun led => ⟨led, rfl, rfl⟩) fun r s₁ hr => ?_
  cases r with
  | error e => exact hr
  | ok fl =>
    cases fl with
    | ret obj =>
      obtain ⟨led, rfl, rfl⟩ := hr
      have hS : (s.heap.push { cls := .type "set", dict := none, data := .set #[] 0 (.fresh 0 0 led) }).get? s.heap.objs.size = some { cls := .type "set", dict := none, data := .set #[] 0 (.fresh 0 0 led) } := Heap.get?_push_size _ rfl
      have hT : Shared.TypeIs { s with heap := s.heap.push { cls := .type "set", dict := none, data := .set #[] 0 (.fresh 0 0 led) } } (.ref s.heap.objs.size) "set" := ⟨_, hS, rfl⟩
      have hli := PySem.F.called_set.init.lookup
      have hbi := PySem.F.called_set.init.bind (.ref s.heap.objs.size)
      repeat (any_goals (first | assumption | wp_step))

      refine codeAny_mono (codeAny_call_builtin (R := wants (fun r s₂ => r = .none ∧ ∃ (h' : Heap) (tk : Nat) (acc : List Nat), s₂ = { s with heap := h', toks := tk } ∧ acc.Nodup ∧ (∀ c, c ∈ acc ↔ c ∈ x.cps.toList) ∧ acc.length ≤ x.cps.size ∧
          h'.SetOf (PySem.strKind prog w) s.heap.objs.size (fun k' => decide (k' ∈ acc.map one1)) acc.length ∧
          (∀ b o, b < s.heap.objs.size → s.heap.get? b = some o → h'.get? b = some o)) E) PySem.F.called_set.init.plain PySem.F.entry_set_init (check_set_init_1 hT ?_)) fun r₂ s₂ hr₂ => ?_
      · have hty : typeOf (.str x u) = pure (.type "str") := rfl
        have hsls := sub_str_set
        have hslf := sub_str_frozenset
        have hne : (Value.type "str" == Value.type "dict") = false := by decide
        unfold Builtin.«set.__init__» noKeywords Builtin.Frozenset.updateFrom
        generalize hPI : pyIter = PI
        wp_walk
        subst hPI
        refine wpAny_pyIter_str fun o St W hst => ?_
        refine wpAny_bind (wpAny_runValue ?_)
        have hh3 : A.in1.in1.in1.handled = none := by simp [hh]
        have hSf : s.heap.objs.size ∉ [(s.heap.push { cls := .type "set", dict := none, data := .set #[] 0 (.fresh 0 0 led) }).objs.size] := by
          rw [Heap.size_push]
          intro q
          exact Nat.ne_of_lt (Nat.lt_succ_self _) (List.mem_singleton.mp q)
        refine loopTx ((W _ hh3).toS) s.heap.objs.size hSf rfl hn1 (x.cps.size - 0) 0 _ [] (by omega) (Nat.zero_le _) hst List.nodup_nil (fun c => by simp) (Nat.le_refl _) ?hS0 ?hR
        case hS0 =>
          have hget : ((s.heap.push { cls := .type "set", dict := none, data := .set #[] 0 (.fresh 0 0 led) }).push o).get? s.heap.objs.size
              = some { cls := .type "set", dict := none, data := .set #[] 0 (.fresh 0 0 led) } := Heap.get?_push_of_some _ hS
          exact PyProof.Rows.SetOf_congr ((PyProof.Rows.setObjOf_fresh (knd := PySem.strKind prog w) led).setOf hget (by unfold scanBound; omega)) (fun _ => by simp) rfl
        case hR =>
          intro s' acc' hm a1 a2 a3 hS'
          obtain ⟨h', g', d', tk', os'⟩ := s'
          have eg : g' = s.gens := hm.gens
          have ed : d' = s.drawn := hm.drawn
          have eo : os' = s.os := hm.os
          subst eg; subst ed; subst eo
          show wpAny _ _ _ _ _ _
          refine wpAny_pure ?_
          show wpAny _ _ (ret Value.none) _ _ _
          refine wpAny_pure ⟨rfl, h', tk', acc', rfl, a1, a2, a3, hS', fun b o hb e => ?_⟩
          have hb1 : b ≠ s.heap.objs.size := Nat.ne_of_lt hb
          have hb2 : b ≠ (s.heap.push { cls := .type "set", dict := none, data := .set #[] 0 (.fresh 0 0 led) }).objs.size := by
            rw [Heap.size_push]; exact Nat.ne_of_lt (Nat.lt_succ_of_lt hb)
          exact hm.heap b o (by simp only [List.mem_cons, List.mem_singleton, List.not_mem_nil, or_false, not_or]; exact ⟨hb1, hb2⟩) (Heap.get?_push_of_some _ (Heap.get?_push_of_some _ e))
      · cases r₂ with
        | error e => exact hr₂
        | ok fl₂ =>
          cases fl₂ with
          | ret r =>
            obtain ⟨rfl, h', tk, acc, rfl, a1, a2, a3, hS', hk'⟩ := hr₂
            repeat (any_goals (first | assumption | wp_step))
            exact h _ _ acc a1 a2 a3 hS' hk'
          | _ => exact hr₂.elim
    | _ => exact hr.elim
end
/-- len(set(text)) -/
def tLenSetT (ta : TE) : TE := fun σ H Q => ta σ H fun x H1 => ∃ l : List Nat, x = tx l ∧ l.length ≤ 1000 ∧ ∀ acc : List Nat, acc.Nodup → (∀ c, c ∈ acc ↔ c ∈ l) → Q (.int acc.length) H1
section
variable {X : Cx}
theorem pe_lenSetT {a : Expr} {ta : TE} {p p2 q pos : Pos} (hc : X.calm = true) (hg : Gl X "len") (hm : X.mg "len" = none) (hg2 : Gl X "set") (hm2 : X.mg "set" = none) (ha : PE X a ta)
    (na : starEach [a] X.env = (false, eval a X.env) :: starEach [] X.env := by rfl) : PE X (.Call (.Name "len" p) [.Call (.Name "set" p2) [a] [] q] [] pos) (tLenSetT ta) := by
  refine ⟨fun pins s σ H Q I h => ?_⟩
  refine Call_ (ld_blt I hg hm boot_len ?_)
  refine PyProof.Rows.callWith_builtin1 (PyProof.Rows.args_cons ?_ rfl) rfl rfl
  refine Call_ (ld_blt I hg2 hm2 boot_set ?_)
  refine PyProof.Rows.callWith_type1 (PyProof.Rows.args_cons (thn (ha.run pins s σ H _ I h) fun v s1 ⟨x, H1, I1, r1, q1⟩ => PyProof.Rows.args_nil ?_) na) na rfl
  obtain ⟨l, rfl, hl, q1⟩ := q1
  obtain ⟨t, rfl⟩ := r1
  refine call_set_tx (I1.ok.hd hc) (by show (S l).length ≤ 1000; rw [S_len]; exact hl) fun h' tk acc a1 a2 a3 hS hk => PyProof.Rows.args_nil ?_
  have a3' : acc.length ≤ 1000 := by
    have e : (S l).cps.size = l.length := S_len l
    rw [e] at a3
    omega
  obtain ⟨o, es, ep, t2, ho, hex, hd, _, _, _, hf, hn⟩ := hS
  have I2 : Inv X pins σ H1 { s1 with heap := h', toks := tk } := I1.kept fun b o e => hk b o (Heap.lt_size e) e
  refine call_len_set ho hex hd hf (by rw [hn] <;> omega) ⟨.int acc.length, H1, I2.tok _, ⟨_, by rw [hn]⟩, q1 acc a1 fun c => ?_⟩
  rw [a2 c, S_cps]
end
end Kit

end
section
set_option Elab.async false
set_option linter.all false
set_option maxRecDepth 100000
set_option maxHeartbeats 4000000
namespace Kit
open PySem PySem.Spec PyProof.Rows L2
/-! ### zip over lists and texts -/
inductive Sd where
  | L (a : Addr)
  | T (x : Str)
def signs (x : Str) : List V := x.cps.toList.map fun c => .str ⟨#[c]⟩
def Sd.at (H : Hp) : Sd → List V → Prop
  | .L a, xs => H a = some (.lst xs)
  | .T x, xs => xs = signs x
def Sd.st (h : Heap) (it : Addr) (i : Nat) : Sd → Prop
  | .L a => h.IsListIter it a i
  | .T x => ∃ t, h.IsStrIter it (strIterType x) x t i
theorem Sd.live {h : Heap} {it : Addr} {i : Nat} {sd : Sd} (st : sd.st h it i) : ∃ o, h.get? it = some o ∧ ∀ v, o.data ≠ .cell v := by
  cases sd with
  | L a =>
    obtain ⟨o, ho, hc, hd⟩ := st
    exact ⟨o, ho, fun v q => by rw [hd] at q; cases q⟩
  | T x =>
    obtain ⟨t, o, ho, hc, hd⟩ := st
    exact ⟨o, ho, fun v q => by rw [hd] at q; cases q⟩
theorem Sd.keep {h h' : Heap} {it : Addr} {i : Nat} {sd : Sd} (st : sd.st h it i) (k : ∀ o, h.get? it = some o → h'.get? it = some o) : sd.st h' it i := by
  cases sd with
  | L a =>
    obtain ⟨o, ho, r⟩ := st
    exact ⟨o, k _ ho, r⟩
  | T x =>
    obtain ⟨t, o, ho, r⟩ := st
    exact ⟨t, o, k _ ho, r⟩
structure Dr (X : Cx) (H : Hp) (h : Heap) (sd : Sd) (it : Addr) (i : Nat) (xs : List V) : Prop where
  ex : ∃ (fp : List Addr) (P : Nat → Value → Prop) (St : Nat → Heap → Prop), Draws X.prog X.w X.A.in1 it fp xs.length P St ∧ St i h ∧ it ∈ fp ∧ (∀ c ∈ fp, c = it ∨ H c ≠ none) ∧ (∀ j h', St j h' → sd.st h' it j) ∧ (∀ x u, P i u → xs[i]? = some x → RelV x u)
theorem dr_of {X : Cx} {pins : List (Addr × Obj)} {σ : St} {H : Hp} {s : Shared} {sd : Sd} {it : Addr} {i : Nat} {xs : List V} (hc : X.calm = true) (I : Inv X pins σ H s) (hn : H it = none) (hat : sd.at H xs) (st : sd.st s.heap it i) : Dr X H s.heap sd it i xs := by
  cases sd with
  | L a =>
    have hat : H a = some (.lst xs) := hat
    obtain ⟨hzz, its, nn, rv, hl0⟩ := (show ObjOk X.prog X.w H s.heap a (.lst xs) from I.hok a _ hat)
    have hL : s.heap.IsList a its.toArray := ⟨_, hl0, rfl, nn, rfl⟩
    have hne : a ≠ it := fun q => by rw [q, hn] at hat; cases hat
    have hl : its.toArray.size = xs.length := by rw [List.size_toArray, rv.length]
    refine ⟨[it, a], _, _, hl ▸ Draws.list (A := X.A.in1) (show X.A.in1.handled = none from I.ok.hd hc) it a hne its.toArray, ⟨st, hL⟩, by simp, fun c hcm => ?_, fun j h' q => q.1, fun x u hu hx => ?_⟩
    · have e : c = it ∨ c = a := by simpa using hcm
      rcases e with e | e
      · exact .inl e
      · refine .inr ?_
        rw [e, hat]
        simp
    · obtain ⟨u', hu', ru⟩ := rv.get hx
      have z : its[i]? = some u := by simpa using hu
      rw [hu'] at z
      cases z
      exact ru
  | T x =>
    obtain ⟨t, st⟩ := st
    have hat : xs = signs x := hat
    have hl : x.cps.size = xs.length := by rw [hat, signs, List.length_map, Array.length_toList]
    refine ⟨[it], _, _, hl ▸ Draws.text (A := X.A.in1) (show X.A.in1.handled = none from I.ok.hd hc) it x t, st, by simp, fun c hcm => .inl (by simpa using hcm), fun j h' q => ⟨t, q⟩, fun y u hu hx => ?_⟩
    obtain ⟨c, tk, hc', rfl⟩ := hu
    rw [hat, signs, List.getElem?_map, Array.getElem?_toList, hc'] at hx
    cases hx
    exact ⟨tk, rfl⟩
structure Cells (z TI TO i1 i2 : Addr) : Prop where
  a1 : TI ≠ z
  a2 : TO ≠ z
  a3 : TI ≠ TO
  a4 : TI ≠ i1
  a5 : TI ≠ i2
  a6 : TO ≠ i1
  a7 : TO ≠ i2
  a8 : z ≠ i1
  a9 : z ≠ i2
  a10 : i1 ≠ i2
theorem sep_of {H : Hp} {z TI TO i1 i2 : Addr} {f1 f2 : List Addr} (C : Cells z TI TO i1 i2) (hn : ∀ b ∈ [z, TI, TO, i1, i2], H b = none) (m1 : i1 ∈ f1) (m2 : i2 ∈ f2) (h1 : ∀ c ∈ f1, c = i1 ∨ H c ≠ none) (h2 : ∀ c ∈ f2, c = i2 ∨ H c ≠ none) :
    ZipSep2 z TI TO i1 i2 f1 f2 where
  TIz := C.a1
  TOz := C.a2
  TITO := C.a3
  TIi1 := C.a4
  mem1 := m1
  zf1 := fun q => (h1 _ q).elim C.a8 fun k => k (hn _ (by simp))
  Tf1 := fun q => (h1 _ q).elim C.a6 fun k => k (hn _ (by simp))
  TIi2 := C.a5
  mem2 := m2
  zf2 := fun q => (h2 _ q).elim C.a9 fun k => k (hn _ (by simp))
  Tf2 := fun q => (h2 _ q).elim C.a7 fun k => k (hn _ (by simp))
  sep1_2 := fun q => (h2 _ q).elim C.a10 fun k => k (hn _ (by simp))
  sep2_1 := fun q => (h1 _ q).elim (Ne.symm C.a10) fun k => k (hn _ (by simp))
def ItZ (d1 d2 : Sd) : It :=
  ⟨fun i G => ∃ (xs ys : List V) (x y : V), d1.at G xs ∧ d2.at G ys ∧ xs[i]? = some x ∧ ys[i]? = some y,
    fun i G v G' => ∃ T x y, v = .ref T ∧ G T = none ∧ G' = upd G T (.tup [x, y]) ∧ (∀ xs, d1.at G xs → xs[i]? = some x) ∧ ∀ ys, d2.at G ys → ys[i]? = some y,
    fun i G => ∃ xs ys : List V, d1.at G xs ∧ d2.at G ys ∧ i ≤ xs.length ∧ i ≤ ys.length ∧ (i = xs.length ∨ i = ys.length)⟩
theorem Sd.inj {H : Hp} {sd : Sd} {xs ys : List V} (h1 : sd.at H xs) (h2 : sd.at H ys) : xs = ys := by
  cases sd with
  | L a =>
    have h1 : H a = some (.lst xs) := h1
    have h2 : H a = some (.lst ys) := h2
    rw [h1] at h2
    cases h2
    rfl
  | T x => exact Eq.trans h1 (Eq.symm h2)
theorem turn_Z {P : Program} {w : World} {K : PySem.W.Frag} {elts : List Expr} {kk : Nat} {tpos : Pos} (d1 d2 : Sd) {z TI TO i1 i2 : Addr} (C : Cells z TI TO i1 i2) :
    Turn P w K (.Tuple elts kk tpos) (ItZ d1 d2) [z, TI, TO, i1, i2] z (fun i h => IsZip h z TI TO .none ∧ IsTupOf2 h TI (.ref i1) (.ref i2) ∧ (∃ x y, IsTupOf2 h TO x y) ∧ d1.st h i1 i ∧ d2.st h i2 i) where
  mem := by simp
  obj := fun i h st c hc => by
    obtain ⟨hz, hTI, ⟨x, y, hTO⟩, s1, s2⟩ := st
    have e' : c = z ∨ c = TI ∨ c = TO ∨ c = i1 ∨ c = i2 := by simpa using hc
    rcases e' with q | q | q | q | q
    · rw [q]; exact ⟨_, hz, fun v q => nomatch q⟩
    · rw [q]; exact ⟨_, hTI, fun v q => nomatch q⟩
    · rw [q]; exact ⟨_, hTO, fun v q => nomatch q⟩
    · rw [q]; exact Sd.live s1
    · rw [q]; exact Sd.live s2
  keep := fun i h h' st k => by
    obtain ⟨hz, hTI, ⟨x, y, hTO⟩, s1, s2⟩ := st
    exact ⟨k z (by simp) _ hz, k TI (by simp) _ hTI, ⟨x, y, k TO (by simp) _ hTO⟩, Sd.keep s1 fun o q => k i1 (by simp) o q, Sd.keep s2 fun o q => k i2 (by simp) o q⟩
  item := by
    intro X hP hw hK hc i pins s σ H E I hf st hg
    subst hP hw hK
    obtain ⟨hz, hTI, ⟨x0, y0, hTO⟩, s1, s2⟩ := st
    obtain ⟨xs, ys, x, y, hqx, hqy, hx, hy⟩ := hg
    obtain ⟨f1, P1, St1, D1, t1, m1, u1, b1, r1⟩ := (dr_of hc I (hf i1 (by simp)).1 hqx s1).ex
    obtain ⟨f2, P2, St2, D2, t2, m2, u2, b2, r2⟩ := (dr_of hc I (hf i2 (by simp)).1 hqy s2).ex
    have SS := sep_of C (fun b hb => (hf b hb).1) m1 m2 u1 u2
    have hl1 := (List.getElem?_eq_some_iff.mp hx).1
    have hl2 := (List.getElem?_eq_some_iff.mp hy).1
    have hzl : z < s.heap.objs.size := Heap.lt_size hz
    refine wpAny_pyNext_zipD2_item SS D1 D2 hz hTI hTO t1 t2 hl1 hl2 fun v1 v2 h' tk p1 p2 z' TO' t1' t2' hT hsz hk => ?_
    refine ⟨_, rfl, wpAny_letOwnedTupleGo_zip (s := { s with heap := h', toks := tk }) z' fun h'' z'' sb => ?_⟩
    have ru := r1 x v1 p1 hx
    have ru2 := r2 y v2 p2 hy
    have hT2 : h''.get? s.heap.objs.size = some { cls := .type "tuple", data := .seq #[v1, v2] } := (sb.2 _ (Nat.ne_of_gt hzl)).trans hT
    have new : ObjOk X.prog X.w (upd H s.heap.objs.size (.tup [x, y])) h'' s.heap.objs.size (.tup [x, y]) :=
      ⟨by show 2 ≤ sizeLine; decide, [v1, v2], .cons ru (.cons ru2 .nil), ⟨_, hT2, rfl, _, rfl⟩⟩
    have I1 : Inv X pins σ (upd H s.heap.objs.size (.tup [x, y])) { s with heap := h'', toks := tk } :=
      I.turnedNew (ch := [z, TI, TO, i1, i2]) (fun c o hb q => (sb.2 c (fun q' => hb (by simp [q']))).trans (hk c o (fun q' => hb (by simp [q'])) (fun q' => hb (by simp [q'])) (fun q' => hb (by simp [q'])) (fun q' => hb (by simp [q'])) q)) hf (Nat.le_refl _) new
    refine ⟨.ref s.heap.objs.size, _, I1, rfl, ⟨_, x, y, rfl, I.hok.fresh (Nat.le_refl _), rfl, fun l hl => by rw [Sd.inj hl hqx]; exact hx, fun l hl => by rw [Sd.inj hl hqy]; exact hy⟩, ⟨z'', ?_, ⟨v1, v2, ?_⟩, ?_, ?_⟩, fun c hcm => ?_⟩
    · exact (sb.2 _ C.a1).trans (hk _ _ C.a1 C.a3 C.a4 C.a5 hTI)
    · exact (sb.2 _ C.a2).trans TO'
    · exact Sd.keep (b1 _ _ t1') fun o q => (sb.2 _ (Ne.symm C.a8)).trans q
    · exact Sd.keep (b2 _ _ t2') fun o q => (sb.2 _ (Ne.symm C.a9)).trans q
    · have hlt : c < s.heap.objs.size := by
        have e' : c = z ∨ c = TI ∨ c = TO ∨ c = i1 ∨ c = i2 := by simpa using hcm
        rcases e' with q | q | q | q | q
        · rw [q]; exact hzl
        · rw [q]; exact Heap.lt_size hTI
        · rw [q]; exact Heap.lt_size hTO
        · rw [q]; obtain ⟨_, e1, _⟩ := Sd.live s1; exact Heap.lt_size e1
        · rw [q]; obtain ⟨_, e2, _⟩ := Sd.live s2; exact Heap.lt_size e2
      rw [upd_ne (Nat.ne_of_lt hlt)]
      exact (hf c hcm).1
  done := by
    intro X hP hw hK hc i pins s σ H E I hf st hg
    subst hP hw hK
    obtain ⟨hz, hTI, ⟨x0, y0, hTO⟩, s1, s2⟩ := st
    obtain ⟨xs, ys, hqx, hqy, hi1, hi2, hend⟩ := hg
    obtain ⟨f1, P1, St1, D1, t1, m1, u1, b1, r1⟩ := (dr_of hc I (hf i1 (by simp)).1 hqx s1).ex
    obtain ⟨f2, P2, St2, D2, t2, m2, u2, b2, r2⟩ := (dr_of hc I (hf i2 (by simp)).1 hqy s2).ex
    have SS := sep_of C (fun b hb => (hf b hb).1) m1 m2 u1 u2
    exact wpAny_pyNext_zipD2_end SS D1 D2 hz hTI hTO t1 t2 hi1 hi2 hend fun h' tk hk => ⟨rfl, I.turnedL (t' := tk) (ch := [z, TI, TO, i1, i2]) (fun c o hb q =>
      hk c o (fun q' => hb (by simp [q'])) (fun q' => hb (by simp [q'])) (fun q' => hb (by simp [q'])) (fun q' => hb (by simp [q'])) q) hf⟩
  self := fun A i s Q E st h => wpAny_pyIter_zip st.1 h
theorem walk_Z {d1 d2 : Sd} {xs ys : List V} {n : Nat} (hn : n = min xs.length ys.length) : Walk (ItZ d1 d2) n (fun G => d1.at G xs ∧ d2.at G ys) (YPair (fun i => xs[i]?) (fun i => ys[i]?)) := by
  subst hn
  refine ⟨fun i G hi q => ⟨xs, ys, xs[i], ys[i], q.1, q.2, List.getElem?_eq_getElem (by omega), List.getElem?_eq_getElem (by omega)⟩, fun G q => ⟨xs, ys, q.1, q.2, by omega, by omega, by omega⟩, ?_⟩
  rintro i G v G' hi q ⟨T, x, y, rfl, hT, rfl, hx, hy⟩
  exact ⟨T, x, y, rfl, hT, rfl, hx xs q.1, hy ys q.2⟩
def Sd.v : Sd → V
  | .L a => .ref a
  | .T x => .str x
def iZipZ (ta : TA) : TI := fun σ H R => ta σ H fun vs H1 => ∃ d1 d2 xs ys, vs = [Sd.v d1, Sd.v d2] ∧ d1.at H1 xs ∧ d2.at H1 ys ∧ R (ItZ d1 d2) H1
theorem bg_of {X : Cx} {pins : List (Addr × Obj)} {σ : St} {H : Hp} {s : Shared} {sd : Sd} {u : Value} {xs : List V} (I : Inv X pins σ H s) (r : RelV sd.v u) (hat : sd.at H xs) :
    ∃ (o : Obj) (HH : Heap → Prop), Begins u o HH ∧ HH s.heap ∧ ∀ (h' : Heap) (it : Addr), h'.get? it = some o → sd.st h' it 0 := by
  cases sd with
  | L a =>
    cases r
    obtain ⟨hzz, its, nn, rv, hl0⟩ := (show ObjOk X.prog X.w H s.heap a (.lst xs) from I.hok a _ hat)
    have hL : s.heap.IsList a its.toArray := ⟨_, hl0, rfl, nn, rfl⟩
    exact ⟨_, _, begins_list a its.toArray, hL, fun h' it e => ⟨_, e, rfl, rfl⟩⟩
  | T x =>
    obtain ⟨t, rfl⟩ := r
    exact ⟨_, _, begins_text x t, True.intro, fun h' it e => ⟨t, _, e, rfl, rfl⟩⟩
theorem cells_of (n : Nat) : Cells (n + 4) (n + 2) (n + 3) n (n + 1) where
  a1 := fun e : n + 2 = n + 4 => by omega
  a2 := fun e : n + 3 = n + 4 => by omega
  a3 := fun e : n + 2 = n + 3 => by omega
  a4 := fun e : n + 2 = n => by omega
  a5 := fun e : n + 2 = n + 1 => by omega
  a6 := fun e : n + 3 = n => by omega
  a7 := fun e : n + 3 = n + 1 => by omega
  a8 := fun e : n + 4 = n => by omega
  a9 := fun e : n + 4 = n + 1 => by omega
  a10 := fun e : n = n + 1 => by omega
theorem pi_zipZ {X : Cx} {e e2 : Expr} {ta : TA} {p pos tpos : Pos} {elts : List Expr} {kk : Nat} (hg : Gl X "zip") (hm : X.mg "zip" = none) (ha : PA X [e, e2] ta)
    (hs : starEach [e, e2] X.env = (false, eval e X.env) :: starEach [e2] X.env := by rfl) (hpl : (backTo pos (starEach [e2] X.env)).any (·.1) = false := by rfl) :
    PI X (.Tuple elts kk tpos) (.Call (.Name "zip" p) [e, e2] [] pos) (iZipZ ta) := by
  refine ⟨fun pins s σ H R I h => ?_⟩
  refine Call_ (ld_blt I hg hm PyProof.Rows.boot_zip (PyProof.Rows.callWith_type1 (thn (ha.run pos pins s σ H _ I h) fun us s1 ⟨vs, H1, I1, r1, q1⟩ => ?_) hs hpl))
  obtain ⟨d1, d2, xs, ys, ex, hqx, hqy, q⟩ := q1
  subst ex
  cases r1 with
  | cons r rr =>
    cases rr with
    | cons r' rr =>
      cases rr
      obtain ⟨o1, H1', B1, k1, c1⟩ := bg_of I1 r hqx
      obtain ⟨o2, H2', B2, k2, c2⟩ := bg_of I1 r' hqy
      refine zip_begins2 B1 B2 k1 k2 fun h' hz hTI hTO h1 h2 hsz hk => wpAny_pyIter_zip hz ?_
      have I2 : Inv X pins σ H1 { s1 with heap := h' } := I1.kept (t' := s1.toks) hk
      refine ⟨s1.heap.objs.size + 4, [s1.heap.objs.size + 4, s1.heap.objs.size + 2, s1.heap.objs.size + 3, s1.heap.objs.size, s1.heap.objs.size + 1], _, _, H1, rfl, I2, turn_Z d1 d2 (cells_of _), ⟨hz, hTI, ⟨_, _, hTO⟩, c1 _ _ h1, c2 _ _ h2⟩, fun c hcm => ?_, q⟩
      have e' : c = s1.heap.objs.size + 4 ∨ c = s1.heap.objs.size + 2 ∨ c = s1.heap.objs.size + 3 ∨ c = s1.heap.objs.size ∨ c = s1.heap.objs.size + 1 := by simpa using hcm
      have hle : s1.heap.objs.size ≤ c := by
        rcases e' with z | z | z | z | z
        · rw [z]; exact Nat.le_add_right _ _
        · rw [z]; exact Nat.le_add_right _ _
        · rw [z]; exact Nat.le_add_right _ _
        · rw [z]; exact Nat.le_refl _
        · rw [z]; exact Nat.le_add_right _ _
      exact I1.fpOk hle (I1.hok.fresh hle)
end Kit

end
section
set_option Elab.async false
set_option linter.all false
set_option maxRecDepth 100000
set_option maxHeartbeats 4000000
namespace Kit
open PySem PySem.Spec PyProof.Rows L2
/-! ### raise X(), X an own error without __init__ -/
abbrev veB : List Value := [.type "ValueError", .type "Exception", .type "BaseException", .type "object"]
structure ErrZ (K : PySem.W.Frag) (mg : Str → Option Value) (C : Addr) (x : Str) : Prop where
  gC : mg x = some (.ref C)
  ex : PySem.W.excIn K C veB "ValueError.__new__" = true
  kC : PySem.W.keepIn K (.ref C) = true
  sB : PySem.W.subIn K (.ref C) (.type "BaseException") = some true
  tC : PySem.W.typeIn K (.ref C) = some (.type "type")
section
variable {X : Cx} {C : Addr} {x : Str} {W : WX} {p pos pos2 : Pos}
theorem pr_own0 (c : ErrZ X.K X.mg C x) (tk : Takes X W) (hcalm : X.calm = true) (hg : Gl X x) (hdb : (x == ("__debug__" : Str)) = false := by decide) :
    PS X (.Raise (some (.Call (.Name x p) [] [] pos)) none pos2) (fun _ σ H => W (.ref C) none σ H) := by
  refine L2.ps_raise hcalm tk (t := fun σ H Q => Q (.ref C) none H) ?_
  intro pins s σ H Q I h
  refine wpAny_Call_Name_kw (ld_glob I hg c.gC ?_ hdb)
  refine PySem.W.callWith_K0 I.kIn c.kC ?_
  show wpAny _ _ (call (.ref C) []) _ _ _
  obtain ⟨bm, N, nm, qn, bs, hdct, sn, sub, ab, col, dd, k0, k1, k2, k3, k5, mN, hC, hN, hni, T⟩ := exc_obj I.kIn c.ex
  obtain ⟨hp, g, dr, tk', os⟩ := s
  refine wpAny_call_exc_subT PySem.F.excBase_ValueError T hC hN hni (fun h' e hm => ?_) (by show 0 ≤ sizeLine; exact Nat.zero_le _)
  exact mk_of I hm (raises_own c.sB c.tC) h (I.hok.gone hm.new)
end
/-! ### own == with any thing whose type does not come first -/
section
variable {X : Cx} {C : Addr} {k j : Nat} {sp : Sp}
def OtherOk2 (K : PySem.W.Frag) (C : Addr) (H : Hp) (y : V) : Prop := (∃ i, y = .int i) ∨ (∃ z, y = .str z) ∨ (∃ b dx fs, y = .ref b ∧ H b = some (.ins C dx fs)) ∨ ∃ b xs, y = .ref b ∧ H b = some (.lst xs)
def rEqO2 (K : PySem.W.Frag) (C : Addr) (sp : Sp) : R2 := fun x y H Q => ∃ a dx fs, x = .ref a ∧ H a = some (.ins C dx fs) ∧ OtherOk2 K C H y ∧ sp [x, y] H (fun v G => ∃ b, v = .bl b ∧ Q (.bl b) G) E0
theorem eqO2 (K : PySem.W.Frag) (c : CanM X.prog X.w X.K X.mg X.base k C "__eq__" sp) (hr : Room j X.A) (hk : k ≤ j) (hni : PySem.W.notFirst K C (.type "int") = true) (hns : PySem.W.notFirst K C (.type "str") = true) (hnl : PySem.W.notFirst K C (.type "list") = true) (hK : X.K = K := by rfl) : OpR X (compareOp .Eq) (rEqO2 K C sp) := by
  subst hK
  obtain ⟨f, fd, ps, F, hc, hm, b⟩ := c.ex
  intro pins s σ H x y v u Q I rx ry hq
  obtain ⟨a, dx, fs, rfl, ha, ho, h⟩ := hq
  cases rx
  show wpAny (model X.prog X.w) X.A (richCompare .Eq (.ref a) u) (EP X pins σ Q) X.xe s
  obtain ⟨mA, J, _⟩ := ins_get I.hok ha
  obtain ⟨od, J, _⟩ := J.look
  obtain ⟨m, hF⟩ := I.fr
  have tb : ∃ tb, PySem.W.Looks (model X.prog X.w) s.heap (typeOf u) tb ∧ PySem.W.notFirst X.K C tb = true := by
    rcases ho with ⟨i, rfl⟩ | ⟨z, rfl⟩ | ⟨b', dy, gs, rfl, hb'⟩ | ⟨b', xs, rfl, hb'⟩
    · obtain ⟨t, rfl⟩ := ry
      exact ⟨.type "int", .now, hni⟩
    · obtain ⟨t, rfl⟩ := ry
      exact ⟨.type "str", .now, hns⟩
    · cases ry
      obtain ⟨mB, J', _⟩ := ins_get I.hok hb'
      obtain ⟨od', J', _⟩ := J'.look
      exact ⟨.ref C, J'.type, by simp [PySem.W.notFirst]⟩
    · cases ry
      obtain ⟨hzz, its, nn, rv, hl0⟩ := (show ObjOk X.prog X.w H s.heap b' (.lst xs) from I.hok b' _ hb')
      exact ⟨.type "list", PySem.W.Looks.ld hl0 |>.andThen .now, hnl⟩
  obtain ⟨tb, htb, hnf⟩ := tb
  refine PySem.W.cmp_K (op := .Eq) (tb := tb) (hr.mono hk).units0 hF I.ok.mod.kin J htb hnf hm.at_ hm.fn ?_
  refine wpAny_mono (run_fn (us := [.ref a, u]) (vs := [.ref a, y]) (dvs := []) (ds := []) F (hr.mono hk) b .nil passL I (.cons rfl (.cons ry .nil)) h) (fun r s' z => ?_) fun _ _ x => x
  obtain ⟨v, H', I', rv, bb, rfl, q⟩ := z
  cases rv
  exact ⟨.bl bb, H', I', rfl, q⟩
end
end Kit
namespace Kit
open PySem PySem.Spec PyProof.Rows L2
/-! ### own != by an own == -/
section
variable {M : Model} {A : Around} {E : Value → Shared → Prop} {s : Shared} {K : PySem.W.Frag} {x C : Addr} {ox : Obj} {od : Option Obj} {b : Value}
theorem ifNe {Q : Option Value → Shared → Prop} (X : K.In s.heap) (I : PySem.W.InstAt s.heap x ox C od) (hs : PySem.W.findIn K (.ref C) "__ne__" = some (some (.builtin "object.__ne__")))
    (h : wpAny M A (call (.builtin "object.__ne__") [.ref x, b]) (fun v => Q (some v)) E s) : wpAny M A (callSpecialIfBound? (.ref x) "__ne__" [b]) Q E s := by
  have hb : bindSpecial (.builtin "object.__ne__") (.ref x) = pure (.builtin "object.__ne__", [.ref x]) := PySem.F.slot_object_ne.bind (.ref x)
  simp only [callSpecialIfBound?, bindSpecialIfBound?]
  refine wpAny_holding (wpAny_bind (wpAny_bind (wpAny_bind (I.type.here ((PySem.W.looks_findIn X hs).here ?_)))))
  refine wpAny_bind (wpAny_askSetting (wpAny_ite ?_))
  have fin : wpAny M A (call (.builtin "object.__ne__") ([.ref x] ++ [b]) >>= fun v => pure (some v)) Q E s := wpAny_bind (wpAny_mono h (fun v s' h' => wpAny_pure h') fun _ _ h' => h')
  split
  · rw [hb]
    exact wpAny_bind (wpAny_pure (wpAny_pure fin))
  · rw [hb]
    exact wpAny_tryCatch (wpAny_bind (wpAny_pure (wpAny_pure fin)))
theorem objNe {prog : Program} {w : World} {f : Addr} {Q : Value → Shared → Prop} (hu : A.in1.units < cLine) (X : K.In s.heap) (I : PySem.W.InstAt s.heap x ox C od) (hm : PySem.W.mroIn K C (.type "object") = some true)
    (he : PySem.W.findIn K (.ref C) "__eq__" = some (some (.ref f))) (hf : PySem.W.isFn K (.ref f) = true) (h : wpAny (model prog w) A.in1 (call (.ref f) [.ref x, b]) (fun v s' => ∃ c, v = .bool c ∧ Q (.bool (!c)) s') E s) :
    wpAny (model prog w) A (call (.builtin "object.__ne__") [.ref x, b]) Q E s := by
  refine wpAny_call (codeAny_call_builtin PySem.F.slot_object_ne.plain PySem.F.cmpEntry_ne (PySem.W.check_slot PySem.F.cmpKind_ne PySem.F.cmpSplit_ne (I.type.andThen (PySem.W.looks_mroIn X hm)) (PySem.F.cmpArgs_ne _ _) ?_))
  unfold Builtin.«object.__ne__»
  refine wpAny_bind (wpAny_pure ?_)
  refine wpAny_bind (wpAny_cRoomFor hu ?_)
  refine wpAny_bind (PySem.W.ifBound_K X I he hf (wpAny_mono h (fun v s' hv => ?_) fun _ _ e => e))
  obtain ⟨c, rfl, q⟩ := hv
  refine wpAny_bind (m := truthy (.bool c)) (wpAny_truthy_bool ?_)
  exact wpAny_pure q
end
section
variable {X : Cx} {C : Addr} {k j : Nat} {sp : Sp}
/-- what a class has that takes != from its == -/
structure NeT (K : PySem.W.Frag) (C : Addr) : Prop where
  ne : PySem.W.findIn K (.ref C) "__ne__" = some (some (.builtin "object.__ne__"))
  hm : PySem.W.mroIn K C (.type "object") = some true
def rNeO (C : Addr) (sp : Sp) : R2 := fun x y H Q => ∃ a dx fs b dy gs, x = .ref a ∧ H a = some (.ins C dx fs) ∧ y = .ref b ∧ H b = some (.ins C dy gs) ∧ sp [x, y] H (fun v G => ∃ c, v = .bl c ∧ Q (.bl (!c)) G) E0
theorem neO (K : PySem.W.Frag) (c : CanM X.prog X.w X.K X.mg X.base k C "__eq__" sp) (hr : Room j X.A) (hk : k + 1 ≤ j) (N : NeT K C) (hK : X.K = K := by rfl) : OpR X (compareOp .NotEq) (rNeO C sp) := by
  subst hK
  obtain ⟨f, fd, ps, F, hc, hm, b⟩ := c.ex
  intro pins s σ H x y v u Q I rx ry hq
  obtain ⟨a, dx, fs, b', dy, gs, rfl, ha, rfl, hb', h⟩ := hq
  cases rx
  cases ry
  show wpAny (model X.prog X.w) X.A (richCompare .NotEq (.ref a) (.ref b')) (EP X pins σ Q) X.xe s
  obtain ⟨mA, J, _⟩ := ins_get I.hok ha
  obtain ⟨od, J, _⟩ := J.look
  obtain ⟨mB, J', _⟩ := ins_get I.hok hb'
  obtain ⟨od', J', _⟩ := J'.look
  have hr1 : Room k X.A.in1 := (hr.mono hk).in1
  have e0 : Env0 X.prog X.w X.K X.mg X.base X.A.in1 X.stack s H := by
    have e := I.env0
    exact ⟨e.frames, e.mod, e.bs, e.bsz, e.funs, e.frf, e.hok, e.bare⟩
  have hl := F.len _ _ _ _ h
  have bb := b s [.ref a, .ref b'] I.kIn (by simpa using hl)
  unfold richCompare
  simp only [oneThing_ref]
  refine wpAny_holding (wpAny_bind (wpAny_cRoomFor (hr.mono hk).units0 ?_))
  refine wpAny_bind (J.type.here (wpAny_bind (J'.type.here ?_)))
  rw [show (Value.ref C != Value.ref C) = false from by simp]
  simp only [Bool.false_eq_true, if_false]
  refine wpAny_bind (wpAny_pure ?_)
  simp only [Bool.false_eq_true, if_false]
  have one : wpAny (model X.prog X.w) X.A (tryCompare (.ref a) "__ne__" (.ref b')) (fun r s' => ∃ v, r = some v ∧ EP X pins σ Q v s') X.xe s := by
    unfold tryCompare
    refine wpAny_bind (ifNe I.kIn J N.ne (objNe hr1.units0 I.kIn J N.hm hm.at_ hm.fn (wpAny_call (codeAny_mono (F.run X.A.in1 X.stack s H ⟨[.ref a, .ref b'], []⟩ [.ref a, .ref b'] [.ref a, .ref b'] _ E0 hr1 e0 (by simpa using bb) (.cons rfl (.cons rfl .nil)) h) ?_))))
    intro z s' hq
    cases z with
    | error e =>
      obtain ⟨_, _, _, _, _, _, _, _, _, _, _, _, y⟩ := hq
      exact y.elim
    | ok fl =>
      cases fl with
      | ret w =>
        obtain ⟨v, H', I', rz, c, rfl, q⟩ := I.after hq
        cases rz
        exact ⟨c, rfl, wpAny_pure ⟨_, rfl, .bl (!c), H', I', rfl, q⟩⟩
      | next => exact hq.elim
      | brk => exact hq.elim
      | cont => exact hq.elim
  refine wpAny_bind (wpAny_mono one (fun r s' z => ?_) fun _ _ e => e)
  obtain ⟨v, rfl, hq⟩ := z
  exact wpAny_pure hq
end
end Kit
namespace Kit
open PySem PySem.Spec PyProof.Rows L2
theorem units1 {k : Nat} {A : Around} (r : Room k A) : A.units + 1 < cLine := by
  have := r.un
  omega
end Kit

end
section
set_option Elab.async false
set_option linter.all false
set_option maxRecDepth 100000
set_option maxHeartbeats 4000000
namespace Kit
open PySem PySem.Spec PyProof.Rows L2
/-! ### comprehensions over pairs; dict comprehensions -/
section
variable {J : It} {n : Nat} {G : Hp → Prop} {Y : Nat → Hp → V → Hp → Prop} {te tk tv : TE} {σ : St} {H1 : Hp} {D : Addr} {Qd : Hp → Prop} {K : PySem.W.Frag} {xs ys : Nat → Option V}
theorem lc_two (w : Walk J n G (YPair xs ys)) {i j : Nat} (out : List V) (hn : out.length = n) (hsz : n ≤ 100000) (hD : H1 D = none) (hG : ∀ H, Same H1 H → G H) (hw : ∀ x y, wipe (((wipe σ [i, j]).set i (some x)).set j (some y)) [i, j] = wipe σ [i, j])
    (hs : ∀ k x y H v, k < n → Same H1 H → xs k = some x → ys k = some y → out[k]? = some v → ∀ Q : VK, (∀ M, Same H M → Q v M) → te (((wipe σ [i, j]).set i (some x)).set j (some y)) H Q)
    (hd : ∀ H, Same H1 H → H D = some (.lst out) → Qd H) :
    ∃ W : Nat → Nat → Hp → Prop, (∃ m, W 0 m (upd H1 D (.lst []))) ∧ ∀ k m H, W k m H →
      (J.stop k H ∧ Qd H) ∨ (J.go k H ∧ ∃ Nx : Hp → Prop, (∀ H', Nx H' → ∃ m', m' < m ∧ W (k + 1) m' H') ∧ ∀ x H', J.yld k H x H' → gTup K 2 (gCons (gName i) (gCons (gName j) gNil)) x (wipe σ [i, j]) H' fun σ2 H2 => wipe σ2 [i, j] = wipe σ [i, j] ∧ tYes σ2 H2 fun b H3 =>
        if b = true then te σ2 H3 fun y H4 => ∃ acc, H4 D = some (.lst acc) ∧ acc.length < sizeLine ∧ Nx (upd H4 D (.lst (acc ++ [y]))) else Nx H3) := by
  refine lc_it w (fun i H => Same H1 H ∧ H D = some (.lst (out.take i))) ⟨ex_new hD, upd_same⟩ (fun i H _ h => hG H h.1) ?_ ?_
  · rintro k v H H' hi ⟨s1, hHD⟩ ⟨T, x, y, rfl, hT, rfl, hx, hy⟩
    have hv : out[k]? = some (out[k]'(by omega)) := List.getElem?_eq_getElem _
    have s2 := s1.trans (ex_new (o := .tup [x, y]) hT)
    refine ⟨T, [x, y], rfl, seqT_of upd_same, rfl, x, [y], rfl, y, [], rfl, rfl, hw x y, ?_⟩
    unfold tYes
    dsimp only
    rw [if_pos rfl]
    refine hs k x y _ _ hi s2 hx hy hv _ fun M s3 => ⟨out.take k, s3 _ _ (ex_new hT _ _ hHD), by rw [List.length_take]; exact szlt (by omega), ?_⟩
    refine ⟨ex_mut (s2.trans s3) hD, ?_⟩
    rw [upd_same, List.take_add_one, hv]
    rfl
  · rintro H ⟨s1, hHD⟩
    refine hd H s1 ?_
    rw [hHD, List.take_of_length_le (by omega)]
/-- the dict's reading, as lc_it -/
theorem dc_it (w : Walk J n G Y) {g : TG} {tt : TT} {vs : List Nat} (Pv : Nat → Hp → Prop) (h0 : Pv 0 (upd H1 D (.dK []))) (hG : ∀ i H, i ≤ n → Pv i H → G H)
    (hs : ∀ i x H H', i < n → Pv i H → Y i H x H' → g x (wipe σ vs) H' fun σ2 H2 => wipe σ2 vs = wipe σ vs ∧ tt σ2 H2 fun b H3 =>
      if b = true then tk σ2 H3 fun y H4 => tv σ2 H4 fun z H5 => ∃ kvs k, y = kV k ∧ H5 D = some (.dK kvs) ∧ kvs.length < sizeLine ∧ Pv (i + 1) (upd H5 D (.dK (putK kvs k z))) else Pv (i + 1) H3) (hd : ∀ H, Pv n H → Qd H) :
    ∃ W : Nat → Nat → Hp → Prop, (∃ m, W 0 m (upd H1 D (.dK []))) ∧ ∀ i m H, W i m H →
      (J.stop i H ∧ Qd H) ∨ (J.go i H ∧ ∃ Nx : Hp → Prop, (∀ H', Nx H' → ∃ m', m' < m ∧ W (i + 1) m' H') ∧ ∀ x H', J.yld i H x H' → g x (wipe σ vs) H' fun σ2 H2 => wipe σ2 vs = wipe σ vs ∧ tt σ2 H2 fun b H3 =>
        if b = true then tk σ2 H3 fun y H4 => tv σ2 H4 fun z H5 => ∃ kvs k, y = kV k ∧ H5 D = some (.dK kvs) ∧ kvs.length < sizeLine ∧ Nx (upd H5 D (.dK (putK kvs k z))) else Nx H3) := by
  refine ⟨fun i m H => m = n - i ∧ i ≤ n ∧ Pv i H, ⟨n, by simp, Nat.zero_le _, h0⟩, ?_⟩
  rintro i m H ⟨rfl, hi, p⟩
  have q := hG i H hi p
  by_cases hlt : i < n
  · refine .inr ⟨w.goes i H hlt q, Pv (i + 1), fun H' p' => ⟨n - (i + 1), by omega, rfl, hlt, p'⟩, fun x H' y => hs i x H H' hlt p (w.yields i H x H' hlt q y)⟩
  · have e : i = n := by omega
    subst e
    exact .inl ⟨w.stops H q, hd H p⟩
theorem put_take {ks : List Key} {out : List V} (hle : ks.length ≤ out.length) (hnd : ks.Nodup) {i : Nat} {k : Key} {v : V} (hk : ks[i]? = some k) (hv : out[i]? = some v) : putK ((ks.zip out).take i) k v = (ks.zip out).take (i + 1) := by
  have hz : (ks.zip out)[i]? = some (k, v) := by
    rw [List.getElem?_zip_eq_some]
    exact ⟨hk, hv⟩
  rw [putK_new, List.take_add_one, hz]
  · rfl
  · cases e : valV ((ks.zip out).take i) k with
    | none => rfl
    | some u =>
      exfalso
      have h1 := valV_in e
      rw [List.map_take, List.map_fst_zip hle] at h1
      obtain ⟨j, hj⟩ := List.mem_iff_getElem?.mp h1
      rw [List.getElem?_take] at hj
      split at hj
      · rename_i hlt
        have hlt2 : j < i := by omega
        have hjl := (List.getElem?_eq_some_iff.mp hj).1
        have := (List.getElem?_inj hjl hnd).mp (hj.trans hk.symm)
        omega
      · cases hj
theorem dc_one (w : Walk J n G Y) {j : Nat} (ks : List Key) (out : List V) (hk : ks.length = n) (hn : out.length = n) (hnd : ks.Nodup) (hsz : n ≤ 100000) (hD : H1 D = none) (hG : ∀ H, Same H1 H → G H)
    (hs : ∀ i x H H' k v, i < n → Same H1 H → Y i H x H' → ks[i]? = some k → out[i]? = some v → Same H H' ∧ ∀ Q : V → V → Hp → Prop, (∀ M, Same H' M → Q (kV k) v M) → tk (σ.set j (some x)) H' fun y H4 => tv (σ.set j (some x)) H4 fun z H5 => Q y z H5)
    (hd : ∀ H, Same H1 H → H D = some (.dK (ks.zip out)) → Qd H) :
    ∃ W : Nat → Nat → Hp → Prop, (∃ m, W 0 m (upd H1 D (.dK []))) ∧ ∀ i m H, W i m H →
      (J.stop i H ∧ Qd H) ∨ (J.go i H ∧ ∃ Nx : Hp → Prop, (∀ H', Nx H' → ∃ m', m' < m ∧ W (i + 1) m' H') ∧ ∀ x H', J.yld i H x H' → gName j x (wipe σ [j]) H' fun σ2 H2 => wipe σ2 [j] = wipe σ [j] ∧ tYes σ2 H2 fun b H3 =>
        if b = true then tk σ2 H3 fun y H4 => tv σ2 H4 fun z H5 => ∃ kvs k, y = kV k ∧ H5 D = some (.dK kvs) ∧ kvs.length < sizeLine ∧ Nx (upd H5 D (.dK (putK kvs k z))) else Nx H3) := by
  refine dc_it w (fun i H => Same H1 H ∧ H D = some (.dK ((ks.zip out).take i))) ⟨ex_new hD, upd_same⟩ (fun i H _ h => hG H h.1) ?_ ?_
  · rintro i x H H' hi ⟨s1, hHD⟩ y
    have hv : out[i]? = some (out[i]'(by omega)) := List.getElem?_eq_getElem _
    have hkk : ks[i]? = some (ks[i]'(by omega)) := List.getElem?_eq_getElem _
    obtain ⟨s2, ht⟩ := hs i x H H' _ _ hi s1 y hkk hv
    refine ⟨wipe1 j _, ?_⟩
    unfold tYes
    dsimp only
    rw [if_pos rfl, set1]
    refine ht _ fun M s3 => ⟨(ks.zip out).take i, _, rfl, s3 _ _ (s2 _ _ hHD), by rw [List.length_take]; exact szlt (by omega), ?_⟩
    refine ⟨ex_mut ((s1.trans s2).trans s3) hD, ?_⟩
    rw [upd_same, put_take (by omega) hnd hkk hv]
  · rintro H ⟨s1, hHD⟩
    refine hd H s1 ?_
    rw [hHD, List.take_of_length_le (by rw [List.length_zip]; omega)]
theorem dc_two (w : Walk J n G (YPair xs ys)) {i j : Nat} (ks : List Key) (out : List V) (hk : ks.length = n) (hn : out.length = n) (hnd : ks.Nodup) (hsz : n ≤ 100000) (hD : H1 D = none) (hG : ∀ H, Same H1 H → G H) (hw : ∀ x y, wipe (((wipe σ [i, j]).set i (some x)).set j (some y)) [i, j] = wipe σ [i, j])
    (hs : ∀ l x y H k v, l < n → Same H1 H → xs l = some x → ys l = some y → ks[l]? = some k → out[l]? = some v → ∀ Q : V → V → Hp → Prop, (∀ M, Same H M → Q (kV k) v M) → tk (((wipe σ [i, j]).set i (some x)).set j (some y)) H fun y' H4 => tv (((wipe σ [i, j]).set i (some x)).set j (some y)) H4 fun z H5 => Q y' z H5)
    (hd : ∀ H, Same H1 H → H D = some (.dK (ks.zip out)) → Qd H) :
    ∃ W : Nat → Nat → Hp → Prop, (∃ m, W 0 m (upd H1 D (.dK []))) ∧ ∀ l m H, W l m H →
      (J.stop l H ∧ Qd H) ∨ (J.go l H ∧ ∃ Nx : Hp → Prop, (∀ H', Nx H' → ∃ m', m' < m ∧ W (l + 1) m' H') ∧ ∀ x H', J.yld l H x H' → gTup K 2 (gCons (gName i) (gCons (gName j) gNil)) x (wipe σ [i, j]) H' fun σ2 H2 => wipe σ2 [i, j] = wipe σ [i, j] ∧ tYes σ2 H2 fun b H3 =>
        if b = true then tk σ2 H3 fun y H4 => tv σ2 H4 fun z H5 => ∃ kvs k, y = kV k ∧ H5 D = some (.dK kvs) ∧ kvs.length < sizeLine ∧ Nx (upd H5 D (.dK (putK kvs k z))) else Nx H3) := by
  refine dc_it w (fun i H => Same H1 H ∧ H D = some (.dK ((ks.zip out).take i))) ⟨ex_new hD, upd_same⟩ (fun i H _ h => hG H h.1) ?_ ?_
  · rintro l v H H' hi ⟨s1, hHD⟩ ⟨T, x, y, rfl, hT, rfl, hx, hy⟩
    have hv : out[l]? = some (out[l]'(by omega)) := List.getElem?_eq_getElem _
    have hkk : ks[l]? = some (ks[l]'(by omega)) := List.getElem?_eq_getElem _
    have s2 := s1.trans (ex_new (o := .tup [x, y]) hT)
    refine ⟨T, [x, y], rfl, seqT_of upd_same, rfl, x, [y], rfl, y, [], rfl, rfl, hw x y, ?_⟩
    unfold tYes
    dsimp only
    rw [if_pos rfl]
    refine hs l x y _ _ _ hi s2 hx hy hkk hv _ fun M s3 => ⟨(ks.zip out).take l, _, rfl, s3 _ _ (ex_new hT _ _ hHD), by rw [List.length_take]; exact szlt (by omega), ?_⟩
    refine ⟨ex_mut (s2.trans s3) hD, ?_⟩
    rw [upd_same, put_take (by omega) hnd hkk hv]
  · rintro H ⟨s1, hHD⟩
    refine hd H s1 ?_
    rw [hHD, List.take_of_length_le (by rw [List.length_zip]; omega)]
theorem zip_get {ks : List Key} {out : List V} (hle : ks.length ≤ out.length) (hnd : ks.Nodup) {i : Nat} {k : Key} {v : V} (hk : ks[i]? = some k) (hv : out[i]? = some v) : valV (ks.zip out) k = some v := by
  have hz : (ks.zip out)[i]? = some (k, v) := by
    rw [List.getElem?_zip_eq_some]
    exact ⟨hk, hv⟩
  have hm : (k, v) ∈ ks.zip out := List.mem_of_getElem? hz
  have hn : ((ks.zip out).map (·.1)).Nodup := by
    rw [List.map_fst_zip hle]
    exact hnd
  exact val_nodup hn _ hm
end
/-! ### an error without fields -/
def RaZ (E : XK) (C : Addr) (H : Hp) : Prop := ∀ M, Same H M → E (.ref C) none M
theorem RaZ.mono {E : XK} {C : Addr} {H G : Hp} (h : RaZ E C H) (e : Same H G) : RaZ E C G := fun M s => h M (e.trans s)
end Kit
namespace Kit
open PySem PySem.Spec PyProof.Rows L2
/-! ### the caught error in its own suite -/
section
variable {X : Cx} {a : Addr} {oe : Obj} {pn : List (Addr × Obj)} {cls : Value} {d : Option Addr} {e : Expr} {te : TE} {fld : Str} {pos : Pos}
theorem call_isU (hz : Zc cls d oe) (hf : ∃ z, oe.data = .fields z) : CallR (X.suite a ((a, oe) :: pn)) (.builtin "isinstance") (rIsP X.K a cls d) := call_isP (X := X.suite a ((a, oe) :: pn)) (List.mem_cons_self ..) hz hf
theorem pe_xu (hz : Zc cls d oe) (hf : ∃ z, oe.data = .fields z) (he : PE (X.suite a ((a, oe) :: pn)) e te) (hb : attributeBase e fld (X.suite a ((a, oe) :: pn)).env (eval e (X.suite a ((a, oe) :: pn)).env) = eval e (X.suite a ((a, oe) :: pn)).env := by rfl) : PE (X.suite a ((a, oe) :: pn)) (.Attribute e fld pos) (tXP X.K a cls d fld te) := pe_xp (List.mem_cons_self ..) hz hf he hb
end
end Kit
namespace Kit
open PySem PySem.Spec PyProof.Rows L2
section
variable {X : Cx} {k j : Nat} {C : Addr} {m : Str} {sp : Sp} {pos apos : Pos} {o : Expr} {ta : TE}
theorem pc_m0 {pl : Sem Bool} (c : CanM X.prog X.w X.K X.mg X.base k C m sp) (hr : Room j X.A) (hk : k ≤ j) (he : PE X o ta)
    (ht : eval (.Call (.Attribute o m apos) [] [] pos) X.env = (do
      let v ← eval o X.env
      standAt apos.atName
      let (f, first) ← holding [v] (getMethod v m pl)
      callWith pos f first (backTo pos (starEach [] X.env)) (backToKw pos (keywordEach [] X.env))) := by rfl) :
    PE X (.Call (.Attribute o m apos) [] [] pos) (tMeth C m sp [] E0 ta tNil) := by
  obtain ⟨f, fd, ps, F, hc, hm, b⟩ := c.ex
  exact pe_meth0 (pl := pl) he hc hm F (hr.mono hk) b .nil passL ht
end
end Kit

end
section
set_option Elab.async false
set_option linter.all false
set_option maxRecDepth 100000
set_option maxHeartbeats 4000000
namespace Kit
open PySem PySem.Spec PyProof.Rows L2
variable {X : Cx} {o e : Expr} {es : List Expr} {to : TE} {t : TA} {name : Str} {apos cpos : Pos} {T id : String} {r : V → List V → Hp → VK → Prop}
/-- `pe_bm` where the fragment is named: for the inside of a comprehension -/
theorem pe_bmK (K : PySem.W.Frag) (pa : PlainAttrs T) (slot : Slot T name id) (hty : typeOf (.builtin id) = pure (.type "method_descriptor")) (hm : MtR X id r) (ho : PE X o to) (ha : PA X (e :: es) t) (hK : X.K = K := by rfl)
    (hbase : attributeBase o name X.env (eval o X.env) = eval o X.env := by rfl)
    (hfew : ((backTo cpos (starEach (e :: es) X.env)).all (fun x => !x.1) && (backToKw cpos (keywordEach [] X.env)).all (fun x => x.1.isSome)
      && decide ((e :: es).length + ([] : List Keyword).length + (if ([] : List Keyword).isEmpty then 0 else 1) < 30)) = true := by rfl)
    (hline : (apos.endLine == cpos.line) = true := by rfl) (hs : starEach (e :: es) X.env = (false, eval e X.env) :: starEach es X.env := by rfl) (hplain : (backTo cpos (starEach es X.env)).any (·.1) = false := by rfl) :
    PE X (.Call (.Attribute o name apos) (e :: es) [] cpos) (tBM K T r to t) := by
  subst hK
  exact pe_bm pa slot hty hm ho ha hbase hfew hline hs hplain
end Kit

end
section
set_option Elab.async false
set_option linter.all false
set_option maxRecDepth 100000
set_option maxHeartbeats 4000000
namespace Kit
open PySem PySem.Spec PyProof.Rows L2 PySem.Builtin.Str PySem.Builtin
theorem find_from (x y : Str) (i : Nat) (hi : i ≤ x.length) : (Txt.find3 x y (i : Int) = -1 ∧ ∀ k, i ≤ k → ¬ StrLaws.At x y x.length k) ∨ ∃ n : Nat, Txt.find3 x y (i : Int) = (n : Int) ∧ i ≤ n ∧ StrLaws.At x y x.length n ∧ ∀ k, i ≤ k → k < n → ¬ StrLaws.At x y x.length k := by
  have e : fromIndex x.length (i : Int) = i := by
    unfold fromIndex
    first | omega | (split <;> omega) | (rw [if_neg (by omega)]; omega)
  unfold Txt.find3
  rw [e]
  rcases StrLaws.occ_head_from x y i 1 (Nat.le_refl _) with ⟨h, g⟩ | ⟨n, r, h, h1, h2, h3⟩
  · exact .inl ⟨by rw [h], g⟩
  · exact .inr ⟨n, by rw [h], h1, h2, h3⟩
theorem at1 (x : List Nat) (c i : Nat) : StrLaws.At (S x) (S [c]) (S x).length i ↔ x[i]? = some c := by
  rw [TL.at_iff (show [c] ≠ [] from nofun)]
  show ((x.drop i).take 1 == [c]) = true ↔ _
  rw [beq_iff_eq]
  constructor
  · intro h
    have e : ((x.drop i).take 1)[0]? = some c := by rw [h]; rfl
    rw [List.getElem?_take_of_lt (by omega), List.getElem?_drop, Nat.add_zero] at e
    exact e
  · intro h
    refine List.ext_getElem? fun j => ?_
    by_cases z : j = 0
    · subst z
      rw [List.getElem?_take_of_lt (by omega), List.getElem?_drop, Nat.add_zero, h]
      rfl
    · rw [List.getElem?_eq_none (by rw [List.length_take]; omega), List.getElem?_eq_none (by show 1 ≤ j; omega)]
theorem find1 (x : List Nat) (c : Nat) : (Txt.find (S x) (S [c]) = -1 ∧ ∀ i : Nat, x[i]? ≠ some c) ∨ ∃ n : Nat, Txt.find (S x) (S [c]) = (n : Int) ∧ x[n]? = some c ∧ ∀ k < n, x[k]? ≠ some c := by
  rw [find_is_find3]
  rcases find_from (S x) (S [c]) 0 (Nat.zero_le _) with ⟨h, g⟩ | ⟨n, h, _, h2, h3⟩
  · exact .inl ⟨h, fun i e => g i (Nat.zero_le _) ((at1 x c i).mpr e)⟩
  · exact .inr ⟨n, h, (at1 x c n).mp h2, fun k hk e => h3 k (Nat.zero_le _) hk ((at1 x c k).mpr e)⟩
theorem find_cut {u v : List Nat} {c : Nat} (h : c ∉ u) : Txt.find (S (u ++ c :: v)) (S [c]) = (u.length : Int) := by
  have at0 : (u ++ c :: v)[u.length]? = some c := by rw [List.getElem?_append_right (Nat.le_refl _), Nat.sub_self]; rfl
  have no : ∀ k, k < u.length → (u ++ c :: v)[k]? ≠ some c := fun k hk e => by
    rw [List.getElem?_append_left hk] at e
    exact h (List.mem_of_getElem? e)
  rcases find1 (u ++ c :: v) c with ⟨_, g⟩ | ⟨n, h1, h2, h3⟩
  · exact absurd at0 (g _)
  · rw [h1]
    rcases Nat.lt_trichotomy n u.length with q | q | q
    · exact absurd h2 (no n q)
    · rw [q]
    · exact absurd at0 (h3 _ q)
end Kit

end
section
set_option Elab.async false
set_option linter.all false
set_option maxRecDepth 100000
set_option maxHeartbeats 4000000
namespace Kit
open PySem PySem.Spec PyProof.Rows L2
/-! ### [.. for .. for ..]: the two walks -/
section
variable {J J1 : It} {n n1 : Nat} {G G1 : Hp → Prop} {Y Y1 : Nat → Hp → V → Hp → Prop} {g1 : TG} {tt1 : TT} {te : TE} {vs1 : List Nat} {σ2 : St} {H4 : Hp} {D : Addr}
/-- the inner walk -/
theorem lc_in (w : Walk J1 n1 G1 Y1) (Pw : Nat → Hp → Prop) {Nx : Hp → Prop} (h0 : Pw 0 H4) (hG : ∀ i H, i ≤ n1 → Pw i H → G1 H)
    (hs : ∀ i x H H', i < n1 → Pw i H → Y1 i H x H' → g1 x (wipe σ2 vs1) H' fun σ3 H5 => wipe σ3 vs1 = wipe σ2 vs1 ∧ tt1 σ3 H5 fun b H6 =>
      if b = true then te σ3 H6 fun y H7 => ∃ acc, H7 D = some (.lst acc) ∧ acc.length < sizeLine ∧ Pw (i + 1) (upd H7 D (.lst (acc ++ [y]))) else Pw (i + 1) H6) (hd : ∀ H, Pw n1 H → Nx H) :
    ∃ W1 : Nat → Nat → Hp → Prop, (∃ m, W1 0 m H4) ∧ ∀ j k H, W1 j k H →
      (J1.stop j H ∧ Nx H) ∨ (J1.go j H ∧ ∃ Nx1 : Hp → Prop, (∀ H', Nx1 H' → ∃ k', k' < k ∧ W1 (j + 1) k' H') ∧ ∀ x H', J1.yld j H x H' → g1 x (wipe σ2 vs1) H' fun σ3 H5 => wipe σ3 vs1 = wipe σ2 vs1 ∧ tt1 σ3 H5 fun b H6 =>
        if b = true then te σ3 H6 fun y H7 => ∃ acc, H7 D = some (.lst acc) ∧ acc.length < sizeLine ∧ Nx1 (upd H7 D (.lst (acc ++ [y]))) else Nx1 H6) := by
  refine ⟨fun i m H => m = n1 - i ∧ i ≤ n1 ∧ Pw i H, ⟨n1, by simp, Nat.zero_le _, h0⟩, ?_⟩
  rintro i m H ⟨rfl, hi, p⟩
  have q := hG i H hi p
  by_cases hlt : i < n1
  · refine .inr ⟨w.goes i H hlt q, Pw (i + 1), fun H' p' => ⟨n1 - (i + 1), by omega, rfl, hlt, p'⟩, fun x H' y => hs i x H H' hlt p (w.yields i H x H' hlt q y)⟩
  · have e : i = n1 := by omega
    subst e
    exact .inl ⟨w.stops H q, hd H p⟩
/-- the outer one: A asks of an item what its own loop does, up to what comes next -/
theorem lc_out {H1 : Hp} {Qd : Hp → Prop} (w : Walk J n G Y) (A : V → Hp → (Hp → Prop) → Prop) (Pv : Nat → Hp → Prop) (h0 : Pv 0 (upd H1 D (.lst []))) (hG : ∀ i H, i ≤ n → Pv i H → G H)
    (hs : ∀ i x H H', i < n → Pv i H → Y i H x H' → A x H' (Pv (i + 1))) (hd : ∀ H, Pv n H → Qd H) :
    ∃ W : Nat → Nat → Hp → Prop, (∃ m, W 0 m (upd H1 D (.lst []))) ∧ ∀ i m H, W i m H →
      (J.stop i H ∧ Qd H) ∨ (J.go i H ∧ ∃ Nx : Hp → Prop, (∀ H', Nx H' → ∃ m', m' < m ∧ W (i + 1) m' H') ∧ ∀ x H', J.yld i H x H' → A x H' Nx) := by
  refine ⟨fun i m H => m = n - i ∧ i ≤ n ∧ Pv i H, ⟨n, by simp, Nat.zero_le _, h0⟩, ?_⟩
  rintro i m H ⟨rfl, hi, p⟩
  have q := hG i H hi p
  by_cases hlt : i < n
  · refine .inr ⟨w.goes i H hlt q, Pv (i + 1), fun H' p' => ⟨n - (i + 1), by omega, rfl, hlt, p'⟩, fun x H' y => hs i x H H' hlt p (w.yields i H x H' hlt q y)⟩
  · have e : i = n := by omega
    subst e
    exact .inl ⟨w.stops H q, hd H p⟩
end
theorem yesT {σ : St} {H : Hp} {A : Bool → Hp → Prop} (h : A true H) : tYes σ H A := h
end Kit

end
section
set_option Elab.async false
set_option linter.all false
set_option maxRecDepth 100000
set_option maxHeartbeats 4000000
namespace Kit
open PySem PySem.Spec PyProof.Rows L2
theorem itP {c : Prop} [Decidable c] {A B : Prop} (h : c) (x : A) : if c then A else B := by
  rw [if_pos h]
  exact x
/-! ### texts cut at one sign -/
/-- the pieces of l between the signs c -/
def cutc (c : Nat) : List Nat → List Nat → List (List Nat)
  | acc, [] => [acc]
  | acc, d :: r => if d = c then acc :: cutc c [] r else cutc c (acc ++ [d]) r
theorem spl_cutc (c : Nat) : ∀ l acc, TL.spl [c] 0 acc l = cutc c acc l
  | [], acc => TL.spl_nil _ _ _
  | d :: r, acc => by
    have e : TL.pre [c] (d :: r) = decide (d = c) := by
      unfold TL.pre
      show ([d] == [c]) = _
      by_cases h : d = c
      · rw [h, decide_eq_true rfl]; exact beq_self_eq_true _
      · rw [decide_eq_false h]
        exact beq_eq_false_iff_ne.mpr fun q => h (List.head_eq_of_cons_eq q)
    by_cases h : d = c
    · rw [TL.spl_hit (by rw [e, decide_eq_true h])]
      show acc :: TL.spl [c] 0 [] r = _
      rw [spl_cutc c r []]
      show _ = if d = c then _ else _
      rw [if_pos h]
    · rw [TL.spl_miss (by rw [e, decide_eq_false h]), spl_cutc c r _]
      show _ = if d = c then _ else _
      rw [if_neg h]
theorem split1 (l : List Nat) {c : Nat} (hc : c < 256) : Txt.split (S l) (S [c]) = (cutc c [] l).map S := by
  refine TL.map_tl_inj ?_
  rw [TL.split_spl _ _ (show [c] ≠ [] from nofun) (TL.kind_ok (by show (#[c]).all (· < 256) = true; simp [hc])), List.map_map]
  show TL.spl [c] 0 [] l = _
  rw [spl_cutc]
  have : (TL.tl ∘ S) = id := funext fun x => rfl
  rw [this, List.map_id]
theorem cutc_none {c : Nat} : ∀ {l acc : List Nat}, c ∉ l → cutc c acc l = [acc ++ l]
  | [], acc, _ => by rw [List.append_nil]; rfl
  | d :: r, acc, h => by
    have h1 : d ≠ c := fun e => h (by rw [e]; exact List.mem_cons_self)
    show (if d = c then _ else _) = _
    rw [if_neg h1, cutc_none fun m => h (List.mem_cons_of_mem _ m), List.append_assoc]
    rfl
theorem cutc_at {c : Nat} : ∀ {u acc v : List Nat}, c ∉ u → cutc c acc (u ++ c :: v) = (acc ++ u) :: cutc c [] v
  | [], acc, v, _ => by
    show (if c = c then _ else _) = _
    rw [if_pos rfl, List.append_nil]
  | d :: r, acc, v, h => by
    have h1 : d ≠ c := fun e => h (by rw [e]; exact List.mem_cons_self)
    show (if d = c then _ else _) = _
    rw [if_neg h1]
    show cutc c (acc ++ [d]) (r ++ c :: v) = _
    rw [cutc_at fun m => h (List.mem_cons_of_mem _ m), List.append_assoc]
    rfl
theorem cutc_len {c : Nat} : ∀ (l acc : List Nat), (cutc c acc l).length = l.count c + 1
  | [], acc => rfl
  | d :: r, acc => by
    show (if d = c then acc :: cutc c [] r else cutc c (acc ++ [d]) r).length = _
    by_cases h : d = c
    · rw [if_pos h, List.length_cons, cutc_len r, h, List.count_cons_self]
    · rw [if_neg h, cutc_len r, List.count_cons_of_ne (Ne.symm (Ne.symm h))]
theorem count1 (l : List Nat) (c : Nat) : Txt.count (S l) (S [c]) = (l.count c : Int) := by
  have e : Txt.count (S l) (S [c]) = cnt c l := count_is (S l) c
  rw [e]
  induction l with
  | nil => rfl
  | cons d r ih =>
    rw [cnt_cons, ih (by exact count_is (S r) c)]
    by_cases h : d = c
    · rw [if_pos h, h, List.count_cons_self]; omega
    · rw [if_neg h, List.count_cons_of_ne (Ne.symm (Ne.symm h))]; omega
/-- a list with c in it, cut at the first one -/
theorem first_cut {c : Nat} : ∀ {l : List Nat}, c ∈ l → ∃ u v, l = u ++ c :: v ∧ c ∉ u
  | d :: r, h => by
    by_cases e : d = c
    · exact ⟨[], r, by rw [e]; rfl, nofun⟩
    · rcases List.mem_cons.mp h with q | q
      · exact absurd q.symm e
      · obtain ⟨u, v, rfl, hu⟩ := first_cut q
        exact ⟨d :: u, v, rfl, fun m => (List.mem_cons.mp m).elim (fun z => e z.symm) hu⟩
theorem count_zero {c : Nat} {l : List Nat} : l.count c = 0 ↔ c ∉ l := List.count_eq_zero
/-- just one c -/
theorem one_cut {c : Nat} {l : List Nat} (h : l.count c = 1) : ∃ u v, l = u ++ c :: v ∧ c ∉ u ∧ c ∉ v := by
  obtain ⟨u, v, rfl, hu⟩ := first_cut (show c ∈ l from List.count_pos_iff.mp (by omega))
  refine ⟨u, v, rfl, hu, ?_⟩
  rw [List.count_append, List.count_cons_self, count_zero.mpr hu] at h
  exact count_zero.mp (by omega)
theorem ends1 (l : List Nat) (c : Nat) : Txt.endswith (S l) (S [c]) = decide (l.drop (l.length - 1) = [c]) := by
  unfold Txt.endswith
  rw [S_len, S_len]
  show (decide (0 + 1 ≤ l.length) && PySem.Builtin.Str.subAt (S l) (S [c]) (l.length - 1)) = _
  by_cases z : 1 ≤ l.length
  · rw [decide_eq_true (by omega), Bool.true_and]
    have e := StrLaws.subAt_one (S l) c (l.length - 1)
    have k : ((S l).cps.toList[l.length - 1]? = some c) ↔ l.drop (l.length - 1) = [c] := by
      show l[l.length - 1]? = some c ↔ _
      have dl : (l.drop (l.length - 1)).length = 1 := by rw [List.length_drop]; omega
      have d0 : (l.drop (l.length - 1))[0]? = l[l.length - 1]? := by rw [List.getElem?_drop, Nat.add_zero]
      rw [← d0]
      match l.drop (l.length - 1), dl with
      | [x], _ =>
        constructor
        · intro h; cases h; rfl
        · intro h; cases h; rfl
    have g : (PySem.Builtin.Str.subAt (S l) (S [c]) (l.length - 1) = true) ↔ l.drop (l.length - 1) = [c] :=
      ⟨fun h => k.mp (e.mp ⟨by rw [S_len]; show l.length - 1 + 1 ≤ _; omega, h⟩), fun h => (e.mpr (k.mpr h)).2⟩
    by_cases q : l.drop (l.length - 1) = [c]
    · rw [decide_eq_true q]
      exact g.mpr q
    · rw [decide_eq_false q]
      exact Bool.eq_false_iff.mpr fun h => q (g.mp h)
  · rw [decide_eq_false (by omega), Bool.false_and, decide_eq_false]
    intro q
    have := congrArg List.length q
    rw [List.length_drop] at this
    simp at this
    omega
theorem sIx_m1 (n d : Nat) : HT.sIx n d (some (-1)) = n - 1 := by
  show (if (-1 : Int) < 0 then ((-1 : Int) + (n : Int)).toNat else min (-1 : Int).toNat n) = n - 1
  rw [if_pos (by decide)]
  omega
/-- l[-1:] -/
theorem cut_end (l : List Nat) : cutS (S l) (some (-1)) none = S (l.drop (l.length - 1)) := by
  rw [cut_S, sIx_m1]
  show S ((l.drop (l.length - 1)).take (l.length - (l.length - 1))) = _
  rw [List.take_of_length_le (by rw [List.length_drop]; omega)]
/-- l[:-1] -/
theorem cut_init (l : List Nat) : cutS (S l) none (some (-1)) = S (l.take (l.length - 1)) := by
  rw [cut_S, sIx_m1]
  show S ((l.drop 0).take (l.length - 1 - 0)) = _
  rw [List.drop_zero, Nat.sub_zero]
/-- l[i:-1] -/
theorem cut_in (l : List Nat) (i : Nat) : cutS (S l) (some (i : Int)) (some (-1)) = S ((l.take (l.length - 1)).drop i) := by
  rw [cut_S, sIx_m1, HT.sIx_nat, List.drop_take]
  by_cases h : i ≤ l.length
  · rw [Nat.min_eq_left h]
  · rw [Nat.min_eq_right (by omega), List.drop_eq_nil_of_le (Nat.le_refl _), List.drop_eq_nil_of_le (by omega)]
    simp
end Kit

end
section
set_option Elab.async false
set_option linter.all false
set_option maxRecDepth 100000
set_option maxHeartbeats 4000000
namespace Kit
open PySem PySem.Spec PyProof.Rows L2
/-! ### == and != of data without dicts, any texts -/
section
variable {X : Cx}
def rEqP (K : PySem.W.Frag) : R2 := fun x y H Q => ∃ d e, Dp K H x d ∧ Dp K H y e ∧ d.plain = true ∧ e.plain = true ∧ d.depth ≤ 64 ∧ Q (.bl (PyData.eqv d e)) H
def rNeP (K : PySem.W.Frag) : R2 := fun x y H Q => ∃ d e, Dp K H x d ∧ Dp K H y e ∧ d.plain = true ∧ e.plain = true ∧ d.depth ≤ 64 ∧ Q (.bl (!PyData.eqv d e)) H
theorem keqP (K : PySem.W.Frag) (hu : X.A.units + 64 < cLine) (hK : X.K = K := by rfl) : OpR X (compareOp .Eq) (rEqP K) := by
  subst hK
  intro pins s σ H x y v u Q I rx ry h
  obtain ⟨d, e, hd, he, sd, se, dd, q⟩ := h
  obtain ⟨as, r1⟩ := Dp.reads I d x v hd rx
  obtain ⟨bs, r2⟩ := Dp.reads I e y u he ry
  exact SeqAt.eq_plain r1 r2 sd se (by omega) ⟨.bl _, H, I, rfl, q⟩
theorem kneP (K : PySem.W.Frag) (hu : X.A.units + 64 < cLine) (hK : X.K = K := by rfl) : OpR X (compareOp .NotEq) (rNeP K) := by
  subst hK
  intro pins s σ H x y v u Q I rx ry h
  obtain ⟨d, e, hd, he, sd, se, dd, q⟩ := h
  obtain ⟨as, r1⟩ := Dp.reads I d x v hd rx
  obtain ⟨bs, r2⟩ := Dp.reads I e y u he ry
  exact SeqAt.ne_plain r1 r2 sd se (by omega) ⟨.bl _, H, I, rfl, q⟩
end
/-- lists of texts as such data -/
def pdL (ls : List (List Nat)) : PyData := .list (ls.map fun l => .str (S l))
theorem dpAll_txt {K : PySem.W.Frag} {H : Hp} : ∀ ls : List (List Nat), DpAll K H (ls.map tx) (ls.map fun l => .str (S l))
  | [] => .nil
  | l :: ls => .cons (.str _) (dpAll_txt ls)
theorem dp_txt {K : PySem.W.Frag} {H : Hp} {p : Addr} {ls : List (List Nat)} (h : H p = some (.lst (ls.map tx))) : Dp K H (.ref p) (pdL ls) := .lst (seqL_of h) (dpAll_txt ls)
theorem plainL (ls : List (List Nat)) : (pdL ls).plain = true := by
  unfold pdL PyData.plain
  induction ls with
  | nil => rfl
  | cons l ls ih =>
    rw [List.map_cons]
    unfold PyData.plainAll
    rw [ih]
    rfl
theorem depthAllL (ls : List (List Nat)) : PyData.depthAll (ls.map fun l => .str (S l)) ≤ 1 := by
  induction ls with
  | nil => simp [PyData.depthAll]
  | cons l ls ih =>
    rw [List.map_cons]
    unfold PyData.depthAll
    unfold PyData.depth
    omega
theorem depthL (ls : List (List Nat)) : (pdL ls).depth ≤ 64 := by
  unfold pdL PyData.depth
  have := depthAllL ls
  omega
end Kit

end
section
set_option Elab.async false
set_option linter.all false
set_option maxRecDepth 100000
set_option maxHeartbeats 4000000
namespace Kit
open PySem PySem.Spec PyProof.Rows L2
section
variable {X : Cx} {k j : Nat} {C : Addr} {m : Str} {sp : Sp} {o : Expr} {pos apos : Pos} {ta : TE}
/-- C.m(), m a classmethod -/
theorem pc_cm0 {pl : Sem Bool} (c : CanC X.prog X.w X.K X.mg X.base k C m sp) (hr : Room j X.A) (hk : k ≤ j) (he : PE X o ta)
    (ht : eval (.Call (.Attribute o m apos) [] [] pos) X.env = (do
      let ov ← eval o X.env
      standAt apos.atName
      let (f, first) ← holding [ov] (getMethod ov m pl)
      callWith pos f first (backTo pos (starEach [] X.env)) (backToKw pos (keywordEach [] X.env))) := by rfl) :
    PE X (.Call (.Attribute o m apos) [] [] pos) (tCm0 C sp ta tNil) := by
  obtain ⟨mc, pp, g, fd, ps, F, r, cm, b⟩ := c.ex
  refine ⟨fun pins s σ H Q I h => ?_⟩
  refine PySem.W.methodCall_KW (pl := pl) (thn (he.run pins s σ H _ I h) fun u s1 ⟨x, H1, I1, rx, ex, q⟩ => ?_) ht
  subst ex
  obtain rfl : u = Value.ref C := rx
  refine ClX.getmethcm_ok I1 r cm fun s2 I2 => ?_
  exact PySem.W.callWith_M0 (first := []) ⟨ClX.pin_at I2, I2.kIn⟩ cm.fi (ClX.run_cm (us := []) (vs := []) (F.raw b .nil) (hr.mono hk) passL I2 .nil q)
end
end Kit

end
section
set_option Elab.async false
set_option linter.all false
set_option maxRecDepth 100000
set_option maxHeartbeats 4000000
namespace Kit
open PySem PySem.Spec PyProof.Rows L2
/-! ### enumerate(zip(..)): the zip's own tuple may be out, alive or not -/
abbrev IsZ (h : Heap) (z TI TO : Addr) (v : Value) (f : Bool) : Prop := h.get? z = some { cls := .type "zip", dict := none, data := .fields #[v, .bool f, .bool false, .ref TI, .ref TO], slots := #[] }
def OutV (v : Value) : Prop := v = .none ∨ ∃ T : Addr, v = rawInt T
section
variable {prog : Program} {w : World} {A : Around} {E : Value → Shared → Prop} {s : Shared} {z TI TO i1 i2 : Addr} {fp1 fp2 : List Addr} {n1 n2 i : Nat} {P1 P2 : Nat → Value → Prop} {St1 St2 : Nat → Heap → Prop} {v : Value} {f : Bool}
theorem alive_any {a : Addr} {Q : Option Obj → Shared → Prop} (h : Q (s.heap.get? a) s) : wpAny (model prog w) A (loadIfAlive a) Q E s := fun _ _ _ => h
theorem free_zip {Q : Bool → Shared → Prop} (hz : IsZ s.heap z TI TO v f) (hv : OutV v) (h : ∀ b h' f', IsZ h' z TI TO v f' → Heap.SameBut z s.heap h' → Q b { s with heap := h' }) :
    wpAny (model prog w) A (Builtin.SmallTypes.ownedTupleIsFree (.ref z)) Q E s := by
  unfold Builtin.SmallTypes.ownedTupleIsFree
  refine wpAny_bind (wpAny_field hz rfl (x := v) rfl ?_)
  rcases hv with rfl | ⟨T, rfl⟩
  · exact wpAny_pure (h true s.heap f hz (Heap.SameBut.refl _ _))
  · refine wpAny_bind (show wpAny _ _ (loadIfAlive ((T : Int).toNat)) _ _ _ from alive_any ?_)
    generalize s.heap.get? (T : Int).toNat = o?
    cases o? with
    | none => exact wpAny_pure (h true s.heap f hz (Heap.SameBut.refl _ _))
    | some o =>
      simp only [Option.isNone_some, Bool.false_eq_true, if_false]
      refine wpAny_bind (wpAny_field hz rfl (x := .bool f) rfl ?_)
      cases f with
      | true =>
        rw [if_neg (show ¬ ((Value.bool true != Value.bool true) = true) from Bool.false_ne_true)]
        exact wpAny_pure (h false s.heap true hz (Heap.SameBut.refl _ _))
      | false =>
        rw [if_pos (show (Value.bool false != Value.bool true) = true from rfl)]
        exact wpAny_bind (wpAny_setField_rec hz (by simp) fun h₁ hz₁ hs₁ => wpAny_pure (h false h₁ true hz₁ hs₁))
/-- the record after one of its writes -/
theorem set0 {Q : Unit → Shared → Prop} {v2 : Value} (hz : IsZ s.heap z TI TO v f) (h : ∀ h', IsZ h' z TI TO v2 f → Heap.SameBut z s.heap h' → Q () { s with heap := h' }) : wpAny (model prog w) A (setField (.ref z) 0 v2) Q E s :=
  wpAny_setField_rec hz (by simp) fun h' hz' hs' => h h' hz' hs'
theorem zipZ_item {Q : Value → Shared → Prop} (S : ZipSep2 z TI TO i1 i2 fp1 fp2) (D1 : Draws prog w A i1 fp1 n1 P1 St1) (D2 : Draws prog w A i2 fp2 n2 P2 St2)
    (hz : IsZ s.heap z TI TO v f) (hv : OutV v) (hTI : IsTupOf2 s.heap TI (.ref i1) (.ref i2)) (hTO : ∃ a1 a2, IsTupOf2 s.heap TO a1 a2) (st1 : St1 i s.heap) (st2 : St2 i s.heap) (l1 : i < n1) (l2 : i < n2)
    (hQ : ∀ x1 x2 h' tk, P1 i x1 → P2 i x2 → (∃ v' f', IsZ h' z TI TO v' f' ∧ OutV v') → (∃ a1 a2, IsTupOf2 h' TO a1 a2) → St1 (i + 1) h' → St2 (i + 1) h' → IsTupOf2 h' s.heap.objs.size x1 x2 → h'.objs.size = s.heap.objs.size + 1 →
      (∀ c o, c ≠ z → c ≠ TO → c ≠ i1 → c ≠ i2 → s.heap.get? c = some o → h'.get? c = some o) → Q (.ref s.heap.objs.size) { s with heap := h', toks := tk }) :
    wpAny (model prog w) A (Builtin.«zip.__next__» ⟨[.ref z], []⟩) (fun fin s' => ∃ v, fin = .done (.ret v) ∧ Q v s') E s := by
  obtain ⟨hp, g, d, tk0, os⟩ := s
  obtain ⟨a1, a2, hTO⟩ := hTO
  show wpAny _ _ (field (.ref z) 2 >>= _) _ _ _
  refine wpAny_bind (wpAny_field hz rfl (x := .bool false) rfl ?_)
  show wpAny _ _ (field (.ref z) 3 >>= _) _ _ _
  refine wpAny_bind (wpAny_field hz rfl (x := .ref TI) rfl (wpAny_bind (wpAny_seqItems hTI rfl ?_)))
  show wpAny _ _ (Builtin.SmallTypes.ownedTupleIsFree (.ref z) >>= _) _ _ _
  refine wpAny_bind (free_zip hz hv fun b g0 f0 hz0 hs0 => ?_)
  replace hs0 : Heap.SameBut z hp g0 := hs0
  cases b with
  | true =>
    simp only [if_true]
    refine wpAny_bind (wpAny_rule (wpAny_bind (wpAny_field hz0 rfl (x := .ref TO) rfl (wpAny_bind (set0 hz0 fun g1 hz1 hs1 => ?_)))))
    replace hs1 : Heap.SameBut z g0 g1 := hs1
    have k01 : ∀ c o, c ≠ z → hp.get? c = some o → g1.get? c = some o := fun c o n e => hs1.extBut _ _ n (hs0.extBut _ _ n e)
    refine wpAny_bind ?_
    simp only [List.zipIdx_cons, List.zipIdx_nil, List.forIn_cons, List.forIn_nil]
    refine wpAny_bind (wpAny_bind (wpAny_onRaise ?_))
    show wpAny _ _ (Builtin.SmallTypes.nextOf (.ref i1) >>= _) _ _ ⟨g1, g, d, tk0, os⟩
    refine wpAny_bind (D1.item i _ _ _ l1 (D1.over (D1.over st1 hs0 S.zf1) hs1 S.zf1) fun x1 p1 tk1 hx1 sn1 hp1 => wpAny_pure ?_)
    replace hp1 : Heap.SameBut i1 g1 p1 := hp1
    have hU1 : IsTupOf2 p1 TO a1 a2 := hp1.extBut _ _ S.Ti1 (k01 _ _ S.TOz hTO)
    refine wpAny_bind (wpAny_seqItems (s := ⟨p1, g, d, tk1, os⟩) hU1 rfl (wpAny_bind (updateSeq_IsTupOf2 (s := ⟨p1, g, d, tk1, os⟩) hU1 fun q1 hT1 hs2 => ?_)))
    replace hT1 : IsTupOf2 q1 TO x1 a2 := hT1
    replace hs2 : Heap.SameBut TO p1 q1 := hs2
    refine wpAny_bind (wpAny_letGo (wpAny_pure (wpAny_bind (wpAny_bind (wpAny_onRaise ?_)))))
    show wpAny _ _ (Builtin.SmallTypes.nextOf (.ref i2) >>= _) _ _ ⟨q1, g, d, tk1, os⟩
    refine wpAny_bind (D2.item i _ _ _ l2 (D2.over (D2.over (D2.over (D2.over st2 hs0 S.zf2) hs1 S.zf2) hp1 S.sep1_2) hs2 S.Tf2) fun x2 p2 tk2 hx2 sn2 hp2 => wpAny_pure ?_)
    replace hp2 : Heap.SameBut i2 q1 p2 := hp2
    have hU2 : IsTupOf2 p2 TO x1 a2 := hp2.extBut _ _ S.Ti2 hT1
    refine wpAny_bind (wpAny_seqItems (s := ⟨p2, g, d, tk2, os⟩) hU2 rfl (wpAny_bind (updateSeq_IsTupOf2 (s := ⟨p2, g, d, tk2, os⟩) hU2 fun q2 hT2 hs3 => ?_)))
    replace hT2 : IsTupOf2 q2 TO x1 x2 := hT2
    replace hs3 : Heap.SameBut TO p2 q2 := hs3
    refine wpAny_bind (wpAny_letGo (wpAny_pure (wpAny_pure ?_)))
    refine wpAny_bind (wpAny_seqItems (s := ⟨q2, g, d, tk2, os⟩) hT2 rfl (wpAny_bind (wpAny_newTuple ?_)))
    have hsz : q2.objs.size = hp.objs.size := by rw [hs3.1, hp2.1, hs2.1, hp1.1, hs1.1, hs0.1]
    have hzz : IsZ q2 z TI TO .ellipsis f0 := hs3.extBut _ _ S.TOz.symm (hp2.extBut _ _ S.zi2 (hs2.extBut _ _ S.TOz.symm (hp1.extBut _ _ S.zi1 hz1)))
    have hkk : ∀ c o, c ≠ z → c ≠ TO → c ≠ i1 → c ≠ i2 → hp.get? c = some o → q2.get? c = some o := fun c o cz cT c1 c2 e =>
      hs3.extBut _ _ cT (hp2.extBut _ _ c2 (hs2.extBut _ _ cT (hp1.extBut _ _ c1 (k01 _ _ cz e))))
    have hj1 : St1 (i + 1) q2 := D1.over (D1.over (D1.over sn1 hs2 S.Tf1) hp2 S.sep2_1) hs3 S.Tf1
    have hj2 : St2 (i + 1) q2 := D2.over sn2 hs3 S.Tf2
    have hzlt : z < q2.objs.size := Heap.lt_size hzz
    show wpAny _ _ (Builtin.SmallTypes.ownedTupleHandOut (.ref z) (.ref q2.objs.size) >>= _) _ _ ⟨q2.push { cls := .type "tuple", data := .seq #[x1, x2] }, g, d, tk2, os⟩
    refine wpAny_bind ?_
    unfold Builtin.SmallTypes.ownedTupleHandOut
    refine wpAny_bind (set0 (f := f0) (Heap.get?_push_of_some _ hzz) fun h₇ hz₇ hs₇ => ?_)
    replace hz₇ : IsZ h₇ z TI TO (rawInt q2.objs.size) f0 := hz₇
    refine wpAny_setField_rec hz₇ (by simp) fun h₈ hz₈ hs₈ => ?_
    replace hz₈ : IsZ h₈ z TI TO (rawInt q2.objs.size) false := hz₈
    replace hs₇ : Heap.SameBut z (q2.push { cls := .type "tuple", data := .seq #[x1, x2] }) h₇ := hs₇
    replace hs₈ : Heap.SameBut z h₇ h₈ := hs₈
    have up : ∀ c o, c ≠ z → q2.get? c = some o → h₈.get? c = some o := fun c o c1 e => hs₈.extBut _ _ c1 (hs₇.extBut _ _ c1 (Heap.get?_push_of_some _ e))
    have hT₈ : IsTupOf2 h₈ q2.objs.size x1 x2 := hs₈.extBut _ _ (Nat.ne_of_gt hzlt) (hs₇.extBut _ _ (Nat.ne_of_gt hzlt) (Heap.get?_push_size _ rfl))
    have hz8 : h₈.objs.size = q2.objs.size + 1 := by rw [hs₈.1, hs₇.1, Heap.size_push]
    rw [hsz] at hz₈ hT₈ hz8
    refine wpAny_pure ⟨_, rfl, ?_⟩
    show Q (.ref q2.objs.size) ⟨h₈, g, d, tk2, os⟩
    rw [hsz]
    exact hQ x1 x2 h₈ tk2 hx1 hx2 ⟨_, _, hz₈, .inr ⟨_, rfl⟩⟩ ⟨_, _, up _ _ S.TOz hT2⟩ (D1.frame _ _ _ hj1 fun b hb o e => up b o (fun q => S.zf1 (q ▸ hb)) e) (D2.frame _ _ _ hj2 fun b hb o e => up b o (fun q => S.zf2 (q ▸ hb)) e) hT₈ hz8
      fun c o cz cT c1 c2 e => up c o cz (hkk c o cz cT c1 c2 e)
  | false =>
    simp only [Bool.false_eq_true, if_false]
    refine wpAny_bind ?_
    rw [← Array.forIn_toList]
    simp only [List.forIn_cons, List.forIn_nil]
    refine wpAny_bind (wpAny_bind (wpAny_holding ?_))
    show wpAny _ _ (Builtin.SmallTypes.nextOf (.ref i1) >>= _) _ _ ⟨g0, g, d, tk0, os⟩
    refine wpAny_bind (D1.item i _ _ _ l1 (D1.over st1 hs0 S.zf1) fun x1 p1 tk1 hx1 sn1 hp1 => wpAny_pure (wpAny_pure ?_))
    replace hp1 : Heap.SameBut i1 g0 p1 := hp1
    refine wpAny_bind (wpAny_bind (wpAny_holding ?_))
    show wpAny _ _ (Builtin.SmallTypes.nextOf (.ref i2) >>= _) _ _ ⟨p1, g, d, tk1, os⟩
    refine wpAny_bind (D2.item i _ _ _ l2 (D2.over (D2.over st2 hs0 S.zf2) hp1 S.sep1_2) fun x2 p2 tk2 hx2 sn2 hp2 => wpAny_pure (wpAny_pure (wpAny_pure ?_)))
    replace hp2 : Heap.SameBut i2 p1 p2 := hp2
    show wpAny _ _ (newTuple [x1, x2] >>= _) _ _ ⟨p2, g, d, tk2, os⟩
    refine wpAny_bind (wpAny_newTuple ?_)
    have hsz : p2.objs.size = hp.objs.size := by rw [hp2.1, hp1.1, hs0.1]
    have hk : ∀ c o, c ≠ z → c ≠ i1 → c ≠ i2 → hp.get? c = some o → p2.get? c = some o := fun c o c1 c2 c3 e => hp2.extBut _ _ c3 (hp1.extBut _ _ c2 (hs0.extBut _ _ c1 e))
    have hz3 : IsZ p2 z TI TO v f0 := hp2.extBut _ _ S.zi2 (hp1.extBut _ _ S.zi1 hz0)
    have hp3 : IsTupOf2 (p2.push { cls := .type "tuple", data := .seq #[x1, x2] }) p2.objs.size x1 x2 := Heap.get?_push_size _ rfl
    have hz4 : (p2.push { cls := .type "tuple", data := .seq #[x1, x2] }).objs.size = p2.objs.size + 1 := Heap.size_push ..
    refine wpAny_pure ⟨_, rfl, ?_⟩
    show Q (.ref p2.objs.size) _
    rw [hsz] at hp3 hz4 ⊢
    exact hQ x1 x2 _ tk2 hx1 hx2 ⟨_, _, Heap.get?_push_of_some _ hz3, hv⟩ ⟨_, _, Heap.get?_push_of_some _ (hk _ _ S.TOz S.Ti1 S.Ti2 hTO)⟩ (D1.frame _ _ _ (D1.over sn1 hp2 S.sep2_1) fun b hb o e => Heap.get?_push_of_some _ e) (D2.frame _ _ _ sn2 fun b hb o e => Heap.get?_push_of_some _ e) hp3 hz4
      fun c o cz cT c1 c2 e => Heap.get?_push_of_some _ (hk c o cz c1 c2 e)
theorem zipZ_end {Q : Fin → Shared → Prop} (S : ZipSep2 z TI TO i1 i2 fp1 fp2) (D1 : Draws prog w A i1 fp1 n1 P1 St1) (D2 : Draws prog w A i2 fp2 n2 P2 St2)
    (hz : IsZ s.heap z TI TO v f) (hv : OutV v) (hTI : IsTupOf2 s.heap TI (.ref i1) (.ref i2)) (hTO : ∃ a1 a2, IsTupOf2 s.heap TO a1 a2) (st1 : St1 i s.heap) (st2 : St2 i s.heap) (l1 : i ≤ n1) (l2 : i ≤ n2) (hend : i = n1 ∨ i = n2)
    (hE : ∀ h' tk e, (∀ c o, c ≠ z → c ≠ TO → c ≠ i1 → c ≠ i2 → s.heap.get? c = some o → h'.get? c = some o) → (∃ o, h'.get? e = some o ∧ o.cls = .type "StopIteration") → E (.ref e) { s with heap := h', toks := tk }) :
    wpAny (model prog w) A (Builtin.«zip.__next__» ⟨[.ref z], []⟩) Q E s := by
  obtain ⟨hp, g, d, tk0, os⟩ := s
  obtain ⟨a1, a2, hTO⟩ := hTO
  show wpAny _ _ (field (.ref z) 2 >>= _) _ _ _
  refine wpAny_bind (wpAny_field hz rfl (x := .bool false) rfl ?_)
  show wpAny _ _ (field (.ref z) 3 >>= _) _ _ _
  refine wpAny_bind (wpAny_field hz rfl (x := .ref TI) rfl (wpAny_bind (wpAny_seqItems hTI rfl ?_)))
  show wpAny _ _ (Builtin.SmallTypes.ownedTupleIsFree (.ref z) >>= _) _ _ _
  refine wpAny_bind (free_zip hz hv fun b g0 f0 hz0 hs0 => ?_)
  replace hs0 : Heap.SameBut z hp g0 := hs0
  cases b with
  | true =>
    simp only [if_true]
    refine wpAny_bind (wpAny_rule (wpAny_bind (wpAny_field hz0 rfl (x := .ref TO) rfl (wpAny_bind (set0 hz0 fun g1 hz1 hs1 => ?_)))))
    replace hs1 : Heap.SameBut z g0 g1 := hs1
    replace hz1 : IsZ g1 z TI TO .ellipsis f0 := hz1
    have k01 : ∀ c o, c ≠ z → hp.get? c = some o → g1.get? c = some o := fun c o n e => hs1.extBut _ _ n (hs0.extBut _ _ n e)
    have fin : ∀ (q : Heap) (tk : Tok) (e : Addr), IsZ q z TI TO .ellipsis f0 → (∀ c o, c ≠ z → c ≠ TO → c ≠ i1 → c ≠ i2 → hp.get? c = some o → q.get? c = some o) → (∃ o, q.get? e = some o ∧ o.cls = .type "StopIteration") →
        wpAny (model prog w) A (setField (.ref z) 0 .none) (fun _ s' => E (.ref e) s') E ⟨q, g, d, tk, os⟩ := fun q tk e hzq hk he => by
      obtain ⟨oe, hoe, hce⟩ := he
      have hez : e ≠ z := fun x => by subst x; rw [hzq] at hoe; cases hoe; simp at hce
      refine set0 (s := ⟨q, g, d, tk, os⟩) hzq fun q' _ hq' => ?_
      replace hq' : Heap.SameBut z q q' := hq'
      exact hE q' tk e (fun c o cz cT c1 c2 x => hq'.extBut _ _ cz (hk c o cz cT c1 c2 x)) ⟨oe, hq'.extBut _ _ hez hoe, hce⟩
    refine wpAny_bind ?_
    simp only [List.zipIdx_cons, List.zipIdx_nil, List.forIn_cons, List.forIn_nil]
    refine wpAny_bind (wpAny_bind (wpAny_onRaise ?_))
    show wpAny _ _ (Builtin.SmallTypes.nextOf (.ref i1) >>= _) _ _ ⟨g1, g, d, tk0, os⟩
    by_cases hlt1 : i < n1
    · refine wpAny_bind (D1.item i _ _ _ hlt1 (D1.over (D1.over st1 hs0 S.zf1) hs1 S.zf1) fun x1 p1 tk1 hx1 sn1 hp1 => wpAny_pure ?_)
      replace hp1 : Heap.SameBut i1 g1 p1 := hp1
      have hU1 : IsTupOf2 p1 TO a1 a2 := hp1.extBut _ _ S.Ti1 (k01 _ _ S.TOz hTO)
      refine wpAny_bind (wpAny_seqItems (s := ⟨p1, g, d, tk1, os⟩) hU1 rfl (wpAny_bind (updateSeq_IsTupOf2 (s := ⟨p1, g, d, tk1, os⟩) hU1 fun q1 hT1 hs2 => ?_)))
      replace hs2 : Heap.SameBut TO p1 q1 := hs2
      refine wpAny_bind (wpAny_letGo (wpAny_pure (wpAny_bind (wpAny_bind (wpAny_onRaise ?_)))))
      show wpAny _ _ (Builtin.SmallTypes.nextOf (.ref i2) >>= _) _ _ ⟨q1, g, d, tk1, os⟩
      have hi2 : i = n2 := by omega
      refine wpAny_bind (D2.done ⟨q1, g, d, tk1, os⟩ _ _ (by rw [← hi2]; exact D2.over (D2.over (D2.over (D2.over st2 hs0 S.zf2) hs1 S.zf2) hp1 S.sep1_2) hs2 S.Tf2) fun q e hq he => ?_)
      replace hq : Heap.ExtBut i2 q1 q := hq
      exact fin q tk1 e (hq _ _ S.zi2 (hs2.extBut _ _ S.TOz.symm (hp1.extBut _ _ S.zi1 hz1))) (fun c o cz cT c1 c2 x => hq _ _ c2 (hs2.extBut _ _ cT (hp1.extBut _ _ c1 (k01 _ _ cz x)))) he
    · have hi1 : i = n1 := by omega
      refine wpAny_bind (D1.done ⟨g1, g, d, tk0, os⟩ _ _ (by rw [← hi1]; exact D1.over (D1.over st1 hs0 S.zf1) hs1 S.zf1) fun q e hq he => ?_)
      replace hq : Heap.ExtBut i1 g1 q := hq
      exact fin q tk0 e (hq _ _ S.zi1 hz1) (fun c o cz cT c1 c2 x => hq _ _ c1 (k01 _ _ cz x)) he
  | false =>
    simp only [Bool.false_eq_true, if_false]
    refine wpAny_bind ?_
    rw [← Array.forIn_toList]
    simp only [List.forIn_cons, List.forIn_nil]
    refine wpAny_bind (wpAny_bind (wpAny_holding ?_))
    show wpAny _ _ (Builtin.SmallTypes.nextOf (.ref i1) >>= _) _ _ ⟨g0, g, d, tk0, os⟩
    by_cases hlt1 : i < n1
    · refine wpAny_bind (D1.item i _ _ _ hlt1 (D1.over st1 hs0 S.zf1) fun x1 p1 tk1 hx1 sn1 hp1 => wpAny_pure (wpAny_pure ?_))
      replace hp1 : Heap.SameBut i1 g0 p1 := hp1
      refine wpAny_bind (wpAny_bind (wpAny_holding ?_))
      show wpAny _ _ (Builtin.SmallTypes.nextOf (.ref i2) >>= _) _ _ ⟨p1, g, d, tk1, os⟩
      have hi2 : i = n2 := by omega
      refine wpAny_bind (D2.done ⟨p1, g, d, tk1, os⟩ _ _ (by rw [← hi2]; exact D2.over (D2.over st2 hs0 S.zf2) hp1 S.sep1_2) fun q e hq he => ?_)
      replace hq : Heap.ExtBut i2 p1 q := hq
      exact hE q tk1 e (fun c o cz _ c1 c2 x => hq _ _ c2 (hp1.extBut _ _ c1 (hs0.extBut _ _ cz x))) he
    · have hi1 : i = n1 := by omega
      refine wpAny_bind (D1.done ⟨g0, g, d, tk0, os⟩ _ _ (by rw [← hi1]; exact D1.over st1 hs0 S.zf1) fun q e hq he => ?_)
      replace hq : Heap.ExtBut i1 g0 q := hq
      exact hE q tk0 e (fun c o cz _ c1 _ x => hq _ _ c1 (hs0.extBut _ _ cz x)) he
/-- as an iterator within another one asks it -/
theorem nextZ_item {Q : Value → Shared → Prop} (S : ZipSep2 z TI TO i1 i2 fp1 fp2) (D1 : Draws prog w A.in1 i1 fp1 n1 P1 St1) (D2 : Draws prog w A.in1 i2 fp2 n2 P2 St2)
    (hz : IsZ s.heap z TI TO v f) (hv : OutV v) (hTI : IsTupOf2 s.heap TI (.ref i1) (.ref i2)) (hTO : ∃ a1 a2, IsTupOf2 s.heap TO a1 a2) (st1 : St1 i s.heap) (st2 : St2 i s.heap) (l1 : i < n1) (l2 : i < n2)
    (hQ : ∀ x1 x2 h' tk, P1 i x1 → P2 i x2 → (∃ v' f', IsZ h' z TI TO v' f' ∧ OutV v') → (∃ a1 a2, IsTupOf2 h' TO a1 a2) → St1 (i + 1) h' → St2 (i + 1) h' → IsTupOf2 h' s.heap.objs.size x1 x2 → h'.objs.size = s.heap.objs.size + 1 →
      (∀ c o, c ≠ z → c ≠ TO → c ≠ i1 → c ≠ i2 → s.heap.get? c = some o → h'.get? c = some o) → Q (.ref s.heap.objs.size) { s with heap := h', toks := tk }) :
    wpAny (model prog w) A (Builtin.SmallTypes.nextOf (.ref z)) Q E s := by
  have hT : s.TypeIs (.ref z) "zip" := ⟨_, hz, rfl⟩
  unfold Builtin.SmallTypes.nextOf
  exact wpAny_bind (wpAny_callSpecial?_slot (name := Str.ofString "__next__") hT F.slot_zip_next (wpAny_call_entry F.slot_zip_next hT F.entry_zip_next
    (zipZ_item S D1 D2 hz hv hTI hTO st1 st2 l1 l2 fun x1 x2 h' tk b1 b2 b3 b4 b5 b6 b7 b8 b9 => wpAny_pure (hQ x1 x2 h' tk b1 b2 b3 b4 b5 b6 b7 b8 b9)) (F.args_zip_next_1 _)))
theorem nextZ_end {Q : Value → Shared → Prop} (S : ZipSep2 z TI TO i1 i2 fp1 fp2) (D1 : Draws prog w A.in1 i1 fp1 n1 P1 St1) (D2 : Draws prog w A.in1 i2 fp2 n2 P2 St2)
    (hz : IsZ s.heap z TI TO v f) (hv : OutV v) (hTI : IsTupOf2 s.heap TI (.ref i1) (.ref i2)) (hTO : ∃ a1 a2, IsTupOf2 s.heap TO a1 a2) (st1 : St1 i s.heap) (st2 : St2 i s.heap) (l1 : i ≤ n1) (l2 : i ≤ n2) (hend : i = n1 ∨ i = n2)
    (hE : ∀ h' tk e, (∀ c o, c ≠ z → c ≠ TO → c ≠ i1 → c ≠ i2 → s.heap.get? c = some o → h'.get? c = some o) → (∃ o, h'.get? e = some o ∧ o.cls = .type "StopIteration") → E (.ref e) { s with heap := h', toks := tk }) :
    wpAny (model prog w) A (Builtin.SmallTypes.nextOf (.ref z)) Q E s := by
  have hT : s.TypeIs (.ref z) "zip" := ⟨_, hz, rfl⟩
  unfold Builtin.SmallTypes.nextOf
  exact wpAny_bind (wpAny_callSpecial?_slot (name := Str.ofString "__next__") hT F.slot_zip_next (wpAny_call_entry F.slot_zip_next hT F.entry_zip_next
    (zipZ_end S D1 D2 hz hv hTI hTO st1 st2 l1 l2 hend hE) (F.args_zip_next_1 _)))
structure EnumSep (e z TI TO i1 i2 : Addr) (fp1 fp2 : List Addr) : Prop extends ZipSep2 z TI TO i1 i2 fp1 fp2 where
  ez : e ≠ z
  eTI : e ≠ TI
  eTO : e ≠ TO
  e1 : e ∉ fp1
  e2 : e ∉ fp2
theorem EnumSep.ei1 {e : Addr} (S : EnumSep e z TI TO i1 i2 fp1 fp2) : e ≠ i1 := fun q => S.e1 (q ▸ S.mem1)
theorem EnumSep.ei2 {e : Addr} (S : EnumSep e z TI TO i1 i2 fp1 fp2) : e ≠ i2 := fun q => S.e2 (q ▸ S.mem2)
theorem enumZ_item {e : Addr} {c : Int} {old : Value} {Q : Value → Shared → Prop} (S : EnumSep e z TI TO i1 i2 fp1 fp2) (D1 : Draws prog w A.in1 i1 fp1 n1 P1 St1) (D2 : Draws prog w A.in1 i2 fp2 n2 P2 St2) (he : IsEnum s.heap e z c old)
    (hz : IsZ s.heap z TI TO v f) (hv : OutV v) (hTI : IsTupOf2 s.heap TI (.ref i1) (.ref i2)) (hTO : ∃ a1 a2, IsTupOf2 s.heap TO a1 a2) (st1 : St1 i s.heap) (st2 : St2 i s.heap) (l1 : i < n1) (l2 : i < n2)
    (hQ : ∀ x1 x2 h' tk, P1 i x1 → P2 i x2 → IsEnumOut h' e z (c + 1) (.ref s.heap.objs.size) (s.heap.objs.size + 1) → (∃ v' f', IsZ h' z TI TO v' f' ∧ OutV v') → (∃ a1 a2, IsTupOf2 h' TO a1 a2) → St1 (i + 1) h' → St2 (i + 1) h' →
      IsTupOf2 h' s.heap.objs.size x1 x2 → IsTupOf2 h' (s.heap.objs.size + 1) (.int c tk) (.ref s.heap.objs.size) → h'.objs.size = s.heap.objs.size + 2 →
      (∀ b o, b ≠ e → b ≠ z → b ≠ TO → b ≠ i1 → b ≠ i2 → s.heap.get? b = some o → h'.get? b = some o) → Q (.ref (s.heap.objs.size + 1)) { s with heap := h', toks := tk + 1 }) :
    wpAny (model prog w) A (Builtin.«enumerate.__next__» ⟨[.ref e], []⟩) (fun fin s' => ∃ v, fin = .done (.ret v) ∧ Q v s') E s := by
  obtain ⟨hp, g, d, tk₀, os⟩ := s
  show wpAny _ _ (field (.ref e) 2 >>= _) _ _ _
  refine wpAny_bind (wpAny_field he rfl (x := .ref z) rfl (wpAny_bind (nextZ_item S.toZipSep2 D1 D2 hz hv hTI hTO st1 st2 l1 l2 fun x1 x2 h₁ tk p1 p2 hz1 hO1 q1 q2 hP hsz hk => ?_)))
  have hel : e < hp.objs.size := Heap.lt_size he
  have he₁ : IsEnum h₁ e z c old := hk _ _ S.ez S.eTO S.ei1 S.ei2 he
  show wpAny _ _ (field (.ref e) 3 >>= _) _ _ ⟨h₁, g, d, tk, os⟩
  refine wpAny_bind (wpAny_field he₁ rfl (x := rawInt c) rfl ?_)
  show wpAny _ _ (field (.ref e) 4 >>= _) _ _ ⟨h₁, g, d, tk, os⟩
  refine wpAny_bind (wpAny_field he₁ rfl (x := .none) rfl ?_)
  show wpAny _ _ (mkInt c >>= _) _ _ ⟨h₁, g, d, tk, os⟩
  refine wpAny_bind (wpAny_mkInt ?_)
  show wpAny _ _ (setField (.ref e) 3 (rawInt (c + 1)) >>= _) _ _ ⟨h₁, g, d, tk + 1, os⟩
  refine wpAny_bind (wpAny_setField_rec he₁ (by simp) fun h₂ he₂ hs₂ => ?_)
  replace hs₂ : Heap.SameBut e h₁ h₂ := hs₂
  replace he₂ : IsEnum h₂ e z (c + 1) old := he₂
  show wpAny _ _ (setField (.ref e) 4 .none >>= _) _ _ ⟨h₂, g, d, tk + 1, os⟩
  refine wpAny_bind (wpAny_setField_rec he₂ (by simp) fun h₃ he₃ hs₃ => ?_)
  replace hs₃ : Heap.SameBut e h₂ h₃ := hs₃
  replace he₃ : IsEnum h₃ e z (c + 1) old := he₃
  show wpAny _ _ (newTuple [.int c tk, .ref hp.objs.size] >>= _) _ _ ⟨h₃, g, d, tk + 1, os⟩
  refine wpAny_bind (wpAny_newTuple ?_)
  have n₃ : h₃.objs.size = hp.objs.size + 1 := by rw [hs₃.1, hs₂.1, hsz]
  have up₃ : ∀ b o, b ≠ e → h₁.get? b = some o → h₃.get? b = some o := fun b o n x => hs₃.extBut _ _ n (hs₂.extBut _ _ n x)
  have he₄ : IsEnum (h₃.push { cls := .type "tuple", data := .seq #[.int c tk, .ref hp.objs.size] }) e z (c + 1) old := Heap.get?_push_of_some _ he₃
  have hT₄ : IsTupOf2 (h₃.push { cls := .type "tuple", data := .seq #[.int c tk, .ref hp.objs.size] }) (hp.objs.size + 1) (.int c tk) (.ref hp.objs.size) := by rw [← n₃]; exact Heap.get?_push_size _ rfl
  have n₄ : (h₃.push { cls := .type "tuple", data := .seq #[.int c tk, .ref hp.objs.size] }).objs.size = hp.objs.size + 2 := by rw [Heap.size_push, n₃]
  have up₄ : ∀ b o, b ≠ e → h₁.get? b = some o → (h₃.push { cls := .type "tuple", data := .seq #[.int c tk, .ref hp.objs.size] }).get? b = some o := fun b o n x => Heap.get?_push_of_some _ (up₃ b o n x)
  generalize h₃.push { cls := .type "tuple", data := .seq #[.int c tk, .ref hp.objs.size] } = h₄ at he₄ hT₄ n₄ up₄ ⊢
  show wpAny _ _ (Builtin.SmallTypes.ownedTupleIsFree (.ref e) >>= _) _ _ ⟨h₄, g, d, tk + 1, os⟩
  rw [n₃]
  refine wpAny_bind ?_
  unfold Builtin.SmallTypes.ownedTupleIsFree
  refine wpAny_bind (wpAny_field he₄ rfl (x := .none) rfl (wpAny_pure ?_))
  simp only [if_true]
  refine wpAny_bind (wpAny_rule (wpAny_bind (wpAny_field he₄ rfl (x := old) rfl (wpAny_bind (wpAny_setField_rec he₄ (by simp) fun h₅ he₅ hs₅ => ?_)))))
  replace hs₅ : Heap.SameBut e h₄ h₅ := hs₅
  replace he₅ : IsEnum h₅ e z (c + 1) (.ref hp.objs.size) := he₅
  show wpAny _ _ (Builtin.SmallTypes.ownedTupleHandOut (.ref e) (.ref (hp.objs.size + 1)) >>= _) _ _ ⟨h₅, g, d, tk + 1, os⟩
  refine wpAny_bind ?_
  unfold Builtin.SmallTypes.ownedTupleHandOut
  refine wpAny_bind (wpAny_setField_rec he₅ (by simp) fun h₆ he₆ hs₆ => ?_)
  replace hs₆ : Heap.SameBut e h₅ h₆ := hs₆
  replace he₆ : IsEnumOut h₆ e z (c + 1) (.ref hp.objs.size) (hp.objs.size + 1) := he₆
  refine wpAny_setField_rec he₆ (by simp) fun h₇ he₇ hs₇ => ?_
  replace hs₇ : Heap.SameBut e h₆ h₇ := hs₇
  replace he₇ : IsEnumOut h₇ e z (c + 1) (.ref hp.objs.size) (hp.objs.size + 1) := he₇
  have n₇ : h₇.objs.size = hp.objs.size + 2 := by rw [hs₇.1, hs₆.1, hs₅.1, n₄]
  have up : ∀ b o, b ≠ e → h₄.get? b = some o → h₇.get? b = some o := fun b o n x => hs₇.extBut _ _ n (hs₆.extBut _ _ n (hs₅.extBut _ _ n x))
  have all : ∀ b o, b ≠ e → h₁.get? b = some o → h₇.get? b = some o := fun b o n x => up b o n (up₄ b o n x)
  obtain ⟨v', f', hz1, hv1⟩ := hz1
  obtain ⟨a1, a2, hO1⟩ := hO1
  exact wpAny_bind (wpAny_letGo (wpAny_pure ⟨_, rfl, hQ x1 x2 h₇ tk p1 p2 he₇ ⟨v', f', all _ _ (Ne.symm S.ez) hz1, hv1⟩ ⟨a1, a2, all _ _ (Ne.symm S.eTO) hO1⟩
    (D1.frame _ _ _ q1 fun b hb o x => all b o (fun q => S.e1 (q ▸ hb)) x) (D2.frame _ _ _ q2 fun b hb o x => all b o (fun q => S.e2 (q ▸ hb)) x) (all _ _ (Nat.ne_of_gt hel) hP) (up _ _ (Nat.ne_of_gt (Nat.lt_succ_of_lt hel)) hT₄) n₇
    fun b o n1 n2 n3 n4 n5 x => all b o n1 (hk b o n2 n3 n4 n5 x)⟩))
theorem enumZ_end {e : Addr} {c : Int} {old : Value} {Q : Option Value → Shared → Prop} (S : EnumSep e z TI TO i1 i2 fp1 fp2) (D1 : Draws prog w A.in1.in1 i1 fp1 n1 P1 St1) (D2 : Draws prog w A.in1.in1 i2 fp2 n2 P2 St2) (he : IsEnum s.heap e z c old)
    (hz : IsZ s.heap z TI TO v f) (hv : OutV v) (hTI : IsTupOf2 s.heap TI (.ref i1) (.ref i2)) (hTO : ∃ a1 a2, IsTupOf2 s.heap TO a1 a2) (st1 : St1 i s.heap) (st2 : St2 i s.heap) (l1 : i ≤ n1) (l2 : i ≤ n2) (hend : i = n1 ∨ i = n2)
    (hQ : ∀ h' tk, (∀ c o, c ≠ z → c ≠ TO → c ≠ i1 → c ≠ i2 → s.heap.get? c = some o → h'.get? c = some o) → Q none { s with heap := h', toks := tk }) : wpAny (model prog w) A (pyNext (.ref e)) Q E s := by
  have hT : s.TypeIs (.ref e) "enumerate" := ⟨_, he, rfl⟩
  unfold pyNext
  refine wpAny_bind (wpAny_attempt (wpAny_callSpecial?_slot (name := Str.ofString "__next__") hT F.slot_enumerate_next (wpAny_call_entry F.slot_enumerate_next hT F.entry_enumerate_next ?_ (F.args_enumerate_next_1 _))))
  show wpAny _ _ (field (.ref e) 2 >>= _) _ _ _
  refine wpAny_bind (wpAny_field he rfl (x := .ref z) rfl (wpAny_bind (nextZ_end S.toZipSep2 D1 D2 hz hv hTI hTO st1 st2 l1 l2 hend fun h' tk x hk hx => ?_)))
  obtain ⟨o, ho, hc⟩ := hx
  exact wpAny_bind (wpAny_isInstance (T := "StopIteration") (b := true) ⟨o, ho, hc⟩ isSubtype_stop (wpAny_pure (hQ _ _ hk)))
theorem enumZ_next {e : Addr} {c : Int} {old : Value} {Q : Option Value → Shared → Prop} (S : EnumSep e z TI TO i1 i2 fp1 fp2) (D1 : Draws prog w A.in1.in1 i1 fp1 n1 P1 St1) (D2 : Draws prog w A.in1.in1 i2 fp2 n2 P2 St2) (he : IsEnum s.heap e z c old)
    (hz : IsZ s.heap z TI TO v f) (hv : OutV v) (hTI : IsTupOf2 s.heap TI (.ref i1) (.ref i2)) (hTO : ∃ a1 a2, IsTupOf2 s.heap TO a1 a2) (st1 : St1 i s.heap) (st2 : St2 i s.heap) (l1 : i < n1) (l2 : i < n2)
    (hQ : ∀ x1 x2 h' tk, P1 i x1 → P2 i x2 → IsEnumOut h' e z (c + 1) (.ref s.heap.objs.size) (s.heap.objs.size + 1) → (∃ v' f', IsZ h' z TI TO v' f' ∧ OutV v') → (∃ a1 a2, IsTupOf2 h' TO a1 a2) → St1 (i + 1) h' → St2 (i + 1) h' →
      IsTupOf2 h' s.heap.objs.size x1 x2 → IsTupOf2 h' (s.heap.objs.size + 1) (.int c tk) (.ref s.heap.objs.size) → h'.objs.size = s.heap.objs.size + 2 →
      (∀ b o, b ≠ e → b ≠ z → b ≠ TO → b ≠ i1 → b ≠ i2 → s.heap.get? b = some o → h'.get? b = some o) → Q (some (.ref (s.heap.objs.size + 1))) { s with heap := h', toks := tk + 1 }) :
    wpAny (model prog w) A (pyNext (.ref e)) Q E s := by
  have hT : s.TypeIs (.ref e) "enumerate" := ⟨_, he, rfl⟩
  unfold pyNext
  exact wpAny_bind (wpAny_attempt (wpAny_callSpecial?_slot (name := Str.ofString "__next__") hT F.slot_enumerate_next (wpAny_call_entry F.slot_enumerate_next hT F.entry_enumerate_next
    (enumZ_item S D1 D2 he hz hv hTI hTO st1 st2 l1 l2 fun x1 x2 h' tk b1 b2 b3 b4 b5 b6 b7 b8 b9 b10 b11 => wpAny_pure (hQ x1 x2 h' tk b1 b2 b3 b4 b5 b6 b7 b8 b9 b10 b11)) (F.args_enumerate_next_1 _))))
end
set_option maxHeartbeats 1000000 in
theorem meets_enumZ (z TI TO : Addr) :
    Meets (Builtin.«enumerate.__new__» ⟨[.type "enumerate", .ref z], []⟩) (fun _ R s => IsZip s.heap z TI TO .none ∧
      R (.ok (.ret (.ref s.heap.objs.size))) { s with heap := s.heap.push { cls := .type "enumerate", data := .fields #[.none, .bool false, .ref z, rawInt 0, .none, .none] } }) :=
  .of_wp fun prog w A R s h => by
    obtain ⟨hp, g, d, tk, os⟩ := s
    obtain ⟨h1, h⟩ := h
    have hsub := sub_enumerate
    have q1 : ∀ {A' : Around} {E : Value → Shared → Prop} {Q : Value → Shared → Prop}, Q (.ref z) ⟨hp, g, d, tk, os⟩ → wpAny (model prog w) A' (pyIter (.ref z)) Q E ⟨hp, g, d, tk, os⟩ :=
      fun q => wpAny_pyIter_zip (s := ⟨hp, g, d, tk, os⟩) h1 q
    wp_walk using q1
    refine wpAny_stack_any fun st => wpAny_pure ?_
    split
    · rename_i c _ _ _ _ _
      cases (c == Value.type "enumerate")
      · wp_walk using q1
        exact ⟨_, rfl, h⟩
      · wp_walk using q1
        exact ⟨_, rfl, h⟩
    · wp_walk using q1
      exact ⟨_, rfl, h⟩
theorem call_enumZ {prog : Program} {w : World} {A : Around} {E : Value → Shared → Prop} {s : Shared} {z TI TO : Addr} {Q : Value → Shared → Prop} (hz : IsZip s.heap z TI TO .none)
    (h : ∀ h', IsEnum h' s.heap.objs.size z 0 .none → h'.objs.size = s.heap.objs.size + 1 → (∀ b o, s.heap.get? b = some o → h'.get? b = some o) → Q (.ref s.heap.objs.size) { s with heap := h' }) :
    wpAny (model prog w) A (call (.type "enumerate") [.ref z]) Q E s := by
  refine callType_new F.called_enumerate (by decide) (F.typeCall_enumerate_1 _) (F.newCall_enumerate_1 _) (fun obj => F.args_object_init_2 obj _) F.entry_enumerate_new (meets_enumZ z TI TO) ⟨hz, ?_⟩
  have he : IsEnum (s.heap.push { cls := .type "enumerate", data := .fields #[.none, .bool false, .ref z, rawInt 0, .none, .none] }) s.heap.objs.size z 0 .none := Heap.get?_push_size _ rfl
  exact ⟨⟨_, he, rfl⟩, h _ he (Heap.size_push ..) fun b o x => Heap.get?_push_of_some _ x⟩
end Kit

end
section
set_option Elab.async false
set_option linter.all false
set_option maxRecDepth 100000
set_option maxHeartbeats 4000000
namespace Kit
open PySem PySem.Spec PyProof.Rows L2
/-! ### for i, (a, b) in enumerate(zip(x, y)) -/
structure Dq (X : Cx) (H : Hp) (h : Heap) (sd : Sd) (it : Addr) (i : Nat) (xs : List V) : Prop where
  ex : ∃ (fp : List Addr) (P : Nat → Value → Prop) (St : Nat → Heap → Prop), Draws X.prog X.w X.A.in1.in1 it fp xs.length P St ∧ St i h ∧ it ∈ fp ∧ (∀ c ∈ fp, c = it ∨ H c ≠ none) ∧ (∀ j h', St j h' → sd.st h' it j) ∧ (∀ x u, P i u → xs[i]? = some x → RelV x u)
theorem dq_of {X : Cx} {pins : List (Addr × Obj)} {σ : St} {H : Hp} {s : Shared} {sd : Sd} {it : Addr} {i : Nat} {xs : List V} (hc : X.calm = true) (I : Inv X pins σ H s) (hn : H it = none) (hat : sd.at H xs) (st : sd.st s.heap it i) : Dq X H s.heap sd it i xs := by
  constructor
  cases sd with
  | L a =>
    have hat : H a = some (.lst xs) := hat
    obtain ⟨hzz, its, nn, rv, hl0⟩ := (show ObjOk X.prog X.w H s.heap a (.lst xs) from I.hok a _ hat)
    have hL : s.heap.IsList a its.toArray := ⟨_, hl0, rfl, nn, rfl⟩
    have hne : a ≠ it := fun q => by rw [q, hn] at hat; cases hat
    have hl : its.toArray.size = xs.length := by rw [List.size_toArray, rv.length]
    refine ⟨[it, a], _, _, hl ▸ Draws.list (A := X.A.in1.in1) (show X.A.in1.in1.handled = none from I.ok.hd hc) it a hne its.toArray, ⟨st, hL⟩, by simp, fun c hcm => ?_, fun j h' q => q.1, fun x u hu hx => ?_⟩
    · have e : c = it ∨ c = a := by simpa using hcm
      rcases e with e | e
      · exact .inl e
      · refine .inr ?_
        rw [e, hat]
        simp
    · obtain ⟨u', hu', ru⟩ := rv.get hx
      have z : its[i]? = some u := by simpa using hu
      rw [hu'] at z
      cases z
      exact ru
  | T x =>
    obtain ⟨t, st⟩ := st
    have hat : xs = signs x := hat
    have hl : x.cps.size = xs.length := by rw [hat, signs, List.length_map, Array.length_toList]
    refine ⟨[it], _, _, hl ▸ Draws.text (A := X.A.in1.in1) (show X.A.in1.in1.handled = none from I.ok.hd hc) it x t, st, by simp, fun c hcm => .inl (by simpa using hcm), fun j h' q => ⟨t, q⟩, fun y u hu hx => ?_⟩
    obtain ⟨c, tk, hc', rfl⟩ := hu
    rw [hat, signs, List.getElem?_map, Array.getElem?_toList, hc'] at hx
    cases hx
    exact ⟨tk, rfl⟩
structure Cells6 (e z TI TO i1 i2 : Addr) : Prop extends Cells z TI TO i1 i2 where
  ez : e ≠ z
  eTI : e ≠ TI
  eTO : e ≠ TO
  ei1 : e ≠ i1
  ei2 : e ≠ i2
theorem sep6 {H : Hp} {e z TI TO i1 i2 : Addr} {f1 f2 : List Addr} (C : Cells6 e z TI TO i1 i2) (hn : ∀ b ∈ [e, z, TI, TO, i1, i2], H b = none) (m1 : i1 ∈ f1) (m2 : i2 ∈ f2) (h1 : ∀ c ∈ f1, c = i1 ∨ H c ≠ none) (h2 : ∀ c ∈ f2, c = i2 ∨ H c ≠ none) :
    EnumSep e z TI TO i1 i2 f1 f2 where
  toZipSep2 := sep_of C.toCells (fun b hb => hn b (List.mem_cons_of_mem _ hb)) m1 m2 h1 h2
  ez := C.ez
  eTI := C.eTI
  eTO := C.eTO
  e1 := fun q => (h1 _ q).elim C.ei1 fun k => k (hn _ (by simp))
  e2 := fun q => (h2 _ q).elim C.ei2 fun k => k (hn _ (by simp))
/-- the pairs of both sides, each with its number, in two new tuples -/
def ItEZ (d1 d2 : Sd) : It :=
  ⟨fun i G => ∃ (xs ys : List V) (x y : V), d1.at G xs ∧ d2.at G ys ∧ xs[i]? = some x ∧ ys[i]? = some y,
    fun i G v G' => ∃ T U x y, v = .ref U ∧ G T = none ∧ G U = none ∧ T ≠ U ∧ G' = upd (upd G T (.tup [x, y])) U (.tup [.int (i : Nat), .ref T]) ∧ (∀ xs, d1.at G xs → xs[i]? = some x) ∧ ∀ ys, d2.at G ys → ys[i]? = some y,
    fun i G => ∃ xs ys : List V, d1.at G xs ∧ d2.at G ys ∧ i ≤ xs.length ∧ i ≤ ys.length ∧ (i = xs.length ∨ i = ys.length)⟩
theorem turn_EZ {P : Program} {w : World} {K : PySem.W.Frag} {elts : List Expr} {kk : Nat} {tpos : Pos} (d1 d2 : Sd) {e z TI TO i1 i2 : Addr} (C : Cells6 e z TI TO i1 i2) :
    Turn P w K (.Tuple elts kk tpos) (ItEZ d1 d2) [e, z, TI, TO, i1, i2] e (fun i h => (∃ old, IsEnum h e z ((i : Nat) : Int) old) ∧ (∃ v f, IsZ h z TI TO v f ∧ OutV v) ∧ IsTupOf2 h TI (.ref i1) (.ref i2) ∧ (∃ x y, IsTupOf2 h TO x y) ∧ d1.st h i1 i ∧ d2.st h i2 i) where
  mem := by simp
  obj := fun i h st c hc => by
    obtain ⟨⟨old, he⟩, ⟨v, f, hz, _⟩, hTI, ⟨x, y, hTO⟩, s1, s2⟩ := st
    have e' : c = e ∨ c = z ∨ c = TI ∨ c = TO ∨ c = i1 ∨ c = i2 := by simpa using hc
    rcases e' with q | q | q | q | q | q
    · rw [q]; exact ⟨_, he, fun v q => nomatch q⟩
    · rw [q]; exact ⟨_, hz, fun v q => nomatch q⟩
    · rw [q]; exact ⟨_, hTI, fun v q => nomatch q⟩
    · rw [q]; exact ⟨_, hTO, fun v q => nomatch q⟩
    · rw [q]; exact Sd.live s1
    · rw [q]; exact Sd.live s2
  keep := fun i h h' st k => by
    obtain ⟨⟨old, he⟩, ⟨v, f, hz, hv⟩, hTI, ⟨x, y, hTO⟩, s1, s2⟩ := st
    exact ⟨⟨old, k e (by simp) _ he⟩, ⟨v, f, k z (by simp) _ hz, hv⟩, k TI (by simp) _ hTI, ⟨x, y, k TO (by simp) _ hTO⟩, Sd.keep s1 fun o q => k i1 (by simp) o q, Sd.keep s2 fun o q => k i2 (by simp) o q⟩
  item := by
    intro X hP hw hK hc i pins s σ H E I hf st hg
    subst hP hw hK
    obtain ⟨⟨old, he⟩, ⟨v, f, hz, hv⟩, hTI, hTO, s1, s2⟩ := st
    obtain ⟨xs, ys, x, y, hqx, hqy, hx, hy⟩ := hg
    obtain ⟨f1, P1, St1, D1, t1, m1, u1, b1, r1⟩ := (dq_of hc I (hf i1 (by simp)).1 hqx s1).ex
    obtain ⟨f2, P2, St2, D2, t2, m2, u2, b2, r2⟩ := (dq_of hc I (hf i2 (by simp)).1 hqy s2).ex
    have SS := sep6 C (fun b hb => (hf b hb).1) m1 m2 u1 u2
    have hl1 := (List.getElem?_eq_some_iff.mp hx).1
    have hl2 := (List.getElem?_eq_some_iff.mp hy).1
    have lt : ∀ c ∈ [e, z, TI, TO, i1, i2], c < s.heap.objs.size := fun c hcm => by
      have e' : c = e ∨ c = z ∨ c = TI ∨ c = TO ∨ c = i1 ∨ c = i2 := by simpa using hcm
      obtain ⟨a1, a2, hTO⟩ := hTO
      rcases e' with q | q | q | q | q | q
      · rw [q]; exact Heap.lt_size he
      · rw [q]; exact Heap.lt_size hz
      · rw [q]; exact Heap.lt_size hTI
      · rw [q]; exact Heap.lt_size hTO
      · rw [q]; obtain ⟨_, e1, _⟩ := Sd.live s1; exact Heap.lt_size e1
      · rw [q]; obtain ⟨_, e2, _⟩ := Sd.live s2; exact Heap.lt_size e2
    refine enumZ_next SS D1 D2 he hz hv hTI hTO t1 t2 hl1 hl2 fun v1 v2 h' tk p1 p2 eo z' TO' t1' t2' hT hU hsz hk => ?_
    refine ⟨_, rfl, wpAny_letOwnedTupleGo_enum (s := { s with heap := h', toks := tk + 1 }) eo fun h'' e'' sb => ?_⟩
    have hel : e < s.heap.objs.size := lt e (by simp)
    have k2 : ∀ c o, c ∉ [e, z, TI, TO, i1, i2] → s.heap.get? c = some o → h''.get? c = some o := fun c o hb q =>
      (sb.2 c (fun q' => hb (by simp [q']))).trans (hk c o (fun q' => hb (by simp [q'])) (fun q' => hb (by simp [q'])) (fun q' => hb (by simp [q'])) (fun q' => hb (by simp [q'])) (fun q' => hb (by simp [q'])) q)
    have ru := r1 x v1 p1 hx
    have ru2 := r2 y v2 p2 hy
    have hT2 : IsTupOf2 h'' s.heap.objs.size v1 v2 := (sb.2 _ (Nat.ne_of_gt hel)).trans hT
    have hU2 : IsTupOf2 h'' (s.heap.objs.size + 1) (.int ((i : Nat) : Int) tk) (.ref s.heap.objs.size) := (sb.2 _ (Nat.ne_of_gt (Nat.lt_succ_of_lt hel))).trans hU
    have fT : H s.heap.objs.size = none := I.hok.fresh (Nat.le_refl _)
    have fU : H (s.heap.objs.size + 1) = none := I.hok.fresh (Nat.le_succ _)
    have nTU : s.heap.objs.size ≠ s.heap.objs.size + 1 := Nat.ne_of_lt (Nat.lt_succ_self _)
    -- the inner tuple first, in a heap of its own
    have hp1 : (s.heap.push { cls := .type "tuple", data := .seq #[v1, v2] }).get? s.heap.objs.size = some { cls := .type "tuple", data := .seq #[v1, v2] } := Heap.get?_push_size _ rfl
    have I1 : Inv X pins σ (upd H s.heap.objs.size (.tup [x, y])) { s with heap := s.heap.push { cls := .type "tuple", data := .seq #[v1, v2] }, toks := tk + 1 } :=
      I.laid (t' := tk + 1) (fun b o q => Heap.get?_push_of_some _ q) (Nat.le_refl _) ⟨by show 2 ≤ sizeLine; decide, [v1, v2], .cons ru (.cons ru2 .nil), ⟨_, hp1, rfl, _, rfl⟩⟩
    have hf1 : ∀ b ∈ [e, z, TI, TO, i1, i2], FpOk X pins (upd H s.heap.objs.size (.tup [x, y])) b := fun b hb => by
      obtain ⟨q0, q1, q2, q3, q4, q5⟩ := hf b hb
      exact ⟨by rw [upd_ne (Nat.ne_of_lt (lt b hb))]; exact q0, q1, q2, q3, q4, q5⟩
    have I2 : Inv X pins σ (upd (upd H s.heap.objs.size (.tup [x, y])) (s.heap.objs.size + 1) (.tup [.int (i : Nat), .ref s.heap.objs.size])) { s with heap := h'', toks := tk + 1 } := by
      refine I1.turnedNew (ch := [e, z, TI, TO, i1, i2]) (fun c o hb q => ?_) hf1 (by show (s.heap.push _).objs.size ≤ _; rw [Heap.size_push]; exact Nat.le_refl _) ⟨by show 2 ≤ sizeLine; decide, [.int ((i : Nat) : Int) tk, .ref s.heap.objs.size], .cons ⟨_, rfl⟩ (.cons rfl .nil), ⟨_, hU2, rfl, _, rfl⟩⟩
      by_cases hcT : c = s.heap.objs.size
      · subst hcT
        have q : (s.heap.push { cls := .type "tuple", data := .seq #[v1, v2] }).get? s.heap.objs.size = some o := q
        rw [hp1] at q
        cases q
        exact hT2
      · refine k2 c o hb ?_
        have q : (s.heap.push { cls := .type "tuple", data := .seq #[v1, v2] }).get? c = some o := q
        rw [Heap.get?_push_ne _ _ _ hcT] at q
        exact q
    refine ⟨.ref (s.heap.objs.size + 1), _, I2, rfl, ⟨_, _, x, y, rfl, fT, fU, nTU, rfl, fun l hl => by rw [Sd.inj hl hqx]; exact hx, fun l hl => by rw [Sd.inj hl hqy]; exact hy⟩, ⟨⟨.ref s.heap.objs.size, ?_⟩, ?_, ?_, ?_, ?_, ?_⟩, fun c hcm => ?_⟩
    · have e1 : ((i + 1 : Nat) : Int) = (i : Int) + 1 := by omega
      rw [e1]
      exact e''
    · obtain ⟨v', f', hz', hv'⟩ := z'
      exact ⟨v', f', (sb.2 _ (Ne.symm C.ez)).trans hz', hv'⟩
    · exact (sb.2 _ (Ne.symm C.eTI)).trans (hk _ _ (Ne.symm C.eTI) C.a1 C.a3 C.a4 C.a5 hTI)
    · obtain ⟨a1, a2, hO⟩ := TO'
      exact ⟨a1, a2, (sb.2 _ (Ne.symm C.eTO)).trans hO⟩
    · exact Sd.keep (b1 _ _ t1') fun o q => (sb.2 _ (Ne.symm C.ei1)).trans q
    · exact Sd.keep (b2 _ _ t2') fun o q => (sb.2 _ (Ne.symm C.ei2)).trans q
    · have := lt c hcm
      rw [upd_ne (Nat.ne_of_lt (Nat.lt_succ_of_lt this)), upd_ne (Nat.ne_of_lt this)]
      exact (hf c hcm).1
  done := by
    intro X hP hw hK hc i pins s σ H E I hf st hg
    subst hP hw hK
    obtain ⟨⟨old, he⟩, ⟨v, f, hz, hv⟩, hTI, hTO, s1, s2⟩ := st
    obtain ⟨xs, ys, hqx, hqy, hi1, hi2, hend⟩ := hg
    obtain ⟨f1, P1, St1, D1, t1, m1, u1, b1, r1⟩ := (dq_of hc I (hf i1 (by simp)).1 hqx s1).ex
    obtain ⟨f2, P2, St2, D2, t2, m2, u2, b2, r2⟩ := (dq_of hc I (hf i2 (by simp)).1 hqy s2).ex
    have SS := sep6 C (fun b hb => (hf b hb).1) m1 m2 u1 u2
    exact enumZ_end SS D1 D2 he hz hv hTI hTO t1 t2 hi1 hi2 hend fun h' tk hk => ⟨rfl, I.turnedL (t' := tk) (ch := [e, z, TI, TO, i1, i2]) (fun c o hb q =>
      hk c o (fun q' => hb (by simp [q'])) (fun q' => hb (by simp [q'])) (fun q' => hb (by simp [q'])) (fun q' => hb (by simp [q'])) q) hf⟩
  self := fun A i s Q E st h => let ⟨⟨_, he⟩, _⟩ := st; wpAny_pyIter_enum he h
/-- what such a turn gives -/
def YEZ (xs ys : List V) (i : Nat) (G : Hp) (v : V) (G' : Hp) : Prop := ∃ T U x y, v = .ref U ∧ G T = none ∧ G U = none ∧ T ≠ U ∧ G' = upd (upd G T (.tup [x, y])) U (.tup [.int (i : Nat), .ref T]) ∧ xs[i]? = some x ∧ ys[i]? = some y
theorem walk_EZ {d1 d2 : Sd} {xs ys : List V} {n : Nat} (hn : n = min xs.length ys.length) : Walk (ItEZ d1 d2) n (fun G => d1.at G xs ∧ d2.at G ys) (YEZ xs ys) := by
  subst hn
  refine ⟨fun i G hi q => ⟨xs, ys, xs[i], ys[i], q.1, q.2, List.getElem?_eq_getElem (by omega), List.getElem?_eq_getElem (by omega)⟩, fun G q => ⟨xs, ys, q.1, q.2, by omega, by omega, by omega⟩, ?_⟩
  rintro i G v G' hi q ⟨T, U, x, y, rfl, hT, hU, ne, rfl, hx, hy⟩
  exact ⟨T, U, x, y, rfl, hT, hU, ne, rfl, hx xs q.1, hy ys q.2⟩
theorem cells6_of (n : Nat) : Cells6 (n + 5) (n + 4) (n + 2) (n + 3) n (n + 1) where
  toCells := cells_of n
  ez := fun e : n + 5 = n + 4 => by omega
  eTI := fun e : n + 5 = n + 2 => by omega
  eTO := fun e : n + 5 = n + 3 => by omega
  ei1 := fun e : n + 5 = n => by omega
  ei2 := fun e : n + 5 = n + 1 => by omega
def iEnumZ (ta : TA) : TI := fun σ H R => ta σ H fun vs H1 => ∃ d1 d2 xs ys, vs = [Sd.v d1, Sd.v d2] ∧ d1.at H1 xs ∧ d2.at H1 ys ∧ R (ItEZ d1 d2) H1
theorem pi_enumZ {X : Cx} {e e2 : Expr} {ta : TA} {p pos p2 pos2 tpos : Pos} {elts : List Expr} {kk : Nat} (hg : Gl X "enumerate") (hm : X.mg "enumerate" = none) (hg2 : Gl X "zip") (hm2 : X.mg "zip" = none) (ha : PA X [e, e2] ta)
    (hs : starEach [e, e2] X.env = (false, eval e X.env) :: starEach [e2] X.env := by rfl) (hpl : (backTo pos2 (starEach [e2] X.env)).any (·.1) = false := by rfl)
    (hs0 : starEach [.Call (.Name "zip" p2) [e, e2] [] pos2] X.env = [(false, eval (.Call (.Name "zip" p2) [e, e2] [] pos2) X.env)] := by rfl) :
    PI X (.Tuple elts kk tpos) (.Call (.Name "enumerate" p) [.Call (.Name "zip" p2) [e, e2] [] pos2] [] pos) (iEnumZ ta) := by
  refine ⟨fun pins s σ H R I h => ?_⟩
  refine Call_ (ld_blt I hg hm boot_enumerate (PyProof.Rows.callWith_type1 ?_ (by rw [hs0]; rfl) rfl))
  rw [hs0]
  show wpAny _ _ (spliced [(false, eval (.Call (.Name "zip" p2) [e, e2] [] pos2) X.env)]) _ _ _
  refine Calls.spliced_cons ?_
  refine Call_ (ld_blt I hg2 hm2 PyProof.Rows.boot_zip (PyProof.Rows.callWith_type1 (thn (ha.run pos2 pins s σ H _ I h) fun us s1 ⟨vs, H1, I1, r1, q1⟩ => ?_) hs hpl))
  obtain ⟨d1, d2, xs, ys, ex, hqx, hqy, q⟩ := q1
  subst ex
  cases r1 with
  | cons r rr =>
    cases rr with
    | cons r' rr =>
      cases rr
      obtain ⟨o1, H1', B1, k1, c1⟩ := bg_of I1 r hqx
      obtain ⟨o2, H2', B2, k2, c2⟩ := bg_of I1 r' hqy
      refine zip_begins2 B1 B2 k1 k2 fun h' hz hTI hTO h1 h2 hsz hk => Calls.spliced_nil ?_
      refine call_enumZ (s := { s1 with heap := h' }) hz fun h3 he hsz3 hk3 => wpAny_pyIter_enum he ?_
      have I2 : Inv X pins σ H1 { s1 with heap := h3 } := I1.kept (t' := s1.toks) fun b o x => hk3 _ _ (hk _ _ x)
      have he : IsEnum h3 (s1.heap.objs.size + 5) (s1.heap.objs.size + 4) 0 .none := by rw [← hsz]; exact he
      have k3 : ∀ b o, h'.get? b = some o → h3.get? b = some o := hk3
      show PIE X pins σ _ R (.ref h'.objs.size) { s1 with heap := h3 }
      rw [hsz]
      refine ⟨s1.heap.objs.size + 5, [s1.heap.objs.size + 5, s1.heap.objs.size + 4, s1.heap.objs.size + 2, s1.heap.objs.size + 3, s1.heap.objs.size, s1.heap.objs.size + 1], _, _, H1, rfl, I2, turn_EZ d1 d2 (cells6_of _), ⟨⟨_, he⟩, ⟨_, _, k3 _ _ hz, .inl rfl⟩, k3 _ _ hTI, ⟨_, _, k3 _ _ hTO⟩, c1 _ _ (k3 _ _ h1), c2 _ _ (k3 _ _ h2)⟩, fun c hcm => ?_, q⟩
      have e' : c = s1.heap.objs.size + 5 ∨ c = s1.heap.objs.size + 4 ∨ c = s1.heap.objs.size + 2 ∨ c = s1.heap.objs.size + 3 ∨ c = s1.heap.objs.size ∨ c = s1.heap.objs.size + 1 := by simpa using hcm
      have hle : s1.heap.objs.size ≤ c := by
        rcases e' with z | z | z | z | z | z
        · rw [z]; exact Nat.le_add_right _ _
        · rw [z]; exact Nat.le_add_right _ _
        · rw [z]; exact Nat.le_add_right _ _
        · rw [z]; exact Nat.le_add_right _ _
        · rw [z]; exact Nat.le_refl _
        · rw [z]; exact Nat.le_add_right _ _
      exact I1.fpOk hle (I1.hok.fresh hle)
end Kit

end
section
set_option Elab.async false
set_option linter.all false
set_option maxRecDepth 100000
set_option maxHeartbeats 4000000
namespace Kit
open PySem PySem.Spec PyProof.Rows L2
/-! ### a class whose __init__ has keyword-only parameters with defaults: C(e, ..) and C(e, .., k = v, ..), all of them given -/
structure InitK (K : PySem.W.Frag) (C : Addr) (q : Str) (st : Stmt) (kws : List (Str × V)) : Prop where
  ex : ∃ (f : Addr) (fd : FuncData), FunD K "__init__" q (defArgs st) (defBody st) (defScope st) [] kws f fd ∧ Meth K C "__init__" f
section
variable (P : Program) (w : World) (K : PySem.W.Frag) (mg : Str → Option Value) (base : Heap)
structure CanNK (k : Nat) (C : Addr) (x : Str) (n : Nat) (kws : List (Str × V)) (sp : Sp) : Prop where
  ex : ∃ (f : Addr) (fd : FuncData) (ps : List Str) (ds : List Value) (g : List Value → List Value → List Value), FnOk P w K mg base (L2.CX P w) k f fd ps sp ∧ Mk K C f ∧ mg x = some (.ref C) ∧ Vals (kws.map (·.2)) ds ∧ Binds K fd ps ds ∧ KBn K fd ps (n + 1) (kws.map (·.1)) g (fun vs zs => vs ++ zs)
end
/-- how n plain parameters and the keyword-only ones bind -/
structure BindsKw (st : Stmt) (q : Str) (ps : List Str) (n : Nat) (kws : List (Str × V)) : Prop where
  off : ∀ (D : Addr) (doc pm : Value) (an : Option Addr) (cdv ct : Value) (us ks : List Value), us.length = n → ks.length = kws.length → KwChain D ((kws.map (·.1)).zip ks) (bindArgs (PySem.W.fnOf "__init__" q (defArgs st) (defBody st) (defScope st) .none (.ref D) doc pm an cdv ct) ⟨us, []⟩) (ps.zip (us ++ ks))
  on : ∀ (D : Addr) (doc pm : Value) (an : Option Addr) (cdv ct : Value) (us ws : List Value), us.length = n → ws.length = (kws.map (·.1)).length → bindArgs (PySem.W.fnOf "__init__" q (defArgs st) (defBody st) (defScope st) .none (.ref D) doc pm an cdv ct) ⟨us, (kws.map (·.1)).zip ws⟩ = pure (ps.zip (us ++ ws))
section
variable {P : Program} {w : World} {K : PySem.W.Frag} {mg : Str → Option Value} {base : Heap}
theorem canNK_of {x q : Str} {C : Addr} {st : Stmt} {N ps : List Str} {k n : Nat} {kws : List (Str × V)} {sp : Sp} (c : ClsT K mg C x) (D : InitK K C q st kws) (S : FnScope N ps (defScope st)) (hk : kws ≠ []) (hn : n + 1 + kws.length = ps.length) (hb : BindsKw st q ps (n + 1) kws) (len : ∀ vs H Q E, sp vs H Q E → vs.length = ps.length)
    (body : ∀ (f : Addr) (cdv : Value) (A : Around) (outer : List Env) (s : Shared) (H : Hp) (vs : List V) (Q : VK) (E : XK), Room k (A.deeper (envOfC q (defScope st) s.heap.objs.size f cdv)) → sp vs H Q E →
      ∃ t, PSs (cxOf (L2.CX P w) P w K mg base N q (defScope st) f cdv A outer s H E) (defBody st) t ∧ t { nx := fun _ H' => Q .non H', rt := Q } (start N vs) H) : CanNK P w K mg base (k + 1) C x n kws sp := by
  obtain ⟨f, fd, F, g⟩ := D.ex
  obtain ⟨ds, vd, bd⟩ := F.binds0 (ps := ps) (n + 1) hk hn hb.off
  obtain ⟨mv, kb⟩ := F.kbinds0 (ps := ps) (n + 1) (kws.map (·.1)) [] (fun us _ ws => us ++ ws) hk (fun q hq => by cases hq) (fun r1 _ r2 => r1.append r2) fun D doc pm an cdv ct us mv ws l1 _ l3 => hb.on D doc pm an cdv ct us ws l1 l3
  exact ⟨f, fd, ps, ds, _, F.ok S len fun cdv A outer s H vs Q E hr h => body f cdv A outer s H vs Q E hr h, ⟨c.mak, g.at_, g.fn, c.kp⟩, c.gC, vd, bd, kb⟩
end
section
variable {X : Cx} {k j n : Nat} {C : Addr} {x : Str} {kws : List (Str × V)} {sp : Sp} {W : WX} {p pos : Pos} {e : Expr} {es : List Expr} {kk : List Keyword} {t tk : TA}
theorem pc_nD (c : CanNK X.prog X.w X.K X.mg X.base k C x n kws sp) (hr : Room j X.A) (hk : k + 1 ≤ j) (hg : Gl X x) (ha : PA X (e :: es) t)
    (hdb : (x == ("__debug__" : Str)) = false := by decide) (he : starEach (e :: es) X.env = (false, eval e X.env) :: starEach es X.env := by rfl) (hpl : (backTo pos (starEach es X.env)).any (·.1) = false := by rfl) :
    PE X (.Call (.Name x p) (e :: es) [] pos) (tMake C sp (kws.map (·.2)) E0 t) := by
  obtain ⟨f, fd, ps, ds, g, F, M, hm, vd, b, _⟩ := c.ex
  exact pe_make M F (hr.mono hk) hg hm b vd passL ha hdb he hpl
theorem pc_nK (c : CanNK X.prog X.w X.K X.mg X.base k C x n kws sp) (hr : Room j X.A) (hk : k + 1 ≤ j) (hg : Gl X x) (ha : PA X (e :: es) t) (hkw : PK X kk tk)
    (hall : (backToKw pos (keywordEach kk X.env)).all (·.1.isSome) = true := by rfl) (hks : (backToKw pos (keywordEach kk X.env)).filterMap (·.1) = kws.map (·.1) := by rfl) (hdb : (x == ("__debug__" : Str)) = false := by decide)
    (he : starEach (e :: es) X.env = (false, eval e X.env) :: starEach es X.env := by rfl) (hpl : ((backTo pos (starEach (e :: es) X.env)).any (·.1) || (backToKw pos (keywordEach kk X.env)).any (·.1.isNone)) = false := by rfl) :
    PE X (.Call (.Name x p) (e :: es) kk pos) (tMakeK C n (kws.map (·.1)).length sp (fun vs zs => vs ++ zs) E0 t tk) := by
  obtain ⟨f, fd, ps, ds, g, F, M, hm, _, _, kb⟩ := c.ex
  exact pe_makeK M F (hr.mono hk) hg hm kb passL ha hkw hall hks hdb he hpl
/-- .. where it may raise -/
def tMakeKS (C : Addr) (n m : Nat) (sp : Sp) (W : WX) (t tk : TA) : TE := fun σ H Q => t σ H fun vs H1 => tk σ H1 fun zs H2 => vs.length = n ∧ zs.length = m ∧ ∀ y dx, H2 y = none → H2 dx = none → dx ≠ y →
  sp (.ref y :: vs ++ zs) (upd (upd H2 dx (.own y)) y (.ins C dx [])) (fun v H3 => v = .non ∧ Q (.ref y) H3) (WE W σ)
theorem pc_nKS (c : CanNK X.prog X.w X.K X.mg X.base k C x n kws sp) (tk' : Takes X W) (hr : Room j X.A) (hk : k + 1 ≤ j) (hg : Gl X x) (ha : PA X (e :: es) t) (hkw : PK X kk tk)
    (hall : (backToKw pos (keywordEach kk X.env)).all (·.1.isSome) = true := by rfl) (hks : (backToKw pos (keywordEach kk X.env)).filterMap (·.1) = kws.map (·.1) := by rfl) (hdb : (x == ("__debug__" : Str)) = false := by decide)
    (he : starEach (e :: es) X.env = (false, eval e X.env) :: starEach es X.env := by rfl) (hpl : ((backTo pos (starEach (e :: es) X.env)).any (·.1) || (backToKw pos (keywordEach kk X.env)).any (·.1.isNone)) = false := by rfl) :
    PE X (.Call (.Name x p) (e :: es) kk pos) (tMakeKS C n (kws.map (·.1)).length sp W t tk) := by
  obtain ⟨f, fd, ps, ds, g, F, M, hm, _, _, kb⟩ := c.ex
  have hr := hr.mono hk
  refine ⟨fun pins s σ H Q I h => ?_⟩
  refine wpAny_Call_Name_kw (ld_glob I hg hm ?_ hdb)
  refine PySem.W.callWith_KW (h₀ := X.base) I.ok.mod.kin M.kp hall (thn (ha.run pos pins s σ H _ I h) fun us s1 ⟨vs, H1, I1, r, q⟩ => ?_) hpl he
  refine thn (hkw.run pos pins s1 σ H1 _ I1 q) fun ws s2 ⟨zs, H2, I2, rz, l1, l2, q2⟩ => ⟨I2.kIn, ?_⟩
  rw [hks]
  have hq := q2 (s2.heap.objs.size + 1) s2.heap.objs.size (I2.hok.fresh (Nat.le_succ _)) (I2.hok.fresh (Nat.le_refl _)) (Nat.ne_of_lt (Nat.lt_succ_self _))
  have J := Inv.made (C := C) I2
  have r1 : Vals (V.ref (s2.heap.objs.size + 1) :: vs) (Value.ref (s2.heap.objs.size + 1) :: us) := .cons rfl r
  have n1 : (Value.ref (s2.heap.objs.size + 1) :: us).length = n + 1 := by rw [List.length_cons, ← r.length, l1]
  refine wpAny_call (make_map (f := f) I2.kIn M.makes M.init (beq_iff_eq.mp M.fn) (codeAny_mono (F.run _ X.stack _ _ ⟨Value.ref (s2.heap.objs.size + 1) :: us, (kws.map (·.1)).zip ws⟩ (g (Value.ref (s2.heap.objs.size + 1) :: us) ws) _ _ (WE W σ)
    (hr.make C us ((kws.map (·.1)).zip ws)) (J.env0.make C us ((kws.map (·.1)).zip ws)) (kb.to _ (Value.ref (s2.heap.objs.size + 1) :: us) ws J.kIn n1 (rz.length.symm.trans l2)) (kb.rel r1 rz) hq) fun a s' hq' => ?_))
  cases a with
  | error e => exact passAt tk' σ pins _ _ e s' J hq'
  | ok fl =>
    cases fl with
    | ret u =>
      obtain ⟨v, H', I3, rv, ev, q3⟩ := J.after hq'
      subst ev
      exact ⟨rv, ⟨V.ref (s2.heap.objs.size + 1), H', I3, rfl, q3⟩⟩
    | next => exact hq'.elim
    | brk => exact hq'.elim
    | cont => exact hq'.elim
end
section
variable {K : PySem.W.Frag}
theorem ks_nil {D : Addr} : ∀ q ∈ ([] : List (Str × V)), ∃ u, PySem.W.nsIn K D q.1 = some (some u) ∧ RelV q.2 u := fun q hq => by cases hq
theorem ks_cons {D : Addr} {x : Str} {v : V} {u : Value} {kws : List (Str × V)} (h : PySem.W.nsIn K D x = some (some u)) (r : RelV v u) (t : ∀ q ∈ kws, ∃ u, PySem.W.nsIn K D q.1 = some (some u) ∧ RelV q.2 u) : ∀ q ∈ (x, v) :: kws, ∃ u, PySem.W.nsIn K D q.1 = some (some u) ∧ RelV q.2 u := fun q hq => by
  rcases List.mem_cons.mp hq with rfl | hq
  · exact ⟨u, h, r⟩
  · exact t q hq
theorem initK_of {C D : Addr} {q : Str} {st : Stmt} {kws : List (Str × V)} {f : Addr} {od an : Option Addr} {sl : Array (Option Value)} {oc dc pm cd ct : Value} (a1 : PySem.W.findIn K (.ref C) "__init__" = some (some (.ref f))) (i1 : PySem.W.isFn K (.ref f) = true)
    (l1 : K.lookup f = some ⟨oc, od, .func (PySem.W.fnOf "__init__" q (defArgs st) (defBody st) (defScope st) .none (.ref D) dc pm an cd ct), sl⟩) (c1 : PySem.W.codeIn K cd q = true) (k1 : PySem.W.keepIn K (.ref f) = true)
    (ks : ∀ q ∈ kws, ∃ u, PySem.W.nsIn K D q.1 = some (some u) ∧ RelV q.2 u) : InitK K C q st kws := ⟨f, _, ⟨⟨_, _, _, _, _, _, _, _, _, _, rfl, l1, c1, .inl ⟨rfl, rfl⟩, .inr ⟨D, rfl, ks⟩⟩, k1⟩, ⟨a1, i1, k1⟩⟩
end
end Kit

end
section
set_option Elab.async false
set_option linter.all false
set_option maxRecDepth 100000
set_option maxHeartbeats 4000000
namespace Kit
open PySem PySem.Spec PyProof.Rows L2
/-! ### from what the head wrote down to the text's facts -/
section
variable {K : PySem.W.Frag} {h : Heap} {mg : Str → Option Value}
theorem defT_of {x : Str} {st : Stmt} {f : Addr} {od an : Option Addr} {sl : Array (Option Value)} {oc kV dc pm cd ct : Value} (X : K.In h) (G : h.Ns mainGlobals mg) (a1 : PySem.W.nsIn K mainGlobals x = some (some (.ref f)))
    (l1 : K.lookup f = some ⟨oc, od, .func (PySem.W.fnOf x x (defArgs st) (defBody st) (defScope st) .none kV dc pm an cd ct), sl⟩) (c1 : PySem.W.codeIn K cd x = true) (k1 : PySem.W.keepIn K (.ref f) = true) : DefT K mg x st :=
  ⟨f, _, fun_mk (st := st) l1 c1 k1, PySem.W.mg_of X G a1⟩
theorem metT_of {C : Addr} {m q : Str} {st : Stmt} {f : Addr} {od an : Option Addr} {sl : Array (Option Value)} {oc kV dc pm cd ct : Value} (a1 : PySem.W.findIn K (.ref C) m = some (some (.ref f))) (i1 : PySem.W.isFn K (.ref f) = true)
    (l1 : K.lookup f = some ⟨oc, od, .func (PySem.W.fnOf m q (defArgs st) (defBody st) (defScope st) .none kV dc pm an cd ct), sl⟩) (c1 : PySem.W.codeIn K cd q = true) (k1 : PySem.W.keepIn K (.ref f) = true) : MetT K C m q st :=
  ⟨f, _, fun_mk (st := st) l1 c1 k1, ⟨a1, i1, k1⟩⟩
theorem clsT_of {C : Addr} {x : Str} (X : K.In h) (G : h.Ns mainGlobals mg) (aC : PySem.W.nsIn K mainGlobals x = some (some (.ref C))) (pg : PySem.W.plainGet K C Str.empty = true) (hd : PySem.W.hasDictIn K C = true) (po : PySem.W.plainOver K C = true)
    (sa : PySem.W.findIn K (.ref C) "__setattr__" = some (some (.builtin "object.__setattr__"))) (mk : PySem.W.makesIn K C = true) (kc : PySem.W.keepIn K (.ref C) = true) : ClsT K mg C x := ⟨⟨pg, hd, po, sa⟩, PySem.W.mg_of X G aC, mk, kc⟩
theorem errT_of {C : Addr} {x q fld : Str} {st : Stmt} {f : Addr} {od an : Option Addr} {sl : Array (Option Value)} {oc kV dc pm cd ct : Value}
    {nm qn : Str} {N : Addr} {bs bm : List Value} {sn : List Str} {sub : List Value} {ab : Bool} {col : Option Bool} {dd : Option Addr} {m0 m1 m2 m3 m5 : Option Value}
    (X : K.In h) (G : h.Ns mainGlobals mg) (aC : PySem.W.nsIn K mainGlobals x = some (some (.ref C)))
    (xL : K.lookup C = some (excClassObj nm qn C N bs bm true sn sub ab col dd m0 m1 m2 m3 m5 "ValueError.__new__")) (rf : PySem.HandSPX.refsVE bm = true)
    (sa : PySem.W.findIn K (.ref C) "__setattr__" = some (some (.builtin "object.__setattr__"))) (eC : PySem.W.subIn K (.ref C) (.type "BaseException") = some true) (tC : PySem.W.typeIn K (.ref C) = some (.type "type")) (kC : PySem.W.keepIn K (.ref C) = true)
    (nb : PySem.W.findIn K (.ref C) fld = some none)
    (a1 : PySem.W.findIn K (.ref C) "__init__" = some (some (.ref f))) (t1 : PySem.W.typeIn K (.ref f) = some (.type "function"))
    (l1 : K.lookup f = some ⟨oc, od, .func (PySem.W.fnOf "__init__" q (defArgs st) (defBody st) (defScope st) .none kV dc pm an cd ct), sl⟩) (c1 : PySem.W.codeIn K cd q = true) (k1 : PySem.W.keepIn K (.ref f) = true) : ErrT K mg C x q fld st :=
  ⟨PySem.W.mg_of X G aC, ⟨⟨nm, qn, N, bs, bm, sn, sub, ab, col, dd, m0, m1, m2, m3, m5, xL, rf⟩, sa, eC, tC, kC⟩, nb, f, _, fun_mk (st := st) l1 c1 k1, a1, t1⟩
theorem errC_of {C : Addr} (ga : PySem.W.findIn K (.ref C) "__getattribute__" = some (some (.builtin "BaseException.__getattribute__"))) (gg : PySem.W.findIn K (.ref C) "__getattr__" = some none) (eC : PySem.W.subIn K (.ref C) (.type "BaseException") = some true) (hd : PySem.W.hasDictIn K C = true)
    (ha : PySem.W.findIn K (.ref C) "__class__" = some (some (.builtin "object.__class__"))) (hn : PySem.W.specialIn K (.builtin "object.__class__") "__get__" = some (some (.builtin "getset_descriptor.__get__")))
    (ht : PySem.W.takesIn K (.builtin "object.__class__") = some true) (hm : PySem.W.mroIn K C (.type "object") = some true) (hc : PySem.W.isClsIn K C = true) : ErrC K C := ⟨⟨ga, gg, eC, hd⟩, ha, hn, ht, hm, hc⟩
theorem gval_of {x : Str} {v : V} {u : Value} (X : K.In h) (G : h.Ns mainGlobals mg) (a1 : PySem.W.nsIn K mainGlobals x = some (some u)) (r : RelV v u) : ∃ u, mg x = some u ∧ RelV v u := ⟨u, PySem.W.mg_of X G a1, r⟩
theorem kitR_of {t : Value} {C : Addr} {b : Bool} (hc : PySem.W.isClsIn K C = true) (tC : PySem.W.typeIn K (.ref C) = some (.type "type")) (s : PySem.W.subIn K t (.ref C) = some b) (ne : (t == .ref C) = false) : PySem.W.kitOne K t (.ref C) = some b := by
  have hc : (PySem.W.clsIn K C).isSome = true := hc
  show (if (t == .ref C) = true then some true else if ((PySem.W.clsIn K C).isSome && PySem.W.typeIn K (.ref C) == some (.type "type")) = true then PySem.W.subIn K t (.ref C) else none) = some b
  rw [ne, if_neg (by decide), hc, tC, if_pos (by rfl)]
  exact s
theorem kitS_of {C : Addr} : PySem.W.kitOne K (.ref C) (.ref C) = some true := by
  show (if ((Value.ref C) == .ref C) = true then some true else _) = some true
  rw [if_pos (by simp)]
theorem kitT_of {C : Addr} {n : String} {b : Bool} (m : PySem.W.kitMeta n = true) (s : PySem.W.subIn K (.ref C) (.type n) = some b) : PySem.W.kitOne K (.ref C) (.type n) = some b := by
  show (if ((Value.ref C) == .type n) = true then some true else if PySem.W.kitMeta n = true then PySem.W.subIn K (.ref C) (.type n) else none) = some b
  rw [if_neg (fun q => by cases q), if_pos m]
  exact s
theorem exm_of {cls : Value} {S : Addr} {b : Bool} (h1 : PySem.W.subIn K (.ref S) (.type "BaseException") = some true) (h2 : PySem.W.isClsIn K S = true) (h3 : PySem.W.typeIn K (.ref S) = some (.type "type")) (h4 : PySem.W.subIn K cls (.ref S) = some b) : PySem.W.exmOne K cls (.ref S) = some b := by
  have e1 : (PySem.W.subIn K (.ref S) (.type "BaseException") == some true) = true := by rw [h1] <;> rfl
  have e2 : ((PySem.W.clsIn K S).isSome && PySem.W.typeIn K (.ref S) == some (.type "type")) = true := by
    have h2' : (PySem.W.clsIn K S).isSome = true := h2
    rw [h2', h3] <;> rfl
  show (if (PySem.W.subIn K (.ref S) (.type "BaseException") == some true) = true then (if ((PySem.W.clsIn K S).isSome && PySem.W.typeIn K (.ref S) == some (.type "type")) = true then PySem.W.subIn K cls (.ref S) else none) else none) = some b
  rw [if_pos e1, if_pos e2]
  exact h4
end
end Kit

end
section
set_option Elab.async false
set_option linter.all false
set_option maxRecDepth 100000
set_option maxHeartbeats 4000000
namespace Kit
open PySem PySem.Spec PyProof.Rows L2
/-! ### text[::k] -/
def every (l : List Nat) (k : Nat) : List Nat := (List.range ((l.length + k - 1) / k)).map fun i => l.getD (k * i) 0
theorem fm_map {α β : Type} {f : α → Option β} {g : α → β} : ∀ l : List α, (∀ x ∈ l, f x = some (g x)) → l.filterMap f = l.map g
  | [], _ => rfl
  | a :: l, h => by
    rw [List.filterMap_cons, h a (.head _), List.map_cons, fm_map l fun x hx => h x (.tail _ hx)]
theorem every_at (l : List Nat) {k : Nat} (hk : 2 ≤ k) : (Builtin.Str.strSliceIndices none none (k : Int) (S l).length).filterMap ((S l).cps[·]?) = every l k := by
  rw [S_len]
  have e : Builtin.Str.strSliceIndices none none (k : Int) l.length = (List.range ((l.length + k - 1) / k)).map fun i => k * i := by
    unfold Builtin.Str.strSliceIndices
    dsimp only
    rw [if_pos (by omega), if_pos (by omega)]
    unfold sliceRange
    dsimp only
    rw [if_pos (by omega)]
    have c : (if (0 : Int) < (l.length : Int) then ((l.length : Int) - 0 + k - 1) / k else 0).toNat = (l.length + k - 1) / k := by
      by_cases h : (0 : Int) < (l.length : Int)
      · rw [if_pos h, show ((l.length : Int) - 0 + k - 1) = ((l.length + k - 1 : Nat) : Int) by omega, ← Int.natCast_ediv]
        rfl
      · rw [if_neg h]
        have : l.length = 0 := by omega
        rw [this, Nat.div_eq_of_lt (by omega)]
        rfl
    rw [c]
    refine List.map_congr_left fun i _ => ?_
    rw [Int.zero_add, ← Int.natCast_mul]
    rfl
  rw [e, List.filterMap_map]
  unfold every
  refine fm_map _ fun i hi => ?_
  have hi := List.mem_range.mp hi
  have h2 : k * i < l.length := by
    have h3 : i + 1 ≤ (l.length + k - 1) / k := hi
    have h4 := (Nat.le_div_iff_mul_le (by omega : 0 < k)).mp h3
    rw [Nat.add_mul, Nat.mul_comm] at h4
    omega
  show (S l).cps[k * i]? = some (l.getD (k * i) 0)
  have h5 : (S l).cps[k * i]? = l[k * i]? := by
    show l.toArray[k * i]? = l[k * i]?
    rw [List.getElem?_toArray]
  rw [h5, List.getD_eq_getElem?_getD, List.getElem?_eq_getElem h2]
  rfl
theorem every_len (l : List Nat) (k : Nat) : (every l k).length = (l.length + k - 1) / k := by unfold every; rw [List.length_map, List.length_range]
def tStepS (te ts : TE) : TE := fun σ H Q => te σ H fun x H1 => ∃ l : List Nat, x = tx l ∧ l.length ≤ 100000 ∧ tPart ts σ H1 fun o H2 => ∃ k : Nat, o = some (k : Int) ∧ 2 ≤ k ∧ Q (tx (every l k)) H2
theorem pe_stepS {X : Cx} {e st : Expr} {te ts : TE} {p3 pos : Pos} (he : PE X e te) (hs : PE X st ts) : PE X (.Subscript e (.Slice none none (some st) p3) pos) (tStepS te ts) := by
  refine ⟨fun pins s σ H Q I h => ?_⟩
  refine Subscript_ (thn (he.run pins s σ H _ I h) fun v s1 ⟨x, H1, I1, r1, q1⟩ => ?_)
  obtain ⟨l, ex, hz, q⟩ := q1
  subst ex
  obtain ⟨t, rfl⟩ := r1
  have hst : PO X (some st) (tPart ts) := po_some hs
  refine wpAny_Slice (thn (po_none.run pins s1 σ H1 (fun o H2 => o = none ∧ H2 = H1) I1 ⟨rfl, rfl⟩) fun vl s2 ⟨lo, H2, I2, pl, el, e2⟩ => ?_)
  subst el e2
  refine thn (po_none.run pins s2 σ H2 (fun o H3 => o = none ∧ H3 = H2) I2 ⟨rfl, rfl⟩) fun vu s3 ⟨u, H3, I3, pu, eu, e3⟩ => ?_
  subst eu e3
  refine thn (hst.run pins s3 σ H3 (fun o H4 => ∃ k : Nat, o = some (k : Int) ∧ 2 ≤ k ∧ Q (tx (every l k)) H4) I3 q) fun vs s4 ⟨o, H4, I4, ps, k, eo, hk, q4⟩ => ?_
  · subst eo
    have I5 : Inv X pins σ H4 { s4 with heap := s4.heap.push { cls := .type "slice", data := .fields #[vl, vu, vs] } } := I4.kept (t' := s4.toks) fun b ob q => Heap.get?_push_of_some _ q
    cases pl
    cases pu
    cases ps with
    | int _ t2 =>
      show wpAny (model X.prog X.w) X.A (subscriptTail e (.Slice none none (some st) p3) (.str (S l) t) (.ref s4.heap.objs.size)) (EP X pins σ Q) X.xe { s4 with heap := s4.heap.push { cls := .type "slice", data := .fields #[.none, .none, .int (k : Int) t2] } }
      refine tail_any (ops := [.str (S l) t, .ref s4.heap.objs.size]) (typeIs_str _ _ _) F.slot_str_getitem.lookup ?_ (by with_unfolding_all rfl)
      refine wpAny_getItem_str_slice (l := none) (u := none) (st := some ((k : Int), t2)) ⟨_, Heap.get?_push_size _ rfl, rfl, rfl⟩ (show ((k : Int) == 0) = false from beq_false_of_ne (by omega)) ?_
      show Made.post (if ((k : Int) == 1 && _) = true then _ else Made.str ⟨((Builtin.Str.strSliceIndices none none (k : Int) (S l).length).filterMap ((S l).cps[·]?)).toArray⟩) (EP X pins σ Q) _
      rw [if_neg (by rw [show ((k : Int) == 1) = false from beq_false_of_ne (by omega)]; simp), every_at l hk]
      refine ⟨?_, .str _, H4, I5.tok _, ⟨_, rfl⟩, q4⟩
      show (S (every l k)).length ≤ _
      rw [S_len, every_len]
      refine szl (Nat.div_le_of_le_mul ?_)
      obtain ⟨j, rfl⟩ : ∃ j, k = j + 2 := ⟨k - 2, by omega⟩
      rw [Nat.add_mul]
      omega
end Kit

end
section
set_option Elab.async false
set_option linter.all false
set_option maxRecDepth 100000
set_option maxHeartbeats 4000000
namespace Kit
open PySem PySem.Spec PyProof.Rows L2
/-! ### a kept range, walked -/
def iRngV (te : TE) : TI := fun σ H R => te σ H fun x H1 => ∃ (a : Addr) (lo hi : Int), x = .ref a ∧ H1 a = some (.rng lo hi) ∧ (-(2 ^ 62) ≤ lo ∧ lo < 2 ^ 62 ∧ -(2 ^ 62) ≤ hi ∧ hi < 2 ^ 62) ∧ R (Itr lo (hi - lo).toNat) H1
theorem pi_rngV {X : Cx} {tg e : Expr} {te : TE} (he : PE X e te) : PI X tg e (iRngV te) := by
  refine ⟨fun pins s σ H R I h => ?_⟩
  refine thn (he.run pins s σ H _ I h) fun v s1 ⟨x, H1, I1, r1, q1⟩ => ?_
  obtain ⟨a, lo, hi, ex, ha, ⟨h1, h2, h3, h4⟩, q⟩ := q1
  subst ex
  cases r1
  obtain ⟨t, u, v, ho⟩ := I1.hok a _ ha
  refine wpAny_pyIter_range (show IsRange s1.heap a lo hi 1 t u v from ho) (small_one h1 h2 h3 h4) ?_
  refine ⟨s1.heap.objs.size, [s1.heap.objs.size], _, _, H1, rfl, I1.kept (t' := s1.toks) fun b o e => Heap.get?_push_of_some _ e, turn_range _ lo (hi - lo).toNat, ?_, fun b hb => ?_, q⟩
  · have e1 : lo + ((0 : Nat) : Int) * 1 = lo := by simp
    have e2 : (((hi - lo).toNat : Nat) : Int) - ((0 : Nat) : Int) = Builtin.Range.rangeSize lo hi 1 := by rw [rangeSize_one]; split <;> omega
    show IsRangeIter _ _ (lo + ((0 : Nat) : Int) * 1) ((((hi - lo).toNat : Nat) : Int) - ((0 : Nat) : Int)) 1
    rw [e1, e2]
    exact Heap.get?_push_size _ rfl
  · have e : b = s1.heap.objs.size := by simpa using hb
    subst e
    exact I1.fpOk (Nat.le_refl _) (I1.hok.fresh (Nat.le_refl _))
end Kit

end
section
set_option Elab.async false
set_option linter.all false
set_option maxRecDepth 100000
set_option maxHeartbeats 4000000
namespace Kit
open PySem PySem.Spec PyProof.Rows L2
/-! ### text * whole number -/
section
variable {X : Cx}
theorem op_repS : OpR X (binaryOp .Mult) (fun x y H Q => ∃ z n, x = .str z ∧ y = .int n ∧ MulOk z n ∧ Q (.str (Txt.mul z n)) H) := by
  intro pins s σ H x y v u Q I rx ry h
  obtain ⟨z, n, rfl, rfl, hz, q⟩ := h
  obtain ⟨t, rfl⟩ := rx
  obtain ⟨t', rfl⟩ := ry
  exact SB.mul hz fun t' k => ⟨.str (Txt.mul z n), H, I.tok _, ⟨_, rfl⟩, q⟩
end
theorem foldl_repN (its : List Nat) : ∀ (k : Nat) (acc : List Nat),
    List.foldl (fun x1 x2 => x1 ++ x2) acc.toArray (List.replicate k its.toArray) = (acc ++ (List.replicate k its).flatten).toArray
  | 0, acc => by simp
  | k + 1, acc => by
    have e : acc.toArray ++ its.toArray = (acc ++ its).toArray := by simp
    have e2 : (acc ++ its) ++ (List.replicate k its).flatten = acc ++ (List.replicate (k + 1) its).flatten := by
      rw [List.replicate_succ, List.flatten_cons, List.append_assoc]
    rw [List.replicate_succ, List.foldl_cons, e, foldl_repN its k (acc ++ its), e2]
theorem mul_S (l : List Nat) (k : Nat) : Txt.mul (S l) (k : Int) = S (List.replicate k l).flatten := by
  have f0 : List.foldl (fun x1 x2 => x1 ++ x2) #[] (List.replicate k l.toArray) = (List.replicate k l).flatten.toArray := by
    have := foldl_repN l k []
    rw [List.nil_append] at this
    exact this
  unfold Txt.mul
  by_cases h1 : (k : Int) < 1
  · have : k = 0 := by omega
    subst this
    rw [if_pos h1]
    rfl
  · rw [if_neg h1]
    by_cases h2 : ((k : Int) == 1 || (S l).length == 0) = true
    · rw [if_pos h2]
      rw [Bool.or_eq_true, beq_iff_eq, beq_iff_eq] at h2
      rcases h2 with h2 | h2
      · have : k = 1 := by omega
        subst this
        rw [List.replicate_one, List.flatten_cons, List.flatten_nil, List.append_nil]
      · rw [S_len] at h2
        have : l = [] := List.length_eq_zero_iff.mp h2
        subst this
        congr 1
        induction k with
        | zero => rfl
        | succ k ih => rw [List.replicate_succ, List.flatten_cons, List.nil_append]; exact (by simp : [] = (List.replicate k ([] : List Nat)).flatten)
    · rw [if_neg h2]
      show (⟨_⟩ : Str) = ⟨_⟩
      congr 1
end Kit

end
section
set_option Elab.async false
set_option linter.all false
set_option maxRecDepth 100000
set_option maxHeartbeats 4000000
namespace Kit
open PySem PySem.Spec PyProof.Rows L2
/-! ### math.lcm; ~ of an own class -/
section
variable {X : Cx}
def rLcm : List V → Hp → VK → Prop := fun vs H Q => ∃ a b : Nat, vs = [.int a, .int b] ∧ a ≤ 1000000 ∧ b ≤ 1000000 ∧ Q (.int ((Nat.lcm a b : Nat) : Int)) H
theorem cr_lcm : CallR X (.builtin "math.lcm") rLcm := by
  intro pins s σ H vs us Q I r h
  obtain ⟨a, b, rfl, ha, hb, q⟩ := h
  obtain ⟨t, u, rfl⟩ := Vals.int2 r
  have e : (((Nat.lcm 1 (a : Int).natAbs).lcm (b : Int).natAbs : Nat) : Int) = ((Nat.lcm a b : Nat) : Int) := by
    rw [Int.natAbs_natCast, Int.natAbs_natCast, Nat.lcm_one_left]
  have le : Nat.lcm a b ≤ 1000000 * 1000000 := Nat.le_trans (by rw [Nat.lcm]; exact Nat.div_le_self _ _) (Nat.mul_le_mul ha hb)
  refine PySem.W.mg_lcm_v (by rw [Int.natAbs_natCast]; omega) (by rw [Int.natAbs_natCast]; omega) e ?_ ⟨.int _, H, I.tok _, ⟨_, rfl⟩, q⟩
  rw [Int.natAbs_natCast]
  by_cases z : Nat.lcm a b = 0
  · rw [z]
    decide
  · have := (Nat.log2_lt z (k := 41)).mpr (by omega)
    exact Nat.lt_trans this (by decide)
variable {C : Addr} {k j : Nat} {sp : Sp}
def rInvO (C : Addr) (sp : Sp) : V → Hp → VK → Prop := fun x H Q => ∃ a dx fs, x = .ref a ∧ H a = some (.ins C dx fs) ∧ sp [x] H (fun v G => (∃ p, v = .ref p) ∧ Q v G) E0
theorem invO (c : CanM X.prog X.w X.K X.mg X.base k C "__invert__" sp) (hr : Room j X.A) (hk : k ≤ j) : UnR X (unaryOp .Invert) (rInvO C sp) := by
  obtain ⟨f, fd, ps, F, hcl, hm, b⟩ := c.ex
  intro pins s σ H x v Q I rx hq
  obtain ⟨a, dx, fs, rfl, ha, h⟩ := hq
  cases rx
  obtain ⟨mA, J, _⟩ := ins_get I.hok ha
  obtain ⟨od, J, _⟩ := J.look
  obtain ⟨mm, hF⟩ := I.fr
  refine PySem.W.ksp_inv hF I.ok.mod.kin J hm.at_ hm.fn ?_
  refine wpAny_mono (run_fn (us := [.ref a]) (vs := [.ref a]) (dvs := []) (ds := []) F (hr.mono hk) b .nil passL I (.cons rfl .nil) h) (fun r s' z => ?_) fun _ _ x => x
  obtain ⟨v, H', I', rv, ⟨p, rfl⟩, q⟩ := z
  cases rv
  exact ⟨.ref p, H', I', rfl, q⟩
end
end Kit

end
section
set_option Elab.async false
set_option linter.all false
set_option maxRecDepth 100000
set_option maxHeartbeats 4000000
namespace Kit
open PySem PySem.Spec PyProof.Rows L2
/-! ### what a promise never reaches -/
variable {X : Cx}
theorem ps_dead {s : Stmt} : PS X s (fun _ _ _ => False) := ⟨fun _ _ _ _ _ _ h => h.elim⟩
theorem pss_dead {s : List Stmt} : PSs X s (fun _ _ _ => False) := ⟨fun _ _ _ _ _ _ h => h.elim⟩
theorem pe_dead {e : Expr} : PE X e (fun _ _ _ => False) := ⟨fun _ _ _ _ _ _ h => h.elim⟩
theorem pt_dead {e : Expr} : PT X e (fun _ _ _ => False) := ⟨fun _ _ _ _ _ _ h => h.elim⟩
end Kit

end
section
set_option Elab.async false
set_option linter.all false
set_option maxRecDepth 100000
set_option maxHeartbeats 4000000
/-! A property of an own class, by its promise. -/
namespace Kit
open PySem PySem.Spec PyProof.Rows L2
structure PropT (K : PySem.W.Frag) (C : Addr) (m q : Str) (st : Stmt) : Prop where
  ex : ∃ (p f : Addr) (fd : FuncData), Fun K m q st f fd ∧ PropOf K C m p f
section
variable (P : Program) (w : World) (K : PySem.W.Frag) (mg : Str → Option Value) (base : Heap)
structure CanP (k : Nat) (C : Addr) (m : Str) (sp : Sp) : Prop where
  ex : ∃ (p f : Addr) (fd : FuncData) (ps : List Str), FnOk P w K mg base (L2.CX P w) k f fd ps sp ∧ Cls K C ∧ PropOf K C m p f ∧ Binds K fd ps []
end
section
variable {P : Program} {w : World} {K : PySem.W.Frag} {mg : Str → Option Value} {base : Heap}
theorem canP_of {m q : Str} {C : Addr} {st : Stmt} {N ps : List Str} {k : Nat} {sp : Sp} (c : Cls K C) (D : PropT K C m q st) (S : FnScope N ps (defScope st)) (hb : BindsPlain st m q ps) (len : ∀ vs H Q E, sp vs H Q E → vs.length = ps.length)
    (body : ∀ (f : Addr) (cdv : Value) (A : Around) (outer : List Env) (s : Shared) (H : Hp) (vs : List V) (Q : VK) (E : XK), Room k (A.deeper (envOfC q (defScope st) s.heap.objs.size f cdv)) → sp vs H Q E →
      ∃ t, PSs (cxOf (L2.CX P w) P w K mg base N q (defScope st) f cdv A outer s H E) (defBody st) t ∧ t { nx := fun _ H' => Q .non H', rt := Q } (start N vs) H) : CanP P w K mg base (k + 1) C m sp := by
  obtain ⟨p, f, fd, F, g⟩ := D.ex
  exact ⟨p, f, fd, ps, F.okX S len (body f), c, g, F.binds hb⟩
theorem propT_of {C : Addr} {m q : Str} {st : Stmt} {p f : Addr} {od an : Option Addr} {sl : Array (Option Value)} {oc kV dc pm cd ct : Value} {rs : List Value} (a1 : PySem.W.findIn K (.ref C) m = some (some (.ref p)))
    (g1 : PySem.W.specialIn K (.ref p) "__get__" = some (some (.builtin "property.__get__"))) (t1 : PySem.W.takesIn K (.ref p) = some true) (r1 : PySem.W.recIn K p "property" = some (.ref f :: rs))
    (l1 : K.lookup f = some ⟨oc, od, .func (PySem.W.fnOf m q (defArgs st) (defBody st) (defScope st) .none kV dc pm an cd ct), sl⟩) (c1 : PySem.W.codeIn K cd q = true) (k1 : PySem.W.keepIn K (.ref f) = true) : PropT K C m q st :=
  ⟨p, f, _, fun_mk (st := st) l1 c1 k1, ⟨a1, g1, t1, rs, r1⟩⟩
end
section
variable {X : Cx} {k j : Nat} {C : Addr} {m : Str} {sp : Sp} {o : Expr} {ta : TE} {pos : Pos}
theorem pc_p (c : CanP X.prog X.w X.K X.mg X.base k C m sp) (hr : Room j X.A) (hk : k + 1 ≤ j) (he : PE X o ta) (hab : attributeBase o m X.env (eval o X.env) = eval o X.env := by rfl) : PE X (.Attribute o m pos) (tProp C sp [] E0 ta) := by
  obtain ⟨p, f, fd, ps, F, hc, hp, b⟩ := c.ex
  exact pe_prop he hc hp F (hr.mono hk) b .nil passL hab
end
section
variable {X : Cx}
theorem kany (K : PySem.W.Frag) (hc : X.calm = true) (hK : X.K = K := by rfl) : CallR X (.builtin "any") (rAny K) := hK ▸ cr_any hc
theorem ktup_of (K : PySem.W.Frag) (hK : X.K = K := by rfl) : CallR X (.type "tuple") (fun xs H Q => ∃ p ys, xs = [.ref p] ∧ ((SqL K H p ys ∧ ∀ l, H l = none → Q (.ref l) (upd H l (.tup ys))) ∨ (SqT K H p ys ∧ Q (.ref p) H))) := hK ▸ call_tuple_of
end
end Kit

end
section
set_option Elab.async false
set_option linter.all false
set_option maxRecDepth 100000
/-! == of two dicts of one's own, both answers: keys ints and texts, or tuples of them; values flat. -/
namespace PySem.W
open PySem PySem.Calls PyProof.Rows PyProof.V PySem.Spec
section
variable {prog : Program} {w : World} {K : Type} [DecidableEq K] {knd : HeapKind prog w K} {A : Around} {E : Value → Shared → Prop} {s : Shared}
inductive HitsT {K : Type} [DecidableEq K] (A : Around) (s : Shared) (kb : List (K × Addr × Value)) : List (K × Addr × Value) → Bool → Prop
  | nil : HitsT A s kb [] true
  | miss {k : K} {c : Addr} {v : Value} {r : List (K × Addr × Value)} : atKey kb k = none → HitsT A s kb ((k, c, v) :: r) false
  | hit {k : K} {c d : Addr} {v y : Value} {r : List (K × Addr × Value)} {e b : Bool} : atKey kb k = some (d, y) → SeqAt.EqAt A s v y e → HitsT A s kb r b → HitsT A s kb ((k, c, v) :: r) (e && b)
theorem HitsT.inv {kb : List (K × Addr × Value)} {k : K} {c : Addr} {v : Value} {r : List (K × Addr × Value)} {b : Bool} (h : HitsT A s kb ((k, c, v) :: r) b) :
    (atKey kb k = none ∧ b = false) ∨ ∃ d y e b', atKey kb k = some (d, y) ∧ SeqAt.EqAt A s v y e ∧ HitsT A s kb r b' ∧ b = (e && b') := by
  cases h with
  | miss hn => exact .inl ⟨hn, rfl⟩
  | hit hy he hr => exact .inr ⟨_, _, _, _, hy, he, hr, rfl⟩
theorem samePairsT {nm : String} {a b : Addr} {ka kb : List (K × Addr × Value)} {r : Bool} {Q : Bool → Shared → Prop} (hu : knd.room A) (ha : (a == sysModules) = false) (hb : (b == sysModules) = false)
    (da : s.heap.DictOfH knd a ka) (db : s.heap.DictOfH knd b kb) (hits : ka.length = kb.length → HitsT A s kb ka r) (h : Q (ka.length == kb.length && r) s) :
    wpAny (model prog w) A (Builtin.Dict.samePairs nm a b) Q E s := by
  obtain ⟨oa, es, ep, hoa, _, hda, hea, hia, hna⟩ := da
  obtain ⟨ob, es', ep', hob, _, hdb, heb, hib, hnb⟩ := db
  have hla : ka.length = es.size := (size_of_entries hea).symm
  have hlb : kb.length = es'.size := (size_of_entries heb).symm
  rw [hla, hlb] at h
  unfold Builtin.Dict.samePairs Builtin.Dict.showsAll
  rw [if_neg (show ¬ (a == sysModules) = true by rw [ha]; exact Bool.false_ne_true), if_neg (show ¬ (b == sysModules) = true by rw [hb]; exact Bool.false_ne_true)]
  refine wpAny_bind (wpAny_pure (wpAny_bind (wpAny_pure ?_)))
  refine wpAny_bind (wpAny_dictEntries hoa hda ?_)
  dsimp only
  refine wpAny_bind (wpAny_dictEntries hob hdb ?_)
  by_cases hsz : es.size = es'.size
  case neg =>
    rw [if_pos (by simpa using hsz)]
    have hbf : (es.size == es'.size) = false := by simpa using hsz
    rw [hbf, Bool.false_and] at h
    exact wpAny_bind (wpAny_rule (wpAny_pure h))
  case pos =>
    have h' : Q r s := by simpa [hsz] using h
    have hits' := hits (by rw [hla, hlb]; exact hsz)
    rw [if_neg (by rw [hsz]; simp)]
    refine wpAny_bind (wpAny_dictEpoch hoa hda ?_)
    refine wpAny_bind ?_
    rw [Std.Legacy.Range.forIn_eq_forIn_range']
    simp only [Std.Legacy.Range.size, Nat.sub_zero, Nat.add_sub_cancel, Nat.div_one]
    refine wpAny_forIn_list _
      (fun rest q s' => s' = s ∧ q = (none, ()) ∧ ∃ i, rest = List.range' i (es.size - i) ∧ i ≤ es.size ∧ HitsT A s kb (ka.drop i) r)
      _ ?_ ?_ _ _ ⟨rfl, rfl, 0, by simp, Nat.zero_le _, hits'⟩
    · rintro x rest q s' ⟨rfl, rfl, i, hr, hi, hpre⟩
      have hlt : i < es.size := by
        rcases Nat.lt_or_ge i es.size with h | h
        · exact h
        · rw [Nat.sub_eq_zero_of_le h] at hr; simp at hr
      obtain ⟨rfl, hrest⟩ : x = i ∧ rest = List.range' (i + 1) (es.size - (i + 1)) := by
        have e : es.size - i = (es.size - (i + 1)) + 1 := by omega
        rw [e, List.range'_succ] at hr
        injection hr with h1 h2
        exact ⟨h1, h2⟩
      refine wpAny_bind (wpAny_dictEntries hoa hda ?_)
      have hlt' : x < ka.length := by rw [hla]; exact hlt
      obtain ⟨k, c, v, hkv⟩ : ∃ k c v, ka[x] = (k, c, v) := ⟨_, _, _, rfl⟩
      have hget : ka[x]? = some (k, c, v) := by rw [List.getElem?_eq_getElem hlt', hkv]
      have hdrop : ka.drop x = (k, c, v) :: ka.drop (x + 1) := by rw [← hkv]; exact List.drop_eq_getElem_cons hlt'
      have een : es[x]? = some (entryOfKey knd (k, c, v)) := by rw [entry_at hea x, hget]; rfl
      have hkey : knd.is s'.heap k c := hia (k, c, v) (List.mem_of_getElem? hget)
      rw [een]
      rw [hdrop] at hpre
      show wpAny _ _ (holding [Value.ref c, v] _ >>= _) _ _ _
      refine wpAny_bind (wpAny_holding (wpAny_bind (wpAny_dictFind_heap hu hkey hob hdb heb hib hnb (fun hnone => ?_) (fun j p hj => ?_))))
      · have hn : atKey kb k = none := atKey_none_of_get hnone
        rcases hpre.inv with ⟨_, er⟩ | ⟨d, y, _, _, hy, _⟩
        · rw [er] at h'
          refine wpAny_pure ?_
          show wpAny _ _ (if (!false) = true then _ else _) _ _ _
          rw [if_pos (by decide)]
          exact wpAny_pure (wpAny_pure h')
        · rw [hn] at hy; exact nomatch hy
      · obtain ⟨d, y⟩ := p
        have hv' : atKey kb k = some (d, y) := atKey_of_get hnb hj
        refine wpAny_bind (wpAny_dictEntries hob hdb ?_)
        rw [entry_at heb j, hj]
        rcases hpre.inv with ⟨hn, _⟩ | ⟨d2, y2, e, b', hy, he, hrr, er⟩
        · rw [hv'] at hn; exact nomatch hn
        · obtain ⟨e1, e2⟩ := Prod.mk.inj (Option.some.inj (hv'.symm.trans hy))
          rw [← e2] at he
          refine wpAny_holding (he _ _ _ _ ?_)
          cases e with
          | false =>
            rw [er, Bool.false_and] at h'
            show wpAny _ _ (if (!false) = true then _ else _) _ _ _
            rw [if_pos (by decide)]
            exact wpAny_pure (wpAny_pure h')
          | true =>
            rw [Bool.true_and] at er
            rw [← er] at hrr
            show wpAny _ _ (if (!true) = true then _ else _) _ _ _
            rw [if_neg (by decide)]
            refine wpAny_bind (wpAny_dictEpoch hoa hda ?_)
            rw [if_neg (by simp)]
            exact wpAny_pure ⟨rfl, rfl, x + 1, hrest, hlt, hrr⟩
    · rintro q s' ⟨rfl, rfl, i, hr, hi, hpre⟩
      have hin : i = es.size := by
        rcases Nat.lt_or_ge i es.size with h | h
        · have e : es.size - i = (es.size - (i + 1)) + 1 := by omega
          rw [e, List.range'_succ] at hr; exact nomatch hr
        · exact Nat.le_antisymm hi h
      refine wpAny_pure ?_
      rw [hin, ← hla, List.drop_length] at hpre
      cases hpre
      exact h'
theorem rcT_dicts {a b : Addr} {ka kb : List (K × Addr × Value)} {r : Bool} (hk : knd.room A.in1) (ha : (a == sysModules) = false) (hb : (b == sysModules) = false)
    (da : s.heap.DictOfH knd a ka) (db : s.heap.DictOfH knd b kb) (hu : A.units < cLine) (hits : ka.length = kb.length → HitsT A.in1 s kb ka r) (Q : Value → Shared → Prop) (h : Q (.bool (ka.length == kb.length && r)) s) : wpAny (model prog w) A (compareOp .Eq (.ref a) (.ref b)) Q E s := by
  refine wpAny_richCompare_same_room (op := .Eq) da.typeIs db.typeIs PySem.F.slot_dict_eq (wpAny_call_entry PySem.F.slot_dict_eq da.typeIs PySem.F.entry_dict_eq ?_ (PySem.F.args_dict_eq_2 _ _)) hu
  show wpAny _ _ (Builtin.Dict.dictSlotArgs "__eq__" ⟨[.ref a, .ref b], []⟩ >>= _) _ _ s
  refine wpAny_bind ?_
  unfold Builtin.Dict.dictSlotArgs
  refine wpAny_bind (wpAny_notOrdered_dict da.typeIs ?_)
  show wpAny _ _ (pure (Value.ref a, Value.ref b)) _ _ s
  refine wpAny_pure ?_
  refine wpAny_bind (wpAny_isInstance (T := "dict") db.typeIs PySem.F.sub_dict_dict ?_)
  simp only [Bool.not_true, Bool.false_eq_true, if_false]
  refine wpAny_bind (wpAny_pure (wpAny_bind (wpAny_pure ?_)))
  refine wpAny_bind (samePairsT hk ha hb da db hits ?_)
  refine wpAny_pure ⟨_, rfl, ?_, ?_⟩
  · exact fun x => nomatch x
  · simpa using h
end
end PySem.W
namespace Kit
open PySem PySem.Spec PyProof.Rows L2
/-- all of ks stand in ls with the same value -/
def subV {κ : Type} [DecidableEq κ] (ks ls : List (κ × V)) : Bool := ks.all fun p => match valV ls p.1 with
  | some y => eqV p.2 y
  | none => false
def flatVs {κ : Type} (ks : List (κ × V)) : Bool := ks.all fun p => flatV p.2
theorem valV_mem {κ : Type} [DecidableEq κ] {ks : List (κ × V)} {k : κ} {y : V} (h : valV ks k = some y) : (k, y) ∈ ks := by
  unfold valV at h
  obtain ⟨p, hp, e⟩ := Option.map_eq_some_iff.mp h
  have m := List.mem_of_find?_eq_some hp
  have q := List.find?_some hp
  have e1 : p.1 = k := of_decide_eq_true q
  rw [← e, ← e1]
  exact m
theorem hitsT_of {A : Around} {s : Shared} {H : Hp} {ls : List (List Key × V)} {vb : List (List Key × Addr × Value)} (rb : KT H ls vb) (fl : flatVs ls = true) {ks : List (List Key × V)} {va : List (List Key × Addr × Value)} (ra : KT H ks va) :
    flatVs ks = true → PySem.W.HitsT A s vb va (subV ks ls) := by
  unfold KT at ra
  induction ra with
  | nil => intro _; exact .nil
  | @cons p q ps qs h t ih =>
    intro hf
    obtain ⟨h1, _, h2⟩ := h
    obtain ⟨k, c, v⟩ := q
    obtain ⟨k', x⟩ := p
    have h1' : k' = k := h1
    subst h1'
    unfold flatVs at hf
    rw [List.all_cons, Bool.and_eq_true] at hf
    have rr := rb.val k'
    unfold subV
    rw [List.all_cons]
    cases hv : valV ls k' with
    | none =>
      rw [hv] at rr
      have ha : atKey vb k' = none := by
        cases e : atKey vb k' with
        | none => rfl
        | some z => rw [e] at rr; exact (show False from rr).elim
      rw [Bool.false_and]
      exact .miss ha
    | some y =>
      rw [hv] at rr
      obtain ⟨u, hu, ry⟩ := rr.some_of
      obtain ⟨⟨d, u'⟩, hz, e2⟩ := Option.map_eq_some_iff.mp hu
      have e3 : u' = u := e2
      subst e3
      have fy : flatV y = true := by
        have m := valV_mem hv
        exact List.all_eq_true.mp fl _ m
      exact .hit hz (eqAt_V h2 ry hf.1 fy) (ih hf.2)
theorem hitsK_of {A : Around} {s : Shared} {ls : List (Key × V)} {vb : List (Key × Value)} (rb : KV ls vb) (fl : flatVs ls = true) {ks : List (Key × V)} {va : List (Key × Value)} (ra : KV ks va) :
    flatVs ks = true → PySem.W.KeqHits A s vb va (subV ks ls) := by
  unfold KV at ra
  induction ra with
  | nil => intro _; exact .nil
  | @cons p q ps qs h t ih =>
    intro hf
    obtain ⟨h1, h2⟩ := h
    obtain ⟨k, v⟩ := q
    obtain ⟨k', x⟩ := p
    have h1' : k' = k := h1
    subst h1'
    unfold flatVs at hf
    rw [List.all_cons, Bool.and_eq_true] at hf
    have rr := rb.val k'
    unfold subV
    rw [List.all_cons]
    cases hv : valV ls k' with
    | none =>
      rw [hv] at rr
      have ha : valueAt vb k' = none := by
        cases e : valueAt vb k' with
        | none => rfl
        | some z => rw [e] at rr; exact (show False from rr).elim
      rw [Bool.false_and]
      exact .miss ha
    | some y =>
      rw [hv] at rr
      obtain ⟨u, hu, ry⟩ := rr.some_of
      have fy : flatV y = true := by
        have m := valV_mem hv
        exact List.all_eq_true.mp fl _ m
      exact .hit hu (eqAt_V h2 ry hf.1 fy) (ih hf.2)
section
variable {X : Cx}
/-- == of dicts whose keys are tuples of ints and texts; of dicts whose keys are ints and texts -/
def rEqDT : R2 := fun x y H Q => ∃ a b ks ls, x = .ref a ∧ y = .ref b ∧ H a = some (.dT ks) ∧ H b = some (.dT ls) ∧ flatVs ks = true ∧ flatVs ls = true ∧ Q (.bl (decide (ks.length = ls.length) && subV ks ls)) H
def rEqDK : R2 := fun x y H Q => ∃ a b ks ls, x = .ref a ∧ y = .ref b ∧ H a = some (.dK ks) ∧ H b = some (.dK ls) ∧ flatVs ks = true ∧ flatVs ls = true ∧ Q (.bl (decide (ks.length = ls.length) && subV ks ls)) H
theorem op_eq_dT (hu : X.A.units + 1 < cLine) : OpR X (compareOp .Eq) rEqDT := by
  intro pins s σ H x y v u Q I rx ry h
  obtain ⟨a, b, ks, ls, rfl, rfl, ea, eb, fk, fl, q⟩ := h
  obtain rfl : v = Value.ref a := rx
  obtain rfl : u = Value.ref b := ry
  obtain ⟨_, ya, va, ra, da⟩ := dt_of I.hok ea
  obtain ⟨_, yb, vb, rb, db⟩ := dt_of I.hok eb
  have la : ks.length = va.length := ra.length
  have lb : ls.length = vb.length := rb.length
  refine PySem.W.rcT_dicts (tupleKind_room_in1 hu) ya yb da db (by omega) (r := subV ks ls) (fun _ => hitsT_of rb fl ra fk) _ (fin_bl I q ?_)
  rw [← la, ← lb]
  by_cases e : ks.length = ls.length <;> simp [e]
theorem op_eq_dK (hu : X.A.units < cLine) : OpR X (compareOp .Eq) rEqDK := by
  intro pins s σ H x y v u Q I rx ry h
  obtain ⟨a, b, ks, ls, rfl, rfl, ea, eb, fk, fl, q⟩ := h
  obtain rfl : v = Value.ref a := rx
  obtain rfl : u = Value.ref b := ry
  obtain ⟨_, ya, va, ra, da⟩ := dk_of I.hok ea
  obtain ⟨_, yb, vb, rb, db⟩ := dk_of I.hok eb
  have la : ks.length = va.length := ra.length
  have lb : ls.length = vb.length := rb.length
  refine PySem.W.keq_eq (knd := mixKind X.prog X.w) (r := subV ks ls) ya yb da db hu (fun _ => hitsK_of rb fl ra fk) (fin_bl I q ?_)
  rw [← la, ← lb]
  by_cases e : ks.length = ls.length <;> simp [e]
end
end Kit

end
section
set_option Elab.async false
set_option linter.all false
set_option maxRecDepth 100000
set_option maxHeartbeats 4000000
/-! sorted(set(text)): a set of signs that can be walked. -/
namespace Kit
open PySem PySem.Spec PyProof.Rows L2
/-- an entry: a sign and its hash -/
def GoodC (P : Program) (w : World) (e : Int × Value) : Prop := ∃ c tk, e.2 = Value.str (one1 c) tk ∧ e.1 = (PySem.strKind P w).hash (one1 c)
def codeOf (e : Int × Value) : Nat := match e.2 with
  | .str x _ => x.cps.getD 0 0
  | _ => 0
/-- the set at a holds the signs l -/
def SetC (P : Program) (w : World) (h : Heap) (a : Addr) (l : List Nat) : Prop :=
  ∃ o es ep t, h.get? a = some o ∧ o.ExactSet ∧ o.data = .set es ep t ∧ (∀ e ∈ es.toList, GoodC P w e) ∧ (es.toList.map codeOf).Nodup ∧ (∀ c, c ∈ l ↔ c ∈ es.toList.map codeOf) ∧
    es.size < 2000 ∧ t.fits es.size = true ∧ es.size ≤ l.length ∧ Ris t.place.toList ∧ (w.params.followText "set-order" = true ∨ t.led = true)
section
variable {P : Program} {w : World} {A : Around} {E : Value → Shared → Prop} {s : Shared} {a : Addr} {l : List Nat}
theorem SetC.at {h h' : Heap} (R : SetC P w h a l) (k : ∀ o, h.get? a = some o → h'.get? a = some o) : SetC P w h' a l := by
  obtain ⟨o, es, ep, t, ho, r⟩ := R
  exact ⟨o, es, ep, t, k o ho, r⟩
theorem goodC_el {es : List (Int × Value)} (g : ∀ e ∈ es, GoodC P w e) : ElemsOf (PySem.strKind P w) es := fun e he => by
  obtain ⟨c, tk, h1, h2⟩ := g e he
  rw [h1]
  exact ⟨⟨one1 c, strKind_is _ _ _ _, h2⟩, rfl⟩
theorem goodC_mem {es : List (Int × Value)} (g : ∀ e ∈ es, GoodC P w e) (c : Nat) : c ∈ es.map codeOf ↔ ∃ e ∈ es, (PySem.strKind P w).is (one1 c) e.2 = true := by
  constructor
  · intro h
    obtain ⟨e, he, q⟩ := List.mem_map.mp h
    obtain ⟨d, tk, h1, _⟩ := g e he
    have q2 : codeOf e = d := by unfold codeOf; rw [h1]; rfl
    refine ⟨e, he, ?_⟩
    rw [h1, ← q, q2]
    exact strKind_is _ _ _ _
  · rintro ⟨e, he, q⟩
    obtain ⟨d, tk, h1, _⟩ := g e he
    rw [h1] at q
    have q2 : one1 c = one1 d := (PySem.strKind P w).inj (.str (one1 d) tk) _ _ q (strKind_is _ _ _ _)
    refine List.mem_map.mpr ⟨e, he, ?_⟩
    unfold codeOf
    rw [h1, one1_inj q2]
    rfl
theorem SetC.fresh {h : Heap} (ho : h.get? a = some { cls := .type "set", dict := none, data := .set #[] 0 (.fresh 0 0 (!w.params.followText "set-order")) }) : SetC P w h a [] :=
  ⟨_, #[], 0, _, ho, ⟨rfl, rfl, rfl⟩, rfl, (fun e he => by simp at he), (by simp), (fun k => by simp), (by decide), (by rfl), Nat.le_refl _, List.Pairwise.nil, by
    show _ ∨ (!w.params.followText "set-order") = true
    cases w.params.followText "set-order"
    · exact .inr rfl
    · exact .inl rfl⟩
theorem setC_tail {g : Bool → Sem Unit} (hg : ∀ (b : Bool) (s₁ : Shared) (Q' : Unit → Shared → Prop), Q' () s₁ → wpAny (model P w) A (g b) Q' E s₁)
    {o : Obj} {es : Array (Int × Value)} {ep : Nat} {t : SetTable} (ho : s.heap.get? a = some o) (hex : o.ExactSet) (hd : o.data = .set es ep t)
    {es1 : Array (Int × Value)} {t2 : SetTable} {l' : List Nat} (g1 : ∀ e ∈ es1.toList, GoodC P w e) (nd1 : (es1.toList.map codeOf).Nodup) (m1 : ∀ c, c ∈ l' ↔ c ∈ es1.toList.map codeOf)
    (hb1 : es1.size < 2000) (hf2 : t2.fits es1.size = true) (hn1 : es1.size ≤ l'.length) (hr : Ris t2.place.toList) (hl : w.params.followText "set-order" = true ∨ t2.led = true) {wasDummy : Bool} {R : Option Bool → Shared → Prop}
    (hR : ∀ h', Heap.SameBut a s.heap h' → SetC P w h' a l' → R (some true) { s with heap := h' }) :
    wpAny (model P w) A (do
        storeSet a es1 t2
        if (!wasDummy && t2.tooFull) = true then do
            g (relayAll t2 es1 (SetTable.grown es1.size)).2.2
            storeSet a (relayAll t2 es1 (SetTable.grown es1.size)).1 (relayAll t2 es1 (SetTable.grown es1.size)).2.1
            pure (some true)
          else pure (some true)) R E s := by
  have sb : es1.size < scanBound := by unfold scanBound; omega
  refine wpAny_bind (wpAny_storeSet_of ho hd ?_ (fits_of_scanBound sb))
  have ho1 := store_at (es' := es1) (t' := t2) ho hd
  have sb1 := Heap.SameBut.update s.heap a (Obj.putSet es1 t2)
  split
  · have pm := relayAll_perm t2 es1 (SetTable.grown es1.size)
    have hf3 := relayAll_fits t2 es1 (SetTable.grown es1.size)
    have hr3 := relayAll_ris t2 es1 (SetTable.grown es1.size)
    have hl3 := relayAll_led t2 es1 (SetTable.grown es1.size)
    generalize relayAll t2 es1 (SetTable.grown es1.size) = Z at pm hf3 hr3 hl3 ⊢
    obtain ⟨es2, t3, gave⟩ := Z
    dsimp only at pm hf3 hr3 hl3 ⊢
    have hsz : es2.size = es1.size := by rw [← Array.length_toList, pm.length_eq, Array.length_toList]
    refine wpAny_bind (hg _ _ _ ?_)
    refine wpAny_bind (wpAny_storeSet_of ho1 rfl ?_ (fits_of_scanBound (by rw [hsz]; exact sb)))
    have ho2 := store_at (es' := es2) (t' := t3) ho1 rfl
    refine wpAny_pure (hR _ (sb1.trans (Heap.SameBut.update _ a _)) ?_)
    exact ⟨_, es2, _, t3, ho2, hex, rfl, fun e he => g1 e (pm.mem_iff.mp he), (pm.map codeOf).nodup_iff.mpr nd1, fun k => (m1 k).trans (pm.map codeOf).mem_iff.symm, by omega, hf3, by omega, hr3,
      hl.imp id fun z => by rw [hl3]; exact z⟩
  · exact wpAny_pure (hR _ sb1 ⟨_, es1, _, t2, ho1, hex, rfl, g1, nd1, m1, hb1, hf2, hn1, hr, hl⟩)
theorem setC_add {c : Nat} {tk : Tok} {Q : Bool → Shared → Prop} (R : SetC P w s.heap a l) (room : l.length < 1500)
    (hQ : ∀ (b : Bool) h', Heap.SameBut a s.heap h' → SetC P w h' a (l ++ [c]) → Q b { s with heap := h' }) :
    wpAny (model P w) A (setAddHashed a (.str (one1 c) tk) ((PySem.strKind P w).hash (one1 c))) Q E s := by
  obtain ⟨o, es, ep, t, ho, hex, hd, g, nd, hm, hb, hf, hn, hr, hl⟩ := R
  have hkey : (PySem.strKind P w).is (one1 c) (.str (one1 c) tk) = true := strKind_is _ _ _ _
  have hsc : (Value.str (one1 c) tk).scannable = true := rfl
  have hel : ElemsOf (PySem.strKind P w) es.toList := goodC_el g
  have hsb : es.size < scanBound := by unfold scanBound; omega
  unfold setAddHashed setAddHashedIn
  refine wpAny_holding (wpAny_bind (wpAny_setState_of ho hd hf ?_))
  dsimp only
  rw [byScan_of hsc hsb hel]
  simp only [↓reduceIte]
  unfold setAddByScan
  refine wpAny_bind ?_
  refine wpAny_bind (wpAny_rule ?_)
  refine wpAny_bind (wpAny_setScan_of hkey ho hd hf hel ?_)
  cases hfi : List.findIdx? (fun e => (PySem.strKind P w).is (one1 c) e.2) es.toList with
  | some j =>
    dsimp only
    obtain ⟨hj, pj, _⟩ := List.findIdx?_eq_some_iff_getElem.mp hfi
    have hc : c ∈ l := (hm c).2 ((goodC_mem g c).2 ⟨es.toList[j], List.getElem_mem hj, pj⟩)
    refine wpAny_pure (wpAny_pure ?_)
    exact hQ false s.heap (Heap.SameBut.refl a s.heap) ⟨o, es, ep, t, ho, hex, hd, g, nd, fun i => by
      rw [List.mem_append, List.mem_singleton, ← hm i]
      exact ⟨fun z => z.elim id (fun e => e ▸ hc), .inl⟩, hb, hf, by rw [List.length_append]; omega, hr, hl⟩
  | none =>
    dsimp only
    have hnk : c ∉ es.toList.map codeOf := fun z => by
      obtain ⟨e, he, q⟩ := (goodC_mem (P := P) (w := w) g c).1 z
      have cc := List.findIdx?_eq_none_iff.mp hfi e he
      rw [q] at cc
      cases cc
    have hgw : ∀ (b : Bool) {s₁ : Shared} {Q' : Unit → Shared → Prop}, Q' () s₁ → wpAny (model P w) A (match b with | true => rule "set.scan.the-table-gave-way" | false => pure ()) Q' E s₁ :=
      fun b s₁ Q' q => by cases b <;> first | exact wpAny_pure q | exact wpAny_rule q
    have pm := layNew_perm t es ((PySem.strKind P w).hash (one1 c)) (.str (one1 c) tk)
    have hf1 := layNew_fits t es ((PySem.strKind P w).hash (one1 c)) (.str (one1 c) tk)
    have hr1 := layNew_ris t es ((PySem.strKind P w).hash (one1 c)) (.str (one1 c) tk) hr
    have hl1 := layNew_led t es ((PySem.strKind P w).hash (one1 c)) (.str (one1 c) tk)
    generalize layNew t es ((PySem.strKind P w).hash (one1 c)) (.str (one1 c) tk) = Z at pm hf1 hr1 hl1 ⊢
    obtain ⟨es1, t1, wasDummy, gave⟩ := Z
    dsimp only at pm hf1 hr1 hl1 ⊢
    rw [Array.toList_push] at pm
    have pc : es1.toList.Perm (((PySem.strKind P w).hash (one1 c), Value.str (one1 c) tk) :: es.toList) := pm.trans (List.perm_append_singleton _ _)
    have pk : (es1.toList.map codeOf).Perm (c :: es.toList.map codeOf) := pc.map codeOf
    have g1 : ∀ e ∈ es1.toList, GoodC P w e := fun e he => by
      rcases List.mem_cons.mp (pc.mem_iff.mp he) with z | z
      · rw [z]; exact ⟨c, tk, rfl, rfl⟩
      · exact g e z
    have nd1 : (es1.toList.map codeOf).Nodup := pk.nodup_iff.mpr (List.nodup_cons.mpr ⟨hnk, nd⟩)
    have m1 : ∀ i, i ∈ l ++ [c] ↔ i ∈ es1.toList.map codeOf := fun i => by
      rw [List.mem_append, List.mem_singleton, hm i, pk.mem_iff, List.mem_cons]
      exact Or.comm
    have hsz : es1.size = es.size + 1 := by rw [← Array.length_toList, pc.length_eq, List.length_cons, Array.length_toList]
    have hb1 : es1.size < 2000 := by omega
    have hn1 : es1.size ≤ (l ++ [c]).length := by rw [List.length_append, hsz]; show es.size + 1 ≤ l.length + 1; omega
    have hled : w.params.followText "set-order" = true ∨ t1.led = true := hl.imp id fun z => by rw [hl1]; exact z
    have fin : ∀ h', Heap.SameBut a s.heap h' → SetC P w h' a (l ++ [c]) → Q true { s with heap := h' } := fun h' sb r => hQ true h' sb r
    refine wpAny_bind (hgw _ ?_)
    split
    · refine wpAny_bind ?_
      rw [hashByValue_scannable 8 hsc]
      refine wpAny_pure ?_
      refine setC_tail ?_ ho hex hd g1 nd1 m1 hb1 ?_ hn1 ?_ ?_ ?_
      · intro b s₁ Q' q; cases b <;> first | exact wpAny_pure q | exact wpAny_rule q
      · first | (split <;> first | exact hf1 | exact SetTable.fits_plain_off hf1) | exact hf1
      · first | (split <;> exact hr1) | exact hr1
      · first | (split <;> exact hled) | exact hled
      · intro h' sb r; dsimp only; exact wpAny_pure (fin h' sb r)
    · refine wpAny_bind (wpAny_pure ?_)
      simp only [↓reduceIte]
      refine setC_tail ?_ ho hex hd g1 nd1 m1 hb1 hf1 hn1 hr1 hled ?_
      · intro b s₁ Q' q; cases b <;> first | exact wpAny_pure q | exact wpAny_rule q
      · intro h' sb r; dsimp only; exact wpAny_pure (fin h' sb r)
end
section
variable {prog : Program} {w : World} {A : Around} {R : Result → Shared → Prop} {I : Addr} {fp wr : List Addr} {G : Array GenState → Array GenState → Prop} {n : Nat} {x : Str} {St : Nat → Shared → Prop}
theorem loopC (W : WalksS prog w A.in1 I fp wr G n (SignAt x) St) (P : Addr) (hPf : P ∉ fp) (hsz : x.cps.size = n) (hn1 : n ≤ 1000) :
    ∀ (k i : Nat) (s : Shared), n - i = k → i ≤ n → St i s → SetC prog w s.heap P (x.cps.toList.take i) →
      (∀ s' : Shared, Moved (P :: wr) G s s' → SetC prog w s'.heap P x.cps.toList → R (.ok (.ret .none)) s') →
      codeAny (model prog w) A (.builtin "set.update.loop" ⟨[.ref P, .ref I], []⟩) R s := by
  have hPw : P ∉ wr := fun h => hPf (W.sub _ h)
  have hsub : ∀ b ∈ wr, b ∈ P :: wr := fun b hb => List.mem_cons_of_mem _ hb
  intro k
  induction k with
  | zero =>
    intro i s hk hi hst hS hR
    have hin : i = n := by omega
    subst hin
    refine codeAny_builtin PyProof.Rows.F.entry_set_update_loop ?_
    rw [Around.under_plainId PyProof.Rows.F.plain_set_update_loop _]
    show wpAny _ A.in1 (pyNext (.ref I) >>= _) _ _ s
    refine wpAny_bind (W.done s _ _ hst fun s' hm => ?_)
    show wpAny _ A.in1 (ret Value.none) _ _ s'
    rw [List.take_of_length_le (by rw [Array.length_toList]; omega)] at hS
    exact wpAny_pure (hR s' (hm.mono hsub) (hS.at fun o ho => hm.heap P _ hPw ho))
  | succ k ih =>
    intro i s hk hi hst hS hR
    have hlt : i < n := by omega
    refine codeAny_builtin PyProof.Rows.F.entry_set_update_loop ?_
    rw [Around.under_plainId PyProof.Rows.F.plain_set_update_loop _]
    show wpAny _ A.in1 (pyNext (.ref I) >>= _) _ _ s
    refine wpAny_bind (W.item i s _ _ hlt hst fun v s' hP hst' hm => ?_)
    obtain ⟨c, t, hc, rfl⟩ := hP
    have hS' : SetC prog w s'.heap P (x.cps.toList.take i) := hS.at fun o ho => hm.heap P _ hPw ho
    have htk : x.cps.toList.take (i + 1) = x.cps.toList.take i ++ [c] := by
      rw [List.take_add_one, Array.getElem?_toList, hc]
      rfl
    show wpAny _ A.in1 (holding [Value.str (one1 c) t] (setAdd P (.str (one1 c) t)) >>= _) _ _ s'
    refine wpAny_bind (wpAny_holding ?_)
    unfold setAdd
    refine wpAny_holding ?_
    refine wpAny_bind ((PySem.strKind prog w).pyHash (k := one1 c) (strKind_is _ _ _ _) ?_)
    refine setC_add (s := { s' with toks := s'.toks + 1 }) hS' (by rw [List.length_take, Array.length_toList]; omega) fun b h' hsb hS2 => ?_
    rw [← htk] at hS2
    refine wpAny_pure ⟨plainId_quiet PyProof.Rows.F.plain_set_update_loop _, ih (i + 1) _ (by omega) hlt (W.frame _ s' _ _ hst' (Nat.le_succ _) fun b hb o e => ?_) hS2 fun s'' hm'' a4 => ?_⟩
    · rw [hsb.2 b (fun h : b = P => hPf (by rw [← h]; exact hb))]; exact e
    · refine hR s'' (Moved.trans W.gtrans ((hm.mono hsub).then_heap (Nat.le_succ _) fun b o hb e => ?_) hm'') a4
      rw [hsb.2 b (fun h : b = P => hb (by rw [h]; exact List.mem_cons_self))]; exact e
end
section
variable {prog : Program} {w : World} {A : Around} {E : Value → Shared → Prop} {s : Shared}
set_option maxHeartbeats 3200000 in
theorem call_setC {x : Str} {u : Tok} {Q : Value → Shared → Prop} (hh : A.handled = none) (hn1 : x.cps.size ≤ 1000)
    (h : ∀ (h' : Heap) (tk : Nat), SetC prog w h' s.heap.objs.size x.cps.toList → (∀ b o, b < s.heap.objs.size → s.heap.get? b = some o → h'.get? b = some o) → Q (.ref s.heap.objs.size) { s with heap := h', toks := tk }) :
    wpAny (model prog w) A (call (.type "set") [.str x u]) Q E s := by
  obtain ⟨c, tl, hmro⟩ := PySem.F.called_set.mro
  have hmade := PySem.F.called_set.made
  have hsub := PySem.F.called_set.sub
  refine wpAny_call (codeAny_of_tree ?_)
  show wpAny _ _ (callAny (.type "set") _) _ _ _
  refine wpAny_pure ⟨Code.quiet_builtin _ (by decide +kernel), codeAny_builtin PySem.F.entry_type_call ?_⟩
  rw [Around.under_plain (weight_type_call_type "set" [.str x u] []) rfl]
  have h1 := PySem.F.called_set.notType
  have h2 := PySem.F.called_set.canCreate
  have hct := PySem.F.typeCall_set_1 (.str x u)
  repeat (any_goals (first | assumption | wp_step))

  refine codeAny_mono (code_set_led1 (.str x u) (E := E) (Q₁ := fun obj s₁ => obj = .ref s.heap.objs.size ∧ s₁ = { s with heap := s.heap.push { cls := .type "set", dict := none, data := .set #[] 0 (.fresh 0 0 (!w.params.followText "set-order")) } }) ⟨rfl, rfl⟩) fun r s₁ hr => ?_
  cases r with
  | error e => exact hr
  | ok fl =>
    cases fl with
    | ret obj =>
      obtain ⟨rfl, rfl⟩ := hr
      generalize hLd : (!w.params.followText "set-order") = led at *
      have hS : (s.heap.push { cls := .type "set", dict := none, data := .set #[] 0 (.fresh 0 0 led) }).get? s.heap.objs.size = some { cls := .type "set", dict := none, data := .set #[] 0 (.fresh 0 0 led) } := Heap.get?_push_size _ rfl
      have hT : Shared.TypeIs { s with heap := s.heap.push { cls := .type "set", dict := none, data := .set #[] 0 (.fresh 0 0 led) } } (.ref s.heap.objs.size) "set" := ⟨_, hS, rfl⟩
      have hli := PySem.F.called_set.init.lookup
      have hbi := PySem.F.called_set.init.bind (.ref s.heap.objs.size)
      repeat (any_goals (first | assumption | wp_step))

      refine codeAny_mono (codeAny_call_builtin (R := wants (fun r s₂ => r = .none ∧ ∃ (h' : Heap) (tk : Nat), s₂ = { s with heap := h', toks := tk } ∧ SetC prog w h' s.heap.objs.size x.cps.toList ∧
          (∀ b o, b < s.heap.objs.size → s.heap.get? b = some o → h'.get? b = some o)) E) PySem.F.called_set.init.plain PySem.F.entry_set_init (check_set_init_1 hT ?_)) fun r₂ s₂ hr₂ => ?_
      · have hty : typeOf (.str x u) = pure (.type "str") := rfl
        have hsls := sub_str_set
        have hslf := sub_str_frozenset
        have hne : (Value.type "str" == Value.type "dict") = false := by decide
        unfold Builtin.«set.__init__» noKeywords Builtin.Frozenset.updateFrom
        generalize hPI : pyIter = PI
        wp_walk
        subst hPI
        refine wpAny_pyIter_str fun o St W hst => ?_
        refine wpAny_bind (wpAny_runValue ?_)
        have hh3 : A.in1.in1.in1.handled = none := by simp [hh]
        have hSf : s.heap.objs.size ∉ [(s.heap.push { cls := .type "set", dict := none, data := .set #[] 0 (.fresh 0 0 led) }).objs.size] := by
          rw [Heap.size_push]
          intro q
          exact Nat.ne_of_lt (Nat.lt_succ_self _) (List.mem_singleton.mp q)
        refine loopC ((W _ hh3).toS) s.heap.objs.size hSf rfl hn1 (x.cps.size - 0) 0 _ (by omega) (Nat.zero_le _) hst ?hS0 ?hR
        case hS0 =>
          rw [List.take_zero]
          refine SetC.fresh ?_
          rw [hLd]
          exact Heap.get?_push_of_some _ hS
        case hR =>
          intro s' hm hS'
          obtain ⟨h', g', d', tk', os'⟩ := s'
          have eg : g' = s.gens := hm.gens
          have ed : d' = s.drawn := hm.drawn
          have eo : os' = s.os := hm.os
          subst eg; subst ed; subst eo
          show wpAny _ _ _ _ _ _
          refine wpAny_pure ?_
          show wpAny _ _ (ret Value.none) _ _ _
          refine wpAny_pure ⟨rfl, h', tk', rfl, hS', fun b o hb e => ?_⟩
          have hb1 : b ≠ s.heap.objs.size := Nat.ne_of_lt hb
          have hb2 : b ≠ (s.heap.push { cls := .type "set", dict := none, data := .set #[] 0 (.fresh 0 0 led) }).objs.size := by
            rw [Heap.size_push]; exact Nat.ne_of_lt (Nat.lt_succ_of_lt hb)
          exact hm.heap b o (by simp only [List.mem_cons, List.mem_singleton, List.not_mem_nil, or_false, not_or]; exact ⟨hb1, hb2⟩) (Heap.get?_push_of_some _ (Heap.get?_push_of_some _ e))
      · cases r₂ with
        | error e => exact hr₂
        | ok fl₂ =>
          cases fl₂ with
          | ret r =>
            obtain ⟨rfl, h', tk, rfl, hS', hk'⟩ := hr₂
            repeat (any_goals (first | assumption | wp_step))
            exact h _ _ hS' hk'
          | _ => exact hr₂.elim
    | _ => exact hr.elim
end
/-- the members, sorted -/
theorem sort_setC {prog : Program} {w : World} {A : Around} {E : Value → Shared → Prop} {s : Shared} {a : Addr} {l : List Nat} {Q : Value → Shared → Prop} (R : SetC prog w s.heap a l) (hh : A.handled = none) (h64 : l.length < 64)
    (hQ : ∀ s' p (out : List Value) (c : Nat) (acc : List Nat) (ys : List Str), (∀ b o, s.heap.get? b = some o → s'.heap.get? b = some o) → s'.gens = s.gens → s'.os = s.os → s.heap.objs.size ≤ p → s'.heap.get? p = some (seqObj "list" out.toArray c) → StrsAre out ys →
      acc.Nodup → (∀ c, c ∈ acc ↔ c ∈ l) → ys.Perm (acc.map one1) → PyProof.Rows.sortedS ys = true → ys.length ≤ l.length → Q (.ref p) s') :
    wpAny (model prog w) A (call (.builtin "sorted") [.ref a]) Q E s := by
  obtain ⟨o, es, ep, t, ho, hex, hd, g, nd, hm, hb, hf, hn, hr, hl⟩ := R
  refine Calls.call_function_entry PyProof.Rows.kind_sorted PyProof.Rows.plain_sorted PyProof.Rows.entry_sorted (PyProof.Rows.args_sorted1 _) ?_
  unfold Builtin.«sorted»
  refine wpAny_bind (m := checkCount "sorted" 1 1 _) (wpAny_pure ?_)
  refine wpAny_bind (collect_set (A := A.in1) hh ⟨o, ho, hex.1, hd⟩ hf (by unfold scanBound; omega) hr hl fun s1 vs k1 hz g1 o1 pm => ?_)
  have hvl : vs.length = es.size := by rw [pm.length_eq, List.length_map, Array.length_toList]
  have ap : ∃ acc : List Nat, acc.Perm (es.toList.map codeOf) ∧ acc.length = vs.length ∧ ∀ (j : Nat) (v : Value), vs[j]? = some v → ∃ c tk, acc[j]? = some c ∧ v = Value.str (one1 c) tk := by
    refine ⟨vs.map fun v => codeOf (0, v), ?_, List.length_map .., fun j v hj => ?_⟩
    · have q := pm.map fun v => codeOf (0, v)
      rw [List.map_map] at q
      exact q
    · obtain ⟨e, he, q⟩ := List.mem_map.mp (pm.mem_iff.mp (List.mem_of_getElem? hj))
      obtain ⟨c, tk, h1, _⟩ := g e he
      have hv : v = Value.str (one1 c) tk := by rw [← q]; exact h1
      refine ⟨c, tk, ?_, hv⟩
      rw [List.getElem?_map, hj, hv]
      rfl
  obtain ⟨acc, pa, la, ha⟩ := ap
  have hS : StrsAre vs (acc.map one1) := strs_at (by rw [List.length_map, la]) fun j v e => by
    obtain ⟨c, tk, e1, rfl⟩ := ha j v e
    exact ⟨one1 c, tk, by rw [List.getElem?_map, e1]; rfl, rfl⟩
  have hv64 : vs.length < 64 := by omega
  refine wpAny_bind (wpAny_newList ?_ (by rw [hvl, sizeLine_eq]; omega))
  have hoL : (s1.heap.push (seqObj "list" vs.toArray 0)).get? s1.heap.objs.size = some (seqObj "list" vs.toArray 0) := Heap.get?_push_size _ rfl
  refine wpAny_bind (wpAny_holding (wpAny_call_entry PyProof.Rows.slot_list_sort ⟨_, hoL, rfl⟩ PyProof.Rows.entry_list_sort
    (list_sort_treeK strKind_oneLt (s := { s1 with heap := s1.heap.push (seqObj "list" vs.toArray 0) }) hoL hS.keysOf (fun v₁ v₂ rest e => keyKind_strs (by rw [← e]; exact hS)) hv64 fun st' hp hs => ⟨_, rfl, ?_⟩)
    (PyProof.Rows.args_list_sort _)))
  obtain ⟨ys, g1', g2, g3⟩ := sorted_out_str hS hp hs
  obtain ⟨c', he'⟩ := PyProof.Rows.sortedHeap_at (vs := vs) (out := (arrOf st').map (·.2)) hoL
  refine wpAny_pure ⟨_, rfl, hQ _ s1.heap.objs.size ((arrOf st').map (·.2)).toList c' acc ys (fun b u e => ?_) g1 o1 hz (by rw [Array.toArray_toList]; exact he') g1' (pa.nodup_iff.mpr nd) (fun c => by rw [pa.mem_iff]; exact (hm c).symm) g2 g3 (by rw [g2.length_eq, List.length_map, la, hvl]; exact hn)⟩
  have q := k1 b u e
  have hlt := Heap.lt_size q
  rw [PyProof.Rows.sortedHeap_old (Nat.ne_of_lt hlt) (by rw [size_push']; exact Nat.lt_succ_of_lt hlt)]
  exact Heap.get?_push_of_some _ q
/-- sorted(set(text)) -/
def tSortSetT (ta : TE) : TE := fun σ H Q => ta σ H fun x H1 => ∃ l : List Nat, x = tx l ∧ l.length < 64 ∧ ∀ (acc : List Nat) (ys : List Str) (p : Addr), acc.Nodup → (∀ c, c ∈ acc ↔ c ∈ l) → ys.Perm (acc.map fun c => S [c]) → PyProof.Rows.sortedS ys = true → H1 p = none → Q (.ref p) (upd H1 p (.lst (ys.map V.str)))
section
variable {X : Cx}
theorem sort_setE {pins : List (Addr × Obj)} {σ : St} {H : Hp} {s : Shared} {l : List Nat} {b : Addr} {Q : VK} {E : Value → Shared → Prop} (hc : X.calm = true) (I : Inv X pins σ H s) (hS : SetC X.prog X.w s.heap b l) (hl : l.length < 64)
    (q1 : ∀ (acc : List Nat) (ys : List Str) (p : Addr), acc.Nodup → (∀ c, c ∈ acc ↔ c ∈ l) → ys.Perm (acc.map fun c => S [c]) → PyProof.Rows.sortedS ys = true → H p = none → Q (.ref p) (upd H p (.lst (ys.map V.str)))) :
    wpAny (model X.prog X.w) X.A (call (.builtin "sorted") [.ref b]) (EP X pins σ Q) E s := by
  refine sort_setC hS (I.ok.hd hc) hl fun s' pp out c acc ys k g o hz hg1 hi a1 a2 a3 a4 a5 => ?_
  have hlen : (ys.map V.str).length ≤ sizeLine := by
    rw [List.length_map, sizeLine_eq]
    omega
  have hn : H pp = none := I.hok.fresh hz
  have J : Inv X pins σ (upd H pp (.lst (ys.map V.str))) { s with heap := s'.heap, gens := s'.gens, drawn := s'.drawn, toks := s'.toks } :=
    I.call (ch := []) (Un.laid k hz hn) (I.hok.laid k hz ⟨hlen, out, c, vals_of_strs hi, hg1⟩) (by rw [g]; exact I.bare) (fun _ z => nomatch z)
  have e : s' = { s with heap := s'.heap, gens := s'.gens, drawn := s'.drawn, toks := s'.toks } := by
    cases s'
    cases s
    cases o
    rfl
  rw [e]
  exact ⟨.ref pp, _, J, rfl, q1 acc ys pp a1 a2 a3 a4 hn⟩
theorem pe_sortSetT {a : Expr} {ta : TE} {p p2 q pos : Pos} (hc : X.calm = true) (hg : Gl X "sorted") (hm : X.mg "sorted" = none) (hg2 : Gl X "set") (hm2 : X.mg "set" = none) (ha : PE X a ta)
    (na : starEach [a] X.env = (false, eval a X.env) :: starEach [] X.env := by rfl) : PE X (.Call (.Name "sorted" p) [.Call (.Name "set" p2) [a] [] q] [] pos) (tSortSetT ta) := by
  refine ⟨fun pins s σ H Q I h => ?_⟩
  refine Call_ (ld_blt I hg hm (show bootBuiltins "sorted" = some (.builtin "sorted") by decide +kernel) ?_)
  refine PyProof.Rows.callWith_builtin1 (PyProof.Rows.args_cons ?_ rfl) rfl rfl
  refine Call_ (ld_blt I hg2 hm2 boot_set ?_)
  refine PyProof.Rows.callWith_type1 (PyProof.Rows.args_cons (thn (ha.run pins s σ H _ I h) fun v s1 ⟨x, H1, I1, r1, q1⟩ => PyProof.Rows.args_nil ?_) na) na rfl
  obtain ⟨l, rfl, hl, q1⟩ := q1
  obtain ⟨t, rfl⟩ := r1
  refine call_setC (I1.ok.hd hc) (by show (S l).length ≤ 1000; rw [S_len]; omega) fun h' tk hS hk => PyProof.Rows.args_nil ?_
  have I2 : Inv X pins σ H1 { s1 with heap := h', toks := tk } := I1.kept fun b o e => hk b o (Heap.lt_size e) e
  exact sort_setE hc I2 hS (by rw [S_cps]; exact hl) fun acc ys p a1 a2 a3 a4 hn => q1 acc ys p a1 (fun c => by rw [a2 c, S_cps]) a3 a4 hn
end
end Kit

end
section
set_option Elab.async false
set_option linter.all false
set_option maxRecDepth 100000
set_option maxHeartbeats 4000000
/-! ### own errors with two fields -/
namespace Kit
open PySem PySem.Spec PyProof.Rows L2
structure ErrT2 (K : PySem.W.Frag) (mg : Str → Option Value) (C : Addr) (x q f1 f2 : Str) (st : Stmt) : Prop where
  gC : mg x = some (.ref C)
  oex : OexC K C
  noF : PySem.W.findIn K (.ref C) f1 = some none
  noG : PySem.W.findIn K (.ref C) f2 = some none
  ini : ∃ (f : Addr) (fd : FuncData), Fun K "__init__" q st f fd ∧ PySem.W.findIn K (.ref C) "__init__" = some (some (.ref f)) ∧ PySem.W.typeIn K (.ref f) = some (.type "function")
def spErr2 (C : Addr) (f1 f2 : Str) : Sp := fun vs H Q _ => ∃ (a : Addr) (y z : V), vs = [.ref a, y, z] ∧ H a = some (exo a C none) ∧ ∀ dx, H dx = none → dx ≠ a → Q .non (upd (upd H dx (exd dx [(f2, z), (f1, y)])) a (exo a C (some dx)))
section
variable (P : Program) (w : World) (K : PySem.W.Frag) (mg : Str → Option Value) (base : Heap)
structure CanE2 (C : Addr) (x f1 f2 : Str) : Prop where
  gC : mg x = some (.ref C)
  oex : OexC K C
  ex : ∃ (f : Addr) (fd : FuncData) (ps : List Str), FnOk P w K mg base (L2.CX P w) 1 f fd ps (spErr2 C f1 f2) ∧ PySem.W.findIn K (.ref C) "__init__" = some (some (.ref f)) ∧ PySem.W.typeIn K (.ref f) = some (.type "function") ∧ Binds K fd ps []
end
section
variable {P : Program} {w : World} {K : PySem.W.Frag} {mg : Str → Option Value} {base : Heap}
theorem upd3 {H : Hp} {dx a : Addr} {o1 o2 o3 : HO} (ne : dx ≠ a) : upd (upd (upd H dx o1) a o2) dx o3 = upd (upd H dx o3) a o2 := by
  funext b
  by_cases h1 : b = dx
  · rw [h1, upd_same, upd_ne ne, upd_same]
  · rw [upd_ne h1]
    by_cases h2 : b = a
    · rw [h2, upd_same, upd_same]
    · rw [upd_ne h2, upd_ne h2, upd_ne h1, upd_ne h1]
theorem canE2_of {C : Addr} {x q f1 f2 : Str} {st : Stmt} {N ps : List Str} (D : ErrT2 K mg C x q f1 f2 st) (S : FnScope N ps (defScope st)) (hb : BindsPlain st "__init__" q ps) (hl : ps.length = 3)
    (body : ∀ (f : Addr) (cdv : Value) (A : Around) (outer : List Env) (s : Shared) (H : Hp) (E : XK),
      PSs (cxOf (L2.CX P w) P w K mg base N q (defScope st) f cdv A outer s H E) (defBody st) (tSeq (tOst K f1 (tVar 0) (tVar 1)) (tOst K f2 (tVar 0) (tVar 2)))) (hN : N.length = 3) : CanE2 P w K mg base C x f1 f2 := by
  obtain ⟨f, fd, F, g, ty⟩ := D.ini
  refine ⟨D.gC, D.oex, f, fd, ps, F.okX S (fun vs H Q E h => ?_) (fun cdv A outer s H vs Q E _ h => ?_), g, ty, F.binds hb⟩
  · obtain ⟨a, y, z, rfl, _⟩ := h
    rw [hl]
    rfl
  · obtain ⟨a, y, z, rfl, ha, k⟩ := h
    refine ⟨_, body f cdv A outer s H E, ?_⟩
    match N, hN with
    | [n0, n1, n2], _ =>
      refine ⟨y, rfl, .ref a, rfl, a, C, rfl, D.oex, D.noF, .inl ⟨ha, fun dx n ne => ?_⟩⟩
      refine ⟨z, rfl, .ref a, rfl, a, C, rfl, D.oex, D.noG, .inr ⟨dx, [(f1, y)], upd_same, by rw [upd_ne ne, upd_same], by show 1 ≤ 900; decide, ?_⟩⟩
      rw [upd3 ne]
      exact k dx n ne
end
section
variable {X : Cx} {C : Addr} {x f1 f2 : Str} {W : WX} {p pos pos2 : Pos} {e e2 : Expr} {te te2 : TE} {j : Nat}
/-- raise X(e, e2) -/
theorem pr_err2 (c : CanE2 X.prog X.w X.K X.mg X.base C x f1 f2) (tk : Takes X W) (hcalm : X.calm = true) (hr : Room j X.A) (hk : 2 ≤ j) (hg : Gl X x) (ha : PE X e te) (hb : PE X e2 te2)
    (he : starEach [e, e2] X.env = (false, eval e X.env) :: starEach [e2] X.env := by rfl) (he2 : starEach [e2] X.env = (false, eval e2 X.env) :: starEach [] X.env := by rfl) (hpl : (backTo pos (starEach [e2] X.env)).any (·.1) = false := by rfl) (hdb : (x == ("__debug__" : Str)) = false := by decide) :
    PS X (.Raise (some (.Call (.Name x p) [e, e2] [] pos)) none pos2) (fun _ σ H => tMkO C (spErr2 C f1 f2) [] (tCons te (tCons te2 tNil)) σ H fun cls d H' => W cls d σ H') := by
  obtain ⟨f, fd, ps, F, g, ty, b⟩ := c.ex
  exact L2.ps_raise hcalm tk (pmk_oex c.oex g ty F (hr.mono hk) b .nil passL hg c.gC (pa_cons ha (pa_cons hb pa_nil (hs := he2)) (hs := he)) hdb he hpl)
end
def Ra2 (E : XK) (C : Addr) (f1 f2 : Str) (y z : V) (H : Hp) : Prop := ∀ d M, Same H M → M d = some (.xd [(f2, z), (f1, y)]) → E (.ref C) (some d) M
theorem Ra2.mono {E : XK} {C : Addr} {f1 f2 : Str} {y z : V} {H G : Hp} (h : Ra2 E C f1 f2 y z H) (e : Same H G) : Ra2 E C f1 f2 y z G := fun d M s => h d M (e.trans s)
theorem Ra2.now {E : XK} {C : Addr} {f1 f2 : Str} {y z : V} {H : Hp} (h : Ra2 E C f1 f2 y z H) : [y, z].length ≤ 1000 ∧ ∀ a, H a = none → spErr2 C f1 f2 (.ref a :: ([y, z] ++ [])) (upd H a (exo a C none))
    (fun v G => v = .non ∧ ∃ (d : Addr) (fs : List (Str × V)), G a = some (exo a C (some d)) ∧ G d = some (exd d fs) ∧ H d = none ∧ E (.ref C) (some d) (upd (L2.del G a) d (.xd fs))) (fun _ _ _ => False) := by
  refine ⟨by show 2 ≤ 1000; decide, fun a na => ⟨a, y, z, rfl, upd_same, fun dx n ne => ⟨rfl, dx, [(f2, z), (f1, y)], upd_same, ?_, ?_, ?_⟩⟩⟩
  · rw [upd_ne ne, upd_same]
  · rw [upd_ne ne] at n
    exact n
  · rw [upd_ne ne] at n
    have k : upd (L2.del (upd (upd (upd H a (exo a C none)) dx (exd dx [(f2, z), (f1, y)])) a (exo a C (some dx))) a) dx (.xd [(f2, z), (f1, y)]) = upd H dx (.xd [(f2, z), (f1, y)]) := by
      funext b
      by_cases hb : b = dx
      · rw [hb, upd_same, upd_same]
      · rw [upd_ne hb, upd_ne hb]
        by_cases hc : b = a
        · rw [hc, L2.del_same, na]
        · rw [L2.del_ne hc, upd_ne hc, upd_ne hb, upd_ne hc]
    rw [k]
    exact h dx _ (ex_new n) upd_same
section
variable {K : PySem.W.Frag} {h : Heap} {mg : Str → Option Value}
theorem errT2_of {C : Addr} {x q f1 f2 : Str} {st : Stmt} {f : Addr} {od an : Option Addr} {sl : Array (Option Value)} {oc kV dc pm cd ct : Value}
    {nm qn : Str} {N : Addr} {bs bm : List Value} {sn : List Str} {sub : List Value} {ab : Bool} {col : Option Bool} {dd : Option Addr} {m0 m1 m2 m3 m5 : Option Value}
    (X : K.In h) (G : h.Ns mainGlobals mg) (aC : PySem.W.nsIn K mainGlobals x = some (some (.ref C)))
    (xL : K.lookup C = some (excClassObj nm qn C N bs bm true sn sub ab col dd m0 m1 m2 m3 m5 "ValueError.__new__")) (rf : PySem.HandSPX.refsVE bm = true)
    (sa : PySem.W.findIn K (.ref C) "__setattr__" = some (some (.builtin "object.__setattr__"))) (eC : PySem.W.subIn K (.ref C) (.type "BaseException") = some true) (tC : PySem.W.typeIn K (.ref C) = some (.type "type")) (kC : PySem.W.keepIn K (.ref C) = true)
    (nb : PySem.W.findIn K (.ref C) f1 = some none) (nb2 : PySem.W.findIn K (.ref C) f2 = some none)
    (a1 : PySem.W.findIn K (.ref C) "__init__" = some (some (.ref f))) (t1 : PySem.W.typeIn K (.ref f) = some (.type "function"))
    (l1 : K.lookup f = some ⟨oc, od, .func (PySem.W.fnOf "__init__" q (defArgs st) (defBody st) (defScope st) .none kV dc pm an cd ct), sl⟩) (c1 : PySem.W.codeIn K cd q = true) (k1 : PySem.W.keepIn K (.ref f) = true) : ErrT2 K mg C x q f1 f2 st :=
  ⟨PySem.W.mg_of X G aC, ⟨⟨nm, qn, N, bs, bm, sn, sub, ab, col, dd, m0, m1, m2, m3, m5, xL, rf⟩, sa, eC, tC, kC⟩, nb, nb2, f, _, fun_mk (st := st) l1 c1 k1, a1, t1⟩
end
end Kit

end
section
set_option Elab.async false
set_option linter.all false
set_option maxRecDepth 100000
set_option maxHeartbeats 4000000
namespace Kit
open PySem PySem.Spec PyProof.Rows L2
/-! ### x in o, x not in o by an own __contains__ that answers with a bool -/
section
variable {X : Cx} {C : Addr} {k j : Nat} {sp : Sp}
def rInO (C : Addr) (sp : Sp) : R2 := fun x y H Q => ∃ a dx fs, y = .ref a ∧ H a = some (.ins C dx fs) ∧ sp [y, x] H (fun v G => ∃ b, v = .bl b ∧ Q (.bl b) G) E0
def rNotInO (C : Addr) (sp : Sp) : R2 := fun x y H Q => ∃ a dx fs, y = .ref a ∧ H a = some (.ins C dx fs) ∧ sp [y, x] H (fun v G => ∃ b, v = .bl b ∧ Q (.bl (!b)) G) E0
theorem inO (c : CanM X.prog X.w X.K X.mg X.base k C "__contains__" sp) (hr : Room j X.A) (hk : k ≤ j) : OpR X (compareOp .In) (rInO C sp) := by
  obtain ⟨f, fd, ps, F, hc, hm, b⟩ := c.ex
  intro pins s σ H x y v u Q I rx ry hq
  obtain ⟨a, dx, fs, rfl, ha, h⟩ := hq
  cases ry
  obtain ⟨mA, J, _⟩ := ins_get I.hok ha
  obtain ⟨od, J, _⟩ := J.look
  obtain ⟨m, hF⟩ := I.fr
  refine PySem.W.in_K hF I.ok.mod.kin J hm.at_ hm.fn ?_
  refine wpAny_mono (run_fn (us := [.ref a, v]) (vs := [.ref a, x]) (dvs := []) (ds := []) F (hr.mono hk) b .nil passL I (.cons rfl (.cons rx .nil)) h) (fun r s' z => ?_) fun _ _ x => x
  obtain ⟨v', H', I', rv, bb, rfl, q⟩ := z
  cases rv
  exact wpAny_pure ⟨.bl bb, H', I', rfl, q⟩
theorem notInO (c : CanM X.prog X.w X.K X.mg X.base k C "__contains__" sp) (hr : Room j X.A) (hk : k ≤ j) : OpR X (compareOp .NotIn) (rNotInO C sp) := by
  obtain ⟨f, fd, ps, F, hc, hm, b⟩ := c.ex
  intro pins s σ H x y v u Q I rx ry hq
  obtain ⟨a, dx, fs, rfl, ha, h⟩ := hq
  cases ry
  obtain ⟨mA, J, _⟩ := ins_get I.hok ha
  obtain ⟨od, J, _⟩ := J.look
  obtain ⟨m, hF⟩ := I.fr
  refine PySem.W.notIn_K hF I.ok.mod.kin J hm.at_ hm.fn ?_
  refine wpAny_mono (run_fn (us := [.ref a, v]) (vs := [.ref a, x]) (dvs := []) (ds := []) F (hr.mono hk) b .nil passL I (.cons rfl (.cons rx .nil)) h) (fun r s' z => ?_) fun _ _ x => x
  obtain ⟨v', H', I', rv, bb, rfl, q⟩ := z
  cases rv
  exact wpAny_pure ⟨.bl (!bb), H', I', rfl, q⟩
end
end Kit

end
section
set_option Elab.async false
set_option linter.all false
set_option maxRecDepth 100000
set_option maxHeartbeats 4000000
/-! ### sorted of pairs of texts: by the first, then by the second -/
namespace Kit
open PySem PySem.Spec PyProof.Rows L2 SrtO
abbrev ltS (a b : Str) : Bool := decide (a.cps.toList < b.cps.toList)
def lexS (p q : Str × Str) : Bool := if p.1 = q.1 then ltS p.2 q.2 else ltS p.1 q.1
theorem str_ext {a b : Str} (h : a.cps.toList = b.cps.toList) : a = b := by
  obtain ⟨⟨x⟩⟩ := a
  obtain ⟨⟨y⟩⟩ := b
  have h : x = y := h
  rw [h]
theorem ltS_asym {a b : Str} (h : ltS a b = true) : ltS b a = false := decide_eq_false fun k => List.lt_irrefl _ (List.lt_trans (of_decide_eq_true h) k)
theorem ltS_tr {a b c : Str} (h : ltS a b = false) (k : ltS b c = false) : ltS a c = false := decide_eq_false fun m => List.le_trans (List.not_lt.mp (of_decide_eq_false k)) (List.not_lt.mp (of_decide_eq_false h)) m
theorem ltS_eq {a b : Str} (h : ltS a b = false) (k : ltS b a = false) : a = b := str_ext (List.le_antisymm (List.not_lt.mp (of_decide_eq_false k)) (List.not_lt.mp (of_decide_eq_false h)))
theorem ltS_irr {a : Str} : ltS a a = false := decide_eq_false (List.lt_irrefl _)
theorem lexS_iff {p q : Str × Str} : lexS p q = true ↔ ltS p.1 q.1 = true ∨ (p.1 = q.1 ∧ ltS p.2 q.2 = true) := by
  unfold lexS
  by_cases e : p.1 = q.1
  · rw [if_pos e, e, ltS_irr]
    simp
  · rw [if_neg e]
    simp [e]
theorem swo_lexS {α : Type} (k : α → Str × Str) : Swo fun v u => lexS (k v) (k u) := by
  refine ⟨fun x y h => ?_, fun x y z h1 h2 => ?_⟩
  · generalize k x = p at h
    generalize k y = q at h
    show lexS q p = false
    cases e : lexS q p with
    | false => rfl
    | true =>
      rcases lexS_iff.mp h with a | ⟨a, b⟩
      · rcases lexS_iff.mp e with c | ⟨c, d⟩
        · rw [ltS_asym a] at c; cases c
        · rw [c, ltS_irr] at a; cases a
      · rcases lexS_iff.mp e with c | ⟨c, d⟩
        · rw [a, ltS_irr] at c; cases c
        · rw [ltS_asym b] at d; cases d
  · have h1' : lexS (k z) (k y) = false := h2
    have h2' : lexS (k y) (k x) = false := h1
    clear h1 h2
    have h1 := h1'
    have h2 := h2'
    clear h1' h2'
    show lexS (k z) (k x) = false
    generalize k z = p at h1
    generalize k y = q at h1 h2
    generalize k x = r at h2
    have n1 : ltS p.1 q.1 = false := by
      cases e : ltS p.1 q.1 with
      | false => rfl
      | true => rw [lexS_iff.mpr (.inl e)] at h1; cases h1
    have n2 : ltS q.1 r.1 = false := by
      cases e : ltS q.1 r.1 with
      | false => rfl
      | true => rw [lexS_iff.mpr (.inl e)] at h2; cases h2
    cases e : lexS p r with
    | false => rfl
    | true =>
      rcases lexS_iff.mp e with a | ⟨a, b⟩
      · rw [ltS_tr n1 n2] at a; cases a
      · have e1 : p.1 = q.1 := ltS_eq n1 (by rw [a]; exact n2)
        have m1 : ltS p.2 q.2 = false := by
          cases e : ltS p.2 q.2 with
          | false => rfl
          | true => rw [lexS_iff.mpr (.inr ⟨e1, e⟩)] at h1; cases h1
        have m2 : ltS q.2 r.2 = false := by
          cases e : ltS q.2 r.2 with
          | false => rfl
          | true => rw [lexS_iff.mpr (.inr ⟨e1.symm.trans a, e⟩)] at h2; cases h2
        rw [ltS_tr m1 m2] at b; cases b
def IsPairS (h : Heap) (v : Value) (x y : Str) : Prop := ∃ a o t u n, v = .ref a ∧ h.get? a = some o ∧ o.cls = .type "tuple" ∧ o.data = .seq #[.str x t, .str y u] n
theorem IsPairS.keeps {h h' : Heap} {v : Value} {x y : Str} (p : IsPairS h v x y) (k : ∀ b o, h.get? b = some o → o.cls = .type "tuple" → h'.get? b = some o) : IsPairS h' v x y := by
  obtain ⟨a, o, t, u, n, e, ho, hc, hd⟩ := p
  exact ⟨a, o, t, u, n, e, k _ _ ho hc, hc, hd⟩
section
variable {prog : Program} {w : World} {A : Around} {E : Value → Shared → Prop} {s : Shared}
theorem firstsS_of {h : Heap} : ∀ {vs : List Value}, (∀ v ∈ vs, ∃ x y, IsPairS h v x y) → ∃ fs : List Value, PySem.W.KatTups h vs fs ∧ fs.length = vs.length ∧ ∀ f ∈ fs, ∃ x t, f = Value.str x t
  | [], _ => ⟨[], PySem.W.KatTups.nil, rfl, fun _ hm => by simp at hm⟩
  | v :: vs, hp => by
    obtain ⟨fs, h1, h2, h3⟩ := firstsS_of (vs := vs) fun v' hm => hp v' (List.mem_cons_of_mem _ hm)
    obtain ⟨x, y, a, o, t, u, n, e, ho, hc, hd⟩ := hp v (List.mem_cons_self ..)
    subst e
    refine ⟨.str x t :: fs, PySem.W.KatTups.cons ho hc hd rfl h1, by rw [List.length_cons, List.length_cons, h2], fun f hm => ?_⟩
    rcases List.mem_cons.mp hm with rfl | hm
    · exact ⟨x, t, rfl⟩
    · exact h3 f hm
theorem pairS_cmp {vs : List Value} {k : Value → Str × Str} (hp : ∀ v ∈ vs, IsPairS s.heap v (k v).1 (k v).2) : Cmp prog w A s (tuples' true) (fun p => p.1 ∈ vs) (lt2 fun v u => lexS (k v) (k u)) := by
  intro p q hm hm'
  have h1 := hp _ hm
  have h2 := hp _ hm'
  show wpAny (model prog w) A (keyLt' (tuples' true) p.1 q.1) (fun r s' => s' = s ∧ r = lexS (k p.1) (k q.1)) (fun _ _ => False) s
  unfold lexS
  generalize (k p.1).1 = x at h1 ⊢
  generalize (k p.1).2 = y at h1 ⊢
  generalize (k q.1).1 = x' at h2 ⊢
  generalize (k q.1).2 = y' at h2 ⊢
  obtain ⟨a, o, t, u, n, e, ho, hc, hd⟩ := h1
  obtain ⟨a', o', t', u', n', e', ho', hc', hd'⟩ := h2
  rw [e, e']
  refine PySem.W.kat_lt ho hd ho' hd' ?_
  show PySem.W.KatLex prog w A true (decide (2 < 2)) _ [(.str x t, .str x' t'), (.str y u, .str y' u')] 0 s
  refine PySem.W.kat_cons (SeqAt.EqAt.str_str x t x' t' prog w _ _ ?_)
  refine PySem.W.kat_go (fun e1 => ?_) (fun e1 => ?_)
  · have ex : x = x' := by simpa using e1
    refine PySem.W.kat_yes (PySem.W.kat_cons (SeqAt.EqAt.str_str y u y' u' prog w _ _ ?_))
    refine PySem.W.kat_go (fun e2 => ?_) (fun e2 => ?_)
    · have ey : y = y' := by simpa using e2
      have e3 : (if x = x' then ltS y y' else ltS x x') = false := by
        rw [if_pos ex, ey]
        exact ltS_irr
      exact PySem.W.kat_yes (PySem.W.kat_nil ⟨rfl, e3.symm⟩)
    · have e3 : (if x = x' then ltS y y' else ltS x x') = ltS y y' := if_pos ex
      exact PySem.W.kat_no (oneLt_any_str ⟨rfl, e3.symm⟩)
  · have ex : ¬ x = x' := by simpa using e1
    have e3 : (if x = x' then ltS y y' else ltS x x') = ltS x x' := if_neg ex
    exact PySem.W.kat_no (oneLt_any_str ⟨rfl, e3.symm⟩)
theorem pairsS_sortableO {a : Addr} {vs : List Value} {k : Value → Str × Str} (h0 : 0 < vs.length) (hp : ∀ v ∈ vs, IsPairS s.heap v (k v).1 (k v).2) (ha : ∀ o, s.heap.get? a = some o → o.cls ≠ .type "tuple") : SortableO prog w A s a vs fun v u => lexS (k v) (k u) := by
  intro h' keep
  have hp' : ∀ v ∈ vs, IsPairS h' v (k v).1 (k v).2 := fun v hm => (hp v hm).keeps fun b o e c => keep b o (fun z => by subst z; exact ha o e c) e
  obtain ⟨fs, h1, h2, h3⟩ := firstsS_of fun v hm => ⟨_, _, hp' v hm⟩
  refine ⟨tuples' true, fun Q E hq => ?_, pairS_cmp hp'⟩
  refine PySem.W.kat_kind (T := .type "str") h1 (by omega) (fun f hm => ?_) (by rfl) ?_
  · obtain ⟨x, t, rfl⟩ := h3 f hm
    exact PySem.W.Looks.now
  · have e : (Value.type "str" != Value.type "tuple") = true := by first | decide +kernel | rfl | decide
    rw [e]
    exact hq
theorem sorted_pairsS {l : Addr} {vs : List Value} {k : Value → Str × Str} {Q : Value → Shared → Prop} (hl : s.heap.IsList l vs.toArray) (hz : vs.length ≤ sizeLine) (hp : ∀ v ∈ vs, IsPairS s.heap v (k v).1 (k v).2)
    (h : ∀ (h' : Heap) (d : Addr) (out : List Value), Srtd (fun v u => lexS (k v) (k u)) out → Stb (fun v u => lexS (k v) (k u)) out vs → (∀ b o, s.heap.get? b = some o → h'.get? b = some o) → s.heap.objs.size ≤ d → (∃ n, h'.get? d = some (seqObj "list" out.toArray n)) → Q (.ref d) { s with heap := h' }) :
    wpAny (model prog w) A (call (.builtin "sorted") [.ref l]) Q E s := by
  refine sorted_ord (swo_lexS k) hl hz (fun h2 h₁ a ha kk => ?_) fun out hs hb => ?_
  · refine pairsS_sortableO (s := { s with heap := h₁ }) (by omega) (fun v hm => (hp v hm).keeps fun b o e _ => (kk b o e).2) fun o e => ?_
    have e' : some o = some (seqObj "list" vs.toArray 0) := e.symm.trans ha
    cases e'
    intro c
    exact absurd (Value.type.inj c) (by decide)
  · exact h _ _ out hs hb (fun b o e => sortedAll_old e) (Nat.le_succ _) (sortedAll_at s.heap vs out.toArray)
end
/-- x before y -/
abbrev ltQ (k : V → Str × Str) (x y : V) : Bool := lexS (k x) (k y)
def rSortedPS (K : PySem.W.Frag) : List V → Hp → VK → Prop := fun vs H Q => ∃ (a : Addr) (xs : List V) (k : V → Str × Str), vs = [V.ref a] ∧ SqL K H a xs ∧ (∀ x ∈ xs, ∃ t, x = V.ref t ∧ H t = some (.tup [.str (k x).1, .str (k x).2])) ∧
  ∀ ys p, Srtd (ltQ k) ys → Stb (ltQ k) ys xs → H p = none → Q (.ref p) (upd H p (.lst ys))
section
variable {X : Cx}
theorem cr_sortedPS (K : PySem.W.Frag) (hK : X.K = K := by rfl) : CallR X (.builtin "sorted") (rSortedPS K) := by
  subst hK
  intro pins s σ H vs us Q I r h
  obtain ⟨a, xs, k, rfl, hs, hx, q⟩ := h
  obtain ⟨its, rv, hl, hz⟩ := I.list hs
  obtain ⟨u, rfl, ru⟩ := vals1 r
  obtain rfl : u = Value.ref a := ru
  obtain ⟨e1, e2⟩ := refs_back rv fun x m => by
    obtain ⟨t, e, _⟩ := hx x m
    exact ⟨t, e⟩
  refine sorted_pairsS (k := fun u => k (backV u)) hl.isList (by rw [← rv.length]; exact hz) (fun v hv => ?_) fun h' d out h1 h2 kp hd hn => ?_
  · obtain ⟨t, rfl⟩ := e2 v hv
    have hm : V.ref t ∈ xs := by rw [e1]; exact List.mem_map.mpr ⟨_, hv, rfl⟩
    obtain ⟨t', e, ht⟩ := hx _ hm
    cases e
    obtain ⟨_, its2, r2, o, ho, hc, n, hd⟩ := I.hok _ _ ht
    obtain ⟨u1, u2, rfl, ri, rj⟩ := vals2 r2
    obtain ⟨t1, rfl⟩ := ri
    obtain ⟨t2, rfl⟩ := rj
    exact ⟨t, o, t1, t2, n, rfl, ho, hc, hd⟩
  · have h3 : ∀ u ∈ out, ∃ a, u = Value.ref a := fun u hu => e2 u (h2.perm.mem_iff.mp hu)
    obtain ⟨n, hn⟩ := hn
    have hb : Stb (ltQ k) (out.map backV) xs := by
      rw [e1]
      exact Stb.map (swo_lexS k) backV h2
    refine ⟨.ref d, upd H d (.lst (out.map backV)), I.laid (t' := s.toks) kp hd ⟨?_, out, n, vals_back h3, hn⟩, rfl, q _ d (srtd_map h1) hb (I.hok.fresh hd)⟩
    rw [hb.len]
    exact hz
end
end Kit

end
section
set_option Elab.async false
set_option linter.all false
set_option maxRecDepth 100000
set_option maxHeartbeats 4000000
namespace Kit
open PySem PySem.Spec PyProof.Rows L2
/-! ### o[i] by an own __getitem__ that may raise -/
section
variable {X : Cx} {C : Addr} {k j : Nat} {sp : Sp} {W : WX} {a b : Expr} {ta tb : TE} {pos : Pos}
def tIxO (C : Addr) (sp : Sp) (W : WX) (ta tb : TE) : TE := fun σ H Q => ta σ H fun x H1 => tb σ H1 fun y H2 => ∃ a dx fs, x = .ref a ∧ H2 a = some (.ins C dx fs) ∧ sp [x, y] H2 Q (WE W σ)
theorem pe_ixO (c : CanF X.prog X.w X.K X.mg X.base k C "__getitem__" sp) (tk : Takes X W) (hr : Room j X.A) (hk : k + 1 ≤ j) (ha : PE X a ta) (hb : PE X b tb)
    (hsl : ∀ x i, subscripted b true (.ref x) i = runValue (.builtin "lifetime.subscript" ⟨[.ref x, i], []⟩) := by intro _ _; rfl) : PE X (.Subscript a b pos) (tIxO C sp W ta tb) := by
  obtain ⟨f, fd, ps, F, hcl, hm, bb, hfn⟩ := c.ex
  refine ⟨fun pins s σ H Q I h => ?_⟩
  refine Subscript_ (binT ha hb I h fun v u s2 x y H2 I2 rx ry q => ?_)
  obtain ⟨a', dx, fs, rfl, ha, h⟩ := q
  cases rx
  obtain ⟨mA, J, _⟩ := ins_get I2.hok ha
  obtain ⟨od, J, _⟩ := J.look
  obtain ⟨mm, hF⟩ := I2.fr
  have hr1 : Room k X.A.in1 := (hr.mono hk).in1
  refine PySem.W.sub_K hF I2.ok.mod.kin J hm.at_ hfn hm.fn ?_ (hsl _ _)
  have e0 : Env0 X.prog X.w X.K X.mg X.base X.A.in1 X.stack s2 H2 := by
    have e := I2.env0
    exact ⟨e.frames, e.mod, e.bs, e.bsz, e.funs, e.frf, e.hok, e.bare⟩
  have hl := F.len _ _ _ _ h
  have b2 := bb s2 [.ref a', u] I2.kIn (by simpa using hl)
  refine wpAny_call (codeAny_mono (F.run X.A.in1 X.stack s2 H2 ⟨[.ref a', u], []⟩ [.ref a', u] [.ref a', y] Q (WE W σ) hr1 e0 (by simpa using b2) (.cons rfl (.cons ry .nil)) h) ?_)
  intro z s' hq
  cases z with
  | error e => exact passAt tk σ pins H2 s2 e s' I2 hq
  | ok fl =>
    cases fl with
    | ret w => exact I2.after hq
    | next => exact hq.elim
    | brk => exact hq.elim
    | cont => exact hq.elim
end
end Kit

end
section
set_option Elab.async false
set_option linter.all false
set_option maxRecDepth 100000
set_option maxHeartbeats 4000000
namespace Kit
open PySem PySem.Spec PyProof.Rows L2
/-! ### enumerate(a text) -/
def ItE (x : Str) : It :=
  ⟨fun i G => ∃ c, x.cps[i]? = some c, fun i G v G' => ∃ T c, v = .ref T ∧ G T = none ∧ G' = upd G T (.tup [.int (i : Nat), .str ⟨#[c]⟩]) ∧ x.cps[i]? = some c, fun i G => x.cps.size = i⟩
theorem turn_ES {P : Program} {w : World} {K : PySem.W.Frag} {elts : List Expr} {kk : Nat} {tpos : Pos} (x : Str) (e it : Addr) :
    Turn P w K (.Tuple elts kk tpos) (ItE x) [e, it] e (fun i h => (∃ old, IsEnum h e it ((i : Nat) : Int) old) ∧ (∃ t, h.IsStrIter it (strIterType x) x t i) ∧ e ≠ it) where
  mem := by simp
  obj := by
    rintro i h ⟨⟨old, he⟩, ⟨t, o, ho, hc, hd⟩, _⟩ b hb
    have z : b = e ∨ b = it := by simpa using hb
    rcases z with rfl | rfl
    · exact ⟨_, he, fun v q => nomatch q⟩
    · exact ⟨o, ho, fun v q => by rw [hd] at q; cases q⟩
  keep := by
    rintro i h h' ⟨⟨old, he⟩, ⟨t, o, ho, r⟩, hne⟩ k
    exact ⟨⟨old, k e (by simp) _ he⟩, ⟨t, o, k it (by simp) _ ho, r⟩, hne⟩
  item := by
    intro X hP hw hK hc i pins s σ H E I hf st hg
    subst hP hw hK
    obtain ⟨⟨old, he⟩, ⟨t, hit⟩, hne⟩ := st
    obtain ⟨c, hx⟩ := hg
    have hlen : i < x.cps.size := (Array.getElem?_eq_some_iff.mp hx).1
    have le : e < s.heap.objs.size := Heap.lt_size he
    have li : it < s.heap.objs.size := by
      obtain ⟨_, q, _⟩ := hit
      exact Heap.lt_size q
    refine wpAny_pyNext_enum_itemC (Draws.text (A := X.A.in1) (show X.A.in1.handled = none from I.ok.hd hc) it x t) he hit hlen hne (by simp [hne]) ?_
    intro u' h' tk hu' ho hit' hT hsz hk
    obtain ⟨c', u, hc', rfl⟩ := hu'
    obtain rfl : c = c' := Option.some.inj (hx.symm.trans hc')
    refine ⟨_, rfl, wpAny_letOwnedTupleGo_enum (s := { s with heap := h', toks := tk + 1 }) ho ?_⟩
    intro h'' he' sb
    have hT2 : h''.get? s.heap.objs.size = some { cls := .type "tuple", data := .seq #[.int (i : Nat) tk, .str ⟨#[c]⟩ u] } := (sb.2 _ (Nat.ne_of_gt le)).trans hT
    have new : ObjOk X.prog X.w (upd H s.heap.objs.size (.tup [.int (i : Nat), .str ⟨#[c]⟩])) h'' s.heap.objs.size (.tup [.int (i : Nat), .str ⟨#[c]⟩]) :=
      ⟨by show 2 ≤ sizeLine; decide, [.int (i : Nat) tk, .str ⟨#[c]⟩ u], .cons ⟨_, rfl⟩ (.cons ⟨_, rfl⟩ .nil), ⟨_, hT2, rfl, _, rfl⟩⟩
    have J : Inv X pins σ (upd H s.heap.objs.size (.tup [.int (i : Nat), .str ⟨#[c]⟩])) { s with heap := h'', toks := tk + 1 } :=
      I.turnedNew (ch := [e, it]) (fun b ob hb q => (sb.2 b (fun z => hb (by simp [z]))).trans (hk b ob (fun z => hb (by simp [z])) (fun z => hb (by simp [z])) q)) hf (Nat.le_refl _) new
    refine ⟨.ref s.heap.objs.size, _, J, rfl, ⟨_, c, rfl, I.hok.fresh (Nat.le_refl _), rfl, hx⟩, ⟨⟨.str ⟨#[c]⟩ u, ?_⟩, ⟨t, ?_⟩, hne⟩, ?_⟩
    · rw [show ((i + 1 : Nat) : Int) = (i : Int) + 1 by omega]
      exact he'
    · obtain ⟨o, ho2, r⟩ := hit'
      exact ⟨o, (sb.2 it (Ne.symm hne)).trans ho2, r⟩
    · intro b hb
      have hb' : b < s.heap.objs.size := by
        have z : b = e ∨ b = it := by simpa using hb
        rcases z with rfl | rfl
        · exact le
        · exact li
      rw [upd_ne (Nat.ne_of_lt hb')]
      exact (hf b hb).1
  done := by
    intro X hP hw hK hc i pins s σ H E I hf st hg
    subst hP hw hK
    obtain ⟨⟨old, he⟩, ⟨t, hit⟩, hne⟩ := st
    obtain ⟨f0, f1, f2, f3, f4, f5⟩ := hf it (by simp)
    have hz : x.cps.size = i := hg
    subst hz
    exact wpAny_pyNext_enum_endD (Draws.text (A := X.A.in1) (show X.A.in1.handled = none from I.ok.hd hc) it x t) he hit fun h' eb => ⟨rfl, I.turned (t' := s.toks) (fun b o hb q => eb b o hb q) f0 f1 f3 f4 f5⟩
  self := by
    rintro A i s Q E ⟨⟨_, he⟩, _⟩ h
    exact wpAny_pyIter_enum he h
theorem walk_ES {x : Str} : Walk (ItE x) x.cps.size (fun _ => True) (YPair (fun i => some (.int (i : Nat))) (fun i => x.cps[i]?.map fun c => .str ⟨#[c]⟩)) := by
  refine ⟨fun i G hi q => ⟨x.cps[i], Array.getElem?_eq_getElem hi⟩, fun G q => rfl, ?_⟩
  rintro i G v G' hi q ⟨T, c, rfl, hT, rfl, hx⟩
  exact ⟨T, _, _, rfl, hT, rfl, rfl, by show Option.map (fun c => V.str ⟨#[c]⟩) x.cps[i]? = _; rw [hx]; rfl⟩
def iEnumT (t : TA) : TI := fun σ H R => t σ H fun vs G => ∃ x, vs = [.str x] ∧ R (ItE x) G
theorem pi_enumT {X : Cx} {e : Expr} {ta : TA} {p pos tpos : Pos} {elts : List Expr} {kk : Nat} (hg : Gl X "enumerate") (hm : X.mg "enumerate" = none) (ha : PA X [e] ta) (hs : starEach [e] X.env = [(false, eval e X.env)] := by rfl) :
    PI X (.Tuple elts kk tpos) (.Call (.Name "enumerate" p) [e] [] pos) (iEnumT ta) := by
  refine ⟨fun pins s σ H R I h => ?_⟩
  refine Call_ (ld_blt I hg hm boot_enumerate (PyProof.Rows.callWith_type1 (thn (ha.run pos pins s σ H _ I h) fun us s1 ⟨vs, H1, I1, r1, q1⟩ => ?_) hs rfl))
  obtain ⟨x, ex, q⟩ := q1
  subst ex
  cases r1 with
  | cons r rr =>
    cases rr
    obtain ⟨t, rfl⟩ := r
    refine call_enumerate_str fun h' he hit hsz hk => wpAny_pyIter_enum he ?_
    have I2 : Inv X pins σ H1 { s1 with heap := h' } := I1.kept (t' := s1.toks) hk
    refine ⟨s1.heap.objs.size + 1, [s1.heap.objs.size + 1, s1.heap.objs.size], _, _, H1, rfl, I2, turn_ES x (s1.heap.objs.size + 1) s1.heap.objs.size, ⟨⟨.none, he⟩, ⟨_, hit⟩, Nat.succ_ne_self _⟩, fun b hb => ?_, q⟩
    have e' : b = s1.heap.objs.size + 1 ∨ b = s1.heap.objs.size := by simpa using hb
    have hle : s1.heap.objs.size ≤ b := by
      rcases e' with z | z
      · rw [z]; exact Nat.le_add_right _ _
      · rw [z]; exact Nat.le_refl _
    exact I1.fpOk hle (I1.hok.fresh hle)
end Kit

end
section
set_option Elab.async false
set_option maxRecDepth 100000
set_option maxHeartbeats 4000000
namespace K32
open PySem PySem.Spec PyProof.Rows L2 Kit
def top (i : Nat) : Stmt := PySem.Challenge.pw_galloon_k32_fonts_and_prints.main.body.getD i (.Pass ⟨0, 0, 0, 0⟩)
abbrev s_BadScheme___init__ : Stmt := (inClass (top 3) 0)
abbrev N_BadScheme___init__ : List Str := ["self", "part"]
abbrev P_BadScheme___init__ : List Str := ["self", "part"]
theorem sc_BadScheme___init__ : FnScope N_BadScheme___init__ P_BadScheme___init__ (defScope s_BadScheme___init__) := ⟨rfl, rfl, rfl, by decide +kernel, rfl, by decide +kernel, by decide +kernel⟩
theorem bd_BadScheme___init__ : BindsPlain s_BadScheme___init__ "__init__" "BadScheme.__init__" P_BadScheme___init__ := fun _ _ _ _ _ _ us hl => match us, hl with | [_, _], _ => rfl
abbrev s_BadColumn___init__ : Stmt := (inClass (top 4) 0)
abbrev N_BadColumn___init__ : List Str := ["self", "text"]
abbrev P_BadColumn___init__ : List Str := ["self", "text"]
theorem sc_BadColumn___init__ : FnScope N_BadColumn___init__ P_BadColumn___init__ (defScope s_BadColumn___init__) := ⟨rfl, rfl, rfl, by decide +kernel, rfl, by decide +kernel, by decide +kernel⟩
theorem bd_BadColumn___init__ : BindsPlain s_BadColumn___init__ "__init__" "BadColumn.__init__" P_BadColumn___init__ := fun _ _ _ _ _ _ us hl => match us, hl with | [_, _], _ => rfl
abbrev s_BadSpots___init__ : Stmt := (inClass (top 5) 0)
abbrev N_BadSpots___init__ : List Str := ["self", "text"]
abbrev P_BadSpots___init__ : List Str := ["self", "text"]
theorem sc_BadSpots___init__ : FnScope N_BadSpots___init__ P_BadSpots___init__ (defScope s_BadSpots___init__) := ⟨rfl, rfl, rfl, by decide +kernel, rfl, by decide +kernel, by decide +kernel⟩
theorem bd_BadSpots___init__ : BindsPlain s_BadSpots___init__ "__init__" "BadSpots.__init__" P_BadSpots___init__ := fun _ _ _ _ _ _ us hl => match us, hl with | [_, _], _ => rfl
abbrev s_TooMany___init__ : Stmt := (inClass (top 6) 0)
abbrev N_TooMany___init__ : List Str := ["self", "most"]
abbrev P_TooMany___init__ : List Str := ["self", "most"]
theorem sc_TooMany___init__ : FnScope N_TooMany___init__ P_TooMany___init__ (defScope s_TooMany___init__) := ⟨rfl, rfl, rfl, by decide +kernel, rfl, by decide +kernel, by decide +kernel⟩
theorem bd_TooMany___init__ : BindsPlain s_TooMany___init__ "__init__" "TooMany.__init__" P_TooMany___init__ := fun _ _ _ _ _ _ us hl => match us, hl with | [_, _], _ => rfl
abbrev s_BadFont___init__ : Stmt := (inClass (top 7) 0)
abbrev N_BadFont___init__ : List Str := ["self", "part"]
abbrev P_BadFont___init__ : List Str := ["self", "part"]
theorem sc_BadFont___init__ : FnScope N_BadFont___init__ P_BadFont___init__ (defScope s_BadFont___init__) := ⟨rfl, rfl, rfl, by decide +kernel, rfl, by decide +kernel, by decide +kernel⟩
theorem bd_BadFont___init__ : BindsPlain s_BadFont___init__ "__init__" "BadFont.__init__" P_BadFont___init__ := fun _ _ _ _ _ _ us hl => match us, hl with | [_, _], _ => rfl
abbrev s_BadLetter___init__ : Stmt := (inClass (top 8) 0)
abbrev N_BadLetter___init__ : List Str := ["self", "letter"]
abbrev P_BadLetter___init__ : List Str := ["self", "letter"]
theorem sc_BadLetter___init__ : FnScope N_BadLetter___init__ P_BadLetter___init__ (defScope s_BadLetter___init__) := ⟨rfl, rfl, rfl, by decide +kernel, rfl, by decide +kernel, by decide +kernel⟩
theorem bd_BadLetter___init__ : BindsPlain s_BadLetter___init__ "__init__" "BadLetter.__init__" P_BadLetter___init__ := fun _ _ _ _ _ _ us hl => match us, hl with | [_, _], _ => rfl
abbrev s_BadGlyph___init__ : Stmt := (inClass (top 9) 0)
abbrev N_BadGlyph___init__ : List Str := ["self", "letter"]
abbrev P_BadGlyph___init__ : List Str := ["self", "letter"]
theorem sc_BadGlyph___init__ : FnScope N_BadGlyph___init__ P_BadGlyph___init__ (defScope s_BadGlyph___init__) := ⟨rfl, rfl, rfl, by decide +kernel, rfl, by decide +kernel, by decide +kernel⟩
theorem bd_BadGlyph___init__ : BindsPlain s_BadGlyph___init__ "__init__" "BadGlyph.__init__" P_BadGlyph___init__ := fun _ _ _ _ _ _ us hl => match us, hl with | [_, _], _ => rfl
abbrev s_DuplicateLetter___init__ : Stmt := (inClass (top 10) 0)
abbrev N_DuplicateLetter___init__ : List Str := ["self", "letter"]
abbrev P_DuplicateLetter___init__ : List Str := ["self", "letter"]
theorem sc_DuplicateLetter___init__ : FnScope N_DuplicateLetter___init__ P_DuplicateLetter___init__ (defScope s_DuplicateLetter___init__) := ⟨rfl, rfl, rfl, by decide +kernel, rfl, by decide +kernel, by decide +kernel⟩
theorem bd_DuplicateLetter___init__ : BindsPlain s_DuplicateLetter___init__ "__init__" "DuplicateLetter.__init__" P_DuplicateLetter___init__ := fun _ _ _ _ _ _ us hl => match us, hl with | [_, _], _ => rfl
abbrev s_UnknownLetter___init__ : Stmt := (inClass (top 11) 0)
abbrev N_UnknownLetter___init__ : List Str := ["self", "letter", "place"]
abbrev P_UnknownLetter___init__ : List Str := ["self", "letter", "place"]
theorem sc_UnknownLetter___init__ : FnScope N_UnknownLetter___init__ P_UnknownLetter___init__ (defScope s_UnknownLetter___init__) := ⟨rfl, rfl, rfl, by decide +kernel, rfl, by decide +kernel, by decide +kernel⟩
theorem bd_UnknownLetter___init__ : BindsPlain s_UnknownLetter___init__ "__init__" "UnknownLetter.__init__" P_UnknownLetter___init__ := fun _ _ _ _ _ _ us hl => match us, hl with | [_, _, _], _ => rfl
abbrev s_Scheme___init__ : Stmt := (inClass (top 15) 2)
abbrev N_Scheme___init__ : List Str := ["self", "rows", "colours", "many", "_"]
abbrev P_Scheme___init__ : List Str := ["self", "rows", "colours"]
theorem sc_Scheme___init__ : FnScope N_Scheme___init__ P_Scheme___init__ (defScope s_Scheme___init__) := ⟨rfl, rfl, rfl, by decide +kernel, rfl, by decide +kernel, by decide +kernel⟩
theorem bd_Scheme___init__ : BindsPlain s_Scheme___init__ "__init__" "Scheme.__init__" P_Scheme___init__ := fun _ _ _ _ _ _ us hl => match us, hl with | [_, _, _], _ => rfl
abbrev s_Scheme___eq__ : Stmt := (inClass (top 15) 3)
abbrev N_Scheme___eq__ : List Str := ["self", "other"]
abbrev P_Scheme___eq__ : List Str := ["self", "other"]
theorem sc_Scheme___eq__ : FnScope N_Scheme___eq__ P_Scheme___eq__ (defScope s_Scheme___eq__) := ⟨rfl, rfl, rfl, by decide +kernel, rfl, by decide +kernel, by decide +kernel⟩
theorem bd_Scheme___eq__ : BindsPlain s_Scheme___eq__ "__eq__" "Scheme.__eq__" P_Scheme___eq__ := fun _ _ _ _ _ _ us hl => match us, hl with | [_, _], _ => rfl
abbrev s_Scheme_is_strip : Stmt := (inClass (top 15) 7)
abbrev N_Scheme_is_strip : List Str := ["self", "text", "column"]
abbrev P_Scheme_is_strip : List Str := ["self", "text"]
theorem sc_Scheme_is_strip : FnScope N_Scheme_is_strip P_Scheme_is_strip (defScope s_Scheme_is_strip) := ⟨rfl, rfl, rfl, by decide +kernel, rfl, by decide +kernel, by decide +kernel⟩
theorem bd_Scheme_is_strip : BindsPlain s_Scheme_is_strip "is_strip" "Scheme.is_strip" P_Scheme_is_strip := fun _ _ _ _ _ _ us hl => match us, hl with | [_, _], _ => rfl
abbrev s_Font___init__ : Stmt := (inClass (top 20) 1)
abbrev N_Font___init__ : List Str := ["self", "scheme", "gap", "glyphs", "told", "letter", "glyph"]
abbrev P_Font___init__ : List Str := ["self", "scheme", "gap", "glyphs"]
theorem sc_Font___init__ : FnScope N_Font___init__ P_Font___init__ (defScope s_Font___init__) := ⟨rfl, rfl, rfl, by decide +kernel, rfl, by decide +kernel, by decide +kernel⟩
theorem bd_Font___init__ : BindsPlain s_Font___init__ "__init__" "Font.__init__" P_Font___init__ := fun _ _ _ _ _ _ us hl => match us, hl with | [_, _, _, _], _ => rfl
abbrev s_Font_read : Stmt := (inClass (top 20) 2)
abbrev N_Font_read : List Str := ["cls", "scheme", "text", "parts", "glyphs", "piece", "pair"]
abbrev P_Font_read : List Str := ["cls", "scheme", "text"]
theorem sc_Font_read : FnScope N_Font_read P_Font_read (defScope s_Font_read) := ⟨rfl, rfl, rfl, by decide +kernel, rfl, by decide +kernel, by decide +kernel⟩
theorem bd_Font_read : BindsPlain s_Font_read "read" "Font.read" P_Font_read := fun _ _ _ _ _ _ us hl => match us, hl with | [_, _, _], _ => rfl
abbrev s_Font___getitem__ : Stmt := (inClass (top 20) 3)
abbrev N_Font___getitem__ : List Str := ["self", "letter"]
abbrev P_Font___getitem__ : List Str := ["self", "letter"]
theorem sc_Font___getitem__ : FnScope N_Font___getitem__ P_Font___getitem__ (defScope s_Font___getitem__) := ⟨rfl, rfl, rfl, by decide +kernel, rfl, by decide +kernel, by decide +kernel⟩
theorem bd_Font___getitem__ : BindsPlain s_Font___getitem__ "__getitem__" "Font.__getitem__" P_Font___getitem__ := fun _ _ _ _ _ _ us hl => match us, hl with | [_, _], _ => rfl
abbrev s_Font___contains__ : Stmt := (inClass (top 20) 5)
abbrev N_Font___contains__ : List Str := ["self", "letter"]
abbrev P_Font___contains__ : List Str := ["self", "letter"]
theorem sc_Font___contains__ : FnScope N_Font___contains__ P_Font___contains__ (defScope s_Font___contains__) := ⟨rfl, rfl, rfl, by decide +kernel, rfl, by decide +kernel, by decide +kernel⟩
theorem bd_Font___contains__ : BindsPlain s_Font___contains__ "__contains__" "Font.__contains__" P_Font___contains__ := fun _ _ _ _ _ _ us hl => match us, hl with | [_, _], _ => rfl
abbrev s_Font___len__ : Stmt := (inClass (top 20) 6)
abbrev N_Font___len__ : List Str := ["self"]
abbrev P_Font___len__ : List Str := ["self"]
theorem sc_Font___len__ : FnScope N_Font___len__ P_Font___len__ (defScope s_Font___len__) := ⟨rfl, rfl, rfl, by decide +kernel, rfl, by decide +kernel, by decide +kernel⟩
theorem bd_Font___len__ : BindsPlain s_Font___len__ "__len__" "Font.__len__" P_Font___len__ := fun _ _ _ _ _ _ us hl => match us, hl with | [_], _ => rfl
abbrev s_Font___eq__ : Stmt := (inClass (top 20) 7)
abbrev N_Font___eq__ : List Str := ["self", "other"]
abbrev P_Font___eq__ : List Str := ["self", "other"]
theorem sc_Font___eq__ : FnScope N_Font___eq__ P_Font___eq__ (defScope s_Font___eq__) := ⟨rfl, rfl, rfl, by decide +kernel, rfl, by decide +kernel, by decide +kernel⟩
theorem bd_Font___eq__ : BindsPlain s_Font___eq__ "__eq__" "Font.__eq__" P_Font___eq__ := fun _ _ _ _ _ _ us hl => match us, hl with | [_, _], _ => rfl
abbrev s_Font___str__ : Stmt := (inClass (top 20) 8)
abbrev N_Font___str__ : List Str := ["self", "pieces", "letter", "glyph"]
abbrev P_Font___str__ : List Str := ["self"]
theorem sc_Font___str__ : FnScope N_Font___str__ P_Font___str__ (defScope s_Font___str__) := ⟨rfl, rfl, rfl, by decide +kernel, rfl, by decide +kernel, by decide +kernel⟩
theorem bd_Font___str__ : BindsPlain s_Font___str__ "__str__" "Font.__str__" P_Font___str__ := fun _ _ _ _ _ _ us hl => match us, hl with | [_], _ => rfl
abbrev s_Font_printed : Stmt := (inClass (top 20) 9)
abbrev N_Font_printed : List Str := ["self", "text", "place", "letter"]
abbrev P_Font_printed : List Str := ["self", "text"]
theorem sc_Font_printed : FnScope N_Font_printed P_Font_printed (defScope s_Font_printed) := ⟨rfl, rfl, rfl, by decide +kernel, rfl, by decide +kernel, by decide +kernel⟩
theorem bd_Font_printed : BindsPlain s_Font_printed "printed" "Font.printed" P_Font_printed := fun _ _ _ _ _ _ us hl => match us, hl with | [_, _], _ => rfl
abbrev s_check_gap : Stmt := (top 21)
abbrev N_check_gap : List Str := ["scheme", "gap"]
abbrev P_check_gap : List Str := ["scheme", "gap"]
theorem sc_check_gap : FnScope N_check_gap P_check_gap (defScope s_check_gap) := ⟨rfl, rfl, rfl, by decide +kernel, rfl, by decide +kernel, by decide +kernel⟩
theorem bd_check_gap : BindsPlain s_check_gap "check_gap" "check_gap" P_check_gap := fun _ _ _ _ _ _ us hl => match us, hl with | [_, _], _ => rfl
abbrev s_is_letter : Stmt := (top 22)
abbrev N_is_letter : List Str := ["text"]
abbrev P_is_letter : List Str := ["text"]
theorem sc_is_letter : FnScope N_is_letter P_is_letter (defScope s_is_letter) := ⟨rfl, rfl, rfl, by decide +kernel, rfl, by decide +kernel, by decide +kernel⟩
theorem bd_is_letter : BindsPlain s_is_letter "is_letter" "is_letter" P_is_letter := fun _ _ _ _ _ _ us hl => match us, hl with | [_], _ => rfl
abbrev s_law_purse : Stmt := (top 24)
abbrev N_law_purse : List Str := ["script", "cells", "cell", "seed"]
abbrev P_law_purse : List Str := ["script"]
theorem sc_law_purse : FnScope N_law_purse P_law_purse (defScope s_law_purse) := ⟨rfl, rfl, rfl, by decide +kernel, rfl, by decide +kernel, by decide +kernel⟩
theorem bd_law_purse : BindsPlain s_law_purse "_law_purse" "_law_purse" P_law_purse := fun _ _ _ _ _ _ us hl => match us, hl with | [_], _ => rfl
abbrev s_law_draw : Stmt := (top 25)
abbrev N_law_draw : List Str := ["purse", "many", "great", "cell", "first", "second"]
abbrev P_law_draw : List Str := ["purse", "many"]
theorem sc_law_draw : FnScope N_law_draw P_law_draw (defScope s_law_draw) := ⟨rfl, rfl, rfl, by decide +kernel, rfl, by decide +kernel, by decide +kernel⟩
theorem bd_law_draw : BindsPlain s_law_draw "_law_draw" "_law_draw" P_law_draw := fun _ _ _ _ _ _ us hl => match us, hl with | [_, _], _ => rfl
abbrev s_law_kind : Stmt := (top 26)
abbrev N_law_kind : List Str := ["purse", "kind"]
abbrev P_law_kind : List Str := ["purse"]
theorem sc_law_kind : FnScope N_law_kind P_law_kind (defScope s_law_kind) := ⟨rfl, rfl, rfl, by decide +kernel, rfl, by decide +kernel, by decide +kernel⟩
theorem bd_law_kind : BindsPlain s_law_kind "_law_kind" "_law_kind" P_law_kind := fun _ _ _ _ _ _ us hl => match us, hl with | [_], _ => rfl
abbrev s_law_word : Stmt := (top 27)
abbrev N_law_word : List Str := ["purse", "signs", "least", "greatest", "size", "k"]
abbrev P_law_word : List Str := ["purse", "signs", "least", "greatest"]
theorem sc_law_word : FnScope N_law_word P_law_word (defScope s_law_word) := ⟨rfl, rfl, rfl, by decide +kernel, rfl, by decide +kernel, by decide +kernel⟩
theorem bd_law_word : BindsPlain s_law_word "_law_word" "_law_word" P_law_word := fun _ _ _ _ _ _ us hl => match us, hl with | [_, _, _, _], _ => rfl
abbrev s_law_fresh : Stmt := (top 28)
abbrev N_law_fresh : List Str := ["purse", "met", "pool", "mark"]
abbrev P_law_fresh : List Str := ["purse", "met"]
theorem sc_law_fresh : FnScope N_law_fresh P_law_fresh (defScope s_law_fresh) := ⟨rfl, rfl, rfl, by decide +kernel, rfl, by decide +kernel, by decide +kernel⟩
theorem bd_law_fresh : BindsPlain s_law_fresh "_law_fresh" "_law_fresh" P_law_fresh := fun _ _ _ _ _ _ us hl => match us, hl with | [_, _], _ => rfl
abbrev s_law_is_word : Stmt := (top 29)
abbrev N_law_is_word : List Str := ["word", "signs", "least", "greatest", "sign"]
abbrev P_law_is_word : List Str := ["word", "signs", "least", "greatest"]
theorem sc_law_is_word : FnScope N_law_is_word P_law_is_word (defScope s_law_is_word) := ⟨rfl, rfl, rfl, by decide +kernel, rfl, by decide +kernel, by decide +kernel⟩
theorem bd_law_is_word : BindsPlain s_law_is_word "_law_is_word" "_law_is_word" P_law_is_word := fun _ _ _ _ _ _ us hl => match us, hl with | [_, _, _, _], _ => rfl
abbrev s_law_odd_word : Stmt := (top 30)
abbrev N_law_odd_word : List Str := ["purse", "signs", "greatest", "odd", "pick"]
abbrev P_law_odd_word : List Str := ["purse", "signs", "greatest"]
theorem sc_law_odd_word : FnScope N_law_odd_word P_law_odd_word (defScope s_law_odd_word) := ⟨rfl, rfl, rfl, by decide +kernel, rfl, by decide +kernel, by decide +kernel⟩
theorem bd_law_odd_word : BindsPlain s_law_odd_word "_law_odd_word" "_law_odd_word" P_law_odd_word := fun _ _ _ _ _ _ us hl => match us, hl with | [_, _, _], _ => rfl
abbrev s_law_pairs : Stmt := (top 31)
abbrev N_law_pairs : List Str := ["purse", "signs", "spoilt", "pairs", "met", "k", "fault", "mark", "shape"]
abbrev P_law_pairs : List Str := ["purse", "signs", "spoilt"]
theorem sc_law_pairs : FnScope N_law_pairs P_law_pairs (defScope s_law_pairs) := ⟨rfl, rfl, rfl, by decide +kernel, rfl, by decide +kernel, by decide +kernel⟩
theorem bd_law_pairs : BindsPlain s_law_pairs "_law_pairs" "_law_pairs" P_law_pairs := fun _ _ _ _ _ _ us hl => match us, hl with | [_, _, _], _ => rfl
abbrev s_law_due : Stmt := (top 32)
abbrev N_law_due : List Str := ["signs", "space", "pairs", "met", "mark", "shape"]
abbrev P_law_due : List Str := ["signs", "space", "pairs"]
theorem sc_law_due : FnScope N_law_due P_law_due (defScope s_law_due) := ⟨rfl, rfl, rfl, by decide +kernel, rfl, by decide +kernel, by decide +kernel⟩
theorem bd_law_due : BindsPlain s_law_due "_law_due" "_law_due" P_law_due := fun _ _ _ _ _ _ us hl => match us, hl with | [_, _, _], _ => rfl
abbrev s_law_line : Stmt := (top 33)
abbrev N_law_line : List Str := ["space", "pairs", "mark", "shape"]
abbrev P_law_line : List Str := ["space", "pairs"]
theorem sc_law_line : FnScope N_law_line P_law_line (defScope s_law_line) := ⟨rfl, rfl, rfl, by decide +kernel, rfl, by decide +kernel, by decide +kernel⟩
theorem bd_law_line : BindsPlain s_law_line "_law_line" "_law_line" P_law_line := fun _ _ _ _ _ _ us hl => match us, hl with | [_, _], _ => rfl
abbrev s_law_parts : Stmt := (top 34)
abbrev N_law_parts : List Str := ["line", "head", "pieces", "piece", "pairs"]
abbrev P_law_parts : List Str := ["line"]
theorem sc_law_parts : FnScope N_law_parts P_law_parts (defScope s_law_parts) := ⟨rfl, rfl, rfl, by decide +kernel, rfl, by decide +kernel, by decide +kernel⟩
theorem bd_law_parts : BindsPlain s_law_parts "_law_parts" "_law_parts" P_law_parts := fun _ _ _ _ _ _ us hl => match us, hl with | [_], _ => rfl
abbrev s_law_told : Stmt := (top 35)
abbrev N_law_told : List Str := ["error", "found"]
abbrev P_law_told : List Str := ["error"]
theorem sc_law_told : FnScope N_law_told P_law_told (defScope s_law_told) := ⟨rfl, rfl, rfl, by decide +kernel, rfl, by decide +kernel, by decide +kernel⟩
theorem bd_law_told : BindsPlain s_law_told "_law_told" "_law_told" P_law_told := fun _ _ _ _ _ _ us hl => match us, hl with | [_], _ => rfl
abbrev s_law_made : Stmt := (top 36)
abbrev N_law_made : List Str := ["frame", "space", "pairs", "handed", "made", "e"]
abbrev P_law_made : List Str := ["frame", "space", "pairs"]
theorem sc_law_made : FnScope N_law_made P_law_made (defScope s_law_made) := ⟨rfl, rfl, rfl, by decide +kernel, rfl, by decide +kernel, by decide +kernel⟩
theorem bd_law_made : BindsPlain s_law_made "_law_made" "_law_made" P_law_made := fun _ _ _ _ _ _ us hl => match us, hl with | [_, _, _], _ => rfl
abbrev s_law_read : Stmt := (top 37)
abbrev N_law_read : List Str := ["frame", "line", "e"]
abbrev P_law_read : List Str := ["frame", "line"]
theorem sc_law_read : FnScope N_law_read P_law_read (defScope s_law_read) := ⟨rfl, rfl, rfl, by decide +kernel, rfl, by decide +kernel, by decide +kernel⟩
theorem bd_law_read : BindsPlain s_law_read "_law_read" "_law_read" P_law_read := fun _ _ _ _ _ _ us hl => match us, hl with | [_, _], _ => rfl
abbrev s_law_glyph : Stmt := (top 38)
abbrev N_law_glyph : List Str := ["made", "mark", "e"]
abbrev P_law_glyph : List Str := ["made", "mark"]
theorem sc_law_glyph : FnScope N_law_glyph P_law_glyph (defScope s_law_glyph) := ⟨rfl, rfl, rfl, by decide +kernel, rfl, by decide +kernel, by decide +kernel⟩
theorem bd_law_glyph : BindsPlain s_law_glyph "_law_glyph" "_law_glyph" P_law_glyph := fun _ _ _ _ _ _ us hl => match us, hl with | [_, _], _ => rfl
abbrev s_law_print : Stmt := (top 39)
abbrev N_law_print : List Str := ["made", "line", "e"]
abbrev P_law_print : List Str := ["made", "line"]
theorem sc_law_print : FnScope N_law_print P_law_print (defScope s_law_print) := ⟨rfl, rfl, rfl, by decide +kernel, rfl, by decide +kernel, by decide +kernel⟩
theorem bd_law_print : BindsPlain s_law_print "_law_print" "_law_print" P_law_print := fun _ _ _ _ _ _ us hl => match us, hl with | [_, _], _ => rfl
abbrev s_law_shuffled : Stmt := (top 40)
abbrev N_law_shuffled : List Str := ["purse", "items", "rest", "k"]
abbrev P_law_shuffled : List Str := ["purse", "items"]
theorem sc_law_shuffled : FnScope N_law_shuffled P_law_shuffled (defScope s_law_shuffled) := ⟨rfl, rfl, rfl, by decide +kernel, rfl, by decide +kernel, by decide +kernel⟩
theorem bd_law_shuffled : BindsPlain s_law_shuffled "_law_shuffled" "_law_shuffled" P_law_shuffled := fun _ _ _ _ _ _ us hl => match us, hl with | [_, _], _ => rfl
abbrev s_law_fields : Stmt := (top 41)
abbrev N_law_fields : List Str := ["made", "frame", "space", "ordered", "k", "pair"]
abbrev P_law_fields : List Str := ["made", "frame", "space", "ordered"]
theorem sc_law_fields : FnScope N_law_fields P_law_fields (defScope s_law_fields) := ⟨rfl, rfl, rfl, by decide +kernel, rfl, by decide +kernel, by decide +kernel⟩
theorem bd_law_fields : BindsPlain s_law_fields "_law_fields" "_law_fields" P_law_fields := fun _ _ _ _ _ _ us hl => match us, hl with | [_, _, _, _], _ => rfl
abbrev s_law_members : Stmt := (top 42)
abbrev N_law_members : List Str := ["made", "ordered", "known", "mark", "shape", "answer"]
abbrev P_law_members : List Str := ["made", "ordered"]
theorem sc_law_members : FnScope N_law_members P_law_members (defScope s_law_members) := ⟨rfl, rfl, rfl, by decide +kernel, rfl, by decide +kernel, by decide +kernel⟩
theorem bd_law_members : BindsPlain s_law_members "_law_members" "_law_members" P_law_members := fun _ _ _ _ _ _ us hl => match us, hl with | [_, _], _ => rfl
abbrev s_law_prints : Stmt := (top 43)
abbrev N_law_prints : List Str := ["purse", "made", "space", "ordered", "known", "mark", "shape", "k", "picks", "j", "line", "due", "fresh", "wrong", "place", "tail"]
abbrev P_law_prints : List Str := ["purse", "made", "space", "ordered"]
theorem sc_law_prints : FnScope N_law_prints P_law_prints (defScope s_law_prints) := ⟨rfl, rfl, rfl, by decide +kernel, rfl, by decide +kernel, by decide +kernel⟩
theorem bd_law_prints : BindsPlain s_law_prints "_law_prints" "_law_prints" P_law_prints := fun _ _ _ _ _ _ us hl => match us, hl with | [_, _, _, _], _ => rfl
abbrev s_law_unlike : Stmt := (top 44)
abbrev N_law_unlike : List Str := ["purse", "frame", "signs", "space", "ordered", "fonts", "place", "mark", "shape", "bent", "rest", "one", "two"]
abbrev P_law_unlike : List Str := ["purse", "frame", "signs", "space", "ordered"]
theorem sc_law_unlike : FnScope N_law_unlike P_law_unlike (defScope s_law_unlike) := ⟨rfl, rfl, rfl, by decide +kernel, rfl, by decide +kernel, by decide +kernel⟩
theorem bd_law_unlike : BindsPlain s_law_unlike "_law_unlike" "_law_unlike" P_law_unlike := fun _ _ _ _ _ _ us hl => match us, hl with | [_, _, _, _, _], _ => rfl
abbrev s_law_good : Stmt := (top 45)
abbrev N_law_good : List Str := ["purse", "made", "frame", "signs", "space", "pairs", "ordered", "again", "back", "other"]
abbrev P_law_good : List Str := ["purse", "made", "frame", "signs", "space", "pairs"]
theorem sc_law_good : FnScope N_law_good P_law_good (defScope s_law_good) := ⟨rfl, rfl, rfl, by decide +kernel, rfl, by decide +kernel, by decide +kernel⟩
theorem bd_law_good : BindsPlain s_law_good "_law_good" "_law_good" P_law_good := fun _ _ _ _ _ _ us hl => match us, hl with | [_, _, _, _, _, _], _ => rfl
abbrev s_law_bent : Stmt := (top 46)
abbrev N_law_bent : List Str := ["purse", "line", "place", "sign", "way"]
abbrev P_law_bent : List Str := ["purse", "line"]
theorem sc_law_bent : FnScope N_law_bent P_law_bent (defScope s_law_bent) := ⟨rfl, rfl, rfl, by decide +kernel, rfl, by decide +kernel, by decide +kernel⟩
theorem bd_law_bent : BindsPlain s_law_bent "_law_bent" "_law_bent" P_law_bent := fun _ _ _ _ _ _ us hl => match us, hl with | [_, _], _ => rfl
abbrev s_law : Stmt := (top 47)
abbrev N_law : List Str := ["script", "purse", "kind", "frame", "signs", "spoilt", "space", "pairs", "due", "made", "back", "bent", "parts"]
abbrev P_law : List Str := ["script"]
theorem sc_law : FnScope N_law P_law (defScope s_law) := ⟨rfl, rfl, rfl, by decide +kernel, rfl, by decide +kernel, by decide +kernel⟩
theorem bd_law : BindsPlain s_law "law" "law" P_law := fun _ _ _ _ _ _ us hl => match us, hl with | [_], _ => rfl
structure Ad where
  GalloonError : Addr
  BadScheme : Addr
  BadColumn : Addr
  BadSpots : Addr
  TooMany : Addr
  BadFont : Addr
  BadLetter : Addr
  BadGlyph : Addr
  DuplicateLetter : Addr
  UnknownLetter : Addr
  Scheme : Addr
  Font : Addr
def eAd (a : Ad) : Nat → Addr
  | 0 => a.BadScheme
  | 1 => a.BadColumn
  | 2 => a.BadSpots
  | 3 => a.TooMany
  | 4 => a.BadFont
  | 5 => a.BadLetter
  | 6 => a.BadGlyph
  | 7 => a.DuplicateLetter
  | _ => a.UnknownLetter
structure Txt (K : PySem.W.Frag) (mg : Str → Option Value) (a : Ad) : Prop where
  b_ValueError : mg "ValueError" = none
  b_all : mg "all" = none
  b_classmethod : mg "classmethod" = none
  b_enumerate : mg "enumerate" = none
  b_int : mg "int" = none
  b_isinstance : mg "isinstance" = none
  b_len : mg "len" = none
  b_list : mg "list" = none
  b_range : mg "range" = none
  b_sorted : mg "sorted" = none
  b_str : mg "str" = none
  b_tuple : mg "tuple" = none
  g_DIGITS : ∃ u, mg "DIGITS" = some u ∧ RelV (.str "012") u
  g_LETTERS : ∃ u, mg "LETTERS" = some u ∧ RelV (.str "abcdefghi") u
  g_ALPHABET : ∃ u, mg "ALPHABET" = some u ∧ RelV (.str "ABCDEFGHIJKLMNOPQRSTUVWXYZ") u
  g_MOST_GAP : ∃ u, mg "MOST_GAP" = some u ∧ RelV (.int 3) u
  g_MOST_GLYPH : ∃ u, mg "MOST_GLYPH" = some u ∧ RelV (.int 4) u
  g_GalloonError : mg "GalloonError" = some (.ref a.GalloonError)
  e_BadScheme : ErrT K mg a.BadScheme "BadScheme" "BadScheme.__init__" "part" s_BadScheme___init__
  x_BadScheme : ErrC K a.BadScheme
  e_BadColumn : ErrT K mg a.BadColumn "BadColumn" "BadColumn.__init__" "text" s_BadColumn___init__
  x_BadColumn : ErrC K a.BadColumn
  e_BadSpots : ErrT K mg a.BadSpots "BadSpots" "BadSpots.__init__" "text" s_BadSpots___init__
  x_BadSpots : ErrC K a.BadSpots
  e_TooMany : ErrT K mg a.TooMany "TooMany" "TooMany.__init__" "most" s_TooMany___init__
  x_TooMany : ErrC K a.TooMany
  e_BadFont : ErrT K mg a.BadFont "BadFont" "BadFont.__init__" "part" s_BadFont___init__
  x_BadFont : ErrC K a.BadFont
  e_BadLetter : ErrT K mg a.BadLetter "BadLetter" "BadLetter.__init__" "letter" s_BadLetter___init__
  x_BadLetter : ErrC K a.BadLetter
  e_BadGlyph : ErrT K mg a.BadGlyph "BadGlyph" "BadGlyph.__init__" "letter" s_BadGlyph___init__
  x_BadGlyph : ErrC K a.BadGlyph
  e_DuplicateLetter : ErrT K mg a.DuplicateLetter "DuplicateLetter" "DuplicateLetter.__init__" "letter" s_DuplicateLetter___init__
  x_DuplicateLetter : ErrC K a.DuplicateLetter
  e_UnknownLetter : ErrT2 K mg a.UnknownLetter "UnknownLetter" "UnknownLetter.__init__" "letter" "place" s_UnknownLetter___init__
  x_UnknownLetter : ErrC K a.UnknownLetter
  c_Scheme : ClsT K mg a.Scheme "Scheme"
  m_Scheme___init__ : MetT K a.Scheme "__init__" "Scheme.__init__" s_Scheme___init__
  m_Scheme___eq__ : MetT K a.Scheme "__eq__" "Scheme.__eq__" s_Scheme___eq__
  m_Scheme_is_strip : MetT K a.Scheme "is_strip" "Scheme.is_strip" s_Scheme_is_strip
  c_Font : ClsT K mg a.Font "Font"
  m_Font___init__ : MetT K a.Font "__init__" "Font.__init__" s_Font___init__
  m_Font_read : CmT K a.Font "read" "Font.read" s_Font_read
  m_Font___getitem__ : MetT K a.Font "__getitem__" "Font.__getitem__" s_Font___getitem__
  m_Font___contains__ : MetT K a.Font "__contains__" "Font.__contains__" s_Font___contains__
  m_Font___len__ : MetT K a.Font "__len__" "Font.__len__" s_Font___len__
  m_Font___eq__ : MetT K a.Font "__eq__" "Font.__eq__" s_Font___eq__
  m_Font___str__ : MetT K a.Font "__str__" "Font.__str__" s_Font___str__
  m_Font_printed : MetT K a.Font "printed" "Font.printed" s_Font_printed
  d_check_gap : DefT K mg "check_gap" s_check_gap
  d_is_letter : DefT K mg "is_letter" s_is_letter
  d_law_purse : DefT K mg "_law_purse" s_law_purse
  d_law_draw : DefT K mg "_law_draw" s_law_draw
  d_law_kind : DefT K mg "_law_kind" s_law_kind
  d_law_word : DefT K mg "_law_word" s_law_word
  d_law_fresh : DefT K mg "_law_fresh" s_law_fresh
  d_law_is_word : DefT K mg "_law_is_word" s_law_is_word
  d_law_odd_word : DefT K mg "_law_odd_word" s_law_odd_word
  d_law_pairs : DefT K mg "_law_pairs" s_law_pairs
  d_law_due : DefT K mg "_law_due" s_law_due
  d_law_line : DefT K mg "_law_line" s_law_line
  d_law_parts : DefT K mg "_law_parts" s_law_parts
  d_law_told : DefT K mg "_law_told" s_law_told
  d_law_made : DefT K mg "_law_made" s_law_made
  d_law_read : DefT K mg "_law_read" s_law_read
  d_law_glyph : DefT K mg "_law_glyph" s_law_glyph
  d_law_print : DefT K mg "_law_print" s_law_print
  d_law_shuffled : DefT K mg "_law_shuffled" s_law_shuffled
  d_law_fields : DefT K mg "_law_fields" s_law_fields
  d_law_members : DefT K mg "_law_members" s_law_members
  d_law_prints : DefT K mg "_law_prints" s_law_prints
  d_law_unlike : DefT K mg "_law_unlike" s_law_unlike
  d_law_good : DefT K mg "_law_good" s_law_good
  d_law_bent : DefT K mg "_law_bent" s_law_bent
  d_law : DefT K mg "law" s_law
  n_rows : NoAttr K a.Scheme "rows"
  n_colours : NoAttr K a.Scheme "colours"
  n_columns : NoAttr K a.Scheme "columns"
  k_MOST : ∃ u, Con K a.Scheme "MOST" (.int 9) u
  k_BLANK : ∃ u, Con K a.Scheme "BLANK" (.str "a") u
  i_ha : PySem.W.findIn K (.ref a.Scheme) "__class__" = some (some (.builtin "object.__class__"))
  i_hn : PySem.W.specialIn K (.builtin "object.__class__") "__get__" = some (some (.builtin "getset_descriptor.__get__"))
  i_ht : PySem.W.takesIn K (.builtin "object.__class__") = some true
  i_hm : PySem.W.mroIn K a.Scheme (.type "object") = some true
  i_own : PySem.W.kitOne K (.ref a.Scheme) (.ref a.Scheme) = some true
  i_int : PySem.W.kitOne K (.type "int") (.ref a.Scheme) = some false
  i_str : PySem.W.kitOne K (.type "str") (.ref a.Scheme) = some false
  i_ni : PySem.W.notFirst K a.Scheme (.type "int") = true
  i_ns : PySem.W.notFirst K a.Scheme (.type "str") = true
  y_scheme : NoAttr K a.Font "scheme"
  y_gap : NoAttr K a.Font "gap"
  y_glyphs : NoAttr K a.Font "glyphs"
  y_told : NoAttr K a.Font "_told"
  k_FMOST : ∃ u, Con K a.Font "MOST" (.int 6) u
  r_Font : ∃ mc, ClX.CRead K a.Font mc ∧ ∃ u, ClX.CVal K a.Font mc "MOST" (.int 6) u
  y_ha : PySem.W.findIn K (.ref a.Font) "__class__" = some (some (.builtin "object.__class__"))
  y_hm : PySem.W.mroIn K a.Font (.type "object") = some true
  y_own : PySem.W.kitOne K (.ref a.Font) (.ref a.Font) = some true
  y_int : PySem.W.kitOne K (.type "int") (.ref a.Font) = some false
  y_str : PySem.W.kitOne K (.type "str") (.ref a.Font) = some false
  y_lst : PySem.W.kitOne K (.type "list") (.ref a.Font) = some false
  y_ni : PySem.W.notFirst K a.Font (.type "int") = true
  y_ns : PySem.W.notFirst K a.Font (.type "str") = true
  y_nl : PySem.W.notFirst K a.Font (.type "list") = true
  kk_e : ∀ i < 9, ∀ j < 9, PySem.W.kitOne K (.ref (eAd a i)) (.ref (eAd a j)) = some (decide (i = j))
  kg_e : ∀ i < 9, PySem.W.kitOne K (.ref (eAd a i)) (.ref a.GalloonError) = some true
  kv_e : ∀ i < 9, PySem.W.kitOne K (.ref (eAd a i)) (.type "ValueError") = some true
  xm_e : ∀ i < 9, PySem.W.exmOne K (.ref (eAd a i)) (.ref a.GalloonError) = some true
  xo_e : ∀ i < 9, ∀ j < 9, PySem.W.exmOne K (.ref (eAd a i)) (.ref (eAd a j)) = some (decide (i = j))
section
variable {P : Program} {w : World} {K : PySem.W.Frag} {mg : Str → Option Value} {base : Heap} {a : Ad}
theorem c_BadScheme (T : Txt K mg a) : CanE P w K mg base a.BadScheme "BadScheme" "part" := canE_of T.e_BadScheme sc_BadScheme___init__ bd_BadScheme___init__ rfl (fun _ _ _ _ _ _ _ => pss_one (ps_ost (pv 0) (pv 1))) rfl
theorem c_BadColumn (T : Txt K mg a) : CanE P w K mg base a.BadColumn "BadColumn" "text" := canE_of T.e_BadColumn sc_BadColumn___init__ bd_BadColumn___init__ rfl (fun _ _ _ _ _ _ _ => pss_one (ps_ost (pv 0) (pv 1))) rfl
theorem c_BadSpots (T : Txt K mg a) : CanE P w K mg base a.BadSpots "BadSpots" "text" := canE_of T.e_BadSpots sc_BadSpots___init__ bd_BadSpots___init__ rfl (fun _ _ _ _ _ _ _ => pss_one (ps_ost (pv 0) (pv 1))) rfl
theorem c_TooMany (T : Txt K mg a) : CanE P w K mg base a.TooMany "TooMany" "most" := canE_of T.e_TooMany sc_TooMany___init__ bd_TooMany___init__ rfl (fun _ _ _ _ _ _ _ => pss_one (ps_ost (pv 0) (pv 1))) rfl
theorem c_BadFont (T : Txt K mg a) : CanE P w K mg base a.BadFont "BadFont" "part" := canE_of T.e_BadFont sc_BadFont___init__ bd_BadFont___init__ rfl (fun _ _ _ _ _ _ _ => pss_one (ps_ost (pv 0) (pv 1))) rfl
theorem c_BadLetter (T : Txt K mg a) : CanE P w K mg base a.BadLetter "BadLetter" "letter" := canE_of T.e_BadLetter sc_BadLetter___init__ bd_BadLetter___init__ rfl (fun _ _ _ _ _ _ _ => pss_one (ps_ost (pv 0) (pv 1))) rfl
theorem c_BadGlyph (T : Txt K mg a) : CanE P w K mg base a.BadGlyph "BadGlyph" "letter" := canE_of T.e_BadGlyph sc_BadGlyph___init__ bd_BadGlyph___init__ rfl (fun _ _ _ _ _ _ _ => pss_one (ps_ost (pv 0) (pv 1))) rfl
theorem c_DuplicateLetter (T : Txt K mg a) : CanE P w K mg base a.DuplicateLetter "DuplicateLetter" "letter" := canE_of T.e_DuplicateLetter sc_DuplicateLetter___init__ bd_DuplicateLetter___init__ rfl (fun _ _ _ _ _ _ _ => pss_one (ps_ost (pv 0) (pv 1))) rfl
theorem c_UnknownLetter (T : Txt K mg a) : CanE2 P w K mg base a.UnknownLetter "UnknownLetter" "letter" "place" := canE2_of T.e_UnknownLetter sc_UnknownLetter___init__ bd_UnknownLetter___init__ rfl (fun _ _ _ _ _ _ _ => pss_cons (ps_ost (pv 0) (pv 1)) (pss_one (ps_ost (pv 0) (pv 2)))) rfl
end
end K32

end
section
set_option Elab.async false
set_option linter.all false
set_option maxRecDepth 100000
set_option maxHeartbeats 4000000
namespace K32
open PySem PySem.Spec PyProof.Rows L2 Kit
section
variable {P : Program} {w : World} {K : PySem.W.Frag} {mg : Str → Option Value} {base : Heap} {a : Ad}
def fl (r c n : Nat) : List (Str × V) := [("rows", .int r), ("colours", .int c), ("columns", tx (cols n))]
def SchemeAt (C : Addr) (H : Hp) (p : Addr) (r c n : Nat) : Prop := (∃ dx, H p = some (.ins C dx (fl r c n))) ∧ Good r c n
theorem SchemeAt.mono {C p : Addr} {H G : Hp} {r c n : Nat} (h : SchemeAt C H p r c n) (e : Same H G) : SchemeAt C G p r c n := ⟨let ⟨dx, z⟩ := h.1; ⟨dx, e _ _ z⟩, h.2⟩
theorem fm (x c : Nat) : ((x : Nat) : Int).fmod ((c : Nat) : Int) = ((x % c : Nat) : Int) := by
  rw [Int.fmod_eq_emod_of_nonneg _ (by omega)]
  exact (Int.natCast_emod x c).symm
theorem fd (x c : Nat) : ((x : Nat) : Int).fdiv ((c : Nat) : Int) = ((x / c : Nat) : Int) := by
  rw [Int.fdiv_eq_ediv_of_nonneg _ (by omega)]
  exact (Int.natCast_ediv x c).symm
theorem k1 : (("colours" : Str) == ("rows" : Str)) = false := by decide +kernel
theorem k2 : (("columns" : Str) == ("rows" : Str)) = false := by decide +kernel
theorem k3 : (("columns" : Str) == ("colours" : Str)) = false := by decide +kernel
theorem fl_rows (r c n : Nat) : (fl r c n).lookup ("rows" : Str) = some (.int r) := by
  unfold fl
  rw [List.lookup_cons, beq_self_eq_true]
theorem fl_colours (r c n : Nat) : (fl r c n).lookup ("colours" : Str) = some (.int c) := by
  unfold fl
  rw [List.lookup_cons, k1, List.lookup_cons, beq_self_eq_true]
theorem fl_columns (r c n : Nat) : (fl r c n).lookup ("columns" : Str) = some (tx (cols n)) := by
  unfold fl
  rw [List.lookup_cons, k2, List.lookup_cons, k3, List.lookup_cons, beq_self_eq_true]
theorem fl_no (r c n : Nat) {m : Str} (h1 : (m == ("rows" : Str)) = false) (h2 : (m == ("colours" : Str)) = false) (h3 : (m == ("columns" : Str)) = false) : (fl r c n).lookup m = none := by
  unfold fl
  rw [List.lookup_cons, h1, List.lookup_cons, h2, List.lookup_cons, h3, List.lookup_nil]
theorem lit_dig : (Str.ofString "012") = S [48, 49, 50] := by decide +kernel
theorem lit_e : (Str.ofString "") = S [] := by decide +kernel
def spIsCol (C : Addr) : Sp := fun vs H Q _ => ∃ (p : Addr) (r c n : Nat) (l : List Nat), vs = [.ref p, tx l] ∧ SchemeAt C H p r c n ∧ l.length ≤ 100000 ∧ Q (.bl (isCol n l)) H
theorem one_in {l : List Nat} (h : l.length = 1) : ∃ x, l = [x] := by
  match l, h with
  | [x], _ => exact ⟨x, rfl⟩
def spIsColour (C : Addr) : Sp := fun vs H Q _ => ∃ (p : Addr) (r c n : Nat) (l : List Nat), vs = [.ref p, tx l] ∧ SchemeAt C H p r c n ∧ l.length ≤ 100000 ∧ Q (.bl (isColour c l)) H
theorem cut_dig {c : Nat} (h : c = 2 ∨ c = 3) : cutS (Str.ofString "012") none (some (c : Int)) = S ((List.range c).map (48 + ·)) := by
  rcases h with rfl | rfl <;> decide +kernel
theorem mem_digs {c x : Nat} : x ∈ (List.range c).map (48 + ·) ↔ inDig c x = true := by
  unfold inDig
  rw [List.mem_map, decide_eq_true_iff]
  constructor
  · rintro ⟨k, hk, rfl⟩
    have := List.mem_range.mp hk
    omega
  · intro h
    exact ⟨x - 48, List.mem_range.mpr (by omega), by omega⟩
theorem good_c {r c n : Nat} (h : Good r c n) : c = 2 ∨ c = 3 := by
  rcases h.cases with h | h | h | h | h <;> omega
theorem at_S {l : List Nat} {i c : Nat} (h : (S l).cps[i]? = some c) : l[i]? = some c := by
  have z : (S l).cps[i]? = l[i]? := List.getElem?_toArray ..
  rw [← z]
  exact h
theorem beq_col (n x : Nat) : decide (x ∈ (S (cols n)).cps.toList) = inCol n x := by
  rw [S_cps]
  by_cases h : inCol n x = true
  · rw [h, decide_eq_true (mem_cols.mpr h)]
  · rw [decide_eq_false (fun q => h (mem_cols.mp q)), Bool.eq_false_iff.mpr h]
theorem all_map {l : List Nat} {f : Nat → Bool} : (l.map f).all id = l.all f := by
  rw [List.all_map]
  rfl
def col0 (l : List Nat) : Nat := l.headD 0 - 97
theorem good_n {r c n : Nat} (h : Good r c n) : n ≤ 9 ∧ 0 < r ∧ r ≤ 3 ∧ 0 < n ∧ 2 ≤ n := by
  rcases h.cases with h | h | h | h | h <;> omega
theorem atI_S {l : List Nat} {i x : Nat} (h : l[i]? = some x) : atI (S l).cps.toList ((i : Nat) : Int) = some x := by
  rw [S_cps]
  exact atI_nat h
theorem lit_at {k : Nat} (h : k < 3) : atI (Str.ofString "012").cps.toList ((k : Nat) : Int) = some (48 + k) := by
  rw [lit_dig]
  refine atI_S ?_
  have z : ∀ k < 3, [48, 49, 50][k]? = some (48 + k) := by decide
  exact z k h
def spSpots (a : Ad) : Sp := fun vs H Q E => ∃ (p : Addr) (r c n : Nat) (l : List Nat), vs = [.ref p, tx l] ∧ SchemeAt a.Scheme H p r c n ∧ l.length ≤ 100000 ∧ (isCol n l = true → Q (tx (dig r c (col0 l))) H) ∧ (isCol n l = false → Ra E a.BadColumn "text" (tx l) H)
theorem isCol_one {n : Nat} {l : List Nat} (h : isCol n l = true) : ∃ x, l = [x] ∧ inCol n x = true := by
  unfold isCol at h
  rw [Bool.and_eq_true, decide_eq_true_iff] at h
  obtain ⟨x, rfl⟩ := one_in h.1
  exact ⟨x, rfl, by simpa using h.2⟩
theorem ord_ab {n x : Nat} (h : inCol n x = true) : (((S [x]).cps.getD 0 0 : Nat) : Int) - (((Str.ofString "a").cps.getD 0 0 : Nat) : Int) = ((x - 97 : Nat) : Int) := by
  have e1 : (S [x]).cps.getD 0 0 = x := rfl
  have e2 : (Str.ofString "a").cps.getD 0 0 = 97 := by decide +kernel
  rw [e1, e2]
  unfold inCol at h
  rw [decide_eq_true_iff] at h
  omega
theorem int_dig {x : Nat} (h : inDig 3 x = true) : PySem.intText? (S [x]) = some ((x - 48 : Nat) : Int) := by
  unfold inDig at h
  rw [decide_eq_true_iff] at h
  have z : ∀ k < 3, PySem.intText? (S [48 + k]) = some ((k : Nat) : Int) := by decide +kernel
  have y := z (x - 48) (by omega)
  rw [show 48 + (x - 48) = x by omega] at y
  exact y
theorem inDig3 {c x : Nat} (hc : c ≤ 3) (h : inDig c x = true) : inDig 3 x = true := by
  unfold inDig at h ⊢
  rw [decide_eq_true_iff] at h ⊢
  omega
theorem isColour_one (c x : Nat) : isColour c [x] = inDig c x := by
  rw [isColour, List.all_cons, List.all_nil, Bool.and_true]
  rfl
theorem num_take {c : Nat} {l : List Nat} {i x : Nat} (h : l[i]? = some x) : num c (l.take (i + 1)) = num c (l.take i) * c + (x - 48) := by
  unfold num
  rw [List.take_add_one, h, List.foldl_append]
  rfl
theorem all_at {l : List Nat} {f : Nat → Bool} (h : l.all f = true) {i x : Nat} (hx : l[i]? = some x) : f x = true := List.all_eq_true.mp h x (List.mem_of_getElem? hx)
theorem cols_at {n k : Nat} (h : k < n) : atI (S (cols n)).cps.toList ((k : Nat) : Int) = some (97 + k) := by
  refine atI_S ?_
  unfold cols
  rw [List.getElem?_map, List.getElem?_range h]
  rfl
def spCol (a : Ad) : Sp := fun vs H Q E => ∃ (p : Addr) (r c n : Nat) (l : List Nat), vs = [.ref p, tx l] ∧ SchemeAt a.Scheme H p r c n ∧ l.length ≤ 100000 ∧ (isDigs r c l = true → ∀ G, Same H G → Q (tx [97 + num c l]) G) ∧ (isDigs r c l = false → Ra E a.BadSpots "text" (tx l) H)
theorem put_fl (x y : V) (n : Nat) (r c : Nat) : putF "columns" (tx (cols n)) (putF "colours" (.int c) (putF "rows" (.int r) [])) = fl r c n := by
  have e1 : ¬ (("rows" : Str) = "colours") := by decide +kernel
  have e2 : ¬ (("rows" : Str) = "columns") := by decide +kernel
  have e3 : ¬ (("colours" : Str) = "columns") := by decide +kernel
  show putF "columns" _ (if ("rows" : Str) = "colours" then _ else _) = _
  rw [if_neg e1]
  show (if ("rows" : Str) = "columns" then _ else (("rows" : Str), V.int r) :: (if ("colours" : Str) = "columns" then _ else _)) = _
  rw [if_neg e2, if_neg e3]
  rfl
def badPart (r c : Int) : Option (List Nat) := if ¬ (r = 1 ∨ r = 2 ∨ r = 3) then some [114, 111, 119, 115] else if ¬ (c = 2 ∨ c = 3) then some [99, 111, 108, 111, 117, 114, 115] else if r = 3 ∧ c = 3 then some [115, 105, 122, 101] else none
def spInit (a : Ad) : Sp := fun vs H Q E => ∃ (p dx : Addr) (r c : Int), vs = [.ref p, .int r, .int c] ∧ H p = some (.ins a.Scheme dx []) ∧ (∀ l, badPart r c = some l → Ra E a.BadScheme "part" (tx l) H) ∧
  (badPart r c = none → ∀ G, (∀ b o, H b = some o → b ≠ p → G b = some o) → (∃ r' c' n : Nat, (r' : Int) = r ∧ (c' : Int) = c ∧ SchemeAt a.Scheme G p r' c' n) → Q .non G)
theorem c_Scheme_init (T : Txt K mg a) : CanN P w K mg base 3 a.Scheme "Scheme" (spInit a) := by
  refine canN_of T.c_Scheme T.m_Scheme___init__ sc_Scheme___init__ bd_Scheme___init__ (fun vs H Q E h => ?_) (fun f cdv A outer s H vs Q E hr h => ?_)
  · obtain ⟨p, dx, r, c, rfl, _⟩ := h
    rfl
  · obtain ⟨p, dx, r, c, rfl, hp, y, z⟩ := h
    refine ⟨_, (pss_cons (ps_if (pt_cmpR (knotin K) (pv 1) (pe_tup (pa_cons pe_int (pa_cons pe_int (pa_cons pe_int pa_nil)))) (by rfl)) (pss_one (pr_err (c_BadScheme T) (takes_of rfl rfl rfl rfl) (by rfl) hr (by decide) (by rfl) pe_str)) pss_nil)
      (pss_cons (ps_if (pt_cmpR (knotin K) (pv 2) (pe_tup (pa_cons pe_int (pa_cons pe_int pa_nil))) (by rfl)) (pss_one (pr_err (c_BadScheme T) (takes_of rfl rfl rfl rfl) (by rfl) hr (by decide) (by rfl) pe_str)) pss_nil)
      (pss_cons (ps_set (i := 3) sc_Scheme___init__.nd rfl (.inl rfl) pe_int)
      (pss_cons (ps_for (passes_of rfl) (by rfl) (pi_range1 (by rfl) T.b_range (pa_cons (pv 1) pa_nil)) (pg_name (i := 4) sc_Scheme___init__.nd rfl (.inl rfl)) (pss_one (ps_set (i := 3) sc_Scheme___init__.nd rfl (.inl rfl) (pe_op op_mul (pv 3) (pv 2)))))
      (pss_cons (ps_if (pt_cmpR op_gt (pv 3) (kcon K (pv 0)) (nomark _)) (pss_one (pr_err (c_BadScheme T) (takes_of rfl rfl rfl rfl) (by rfl) hr (by decide) (by rfl) pe_str)) pss_nil)
      (pss_cons (ps_fld (pv 0) (pv 1) rfl)
      (pss_cons (ps_fld (pv 0) (pv 2) rfl)
      (pss_one (ps_fld (pv 0) (pe_slice sl_str (C8.pe_gc (by rfl) T.g_LETTERS) po_none (po_some (pv 3))) rfl))))))))), ?_⟩
    have nlit : ∀ s : String, (V.str (Str.ofString s)) = tx (Str.ofString s).cps.toList := fun s => rfl
    have bad : ∀ (l : List Nat) (G : Hp), Same H G → badPart r c = some l → Ra E a.BadScheme "part" (tx l) G := fun l G s e => (y l e).mono s
    refine ⟨_, rfl, by show 3 ≤ sizeLine; decide, fun t ht => ⟨t, _, rfl, .inr (seqT_of upd_same), rfl, rfl, _, rfl, ?_⟩⟩
    have s1 : Same H (upd H t (.tup [.int 1, .int 2, .int 3])) := ex_new ht
    have inr3 : inV (.int r) [.int 1, .int 2, .int 3] = decide (r = 1 ∨ r = 2 ∨ r = 3) := by
      show ((1 : Int) == r || ((2 : Int) == r || ((3 : Int) == r || false))) = _
      by_cases h1 : r = 1
      · subst h1; rfl
      · by_cases h2 : r = 2
        · subst h2; rfl
        · by_cases h3 : r = 3
          · subst h3; rfl
          · simp [h1, h2, h3, Ne.symm h1, Ne.symm h2, Ne.symm h3]
    have inc2 : inV (.int c) [.int 2, .int 3] = decide (c = 2 ∨ c = 3) := by
      show ((2 : Int) == c || ((3 : Int) == c || false)) = _
      by_cases h2 : c = 2
      · subst h2; rfl
      · by_cases h3 : c = 3
        · subst h3; rfl
        · simp [h2, h3, Ne.symm h2, Ne.symm h3]
    rw [inr3]
    by_cases hr3 : r = 1 ∨ r = 2 ∨ r = 3
    · rw [decide_eq_true hr3]
      refine iteF ⟨_, rfl, by show 2 ≤ sizeLine; decide, fun u hu => ⟨u, _, rfl, .inr (seqT_of upd_same), rfl, rfl, _, rfl, ?_⟩⟩
      have s2 := s1.trans (ex_new (o := .tup [.int 2, .int 3]) hu)
      rw [inc2]
      by_cases hc2 : c = 2 ∨ c = 3
      · rw [decide_eq_true hc2]
        obtain ⟨r', rfl⟩ : ∃ r' : Nat, (r' : Int) = r := ⟨r.toNat, by omega⟩
        obtain ⟨c', rfl⟩ : ∃ c' : Nat, (c' : Int) = c := ⟨c.toNat, by omega⟩
        have hr' : r' = 1 ∨ r' = 2 ∨ r' = 3 := by omega
        have hc' : c' = 2 ∨ c' = 3 := by omega
        have pw : ∀ i ≤ 3, (-(2 ^ 64) : Int) < ((c' ^ i : Nat) : Int) ∧ ((c' ^ i : Nat) : Int) < 2 ^ 64 := by
          rcases hc' with rfl | rfl <;> decide
        refine iteF ⟨_, rfl, r', rfl, by omega, by omega, ?_⟩
        refine for_it (walk_range (lo := 0) (n := ((r' : Nat) : Int).toNat)) (fun i σ M => M = upd (upd H t _) u _ ∧ ∃ v : Option V, σ = [some (.ref p), some (.int r'), some (.int c'), some (.int ((c' ^ i : Nat) : Int)), v]) ⟨rfl, none, rfl⟩ (fun _ _ _ _ _ => True.intro) ?_ ?_
        · rintro i x σ M M' hi ⟨rfl, v, rfl⟩ ⟨rfl, rfl⟩
          refine ⟨_, rfl, _, rfl, _, _, rfl, rfl, .inl (pw i (by omega)), rfl, some (.int (0 + (i : Nat))), ?_⟩
          show [_, _, _, some (V.int (((c' ^ i : Nat) : Int) * (c' : Int))), _] = [_, _, _, some (V.int ((c' ^ (i + 1) : Nat) : Int)), _]
          rw [Nat.pow_succ, Int.natCast_mul]
        · rintro σ M ⟨rfl, v, rfl⟩
          have hpM := s2 _ _ hp
          obtain ⟨u9, k9⟩ := T.k_MOST
          refine ⟨_, rfl, _, rfl, p, _, dx, _, _, _, rfl, hpM, T.c_Scheme.cl, k9, rfl, _, _, rfl, rfl, _, rfl, ?_⟩
          rw [show ((r' : Nat) : Int).toNat = r' from rfl]
          by_cases h33 : r' = 3 ∧ c' = 3
          · obtain ⟨rfl, rfl⟩ := h33
            refine iteT (Ra.now ?_)
            rw [show V.str (Str.ofString "size") = tx [115, 105, 122, 101] from congrArg V.str (by decide +kernel)]
            exact bad _ _ s2 rfl
          · have hn : ¬ ((9 : Int) < ((c' ^ r' : Nat) : Int)) := by
              rcases hr' with rfl | rfl | rfl <;> rcases hc' with rfl | rfl <;> first | decide | exact absurd ⟨rfl, rfl⟩ h33
            rw [decide_eq_false hn]
            refine iteF ?_
            refine ⟨_, rfl, _, rfl, p, _, dx, [], rfl, hpM, T.c_Scheme.cl, T.n_rows, by show 0 < 1000; decide, _, rfl, _, rfl, p, _, dx, _, rfl, upd_same, T.c_Scheme.cl, T.n_colours, by show 1 < 1000; decide, _, rfl, _, rfl, _, rfl, by decide +kernel, _, rfl, p, _, dx, _, rfl, upd_same, T.c_Scheme.cl, T.n_columns, by show 2 < 1000; decide, ?_⟩
            have gd : Kit.Good r' c' (c' ^ r') := by
              rcases hr' with rfl | rfl | rfl <;> rcases hc' with rfl | rfl <;> first | decide | exact absurd ⟨rfl, rfl⟩ h33
            have ecut : cutS (Str.ofString "abcdefghi") none (some ((c' ^ r' : Nat) : Int)) = S (cols (c' ^ r')) := by
              rcases hr' with rfl | rfl | rfl <;> rcases hc' with rfl | rfl <;> first | decide +kernel | exact absurd ⟨rfl, rfl⟩ h33
            rw [ecut]
            refine z ?_ _ (fun b o e hb => ?_) ⟨r', c', c' ^ r', rfl, rfl, ⟨dx, ?_⟩, gd⟩
            · unfold badPart
              rw [if_neg (fun q => q hr3), if_neg (fun q => q hc2), if_neg (by omega)]
            · rw [upd_ne hb, upd_ne hb, upd_ne hb]
              exact s2 _ _ e
            · exact upd_same.trans (congrArg (fun l => some (HO.ins a.Scheme dx l)) (put_fl .non .non _ _ _))
      · rw [decide_eq_false hc2]
        refine iteT (Ra.now ?_)
        rw [show V.str (Str.ofString "colours") = tx [99, 111, 108, 111, 117, 114, 115] from congrArg V.str (by decide +kernel)]
        refine bad _ _ s2 ?_
        unfold badPart
        rw [if_neg (fun q => q hr3), if_pos hc2]
    · rw [decide_eq_false hr3]
      refine iteT (Ra.now ?_)
      rw [show V.str (Str.ofString "rows") = tx [114, 111, 119, 115] from congrArg V.str (by decide +kernel)]
      refine bad _ _ s1 ?_
      unfold badPart
      rw [if_pos hr3]
def rowsOf (r c : Nat) (l : List Nat) : List (List Nat) := (List.range r).map fun j => l.map fun x => (dig r c (x - 97)).getD j 0
theorem rowsOf_len (r c : Nat) (l : List Nat) : (rowsOf r c l).length = r := by simp [rowsOf]
theorem isCol_mk {n x : Nat} (h : inCol n x = true) : isCol n [x] = true := by
  rw [isCol, List.all_cons, h]
  rfl
theorem join_eq (s : Str) (l : List Str) : Txt.join s l = Str.join s l := StrLaws.glued_eq_join s l
theorem join_ones : ∀ l : List Nat, Txt.join (S []) (l.map fun x => S [x]) = S l
  | [] => rfl
  | [x] => rfl
  | x :: y :: l => by
    have e := join_ones (y :: l)
    have z : Txt.join (S []) ((x :: y :: l).map fun x => S [x]) = S [x] ++ S [] ++ Txt.join (S []) ((y :: l).map fun x => S [x]) := by
      rw [join_eq, join_eq]
      rfl
    rw [z, e, S_app, S_app]
    rfl
theorem sum_ones (l : List Nat) : ((l.map fun x => S [x]).map (·.length)).sum = l.length := by
  induction l with
  | nil => rfl
  | cons x l ih =>
    rw [List.map_cons, List.map_cons, List.sum_cons, ih, List.length_cons]
    show 1 + l.length = _
    omega
theorem sIx_some (n d k : Nat) : HT.sIx n d (some (k : Int)) = min k n := by
  show (if (k : Int) < 0 then ((k : Int) + (n : Int)).toNat else min (k : Int).toNat n) = _
  rw [if_neg (by omega)]
  rfl
theorem sIx_none (n d : Nat) : HT.sIx n d none = d := rfl
theorem cut_take (l : List Nat) (k : Nat) : cutS (S l) none (some (k : Int)) = S (l.take k) := by
  rw [cut_S, sIx_some, sIx_none, List.drop_zero, Nat.sub_zero]
  congr 1
  by_cases h : k ≤ l.length
  · rw [Nat.min_eq_left h]
  · rw [Nat.min_eq_right (by omega), List.take_length, List.take_of_length_le (by omega)]
theorem cut_drop (l : List Nat) (k : Nat) : cutS (S l) (some (k : Int)) none = S (l.drop k) := by
  rw [cut_S, sIx_some, sIx_none]
  congr 1
  by_cases h : k ≤ l.length
  · rw [Nat.min_eq_left h, List.take_of_length_le (by simp)]
  · rw [Nat.min_eq_right (by omega), List.drop_length, List.drop_of_length_le (by omega), List.take_nil]
theorem getD_at {l : List Nat} {i : Nat} (h : i < l.length) : l[i]? = some (l.getD i 0) := by
  rw [List.getD_eq_getElem?_getD, List.getElem?_eq_getElem h]
  rfl
def spEqS (C : Addr) : Sp := fun vs H Q _ => ∃ (p : Addr) (r c n : Nat) (y : V), vs = [.ref p, y] ∧ SchemeAt C H p r c n ∧
  ((∃ i, y = .int i ∧ Q (.bl false) H) ∨ (∃ t, y = .str t ∧ Q (.bl false) H) ∨ ∃ q r2 c2 n2, y = .ref q ∧ SchemeAt C H q r2 c2 n2 ∧ Q (.bl (decide (r = r2) && decide (c = c2))) H)
theorem c_Scheme_eq (T : Txt K mg a) : CanM P w K mg base 1 a.Scheme "__eq__" (spEqS a.Scheme) := by
  refine canM_of T.c_Scheme.cl T.m_Scheme___eq__ sc_Scheme___eq__ bd_Scheme___eq__ (fun vs H Q E h => ?_) (fun f cdv A outer s H vs Q E hr h => ?_)
  · obtain ⟨p, r, c, n, y, rfl, _⟩ := h
    rfl
  · obtain ⟨p, r, c, n, y, rfl, ⟨⟨dx, hp⟩, gd⟩, z⟩ := h
    refine ⟨_, (pss_one (ps_ret (pe_and (pe_callB (kisi K) (by rfl) T.b_isinstance (by decide +kernel) (pa_cons (pv 1) (pa_cons (pe_glob (v := .ref a.Scheme) (by rfl) T.c_Scheme.gC rfl) pa_nil))) (pe_and (pe_cmpR op_eq (kfld K (pv 0)) (kfld K (pv 1)) (nomark _)) (pe_one (pe_cmpR op_eq (kfld K (pv 0)) (kfld K (pv 1)) (nomark _))))))), ?_⟩
    rcases z with ⟨i, rfl, z⟩ | ⟨t, rfl, z⟩ | ⟨q, r2, c2, n2, rfl, ⟨⟨dy, hq⟩, gd2⟩, z⟩
    · exact ⟨_, rfl, _, _, _, _, false, rfl, .own _, .base (.int i), T.i_int, _, rfl, iteF z⟩
    · exact ⟨_, rfl, _, _, _, _, false, rfl, .own _, .base (.str t), T.i_str, _, rfl, iteF z⟩
    · refine ⟨_, rfl, _, _, _, _, true, rfl, .own _, .base (.ins hq T.c_Scheme.cl T.i_ha T.i_hn T.i_ht T.i_hm), T.i_own, _, rfl, iteT ?_⟩
      refine ⟨_, rfl, p, _, dx, _, _, rfl, hp, T.c_Scheme.cl, T.n_rows, fl_rows r c n, _, rfl, q, _, dy, _, _, rfl, hq, T.c_Scheme.cl, T.n_rows, fl_rows r2 c2 n2, rfl, _, rfl, ?_⟩
      refine ite2 (fun h1 => ?_) (fun h1 => ?_)
      · have h1 : r = r2 := by
          have := V.int.inj (of_decide_eq_true h1)
          omega
        subst h1
        refine ⟨_, rfl, p, _, dx, _, _, rfl, hp, T.c_Scheme.cl, T.n_colours, fl_colours r c n, _, rfl, q, _, dy, _, _, rfl, hq, T.c_Scheme.cl, T.n_colours, fl_colours r c2 n2, rfl, ?_⟩
        have e : decide ((V.int (c : Int)) = V.int (c2 : Int)) = (decide (r = r) && decide (c = c2)) := by
          rw [decide_eq_true (rfl : r = r), Bool.true_and]
          by_cases h : c = c2
          · subst h
            rw [decide_eq_true rfl, decide_eq_true rfl]
          · rw [decide_eq_false h, decide_eq_false fun q => h (by have := V.int.inj q; omega)]
        rw [e]
        exact z
      · have h1 : ¬ r = r2 := fun q => h1 (decide_eq_true (by rw [q]))
        rw [decide_eq_false h1] at z
        exact z
theorem at_of_lt {l : List Nat} {d : Int} (h0 : 0 ≤ d) (h1 : d < l.length) : ∃ x, atI (S l).cps.toList d = some x := by
  have e := atI_S (getD_at (l := l) (i := d.toNat) (by omega))
  rw [show ((d.toNat : Nat) : Int) = d by omega] at e
  exact ⟨_, e⟩
theorem str_at {s : String} {n : Nat} (hs : (Str.ofString s).length = n) {d : Int} (h0 : 0 ≤ d) (h1 : d < n) : ∃ x, atI (Str.ofString s).cps.toList d = some x := by
  obtain ⟨l, hl⟩ := S_of (Str.ofString s)
  rw [hl] at hs ⊢
  rw [S_len] at hs
  exact at_of_lt h0 (by omega)
theorem itN {c : Prop} [Decidable c] {A B : Prop} (h : ¬ c) (x : B) : if c then A else B := by
  rw [if_neg h]
  exact x
theorem neT {x : V} {A B : Prop} (h : B) : if (!decide (x = x)) = true then A else B := itN (by rw [decide_eq_true rfl]; decide) h
theorem free_same {H G : Hp} {q : Addr} (s : Same H G) (h : G q = none) : H q = none := by
  cases e : H q with
  | none => rfl
  | some o =>
    rw [s _ _ e] at h
    cases h
theorem lit_c2 : Str.ofString "ab" = S (cols 2) := by decide +kernel
theorem lit_c3 : Str.ofString "abc" = S (cols 3) := by decide +kernel
theorem lit_c4 : Str.ofString "abcd" = S (cols 4) := by decide +kernel
theorem lit_c8 : Str.ofString "abcdefgh" = S (cols 8) := by decide +kernel
theorem lit_c9 : Str.ofString "abcdefghi" = S (cols 9) := by decide +kernel
theorem cols_in {n k : Nat} (h : k < n) : inCol n (97 + k) = true := by
  rw [← beq_col]
  refine decide_eq_true (List.mem_map.mpr ⟨k, List.mem_range.mpr h, rfl⟩)
theorem cols_ln (n : Nat) : (S (cols n)).length = n := by rw [S_len, cols_len]
theorem digs_len {r c : Nat} {l : List Nat} (h : isDigs r c l = true) : l.length = r := by
  unfold isDigs at h
  rw [Bool.and_eq_true, decide_eq_true_iff] at h
  exact h.1
end
end K32


end
section
set_option Elab.async false
set_option linter.all false
set_option maxRecDepth 100000
set_option maxHeartbeats 4000000
namespace K32
open PySem PySem.Spec PyProof.Rows L2 Kit
section
variable {P : Program} {w : World} {K : PySem.W.Frag} {mg : Str → Option Value} {base : Heap} {a : Ad}
def spIsStrip (C : Addr) : Sp := fun vs H Q _ => ∃ (p : Addr) (r c n : Nat) (l : List Nat), vs = [.ref p, tx l] ∧ SchemeAt C H p r c n ∧ l.length ≤ 100000 ∧ ∀ G, Same H G → Q (.bl (isStrip n l)) G
theorem c_Scheme_is_strip (T : Txt K mg a) : CanM P w K mg base 1 a.Scheme "is_strip" (spIsStrip a.Scheme) := by
  refine canM_of T.c_Scheme.cl T.m_Scheme_is_strip sc_Scheme_is_strip bd_Scheme_is_strip (fun vs H Q E h => ?_) (fun f cdv A outer s H vs Q E hr h => ?_)
  · obtain ⟨p, r, c, n, l, rfl, _⟩ := h
    rfl
  · obtain ⟨p, r, c, n, l, rfl, sch, hl, z⟩ := h
    refine ⟨_, (pss_one (ps_ret (pe_callB (kall K (by rfl)) (by rfl) T.b_all (by decide +kernel) (pa_cons (pe_lc (own := [("column", 2)]) (g := gName 2) (tt := tYes) (by rfl) sc_Scheme_is_strip.nd (pi_str (pv 1)) (blkOk_by (N := N_Scheme_is_strip) (sc := defScope s_Scheme_is_strip) (by decide +kernel)) (fun _ _ _ _ _ => (pg_name (i := 2) sc_Scheme_is_strip.nd rfl (.inl rfl))) (fun _ _ _ _ _ => pts_nil) (fun _ _ _ _ _ => (pe_cmpR op_in_sign (pv 2) (kfld K (pv 0)) (by rfl)))) pa_nil)))), ?_⟩
    refine ⟨_, rfl, _, rfl, fun D hD => lc_one walk_str (l.map fun x => V.bl (inCol n x)) (by rw [List.length_map]; exact (S_len l).symm) (by show (S l).length ≤ _; rw [S_len]; exact hl) hD (fun _ _ => True.intro) ?_ ?_⟩
    · rintro i x G G' v hi s1 ⟨rfl, c', hc, rfl⟩ hv
      have hc := at_S hc
      rw [List.getElem?_map, hc] at hv
      cases hv
      obtain ⟨⟨dx, hp⟩, _⟩ := sch.mono s1
      refine ⟨.refl _, fun Q' q => ⟨_, rfl, _, rfl, p, _, dx, _, _, rfl, hp, T.c_Scheme.cl, T.n_columns, fl_columns r c n, c', _, rfl, rfl, ?_⟩⟩
      rw [beq_col]
      exact q _ (.refl _)
    · intro G s1 hG
      refine ⟨D, l.map (inCol n), rfl, seqL_of (by rw [List.map_map]; exact hG), ?_⟩
      rw [all_map]
      exact z G s1
/-! ### gaps, letters, glyphs -/
def gapOk (n : Nat) (l : List Nat) : Bool := isStrip n l && decide (l.length ≤ 3)
def glyphOk (n : Nat) (l : List Nat) : Bool := isStrip n l && (decide (1 ≤ l.length) && decide (l.length ≤ 4))
def inAz (x : Nat) : Bool := decide (65 ≤ x ∧ x < 91)
def isLet (l : List Nat) : Bool := decide (l.length = 1) && l.all inAz
theorem isLet_one (x : Nat) : isLet [x] = inAz x := by
  show (decide (1 = 1) && (inAz x && true)) = _
  rw [Bool.and_true, decide_eq_true rfl, Bool.true_and]
theorem isLet_of {l : List Nat} (h : isLet l = true) : ∃ x, l = [x] ∧ 65 ≤ x ∧ x < 91 := by
  unfold isLet at h
  rw [Bool.and_eq_true, decide_eq_true_iff] at h
  obtain ⟨x, rfl⟩ := List.length_eq_one_iff.mp h.1
  have h2 := h.2
  rw [List.all_cons, List.all_nil, Bool.and_true] at h2
  unfold inAz at h2
  rw [decide_eq_true_iff] at h2
  exact ⟨x, rfl, h2⟩
theorem az_mem (x : Nat) : decide (x ∈ (Str.ofString "ABCDEFGHIJKLMNOPQRSTUVWXYZ").cps.toList) = inAz x := by
  have e : (Str.ofString "ABCDEFGHIJKLMNOPQRSTUVWXYZ").cps.toList = (List.range 26).map (65 + ·) := by decide +kernel
  unfold inAz
  rw [e, decide_eq_decide, List.mem_map]
  constructor
  · rintro ⟨k, hk, rfl⟩
    have := List.mem_range.mp hk
    omega
  · intro h
    exact ⟨x - 65, List.mem_range.mpr (by omega), by omega⟩
def spGap (a : Ad) : Sp := fun vs H Q E => ∃ (s : Addr) (r c n : Nat) (l : List Nat), vs = [.ref s, tx l] ∧ SchemeAt a.Scheme H s r c n ∧ l.length ≤ 1000 ∧ (gapOk n l = true → ∀ G, Same H G → Q .non G) ∧ (gapOk n l = false → Ra E a.BadFont "part" (.str (Str.ofString "gap")) H)
theorem c_check_gap (T : Txt K mg a) : Can P w K mg base 3 "check_gap" (spGap a) := by
  refine can_of T.d_check_gap sc_check_gap bd_check_gap (fun vs H Q E h => ?_) (fun f cdv A outer s0 H vs Q E hr h => ?_)
  · obtain ⟨s, r, c, n, l, rfl, _⟩ := h
    rfl
  · obtain ⟨s, r, c, n, l, rfl, sch, hl, z, y⟩ := h
    refine ⟨_, (pss_one (ps_if (PW.pt (pw_or (pt_not (pt_val (pc_m (c_Scheme_is_strip T) hr (by decide) (pv 0) (pa_cons (pv 1) pa_nil)))) (pw_or1 (pt_cmpR op_gt (pe_callB call_len_str (by rfl) T.b_len (by decide +kernel) (pa_cons (pv 1) pa_nil)) (C8.pe_gc (by rfl) T.g_MOST_GAP) (nomark _))))) (pss_one (pr_err (c_BadFont T) (takes_of rfl rfl rfl rfl) (by rfl) hr (by decide) (by rfl) pe_str)) pss_nil)), ?_⟩
    obtain ⟨dx, hs⟩ := sch.1
    refine ⟨_, rfl, s, dx, _, rfl, hs, fl_no _ _ _ (by decide +kernel) (by decide +kernel) (by decide +kernel), _, rfl, s, r, c, n, l, rfl, sch, by omega, fun G s1 => ⟨_, rfl, ?_⟩⟩
    unfold gapOk at y z
    cases e : isStrip n l with
    | false =>
      rw [e] at y
      exact iteT ((y rfl).mono s1).now
    | true =>
      rw [e, Bool.true_and] at y z
      refine iteF ⟨_, rfl, _, rfl, by rw [S_len]; exact szl (by omega), _, _, rfl, rfl, _, rfl, ?_⟩
      rw [S_len]
      by_cases h : l.length ≤ 3
      · rw [show decide ((3 : Int) < ((l.length : Nat) : Int)) = false from decide_eq_false (by omega)]
        exact iteF (z (decide_eq_true h) G s1)
      · rw [show decide ((3 : Int) < ((l.length : Nat) : Int)) = true from decide_eq_true (by omega)]
        exact iteT ((y (decide_eq_false h)).mono s1).now
def spLetter : Sp := fun vs H Q _ => ∃ (l : List Nat), vs = [tx l] ∧ l.length ≤ 1000 ∧ Q (.bl (isLet l)) H
theorem c_is_letter (T : Txt K mg a) : Can P w K mg base 1 "is_letter" spLetter := by
  refine can_of T.d_is_letter sc_is_letter bd_is_letter (fun vs H Q E h => ?_) (fun f cdv A outer s0 H vs Q E hr h => ?_)
  · obtain ⟨l, rfl, _⟩ := h
    rfl
  · obtain ⟨l, rfl, hl, z⟩ := h
    refine ⟨_, (pss_one (ps_ret (pe_and (pe_cmpR op_eq (pe_callB call_len_str (by rfl) T.b_len (by decide +kernel) (pa_cons (pv 0) pa_nil)) pe_int (nomark _)) (pe_one (pe_cmpR op_in_sign (pv 0) (C8.pe_gc (by rfl) T.g_ALPHABET) (by rfl)))))), ?_⟩
    refine ⟨_, rfl, _, rfl, by rw [S_len]; exact szl (by omega), rfl, ?_⟩
    rw [S_len]
    by_cases h : l.length = 1
    · obtain ⟨x, rfl⟩ := List.length_eq_one_iff.mp h
      rw [show decide (V.int (([x].length : Nat) : Int) = V.int 1) = true from decide_eq_true rfl]
      refine ⟨_, rfl, iteT ⟨_, rfl, x, _, rfl, rfl, ?_⟩⟩
      rw [az_mem, ← isLet_one]
      exact z
    · have e : isLet l = false := by unfold isLet; rw [decide_eq_false h, Bool.false_and]
      rw [e] at z
      rw [show decide (V.int ((l.length : Nat) : Int) = V.int 1) = false from decide_eq_false fun q => h (by injection q with q; omega)]
      exact ⟨_, rfl, iteF z⟩
end
end K32

end
section
set_option Elab.async false
set_option linter.all false
set_option maxRecDepth 100000
set_option maxHeartbeats 4000000
namespace K32
open PySem PySem.Spec PyProof.Rows L2 Kit
abbrev Pr := List Nat × List Nat
def PairsL (H : Hp) (ws : List V) (ps : List Pr) : Prop := ws.length = ps.length ∧ ∀ (i : Nat) (p : Pr), ps[i]? = some p → ∃ u, ws[i]? = some (.ref u) ∧ H u = some (.tup [tx p.1, tx p.2])
theorem PairsL.mono {H G : Hp} {ws : List V} {ps : List Pr} (h : PairsL H ws ps) (e : Same H G) : PairsL G ws ps := ⟨h.1, fun i k hk => let ⟨p, h1, h2⟩ := h.2 i k hk; ⟨p, h1, e _ _ h2⟩⟩
theorem ne_some {H : Hp} {u b : Addr} {o : HO} (h : H u = none) (e : H b = some o) : b ≠ u := fun x => by rw [x, h] at e; cases e
theorem PairsL.upd {H : Hp} {us : List V} {cs : List Pr} {L : Addr} {xs ys : List V} (h : PairsL H us cs) (hL : H L = some (.lst xs)) : PairsL (upd H L (.lst ys)) us cs := ⟨h.1, fun i g hg => let ⟨u, h1, h2⟩ := h.2 i g hg; ⟨u, h1, by
  by_cases e : u = L
  · rw [e, hL] at h2; cases h2
  · rw [upd_ne e]; exact h2⟩⟩
theorem PairsL.snoc {H : Hp} {us : List V} {cs : List Pr} {u : Addr} {k : Pr} (h : PairsL H us cs) (hu : H u = some (.tup [tx k.1, tx k.2])) : PairsL H (us ++ [.ref u]) (cs ++ [k]) := by
  refine ⟨by rw [List.length_append, List.length_append, h.1]; rfl, fun i x hx => ?_⟩
  by_cases hi : i < cs.length
  · rw [List.getElem?_append_left hi] at hx
    rw [List.getElem?_append_left (by rw [h.1]; exact hi)]
    exact h.2 i x hx
  · have e : i = cs.length := by
      have := (List.getElem?_eq_some_iff.mp hx).1
      rw [List.length_append, List.length_singleton] at this
      omega
    rw [e, List.getElem?_append_right (Nat.le_refl _), Nat.sub_self] at hx
    have ex : k = x := Option.some.inj hx
    refine ⟨u, ?_, ex ▸ hu⟩
    rw [e, ← h.1, List.getElem?_append_right (Nat.le_refl _), Nat.sub_self]
    rfl
/-- what is wrong with the pairs of a letter and a glyph: the first thing -/
inductive Fe
  | letter (l : List Nat)
  | glyph (l : List Nat)
  | dup (l : List Nat)
def faultF (n : Nat) : List Pr → List (List Nat) → Option Fe
  | [], _ => none
  | p :: ps, met => if isLet p.1 = false then some (.letter p.1) else if glyphOk n p.2 = false then some (.glyph p.1) else if p.1 ∈ met then some (.dup p.1) else faultF n ps (met ++ [p.1])
def Fe.Ra (E : XK) (a : Ad) (H : Hp) : Fe → Prop
  | .letter l => Kit.Ra E a.BadLetter "letter" (tx l) H
  | .glyph l => Kit.Ra E a.BadGlyph "letter" (tx l) H
  | .dup l => Kit.Ra E a.DuplicateLetter "letter" (tx l) H
theorem Fe.Ra.mono {E : XK} {a : Ad} {H G : Hp} {f : Fe} (h : f.Ra E a H) (s : Same H G) : f.Ra E a G := by
  cases f with
  | letter l => exact Kit.Ra.mono (show Kit.Ra E a.BadLetter "letter" (tx l) H from h) s
  | glyph l => exact Kit.Ra.mono (show Kit.Ra E a.BadGlyph "letter" (tx l) H from h) s
  | dup l => exact Kit.Ra.mono (show Kit.Ra E a.DuplicateLetter "letter" (tx l) H from h) s
def kvF (ps : List Pr) : List (Key × V) := ps.map fun p => (Sum.inr (S p.1), tx p.2)
def gly (ps : List Pr) (l : List Nat) : List Nat := ((ps.find? fun p => decide (p.1 = l)).map (·.2)).getD []
def srt (ps : List Pr) : List Nat := ((List.range 26).map (65 + ·)).filter fun x => decide ([x] ∈ ps.map (·.1))
def ordF (ps : List Pr) : List Pr := (srt ps).map fun x => ([x], gly ps [x])
theorem kvF_get (ps : List Pr) (l : List Nat) : valV (kvF ps) (Sum.inr (S l)) = if l ∈ ps.map (·.1) then some (tx (gly ps l)) else none := by
  induction ps with
  | nil => rfl
  | cons p ps ih =>
    have e : kvF (p :: ps) = (Sum.inr (S p.1), tx p.2) :: kvF ps := rfl
    rw [e]
    by_cases h : p.1 = l
    · subst h
      rw [valV_pos rfl, List.map_cons, if_pos List.mem_cons_self]
      unfold gly
      rw [List.find?_cons_of_pos (by exact decide_eq_true rfl)]
      rfl
    · have hk : ¬ (Sum.inr (S p.1) : Key) = Sum.inr (S l) := fun q => h (S_inj (Sum.inr.inj q))
      rw [valV_neg hk, ih]
      have eg : gly (p :: ps) l = gly ps l := by
        unfold gly
        rw [List.find?_cons_of_neg (by rw [decide_eq_false h]; decide)]
      rw [eg, List.map_cons]
      by_cases m : l ∈ ps.map (·.1)
      · rw [if_pos m, if_pos (List.mem_cons_of_mem _ m)]
      · rw [if_neg m, if_neg fun q => (List.mem_cons.mp q).elim (fun e => h e.symm) m]
theorem kvF_put {ps : List Pr} {p : Pr} (h : p.1 ∉ ps.map (·.1)) : putK (kvF ps) (Sum.inr (S p.1)) (tx p.2) = kvF (ps ++ [p]) := by
  unfold putK
  have e : ((kvF ps).any fun kv => decide (kv.1 = Sum.inr (S p.1))) = false := by
    rw [List.any_eq_false]
    intro x hx
    obtain ⟨y, hy, rfl⟩ := List.mem_map.mp hx
    rw [decide_eq_true_iff]
    exact fun q => h (List.mem_map.mpr ⟨y, hy, S_inj (Sum.inr.inj q)⟩)
  rw [e, if_neg (by decide)]
  unfold kvF
  rw [List.map_append]
  rfl
theorem srt_pw (ps : List Pr) : (srt ps).Pairwise (· < ·) := by
  unfold srt
  refine List.Pairwise.filter _ ?_
  rw [List.pairwise_map]
  exact List.pairwise_lt_range.imp fun h => by omega
theorem mem_srt {ps : List Pr} {x : Nat} : x ∈ srt ps ↔ (65 ≤ x ∧ x < 91) ∧ [x] ∈ ps.map (·.1) := by
  unfold srt
  rw [List.mem_filter, List.mem_map, decide_eq_true_iff]
  refine and_congr_left' ⟨?_, fun h => ⟨x - 65, List.mem_range.mpr (by omega), by omega⟩⟩
  rintro ⟨k, hk, rfl⟩
  have := List.mem_range.mp hk
  omega
/-- what a list of pairs without fault is -/
theorem fault_none {n : Nat} : ∀ {ps : List Pr} {met : List (List Nat)}, faultF n ps met = none → (∀ p ∈ ps, isLet p.1 = true ∧ glyphOk n p.2 = true ∧ p.1 ∉ met) ∧ (ps.map (·.1)).Nodup
  | [], _, _ => ⟨nofun, List.Pairwise.nil⟩
  | p :: ps, met, h => by
    unfold faultF at h
    split at h
    · cases h
    · rename_i h1
      split at h
      · cases h
      · rename_i h2
        split at h
        · cases h
        · rename_i h3
          obtain ⟨i1, i2⟩ := fault_none (ps := ps) h
          refine ⟨fun q hq => ?_, List.pairwise_cons.mpr ⟨fun l hl e => ?_, i2⟩⟩
          · rcases List.mem_cons.mp hq with rfl | hq
            · exact ⟨by simpa using h1, by simpa using h2, h3⟩
            · obtain ⟨j1, j2, j3⟩ := i1 q hq
              exact ⟨j1, j2, fun m => j3 (List.mem_append_left _ m)⟩
          · obtain ⟨q, hq, rfl⟩ := List.mem_map.mp hl
            have e : p.1 = q.1 := e
            exact (i1 q hq).2.2 (List.mem_append_right _ (by rw [← e]; exact List.mem_singleton.mpr rfl))
theorem lt1 (x y : Nat) : ltCps (S [x]).cps.toList (S [y]).cps.toList = decide (x < y) := by
  show (decide (x < y) || (x == y && ltCps [] [])) = _
  rw [show ltCps [] [] = false from rfl, Bool.and_false, Bool.or_false]
theorem rising_pw : ∀ {zs : List Nat} {x : Nat}, risingS (S [x]) (zs.map fun x => S [x]) = true → (x :: zs).Pairwise (· ≤ ·)
  | [], x, _ => List.pairwise_singleton _ _
  | z :: zs, x, h => by
    have h' : (!ltCps (S [z]).cps.toList (S [x]).cps.toList && risingS (S [z]) (zs.map fun x => S [x])) = true := h
    rw [lt1, Bool.and_eq_true] at h'
    have ih := rising_pw h'.2
    have hx : x ≤ z := by
      have := h'.1
      simp at this
      exact this
    obtain ⟨i1, i2⟩ := List.pairwise_cons.mp ih
    refine List.pairwise_cons.mpr ⟨fun y hy => ?_, ih⟩
    rcases List.mem_cons.mp hy with e | e
    · rw [e]
      exact hx
    · have := i1 y e
      omega
theorem sorted_any {l acc : List Nat} {ys : List Str} (nd : acc.Nodup) (hm : ∀ c, c ∈ acc ↔ c ∈ l) (hp : ys.Perm (acc.map fun x => S [x])) (hs : sortedS ys = true) : ∃ zs : List Nat, ys = (zs.map fun x => S [x]) ∧ zs.Pairwise (· < ·) ∧ ∀ x, x ∈ zs ↔ x ∈ l := by
  obtain ⟨zs, rfl⟩ : ∃ zs : List Nat, ys = zs.map fun x => S [x] := by
    refine ⟨ys.map fun y => y.cps.toList.headD 0, ?_⟩
    rw [List.map_map]
    refine (List.map_congr_left fun y hy => ?_).trans (List.map_id _) |>.symm
    obtain ⟨x, hx, rfl⟩ := List.mem_map.mp (hp.mem_iff.mp hy)
    rfl
  have inj : ∀ x y : Nat, S [x] = S [y] → x = y := fun x y e => (List.cons.inj (S_inj e)).1
  have mem : ∀ x, x ∈ zs ↔ x ∈ acc := fun x => by
    have := hp.mem_iff (a := S [x])
    constructor
    · intro h
      obtain ⟨y, hy, e⟩ := List.mem_map.mp (this.mp (List.mem_map_of_mem h))
      exact inj _ _ e ▸ hy
    · intro h
      obtain ⟨y, hy, e⟩ := List.mem_map.mp (this.mpr (List.mem_map_of_mem h))
      exact inj _ _ e ▸ hy
  have ndS : (acc.map fun x => S [x]).Nodup := by
    unfold List.Nodup
    rw [List.pairwise_map]
    exact nd.imp fun h e => h (inj _ _ e)
  have ndz : zs.Nodup := by
    have := hp.nodup_iff.mpr ndS
    unfold List.Nodup at this
    rw [List.pairwise_map] at this
    exact this.imp fun h e => h (by rw [e])
  have pw : zs.Pairwise (· ≤ ·) := by
    cases zs with
    | nil => exact List.Pairwise.nil
    | cons z zs => exact rising_pw hs
  have pw2 : zs.Pairwise (· < ·) := (pw.and ndz).imp fun h => Nat.lt_of_le_of_ne h.1 h.2
  exact ⟨zs, rfl, pw2, fun x => (mem x).trans (hm x)⟩
theorem pw_sub : ∀ {l m : List Nat}, l.Pairwise (· < ·) → m.Pairwise (· < ·) → (∀ x ∈ l, x ∈ m) → l.Sublist m
  | [], m, _, _, _ => List.nil_sublist m
  | x :: l, [], _, _, h => absurd (h x List.mem_cons_self) (by simp)
  | x :: l, y :: m, hl, hm, h => by
    obtain ⟨l1, l2⟩ := List.pairwise_cons.mp hl
    obtain ⟨m1, m2⟩ := List.pairwise_cons.mp hm
    by_cases e : x = y
    · subst e
      refine .cons₂ _ (pw_sub l2 m2 fun z hz => ?_)
      rcases List.mem_cons.mp (h z (List.mem_cons_of_mem _ hz)) with q | q
      · have := l1 z hz
        omega
      · exact q
    · have hx : x ∈ m := by
        rcases List.mem_cons.mp (h x List.mem_cons_self) with q | q
        · exact absurd q e
        · exact q
      have hyx := m1 x hx
      refine .cons _ (pw_sub hl m2 fun z hz => ?_)
      rcases List.mem_cons.mp (h z hz) with q | q
      · rcases List.mem_cons.mp hz with k | k
        · omega
        · have := l1 z k
          omega
      · exact q
theorem asc_ext {l m : List Nat} (hl : l.Pairwise (· < ·)) (hm : m.Pairwise (· < ·)) (h : ∀ x, x ∈ l ↔ x ∈ m) : l = m := (pw_sub hl hm fun x => (h x).mp).eq_of_length_le (pw_sub hm hl fun x => (h x).mpr).length_le
def ff (s : Addr) (gap : List Nat) (q d : Addr) : List (Str × V) := [("scheme", .ref s), ("gap", tx gap), ("glyphs", .ref q), ("_told", .ref d)]
theorem ff_scheme (s : Addr) (g : List Nat) (q d : Addr) : (ff s g q d).lookup ("scheme" : Str) = some (.ref s) := by kernel_rfl
theorem ff_gap (s : Addr) (g : List Nat) (q d : Addr) : (ff s g q d).lookup ("gap" : Str) = some (tx g) := by kernel_rfl
theorem ff_glyphs (s : Addr) (g : List Nat) (q d : Addr) : (ff s g q d).lookup ("glyphs" : Str) = some (.ref q) := by kernel_rfl
theorem ff_told (s : Addr) (g : List Nat) (q d : Addr) : (ff s g q d).lookup ("_told" : Str) = some (.ref d) := by kernel_rfl
theorem put_ff (s : Addr) (g : List Nat) (q d : Addr) : putF "_told" (.ref d) (putF "glyphs" (.ref q) (putF "gap" (tx g) (putF "scheme" (.ref s) []))) = ff s g q d := by kernel_rfl
structure FontAt (a : Ad) (H : Hp) (p s : Addr) (r c n : Nat) (gap : List Nat) (ps : List Pr) : Prop where
  sch : SchemeAt a.Scheme H s r c n
  ob : ∃ dx gq td ws, H p = some (.ins a.Font dx (ff s gap gq td)) ∧ H gq = some (.lst ws) ∧ PairsL H ws (ordF ps) ∧ H td = some (.dK (kvF ps))
  gap : gapOk n gap = true
  len : ps.length ≤ 6
  ok : faultF n ps [] = none
theorem FontAt.mono {a : Ad} {H G : Hp} {p s : Addr} {r c n : Nat} {gap : List Nat} {ps : List Pr} (h : FontAt a H p s r c n gap ps) (e : Same H G) : FontAt a G p s r c n gap ps := by
  obtain ⟨dx, gq, td, ws, h1, h2, h3, h4⟩ := h.ob
  exact ⟨h.sch.mono e, ⟨dx, gq, td, ws, e _ _ h1, e _ _ h2, h3.mono e, e _ _ h4⟩, h.gap, h.len, h.ok⟩
/-- what stands when a list of the heap H is changed -/
def FontFr (a : Ad) (H G : Hp) (p s : Addr) (r c n : Nat) (gap : List Nat) (ps : List Pr) : Prop := ∀ b xs ys, H b = some (.lst xs) → FontAt a (upd G b (.lst ys)) p s r c n gap ps
theorem FontFr.same {a : Ad} {H0 H G : Hp} {p s : Addr} {r c n : Nat} {gap : List Nat} {ps : List Pr} (h : FontFr a H G p s r c n gap ps) (e : Same H0 H) : FontFr a H0 G p s r c n gap ps := fun b xs ys k => h b xs ys (e _ _ k)
def smallP (ps : List Pr) : Prop := ∀ p ∈ ps, p.1.length ≤ 1000 ∧ p.2.length ≤ 1000
section
variable {P : Program} {w : World} {K : PySem.W.Frag} {mg : Str → Option Value} {base : Heap} {a : Ad}
def spFInit (a : Ad) : Sp := fun vs H Q E => ∃ (p dx s q : Addr) (r c n : Nat) (gap : List Nat) (ws : List V) (ps : List Pr), vs = [.ref p, .ref s, tx gap, .ref q] ∧ H p = some (.ins a.Font dx []) ∧ SchemeAt a.Scheme H s r c n ∧ H q = some (.lst ws) ∧ PairsL H ws ps ∧ gap.length ≤ 1000 ∧ smallP ps ∧ ps.length ≤ 600 ∧
  (gapOk n gap = false → Ra E a.BadFont "part" (.str (Str.ofString "gap")) H) ∧ (gapOk n gap = true → 6 < ps.length → Ra E a.TooMany "most" (.int 6) H) ∧ (gapOk n gap = true → ps.length ≤ 6 → ∀ f, faultF n ps [] = some f → f.Ra E a H) ∧
  (gapOk n gap = true → ps.length ≤ 6 → faultF n ps [] = none → ∀ G, (∀ b o, H b = some o → b ≠ p → G b = some o) → FontAt a G p s r c n gap ps → FontFr a H G p s r c n gap ps → Q .non G)
theorem c_Font_init (T : Txt K mg a) : CanN P w K mg base 5 a.Font "Font" (spFInit a) := by
  refine canN_of T.c_Font T.m_Font___init__ sc_Font___init__ bd_Font___init__ (fun vs H Q E h => ?_) (fun f cdv A outer s0 H vs Q E hr h => ?_)
  · obtain ⟨p, dx, s, q, r, c, n, gap, ws, ps, rfl, _⟩ := h
    rfl
  · obtain ⟨p, dx, s, q, r, c, n, gap, ws, ps, rfl, hp, sch, hq, hcl, lg, small, hlen, y1, y2, y3, z⟩ := h
    refine ⟨_, (pss_cons (ps_expr (pc_fS (c_check_gap T) (takes_of rfl rfl rfl rfl) hr (by decide) (by rfl) (pa_cons (pv 1) (pa_cons (pv 2) pa_nil))))
      (pss_cons (ps_if (pt_cmpR op_gt (pe_callB (klen_seq K) (by rfl) T.b_len (by decide +kernel) (pa_cons (pv 3) pa_nil)) (kcon K (pv 0)) (nomark _)) (pss_one (pr_err (c_TooMany T) (takes_of rfl rfl rfl rfl) (by rfl) hr (by decide) (by rfl) (kcon K (pv 0)))) pss_nil)
      (pss_cons (ps_set (i := 4) sc_Font___init__.nd rfl (.inr rfl) pe_dnewK)
      (pss_cons (ps_for (passes_of rfl) (by rfl) (kpi_list K (pv 3)) (pg_tup rfl (pgs_cons (pg_name (i := 5) sc_Font___init__.nd rfl (.inl rfl)) (pgs_cons (pg_name (i := 6) sc_Font___init__.nd rfl (.inl rfl)) pgs_nil))) (pss_cons (ps_if (pt_not (pt_val (pc_f (c_is_letter T) hr (by decide) (by rfl) (pa_cons (pv 5) pa_nil)))) (pss_one (pr_err (c_BadLetter T) (takes_of rfl rfl rfl rfl) (by rfl) hr (by decide) (by rfl) (pv 5))) pss_nil)
      (pss_cons (ps_if (PW.pt (pw_or (pt_not (pt_val (pc_m (c_Scheme_is_strip T) hr (by decide) (pv 1) (pa_cons (pv 6) pa_nil)))) (pw_or1 (pt_not (pt_chain op_le op_le pe_int (pe_callB call_len_str (by rfl) T.b_len (by decide +kernel) (pa_cons (pv 6) pa_nil)) (C8.pe_gc (by rfl) T.g_MOST_GLYPH)))))) (pss_one (pr_err (c_BadGlyph T) (takes_of rfl rfl rfl rfl) (by rfl) hr (by decide) (by rfl) (pv 5))) pss_nil)
      (pss_cons (ps_if (pt_cmp (pc_din (units1 hr) (pv 5) (pv 4))) (pss_one (pr_err (c_DuplicateLetter T) (takes_of rfl rfl rfl rfl) (by rfl) hr (by decide) (by rfl) (pv 5))) pss_nil)
      (pss_one (ps_asg (pv 6) (pg_sub (pv 4) (pv 5) (set_dict (units1 hr)))))))))
      (pss_cons (ps_fld (pv 0) (pv 1) rfl)
      (pss_cons (ps_fld (pv 0) (pv 2) rfl)
      (pss_cons (ps_fld (pv 0) (pe_lc (own := [("letter", 5)]) (g := gName 5) (tt := tYes) (by rfl) sc_Font___init__.nd (kpi_list K (pe_callB (call_sortedD (by rfl)) (by rfl) T.b_sorted (by decide +kernel) (pa_cons (pv 4) pa_nil))) (blkOk_by (N := N_Font___init__) (sc := defScope s_Font___init__) (by decide +kernel)) (fun _ _ _ _ _ => (pg_name (i := 5) sc_Font___init__.nd rfl (.inl rfl))) (fun _ _ _ _ _ => pts_nil) (fun _ _ _ _ _ => (pe_tup (pa_cons (pv 5) (pa_cons (pe_dget (units1 hr) (pv 4) (pv 5) (fun _ _ => rfl)) pa_nil))))) rfl)
      (pss_one (ps_fld (pv 0) (pv 4) rfl))))))))), ?_⟩
    obtain ⟨sx, hs⟩ := sch.1
    have gn := good_n sch.2
    have nsp : s ≠ p := fun e => by rw [e, hp] at hs; injection hs with e1; injection e1 with e2 e3 e4; exact absurd e4 (by simp [fl])
    have nqp : q ≠ p := fun e => by rw [e, hp] at hq; cases hq
    have lw : ws.length = ps.length := hcl.1
    refine ⟨_, rfl, _, rfl, s, r, c, n, gap, rfl, sch, lg, fun g1 G1 s1 => ?_, fun g0 => y1 g0⟩
    have y2 := y2 g1
    have y3 := y3 g1
    have z := z g1
    obtain ⟨u9, k9⟩ := T.k_FMOST
    have hd6 : decide ((6 : Int) < ((ps.length : Nat) : Int)) = decide (6 < ps.length) := by rw [decide_eq_decide]; omega
    refine ⟨_, rfl, q, _, rfl, .inl (seqL_of (s1 _ _ hq)), _, rfl, p, _, dx, _, _, _, rfl, s1 _ _ hp, T.c_Font.cl, k9, rfl, _, _, rfl, rfl, _, rfl, ?_⟩
    rw [lw, hd6]
    by_cases c6 : 6 < ps.length
    · rw [decide_eq_true c6]
      exact iteT ⟨_, rfl, p, _, dx, _, _, _, rfl, s1 _ _ hp, T.c_Font.cl, k9, rfl, ((y2 c6).mono s1).now⟩
    rw [decide_eq_false c6]
    have h6 : ps.length ≤ 6 := by omega
    have y3 := y3 h6
    have z := z h6
    refine iteF ?_
    intro td htd
    have s2 := s1.trans (ex_new (o := .dK []) htd)
    have htd0 := free_same s1 htd
    refine ⟨_, rfl, q, rfl, ⟨_, seqL_of (s2 _ _ hq)⟩, for_it (walk_list (xs := ws)) (fun i σ G => Same H G ∧ G td = some (.dK (kvF (ps.take i))) ∧ faultF n (ps.drop i) ((ps.take i).map (·.1)) = faultF n ps [] ∧ ∃ u v : Option V, σ = [some (.ref p), some (.ref s), some (tx gap), some (.ref q), some (.ref td), u, v]) ⟨s2, upd_same, rfl, none, none, rfl⟩ (fun i σ G _ h => seqL_of (h.1 _ _ hq)) ?_ ?_⟩
    · rintro i x σ G0 G hi ⟨s3, hT, hf, u, v, rfl⟩ ⟨rfl, hx⟩
      have hi : i < ps.length := by rw [← lw]; exact hi
      have hk : ps[i]? = some ps[i] := List.getElem?_eq_getElem hi
      have hd : ps.drop i = ps[i] :: ps.drop (i + 1) := List.drop_eq_getElem_cons hi
      obtain ⟨b, hb, hcb⟩ := hcl.2 i _ hk
      have ey : V.ref b = x := Option.some.inj (hb.symm.trans hx)
      subst ey
      obtain ⟨l1, l2⟩ := small _ (List.getElem_mem hi)
      have htk : ps.take (i + 1) = ps.take i ++ [ps[i]] := by rw [List.take_add_one, hk]; rfl
      rw [hd] at hf
      rw [htk]
      generalize ps[i] = k at hk hd hcb l1 l2 hf htk
      have hf : (if isLet k.1 = false then some (Fe.letter k.1) else if glyphOk n k.2 = false then some (.glyph k.1) else if k.1 ∈ (ps.take i).map (·.1) then some (.dup k.1) else faultF n (ps.drop (i + 1)) ((ps.take i).map (·.1) ++ [k.1])) = faultF n ps [] := hf
      refine ⟨b, _, rfl, seqT_of (s3 _ _ hcb), rfl, _, _, rfl, _, _, rfl, rfl, ?_⟩
      refine ⟨_, rfl, k.1, rfl, l1, _, rfl, ?_⟩
      cases e1 : isLet k.1 with
      | false =>
        rw [e1, if_pos rfl] at hf
        exact iteT ⟨_, rfl, (show Kit.Ra E a.BadLetter "letter" (tx k.1) G from Kit.Ra.mono (y3 _ hf.symm) s3).now⟩
      | true =>
        rw [e1, if_neg (by decide)] at hf
        refine iteF ?_
        have bad : glyphOk n k.2 = false → Kit.Ra E a.BadGlyph "letter" (tx k.1) G := fun h => by
          rw [if_pos h] at hf
          exact Kit.Ra.mono (y3 _ hf.symm) s3
        refine ⟨_, rfl, s, sx, _, rfl, s3 _ _ hs, fl_no _ _ _ (by decide +kernel) (by decide +kernel) (by decide +kernel), _, rfl, s, r, c, n, k.2, rfl, sch.mono s3, by omega, fun G3 s4 => ⟨_, rfl, ?_⟩⟩
        unfold glyphOk at bad hf
        cases e2 : isStrip n k.2 with
        | false =>
          rw [e2] at bad
          exact iteT ⟨_, rfl, ((bad rfl).mono s4).now⟩
        | true =>
          rw [e2, Bool.true_and] at bad hf
          refine iteF ?_
          have raise : (decide (1 ≤ k.2.length) && decide (k.2.length ≤ 4)) = false → Kit.Ra E a.BadGlyph "letter" (tx k.1) G3 := fun h => (bad h).mono s4
          have s5 := s3.trans s4
          have hT4 := s4 _ _ hT
          refine ⟨_, rfl, _, rfl, by rw [S_len]; exact szl (by omega), _, _, rfl, rfl, _, rfl, ?_⟩
          rw [S_len, show decide ((1 : Int) ≤ ((k.2.length : Nat) : Int)) = decide (1 ≤ k.2.length) by rw [decide_eq_decide]; omega]
          by_cases g1' : 1 ≤ k.2.length
          · rw [decide_eq_true g1']
            refine iteT ⟨_, _, rfl, rfl, _, rfl, ?_⟩
            rw [show decide (((k.2.length : Nat) : Int) ≤ 4) = decide (k.2.length ≤ 4) by rw [decide_eq_decide]; omega]
            by_cases g2' : k.2.length ≤ 4
            · rw [decide_eq_true g2']
              refine iteF ?_
              rw [decide_eq_true g1', decide_eq_true g2', if_neg (by decide)] at hf
              refine ⟨_, rfl, _, rfl, td, _, rfl, DGet.k (k := Sum.inr (S k.1)) hT4, _, rfl, ?_⟩
              rw [kvF_get]
              by_cases m : k.1 ∈ (ps.take i).map (·.1)
              · rw [if_pos m] at hf ⊢
                exact iteT ⟨_, rfl, (show Kit.Ra E a.DuplicateLetter "letter" (tx k.1) G3 from Kit.Ra.mono (y3 _ hf.symm) s5).now⟩
              · rw [if_neg m] at hf ⊢
                refine iteF ⟨_, rfl, _, rfl, _, rfl, td, _, rfl, .inl ⟨_, Sum.inr (S k.1), hT4, rfl, ?_, rfl⟩, ?_⟩
                · unfold kvF
                  rw [List.length_map, List.length_take]
                  exact szlt (by omega)
                rw [kvF_put m]
                exact ⟨ex_mut s5 htd0, upd_same, by rw [List.map_append]; exact hf, _, _, rfl⟩
            · rw [decide_eq_false g2']
              exact iteT ⟨_, rfl, (raise (by rw [decide_eq_false g2', Bool.and_false])).now⟩
          · rw [decide_eq_false g1']
            exact iteF ⟨_, rfl, iteT ⟨_, rfl, (raise (by rw [decide_eq_false g1', Bool.false_and])).now⟩⟩
    · rintro σ G ⟨s3, hT, hf, u, v, rfl⟩
      rw [List.take_of_length_le (by omega)] at hT
      rw [List.drop_of_length_le (by omega)] at hf
      have hfn : faultF n ps [] = none := hf.symm
      have z := z hfn
      obtain ⟨fl1, fl2⟩ := fault_none hfn
      have keepC : ∀ {M : Hp}, (∀ b o, G b = some o → b ≠ p → M b = some o) → ∀ b o, H b = some o → b ≠ p → M b = some o := fun km b o e hb => km b o (s3 _ _ e) hb
      have ntp : td ≠ p := fun e => by rw [e, s3 _ _ hp] at hT; cases hT
      refine ⟨_, rfl, _, rfl, p, _, dx, [], rfl, s3 _ _ hp, T.c_Font.cl, T.y_scheme, by show 0 < 1000; decide, ?_⟩
      refine ⟨_, rfl, _, rfl, p, _, dx, _, rfl, upd_same, T.c_Font.cl, T.y_gap, by show 1 < 1000; decide, ?_⟩
      rw [upd_upd]
      have k2 : ∀ b o, G b = some o → b ≠ p → (upd G p (.ins a.Font dx (putF "gap" (tx gap) (putF "scheme" (.ref s) [])))) b = some o := fun b o e hb => by rw [upd_ne hb]; exact e
      generalize hM : upd G p (.ins a.Font dx (putF "gap" (tx gap) (putF "scheme" (.ref s) []))) = M at k2
      have hMp : M p = some (.ins a.Font dx (putF "gap" (tx gap) (putF "scheme" (.ref s) []))) := by rw [← hM]; exact upd_same
      have hTM := k2 _ _ hT ntp
      have eacc : ps.map (fun p => S p.1) = (ps.map fun p => p.1.headD 0).map fun x => S [x] := by
        rw [List.map_map]
        refine List.map_congr_left fun p hp => ?_
        obtain ⟨x, hx, _⟩ := isLet_of (fl1 p hp).1
        show S p.1 = S [p.1.headD 0]
        rw [hx]
        rfl
      refine ⟨_, rfl, td, _, ps.map (fun p => S p.1), rfl, .inl hTM, ?_, by rw [List.length_map]; omega, fun ys L hperm hsrt hL => ?_⟩
      · unfold kvF
        rw [List.map_map, List.map_map]
        rfl
      rw [eacc] at hperm
      have ndh : (ps.map fun p => p.1.headD 0).Nodup := by
        unfold List.Nodup at fl2 ⊢
        rw [List.pairwise_map] at fl2 ⊢
        refine fl2.imp_of_mem fun {x y} hx hy hne e => hne ?_
        obtain ⟨x1, hx1, _⟩ := isLet_of (fl1 x hx).1
        obtain ⟨y1, hy1, _⟩ := isLet_of (fl1 y hy).1
        rw [hx1, hy1] at e ⊢
        have e : x1 = y1 := e
        rw [e]
      obtain ⟨zs, rfl, zpw, zmem⟩ := sorted_any (l := ps.map fun p => p.1.headD 0) ndh (fun _ => Iff.rfl) hperm hsrt
      have ezs : zs = srt ps := asc_ext zpw (srt_pw ps) fun x => by
        rw [zmem, mem_srt]
        constructor
        · intro h
          obtain ⟨y, hy, rfl⟩ := List.mem_map.mp h
          obtain ⟨x, hx, h1, h2⟩ := isLet_of (fl1 y hy).1
          rw [hx]
          exact ⟨⟨h1, h2⟩, List.mem_map.mpr ⟨y, hy, hx⟩⟩
        · rintro ⟨_, h⟩
          obtain ⟨y, hy, e⟩ := List.mem_map.mp h
          exact List.mem_map.mpr ⟨y, hy, by rw [e]; rfl⟩
      subst ezs
      have nLp : L ≠ p := fun e => by rw [e, hMp] at hL; cases hL
      refine ⟨L, rfl, ⟨_, seqL_of upd_same⟩, fun D hD => ?_⟩
      have l26 : (srt ps).length ≤ 26 := by
        unfold srt
        exact Nat.le_trans (List.length_filter_le _ _) (by rw [List.length_map, List.length_range]; exact Nat.le_refl _)
      have kL : ∀ b o, M b = some o → (upd M L (.lst (((srt ps).map fun x => S [x]).map V.str))) b = some o := ex_new hL
      have hL2 : (upd M L (.lst (((srt ps).map fun x => S [x]).map V.str))) L = some (.lst (((srt ps).map fun x => S [x]).map V.str)) := upd_same
      generalize upd M L (.lst (((srt ps).map fun x => S [x]).map V.str)) = M2 at hD kL hL2 ⊢
      have hT2 := kL _ _ hTM
      have hp2 := kL _ _ hMp
      have hq2 := kL _ _ (k2 _ _ (s3 _ _ hq) nqp)
      refine lc_it (walk_list (xs := ((srt ps).map fun x => S [x]).map V.str)) (fun i G2 => Same M2 G2 ∧ ∃ vs2, G2 D = some (.lst vs2) ∧ PairsL G2 vs2 ((ordF ps).take i)) ⟨ex_new hD, [], upd_same, rfl, nofun⟩ (fun i G _ h => seqL_of (h.1 _ _ hL2)) ?_ ?_
      · rintro i x G0 G2 hi ⟨s6, vs2, hD2, hP2⟩ ⟨rfl, hx⟩
        have hi' : i < (srt ps).length := by rw [List.length_map, List.length_map] at hi; exact hi
        have hk : (srt ps)[i]? = some (srt ps)[i] := List.getElem?_eq_getElem hi'
        rw [List.getElem?_map, List.getElem?_map, hk] at hx
        have ex := Option.some.inj hx
        subst ex
        have hm := mem_srt.mp (List.getElem_mem hi')
        have htk : (ordF ps).take (i + 1) = (ordF ps).take i ++ [([(srt ps)[i]], gly ps [(srt ps)[i]])] := by
          rw [List.take_add_one]
          unfold ordF
          rw [List.getElem?_map, hk]
          rfl
        rw [htk]
        generalize (srt ps)[i] = y at hm hk hx ⊢
        have hg := DGet.k (k := Sum.inr (S [y])) (s6 _ _ hT2)
        rw [kvF_get, if_pos hm.2] at hg
        refine ⟨rfl, ?_⟩
        unfold tYes
        dsimp only
        rw [if_pos rfl]
        refine ⟨_, rfl, _, rfl, _, rfl, td, _, rfl, hg, by show 2 ≤ sizeLine; decide, fun u hu => ?_⟩
        have hDu : D ≠ u := ne_some hu hD2
        have lv : vs2.length ≤ 26 := by rw [hP2.1, List.length_take]; exact Nat.le_trans (Nat.min_le_right _ _) (by unfold ordF; rw [List.length_map]; exact l26)
        have hD3 : (upd G2 u (.tup [tx [y], tx (gly ps [y])])) D = some (.lst vs2) := by rw [upd_ne hDu]; exact hD2
        refine ⟨vs2, hD3, szlt (by omega), ex_mut (s6.trans (ex_new hu)) hD, _, upd_same, ?_⟩
        exact ((hP2.mono (ex_new hu)).snoc (k := ([y], gly ps [y])) upd_same).upd hD3
      · rintro G3 ⟨s6, vs2, hD2, hP2⟩
        rw [List.take_of_length_le (by unfold ordF; rw [List.length_map, List.length_map, List.length_map]; exact Nat.le_refl _)] at hP2
        have hp3 := s6 _ _ hp2
        have hT3 := s6 _ _ hT2
        have npD : p ≠ D := ne_some hD hp2
        refine ⟨_, rfl, p, _, dx, _, rfl, hp3, T.c_Font.cl, T.y_glyphs, by show 2 < 1000; decide, ?_⟩
        refine ⟨_, rfl, _, rfl, p, _, dx, _, rfl, upd_same, T.c_Font.cl, T.y_told, by show 3 < 1000; decide, ?_⟩
        rw [upd_upd, put_ff]
        have k3 : ∀ b o, G3 b = some o → b ≠ p → (upd G3 p (.ins a.Font dx (ff s gap D td))) b = some o := fun b o e hb => by rw [upd_ne hb]; exact e
        have kH : ∀ b o, H b = some o → b ≠ p → (upd G3 p (.ins a.Font dx (ff s gap D td))) b = some o := fun b o e hb => k3 _ _ (s6 _ _ (kL _ _ (k2 _ _ (s3 _ _ e) hb))) hb
        have hPp : PairsL (upd G3 p (.ins a.Font dx (ff s gap D td))) vs2 (ordF ps) := ⟨hP2.1, fun i k hk => let ⟨b, h1, h2⟩ := hP2.2 i k hk; ⟨b, h1, k3 _ _ h2 fun e => by rw [e, hp3] at h2; cases h2⟩⟩
        refine z _ kH ⟨⟨⟨sx, kH _ _ hs nsp⟩, sch.2⟩, ⟨dx, D, td, vs2, upd_same, k3 _ _ hD2 (Ne.symm npD), hPp, k3 _ _ hT3 ntp⟩, g1, h6, hfn⟩ fun b xs ys hb => ?_
        have nbp : b ≠ p := fun e => by rw [e, hp] at hb; cases hb
        have hb2 := kL _ _ (k2 _ _ (s3 _ _ hb) nbp)
        have nbD : b ≠ D := ne_some hD hb2
        have ntb : td ≠ b := fun e => by rw [e, s6 _ _ hb2] at hT3; cases hT3
        refine ⟨⟨⟨sx, ?_⟩, sch.2⟩, ⟨dx, D, td, vs2, ?_, ?_, hPp.upd (kH _ _ hb nbp), ?_⟩, g1, h6, hfn⟩
        · rw [upd_ne fun e => by rw [e, hb] at hs; cases hs]
          exact kH _ _ hs nsp
        · rw [upd_ne (Ne.symm nbp)]
          exact upd_same
        · rw [upd_ne (Ne.symm nbD)]
          exact k3 _ _ hD2 (Ne.symm npD)
        · rw [upd_ne ntb]
          exact k3 _ _ hT3 ntp
end
end K32

end
section
set_option Elab.async false
set_option linter.all false
set_option maxRecDepth 100000
set_option maxHeartbeats 4000000
namespace K32
open PySem PySem.Spec PyProof.Rows L2 Kit
section
variable {P : Program} {w : World} {K : PySem.W.Frag} {mg : Str → Option Value} {base : Heap} {a : Ad}
def lets (ps : List Pr) : List (List Nat) := ps.map (·.1)
theorem kvF_getL (ps : List Pr) (l : List Nat) : valV (kvF ps) (Sum.inr (S l)) = if l ∈ lets ps then some (tx (gly ps l)) else none := kvF_get ps l
def spGetF (a : Ad) : Sp := fun vs H Q E => ∃ (p s : Addr) (r c n : Nat) (gap : List Nat) (ps : List Pr) (l : List Nat), vs = [.ref p, tx l] ∧ FontAt a H p s r c n gap ps ∧ (l ∈ lets ps → Q (tx (gly ps l)) H) ∧ (l ∉ lets ps → Ra2 E a.UnknownLetter "letter" "place" (tx l) (.int 0) H)
theorem c_Font_getitem (T : Txt K mg a) : CanF P w K mg base 3 a.Font "__getitem__" (spGetF a) := by
  refine canF_of T.c_Font.cl T.m_Font___getitem__ sc_Font___getitem__ bd_Font___getitem__ (fun vs H Q E h => ?_) (fun f cdv A outer s0 H vs Q E hr h => ?_)
  · obtain ⟨p, s, r, c, n, gap, ps, l, rfl, _⟩ := h
    rfl
  · obtain ⟨p, s, r, c, n, gap, ps, l, rfl, fo, z, y⟩ := h
    refine ⟨_, (pss_cons (ps_if (pt_cmp (pc_dnotin (units1 hr) (pv 1) (kfld K (pv 0)))) (pss_one (pr_err2 (c_UnknownLetter T) (takes_of rfl rfl rfl rfl) (by rfl) hr (by decide) (by rfl) (pv 1) pe_int)) pss_nil)
      (pss_one (ps_ret (pe_dget (units1 hr) (kfld K (pv 0)) (pv 1) (fun _ _ => rfl))))), ?_⟩
    obtain ⟨dx, gq, td, ws, hp, hq, hcl, hT⟩ := fo.ob
    have fo_told := ff_told s gap gq td
    refine ⟨_, rfl, _, rfl, p, _, dx, _, _, rfl, hp, T.c_Font.cl, T.y_told, fo_told, td, _, rfl, DGet.k (k := Sum.inr (S l)) hT, _, rfl, ?_⟩
    rw [kvF_getL]
    by_cases m : l ∈ lets ps
    · have hg := DGet.k (k := Sum.inr (S l)) hT
      rw [kvF_getL, if_pos m] at hg
      rw [if_pos m]
      exact iteF ⟨_, rfl, p, _, dx, _, _, rfl, hp, T.c_Font.cl, T.y_told, fo_told, _, rfl, td, _, rfl, hg, z m⟩
    · rw [if_neg m]
      exact iteT ⟨_, rfl, (y m).now⟩
def spHasF (a : Ad) : Sp := fun vs H Q _ => ∃ (p s : Addr) (r c n : Nat) (gap : List Nat) (ps : List Pr) (l : List Nat), vs = [.ref p, tx l] ∧ FontAt a H p s r c n gap ps ∧ Q (.bl (decide (l ∈ lets ps))) H
theorem c_Font_contains (T : Txt K mg a) : CanM P w K mg base 1 a.Font "__contains__" (spHasF a) := by
  refine canM_of T.c_Font.cl T.m_Font___contains__ sc_Font___contains__ bd_Font___contains__ (fun vs H Q E h => ?_) (fun f cdv A outer s0 H vs Q E hr h => ?_)
  · obtain ⟨p, s, r, c, n, gap, ps, l, rfl, _⟩ := h
    rfl
  · obtain ⟨p, s, r, c, n, gap, ps, l, rfl, fo, z⟩ := h
    refine ⟨_, (pss_one (ps_ret (pe_cmp (pc_din (units1 hr) (pv 1) (kfld K (pv 0)))))), ?_⟩
    obtain ⟨dx, gq, td, ws, hp, hq, hcl, hT⟩ := fo.ob
    refine ⟨_, rfl, _, rfl, p, _, dx, _, _, rfl, hp, T.c_Font.cl, T.y_told, ff_told s gap gq td, td, _, rfl, DGet.k (k := Sum.inr (S l)) hT, ?_⟩
    rw [kvF_getL]
    by_cases m : l ∈ lets ps
    · rw [if_pos m]
      rw [decide_eq_true m] at z
      exact z
    · rw [if_neg m]
      rw [decide_eq_false m] at z
      exact z
def spLenF (a : Ad) : Sp := fun vs H Q _ => ∃ (p s : Addr) (r c n : Nat) (gap : List Nat) (ps : List Pr), vs = [.ref p] ∧ FontAt a H p s r c n gap ps ∧ Q (.int ((ordF ps).length : Nat)) H
theorem c_Font_len (T : Txt K mg a) : CanM P w K mg base 1 a.Font "__len__" (spLenF a) := by
  refine canM_of T.c_Font.cl T.m_Font___len__ sc_Font___len__ bd_Font___len__ (fun vs H Q E h => ?_) (fun f cdv A outer s0 H vs Q E hr h => ?_)
  · obtain ⟨p, s, r, c, n, gap, ps, rfl, _⟩ := h
    rfl
  · obtain ⟨p, s, r, c, n, gap, ps, rfl, fo, z⟩ := h
    refine ⟨_, (pss_one (ps_ret (pe_callB (klen_seq K) (by rfl) T.b_len (by decide +kernel) (pa_cons (kfld K (pv 0)) pa_nil)))), ?_⟩
    obtain ⟨dx, gq, td, ws, hp, hq, hcl, hT⟩ := fo.ob
    refine ⟨_, rfl, p, _, dx, _, _, rfl, hp, T.c_Font.cl, T.y_glyphs, ff_glyphs s gap gq td, gq, _, rfl, .inl (seqL_of hq), ?_⟩
    rw [hcl.1]
    exact z
/-! ### equal fonts -/
def pdP (p : Pr) : PyData := .tuple [.str (S p.1), .str (S p.2)]
theorem dp_prs {H : Hp} : ∀ {ws : List V} {qs : List Pr}, PairsL H ws qs → DpAll K H ws (qs.map pdP)
  | [], [], _ => .nil
  | v :: ws, k :: cs, h => by
    obtain ⟨q, hq, hc⟩ := h.2 0 k rfl
    have ev : v = .ref q := Option.some.inj hq
    subst ev
    exact .cons (.tup (seqT_of hc) (.cons (.str _) (.cons (.str _) .nil))) (dp_prs ⟨by have := h.1; simp at this; exact this, fun i x hx => h.2 (i + 1) x hx⟩)
  | [], _ :: _, h => absurd h.1 (by simp)
  | _ :: _, [], h => absurd h.1 (by simp)
theorem plain_prs (qs : List Pr) : (PyData.list (qs.map pdP)).plain = true := by
  unfold PyData.plain
  induction qs with
  | nil => rfl
  | cons k qs ih =>
    rw [List.map_cons]
    unfold PyData.plainAll
    rw [ih]
    rfl
theorem depth_prs (qs : List Pr) : (PyData.list (qs.map pdP)).depth ≤ 64 := by
  have h : PyData.depthAll (qs.map pdP) ≤ 2 := by
    induction qs with
    | nil => simp [PyData.depthAll]
    | cons k qs ih =>
      rw [List.map_cons]
      unfold PyData.depthAll
      have : (pdP k).depth ≤ 2 := by simp [pdP, PyData.depth, PyData.depthAll]
      omega
  unfold PyData.depth
  omega
theorem eqv_txt (x y : List Nat) : PyData.eqv (.str (S x)) (.str (S y)) = decide (x = y) := by
  show (S x == S y) = _
  by_cases h : x = y
  · rw [h, decide_eq_true rfl]
    exact beq_self_eq_true _
  · rw [decide_eq_false h]
    exact beq_eq_false_iff_ne.mpr fun e => h (S_inj e)
theorem eqv_prs : ∀ qs rs : List Pr, PyData.eqv (.list (qs.map pdP)) (.list (rs.map pdP)) = decide (qs = rs)
  | [], [] => rfl
  | [], _ :: _ => rfl
  | _ :: _, [] => rfl
  | p :: qs, q :: rs => by
    have ih : PyData.eqvAll (qs.map pdP) (rs.map pdP) = decide (qs = rs) := eqv_prs qs rs
    show ((PyData.eqv (.str (S p.1)) (.str (S q.1)) && (PyData.eqv (.str (S p.2)) (.str (S q.2)) && true)) && PyData.eqvAll (qs.map pdP) (rs.map pdP)) = _
    rw [eqv_txt, eqv_txt, ih, Bool.and_true, ← Bool.decide_and, ← Bool.decide_and, decide_eq_decide]
    obtain ⟨p1, p2⟩ := p
    obtain ⟨q1, q2⟩ := q
    constructor
    · rintro ⟨⟨rfl, rfl⟩, rfl⟩
      rfl
    · intro h
      injection h with h1 h2
      injection h1 with h3 h4
      exact ⟨⟨h3, h4⟩, h2⟩
def spEqF (a : Ad) : Sp := fun vs H Q _ => ∃ (p s : Addr) (r c n : Nat) (gap : List Nat) (ps : List Pr) (y : V), vs = [.ref p, y] ∧ FontAt a H p s r c n gap ps ∧
  ((∃ i, y = .int i ∧ Q (.bl false) H) ∨ (∃ t, y = .str t ∧ Q (.bl false) H) ∨ (∃ b xs, y = .ref b ∧ H b = some (.lst xs) ∧ Q (.bl false) H) ∨ ∃ (p2 s2 : Addr) (r2 c2 n2 : Nat) (gap2 : List Nat) (qs : List Pr), y = .ref p2 ∧ FontAt a H p2 s2 r2 c2 n2 gap2 qs ∧ Q (.bl (decide (r = r2) && decide (c = c2) && decide (gap = gap2) && decide (ordF ps = ordF qs))) H)
theorem c_Font_eq (T : Txt K mg a) : CanM P w K mg base 2 a.Font "__eq__" (spEqF a) := by
  refine canM_of T.c_Font.cl T.m_Font___eq__ sc_Font___eq__ bd_Font___eq__ (fun vs H Q E h => ?_) (fun f cdv A outer s0 H vs Q E hr h => ?_)
  · obtain ⟨p, s, r, c, n, gap, ps, y, rfl, _⟩ := h
    rfl
  · obtain ⟨p, s, r, c, n, gap, ps, y, rfl, fo, z⟩ := h
    refine ⟨_, (pss_one (ps_ret (pe_and (pe_callB (kisi K) (by rfl) T.b_isinstance (by decide +kernel) (pa_cons (pv 1) (pa_cons (pe_glob (v := .ref a.Font) (by rfl) T.c_Font.gC rfl) pa_nil))) (pe_and (pe_cmpR (eqO K (c_Scheme_eq T) hr (by decide) T.i_ni T.i_ns) (kfld K (pv 0)) (kfld K (pv 1)) (nomark _)) (pe_and (pe_cmpR op_eq (kfld K (pv 0)) (kfld K (pv 1)) (nomark _)) (pe_one (pe_cmpR (keqP K hr.units) (kfld K (pv 0)) (kfld K (pv 1)) (nomark _)))))))), ?_⟩
    rcases z with ⟨i, rfl, z⟩ | ⟨t, rfl, z⟩ | ⟨b, xs, rfl, hb, z⟩ | ⟨p2, s2, r2, c2, n2, gap2, qs, rfl, fo2, z⟩
    · exact ⟨_, rfl, _, _, _, _, false, rfl, .own _, .base (.int i), T.y_int, _, rfl, iteF z⟩
    · exact ⟨_, rfl, _, _, _, _, false, rfl, .own _, .base (.str t), T.y_str, _, rfl, iteF z⟩
    · exact ⟨_, rfl, _, _, _, _, false, rfl, .own _, .base (.lst hb), T.y_lst, _, rfl, iteF z⟩
    obtain ⟨dx, gq, td, ws, hp, hq, hcl, hT⟩ := fo.ob
    obtain ⟨dx2, gq2, td2, ws2, hp2, hq2, hcl2, hT2⟩ := fo2.ob
    obtain ⟨sx, hs⟩ := fo.sch.1
    obtain ⟨sx2, hs2⟩ := fo2.sch.1
    refine ⟨_, rfl, _, _, _, _, true, rfl, .own _, .base (.ins hp2 T.c_Font.cl T.y_ha T.i_hn T.i_ht T.y_hm), T.y_own, _, rfl, iteT ?_⟩
    refine ⟨_, rfl, p, _, dx, _, _, rfl, hp, T.c_Font.cl, T.y_scheme, ff_scheme s gap gq td, _, rfl, p2, _, dx2, _, _, rfl, hp2, T.c_Font.cl, T.y_scheme, ff_scheme s2 gap2 gq2 td2, ?_⟩
    refine ⟨s, sx, _, rfl, hs, .inr (.inr ⟨s2, sx2, _, rfl, hs2⟩), s, r, c, n, .ref s2, rfl, fo.sch, .inr (.inr ⟨s2, r2, c2, n2, rfl, fo2.sch, _, rfl, _, rfl, ?_⟩)⟩
    cases e : (decide (r = r2) && decide (c = c2)) with
    | false =>
      rw [e, Bool.false_and, Bool.false_and] at z
      exact iteF z
    | true =>
      rw [e, Bool.true_and] at z
      refine iteT ?_
      refine ⟨_, rfl, p, _, dx, _, _, rfl, hp, T.c_Font.cl, T.y_gap, ff_gap s gap gq td, _, rfl, p2, _, dx2, _, _, rfl, hp2, T.c_Font.cl, T.y_gap, ff_gap s2 gap2 gq2 td2, rfl, _, rfl, ?_⟩
      have et : decide (tx gap = tx gap2) = decide (gap = gap2) := by
        rw [decide_eq_decide]
        exact ⟨fun h => S_inj (V.str.inj h), fun h => by rw [h]⟩
      rw [et]
      by_cases eg : gap = gap2
      · rw [decide_eq_true eg, Bool.true_and] at z
        rw [decide_eq_true eg]
        refine iteT ?_
        refine ⟨_, rfl, p, _, dx, _, _, rfl, hp, T.c_Font.cl, T.y_glyphs, ff_glyphs s gap gq td, _, rfl, p2, _, dx2, _, _, rfl, hp2, T.c_Font.cl, T.y_glyphs, ff_glyphs s2 gap2 gq2 td2, ?_⟩
        refine ⟨.list ((ordF ps).map pdP), .list ((ordF qs).map pdP), .lst (seqL_of hq) (dp_prs hcl), .lst (seqL_of hq2) (dp_prs hcl2), plain_prs _, plain_prs _, depth_prs _, ?_⟩
        rw [eqv_prs]
        exact z
      · rw [decide_eq_false eg, Bool.false_and] at z
        rw [decide_eq_false eg]
        exact iteF z
end
end K32

end
section
set_option Elab.async false
set_option linter.all false
set_option maxRecDepth 100000
set_option maxHeartbeats 4000000
namespace K32
open PySem PySem.Spec PyProof.Rows L2 Kit
section
variable {P : Program} {w : World} {K : PySem.W.Frag} {mg : Str → Option Value} {base : Heap} {a : Ad}
theorem emp_S : (Str.empty : Str) = S [] := rfl
theorem join_S (s : List Nat) (ps : List (List Nat)) : Txt.join (S s) (ps.map S) = S (TL.joinL s ps) := by
  refine TL.ext_tl ?_
  rw [TL.join_eq, TL.tl_join, List.map_map]
  show TL.joinL s (ps.map (TL.tl ∘ S)) = TL.joinL s ps
  rw [show (TL.tl ∘ S) = id from funext fun _ => rfl, List.map_id]
theorem joinL_len {s : List Nat} {B : Nat} : ∀ {ps : List (List Nat)}, (∀ p ∈ ps, p.length ≤ B) → (TL.joinL s ps).length ≤ ps.length * (B + s.length)
  | [], _ => Nat.zero_le _
  | [p], h => by
    have := h p List.mem_cons_self
    show p.length ≤ 1 * (B + s.length)
    omega
  | p :: q :: r, h => by
    have h1 := h p List.mem_cons_self
    have h2 := joinL_len (s := s) (ps := q :: r) fun x hx => h x (List.mem_cons_of_mem _ hx)
    show (p ++ (s ++ TL.joinL s (q :: r))).length ≤ (r.length + 1 + 1) * (B + s.length)
    have h3 : (q :: r).length = r.length + 1 := rfl
    rw [h3] at h2
    rw [List.length_append, List.length_append, Nat.succ_mul]
    omega
theorem sum_leS {B : Nat} : ∀ {ps : List (List Nat)}, (∀ p ∈ ps, p.length ≤ B) → ((ps.map S).map (·.length)).sum ≤ ps.length * B
  | [], _ => Nat.zero_le _
  | p :: ps, h => by
    rw [List.map_cons, List.map_cons, List.sum_cons, S_len, List.length_cons, Nat.succ_mul]
    have h1 := h p List.mem_cons_self
    have h2 := sum_leS (ps := ps) fun q hq => h q (List.mem_cons_of_mem _ hq)
    omega
def pieceF (p : Pr) : List Nat := p.1 ++ 61 :: p.2
def lineF (gap : List Nat) (ps : List Pr) : List Nat := TL.joinL [44] (ps.map pieceF) ++ 124 :: gap
theorem gly_mem {ps : List Pr} {l : List Nat} (h : l ∈ lets ps) : ∃ p ∈ ps, p.1 = l ∧ gly ps l = p.2 := by
  unfold gly
  cases e : ps.find? fun p => decide (p.1 = l) with
  | none =>
    obtain ⟨p, hp, e2⟩ := List.mem_map.mp h
    have := List.find?_eq_none.mp e p hp
    exact absurd (decide_eq_true e2) this
  | some p => exact ⟨p, List.mem_of_find?_eq_some e, of_decide_eq_true (p := p.1 = l) (List.find?_some (p := fun (q : Pr) => decide (q.1 = l)) e), rfl⟩
theorem ord_ok {n : Nat} {ps : List Pr} (h : faultF n ps [] = none) : ∀ q ∈ ordF ps, isLet q.1 = true ∧ glyphOk n q.2 = true := fun q hq => by
  obtain ⟨x, hx, rfl⟩ := List.mem_map.mp hq
  obtain ⟨p, hp, e1, e2⟩ := gly_mem (mem_srt.mp hx).2
  obtain ⟨f1, f2, _⟩ := (fault_none h).1 p hp
  exact ⟨by rw [← e1]; exact f1, by rw [e2]; exact f2⟩
theorem ord_len (ps : List Pr) : (ordF ps).length ≤ 26 := by
  unfold ordF srt
  rw [List.length_map]
  exact Nat.le_trans (List.length_filter_le _ _) (by rw [List.length_map, List.length_range]; exact Nat.le_refl _)
theorem let_len {l : List Nat} (h : isLet l = true) : l.length = 1 := by
  obtain ⟨x, rfl, _⟩ := isLet_of h
  rfl
theorem gl_len {n : Nat} {l : List Nat} (h : glyphOk n l = true) : 1 ≤ l.length ∧ l.length ≤ 4 := by
  unfold glyphOk at h
  rw [Bool.and_eq_true, Bool.and_eq_true, decide_eq_true_iff, decide_eq_true_iff] at h
  exact h.2
theorem gap_len {n : Nat} {l : List Nat} (h : gapOk n l = true) : l.length ≤ 3 := by
  unfold gapOk at h
  rw [Bool.and_eq_true, decide_eq_true_iff] at h
  exact h.2
def spStrF (a : Ad) : Sp := fun vs H Q _ => ∃ (p s : Addr) (r c n : Nat) (gap : List Nat) (ps : List Pr), vs = [.ref p] ∧ FontAt a H p s r c n gap ps ∧ ∀ G, Same H G → Q (tx (lineF gap (ordF ps))) G
theorem c_Font_str (T : Txt K mg a) : CanM P w K mg base 1 a.Font "__str__" (spStrF a) := by
  refine canM_of T.c_Font.cl T.m_Font___str__ sc_Font___str__ bd_Font___str__ (fun vs H Q E h => ?_) (fun f cdv A outer s0 H vs Q E hr h => ?_)
  · obtain ⟨p, s, r, c, n, gap, ps, rfl, _⟩ := h
    rfl
  · obtain ⟨p, s, r, c, n, gap, ps, rfl, fo, z⟩ := h
    refine ⟨_, (pss_cons (ps_setLc (i := 1) (own := [("letter", 2), ("glyph", 3)]) (g := (gTup _ 2 (gCons (gName 2) (gCons (gName 3) gNil)))) (tt := tYes) (by rfl) sc_Font___str__.nd rfl rfl (sw_true rfl rfl rfl (by decide +kernel)) (kpi_list K (kfld K (pv 0))) (blkOk_by (N := N_Font___str__) (sc := defScope s_Font___str__) (by decide +kernel)) (fun _ _ _ _ _ => (pg_tup rfl (pgs_cons (pg_name (i := 2) sc_Font___str__.nd rfl (.inl rfl)) (pgs_cons (pg_name (i := 3) sc_Font___str__.nd rfl (.inl rfl)) pgs_nil)))) (fun _ _ _ _ _ => pts_nil) (fun _ _ _ _ _ => (pe_joined (PJ.cons (pe_fmt (pv 2)) (PJ.cons pe_str (PJ.cons (pe_fmt (pv 3)) PJ.nil))))))
      (pss_one (ps_ret (pe_joined (PJ.cons (pe_fmt (kjoin K pe_str (pv 1))) (PJ.cons pe_str (PJ.cons (pe_fmt (kfld K (pv 0))) PJ.nil))))))), ?_⟩
    obtain ⟨dx, gq, td, ws, hp, hq, hcl, hT⟩ := fo.ob
    have lg := gap_len fo.gap
    have l26 := ord_len ps
    refine ⟨_, rfl, p, _, dx, _, _, rfl, hp, T.c_Font.cl, T.y_glyphs, ff_glyphs s gap gq td, gq, rfl, ⟨_, seqL_of hq⟩, fun D hD => ?_⟩
    refine lc_it (vs := [2, 3]) (σ := L2.start N_Font___str__ [V.ref p]) (g := gTup K 2 (gCons (gName 2) (gCons (gName 3) gNil))) (tt := tYes) (te := fun σ H Q => tJs [tFmt (tVar 2), tC (V.str (Str.ofString "=")), tFmt (tVar 3)] Str.empty σ H fun out H1 => Q (V.str out) H1) (walk_list (xs := ws)) (fun i G => Same H G ∧ G D = some (.lst ((((ordF ps).map pieceF).take i).map tx))) ⟨ex_new hD, upd_same⟩ (fun i G _ h => seqL_of (h.1 _ _ hq)) ?_ ?_
    · rintro i x G0 G hi ⟨s1, hGD⟩ ⟨rfl, hx⟩
      have hi : i < (ordF ps).length := by rw [← hcl.1]; exact hi
      have hk : (ordF ps)[i]? = some (ordF ps)[i] := List.getElem?_eq_getElem hi
      obtain ⟨b, hb, hcb⟩ := hcl.2 i _ hk
      have ey : V.ref b = x := Option.some.inj (hb.symm.trans hx)
      subst ey
      obtain ⟨o1, o2⟩ := ord_ok fo.ok _ (List.getElem_mem hi)
      generalize (ordF ps)[i] = k at hk hcb o1 o2
      have l1 := let_len o1
      have l2 := gl_len o2
      refine ⟨b, _, rfl, seqT_of (s1 _ _ hcb), rfl, _, _, rfl, _, _, rfl, rfl, ?_⟩
      refine ⟨rfl, ?_⟩
      unfold tYes
      dsimp only
      rw [if_pos rfl]
      have ec : Str.ofString "=" = S [61] := by decide +kernel
      have hz : ∀ l : List Nat, l.length ≤ 100 → (S l).length ≤ sizeLine := fun l h => by rw [S_len]; exact szl (by omega)
      have hz2 : ∀ l m : List Nat, l.length ≤ 100 → m.length ≤ 100 → (S l ++ S m).length ≤ sizeLine := fun l m h k => by rw [S_app, S_len, List.length_append]; exact szl (by omega)
      refine ⟨_, rfl, .inl ⟨S k.1, rfl, hz _ (by omega), S k.1, rfl, hz2 [] _ (by decide) (by omega), ?_⟩⟩
      rw [emp_S, S_app, List.nil_append]
      refine ⟨_, rfl, by rw [ec]; exact hz2 _ _ (by omega) (by decide), ?_⟩
      rw [ec, S_app]
      refine ⟨_, rfl, .inl ⟨S k.2, rfl, hz _ (by omega), S k.2, rfl, hz2 _ _ (by rw [List.length_append]; show _ + 1 ≤ 100; omega) (by omega), ?_⟩⟩
      rw [S_app]
      have e : k.1 ++ [61] ++ k.2 = pieceF k := by
        unfold pieceF
        simp only [List.append_assoc, List.cons_append, List.nil_append]
      rw [e]
      refine ⟨_, hGD, by rw [List.length_map, List.length_take]; exact szlt (by omega), ex_mut s1 hD, ?_⟩
      rw [upd_same, List.take_add_one, List.getElem?_map, hk, List.map_append]
      rfl
    · rintro G ⟨s1, hGD⟩
      have lw : ((ordF ps).map pieceF).take ws.length = (ordF ps).map pieceF := List.take_of_length_le (by rw [List.length_map]; exact Nat.le_of_eq hcl.1.symm)
      rw [lw] at hGD
      have lps : ∀ p ∈ (ordF ps).map pieceF, p.length ≤ 6 := fun p hp => by
        obtain ⟨k, hk, rfl⟩ := List.mem_map.mp hp
        obtain ⟨o1, o2⟩ := ord_ok fo.ok k hk
        have l1 := let_len o1
        have l2 := gl_len o2
        unfold pieceF
        rw [List.length_append, List.length_cons]
        omega
      have lj := joinL_len (s := [44]) lps
      have ls := sum_leS lps
      rw [List.length_map] at lj ls
      have lj : (TL.joinL [44] ((ordF ps).map pieceF)).length ≤ (ordF ps).length * 7 := lj
      have ec : Str.ofString "," = S [44] := by decide +kernel
      have ep : Str.ofString "|" = S [124] := by decide +kernel
      have hz : ∀ l : List Nat, l.length ≤ 1000 → (S l).length ≤ sizeLine := fun l h => by rw [S_len]; exact szl (by omega)
      have hz2 : ∀ l m : List Nat, l.length ≤ 1000 → m.length ≤ 1000 → (S l ++ S m).length ≤ sizeLine := fun l m h k => by rw [S_app, S_len, List.length_append]; exact szl (by omega)
      refine ⟨⟨_, rfl⟩, _, rfl, _, D, ((ordF ps).map pieceF).map S, rfl, rfl, .inl (seqL_of (by rw [List.map_map]; exact hGD)), ?_, ?_⟩
      · rw [ec, S_len, List.length_map, List.length_map]
        show _ + (ordF ps).length * 1 ≤ _
        omega
      rw [ec, join_S]
      generalize hbd : TL.joinL [44] ((ordF ps).map pieceF) = bd at lj
      refine .inl ⟨_, rfl, hz _ (by omega), _, rfl, hz2 [] _ (by decide) (by omega), ?_⟩
      rw [emp_S, S_app, List.nil_append]
      refine ⟨_, rfl, by rw [ep]; exact hz2 _ _ (by omega) (by decide), ?_⟩
      rw [ep, S_app]
      refine ⟨_, rfl, p, _, dx, _, _, rfl, s1 _ _ hp, T.c_Font.cl, T.y_gap, ff_gap s gap gq td, .inl ⟨S gap, rfl, hz _ (by omega), S gap, rfl, hz2 _ _ (by rw [List.length_append]; show _ + 1 ≤ 1000; omega) (by omega), ?_⟩⟩
      rw [S_app]
      have e : bd ++ [124] ++ gap = lineF gap (ordF ps) := by
        unfold lineF
        rw [hbd, List.append_assoc]
        rfl
      rw [e]
      exact z G s1
end
end K32

end
section
set_option Elab.async false
set_option linter.all false
set_option maxRecDepth 100000
set_option maxHeartbeats 4000000
namespace K32
open PySem PySem.Spec PyProof.Rows L2 Kit
section
variable {P : Program} {w : World} {K : PySem.W.Frag} {mg : Str → Option Value} {base : Heap} {a : Ad}
def printF (gap : List Nat) (ps : List Pr) (l : List Nat) : List Nat := TL.joinL gap (l.map fun x => gly ps [x])
def spPrint (a : Ad) : Sp := fun vs H Q E => ∃ (p s : Addr) (r c n : Nat) (gap : List Nat) (ps : List Pr) (l : List Nat), vs = [.ref p, tx l] ∧ FontAt a H p s r c n gap ps ∧ l.length ≤ 1000 ∧ ((∀ x ∈ l, [x] ∈ lets ps) → ∀ G, Same H G → Q (tx (printF gap ps l)) G) ∧
  ∀ (i x : Nat), l[i]? = some x → [x] ∉ lets ps → (∀ j < i, ∀ y, l[j]? = some y → [y] ∈ lets ps) → Ra2 E a.UnknownLetter "letter" "place" (tx [x]) (.int (i : Nat)) H
theorem c_Font_printed (T : Txt K mg a) : CanM P w K mg base 3 a.Font "printed" (spPrint a) := by
  refine canM_of T.c_Font.cl T.m_Font_printed sc_Font_printed bd_Font_printed (fun vs H Q E h => ?_) (fun f cdv A outer s0 H vs Q E hr h => ?_)
  · obtain ⟨p, s, r, c, n, gap, ps, l, rfl, _⟩ := h
    rfl
  · obtain ⟨p, s, r, c, n, gap, ps, l, rfl, fo, ll, z, y⟩ := h
    refine ⟨_, (pss_cons (ps_for (passes_of rfl) (by rfl) (pi_enumT (by rfl) T.b_enumerate (pa_cons (pv 1) pa_nil)) (pg_tup rfl (pgs_cons (pg_name (i := 2) sc_Font_printed.nd rfl (.inl rfl)) (pgs_cons (pg_name (i := 3) sc_Font_printed.nd rfl (.inl rfl)) pgs_nil))) (pss_one (ps_if (pt_cmp (pc_dnotin (units1 hr) (pv 3) (kfld K (pv 0)))) (pss_one (pr_err2 (c_UnknownLetter T) (takes_of rfl rfl rfl rfl) (by rfl) hr (by decide) (by rfl) (pv 3) (pv 2))) pss_nil)))
      (pss_one (ps_ret (kjoin K (kfld K (pv 0)) (pe_lc (own := [("letter", 3)]) (g := gName 3) (tt := tYes) (by rfl) sc_Font_printed.nd (pi_str (pv 1)) (blkOk_by (N := N_Font_printed) (sc := defScope s_Font_printed) (by decide +kernel)) (fun _ _ _ _ _ => (pg_name (i := 3) sc_Font_printed.nd rfl (.inl rfl))) (fun _ _ _ _ _ => pts_nil) (fun _ _ _ _ _ => (pe_dget (units1 hr) (kfld K (pv 0)) (pv 3) (fun _ _ => rfl)))))))), ?_⟩
    obtain ⟨dx, gq, td, ws, hp, hq, hcl, hT⟩ := fo.ob
    have lg := gap_len fo.gap
    refine ⟨_, rfl, _, rfl, for_it walk_ES (fun i σ G => Same H G ∧ (∀ j < i, ∀ y, l[j]? = some y → [y] ∈ lets ps) ∧ ∃ u v : Option V, σ = [some (.ref p), some (tx l), u, v]) ⟨.refl _, nofun, none, none, rfl⟩ (fun _ _ _ _ _ => True.intro) ?_ ?_⟩
    · rintro i x σ G G' hi ⟨s1, hno, u, v, rfl⟩ ⟨t, x0, y0, rfl, hT0, rfl, hx0, hy0⟩
      cases hx0
      obtain ⟨k, hk, rfl⟩ : ∃ k, l[i]? = some k ∧ y0 = tx [k] := by
        have hy0 : Option.map (fun c => V.str ⟨#[c]⟩) (S l).cps[i]? = some y0 := hy0
        obtain ⟨k, hk, e⟩ := Option.map_eq_some_iff.mp hy0
        exact ⟨k, at_S hk, e.symm⟩
      have s2 := s1.trans (ex_new (o := .tup [.int (i : Nat), tx [k]]) hT0)
      refine ⟨t, _, rfl, seqT_of upd_same, rfl, _, _, rfl, _, _, rfl, rfl, ?_⟩
      refine ⟨_, rfl, _, rfl, p, _, dx, _, _, rfl, s2 _ _ hp, T.c_Font.cl, T.y_told, ff_told s gap gq td, td, _, rfl, DGet.k (k := Sum.inr (S [k])) (s2 _ _ hT), _, rfl, ?_⟩
      rw [kvF_getL]
      by_cases m : [k] ∈ lets ps
      · rw [if_pos m]
        refine iteF ⟨s2, fun j hj y' hy' => ?_, _, _, rfl⟩
        by_cases h : j < i
        · exact hno j h y' hy'
        · rw [show j = i by omega, hk] at hy'
          rw [← Option.some.inj hy']
          exact m
      · rw [if_neg m]
        exact iteT ⟨_, rfl, _, rfl, ((y i k hk m hno).mono s2).now⟩
    · rintro σ G ⟨s1, hno, u, v, rfl⟩
      have hall : ∀ x ∈ l, [x] ∈ lets ps := fun x hx => by
        obtain ⟨j, hj, e⟩ := List.getElem_of_mem hx
        exact hno j (by show j < (S l).length; rw [S_len]; exact hj) x (by rw [List.getElem?_eq_getElem hj, e])
      have hpG := s1 _ _ hp
      have hTG := s1 _ _ hT
      have bl : ∀ q ∈ l.map fun x => gly ps [x], q.length ≤ 4 := fun q hq => by
        obtain ⟨x, hx, rfl⟩ := List.mem_map.mp hq
        obtain ⟨p, hp, _, e⟩ := gly_mem (hall x hx)
        rw [e]
        exact (gl_len ((fault_none fo.ok).1 p hp).2.1).2
      have ls := sum_leS bl
      rw [List.length_map] at ls
      refine ⟨_, rfl, p, _, dx, _, _, rfl, hpG, T.c_Font.cl, T.y_gap, ff_gap s gap gq td, ⟨_, rfl⟩, _, rfl, _, rfl, fun D hD => lc_one walk_str ((l.map fun x => gly ps [x]).map tx) (by rw [List.length_map, List.length_map]; exact (S_len l).symm) (by show (S l).length ≤ _; rw [S_len]; omega) hD (fun _ _ => True.intro) ?_ ?_⟩
      · rintro i x N N' w' hi sm ⟨rfl, c', hc, rfl⟩ hv
        have hc := at_S hc
        rw [List.getElem?_map, List.getElem?_map, hc] at hv
        have ev := Option.some.inj hv
        subst ev
        have hg := DGet.k (k := Sum.inr (S [c'])) (sm _ _ hTG)
        rw [kvF_getL, if_pos (hall c' (List.mem_of_getElem? hc))] at hg
        exact ⟨.refl _, fun Q' q => ⟨_, rfl, p, _, dx, _, _, rfl, sm _ _ hpG, T.c_Font.cl, T.y_told, ff_told s gap gq td, _, rfl, td, _, rfl, hg, q _ (.refl _)⟩⟩
      · intro N sm hN
        refine ⟨S gap, D, (l.map fun x => gly ps [x]).map S, rfl, rfl, .inl (seqL_of (by rw [List.map_map]; exact hN)), ?_, ?_⟩
        · rw [S_len, List.length_map, List.length_map]
          have : l.length * gap.length ≤ 1000 * 3 := Nat.mul_le_mul ll lg
          omega
        · rw [join_S]
          exact z hall _ (s1.trans sm)
end
end K32

end
section
set_option Elab.async false
set_option linter.all false
set_option maxRecDepth 100000
set_option maxHeartbeats 4000000
namespace K32
open PySem PySem.Spec PyProof.Rows L2 Kit
section
variable {P : Program} {w : World} {K : PySem.W.Frag} {mg : Str → Option Value} {base : Heap} {a : Ad}
theorem cutc_len {c : Nat} : ∀ {l acc : List Nat}, (cutc c acc l).length ≤ l.length + 1
  | [], acc => Nat.le_refl 1
  | d :: r, acc => by
    show (if d = c then _ else _ : List (List Nat)).length ≤ _
    by_cases e : d = c
    · rw [if_pos e, List.length_cons, List.length_cons]
      have := cutc_len (c := c) (l := r) (acc := [])
      omega
    · rw [if_neg e, List.length_cons]
      have := cutc_len (c := c) (l := r) (acc := acc ++ [d])
      omega
theorem cutc_part {c : Nat} : ∀ {l acc : List Nat}, ∀ p ∈ cutc c acc l, p.length ≤ acc.length + l.length
  | [], acc, p, h => by
    have e : p = acc := List.mem_singleton.mp h
    rw [e]
    exact Nat.le_add_right _ _
  | d :: r, acc, p, h => by
    have h : p ∈ (if d = c then acc :: cutc c [] r else cutc c (acc ++ [d]) r) := h
    by_cases e : d = c
    · rw [if_pos e] at h
      rcases List.mem_cons.mp h with q | q
      · rw [q]; exact Nat.le_add_right _ _
      · have := cutc_part (c := c) (l := r) (acc := []) p q
        rw [List.length_cons]
        simp at this
        omega
    · rw [if_neg e] at h
      have := cutc_part (c := c) (l := r) (acc := acc ++ [d]) p h
      rw [List.length_append, List.length_singleton] at this
      rw [List.length_cons]
      omega
theorem tru_S0 {H : Hp} : TruV K (tx []) H false := ⟨by show (S []).length ≤ _; rw [S_len]; exact szl (by decide), rfl⟩
theorem tru_S {H : Hp} {l : List Nat} (h : 0 < l.length) (h2 : l.length ≤ 100000) : TruV K (tx l) H true := by
  refine ⟨by rw [S_len]; exact szl h2, ?_⟩
  rw [S_len]
  have e : ((l.length : Nat) : Int) ≠ 0 := by omega
  exact (bne_iff_ne.mpr e).symm
def pieceL (p : List Nat) : Option Pr := match cutc 61 [] p with
  | [m, g] => some (m, g)
  | _ => none
def allL : List (List Nat) → Option (List Pr)
  | [] => some []
  | p :: ps => match pieceL p with
    | none => none
    | some k => (allL ps).map (k :: ·)
theorem allL_ok {p : List Nat} {ps : List (List Nat)} {k : Pr} (h : pieceL p = some k) : allL (p :: ps) = (allL ps).map (k :: ·) := by
  show (match pieceL p with | none => none | some k => (allL ps).map (k :: ·)) = _
  rw [h]
theorem allL_bad {p : List Nat} {ps : List (List Nat)} (h : pieceL p = none) : allL (p :: ps) = none := by
  show (match pieceL p with | none => none | some k => (allL ps).map (k :: ·)) = _
  rw [h]
def cutP (x : List Nat) : List (List Nat) := if x = [] then [] else cutc 44 [] x
def parseL (l : List Nat) : Option (List Nat × List Pr) := match cutc 124 [] l with
  | [x, g] => (allL (cutP x)).map fun ps => (g, ps)
  | _ => none
theorem rinitF {H : Hp} {y dx s q : Addr} {r c n : Nat} {gap : List Nat} {ws : List V} {ps : List Pr} {Q : VK} {E : XK} (hy : H y = none) (hdx : H dx = none) (hne : dx ≠ y) (sch : SchemeAt a.Scheme H s r c n) (hq : H q = some (.lst ws)) (hcl : PairsL H ws ps) (lg : gap.length ≤ 1000) (small : smallP ps) (hlen : ps.length ≤ 600)
    (y1 : gapOk n gap = false → Ra E a.BadFont "part" (.str (Str.ofString "gap")) H) (y2 : gapOk n gap = true → 6 < ps.length → Ra E a.TooMany "most" (.int 6) H) (y3 : gapOk n gap = true → ps.length ≤ 6 → ∀ f, faultF n ps [] = some f → f.Ra E a H)
    (z : gapOk n gap = true → ps.length ≤ 6 → faultF n ps [] = none → ∀ G, Same H G → FontAt a G y s r c n gap ps → FontFr a H G y s r c n gap ps → Q .non G) : spFInit a [.ref y, .ref s, tx gap, .ref q] (upd (upd H dx (.own y)) y (.ins a.Font dx [])) Q E := by
  have s1 : Same H (upd (upd H dx (.own y)) y (.ins a.Font dx [])) := (ex_new hdx).trans (ex_new (by rw [upd_ne (Ne.symm hne)]; exact hy))
  refine ⟨y, dx, s, q, r, c, n, gap, ws, ps, rfl, upd_same, sch.mono s1, s1 _ _ hq, hcl.mono s1, lg, small, hlen, fun h => (y1 h).mono s1, fun h k => (y2 h k).mono s1, fun h k f e => (y3 h k f e).mono s1, fun h k e G kp fa fb => z h k e G (fun b o hb => ?_) fa (fb.same s1)⟩
  exact kp b o (s1 _ _ hb) fun x => by rw [x, hy] at hb; cases hb
def spFRead (a : Ad) : Sp := fun vs H Q E => ∃ (s : Addr) (r c n : Nat) (l : List Nat), vs = [.ref a.Font, .ref s, tx l] ∧ SchemeAt a.Scheme H s r c n ∧ l.length ≤ 500 ∧
  (parseL l = none → Ra E a.BadFont "part" (.str (Str.ofString "text")) H) ∧ ∀ gap ps, parseL l = some (gap, ps) →
    (gapOk n gap = false → Ra E a.BadFont "part" (.str (Str.ofString "gap")) H) ∧ (gapOk n gap = true → 6 < ps.length → Ra E a.TooMany "most" (.int 6) H) ∧ (gapOk n gap = true → ps.length ≤ 6 → ∀ f, faultF n ps [] = some f → f.Ra E a H) ∧
    (gapOk n gap = true → ps.length ≤ 6 → faultF n ps [] = none → ∀ G p, Same H G → H p = none → FontAt a G p s r c n gap ps → FontFr a H G p s r c n gap ps → Q (.ref p) G)
theorem c_Font_read (T : Txt K mg a) : CanC P w K mg base 7 a.Font "read" (spFRead a) := by
  refine canC_of T.m_Font_read sc_Font_read bd_Font_read (fun vs H Q E h => ?_) (fun f cdv A outer s0 H vs Q E hr h => ?_)
  · obtain ⟨s, r, c, n, l, rfl, _⟩ := h
    rfl
  · obtain ⟨s, r, c, n, l, rfl, sch, hl, yz, z⟩ := h
    refine ⟨_, (pss_cons (ps_set (i := 3) sc_Font_read.nd rfl (.inl rfl) (pe_split (pv 2) pe_str))
      (pss_cons (ps_if (pt_cmpR op_ne (pe_callB (klen_seq K) (by rfl) T.b_len (by decide +kernel) (pa_cons (pv 3) pa_nil)) pe_int (nomark _)) (pss_one (pr_err (c_BadFont T) (takes_of rfl rfl rfl rfl) (by rfl) hr (by decide) (by rfl) pe_str)) pss_nil)
      (pss_cons (ps_set (i := 4) sc_Font_read.nd rfl (.inl rfl) (pe_lst pa_nil))
      (pss_cons (ps_for (passes_of rfl) (by rfl) (kpi_list K (pe_ifExp (pt_truth (pe_ix (kix_list K) (pv 3) pe_int (fun _ _ => rfl)) (by intro _; rfl)) (pe_split (pe_ix (kix_list K) (pv 3) pe_int (fun _ _ => rfl)) pe_str) (pe_lst pa_nil))) (pg_name (i := 5) sc_Font_read.nd rfl (.inl rfl)) (pss_cons (ps_set (i := 6) sc_Font_read.nd rfl (.inl rfl) (pe_split (pv 5) pe_str))
      (pss_cons (ps_if (pt_cmpR op_ne (pe_callB (klen_seq K) (by rfl) T.b_len (by decide +kernel) (pa_cons (pv 6) pa_nil)) pe_int (nomark _)) (pss_one (pr_err (c_BadFont T) (takes_of rfl rfl rfl rfl) (by rfl) hr (by decide) (by rfl) pe_str)) pss_nil)
      (pss_one (ps_expr (pe_bm PySem.F.plainAttrs_list PySem.F.slot_list_append PySem.F.type_list_append mt_append (pv 4) (pa_cons (pe_tup (pa_cons (pe_ix (kix_list K) (pv 6) pe_int (fun _ _ => rfl)) (pa_cons (pe_ix (kix_list K) (pv 6) pe_int (fun _ _ => rfl)) pa_nil))) pa_nil)))))))
      (pss_one (ps_ret (pc_nV (i := 0) (c_Font_init T) (takes_of rfl rfl rfl rfl) hr (by decide) (by rfl) (.inl rfl) (pa_cons (pv 1) (pa_cons (pe_ix (kix_list K) (pv 3) pe_int (fun _ _ => rfl)) (pa_cons (pv 4) pa_nil)))))))))), ?_⟩
    have gn := good_n sch.2
    have esp : (Txt.split (S l) (Str.ofString "|")).map V.str = (cutc 124 [] l).map tx := by
      rw [show Str.ofString "|" = S [124] by decide +kernel, split1 _ (by decide), List.map_map]
      rfl
    refine ⟨_, rfl, ⟨_, rfl⟩, _, _, rfl, rfl, by decide +kernel, by rw [S_len]; exact szl (by omega), fun X hX => ?_⟩
    rw [esp]
    have s1 : Same H (upd H X (.lst ((cutc 124 [] l).map tx))) := ex_new hX
    refine ⟨_, rfl, X, _, rfl, .inl (seqL_of upd_same), rfl, _, rfl, ?_⟩
    rw [List.length_map]
    by_cases h2 : (cutc 124 [] l).length = 2
    · have hparts := cutc_part (c := 124) (l := l) (acc := [])
      obtain ⟨x, gp, he⟩ : ∃ u v, cutc 124 [] l = [u, v] := by
        match hm : cutc 124 [] l, h2 with
        | [u, v], _ => exact ⟨u, v, rfl⟩
      have hpl : parseL l = (allL (cutP x)).map fun ps => (gp, ps) := by unfold parseL; rw [he]
      rw [he] at hparts s1 ⊢
      rw [show [x, gp].map tx = [tx x, tx gp] from rfl] at s1 ⊢
      have lx : x.length ≤ 500 := by have := hparts x (by simp); simp at this; omega
      have lgp : gp.length ≤ 500 := by have := hparts gp (by simp); simp at this; omega
      rw [hpl] at yz z
      have hX1 : (upd H X (.lst [tx x, tx gp])) X = some (.lst [tx x, tx gp]) := upd_same
      refine neT ?_
      generalize upd H X (.lst [tx x, tx gp]) = G1 at s1 hX1
      refine ⟨by decide, fun L hL => ?_⟩
      have hL0 := free_same s1 hL
      have nXL : X ≠ L := ne_some hL hX1
      have s2 := s1.trans (ex_new (o := .lst []) hL)
      have hX2 : (upd G1 L (.lst [])) X = some (.lst [tx x, tx gp]) := by rw [upd_ne nXL]; exact hX1
      generalize hps : cutP x = ps at yz z
      have lps : ps.length ≤ 501 := by
        rw [← hps]
        unfold cutP
        split
        · exact Nat.zero_le _
        · exact Nat.le_trans cutc_len (by omega)
      have pps : ∀ p ∈ ps, p.length ≤ 500 := fun p hp => by
        rw [← hps] at hp
        unfold cutP at hp
        split at hp
        · cases hp
        · have := cutc_part p hp
          simp at this
          omega
      by_cases hr0 : x = []
      · have hps0 : ps = [] := by rw [← hps]; unfold cutP; rw [if_pos hr0]
        refine ⟨_, rfl, X, _, 0, _, rfl, rfl, seqL_of hX2, atI_nat (j := 0) rfl, false, by show TruV K (tx x) _ false; rw [hr0]; exact tru_S0, iteF ⟨by decide, fun B hB => ?_⟩⟩
        have eB : (upd (upd G1 L (.lst [])) B (.lst [])) = upd (upd G1 L (.lst [])) B (.lst (ps.map tx)) := by rw [hps0]; rfl
        rw [eB]
        have hL3 : (upd (upd G1 L (.lst [])) B (.lst (ps.map tx))) L = some (.lst []) := by rw [upd_ne (ne_some hB upd_same)]; exact upd_same
        have nBL : B ≠ L := Ne.symm (ne_some hB upd_same)
        have hB3 : (upd (upd G1 L (.lst [])) B (.lst (ps.map tx))) B = some (.lst (ps.map tx)) := upd_same
        have hX3 : (upd (upd G1 L (.lst [])) B (.lst (ps.map tx))) X = some (.lst [tx x, tx gp]) := by rw [upd_ne (ne_some hB hX2)]; exact hX2
        have s3 := s2.trans (ex_new (o := .lst (ps.map tx)) hB)
        generalize upd (upd G1 L (.lst [])) B (.lst (ps.map tx)) = G3 at hL3 hB3 hX3 s3
        refine ⟨B, rfl, ⟨_, seqL_of hB3⟩, for_it (walk_list (xs := ps.map tx)) (fun i σ G => (∃ us rs1, Same H G ∧ G B = some (.lst (ps.map tx)) ∧ G X = some (.lst [tx x, tx gp]) ∧ G L = some (.lst us) ∧ PairsL G us rs1 ∧ smallP rs1 ∧ rs1.length = i ∧ allL ps = (allL (ps.drop i)).map (rs1 ++ ·)) ∧ ∃ u v : Option V, σ = [some (.ref a.Font), some (.ref s), some (tx l), some (.ref X), some (.ref L), u, v]) ⟨⟨[], [], s3, hB3, hX3, hL3, ⟨rfl, nofun⟩, nofun, rfl, by rw [List.drop_zero]; cases allL ps <;> rfl⟩, none, none, rfl⟩ (fun i σ G _ ⟨⟨us, rs1, _, hb, _⟩, _⟩ => seqL_of hb) ?_ ?_⟩
        · rintro i y σ G0 G hi ⟨⟨us, rs1, s4, hb, hX', hl', lk, sm1, li1, ha⟩, u0, v0, rfl⟩ ⟨rfl, hy⟩
          have hi : i < ps.length := by rw [List.length_map] at hi; exact hi
          have hk : ps[i]? = some ps[i] := List.getElem?_eq_getElem hi
          rw [List.getElem?_map, hk] at hy
          have ey := Option.some.inj hy
          subst ey
          have hdr : ps.drop i = ps[i] :: ps.drop (i + 1) := List.drop_eq_getElem_cons hi
          rw [hdr] at ha
          have lp := pps _ (List.getElem_mem hi)
          generalize ps[i] = p at hk ha lp hdr
          have bad : pieceL p = none → Ra E a.BadFont "part" (.str (Str.ofString "text")) G := fun h => (yz (by rw [ha, allL_bad h]; rfl)).mono s4
          have lus : us.length ≤ 500 := by rw [lk.1, li1]; omega
          have esp : (Txt.split (S p) (Str.ofString "=")).map V.str = (cutc 61 [] p).map tx := by
            rw [show Str.ofString "=" = S [61] by decide +kernel, split1 _ (by decide), List.map_map]
            rfl
          refine ⟨_, rfl, ⟨_, rfl⟩, _, _, rfl, rfl, by decide +kernel, by rw [S_len]; exact szl (by omega), fun Y hY => ?_⟩
          rw [esp]
          have s5 : Same G (upd G Y (.lst ((cutc 61 [] p).map tx))) := ex_new hY
          refine ⟨_, rfl, Y, _, rfl, .inl (seqL_of upd_same), rfl, _, rfl, ?_⟩
          rw [List.length_map]
          by_cases h2 : (cutc 61 [] p).length = 2
          · have hparts := cutc_part (c := 61) (l := p) (acc := [])
            obtain ⟨e1, e2, he2⟩ : ∃ u v, cutc 61 [] p = [u, v] := by
              match hm : cutc 61 [] p, h2 with
              | [u, v], _ => exact ⟨u, v, rfl⟩
            have hpp : pieceL p = some (e1, e2) := by unfold pieceL; rw [he2]
            rw [he2] at hparts s5 ⊢
            rw [show [e1, e2].map tx = [tx e1, tx e2] from rfl] at s5 ⊢
            have le1 : e1.length ≤ 500 := by have := hparts e1 (by simp); simp at this; omega
            have le2 : e2.length ≤ 500 := by have := hparts e2 (by simp); simp at this; omega
            have hY2 : (upd G Y (.lst [tx e1, tx e2])) Y = some (.lst [tx e1, tx e2]) := upd_same
            refine neT ?_
            generalize upd G Y (.lst [tx e1, tx e2]) = M at hY2 s5
            refine ⟨_, rfl, .inl ⟨rfl, _, seqL_of (s5 _ _ hl')⟩, _, rfl, Y, _, 0, _, rfl, rfl, seqL_of hY2, atI_nat (j := 0) rfl, _, rfl, Y, _, 1, _, rfl, rfl, seqL_of hY2, atI_nat (j := 1) rfl, by show 2 ≤ sizeLine; decide, fun w hw => ?_⟩
            have nLu : L ≠ w := ne_some hw (s5 _ _ hl')
            have hl6 : (upd M w (.tup [tx e1, tx e2])) L = some (.lst us) := by rw [upd_ne nLu]; exact s5 _ _ hl'
            have s6 : Same M (upd M w (.tup [tx e1, tx e2])) := ex_new hw
            have s46 := s4.trans (s5.trans s6)
            have nBL2 : B ≠ L := nBL
            refine ⟨L, _, _, rfl, rfl, hl6, szlt (by omega), ⟨us ++ [.ref w], rs1 ++ [(e1, e2)], ex_mut s46 hL0, ?_, ?_, upd_same, ?_, ?_, by rw [List.length_append, li1]; rfl, ?_⟩, _, _, rfl⟩
            · rw [upd_ne nBL2]
              exact s6 _ _ (s5 _ _ hb)
            · rw [upd_ne nXL]
              exact s6 _ _ (s5 _ _ hX')
            · exact (((lk.mono s5).mono s6).snoc (k := (e1, e2)) upd_same).upd hl6
            · intro q hq
              rcases List.mem_append.mp hq with hq | hq
              · exact sm1 q hq
              · rw [List.mem_singleton] at hq
                rw [hq]
                exact ⟨by show e1.length ≤ 1000; omega, by show e2.length ≤ 1000; omega⟩
            · rw [ha, allL_ok hpp]
              cases allL (ps.drop (i + 1)) with
              | none => rfl
              | some v => simp
          · have hn : pieceL p = none := by
              unfold pieceL
              split
              · rename_i h; rw [h] at h2; exact absurd rfl h2
              · rfl
            exact ite2 (fun _ => ((bad hn).mono s5).now) (fun h => absurd (by rw [decide_eq_false (fun q => h2 (by injection q with q; omega))]; rfl) h)
        · rintro σ G ⟨⟨us, rs1, s4, hb, hX', hl', lk, sm1, li1, ha⟩, u0, v0, rfl⟩
          have hall : allL ps = some rs1 := by
            rw [ha, List.length_map, List.drop_of_length_le (Nat.le_refl _)]
            show some (rs1 ++ []) = _
            rw [List.append_nil]
          obtain ⟨y1, y2, y3, y4⟩ := z gp rs1 (by rw [hall]; rfl)
          rw [List.length_map] at li1
          refine ⟨rfl, _, rfl, _, rfl, X, _, 1, _, rfl, rfl, seqL_of hX', atI_nat (j := 1) rfl, _, rfl, ?_⟩
          intro y dy hy hdy hne
          exact rinitF hy hdy hne (sch.mono s4) hl' lk (by omega) sm1 (by omega) (fun h => (y1 h).mono s4) (fun h k => (y2 h k).mono s4) (fun h k f e => (y3 h k f e).mono s4) (fun h k e G5 s7 fa fr => ⟨rfl, y4 h k e G5 y (s4.trans s7) (free_same s4 hy) fa (fr.same s4)⟩)
      · have esj : (Txt.split (S x) (Str.ofString ",")).map V.str = ps.map tx := by
          rw [show Str.ofString "," = S [44] by decide +kernel, split1 _ (by decide), ← hps, List.map_map]
          unfold cutP
          rw [if_neg hr0]
          rfl
        refine ⟨_, rfl, X, _, 0, _, rfl, rfl, seqL_of hX2, atI_nat (j := 0) rfl, true, tru_S (List.length_pos_iff.mpr hr0) (by omega), iteT ⟨_, rfl, X, _, 0, _, rfl, rfl, seqL_of hX2, atI_nat (j := 0) rfl, ⟨_, rfl⟩, _, _, rfl, rfl, by decide +kernel, by rw [S_len]; exact szl (by omega), fun B hB => ?_⟩⟩
        rw [esj]
        have hL3 : (upd (upd G1 L (.lst [])) B (.lst (ps.map tx))) L = some (.lst []) := by rw [upd_ne (ne_some hB upd_same)]; exact upd_same
        have nBL : B ≠ L := Ne.symm (ne_some hB upd_same)
        have hB3 : (upd (upd G1 L (.lst [])) B (.lst (ps.map tx))) B = some (.lst (ps.map tx)) := upd_same
        have hX3 : (upd (upd G1 L (.lst [])) B (.lst (ps.map tx))) X = some (.lst [tx x, tx gp]) := by rw [upd_ne (ne_some hB hX2)]; exact hX2
        have s3 := s2.trans (ex_new (o := .lst (ps.map tx)) hB)
        generalize upd (upd G1 L (.lst [])) B (.lst (ps.map tx)) = G3 at hL3 hB3 hX3 s3
        refine ⟨B, rfl, ⟨_, seqL_of hB3⟩, for_it (walk_list (xs := ps.map tx)) (fun i σ G => (∃ us rs1, Same H G ∧ G B = some (.lst (ps.map tx)) ∧ G X = some (.lst [tx x, tx gp]) ∧ G L = some (.lst us) ∧ PairsL G us rs1 ∧ smallP rs1 ∧ rs1.length = i ∧ allL ps = (allL (ps.drop i)).map (rs1 ++ ·)) ∧ ∃ u v : Option V, σ = [some (.ref a.Font), some (.ref s), some (tx l), some (.ref X), some (.ref L), u, v]) ⟨⟨[], [], s3, hB3, hX3, hL3, ⟨rfl, nofun⟩, nofun, rfl, by rw [List.drop_zero]; cases allL ps <;> rfl⟩, none, none, rfl⟩ (fun i σ G _ ⟨⟨us, rs1, _, hb, _⟩, _⟩ => seqL_of hb) ?_ ?_⟩
        · rintro i y σ G0 G hi ⟨⟨us, rs1, s4, hb, hX', hl', lk, sm1, li1, ha⟩, u0, v0, rfl⟩ ⟨rfl, hy⟩
          have hi : i < ps.length := by rw [List.length_map] at hi; exact hi
          have hk : ps[i]? = some ps[i] := List.getElem?_eq_getElem hi
          rw [List.getElem?_map, hk] at hy
          have ey := Option.some.inj hy
          subst ey
          have hdr : ps.drop i = ps[i] :: ps.drop (i + 1) := List.drop_eq_getElem_cons hi
          rw [hdr] at ha
          have lp := pps _ (List.getElem_mem hi)
          generalize ps[i] = p at hk ha lp hdr
          have bad : pieceL p = none → Ra E a.BadFont "part" (.str (Str.ofString "text")) G := fun h => (yz (by rw [ha, allL_bad h]; rfl)).mono s4
          have lus : us.length ≤ 500 := by rw [lk.1, li1]; omega
          have esp : (Txt.split (S p) (Str.ofString "=")).map V.str = (cutc 61 [] p).map tx := by
            rw [show Str.ofString "=" = S [61] by decide +kernel, split1 _ (by decide), List.map_map]
            rfl
          refine ⟨_, rfl, ⟨_, rfl⟩, _, _, rfl, rfl, by decide +kernel, by rw [S_len]; exact szl (by omega), fun Y hY => ?_⟩
          rw [esp]
          have s5 : Same G (upd G Y (.lst ((cutc 61 [] p).map tx))) := ex_new hY
          refine ⟨_, rfl, Y, _, rfl, .inl (seqL_of upd_same), rfl, _, rfl, ?_⟩
          rw [List.length_map]
          by_cases h2 : (cutc 61 [] p).length = 2
          · have hparts := cutc_part (c := 61) (l := p) (acc := [])
            obtain ⟨e1, e2, he2⟩ : ∃ u v, cutc 61 [] p = [u, v] := by
              match hm : cutc 61 [] p, h2 with
              | [u, v], _ => exact ⟨u, v, rfl⟩
            have hpp : pieceL p = some (e1, e2) := by unfold pieceL; rw [he2]
            rw [he2] at hparts s5 ⊢
            rw [show [e1, e2].map tx = [tx e1, tx e2] from rfl] at s5 ⊢
            have le1 : e1.length ≤ 500 := by have := hparts e1 (by simp); simp at this; omega
            have le2 : e2.length ≤ 500 := by have := hparts e2 (by simp); simp at this; omega
            have hY2 : (upd G Y (.lst [tx e1, tx e2])) Y = some (.lst [tx e1, tx e2]) := upd_same
            refine neT ?_
            generalize upd G Y (.lst [tx e1, tx e2]) = M at hY2 s5
            refine ⟨_, rfl, .inl ⟨rfl, _, seqL_of (s5 _ _ hl')⟩, _, rfl, Y, _, 0, _, rfl, rfl, seqL_of hY2, atI_nat (j := 0) rfl, _, rfl, Y, _, 1, _, rfl, rfl, seqL_of hY2, atI_nat (j := 1) rfl, by show 2 ≤ sizeLine; decide, fun w hw => ?_⟩
            have nLu : L ≠ w := ne_some hw (s5 _ _ hl')
            have hl6 : (upd M w (.tup [tx e1, tx e2])) L = some (.lst us) := by rw [upd_ne nLu]; exact s5 _ _ hl'
            have s6 : Same M (upd M w (.tup [tx e1, tx e2])) := ex_new hw
            have s46 := s4.trans (s5.trans s6)
            have nBL2 : B ≠ L := nBL
            refine ⟨L, _, _, rfl, rfl, hl6, szlt (by omega), ⟨us ++ [.ref w], rs1 ++ [(e1, e2)], ex_mut s46 hL0, ?_, ?_, upd_same, ?_, ?_, by rw [List.length_append, li1]; rfl, ?_⟩, _, _, rfl⟩
            · rw [upd_ne nBL2]
              exact s6 _ _ (s5 _ _ hb)
            · rw [upd_ne nXL]
              exact s6 _ _ (s5 _ _ hX')
            · exact (((lk.mono s5).mono s6).snoc (k := (e1, e2)) upd_same).upd hl6
            · intro q hq
              rcases List.mem_append.mp hq with hq | hq
              · exact sm1 q hq
              · rw [List.mem_singleton] at hq
                rw [hq]
                exact ⟨by show e1.length ≤ 1000; omega, by show e2.length ≤ 1000; omega⟩
            · rw [ha, allL_ok hpp]
              cases allL (ps.drop (i + 1)) with
              | none => rfl
              | some v => simp
          · have hn : pieceL p = none := by
              unfold pieceL
              split
              · rename_i h; rw [h] at h2; exact absurd rfl h2
              · rfl
            exact ite2 (fun _ => ((bad hn).mono s5).now) (fun h => absurd (by rw [decide_eq_false (fun q => h2 (by injection q with q; omega))]; rfl) h)
        · rintro σ G ⟨⟨us, rs1, s4, hb, hX', hl', lk, sm1, li1, ha⟩, u0, v0, rfl⟩
          have hall : allL ps = some rs1 := by
            rw [ha, List.length_map, List.drop_of_length_le (Nat.le_refl _)]
            show some (rs1 ++ []) = _
            rw [List.append_nil]
          obtain ⟨y1, y2, y3, y4⟩ := z gp rs1 (by rw [hall]; rfl)
          rw [List.length_map] at li1
          refine ⟨rfl, _, rfl, _, rfl, X, _, 1, _, rfl, rfl, seqL_of hX', atI_nat (j := 1) rfl, _, rfl, ?_⟩
          intro y dy hy hdy hne
          exact rinitF hy hdy hne (sch.mono s4) hl' lk (by omega) sm1 (by omega) (fun h => (y1 h).mono s4) (fun h k => (y2 h k).mono s4) (fun h k f e => (y3 h k f e).mono s4) (fun h k e G5 s7 fa fr => ⟨rfl, y4 h k e G5 y (s4.trans s7) (free_same s4 hy) fa (fr.same s4)⟩)
    · have hn : parseL l = none := by
        unfold parseL
        split
        · rename_i h; rw [h] at h2; exact absurd rfl h2
        · rfl
      exact ite2 (fun _ => ((yz hn).mono s1).now) (fun h => absurd (by rw [decide_eq_false (fun q => h2 (by injection q with q; omega))]; rfl) h)
end
end K32

end
section
set_option Elab.async false
set_option linter.all false
set_option maxRecDepth 100000
set_option maxHeartbeats 4000000
namespace K32
open PySem PySem.Spec PyProof.Rows L2 Kit
/-! ### the purse -/
def pz (g : Addr) (sd c : Int) : HO := .lst [.ref g, .int sd, .int c]
def PurseAt (n : Nat) (H : Hp) (p g : Addr) : Prop := ∃ (ns : List Int) (sd c : Int), H p = some (pz g sd c) ∧ H g = some (.lst (ns.map V.int)) ∧ g ≠ p ∧ (∀ z ∈ ns, 0 < z) ∧ 0 ≤ sd ∧ sd < 2147483647 ∧ 0 ≤ c ∧ c + n ≤ 100000
def Pg (n : Nat) (p g : Addr) (H G : Hp) : Prop := (∀ b o, H b = some o → b ≠ p → b ≠ g → G b = some o) ∧ PurseAt n G p g ∧ (∀ b, G b = none → H b = none)
theorem PurseAt.mono {n : Nat} {H G : Hp} {p g : Addr} (h : PurseAt n H p g) (e : Same H G) : PurseAt n G p g := let ⟨ns, sd, c, h1, h2, r⟩ := h; ⟨ns, sd, c, e _ _ h1, e _ _ h2, r⟩
theorem PurseAt.le {n m : Nat} {H : Hp} {p g : Addr} (h : PurseAt n H p g) (e : m ≤ n) : PurseAt m H p g := let ⟨ns, sd, c, h1, h2, h3, h4, h5, h6, h7, h8⟩ := h; ⟨ns, sd, c, h1, h2, h3, h4, h5, h6, h7, by omega⟩
theorem Pg.trans {n m : Nat} {p g : Addr} {H G M : Hp} (h : Pg n p g H G) (k : Pg m p g G M) : Pg m p g H M := ⟨fun b o e h1 h2 => k.1 b o (h.1 b o e h1 h2) h1 h2, k.2.1, fun b e => h.2.2 b (k.2.2 b e)⟩
theorem Pg.same {n : Nat} {p g : Addr} {H G M : Hp} (h : Pg n p g H G) (k : Same G M) : Pg n p g H M := ⟨fun b o e h1 h2 => k b o (h.1 b o e h1 h2), h.2.1.mono k, fun b e => h.2.2 b (by
  cases q : G b with
  | none => rfl
  | some o => rw [k b o q] at e; cases e)⟩
theorem Pg.refl {n : Nat} {p g : Addr} {H : Hp} (h : PurseAt n H p g) : Pg n p g H H := ⟨fun _ _ e _ _ => e, h, fun _ e => e⟩
theorem same_pg {n : Nat} {p g : Addr} {H G M : Hp} (h : Same H G) (k : Pg n p g G M) : Pg n p g H M := ⟨fun b o e h1 h2 => k.1 b o (h b o e) h1 h2, k.2.1, fun b e => by
  cases q : H b with
  | none => rfl
  | some o => have := k.2.2 b e; rw [h b o q] at this; cases this⟩
theorem Pg.le {n m : Nat} {p g : Addr} {H G : Hp} (h : Pg n p g H G) (e : m ≤ n) : Pg m p g H G := ⟨h.1, h.2.1.le e, h.2.2⟩
theorem Pg.pu {n : Nat} {p g : Addr} {H G : Hp} (h : Pg n p g H G) : PurseAt n G p g := h.2.1
/-- apart from the purse -/
structure Ap (p g D : Addr) : Prop where
  p : D ≠ p
  g : D ≠ g
theorem ap_new {n : Nat} {p g D : Addr} {H : Hp} (h : PurseAt n H p g) (hD : H D = none) : Ap p g D := by
  obtain ⟨ns, sd, c, h1, h2, _⟩ := h
  exact ⟨(fun e => by rw [e, h1] at hD; cases hD), (fun e => by rw [e, h2] at hD; cases hD)⟩
theorem ap_tup {n : Nat} {p g D : Addr} {H : Hp} {xs : List V} (h : PurseAt n H p g) (hD : H D = some (.tup xs)) : Ap p g D := by
  obtain ⟨ns, sd, c, h1, h2, _⟩ := h
  exact ⟨(fun e => by rw [e, h1] at hD; cases hD), (fun e => by rw [e, h2] at hD; cases hD)⟩
theorem ap_ins {n : Nat} {p g D C dx : Addr} {H : Hp} {fs : List (Str × V)} (h : PurseAt n H p g) (hD : H D = some (.ins C dx fs)) : Ap p g D := by
  obtain ⟨ns, sd, c, h1, h2, _⟩ := h
  exact ⟨(fun e => by rw [e, h1] at hD; cases hD), (fun e => by rw [e, h2] at hD; cases hD)⟩
theorem ap_dk {n : Nat} {p g D : Addr} {H : Hp} {kvs : List (Key × V)} (h : PurseAt n H p g) (hD : H D = some (.dK kvs)) : Ap p g D := by
  obtain ⟨ns, sd, c, h1, h2, _⟩ := h
  exact ⟨(fun e => by rw [e, h1] at hD; cases hD), (fun e => by rw [e, h2] at hD; cases hD)⟩
theorem Pg.at {n : Nat} {p g D : Addr} {H G : Hp} {o : HO} (h : Pg n p g H G) (a : Ap p g D) (hD : H D = some o) : G D = some o := h.1 D o hD a.p a.g
theorem Pg.tup {n m : Nat} {p g D : Addr} {H G : Hp} {xs : List V} (h : Pg n p g H G) (hp : PurseAt m H p g) (hD : H D = some (.tup xs)) : G D = some (.tup xs) := h.at (ap_tup hp hD) hD
/-- a list made since may be changed -/
theorem Pg.put {n : Nat} {p g D : Addr} {H G : Hp} {o : HO} (h : Pg n p g H G) (hD : H D = none) (a : Ap p g D) : Pg n p g H (upd G D o) := by
  refine ⟨fun b o' e h1 h2 => ?_, ?_, fun b e => ?_⟩
  · rw [upd_ne fun q => by rw [q, hD] at e; cases e]
    exact h.1 b o' e h1 h2
  · obtain ⟨ns, sd, c, h1, h2, r⟩ := h.2.1
    exact ⟨ns, sd, c, by rw [upd_ne (Ne.symm a.p)]; exact h1, by rw [upd_ne (Ne.symm a.g)]; exact h2, r⟩
  · by_cases q : b = D
    · rw [q]; exact hD
    · rw [upd_ne q] at e
      exact h.2.2 b e
theorem PairsL.pg {n m : Nat} {p g : Addr} {H G : Hp} {ws : List V} {ps : List Pr} (h : PairsL H ws ps) (hp : PurseAt m H p g) (e : Pg n p g H G) : PairsL G ws ps := ⟨h.1, fun i k hk => let ⟨b, h1, h2⟩ := h.2 i k hk; ⟨b, h1, e.tup hp h2⟩⟩
theorem SchemeAt.pg {C s p g : Addr} {H G : Hp} {r c n k m : Nat} (h : SchemeAt C H s r c n) (hp : PurseAt k H p g) (e : Pg m p g H G) : SchemeAt C G s r c n := ⟨let ⟨dx, h1⟩ := h.1; ⟨dx, e.at (ap_ins hp h1) h1⟩, h.2⟩
section
variable {P : Program} {w : World} {K : PySem.W.Frag} {mg : Str → Option Value} {base : Heap} {a : Ad}
theorem cv_take (l : List V) (k : Nat) : cutV l none (some (k : Int)) = l.take k := by
  unfold cutV
  have e1 : HT.sIx l.length 0 none = 0 := rfl
  have e2 := sIx_some l.length l.length k
  rw [e1, e2, List.drop_zero, Nat.sub_zero]
  rcases Nat.le_total k l.length with h | h
  · rw [Nat.min_eq_left h]
  · rw [Nat.min_eq_right h, List.take_of_length_le (Nat.le_refl _), List.take_of_length_le h]
theorem cv_drop (l : List V) (k : Nat) : cutV l (some (k : Int)) none = l.drop k := by
  unfold cutV
  have e1 : HT.sIx l.length l.length none = l.length := rfl
  have e2 := sIx_some l.length 0 k
  rw [e1, e2]
  rcases Nat.le_total k l.length with h | h
  · rw [Nat.min_eq_left h, List.take_of_length_le (by rw [List.length_drop]; exact Nat.le_refl _)]
  · rw [Nat.min_eq_right h, List.drop_of_length_le (Nat.le_refl _), List.drop_of_length_le h, List.take_nil]
def spPurse (K : PySem.W.Frag) : Sp := fun vs H Q _ => ∃ (b : Addr) (ns : List Int), vs = [.ref b] ∧ SqL K H b (ns.map V.int) ∧ ns.length ≤ 63 ∧ ∀ (p g : Addr) (G : Hp), Same H G → PurseAt 100000 G p g → Q (.ref p) G
theorem c_law_purse (T : Txt K mg a) : Can P w K mg base 1 "_law_purse" (spPurse K) := by
  refine can_of T.d_law_purse sc_law_purse bd_law_purse (fun vs H Q E h => ?_) (fun f cdv A outer s H vs Q E hr h => ?_)
  · obtain ⟨b, ns, rfl, _⟩ := h
    rfl
  · obtain ⟨b, ns, rfl, hs, hl, z⟩ := h
    refine ⟨_, (pss_cons (ps_setLc (i := 1) (own := [("cell", 2)]) (g := gName 2) (tt := tYes) (by rfl) sc_law_purse.nd rfl rfl (sw_true rfl rfl rfl (by decide +kernel)) (kpi_list K (pe_slice (ksl_list K) (pv 0) po_none (po_some pe_int))) (blkOk_by (N := N_law_purse) (sc := defScope s_law_purse) (by decide +kernel)) (fun _ _ _ _ _ => (pg_name (i := 2) sc_law_purse.nd rfl (.inl rfl))) (fun _ _ _ _ _ => pts_nil) (fun _ _ _ _ _ => (pe_callTy call_int1 (by rfl) T.b_int (by decide +kernel) (pa_cons (pv 2) pa_nil))))
      (pss_cons (ps_set (i := 3) sc_law_purse.nd rfl (.inl rfl) (pe_callB (klen_seq K) (by rfl) T.b_len (by decide +kernel) (pa_cons (pv 1) pa_nil)))
      (pss_cons (ps_for (passes_of rfl) (by rfl) (kpi_list K (pv 1)) (pg_name (i := 2) sc_law_purse.nd rfl (.inl rfl)) (pss_one (ps_set (i := 3) sc_law_purse.nd rfl (.inl rfl) (pe_op op_modN (pe_callTy call_int1 (by rfl) T.b_int (by decide +kernel) (pa_cons (pe_op op_add (pe_op op_mul (pv 3) pe_int) (pv 2)) pa_nil)) pe_int))))
      (pss_one (ps_ret (pe_lst (pa_cons (pe_lc (own := [("cell", 2)]) (g := gName 2) (by rfl) sc_law_purse.nd (kpi_list K (pv 1)) (blkOk_by (N := N_law_purse) (sc := defScope s_law_purse) (by decide +kernel)) (fun _ _ _ _ _ => (pg_name (i := 2) sc_law_purse.nd rfl (.inl rfl))) (fun _ _ _ _ _ => (pts_one (pt_cmpR op_ge (pv 2) (pe_op op_pow pe_int pe_int) (nomark _)))) (fun _ _ _ _ _ => (pv 2))) (pa_cons (pv 3) (pa_cons pe_int pa_nil))))))))), ?_⟩
    have e63 : cutV (ns.map V.int) none (some 63) = ns.map V.int := (cv_take _ 63).trans (List.take_of_length_le (by rw [List.length_map]; exact hl))
    refine ⟨_, rfl, _, rfl, b, _, rfl, hs, fun X hX => ?_⟩
    rw [e63]
    have s1 := ex_new (o := .lst (ns.map V.int)) hX
    refine ⟨X, rfl, ⟨_, seqL_of upd_same⟩, fun D hD => lc_one (walk_list (xs := ns.map V.int)) (ns.map V.int) rfl (by rw [List.length_map]; omega) hD (fun N sm => seqL_of (sm _ _ upd_same)) ?_ ?_⟩
    · rintro i x N N' v hi sm ⟨rfl, hx⟩ hv
      have ev : x = v := Option.some.inj (hx.symm.trans hv)
      subst ev
      obtain ⟨k, hk, rfl⟩ := List.mem_map.mp (List.mem_of_getElem? hx)
      exact ⟨.refl _, fun Q' q => ⟨_, rfl, .inl ⟨_, rfl, q _ (.refl _)⟩⟩⟩
    · intro N sm hN
      have s2 := s1.trans sm
      refine ⟨_, rfl, D, _, rfl, .inl (seqL_of hN), ?_⟩
      rw [List.length_map]
      refine ⟨_, rfl, D, rfl, ⟨_, seqL_of hN⟩, for_it (walk_list (xs := ns.map V.int)) (fun i σ G => G = N ∧ ∃ (sd : Int) (u : Option V), 0 ≤ sd ∧ sd < 2147483647 ∧ σ = [some (.ref b), some (.ref D), u, some (.int sd)]) ⟨rfl, _, none, by omega, by omega, rfl⟩ (fun i σ G _ h => seqL_of (by rw [h.1]; exact hN)) ?_ ?_⟩
      · rintro i x σ G0 G hi ⟨rfl, sd, u, h0, h1, rfl⟩ ⟨rfl, hx⟩
        obtain ⟨k, hk, rfl⟩ := List.mem_map.mp (List.mem_of_getElem? hx)
        refine ⟨_, rfl, _, _, rfl, rfl, .inr (by decide), _, rfl, _, _, rfl, rfl, .inl ⟨_, rfl, _, _, rfl, rfl, (by decide : (2147483647 : Int) ≠ 0), ?_⟩⟩
        exact ⟨rfl, _, _, Int.fmod_nonneg_of_pos _ (by decide), Int.fmod_lt_of_pos _ (by decide), rfl⟩
      · rintro σ G ⟨rfl, sd, u, h0, h1, rfl⟩
        refine ⟨_, rfl, D, rfl, ⟨_, seqL_of hN⟩, fun D2 hD2 => ?_⟩
        refine lc_it (walk_list (xs := ns.map V.int)) (fun i G2 => Same G G2 ∧ ∃ ks : List Int, G2 D2 = some (.lst (ks.map V.int)) ∧ (∀ z ∈ ks, 0 < z) ∧ ks.length ≤ i) ⟨ex_new hD2, [], upd_same, nofun, Nat.le_refl _⟩ (fun i G' _ h => seqL_of (h.1 _ _ hN)) ?_ ?_
        · rintro i x G0 G2 hi ⟨s3, ks, hD3, hk0, hkl⟩ ⟨rfl, hx⟩
          obtain ⟨k, hk, rfl⟩ := List.mem_map.mp (List.mem_of_getElem? hx)
          rw [List.length_map] at hi
          refine ⟨rfl, _, rfl, _, _, rfl, rfl, ⟨by decide, by decide, by decide⟩, _, _, rfl, rfl, _, rfl, ?_⟩
          have e10 : ((10 : Int) ^ (18 : Int).toNat) = 1000000000000000000 := by decide +kernel
          refine ite2 (fun hge => ?_) (fun _ => ⟨s3, ks, hD3, hk0, by omega⟩)
          have hge := of_decide_eq_true hge
          rw [e10] at hge
          refine ⟨_, rfl, _, hD3, by rw [List.length_map]; exact szlt (by omega), ex_mut s3 hD2, ks ++ [k], ?_, fun z hz => ?_, by rw [List.length_append, List.length_singleton]; omega⟩
          · rw [upd_same, List.map_append]
            rfl
          · rcases List.mem_append.mp hz with hz | hz
            · exact hk0 z hz
            · rw [List.mem_singleton] at hz
              omega
        · rintro G3 ⟨s3, ks, hD3, hk0, hkl⟩
          refine ⟨_, rfl, by show 3 ≤ sizeLine; decide, fun q hq => ?_⟩
          have nq : D2 ≠ q := ne_some hq hD3
          exact z q D2 _ (s2.trans (s3.trans (ex_new hq))) ⟨ks, sd, 0, upd_same, by rw [upd_ne nq]; exact hD3, nq, hk0, h0, h1, by decide, by decide⟩
theorem ixN_nat {n j : Nat} (h : j < n) : ixN n ((j : Nat) : Int) = some j := by
  unfold ixN
  rw [if_pos (by omega), if_pos (by omega)]
  rfl
def spDraw : Sp := fun vs H Q _ => ∃ (p g : Addr) (m : Int) (n : Nat), vs = [.ref p, .int m] ∧ PurseAt (n + 1) H p g ∧ 0 < m ∧ m < 1000000000 ∧ ∀ (d : Int) (G : Hp), 0 ≤ d → d < m → Pg n p g H G → Q (.int d) G
theorem c_law_draw (T : Txt K mg a) : Can P w K mg base 1 "_law_draw" spDraw := by
  refine can_of T.d_law_draw sc_law_draw bd_law_draw (fun vs H Q E h => ?_) (fun f cdv A outer s H vs Q E hr h => ?_)
  · obtain ⟨p, g, m, n, rfl, _⟩ := h
    rfl
  · obtain ⟨p, g, m, n, rfl, ⟨ns, sd, c, hp, hg, ngp, hns, h0, h1, h2, h3⟩, m0, m1, z⟩ := h
    refine ⟨_, (pss_cons (ps_set (i := 2) sc_law_draw.nd rfl (.inl rfl) (pe_ix (kix_list K) (pv 0) pe_int (fun _ _ => rfl)))
      (pss_cons (ps_if (pt_truth (pv 2) (by intro _; rfl)) (pss_cons (ps_set (i := 3) sc_law_draw.nd rfl (.inl rfl) (pe_ix (kix_list K) (pv 2) pe_int (fun _ _ => rfl)))
      (pss_cons (ps_asg (pe_op op_fdivN (pv 3) (pv 1)) (pg_sub (pv 2) pe_int set_list))
      (pss_cons (ps_if (pt_cmpR op_eq (pe_ix (kix_list K) (pv 2) pe_int (fun _ _ => rfl)) pe_int (nomark _)) (pss_one (ps_expr (pe_bm PySem.F.plainAttrs_list PySem.F.slot_list_pop PySem.F.type_list_pop mt_popAt (pv 2) (pa_cons pe_int pa_nil)))) pss_nil)
      (pss_one (ps_ret (pe_op op_modN (pe_callTy call_int1 (by rfl) T.b_int (by decide +kernel) (pa_cons (pv 3) pa_nil)) (pv 1))))))) pss_nil)
      (pss_cons (ps_asg (pe_op op_add (pe_ix (kix_list K) (pv 0) pe_int (fun _ _ => rfl)) pe_int) (pg_sub (pv 0) pe_int set_list))
      (pss_cons (ps_set (i := 4) sc_law_draw.nd rfl (.inl rfl) (pe_op op_modN (pe_callTy call_int1 (by rfl) T.b_int (by decide +kernel) (pa_cons (pe_op op_add (pe_op op_mul (pe_ix (kix_list K) (pv 0) pe_int (fun _ _ => rfl)) pe_int) (pe_op op_mul (pe_ix (kix_list K) (pv 0) pe_int (fun _ _ => rfl)) pe_int)) pa_nil)) pe_int))
      (pss_cons (ps_set (i := 5) sc_law_draw.nd rfl (.inl rfl) (pe_op op_modN (pe_callTy call_int1 (by rfl) T.b_int (by decide +kernel) (pa_cons (pe_op op_add (pe_op op_add (pe_op op_fdivN (pe_op op_mul (pv 4) (pv 4)) pe_int) (pe_op op_mul (pv 4) pe_int)) (pe_ix (kix_list K) (pv 0) pe_int (fun _ _ => rfl))) pa_nil)) pe_int))
      (pss_one (ps_ret (pe_op op_modN (pe_callTy call_int1 (by rfl) T.b_int (by decide +kernel) (pa_cons (pv 5) pa_nil)) (pv 1))))))))), ?_⟩
    have fin : ∀ (ns' : List Int) (c' d : Int) (G : Hp), (∀ b o, H b = some o → b ≠ p → b ≠ g → G b = some o) → (∀ b, G b = none → H b = none) → G p = some (pz g sd c') → G g = some (.lst (ns'.map V.int)) → (∀ z ∈ ns', 0 < z) → 0 ≤ c' → c' ≤ c + 1 → 0 ≤ d → d < m → Q (.int d) G := fun ns' c' d G k1 k2 k3 k4 k5 k6 k7 k8 k9 =>
      z d G k8 k9 ⟨k1, ⟨ns', sd, c', k3, k4, ngp, k5, h0, h1, k6, by omega⟩, k2⟩
    have upn : ∀ {A : Hp} {x : Addr} {o o' : HO}, A x = some o → (∀ b, A b = none → H b = none) → ∀ b, (upd A x o') b = none → H b = none := fun {A x o o'} hx k b hb => by
      by_cases q : b = x
      · rw [q, upd_same] at hb; cases hb
      · rw [upd_ne q] at hb; exact k b hb
    refine ⟨_, rfl, p, _, 0, _, rfl, rfl, seqL_of hp, rfl, ?_⟩
    cases ns with
    | nil =>
      refine ⟨_, rfl, false, .inl ⟨_, seqL_of hg, rfl⟩, iteF ?_⟩
      refine ⟨_, rfl, p, _, 2, _, rfl, rfl, seqL_of hp, rfl, c, 1, rfl, rfl, _, rfl, p, _, 2, 2, rfl, rfl, hp, rfl, ?_⟩
      have hp1 : (upd H p (.lst ([V.ref g, .int sd, .int c].set 2 (.int (c + 1))))) p = some (pz g sd (c + 1)) := upd_same
      have hg1 : (upd H p (.lst ([V.ref g, .int sd, .int c].set 2 (.int (c + 1))))) g = some (.lst (([] : List Int).map V.int)) := by rw [upd_ne ngp]; exact hg
      have kk : ∀ b o, H b = some o → b ≠ p → b ≠ g → (upd H p (.lst ([V.ref g, .int sd, .int c].set 2 (.int (c + 1))))) b = some o := fun b o e hb _ => by rw [upd_ne hb]; exact e
      have kn := upn (o' := .lst ([V.ref g, .int sd, .int c].set 2 (.int (c + 1)))) hp (fun _ e => e)
      generalize upd H p (.lst ([V.ref g, .int sd, .int c].set 2 (.int (c + 1)))) = G1 at hg1 hp1 kk kn ⊢
      unfold pz at hp1
      refine ⟨_, rfl, p, _, 1, _, rfl, rfl, seqL_of hp1, rfl, _, _, rfl, rfl, .inr (by decide), _, rfl, p, _, 2, _, rfl, rfl, seqL_of hp1, rfl, _, _, rfl, rfl, .inr (by decide), _, _, rfl, rfl, .inl ⟨_, rfl, _, _, rfl, rfl, (by decide : (2147483647 : Int) ≠ 0), ?_⟩⟩
      have f0 := Int.fmod_nonneg_of_pos (sd * 48271 + (c + 1) * 619) (show (0 : Int) < 2147483647 by decide)
      have f1 := Int.fmod_lt_of_pos (sd * 48271 + (c + 1) * 619) (show (0 : Int) < 2147483647 by decide)
      refine ⟨_, rfl, _, rfl, _, _, rfl, rfl, .inl ⟨by omega, by omega⟩, _, _, rfl, rfl, ⟨by decide, by decide⟩, _, rfl, _, _, rfl, rfl, .inr (by decide), _, _, rfl, rfl, _, rfl, p, _, 1, _, rfl, rfl, seqL_of hp1, rfl, _, _, rfl, rfl, .inl ⟨_, rfl, _, _, rfl, rfl, (by decide : (999983 : Int) ≠ 0), ?_⟩⟩
      refine ⟨_, rfl, .inl ⟨_, rfl, _, rfl, _, m, rfl, rfl, by omega, ?_⟩⟩
      exact fin [] (c + 1) _ _ kk kn hp1 hg1 nofun (by omega) (by omega) (Int.fmod_nonneg_of_pos _ m0) (Int.fmod_lt_of_pos _ m0)
    | cons z0 zs =>
      have hz0 := hns z0 List.mem_cons_self
      refine ⟨_, rfl, true, .inl ⟨_, seqL_of hg, rfl⟩, iteT ?_⟩
      refine ⟨_, rfl, g, _, 0, _, rfl, rfl, seqL_of hg, atI_nat (j := 0) rfl, ?_⟩
      refine ⟨_, rfl, _, rfl, _, _, rfl, rfl, ⟨by omega, by omega⟩, _, rfl, g, _, 0, 0, rfl, rfl, hg, ixN_nat (j := 0) (by rw [List.length_map]; exact Nat.succ_pos _), ?_⟩
      have hg1 : (upd H g (.lst (((z0 :: zs).map V.int).set 0 (.int (z0.fdiv m))))) g = some (.lst ((z0.fdiv m :: zs).map V.int)) := upd_same
      have hp1 : (upd H g (.lst (((z0 :: zs).map V.int).set 0 (.int (z0.fdiv m))))) p = some (pz g sd c) := by rw [upd_ne (Ne.symm ngp)]; exact hp
      have kk : ∀ b o, H b = some o → b ≠ p → b ≠ g → (upd H g (.lst (((z0 :: zs).map V.int).set 0 (.int (z0.fdiv m))))) b = some o := fun b o e _ hb => by rw [upd_ne hb]; exact e
      have kn := upn (o' := .lst (((z0 :: zs).map V.int).set 0 (.int (z0.fdiv m)))) hg (fun _ e => e)
      generalize upd H g (.lst (((z0 :: zs).map V.int).set 0 (.int (z0.fdiv m)))) = G1 at hg1 hp1 kk kn ⊢
      have d0 := Int.fmod_nonneg_of_pos z0 m0
      have d1 := Int.fmod_lt_of_pos z0 m0
      have f0 := Int.fdiv_nonneg (show 0 ≤ z0 by omega) (show 0 ≤ m by omega)
      refine ⟨_, rfl, g, _, 0, _, rfl, rfl, seqL_of hg1, atI_nat (j := 0) rfl, rfl, _, rfl, ?_⟩
      refine ite2 (fun hz => ?_) (fun hz => ?_)
      · refine ⟨_, rfl, .inl ⟨rfl, _, seqL_of hg1⟩, g, _, 0, 0, _, rfl, rfl, hg1, by decide, by decide, seqIndex_of (k := 0) (by decide) (by rw [List.length_map]; exact Int.natCast_pos.mpr (Nat.succ_pos _)), rfl, ?_⟩
        refine ⟨_, rfl, .inl ⟨_, rfl, _, rfl, _, m, rfl, rfl, by omega, ?_⟩⟩
        refine fin zs c _ _ (fun b o e hb hb2 => by rw [upd_ne hb2]; exact kk b o e hb hb2) (upn hg1 kn) (by rw [upd_ne (Ne.symm ngp)]; exact hp1) upd_same (fun z hz => hns z (List.mem_cons_of_mem _ hz)) h2 (by omega) d0 d1
      · have hne : ¬ z0.fdiv m = 0 := fun e => hz (by rw [e]; exact decide_eq_true rfl)
        refine ⟨_, rfl, .inl ⟨_, rfl, _, rfl, _, m, rfl, rfl, by omega, ?_⟩⟩
        exact fin (z0.fdiv m :: zs) c _ _ kk kn hp1 hg1 (fun z hz => (List.mem_cons.mp hz).elim (fun e => by omega) fun h => hns z (List.mem_cons_of_mem _ h)) h2 (by omega) d0 d1
end
end K32

end
section
set_option Elab.async false
set_option linter.all false
set_option maxRecDepth 100000
set_option maxHeartbeats 4000000
namespace K32
open PySem PySem.Spec PyProof.Rows L2 Kit
section
variable {P : Program} {w : World} {K : PySem.W.Frag} {mg : Str → Option Value} {base : Heap} {a : Ad}
def spKind : Sp := fun vs H Q _ => ∃ (p g : Addr) (n : Nat), vs = [.ref p] ∧ PurseAt (n + 1) H p g ∧ ∀ q r c m G, Good r c m → H q = none → G q = some (.tup [.int (r : Nat), .int (c : Nat), tx (cols m)]) → Pg n p g H G → Q (.ref q) G
theorem c_law_kind (T : Txt K mg a) : Can P w K mg base 2 "_law_kind" spKind := by
  refine can_of T.d_law_kind sc_law_kind bd_law_kind (fun vs H Q E h => ?_) (fun f cdv A outer s H vs Q E hr h => ?_)
  · obtain ⟨p, g, n, rfl, _⟩ := h
    rfl
  · obtain ⟨p, g, n, rfl, hp, z⟩ := h
    refine ⟨_, (pss_cons (ps_set (i := 1) sc_law_kind.nd rfl (.inl rfl) (pc_f (c_law_draw T) hr (by decide) (by rfl) (pa_cons (pv 0) (pa_cons pe_int pa_nil))))
      (pss_cons (ps_if (pt_cmpR op_lt (pv 1) pe_int (nomark _)) (pss_one (ps_ret (pe_tup (pa_cons pe_int (pa_cons pe_int (pa_cons pe_str pa_nil)))))) pss_nil)
      (pss_cons (ps_if (pt_cmpR op_lt (pv 1) pe_int (nomark _)) (pss_one (ps_ret (pe_tup (pa_cons pe_int (pa_cons pe_int (pa_cons pe_str pa_nil)))))) pss_nil)
      (pss_cons (ps_if (pt_cmpR op_eq (pv 1) pe_int (nomark _)) (pss_one (ps_ret (pe_tup (pa_cons pe_int (pa_cons pe_int (pa_cons pe_str pa_nil)))))) pss_nil)
      (pss_cons (ps_if (pt_cmpR op_eq (pv 1) pe_int (nomark _)) (pss_one (ps_ret (pe_tup (pa_cons pe_int (pa_cons pe_int (pa_cons pe_str pa_nil)))))) pss_nil)
      (pss_one (ps_ret (pe_tup (pa_cons pe_int (pa_cons pe_int (pa_cons pe_str pa_nil))))))))))), ?_⟩
    refine ⟨_, rfl, p, g, 12, n, rfl, hp, by decide, by decide, fun d G d0 d1 pg => ?_⟩
    have fin : ∀ (r c m : Nat) (v : V) (q : Addr), Good r c m → v = tx (cols m) → G q = none → Q (.ref q) (upd G q (.tup [.int (r : Nat), .int (c : Nat), v])) := fun r c m v q gd e hq => z q r c m _ gd (pg.2.2 q hq) (by rw [e]; exact upd_same) (pg.same (ex_new hq))
    refine ⟨_, rfl, _, _, rfl, rfl, _, rfl, ?_⟩
    refine ite2 (fun _ => ⟨by show 3 ≤ sizeLine; decide, fun q hq => fin 1 2 2 _ q (by decide) (congrArg V.str lit_c2) hq⟩) (fun _ => ?_)
    refine ⟨_, rfl, _, _, rfl, rfl, _, rfl, ?_⟩
    refine ite2 (fun _ => ⟨by show 3 ≤ sizeLine; decide, fun q hq => fin 1 3 3 _ q (by decide) (congrArg V.str lit_c3) hq⟩) (fun _ => ?_)
    refine ⟨_, rfl, rfl, _, rfl, ?_⟩
    refine ite2 (fun _ => ⟨by show 3 ≤ sizeLine; decide, fun q hq => fin 2 2 4 _ q (by decide) (congrArg V.str lit_c4) hq⟩) (fun _ => ?_)
    refine ⟨_, rfl, rfl, _, rfl, ?_⟩
    refine ite2 (fun _ => ⟨by show 3 ≤ sizeLine; decide, fun q hq => fin 3 2 8 _ q (by decide) (congrArg V.str lit_c8) hq⟩) (fun _ => ?_)
    exact ⟨by show 3 ≤ sizeLine; decide, fun q hq => fin 2 3 9 _ q (by decide) (congrArg V.str lit_c9) hq⟩
def spWord : Sp := fun vs H Q _ => ∃ (p g : Addr) (sg : List Nat) (lo hi n : Nat), vs = [.ref p, tx sg, .int lo, .int hi] ∧ lo ≤ hi ∧ hi ≤ 60 ∧ 0 < sg.length ∧ sg.length ≤ 100 ∧ PurseAt (n + (hi + 1)) H p g ∧ ∀ l G, (∀ x ∈ l, x ∈ sg) → lo ≤ l.length → l.length ≤ hi → Pg n p g H G → Q (tx l) G
theorem c_law_word (T : Txt K mg a) : Can P w K mg base 2 "_law_word" spWord := by
  refine can_of T.d_law_word sc_law_word bd_law_word (fun vs H Q E h => ?_) (fun f cdv A outer s H vs Q E hr h => ?_)
  · obtain ⟨p, g, sg, lo, hi, n, rfl, _⟩ := h
    rfl
  · obtain ⟨p, g, sg, lo, hi, n, rfl, h1, h2, h3, h4, hp, z⟩ := h
    refine ⟨_, (pss_cons (ps_set (i := 4) sc_law_word.nd rfl (.inl rfl) (pe_op op_add (pv 2) (pc_f (c_law_draw T) hr (by decide) (by rfl) (pa_cons (pv 0) (pa_cons (pe_op op_add (pe_op op_sub (pv 3) (pv 2)) pe_int) pa_nil)))))
      (pss_one (ps_ret (kjoin K pe_str (pe_lc (own := [("k", 5)]) (g := gName 5) (tt := tYes) (by rfl) sc_law_word.nd (pi_range1 (by rfl) T.b_range (pa_cons (pv 4) pa_nil)) (blkOk_by (N := N_law_word) (sc := defScope s_law_word) (by decide +kernel)) (fun _ _ _ _ _ => (pg_name (i := 5) sc_law_word.nd rfl (.inl rfl))) (fun _ _ _ _ _ => pts_nil) (fun _ _ _ _ _ => (pe_ix ix_str (pv 1) (pc_f (c_law_draw T) hr (by decide) (by rfl) (pa_cons (pv 0) (pa_cons (pe_callB call_len_str (by rfl) T.b_len (by decide +kernel) (pa_cons (pv 1) pa_nil)) pa_nil))) (fun _ _ => rfl)))))))), ?_⟩
    refine ⟨_, rfl, _, rfl, _, rfl, _, rfl, _, _, rfl, rfl, _, _, rfl, rfl, p, g, _, n + hi, rfl, hp, by omega, by omega, fun d G d0 d1 pg => ?_⟩
    refine ⟨_, _, rfl, rfl, ?_⟩
    obtain ⟨m, hm, m0, m1⟩ : ∃ m : Nat, (lo : Int) + d = (m : Nat) ∧ lo ≤ m ∧ m ≤ hi := ⟨((lo : Int) + d).toNat, by omega, by omega, by omega⟩
    rw [show (fun i j : Int => V.int (i + j)) (lo : Int) d = V.int m from congrArg V.int hm]
    refine ⟨⟨_, rfl⟩, _, rfl, m, rfl, by omega, by omega, fun D hD => ?_⟩
    have aD := ap_new pg.pu hD
    refine lc_it (walk_range (lo := 0) (n := ((m : Nat) : Int).toNat)) (fun i G2 => ∃ h : List Nat, h.length = i ∧ (∀ x ∈ h, x ∈ sg) ∧ G2 D = some (.lst (h.map fun x => tx [x])) ∧ Pg (n + (hi - i)) p g G G2) ⟨[], rfl, nofun, upd_same, (Pg.refl pg.pu).put hD aD⟩ (fun _ _ _ _ => True.intro) ?_ ?_
    · rintro i x G2 G' hi' ⟨h, hh, ho, hGD, pg2⟩ ⟨rfl, rfl⟩
      have hi' : i < m := hi'
      refine ⟨rfl, ?_⟩
      unfold tYes
      dsimp only
      rw [if_pos rfl]
      refine ⟨_, rfl, _, rfl, _, rfl, _, rfl, by rw [S_len]; exact szl (by omega), p, g, _, n + (hi - (i + 1)), rfl, pg2.pu.le (by omega), by rw [S_len]; omega, by rw [S_len]; omega, fun d G3 d0 d1 pg3 => ?_⟩
      rw [S_len] at d1
      obtain ⟨d, rfl⟩ : ∃ d' : Nat, d = (d' : Int) := ⟨d.toNat, by omega⟩
      have hd : d < sg.length := by omega
      have hx : sg[d]? = some sg[d] := List.getElem?_eq_getElem hd
      refine ⟨_, _, _, rfl, rfl, by rw [S_len]; exact szl (by omega), atI_S hx, ?_⟩
      have hGD3 := pg3.at aD hGD
      refine ⟨_, hGD3, by rw [List.length_map]; exact szlt (by omega), h ++ [sg[d]], by rw [List.length_append, hh]; rfl, fun y hy => ?_, ?_, (pg2.trans pg3).put hD aD⟩
      · rcases List.mem_append.mp hy with hy | hy
        · exact ho y hy
        · rw [List.mem_singleton] at hy
          rw [hy]
          exact List.getElem_mem hd
      · rw [upd_same, List.map_append]
        rfl
    · rintro G2 ⟨h, hh, ho, hGD, pg2⟩
      have hh : h.length = m := hh
      refine ⟨_, D, h.map fun x => S [x], rfl, rfl, .inl (seqL_of (by rw [List.map_map]; exact hGD)), ?_, ?_⟩
      · rw [sum_ones, List.length_map, lit_e, S_len]
        show h.length + h.length * 0 ≤ _
        omega
      · rw [lit_e, join_ones]
        exact z h G2 ho (by omega) (by omega) ((pg.trans pg2).le (by omega))
theorem dp_ones {H : Hp} : ∀ h : List Nat, DpAll K H (h.map fun x => tx [x]) (h.map fun x => .str (S [x]))
  | [] => .nil
  | _ :: h => .cons (.str _) (dp_ones h)
theorem plain_ones (h : List Nat) : (PyData.list (h.map fun x => .str (S [x]))).plain = true := by
  unfold PyData.plain
  induction h with
  | nil => rfl
  | cons k l ih =>
    rw [List.map_cons]
    unfold PyData.plainAll
    rw [ih]
    rfl
theorem depth_ones (l : List Nat) : (PyData.list (l.map fun x => .str (S [x]))).depth ≤ 64 := by
  have h : PyData.depthAll (l.map fun x => .str (S [x])) ≤ 2 := by
    induction l with
    | nil => simp [PyData.depthAll]
    | cons k l ih =>
      rw [List.map_cons]
      unfold PyData.depthAll
      have : (PyData.str (S [k])).depth ≤ 2 := by simp [PyData.depth]
      omega
  unfold PyData.depth
  omega
theorem filter_none {p : Nat → Bool} : ∀ l : List Nat, (l.filter fun x => !p x).isEmpty = l.all p
  | [] => rfl
  | x :: l => by
    rw [List.filter_cons, List.all_cons, ← filter_none l]
    cases p x <;> rfl
theorem eqv_none (l : List PyData) : PyData.eqv (.list l) (.list []) = l.isEmpty := by
  cases l <;> rfl
def isWord (l sg : List Nat) (lo hi : Nat) : Bool := decide (lo ≤ l.length) && (decide (l.length ≤ hi) && l.all fun x => decide (x ∈ sg))
def spIsWord : Sp := fun vs H Q _ => ∃ (l sg : List Nat) (lo hi : Nat), vs = [tx l, tx sg, .int lo, .int hi] ∧ l.length ≤ 1000 ∧ sg.length ≤ 100 ∧ ∀ G, Same H G → Q (.bl (isWord l sg lo hi)) G
theorem c_law_is_word (T : Txt K mg a) : Can P w K mg base 1 "_law_is_word" spIsWord := by
  refine can_of T.d_law_is_word sc_law_is_word bd_law_is_word (fun vs H Q E h => ?_) (fun f cdv A outer s H vs Q E hr h => ?_)
  · obtain ⟨l, sg, lo, hi, rfl, _⟩ := h
    rfl
  · obtain ⟨l, sg, lo, hi, rfl, h1, h2, z⟩ := h
    refine ⟨_, (pss_one (ps_ret (pe_and (pe_chain op_le op_le (pv 2) (pe_callB call_len_str (by rfl) T.b_len (by decide +kernel) (pa_cons (pv 0) pa_nil)) (pv 3)) (pe_one (pe_cmpR (keqP K hr.units) (pe_lc (own := [("sign", 4)]) (g := gName 4) (by rfl) sc_law_is_word.nd (pi_str (pv 0)) (blkOk_by (N := N_law_is_word) (sc := defScope s_law_is_word) (by decide +kernel)) (fun _ _ _ _ _ => (pg_name (i := 4) sc_law_is_word.nd rfl (.inl rfl))) (fun _ _ _ _ _ => (pts_one (pt_cmpR op_notIn_sign (pv 4) (pv 1) (by rfl)))) (fun _ _ _ _ _ => (pv 4))) (pe_lst pa_nil) (nomark _)))))), ?_⟩
    refine ⟨_, rfl, _, rfl, _, rfl, by rw [S_len]; exact szl (by omega), _, _, rfl, rfl, _, rfl, ?_⟩
    rw [S_len, show decide (((lo : Nat) : Int) ≤ ((l.length : Nat) : Int)) = decide (lo ≤ l.length) by rw [decide_eq_decide]; omega]
    unfold isWord at z
    cases e1 : decide (lo ≤ l.length) with
    | false =>
      rw [e1] at z
      exact iteF ⟨_, rfl, iteF (z H (.refl _))⟩
    | true =>
      rw [e1, Bool.true_and] at z
      refine iteT ⟨_, rfl, _, _, rfl, rfl, _, rfl, ?_⟩
      rw [show decide (((l.length : Nat) : Int) ≤ ((hi : Nat) : Int)) = decide (l.length ≤ hi) by rw [decide_eq_decide]; omega]
      cases e2 : decide (l.length ≤ hi) with
      | false =>
        rw [e2] at z
        exact iteF (z H (.refl _))
      | true =>
        rw [e2, Bool.true_and] at z
        refine iteT ⟨_, rfl, _, rfl, fun D hD => lc_it walk_str (fun i G => Same H G ∧ G D = some (.lst (((l.take i).filter fun x => !decide (x ∈ sg)).map fun x => tx [x]))) ⟨ex_new hD, upd_same⟩ (fun _ _ _ _ => True.intro) ?_ ?_⟩
        · rintro i x G0 G hi' ⟨s1, hG⟩ ⟨rfl, c', hc, rfl⟩
          have hc := at_S hc
          have htk : l.take (i + 1) = l.take i ++ [c'] := by rw [List.take_add_one, hc]; rfl
          have lt := List.length_filter_le (fun x => !decide (x ∈ sg)) (l.take i)
          rw [List.length_take] at lt
          refine ⟨rfl, _, rfl, _, rfl, c', _, rfl, rfl, _, rfl, ?_⟩
          rw [htk, List.filter_append]
          show if (!decide (c' ∈ sg)) = true then _ else _
          cases e3 : decide (c' ∈ sg) with
          | true =>
            refine iteF ⟨s1, ?_⟩
            rw [hG, show List.filter (fun x => !decide (x ∈ sg)) [c'] = [] by rw [List.filter_cons, e3]; rfl, List.append_nil]
          | false =>
            refine iteT ⟨_, rfl, _, hG, by rw [List.length_map]; exact szlt (by omega), ex_mut s1 hD, ?_⟩
            rw [upd_same, show List.filter (fun x => !decide (x ∈ sg)) [c'] = [c'] by rw [List.filter_cons, e3]; rfl, List.map_append]
            rfl
        · rintro G ⟨s1, hG⟩
          rw [List.take_of_length_le (by show l.length ≤ (S l).length; rw [S_len]; exact Nat.le_refl _)] at hG
          refine ⟨by decide, fun E1 hE1 => ⟨.list ((l.filter fun x => !decide (x ∈ sg)).map fun x => .str (S [x])), .list [], .lst (seqL_of ((ex_new hE1) _ _ hG)) (dp_ones _), .lst (seqL_of upd_same) .nil, plain_ones _, rfl, depth_ones _, ?_⟩⟩
          rw [eqv_none, show ((l.filter fun x => !decide (x ∈ sg)).map fun x => PyData.str (S [x])).isEmpty = (l.all fun x => decide (x ∈ sg)) by rw [List.isEmpty_map, filter_none]]
          exact z _ (s1.trans (ex_new hE1))
theorem flat_txs (ms : List (List Nat)) : (ms.map tx).all flatV = true := by
  rw [List.all_map, List.all_eq_true]
  intro x _
  rfl
theorem eqV_txt (x y : List Nat) : eqV (tx x) (tx y) = decide (x = y) := by
  show (S x == S y) = _
  by_cases h : x = y
  · rw [h, decide_eq_true rfl]
    exact beq_self_eq_true _
  · rw [decide_eq_false h]
    exact beq_eq_false_iff_ne.mpr fun e => h (S_inj e)
theorem in_txs (l : List Nat) : ∀ ms : List (List Nat), inV (tx l) (ms.map tx) = decide (l ∈ ms)
  | [] => rfl
  | m :: ms => by
    have ih := in_txs l ms
    unfold inV at ih ⊢
    rw [List.map_cons, List.any_cons, ih, eqV_txt]
    rw [← Bool.decide_or, decide_eq_decide, List.mem_cons]
    exact or_congr ⟨Eq.symm, Eq.symm⟩ Iff.rfl
def spFresh : Sp := fun vs H Q _ => ∃ (p g q : Addr) (ms : List (List Nat)) (n : Nat), vs = [.ref p, .ref q] ∧ H q = some (.lst (ms.map tx)) ∧ ms.length ≤ 20 ∧ PurseAt (n + 1) H p g ∧ ∀ x G, 65 ≤ x → x < 91 → [x] ∉ ms → Pg n p g H G → Q (tx [x]) G
theorem c_law_fresh (T : Txt K mg a) : Can P w K mg base 2 "_law_fresh" spFresh := by
  refine can_of T.d_law_fresh sc_law_fresh bd_law_fresh (fun vs H Q E h => ?_) (fun f cdv A outer s H vs Q E hr h => ?_)
  · obtain ⟨p, g, q, ms, n, rfl, _⟩ := h
    rfl
  · obtain ⟨p, g, q, ms, n, rfl, hq, hl, hp, z⟩ := h
    refine ⟨_, (pss_cons (ps_setLc (i := 2) (own := [("mark", 3)]) (g := gName 3) (by rfl) sc_law_fresh.nd rfl rfl (sw_true rfl rfl rfl (by decide +kernel)) (pi_str pe_str) (blkOk_by (N := N_law_fresh) (sc := defScope s_law_fresh) (by decide +kernel)) (fun _ _ _ _ _ => (pg_name (i := 3) sc_law_fresh.nd rfl (.inl rfl))) (fun _ _ _ _ _ => (pts_one (pt_cmpR (knotin K) (pv 3) (pv 1) (by rfl)))) (fun _ _ _ _ _ => (pv 3)))
      (pss_one (ps_ret (pe_ix (kix_list K) (pv 2) (pc_f (c_law_draw T) hr (by decide) (by rfl) (pa_cons (pv 0) (pa_cons (pe_callB (klen_seq K) (by rfl) T.b_len (by decide +kernel) (pa_cons (pv 2) pa_nil)) pa_nil))) (fun _ _ => rfl))))), ?_⟩
    have eaz : Str.ofString "ABCDEFGHIJKLMNOPQRSTUVWXYZ" = S ((List.range 26).map (65 + ·)) := by decide +kernel
    rw [eaz]
    have haz : ((List.range 26).map (65 + ·)).length = 26 := by decide
    have maz : ∀ x, x ∈ (List.range 26).map (65 + ·) ↔ 65 ≤ x ∧ x < 91 := fun x => by
      rw [List.mem_map]
      exact ⟨fun ⟨k, hk, e⟩ => by have := List.mem_range.mp hk; omega, fun h => ⟨x - 65, List.mem_range.mpr (by omega), by omega⟩⟩
    have ndz : ((List.range 26).map (65 + ·)).Nodup := by decide
    generalize (List.range 26).map (65 + ·) = az at haz maz ndz ⊢
    have laz : (S az).cps.size = 26 := by show (S az).length = 26; rw [S_len]; exact haz
    refine ⟨_, rfl, fun D hD => lc_it walk_str (fun i G => Same H G ∧ G D = some (.lst (((az.take i).filter fun x => !decide ([x] ∈ ms)).map fun x => tx [x]))) ⟨ex_new hD, upd_same⟩ (fun _ _ _ _ => True.intro) ?_ ?_⟩
    · rintro i x G0 G hi' ⟨s1, hG⟩ ⟨rfl, c', hc, rfl⟩
      have hc := at_S hc
      have htk : az.take (i + 1) = az.take i ++ [c'] := by rw [List.take_add_one, hc]; rfl
      have lt := List.length_filter_le (fun x => !decide ([x] ∈ ms)) (az.take i)
      rw [List.length_take] at lt
      refine ⟨rfl, _, rfl, _, rfl, q, _, rfl, .inl (seqL_of (s1 _ _ hq)), rfl, flat_txs ms, _, rfl, ?_⟩
      rw [htk, List.filter_append]
      have e3 := in_txs [c'] ms
      show if (!inV (tx [c']) (ms.map tx)) = true then _ else _
      rw [e3]
      cases e3 : decide ([c'] ∈ ms) with
      | true =>
        refine iteF ⟨s1, ?_⟩
        rw [hG, show List.filter (fun x => !decide ([x] ∈ ms)) [c'] = [] by rw [List.filter_cons, e3]; rfl, List.append_nil]
      | false =>
        refine iteT ⟨_, rfl, _, hG, by rw [List.length_map]; exact szlt (by omega), ex_mut s1 hD, ?_⟩
        rw [upd_same, show List.filter (fun x => !decide ([x] ∈ ms)) [c'] = [c'] by rw [List.filter_cons, e3]; rfl, List.map_append]
        rfl
    · rintro G ⟨s1, hG⟩
      rw [laz, List.take_of_length_le (Nat.le_of_eq haz)] at hG
      have lp := List.length_filter_le (fun x => !decide ([x] ∈ ms)) az
      have pos : 0 < (az.filter fun x => !decide ([x] ∈ ms)).length := by
        rcases Nat.eq_zero_or_pos (az.filter fun x => !decide ([x] ∈ ms)).length with e | e
        · have e := List.length_eq_zero_iff.mp e
          have hsub : ∀ x ∈ az, x ∈ ms.map fun l => l.headD 0 := fun x hx => by
            have := List.filter_eq_nil_iff.mp e x hx
            have hm : [x] ∈ ms := by simpa using this
            exact List.mem_map.mpr ⟨[x], hm, rfl⟩
          have := nat_nodup_len _ _ ndz hsub
          rw [List.length_map] at this
          omega
        · exact e
      refine ⟨_, rfl, _, rfl, _, rfl, D, _, rfl, .inl (seqL_of hG), p, g, _, n, rfl, hp.mono s1, by rw [List.length_map]; omega, by rw [List.length_map]; omega, fun d G2 d0 d1 pg => ?_⟩
      rw [List.length_map] at d1
      obtain ⟨d, rfl⟩ : ∃ d' : Nat, d = (d' : Int) := ⟨d.toNat, by omega⟩
      have hd : d < (az.filter fun x => !decide ([x] ∈ ms)).length := by omega
      have hx := List.getElem?_eq_getElem hd
      have hmem := List.mem_filter.mp (List.getElem_mem hd)
      have hG2 := pg.at (ap_new (H := H) (hp) hD) hG
      refine ⟨D, _, _, _, rfl, rfl, seqL_of hG2, atI_nat (j := d) (by rw [List.getElem?_map, hx]; rfl), ?_⟩
      have hb := (maz _).mp hmem.1
      exact z _ G2 hb.1 hb.2 (by simpa using hmem.2) (same_pg s1 pg)
end
end K32

end
section
set_option Elab.async false
set_option linter.all false
set_option maxRecDepth 100000
set_option maxHeartbeats 4000000
namespace K32
open PySem PySem.Spec PyProof.Rows L2 Kit
section
variable {P : Program} {w : World} {K : PySem.W.Frag} {mg : Str → Option Value} {base : Heap} {a : Ad}
/-- no parting sign of a written form -/
def nsF (l : List Nat) : Prop := ∀ x ∈ l, x ≠ 44 ∧ x ≠ 61 ∧ x ≠ 124
theorem ns_cols (m : Nat) (h : m ≤ 9) : nsF (cols m) := fun x hx => by
  unfold cols at hx
  obtain ⟨k, hk, rfl⟩ := List.mem_map.mp hx
  have := List.mem_range.mp hk
  omega
theorem at_last (v : List Nat) (y : Nat) : atI (S (v ++ [y])).cps.toList (-1) = some y := by
  show atI (v ++ [y]) (-1) = some y
  have e : (v ++ [y]).length = v.length + 1 := by rw [List.length_append]; rfl
  have i : ixN (v ++ [y]).length (-1) = some v.length := by
    unfold ixN
    rw [if_neg (by decide), e, if_pos (by omega)]
    congr 1
    omega
  unfold atI
  rw [i]
  show (v ++ [y])[v.length]? = some y
  rw [List.getElem?_append_right (Nat.le_refl _), Nat.sub_self]
  rfl
def spOdd : Sp := fun vs H Q _ => ∃ (p g : Addr) (sg : List Nat) (hi n : Nat), vs = [.ref p, tx sg, .int hi] ∧ hi ≤ 15 ∧ 0 < sg.length ∧ sg.length ≤ 100 ∧ nsF sg ∧ PurseAt (n + (hi + 4)) H p g ∧ ∀ l G, nsF l → l.length ≤ 20 → Pg n p g H G → Q (tx l) G
theorem c_law_odd_word (T : Txt K mg a) : Can P w K mg base 3 "_law_odd_word" spOdd := by
  refine can_of T.d_law_odd_word sc_law_odd_word bd_law_odd_word (fun vs H Q E h => ?_) (fun f cdv A outer s H vs Q E hr h => ?_)
  · obtain ⟨p, g, sg, hi, n, rfl, _⟩ := h
    rfl
  · obtain ⟨p, g, sg, hi, n, rfl, h1, h3, h4, ns, hp, z⟩ := h
    refine ⟨_, (pss_cons (ps_set (i := 3) sc_law_odd_word.nd rfl (.inl rfl) (pe_lst (pa_cons pe_str (pa_cons pe_str (pa_cons pe_str (pa_cons (pe_op op_add_str (pe_ix ix_str (pv 1) pe_int (fun _ _ => rfl)) pe_str) (pa_cons pe_str (pa_cons (pe_op op_add_str (pe_ix ix_str (pv 1) (pe_un un_neg pe_int) (fun _ _ => rfl)) pe_str) pa_nil))))))))
      (pss_cons (ps_set (i := 4) sc_law_odd_word.nd rfl (.inl rfl) (pc_f (c_law_draw T) hr (by decide) (by rfl) (pa_cons (pv 0) (pa_cons pe_int pa_nil))))
      (pss_cons (ps_if (pt_cmpR op_eq (pv 4) pe_int (nomark _)) (pss_one (ps_ret (pc_f (c_law_word T) hr (by decide) (by rfl) (pa_cons (pv 0) (pa_cons (pv 1) (pa_cons (pe_op op_add (pv 2) pe_int) (pa_cons (pe_op op_add (pv 2) pe_int) pa_nil))))))) pss_nil)
      (pss_one (ps_ret (pe_ix (kix_list K) (pv 3) (pv 4) (fun _ _ => rfl))))))), ?_⟩
    obtain ⟨x0, hx0, m0⟩ : ∃ x, atI (S sg).cps.toList 0 = some x ∧ x ∈ sg := ⟨sg[0], atI_S (i := 0) (List.getElem?_eq_getElem h3), List.getElem_mem h3⟩
    obtain ⟨y0, hy0, my⟩ : ∃ y, atI (S sg).cps.toList (-1) = some y ∧ y ∈ sg := by
      rcases List.eq_nil_or_concat sg with e | ⟨v, y, e⟩
      · rw [e] at h3; cases h3
      · rw [List.concat_eq_append] at e
        rw [e]
        exact ⟨y, at_last v y, List.mem_append.mpr (.inr List.mem_cons_self)⟩
    have hz : ∀ l m : List Nat, l.length ≤ 100 → m.length ≤ 100 → (S l).length + (S m).length ≤ sizeLine := fun l m h k => by rw [S_len, S_len]; exact szl (by omega)
    have e1 : Str.ofString "z" = S [122] := by decide +kernel
    have e2 : Str.ofString " " = S [32] := by decide +kernel
    refine ⟨_, rfl, _, _, x0, rfl, rfl, by rw [S_len]; exact szl (by omega), hx0, _, _, rfl, rfl, by rw [e1]; exact hz [x0] _ (by show 1 ≤ 100; decide) (by show 1 ≤ 100; decide), ?_⟩
    rw [e1, show (⟨#[x0]⟩ : Str) = S [x0] from rfl, S_app]
    refine ⟨_, rfl, _, rfl, _, _, y0, rfl, rfl, by rw [S_len]; exact szl (by omega), hy0, _, _, rfl, rfl, by rw [e2]; exact hz [y0] _ (by show 1 ≤ 100; decide) (by show 1 ≤ 100; decide), ?_⟩
    rw [e2, show (⟨#[y0]⟩ : Str) = S [y0] from rfl, S_app]
    refine ⟨by show 6 ≤ sizeLine; decide, fun B hB => ?_⟩
    have s1 := ex_new (o := .lst [.str (Str.ofString ""), .str (S [122]), .str (Str.ofString "A"), .str (S ([x0] ++ [122])), .str (S [32]), .str (S ([y0] ++ [32]))]) hB
    refine ⟨_, rfl, p, g, 7, n + (hi + 3), rfl, hp.mono s1, by decide, by decide, fun d G d0 d1 pg => ?_⟩
    have pgH := same_pg s1 pg
    have aB := ap_new hp hB
    have hB1 := pg.at aB (upd_same (a := B) (o := .lst [.str (Str.ofString ""), .str (S [122]), .str (Str.ofString "A"), .str (S ([x0] ++ [122])), .str (S [32]), .str (S ([y0] ++ [32]))]))
    refine ⟨_, rfl, rfl, _, rfl, ?_⟩
    refine ite2 (fun h6 => ?_) (fun h6 => ?_)
    · refine ⟨_, rfl, _, rfl, _, rfl, _, _, rfl, rfl, _, rfl, _, _, rfl, rfl, ?_⟩
      refine ⟨p, g, sg, hi + 1, hi + 2, n, rfl, by omega, by omega, h3, h4, pg.pu.le (by omega), fun l G2 hl l0 l1 pg2 => z l G2 (fun x hx => ns x (hl x hx)) (by omega) (pgH.trans pg2)⟩
    · have h6 : ¬ d = 6 := fun e => h6 (by rw [e]; exact decide_eq_true rfl)
      have nsx : ∀ x, x ∈ sg → x ≠ 44 ∧ x ≠ 61 ∧ x ≠ 124 := ns
      obtain ⟨l, hl, nl, ll⟩ : ∃ l, atI [V.str (Str.ofString ""), .str (S [122]), .str (Str.ofString "A"), .str (S ([x0] ++ [122])), .str (S [32]), .str (S ([y0] ++ [32]))] d = some (tx l) ∧ nsF l ∧ l.length ≤ 20 := by
        have two : ∀ x y : Nat, x ∈ sg → (y = 122 ∨ y = 32) → nsF ([x] ++ [y]) := fun x y hx hy z hz => by
          rcases List.mem_cons.mp hz with e | e
          · rw [e]; exact ns x hx
          · have e : z ∈ [y] := e
            rw [List.mem_singleton] at e
            omega
        rcases (show d = 0 ∨ d = 1 ∨ d = 2 ∨ d = 3 ∨ d = 4 ∨ d = 5 by omega) with rfl | rfl | rfl | rfl | rfl | rfl
        · exact ⟨[], congrArg (fun z => some (V.str z)) (by decide +kernel), nofun, by decide⟩
        · exact ⟨[122], rfl, by unfold nsF; decide, by decide⟩
        · exact ⟨[65], congrArg (fun z => some (V.str z)) (by decide +kernel), by unfold nsF; decide, by decide⟩
        · exact ⟨_, rfl, two x0 122 m0 (.inl rfl), by show 2 ≤ 20; decide⟩
        · exact ⟨[32], rfl, by unfold nsF; decide, by decide⟩
        · exact ⟨_, rfl, two y0 32 my (.inr rfl), by show 2 ≤ 20; decide⟩
      exact ⟨_, rfl, _, rfl, B, _, _, _, rfl, rfl, seqL_of hB1, hl, z l G nl ll (pgH.le (by omega))⟩
end
end K32

end
section
set_option Elab.async false
set_option linter.all false
set_option maxRecDepth 100000
set_option maxHeartbeats 4000000
namespace K32
open PySem PySem.Spec PyProof.Rows L2 Kit
section
variable {P : Program} {w : World} {K : PySem.W.Frag} {mg : Str → Option Value} {base : Heap} {a : Ad}
def okTx (l : List Nat) : Prop := nsF l ∧ l.length ≤ 20
def okPs (ps : List Pr) : Prop := ∀ p ∈ ps, okTx p.1 ∧ okTx p.2
theorem eqv_lists (l : List PyData) : PyData.eqv (.list l) (.list []) = l.isEmpty := by cases l <;> rfl
theorem dp_txs {H : Hp} : ∀ h : List (List Nat), DpAll K H (h.map tx) (h.map fun x => .str (S x))
  | [] => .nil
  | _ :: h => .cons (.str _) (dp_txs h)
theorem plain_txs (h : List (List Nat)) : (PyData.list (h.map fun x => .str (S x))).plain = true := by
  unfold PyData.plain
  induction h with
  | nil => rfl
  | cons k l ih =>
    rw [List.map_cons]
    unfold PyData.plainAll
    rw [ih]
    rfl
theorem depth_txs (l : List (List Nat)) : (PyData.list (l.map fun x => .str (S x))).depth ≤ 64 := by
  have h : PyData.depthAll (l.map fun x => .str (S x)) ≤ 2 := by
    induction l with
    | nil => simp [PyData.depthAll]
    | cons k l ih =>
      rw [List.map_cons]
      unfold PyData.depthAll
      have : (PyData.str (S k)).depth ≤ 2 := by simp [PyData.depth]
      omega
  unfold PyData.depth
  omega
def badMarks : List V := [.str (Str.ofString ""), .str (Str.ofString "a"), .str (Str.ofString "AB"), .str (Str.ofString "7"), .str (Str.ofString "["), .str (Str.ofString "@"), .str (Str.ofString " "), .str (Str.ofString "AA")]
theorem bad_mark {d : Int} (h0 : 0 ≤ d) (h1 : d < 8) : ∃ l, atI badMarks d = some (tx l) ∧ okTx l := by
  have ok : ∀ l ∈ [[], [97], [65, 66], [55], [91], [64], [32], [65, 65]], okTx l := by
    unfold okTx nsF
    decide
  rcases (show d = 0 ∨ d = 1 ∨ d = 2 ∨ d = 3 ∨ d = 4 ∨ d = 5 ∨ d = 6 ∨ d = 7 by omega) with rfl | rfl | rfl | rfl | rfl | rfl | rfl | rfl
  · exact ⟨[], congrArg (fun z => some (V.str z)) (by decide +kernel), ok _ (by simp)⟩
  · exact ⟨[97], congrArg (fun z => some (V.str z)) (by decide +kernel), ok _ (by simp)⟩
  · exact ⟨[65, 66], congrArg (fun z => some (V.str z)) (by decide +kernel), ok _ (by simp)⟩
  · exact ⟨[55], congrArg (fun z => some (V.str z)) (by decide +kernel), ok _ (by simp)⟩
  · exact ⟨[91], congrArg (fun z => some (V.str z)) (by decide +kernel), ok _ (by simp)⟩
  · exact ⟨[64], congrArg (fun z => some (V.str z)) (by decide +kernel), ok _ (by simp)⟩
  · exact ⟨[32], congrArg (fun z => some (V.str z)) (by decide +kernel), ok _ (by simp)⟩
  · exact ⟨[65, 65], congrArg (fun z => some (V.str z)) (by decide +kernel), ok _ (by simp)⟩
def spPairs : Sp := fun vs H Q _ => ∃ (p g : Addr) (sg : List Nat) (sp : Bool) (n : Nat), vs = [.ref p, tx sg, .bl sp] ∧ 0 < sg.length ∧ sg.length ≤ 100 ∧ nsF sg ∧ PurseAt (n + 200) H p g ∧ ∀ D ws ps G, okPs ps → ps.length ≤ 8 → H D = none → G D = some (.lst ws) → PairsL G ws ps → Pg n p g H G → Q (.ref D) G
theorem c_law_pairs (T : Txt K mg a) : Can P w K mg base 4 "_law_pairs" spPairs := by
  refine can_of T.d_law_pairs sc_law_pairs bd_law_pairs (fun vs H Q E h => ?_) (fun f cdv A outer s H vs Q E hr h => ?_)
  · obtain ⟨p, g, sg, sp, n, rfl, _⟩ := h
    rfl
  · obtain ⟨p, g, sg, sp, n, rfl, h3, h4, ns, hp, z⟩ := h
    refine ⟨_, (pss_cons (ps_set (i := 3) sc_law_pairs.nd rfl (.inl rfl) (pe_lst pa_nil))
      (pss_cons (ps_set (i := 4) sc_law_pairs.nd rfl (.inl rfl) (pe_lst pa_nil))
      (pss_cons (ps_for (passes_of rfl) (by rfl) (pi_range1 (by rfl) T.b_range (pa_cons (pc_f (c_law_draw T) hr (by decide) (by rfl) (pa_cons (pv 0) (pa_cons (pe_op op_add pe_int (pe_op op_mul pe_int (pe_callTy call_int1 (by rfl) T.b_int (by decide +kernel) (pa_cons (pv 2) pa_nil)))) pa_nil))) pa_nil)) (pg_name (i := 5) sc_law_pairs.nd rfl (.inl rfl)) (pss_cons (ps_set (i := 6) sc_law_pairs.nd rfl (.inl rfl) pe_int)
      (C8.pss_cut (ps_if (pt_val (pv 2)) (pss_one (ps_set (i := 6) sc_law_pairs.nd rfl (.inl rfl) (pc_f (c_law_draw T) hr (by decide) (by rfl) (pa_cons (pv 0) (pa_cons pe_int pa_nil))))) pss_nil)
      (pss_cons (ps_set (i := 7) sc_law_pairs.nd rfl (.inl rfl) (pc_f (c_law_fresh T) hr (by decide) (by rfl) (pa_cons (pv 0) (pa_cons (pv 4) pa_nil))))
      (C8.pss_cut (ps_if (pt_cmpR op_eq (pv 6) pe_int (nomark _)) (pss_one (ps_set (i := 7) sc_law_pairs.nd rfl (.inl rfl) (pe_ix (kix_list K) (pe_lst (pa_cons pe_str (pa_cons pe_str (pa_cons pe_str (pa_cons pe_str (pa_cons pe_str (pa_cons pe_str (pa_cons pe_str (pa_cons pe_str pa_nil))))))))) (pc_f (c_law_draw T) hr (by decide) (by rfl) (pa_cons (pv 0) (pa_cons pe_int pa_nil))) (fun _ _ => rfl)))) pss_nil)
      (C8.pss_cut (ps_if (PW.pt (pw_and (pt_cmpR op_eq (pv 6) pe_int (nomark _)) (pw_and1 (pt_cmpR (kneP K hr.units) (pv 4) (pe_lst pa_nil) (nomark _))))) (pss_one (ps_set (i := 7) sc_law_pairs.nd rfl (.inl rfl) (pe_ix (kix_list K) (pv 4) (pc_f (c_law_draw T) hr (by decide) (by rfl) (pa_cons (pv 0) (pa_cons (pe_callB (klen_seq K) (by rfl) T.b_len (by decide +kernel) (pa_cons (pv 4) pa_nil)) pa_nil))) (fun _ _ => rfl)))) pss_nil)
      (pss_cons (ps_set (i := 8) sc_law_pairs.nd rfl (.inl rfl) (pc_f (c_law_word T) hr (by decide) (by rfl) (pa_cons (pv 0) (pa_cons (pv 1) (pa_cons pe_int (pa_cons pe_int pa_nil))))))
      (C8.pss_cut (ps_if (pt_cmpR op_eq (pv 6) pe_int (nomark _)) (pss_one (ps_set (i := 8) sc_law_pairs.nd rfl (.inl rfl) (pc_f (c_law_odd_word T) hr (by decide) (by rfl) (pa_cons (pv 0) (pa_cons (pv 1) (pa_cons pe_int pa_nil)))))) pss_nil)
      (pss_cons (ps_expr (pe_bm PySem.F.plainAttrs_list PySem.F.slot_list_append PySem.F.type_list_append mt_append (pv 3) (pa_cons (pe_tup (pa_cons (pv 7) (pa_cons (pv 8) pa_nil))) pa_nil)))
      (pss_one (ps_expr (pe_bm PySem.F.plainAttrs_list PySem.F.slot_list_append PySem.F.type_list_append mt_append (pv 4) (pa_cons (pv 7) pa_nil)))))))))))))
      (pss_one (ps_ret (pv 3)))))), ?_⟩
    refine ⟨by decide, fun D hD => ⟨by decide, fun M hM => ?_⟩⟩
    have aD := ap_new hp hD
    have s1 := ex_new (o := .lst []) hD
    have hM0 := free_same s1 hM
    have aM := ap_new hp hM0
    have s2 := s1.trans (ex_new (o := .lst []) hM)
    have nDM : D ≠ M := ne_some hM upd_same
    have hD2 : (upd (upd H D (.lst [])) M (.lst [])) D = some (.lst []) := by rw [upd_ne nDM]; exact upd_same
    have hM2 : (upd (upd H D (.lst [])) M (.lst [])) M = some (.lst []) := upd_same
    generalize upd (upd H D (.lst [])) M (.lst []) = H2 at s2 hD2 hM2 ⊢
    have b9 : ∀ b : Bool, 7 + 2 * (if b = true then (1 : Int) else 0) ≤ 9 ∧ 0 < 7 + 2 * (if b = true then (1 : Int) else 0) := by decide
    refine ⟨_, rfl, _, rfl, .inr ⟨_, rfl, _, _, rfl, rfl, .inl (by decide), _, _, rfl, rfl, p, g, _, n + 180, rfl, hp.mono s2 |>.le (by omega), (b9 sp).2, by have := (b9 sp).1; omega, fun d G0 d0 d1 pg0 => ?_⟩⟩
    obtain ⟨m, rfl⟩ : ∃ m : Nat, d = (m : Int) := ⟨d.toNat, by omega⟩
    have hm : m ≤ 8 := by have := (b9 sp).1; omega
    have pgH := same_pg s2 pg0
    refine ⟨m, rfl, by omega, by omega, for_it (walk_range (lo := 0) (n := ((m : Nat) : Int).toNat)) (fun i σ G => (∃ ws ps, Pg (n + 20 * (9 - i)) p g H G ∧ G D = some (.lst ws) ∧ PairsL G ws ps ∧ G M = some (.lst ((ps.map (·.1)).map tx)) ∧ okPs ps ∧ ps.length = i) ∧ ∃ u5 u6 u7 u8 : Option V, σ = [some (.ref p), some (tx sg), some (.bl sp), some (.ref D), some (.ref M), u5, u6, u7, u8]) ⟨⟨[], [], pgH, pg0.at aD hD2, ⟨rfl, nofun⟩, pg0.at aM hM2, nofun, rfl⟩, none, none, none, none, rfl⟩ (fun _ _ _ _ _ => True.intro) ?_ ?_⟩
    · rintro i x σ G' G hi ⟨⟨ws, ps, pgG, hD3, hP3, hM3, ok3, lp3⟩, u5, u6, u7, u8, rfl⟩ ⟨rfl, ex⟩
      obtain rfl : x = .int (i : Nat) := ex.trans (congrArg V.int (Int.zero_add _))
      have hi : i < m := hi
      have lw3 : ws.length = i := by rw [hP3.1, lp3]
      have b20 : n + 20 * (9 - i) = n + 20 * (9 - (i + 1)) + 20 := by omega
      rw [b20] at pgG
      generalize n + 20 * (9 - (i + 1)) = bd at pgG ⊢
      refine ⟨fun σ G2 => ∃ fl : Int, Pg (bd + 19) p g G G2 ∧ σ = [some (.ref p), some (tx sg), some (.bl sp), some (.ref D), some (.ref M), some (.int i), some (.int fl), u7, u8], ?_, ?_⟩
      · refine ⟨_, rfl, _, rfl, ?_⟩
        cases sp with
        | true => exact iteT ⟨_, rfl, p, g, 12, bd + 19, rfl, pgG.pu, by decide, by decide, fun d G2 _ _ pg2 => ⟨d, pg2, rfl⟩⟩
        | false => exact iteF ⟨5, (Pg.refl pgG.pu).le (by omega), rfl⟩
      rintro σ G2 ⟨fl, pg2, rfl⟩
      refine ⟨_, rfl, _, rfl, p, g, M, ps.map (·.1), bd + 18, rfl, pg2.at aM hM3, by rw [List.length_map]; omega, pg2.pu, fun x0 G3 x1 x2 x3 pg3 => ?_⟩
      have pgA := pg2.trans pg3
      have ok0 : okTx [x0] := ⟨fun y hy => by rw [List.mem_singleton] at hy; omega, by show 1 ≤ 20; decide⟩
      refine ⟨fun σ G4 => ∃ mk : List Nat, okTx mk ∧ Pg (bd + 17) p g G G4 ∧ σ = [some (.ref p), some (tx sg), some (.bl sp), some (.ref D), some (.ref M), some (.int i), some (.int fl), some (tx mk), u8], ?_, ?_⟩
      · refine ⟨_, rfl, rfl, _, rfl, ?_⟩
        refine ite2 (fun _ => ?_) (fun _ => ⟨[x0], ok0, pgA.le (by omega), rfl⟩)
        refine ⟨by show 8 ≤ sizeLine; decide, fun B hB => ?_⟩
        have sB := ex_new (o := .lst badMarks) hB
        have aB := ap_new pgA.pu hB
        refine ⟨_, rfl, p, g, 8, bd + 17, rfl, pgA.pu.mono sB, by decide, by decide, fun d G4 d0 d1 pg4 => ?_⟩
        obtain ⟨l, hl, okl⟩ := bad_mark d0 d1
        exact ⟨B, _, _, _, rfl, rfl, seqL_of (pg4.at aB upd_same), hl, l, okl, pgA.trans (same_pg sB pg4), rfl⟩
      rintro σ G4 ⟨mk, okm, pg4, rfl⟩
      refine ⟨fun σ G4 => ∃ mk : List Nat, okTx mk ∧ Pg (bd + 16) p g G G4 ∧ σ = [some (.ref p), some (tx sg), some (.bl sp), some (.ref D), some (.ref M), some (.int i), some (.int fl), some (tx mk), u8], ?_, ?_⟩
      · refine ⟨_, rfl, rfl, _, rfl, ?_⟩
        refine ite2 (fun _ => ?_) (fun _ => iteF ⟨mk, okm, pg4.le (by omega), rfl⟩)
        have hM4 := pg4.at aM hM3
        refine ⟨_, rfl, by decide, fun E1 hE1 => ⟨.list ((ps.map (·.1)).map fun x => .str (S x)), .list [], .lst (seqL_of ((ex_new hE1) _ _ hM4)) (dp_txs _), .lst (seqL_of upd_same) .nil, plain_txs _, rfl, depth_txs _, _, rfl, ?_⟩⟩
        rw [eqv_lists, List.isEmpty_map, List.isEmpty_map]
        have pg4' := pg4.same (ex_new (o := .lst []) hE1)
        have hM5 := (ex_new (o := .lst []) hE1) _ _ hM4
        generalize upd G4 E1 (.lst []) = G5 at pg4' hM5 ⊢
        cases hce : ps.isEmpty with
        | true => exact iteF ⟨mk, okm, pg4'.le (by omega), rfl⟩
        | false =>
          have hp0 : 0 < ps.length := by
            cases ps with
            | nil => cases hce
            | cons => exact Nat.succ_pos _
          refine iteT ⟨_, rfl, _, rfl, _, rfl, M, _, rfl, .inl (seqL_of hM5), p, g, _, bd + 16, rfl, pg4'.pu, by rw [List.length_map, List.length_map]; omega, by rw [List.length_map, List.length_map]; omega, fun d G6 d0 d1 pg6 => ?_⟩
          rw [List.length_map, List.length_map] at d1
          obtain ⟨d, rfl⟩ : ∃ d' : Nat, d = (d' : Int) := ⟨d.toNat, by omega⟩
          have hd : d < ps.length := by omega
          exact ⟨M, _, _, _, rfl, rfl, seqL_of (pg6.at aM hM5), atI_nat (j := d) (by rw [List.getElem?_map, List.getElem?_map, List.getElem?_eq_getElem hd]; rfl), _, (ok3 _ (List.getElem_mem hd)).1, pg4'.trans pg6, rfl⟩
      rintro σ G5 ⟨mk, okm, pg5, rfl⟩
      refine ⟨_, rfl, _, rfl, p, g, sg, 1, 4, bd + 11, rfl, by decide, by decide, h3, h4, pg5.pu, fun l G6 hl l0 l1 pg6 => ?_⟩
      have pgB := pg5.trans pg6
      have okl : okTx l := ⟨fun y hy => ns y (hl y hy), by omega⟩
      refine ⟨fun σ G7 => ∃ sh : List Nat, okTx sh ∧ Pg (bd + 3) p g G G7 ∧ σ = [some (.ref p), some (tx sg), some (.bl sp), some (.ref D), some (.ref M), some (.int i), some (.int fl), some (tx mk), some (tx sh)], ?_, ?_⟩
      · refine ⟨_, rfl, rfl, _, rfl, ?_⟩
        refine ite2 (fun _ => ?_) (fun _ => ⟨l, okl, pgB.le (by omega), rfl⟩)
        exact ⟨_, rfl, _, rfl, p, g, sg, 4, bd + 3, rfl, by decide, h3, h4, ns, pgB.pu, fun l2 G7 n2 ll2 pg7 => ⟨l2, ⟨n2, ll2⟩, pgB.trans pg7, rfl⟩⟩
      rintro σ G7 ⟨sh, oks, pg7, rfl⟩
      have hD7 := pg7.at aD hD3
      have hM7 := pg7.at aM hM3
      have hP7 := hP3.pg pgG.pu pg7
      have pgC := (pgG.trans pg7).le (show bd ≤ bd + 3 by omega)
      refine ⟨_, rfl, .inl ⟨rfl, _, seqL_of hD7⟩, _, rfl, _, rfl, by show 2 ≤ sizeLine; decide, fun u hu => ?_⟩
      have su := ex_new (o := .tup [tx mk, tx sh]) hu
      have hD8 := su _ _ hD7
      have hM8 := su _ _ hM7
      have hP8 := (hP7.mono su).snoc (k := (mk, sh)) upd_same
      have pgD := pgC.same su
      generalize upd G7 u (.tup [tx mk, tx sh]) = G8 at hD8 hM8 hP8 pgD ⊢
      refine ⟨D, _, _, rfl, rfl, hD8, szlt (by omega), ?_⟩
      have hM9 : (upd G8 D (.lst (ws ++ [.ref u]))) M = some (.lst ((ps.map (·.1)).map tx)) := by rw [upd_ne (Ne.symm nDM)]; exact hM8
      refine ⟨_, rfl, .inl ⟨rfl, _, seqL_of hM9⟩, _, rfl, M, _, _, rfl, rfl, hM9, by rw [List.length_map, List.length_map]; exact szlt (by omega), ⟨ws ++ [.ref u], ps ++ [(mk, sh)], (pgD.put hD aD).put hM0 aM, ?_, ?_, ?_, fun q hq => ?_, by rw [List.length_append, lp3]; rfl⟩, _, _, _, _, rfl⟩
      · rw [upd_ne nDM]
        exact upd_same
      · exact (hP8.upd hD8).upd hM9
      · rw [upd_same, List.map_append, List.map_append]
        rfl
      · rcases List.mem_append.mp hq with hq | hq
        · exact ok3 q hq
        · rw [List.mem_singleton] at hq
          rw [hq]
          exact ⟨okm, oks⟩
    · rintro σ G ⟨⟨ws, ps, pgG, hD3, hP3, hM3, ok3, lp3⟩, u5, u6, u7, u8, rfl⟩
      have lp : ps.length = m := lp3
      exact ⟨_, rfl, z D ws ps G ok3 (by omega) hD hD3 hP3 (pgG.le (by omega))⟩
end
end K32

end
section
set_option Elab.async false
set_option linter.all false
set_option maxRecDepth 100000
set_option maxHeartbeats 4000000
namespace K32
open PySem PySem.Spec PyProof.Rows L2 Kit
section
variable {P : Program} {w : World} {K : PySem.W.Frag} {mg : Str → Option Value} {base : Heap} {a : Ad}
theorem all_cols (m : Nat) (l : List Nat) : (l.all fun x => decide (x ∈ cols m)) = isStrip m l := by
  unfold isStrip
  refine congrArg (List.all l) (funext fun x => ?_)
  rw [Bool.eq_iff_iff, decide_eq_true_iff]
  exact mem_cols
theorem word_gap (m : Nat) (l : List Nat) : isWord l (cols m) 0 3 = gapOk m l := by
  unfold isWord gapOk
  rw [all_cols, show decide (0 ≤ l.length) = true from decide_eq_true (Nat.zero_le _), Bool.true_and, Bool.and_comm]
theorem word_gl (m : Nat) (l : List Nat) : isWord l (cols m) 1 4 = glyphOk m l := by
  unfold isWord glyphOk
  rw [all_cols, ← Bool.and_assoc, Bool.and_comm]
/-- what an error of the program is told as -/
inductive Tf
  | gap
  | text
  | many
  | letter (l : List Nat)
  | glyph (l : List Nat)
  | dup (l : List Nat)
  | unk (l : List Nat) (k : Nat)
def Tf.vs : Tf → List V
  | .gap => [.str (Str.ofString "BadFont"), .str (Str.ofString "gap")]
  | .text => [.str (Str.ofString "BadFont"), .str (Str.ofString "text")]
  | .many => [.str (Str.ofString "TooMany"), .str (Str.ofString "6")]
  | .letter l => [.str (Str.ofString "BadLetter"), tx l]
  | .glyph l => [.str (Str.ofString "BadGlyph"), tx l]
  | .dup l => [.str (Str.ofString "DuplicateLetter"), tx l]
  | .unk l k => [.str (Str.ofString "UnknownLetter"), tx l, .str (Str.ofString (toString ((k : Nat) : Int)))]
def Fe.tf : Fe → Tf
  | .letter l => .letter l
  | .glyph l => .glyph l
  | .dup l => .dup l
def dueF (n : Nat) (gap : List Nat) (ps : List Pr) : Option Tf := if gapOk n gap = false then some .gap else if 6 < ps.length then some .many else (faultF n ps []).map Fe.tf
def spDue : Sp := fun vs H Q _ => ∃ (q : Addr) (m : Nat) (gap : List Nat) (ws : List V) (ps : List Pr), vs = [tx (cols m), tx gap, .ref q] ∧ m ≤ 9 ∧ H q = some (.lst ws) ∧ PairsL H ws ps ∧ gap.length ≤ 1000 ∧ smallP ps ∧ ps.length ≤ 1000 ∧
  (dueF m gap ps = none → ∀ G, Same H G → Q .non G) ∧ ∀ t, dueF m gap ps = some t → ∀ G u, Same H G → H u = none → G u = some (.tup t.vs) → Q (.ref u) G
theorem c_law_due (T : Txt K mg a) : Can P w K mg base 2 "_law_due" spDue := by
  refine can_of T.d_law_due sc_law_due bd_law_due (fun vs H Q E h => ?_) (fun f cdv A outer s H vs Q E hr h => ?_)
  · obtain ⟨q, m, gap, ws, ps, rfl, _⟩ := h
    rfl
  · obtain ⟨q, m, gap, ws, ps, rfl, m9, hq, hcl, lg, small, hlen, z0, z1⟩ := h
    refine ⟨_, (pss_cons (ps_if (pt_not (pt_val (pc_f (c_law_is_word T) hr (by decide) (by rfl) (pa_cons (pv 1) (pa_cons (pv 0) (pa_cons pe_int (pa_cons pe_int pa_nil))))))) (pss_one (ps_ret (pe_tup (pa_cons pe_str (pa_cons pe_str pa_nil))))) pss_nil)
      (pss_cons (ps_if (pt_cmpR op_gt (pe_callB (klen_seq K) (by rfl) T.b_len (by decide +kernel) (pa_cons (pv 2) pa_nil)) pe_int (nomark _)) (pss_one (ps_ret (pe_tup (pa_cons pe_str (pa_cons pe_str pa_nil))))) pss_nil)
      (pss_cons (ps_set (i := 3) sc_law_due.nd rfl (.inl rfl) (pe_lst pa_nil))
      (pss_cons (ps_for (passes_of rfl) (by rfl) (kpi_list K (pv 2)) (pg_tup rfl (pgs_cons (pg_name (i := 4) sc_law_due.nd rfl (.inl rfl)) (pgs_cons (pg_name (i := 5) sc_law_due.nd rfl (.inl rfl)) pgs_nil))) (pss_cons (ps_if (PW.pt (pw_or (pt_cmpR op_ne (pe_callB call_len_str (by rfl) T.b_len (by decide +kernel) (pa_cons (pv 4) pa_nil)) pe_int (nomark _)) (pw_or1 (pt_cmpR op_notIn_sign (pv 4) pe_str (by rfl))))) (pss_one (ps_ret (pe_tup (pa_cons pe_str (pa_cons (pv 4) pa_nil))))) pss_nil)
      (pss_cons (ps_if (pt_not (pt_val (pc_f (c_law_is_word T) hr (by decide) (by rfl) (pa_cons (pv 5) (pa_cons (pv 0) (pa_cons pe_int (pa_cons pe_int pa_nil))))))) (pss_one (ps_ret (pe_tup (pa_cons pe_str (pa_cons (pv 4) pa_nil))))) pss_nil)
      (pss_cons (ps_if (pt_cmpR (kin K) (pv 4) (pv 3) (by rfl)) (pss_one (ps_ret (pe_tup (pa_cons pe_str (pa_cons (pv 4) pa_nil))))) pss_nil)
      (pss_one (ps_expr (pe_bm PySem.F.plainAttrs_list PySem.F.slot_list_append PySem.F.type_list_append mt_append (pv 3) (pa_cons (pv 4) pa_nil))))))))
      (pss_one (ps_ret pe_non)))))), ?_⟩
    have lw : ws.length = ps.length := hcl.1
    have lc : (cols m).length ≤ 100 := by rw [cols_len]; omega
    have out : ∀ (t : Tf) (G : Hp), Same H G → dueF m gap ps = some t → ∀ u, G u = none → Q (.ref u) (upd G u (.tup t.vs)) := fun t G sm e u hu => z1 t e _ u (sm.trans (ex_new hu)) (free_same sm hu) upd_same
    refine ⟨_, rfl, _, rfl, gap, cols m, 0, 3, rfl, lg, lc, fun G1 s1 => ⟨_, rfl, ?_⟩⟩
    rw [word_gap]
    cases e1 : gapOk m gap with
    | false => exact iteT ⟨by show 2 ≤ sizeLine; decide, out .gap G1 s1 (by unfold dueF; rw [if_pos e1])⟩
    | true =>
      refine iteF ?_
      have e1' : ¬ gapOk m gap = false := by rw [e1]; decide
      refine ⟨_, rfl, q, _, rfl, .inl (seqL_of (s1 _ _ hq)), _, _, rfl, rfl, _, rfl, ?_⟩
      rw [lw, show decide ((6 : Int) < ((ps.length : Nat) : Int)) = decide (6 < ps.length) by rw [decide_eq_decide]; omega]
      by_cases h6 : 6 < ps.length
      · rw [decide_eq_true h6]
        exact iteT ⟨by show 2 ≤ sizeLine; decide, out .many G1 s1 (by unfold dueF; rw [if_neg e1', if_pos h6])⟩
      rw [decide_eq_false h6]
      refine iteF ?_
      have ed : dueF m gap ps = (faultF m ps []).map Fe.tf := by unfold dueF; rw [if_neg e1', if_neg h6]
      rw [ed] at z0 out
      refine ⟨by decide, fun M hM => ?_⟩
      have s2 := s1.trans (ex_new (o := .lst []) hM)
      have hM0 := free_same s1 hM
      refine ⟨_, rfl, q, rfl, ⟨_, seqL_of (s2 _ _ hq)⟩, for_it (walk_list (xs := ws)) (fun i σ G => Same H G ∧ G M = some (.lst (((ps.take i).map (·.1)).map tx)) ∧ faultF m (ps.drop i) ((ps.take i).map (·.1)) = faultF m ps [] ∧ ∃ u v : Option V, σ = [some (tx (cols m)), some (tx gap), some (.ref q), some (.ref M), u, v]) ⟨s2, upd_same, rfl, none, none, rfl⟩ (fun i σ G _ h => seqL_of (h.1 _ _ hq)) ?_ ?_⟩
      · rintro i x σ G0 G hi ⟨s3, hMt, hf, u, v, rfl⟩ ⟨rfl, hx⟩
        have hi : i < ps.length := by rw [← lw]; exact hi
        have hk : ps[i]? = some ps[i] := List.getElem?_eq_getElem hi
        have hd : ps.drop i = ps[i] :: ps.drop (i + 1) := List.drop_eq_getElem_cons hi
        obtain ⟨b, hb, hcb⟩ := hcl.2 i _ hk
        have ey : V.ref b = x := Option.some.inj (hb.symm.trans hx)
        subst ey
        obtain ⟨l1, l2⟩ := small _ (List.getElem_mem hi)
        have htk : ps.take (i + 1) = ps.take i ++ [ps[i]] := by rw [List.take_add_one, hk]; rfl
        rw [hd] at hf
        rw [htk]
        generalize ps[i] = k at hk hd hcb l1 l2 hf htk
        have hf : (if isLet k.1 = false then some (Fe.letter k.1) else if glyphOk m k.2 = false then some (.glyph k.1) else if k.1 ∈ (ps.take i).map (·.1) then some (.dup k.1) else faultF m (ps.drop (i + 1)) ((ps.take i).map (·.1) ++ [k.1])) = faultF m ps [] := hf
        refine ⟨b, _, rfl, seqT_of (s3 _ _ hcb), rfl, _, _, rfl, _, _, rfl, rfl, ?_⟩
        have badL : isLet k.1 = false → ∀ u, G u = none → Q (.ref u) (upd G u (.tup (Tf.letter k.1).vs)) := fun h => out (.letter k.1) G s3 (by rw [← hf, if_pos h]; rfl)
        refine ⟨_, rfl, _, rfl, by rw [S_len]; exact szl (by omega), rfl, _, rfl, ?_⟩
        rw [S_len]
        by_cases h1 : k.1.length = 1
        · obtain ⟨x, hx1⟩ : ∃ x, k.1 = [x] := List.length_eq_one_iff.mp h1
          rw [hx1] at badL hf ⊢
          refine itN (by rw [show decide (V.int (([x].length : Nat) : Int) = V.int 1) = true from decide_eq_true rfl]; decide) ?_
          have hinv : ((ps.take i ++ [k]).map (·.1)) = (ps.take i).map (·.1) ++ [[x]] := by rw [List.map_append, ← hx1]; rfl
          rw [hinv]
          refine ⟨_, rfl, x, _, rfl, rfl, _, rfl, ?_⟩
          rw [az_mem, ← isLet_one]
          cases e2 : isLet [x] with
          | false => exact iteT ⟨_, rfl, by show 2 ≤ sizeLine; decide, badL e2⟩
          | true =>
            rw [e2, if_neg (by decide)] at hf
            refine iteF ⟨_, rfl, _, rfl, k.2, cols m, 1, 4, rfl, l2, lc, fun G3 s4 => ⟨_, rfl, ?_⟩⟩
            rw [word_gl]
            have s5 := s3.trans s4
            have hM4 := s4 _ _ hMt
            cases e3 : glyphOk m k.2 with
            | false =>
              rw [e3, if_pos rfl] at hf
              exact iteT ⟨_, rfl, by show 2 ≤ sizeLine; decide, out (.glyph [x]) G3 s5 (by rw [← hf]; rfl)⟩
            | true =>
              rw [e3, if_neg (by decide)] at hf
              refine iteF ⟨_, rfl, _, rfl, M, _, rfl, .inl (seqL_of hM4), rfl, flat_txs _, _, rfl, ?_⟩
              show if inV (tx [x]) (((ps.take i).map (·.1)).map tx) = true then _ else _
              rw [in_txs]
              by_cases mm : [x] ∈ (ps.take i).map (·.1)
              · rw [if_pos mm] at hf
                rw [decide_eq_true mm]
                exact iteT ⟨_, rfl, by show 2 ≤ sizeLine; decide, out (.dup [x]) G3 s5 (by rw [← hf]; rfl)⟩
              · rw [if_neg mm] at hf
                rw [decide_eq_false mm]
                refine iteF ⟨_, rfl, .inl ⟨rfl, _, seqL_of hM4⟩, _, rfl, M, _, _, rfl, rfl, hM4, by rw [List.length_map, List.length_map, List.length_take]; exact szlt (by omega), ex_mut s5 hM0, ?_, hf, _, _, rfl⟩
                rw [upd_same, List.map_append]
                rfl
        · refine itP (by rw [decide_eq_false fun q => h1 (by injection q with q; omega)]; rfl) ⟨_, rfl, by show 2 ≤ sizeLine; decide, badL (by unfold isLet; rw [decide_eq_false h1]; rfl)⟩
      · rintro σ G ⟨s3, hMt, hf, u, v, rfl⟩
        rw [List.drop_of_length_le (by omega)] at hf
        have hfn : faultF m ps [] = none := hf.symm
        exact z0 (by rw [hfn]; rfl) G s3
def spLine : Sp := fun vs H Q _ => ∃ (q : Addr) (gap : List Nat) (ws : List V) (ps : List Pr), vs = [tx gap, .ref q] ∧ H q = some (.lst ws) ∧ PairsL H ws ps ∧ gap.length ≤ 60 ∧ okPs ps ∧ ps.length ≤ 30 ∧ ∀ G, Same H G → Q (tx (lineF gap ps)) G
theorem c_law_line (T : Txt K mg a) : Can P w K mg base 1 "_law_line" spLine := by
  refine can_of T.d_law_line sc_law_line bd_law_line (fun vs H Q E h => ?_) (fun f cdv A outer s H vs Q E hr h => ?_)
  · obtain ⟨q, gap, ws, ps, rfl, _⟩ := h
    rfl
  · obtain ⟨q, gap, ws, ps, rfl, hq, hcl, lg, ok, h30, z⟩ := h
    refine ⟨_, (pss_one (ps_ret (pe_op op_add_str (pe_op op_add_str (kjoin K pe_str (pe_lc (own := [("mark", 2), ("shape", 3)]) (g := (gTup _ 2 (gCons (gName 2) (gCons (gName 3) gNil)))) (tt := tYes) (by rfl) sc_law_line.nd (kpi_list K (pv 1)) (blkOk_by (N := N_law_line) (sc := defScope s_law_line) (by decide +kernel)) (fun _ _ _ _ _ => (pg_tup rfl (pgs_cons (pg_name (i := 2) sc_law_line.nd rfl (.inl rfl)) (pgs_cons (pg_name (i := 3) sc_law_line.nd rfl (.inl rfl)) pgs_nil)))) (fun _ _ _ _ _ => pts_nil) (fun _ _ _ _ _ => (pe_op op_add_str (pe_op op_add_str (pv 2) pe_str) (pv 3))))) pe_str) (pv 0)))), ?_⟩
    refine ⟨⟨_, rfl⟩, _, rfl, q, rfl, ⟨_, seqL_of hq⟩, fun D hD => ?_⟩
    have hz : ∀ l m : List Nat, l.length ≤ 10000 → m.length ≤ 10000 → (S l).length + (S m).length ≤ sizeLine := fun l m h k => by rw [S_len, S_len]; exact szl (by omega)
    refine lc_it (vs := [2, 3]) (σ := L2.start N_law_line [tx gap, V.ref q]) (g := gTup K 2 (gCons (gName 2) (gCons (gName 3) gNil))) (tt := tYes) (te := tOp (fun x y H Q => ∃ i j, x = V.str i ∧ y = V.str j ∧ i.length + j.length ≤ sizeLine ∧ Q (V.str (i ++ j)) H) (tOp (fun x y H Q => ∃ i j, x = V.str i ∧ y = V.str j ∧ i.length + j.length ≤ sizeLine ∧ Q (V.str (i ++ j)) H) (tVar 2) (tC (V.str (Str.ofString "=")))) (tVar 3)) (walk_list (xs := ws)) (fun i G => Same H G ∧ G D = some (.lst (((ps.map pieceF).take i).map tx))) ⟨ex_new hD, upd_same⟩ (fun i G _ h => seqL_of (h.1 _ _ hq)) ?_ ?_
    · rintro i x G0 G hi ⟨s1, hGD⟩ ⟨rfl, hx⟩
      have hi : i < ps.length := by rw [← hcl.1]; exact hi
      have hk : ps[i]? = some ps[i] := List.getElem?_eq_getElem hi
      obtain ⟨b, hb, hcb⟩ := hcl.2 i _ hk
      have ey : V.ref b = x := Option.some.inj (hb.symm.trans hx)
      subst ey
      obtain ⟨⟨_, o1⟩, ⟨_, o2⟩⟩ := ok _ (List.getElem_mem hi)
      generalize ps[i] = k at hk hcb o1 o2
      refine ⟨b, _, rfl, seqT_of (s1 _ _ hcb), rfl, _, _, rfl, _, _, rfl, rfl, ?_⟩
      refine ⟨rfl, ?_⟩
      unfold tYes
      dsimp only
      rw [if_pos rfl]
      have ec : Str.ofString "=" = S [61] := by decide +kernel
      refine ⟨_, rfl, _, _, rfl, rfl, by rw [ec]; exact hz _ _ (by omega) (by decide), ?_⟩
      rw [ec, S_app]
      refine ⟨_, rfl, _, _, rfl, rfl, hz _ _ (by rw [List.length_append]; show _ + 1 ≤ 10000; omega) (by omega), ?_⟩
      rw [S_app]
      have e : k.1 ++ [61] ++ k.2 = pieceF k := by
        unfold pieceF
        simp only [List.append_assoc, List.cons_append, List.nil_append]
      rw [e]
      refine ⟨_, hGD, by rw [List.length_map, List.length_take]; exact szlt (by omega), ex_mut s1 hD, ?_⟩
      rw [upd_same, List.take_add_one, List.getElem?_map, hk, List.map_append]
      rfl
    · rintro G ⟨s1, hGD⟩
      rw [List.take_of_length_le (by rw [List.length_map]; exact Nat.le_of_eq hcl.1.symm)] at hGD
      have lps : ∀ p ∈ ps.map pieceF, p.length ≤ 121 := fun p hp => by
        obtain ⟨k, hk, rfl⟩ := List.mem_map.mp hp
        obtain ⟨⟨_, o1⟩, ⟨_, o2⟩⟩ := ok k hk
        unfold pieceF
        rw [List.length_append, List.length_cons]
        omega
      have lj := joinL_len (s := [44]) lps
      have ls := sum_leS lps
      rw [List.length_map] at lj ls
      have lj : (TL.joinL [44] (ps.map pieceF)).length ≤ ps.length * 122 := lj
      have ec : Str.ofString "," = S [44] := by decide +kernel
      have ep : Str.ofString "|" = S [124] := by decide +kernel
      refine ⟨_, D, (ps.map pieceF).map S, rfl, rfl, .inl (seqL_of (by rw [List.map_map]; exact hGD)), ?_, ?_⟩
      · rw [ec, S_len, List.length_map, List.length_map]
        show _ + ps.length * 1 ≤ _
        omega
      rw [ec, join_S]
      generalize hbd : TL.joinL [44] (ps.map pieceF) = bd at lj
      refine ⟨_, _, rfl, rfl, by rw [ep]; exact hz _ _ (by omega) (by decide), ?_⟩
      rw [ep, S_app]
      refine ⟨_, rfl, _, _, rfl, rfl, hz _ _ (by rw [List.length_append]; show _ + 1 ≤ 10000; omega) (by omega), ?_⟩
      rw [S_app]
      have e : bd ++ [124] ++ gap = lineF gap ps := by
        unfold lineF
        rw [hbd, List.append_assoc]
        rfl
      rw [e]
      exact z G s1
end
end K32

end
section
set_option Elab.async false
set_option linter.all false
set_option maxRecDepth 100000
set_option maxHeartbeats 4000000
namespace K32
open PySem PySem.Spec PyProof.Rows L2 Kit
section
variable {P : Program} {w : World} {K : PySem.W.Frag} {mg : Str → Option Value} {base : Heap} {a : Ad}
theorem decV {m n : Nat} {i : Int} (h : i = (n : Int)) : decide (V.int ((m : Nat) : Int) = V.int i) = decide (m = n) := by
  rw [decide_eq_decide, h]
  constructor
  · intro q
    injection q with q
    omega
  · intro q
    rw [q]
theorem cut2 {c : Nat} {l : List Nat} (h : l.count c = 1) : ∃ u v, l = u ++ c :: v ∧ c ∉ u ∧ c ∉ v ∧ cutc c [] l = [u, v] := by
  have hm : c ∈ l := List.count_pos_iff.mp (by omega)
  obtain ⟨u, v, rfl, hu⟩ := first_cut hm
  rw [List.count_append, List.count_cons_self, List.count_eq_zero.mpr hu] at h
  have hv : c ∉ v := List.count_eq_zero.mp (by omega)
  refine ⟨u, v, rfl, hu, hv, ?_⟩
  rw [cutc_at hu, cutc_none hv]
  rfl
theorem piece_at {u v : List Nat} (hu : 61 ∉ u) (hv : 61 ∉ v) : pieceL (u ++ 61 :: v) = some (u, v) := by
  unfold pieceL
  rw [cutc_at hu, cutc_none hv]
  rfl
theorem piece_no {p : List Nat} (h : p.count 61 ≠ 1) : pieceL p = none := by
  have e := Kit.cutc_len (c := 61) p []
  unfold pieceL
  generalize cutc 61 [] p = z at e ⊢
  match z, e with
  | [], _ => rfl
  | [_], _ => rfl
  | [_, _], e => exact absurd (show p.count 61 + 1 = 2 from e.symm) (by omega)
  | _ :: _ :: _ :: _, _ => rfl
theorem parse_no {l : List Nat} (h : l.count 124 ≠ 1) : parseL l = none := by
  have e := Kit.cutc_len (c := 124) l []
  unfold parseL
  generalize cutc 124 [] l = z at e ⊢
  match z, e with
  | [], _ => rfl
  | [_], _ => rfl
  | [_, _], e => exact absurd (show l.count 124 + 1 = 2 from e.symm) (by omega)
  | _ :: _ :: _ :: _, _ => rfl
theorem parse_at {u v : List Nat} (hu : 124 ∉ u) (hv : 124 ∉ v) : parseL (u ++ 124 :: v) = (allL (cutP u)).map fun ps => (v, ps) := by
  unfold parseL
  rw [cutc_at hu, cutc_none hv]
  rfl
def oneEq (p : List Nat) : Bool := decide (p.count 61 = 1)
theorem all_no : ∀ {ps : List (List Nat)}, ps.all oneEq = false → allL ps = none
  | p :: ps, h => by
    rw [List.all_cons] at h
    cases e : oneEq p with
    | false => exact allL_bad (piece_no (of_decide_eq_false e))
    | true =>
      rw [e, Bool.true_and] at h
      obtain ⟨u, v, rfl, hu, hv, _⟩ := cut2 (of_decide_eq_true e)
      rw [allL_ok (piece_at hu hv), all_no h]
      rfl
theorem all_yes : ∀ {ps : List (List Nat)}, ps.all oneEq = true → ∃ ks : List Pr, allL ps = some ks ∧ ks.length = ps.length ∧ ∀ (i : Nat) (p : List Nat), ps[i]? = some p → ∃ k : Pr, ks[i]? = some k ∧ p = k.1 ++ 61 :: k.2 ∧ 61 ∉ k.1
  | [], _ => ⟨[], rfl, rfl, nofun⟩
  | p :: ps, h => by
    rw [List.all_cons, Bool.and_eq_true] at h
    obtain ⟨u, v, rfl, hu, hv, _⟩ := cut2 (of_decide_eq_true h.1)
    obtain ⟨ks, h1, h2, h3⟩ := all_yes h.2
    refine ⟨(u, v) :: ks, by rw [allL_ok (piece_at hu hv), h1]; rfl, by rw [List.length_cons, List.length_cons, h2], fun i p hp => ?_⟩
    cases i with
    | zero => exact ⟨(u, v), rfl, (Option.some.inj hp).symm, hu⟩
    | succ i => exact h3 i p hp
theorem filter_noneL {p : List Nat → Bool} : ∀ l : List (List Nat), (l.filter fun x => !p x).isEmpty = l.all p
  | [] => rfl
  | x :: l => by
    rw [List.filter_cons, List.all_cons, ← filter_noneL l]
    cases p x <;> rfl
def spParts : Sp := fun vs H Q _ => ∃ (l : List Nat), vs = [tx l] ∧ l.length ≤ 500 ∧ (parseL l = none → ∀ G, Same H G → Q .non G) ∧
  ∀ gap ps, parseL l = some (gap, ps) → ∀ u D G ws, Same H G → H u = none → H D = none → G u = some (.tup [tx gap, .ref D]) → G D = some (.lst ws) → PairsL G ws ps → Q (.ref u) G
theorem c_law_parts (T : Txt K mg a) : Can P w K mg base 1 "_law_parts" spParts := by
  refine can_of T.d_law_parts sc_law_parts bd_law_parts (fun vs H Q E h => ?_) (fun f cdv A outer s H vs Q E hr h => ?_)
  · obtain ⟨l, rfl, _⟩ := h
    rfl
  · obtain ⟨l, rfl, hl, z0, z1⟩ := h
    refine ⟨_, (pss_cons (ps_if (pt_cmpR op_ne (pe_m1 PySem.F.slot_str_count PySem.F.type_str_count mt_count (pv 0) pe_str) pe_int (nomark _)) (pss_one (ps_ret pe_non)) pss_nil)
      (pss_cons (ps_set (i := 1) sc_law_parts.nd rfl (.inl rfl) (pe_slice sl_str (pv 0) po_none (po_some (pe_m1 PySem.F.slot_str_find PySem.F.type_str_find mt_find (pv 0) pe_str))))
      (pss_cons (ps_set (i := 2) sc_law_parts.nd rfl (.inl rfl) (pe_lst pa_nil))
      (C8.pss_cut (ps_if (pt_cmpR op_ne (pv 1) pe_str (nomark _)) (pss_one (ps_set (i := 2) sc_law_parts.nd rfl (.inl rfl) (pe_split (pv 1) pe_str))) pss_nil)
      (pss_cons (ps_if (pt_cmpR (kneP K hr.units) (pe_lc (own := [("piece", 3)]) (g := gName 3) (by rfl) sc_law_parts.nd (kpi_list K (pv 2)) (blkOk_by (N := N_law_parts) (sc := defScope s_law_parts) (by decide +kernel)) (fun _ _ _ _ _ => (pg_name (i := 3) sc_law_parts.nd rfl (.inl rfl))) (fun _ _ _ _ _ => (pts_one (pt_cmpR op_ne (pe_m1 PySem.F.slot_str_count PySem.F.type_str_count mt_count (pv 3) pe_str) pe_int (nomark _)))) (fun _ _ _ _ _ => (pv 3))) (pe_lst pa_nil) (nomark _)) (pss_one (ps_ret pe_non)) pss_nil)
      (pss_cons (ps_setLc (i := 4) (own := [("piece", 3)]) (g := gName 3) (tt := tYes) (by rfl) sc_law_parts.nd rfl rfl (sw_true rfl rfl rfl (by decide +kernel)) (kpi_list K (pv 2)) (blkOk_by (N := N_law_parts) (sc := defScope s_law_parts) (by decide +kernel)) (fun _ _ _ _ _ => (pg_name (i := 3) sc_law_parts.nd rfl (.inl rfl))) (fun _ _ _ _ _ => pts_nil) (fun _ _ _ _ _ => (pe_tup (pa_cons (pe_slice sl_str (pv 3) po_none (po_some (pe_m1 PySem.F.slot_str_find PySem.F.type_str_find mt_find (pv 3) pe_str))) (pa_cons (pe_slice sl_str (pv 3) (po_some (pe_op op_add (pe_m1 PySem.F.slot_str_find PySem.F.type_str_find mt_find (pv 3) pe_str) pe_int)) po_none) pa_nil)))))
      (pss_one (ps_ret (pe_tup (pa_cons (pe_slice sl_str (pv 0) (po_some (pe_op op_add (pe_m1 PySem.F.slot_str_find PySem.F.type_str_find mt_find (pv 0) pe_str) pe_int)) po_none) (pa_cons (pv 4) pa_nil))))))))))), ?_⟩
    have eb : Str.ofString "|" = S [124] := by decide +kernel
    have ee : Str.ofString "=" = S [61] := by decide +kernel
    have ec : Str.ofString "," = S [44] := by decide +kernel
    refine ⟨_, rfl, ⟨_, rfl⟩, _, _, rfl, rfl, rfl, _, rfl, ?_⟩
    rw [eb, count1]
    by_cases h1 : l.count 124 = 1
    · refine itN (by rw [decV (i := 1) (n := 1) rfl, decide_eq_true h1]; decide) ?_
      obtain ⟨x, v, rfl, hx, hv, _⟩ := cut2 h1
      rw [parse_at hx hv] at z0 z1
      rw [List.length_append, List.length_cons] at hl
      have hS : (S (x ++ 124 :: v)).length ≤ sizeLine := by rw [S_len, List.length_append, List.length_cons]; exact szl (by omega)
      refine ⟨_, rfl, _, rfl, ⟨_, rfl⟩, _, _, rfl, rfl, ?_⟩
      rw [find_cut hx]
      refine ⟨_, rfl, _, rfl, hS, ?_⟩
      rw [cut_take, List.take_left]
      refine ⟨by decide, fun L hL => ?_⟩
      have sL := ex_new (o := .lst []) hL
      refine ⟨fun σ G => ∃ X, Same H G ∧ G X = some (.lst ((cutP x).map tx)) ∧ H X = none ∧ σ = [some (tx (x ++ 124 :: v)), some (tx x), some (.ref X), none, none], ?_, ?_⟩
      · refine ⟨_, rfl, rfl, _, rfl, ?_⟩
        by_cases hx0 : x = []
        · subst hx0
          exact itN (by rw [show decide (tx [] = V.str (Str.ofString "")) = true by decide +kernel]; decide) ⟨L, sL, upd_same, hL, rfl⟩
        · refine itP (by rw [decide_eq_false fun e => hx0 (by have e : S x = Str.ofString "" := V.str.inj e; rw [show Str.ofString "" = S [] by decide +kernel] at e; exact S_inj e)]; rfl) ?_
          refine ⟨_, rfl, ⟨_, rfl⟩, _, _, rfl, rfl, by decide +kernel, by rw [S_len]; exact szl (by omega), fun X hX => ?_⟩
          have esp : (Txt.split (S x) (Str.ofString ",")).map V.str = (cutc 44 [] x).map tx := by
            rw [ec, split1 _ (by decide), List.map_map]
            rfl
          rw [esp]
          exact ⟨X, sL.trans (ex_new hX), by rw [upd_same]; unfold cutP; rw [if_neg hx0], free_same sL hX, rfl⟩
      rintro σ G ⟨X, sG, hX, hX0, rfl⟩
      have lps : (cutP x).length ≤ 501 := by
        unfold cutP
        split
        · exact Nat.zero_le _
        · exact Nat.le_trans cutc_len (by omega)
      have pps : ∀ p ∈ cutP x, p.length ≤ 500 := fun p hp => by
        unfold cutP at hp
        split at hp
        · cases hp
        · have := cutc_part p hp
          simp at this
          omega
      generalize cutP x = ps at lps pps z0 z1 hX
      have hz : ∀ {p : List Nat}, p ∈ ps → (S p).length ≤ sizeLine := fun h => by rw [S_len]; exact szl (by have := pps _ h; omega)
      refine ⟨_, rfl, X, rfl, ⟨_, seqL_of hX⟩, fun D hD => lc_it (walk_list (xs := ps.map tx)) (fun i N => Same G N ∧ N D = some (.lst (((ps.take i).filter fun p => !oneEq p).map tx))) ⟨ex_new hD, upd_same⟩ (fun i N _ h => seqL_of (h.1 _ _ hX)) ?_ ?_⟩
      · rintro i y N0 N hi ⟨s1, hN⟩ ⟨rfl, hy⟩
        have hi : i < ps.length := by rw [List.length_map] at hi; exact hi
        have hk : ps[i]? = some ps[i] := List.getElem?_eq_getElem hi
        rw [List.getElem?_map, hk] at hy
        obtain rfl : tx ps[i] = y := Option.some.inj hy
        have htk : ps.take (i + 1) = ps.take i ++ [ps[i]] := by rw [List.take_add_one, hk]; rfl
        rw [htk, List.filter_append]
        have lt := List.length_filter_le (fun p => !oneEq p) (ps.take i)
        rw [List.length_take] at lt
        generalize ps[i] = p at hk ⊢
        refine ⟨rfl, ?_⟩
        refine ⟨_, rfl, ⟨_, rfl⟩, _, _, rfl, rfl, rfl, _, rfl, ?_⟩
        rw [ee, count1, decV (i := 1) (n := 1) rfl]
        cases e3 : oneEq p with
        | true =>
          refine itN (by rw [of_decide_eq_true e3]; decide) ⟨s1, ?_⟩
          rw [hN, show List.filter (fun x => !oneEq x) [p] = [] by rw [List.filter_cons, e3]; rfl, List.append_nil]
        | false =>
          refine itP (by rw [decide_eq_false (of_decide_eq_false e3)]; rfl) ⟨_, rfl, _, hN, by rw [List.length_map]; exact szlt (by omega), ex_mut s1 hD, ?_⟩
          rw [upd_same, show List.filter (fun x => !oneEq x) [p] = [p] by rw [List.filter_cons, e3]; rfl, List.map_append]
          rfl
      rintro N ⟨s1, hN⟩
      rw [List.take_of_length_le (by rw [List.length_map]; exact Nat.le_refl _)] at hN
      refine ⟨by decide, fun E1 hE1 => ⟨.list ((ps.filter fun x => !oneEq x).map fun x => .str (S x)), .list [], .lst (seqL_of ((ex_new hE1) _ _ hN)) (dp_txs _), .lst (seqL_of upd_same) .nil, plain_txs _, rfl, depth_txs _, _, rfl, ?_⟩⟩
      rw [eqv_lists, List.isEmpty_map, filter_noneL]
      have s2 := (sG.trans s1).trans (ex_new (o := .lst []) hE1)
      have hX2 := (ex_new (o := .lst []) hE1) _ _ (s1 _ _ hX)
      generalize upd N E1 (.lst []) = M at s2 hX2 ⊢
      cases e4 : ps.all oneEq with
      | false => exact iteT (z0 (by rw [all_no e4]; rfl) M s2)
      | true =>
        refine iteF ?_
        obtain ⟨ks, hks, lks, kk⟩ := all_yes e4
        rw [hks] at z1
        refine ⟨_, rfl, X, rfl, ⟨_, seqL_of hX2⟩, fun B hB => lc_it (walk_list (xs := ps.map tx)) (fun i N => ∃ ws, Same M N ∧ N B = some (.lst ws) ∧ PairsL N ws (ks.take i)) ⟨[], ex_new hB, upd_same, rfl, nofun⟩ (fun i N _ ⟨_, h, _⟩ => seqL_of (h _ _ hX2)) ?_ ?_⟩
        · rintro i y N0 N3 hi ⟨ws, s3, hN3, hP⟩ ⟨rfl, hy⟩
          have hi : i < ps.length := by rw [List.length_map] at hi; exact hi
          have hk : ps[i]? = some ps[i] := List.getElem?_eq_getElem hi
          have hm := hz (List.getElem_mem hi)
          rw [List.getElem?_map, hk] at hy
          obtain rfl : tx ps[i] = y := Option.some.inj hy
          obtain ⟨k, k1, k2, k3⟩ := kk i _ hk
          rw [k2] at hm ⊢
          refine ⟨rfl, ?_⟩
          unfold tYes
          dsimp only
          rw [if_pos rfl]
          refine ⟨_, rfl, _, rfl, ⟨_, rfl⟩, _, _, rfl, rfl, ?_⟩
          rw [ee, find_cut k3]
          refine ⟨_, rfl, _, rfl, hm, ?_⟩
          rw [cut_take, List.take_left]
          refine ⟨_, rfl, _, rfl, ⟨_, rfl⟩, _, _, rfl, rfl, ?_⟩
          rw [find_cut k3]
          refine ⟨_, _, rfl, rfl, _, rfl, _, rfl, hm, ?_⟩
          have e5 : (k.1.length : Int) + 1 = ((k.1.length + 1 : Nat) : Int) := by omega
          rw [e5, cut_drop, show (k.1 ++ 61 :: k.2).drop (k.1.length + 1) = k.2 by rw [← List.drop_drop, List.drop_left]; rfl]
          refine ⟨by show 2 ≤ sizeLine; decide, fun u hu => ?_⟩
          have su := ex_new (o := .tup [tx k.1, tx k.2]) hu
          have hN4 := su _ _ hN3
          have hP4 := (hP.mono su).snoc (k := (k.1, k.2)) upd_same
          have s4 := s3.trans su
          generalize upd N3 u (.tup [tx k.1, tx k.2]) = N4 at hN4 hP4 s4 ⊢
          refine ⟨_, hN4, ?_, _, ex_mut s4 hB, upd_same, ?_⟩
          · rw [hP.1, List.length_take]
            exact szlt (by omega)
          · rw [show ks.take (i + 1) = ks.take i ++ [(k.1, k.2)] by rw [List.take_add_one, k1]; rfl]
            exact hP4.upd hN4
        rintro N5 ⟨ws, s5, hN5, hP5⟩
        rw [List.take_of_length_le (by rw [List.length_map, lks]; exact Nat.le_refl _)] at hP5
        refine ⟨_, rfl, _, rfl, ⟨_, rfl⟩, _, _, rfl, rfl, ?_⟩
        rw [find_cut hx]
        refine ⟨_, _, rfl, rfl, _, rfl, _, rfl, hS, ?_⟩
        have e5 : (x.length : Int) + 1 = ((x.length + 1 : Nat) : Int) := by omega
        rw [e5, cut_drop, show (x ++ 124 :: v).drop (x.length + 1) = v by rw [← List.drop_drop, List.drop_left]; rfl]
        refine ⟨_, rfl, by show 2 ≤ sizeLine; decide, fun u hu => ?_⟩
        have su := ex_new (o := .tup [tx v, .ref B]) hu
        have s6 := s2.trans s5
        exact z1 v ks rfl u B _ ws (s6.trans su) (free_same s6 hu) (free_same s2 hB) upd_same (su _ _ hN5) (hP5.mono su)
    · exact itP (by rw [decV (i := 1) (n := 1) rfl, decide_eq_false h1]; rfl) (z0 (parse_no h1) H (.refl _))
end
end K32

end
section
set_option Elab.async false
set_option linter.all false
set_option maxRecDepth 100000
set_option maxHeartbeats 4000000
namespace K32
open PySem PySem.Spec PyProof.Rows L2 Kit
section
variable {P : Program} {w : World} {K : PySem.W.Frag} {mg : Str → Option Value} {base : Heap} {a : Ad}
theorem errC (T : Txt K mg a) : ∀ i < 9, ErrC K (eAd a i) := by
  intro i hi
  match i, hi with
  | 0, _ => exact T.x_BadScheme
  | 1, _ => exact T.x_BadColumn
  | 2, _ => exact T.x_BadSpots
  | 3, _ => exact T.x_TooMany
  | 4, _ => exact T.x_BadFont
  | 5, _ => exact T.x_BadLetter
  | 6, _ => exact T.x_BadGlyph
  | 7, _ => exact T.x_DuplicateLetter
  | 8, _ => exact T.x_UnknownLetter
theorem look1 (f : Str) (y : V) : [(f, y)].lookup f = some y := by
  rw [List.lookup_cons, beq_self_eq_true]
def Tf.ix : Tf → Nat
  | .gap => 4
  | .text => 4
  | .many => 3
  | .letter _ => 5
  | .glyph _ => 6
  | .dup _ => 7
  | .unk .. => 8
def Tf.fs : Tf → List (Str × V)
  | .gap => [("part", .str (Str.ofString "gap"))]
  | .text => [("part", .str (Str.ofString "text"))]
  | .many => [("most", .int 6)]
  | .letter l => [("letter", tx l)]
  | .glyph l => [("letter", tx l)]
  | .dup l => [("letter", tx l)]
  | .unk l k => [("place", .int (k : Nat)), ("letter", tx l)]
theorem Tf.ix_lt (t : Tf) : t.ix < 9 := by
  cases t with
  | gap => show 4 < 9; decide
  | text => show 4 < 9; decide
  | many => show 3 < 9; decide
  | letter l => show 5 < 9; decide
  | glyph l => show 6 < 9; decide
  | dup l => show 7 < 9; decide
  | unk l k => show 8 < 9; decide
def Tf.ok : Tf → Prop
  | .unk _ k => k ≤ 1000
  | _ => True
def spTold (A : Ad) : SpE := fun a cls d vs H Q E => ∃ (t : Tf) (dd : Addr), vs = [.ref a] ∧ t.ok ∧ cls = .ref (eAd A t.ix) ∧ d = some dd ∧ H dd = some (.xd t.fs) ∧ ∀ G q L, Same H G → H q = none → H L = none → G q = some (.tup t.vs) → G L = some (.lst [.ref q]) → Q (.ref L) G
theorem c_law_told (T : Txt K mg a) : CanS P w K mg base 1 "_law_told" (spTold a) := by
  refine canS_of T.d_law_told sc_law_told bd_law_told (fun a cls d vs H Q E h => ?_) (fun f cdv A outer s H vs Q E p cls d hr hz hf h => ?_)
  · obtain ⟨t, dd, rfl, _⟩ := h
    rfl
  · obtain ⟨t, dd, rfl, ok, rfl, rfl, hd, z⟩ := h
    have hp : (p.1, p.2) ∈ (cxE P w K mg base N_law_told "_law_told" s_law_told f cdv A outer s H E p).pn := List.mem_cons_self
    refine ⟨_, (pss_cons (ps_set (i := 1) sc_law_told.nd rfl (.inl rfl) (pe_lst pa_nil))
      (pss_cons (ps_if (pt_val (pe_callB (call_isP hp hz hf) (by rfl) T.b_isinstance (by decide +kernel) (pa_cons (pv 0) (pa_cons (pe_glob (v := .ref a.BadFont) (by rfl) T.e_BadFont.gC rfl) pa_nil)))) (pss_one (ps_expr (pe_bm PySem.F.plainAttrs_list PySem.F.slot_list_append PySem.F.type_list_append mt_append (pv 1) (pa_cons (pe_tup (pa_cons pe_str (pa_cons (pe_xp hp hz hf (pv 0)) pa_nil))) pa_nil)))) pss_nil)
      (pss_cons (ps_if (pt_val (pe_callB (call_isP hp hz hf) (by rfl) T.b_isinstance (by decide +kernel) (pa_cons (pv 0) (pa_cons (pe_glob (v := .ref a.TooMany) (by rfl) T.e_TooMany.gC rfl) pa_nil)))) (pss_one (ps_expr (pe_bm PySem.F.plainAttrs_list PySem.F.slot_list_append PySem.F.type_list_append mt_append (pv 1) (pa_cons (pe_tup (pa_cons pe_str (pa_cons (pe_callTy call_str_int (by rfl) T.b_str (by decide +kernel) (pa_cons (pe_xp hp hz hf (pv 0)) pa_nil)) pa_nil))) pa_nil)))) pss_nil)
      (pss_cons (ps_if (pt_val (pe_callB (call_isP hp hz hf) (by rfl) T.b_isinstance (by decide +kernel) (pa_cons (pv 0) (pa_cons (pe_glob (v := .ref a.BadLetter) (by rfl) T.e_BadLetter.gC rfl) pa_nil)))) (pss_one (ps_expr (pe_bm PySem.F.plainAttrs_list PySem.F.slot_list_append PySem.F.type_list_append mt_append (pv 1) (pa_cons (pe_tup (pa_cons pe_str (pa_cons (pe_xp hp hz hf (pv 0)) pa_nil))) pa_nil)))) pss_nil)
      (pss_cons (ps_if (pt_val (pe_callB (call_isP hp hz hf) (by rfl) T.b_isinstance (by decide +kernel) (pa_cons (pv 0) (pa_cons (pe_glob (v := .ref a.BadGlyph) (by rfl) T.e_BadGlyph.gC rfl) pa_nil)))) (pss_one (ps_expr (pe_bm PySem.F.plainAttrs_list PySem.F.slot_list_append PySem.F.type_list_append mt_append (pv 1) (pa_cons (pe_tup (pa_cons pe_str (pa_cons (pe_xp hp hz hf (pv 0)) pa_nil))) pa_nil)))) pss_nil)
      (pss_cons (ps_if (pt_val (pe_callB (call_isP hp hz hf) (by rfl) T.b_isinstance (by decide +kernel) (pa_cons (pv 0) (pa_cons (pe_glob (v := .ref a.DuplicateLetter) (by rfl) T.e_DuplicateLetter.gC rfl) pa_nil)))) (pss_one (ps_expr (pe_bm PySem.F.plainAttrs_list PySem.F.slot_list_append PySem.F.type_list_append mt_append (pv 1) (pa_cons (pe_tup (pa_cons pe_str (pa_cons (pe_xp hp hz hf (pv 0)) pa_nil))) pa_nil)))) pss_nil)
      (pss_cons (ps_if (pt_val (pe_callB (call_isP hp hz hf) (by rfl) T.b_isinstance (by decide +kernel) (pa_cons (pv 0) (pa_cons (pe_glob (v := .ref a.UnknownLetter) (by rfl) T.e_UnknownLetter.gC rfl) pa_nil)))) (pss_one (ps_expr (pe_bm PySem.F.plainAttrs_list PySem.F.slot_list_append PySem.F.type_list_append mt_append (pv 1) (pa_cons (pe_tup (pa_cons pe_str (pa_cons (pe_xp hp hz hf (pv 0)) (pa_cons (pe_callTy call_str_int (by rfl) T.b_str (by decide +kernel) (pa_cons (pe_xp hp hz hf (pv 0)) pa_nil)) pa_nil)))) pa_nil)))) pss_nil)
      (pss_cons (ps_if (pt_not (pt_val (pe_callB (call_isP hp hz hf) (by rfl) T.b_isinstance (by decide +kernel) (pa_cons (pv 0) (pa_cons (pe_bltn (v := .ty "ValueError") (by rfl) T.b_ValueError (by decide +kernel) rfl) pa_nil))))) (pss_one (ps_expr (pe_bm PySem.F.plainAttrs_list PySem.F.slot_list_append PySem.F.type_list_append mt_append (pv 1) (pa_cons (pe_tup (pa_cons pe_str (pa_cons pe_str pa_nil))) pa_nil)))) pss_nil)
      (pss_one (ps_ret (pv 1))))))))))), ?_⟩
    have hC := errC T _ t.ix_lt
    have kk : ∀ j, j < 9 → PySem.W.kitOne K (.ref (eAd a t.ix)) (.ref (eAd a j)) = some (decide (t.ix = j)) := T.kk_e _ t.ix_lt
    have kv := T.kv_e _ t.ix_lt
    refine ⟨by decide, fun L hL => ?_⟩
    have s1 := ex_new (o := .lst []) hL
    have hL1 : (upd H L (.lst [])) L = some (.lst []) := upd_same
    generalize upd H L (.lst []) = G1 at s1 hL1
    have xd : ∀ {G : Hp}, Same H G → XdOk (some dd) G := fun s dd' q => ⟨_, (Option.some.inj q) ▸ s _ _ hd⟩
    cases t with
    | gap =>
      refine ⟨_, rfl, _, _, _, _, rfl, hC, xd s1, rfl, fun _ r => r, kk 4 (by decide), _, rfl, iteT ⟨_, rfl, .inl ⟨rfl, _, seqL_of hL1⟩, _, rfl, _, dd, _, V.str (Str.ofString "gap"), rfl, rfl, hC.xf, T.e_BadFont.noF, rfl, s1 _ _ hd, look1 _ _, by show 2 ≤ sizeLine; decide, fun q hq => ?_⟩⟩
      have s2 := s1.trans (ex_new (o := .tup (Tf.vs (.gap))) hq)
      have hL2 : (upd G1 q (.tup (Tf.vs (.gap)))) L = some (.lst []) := by rw [upd_ne (ne_some hq hL1)]; exact hL1
      have s3 : Same H (upd (upd G1 q (.tup (Tf.vs (.gap)))) L (.lst ([] ++ [.ref q]))) := ex_mut s2 hL
      have hq3 : (upd (upd G1 q (.tup (Tf.vs (.gap)))) L (.lst ([] ++ [.ref q]))) q = some (.tup (Tf.vs (.gap))) := by rw [upd_ne (Ne.symm (ne_some hq hL1))]; exact upd_same
      have hL3 : (upd (upd G1 q (.tup (Tf.vs (.gap)))) L (.lst ([] ++ [.ref q]))) L = some (.lst [.ref q]) := upd_same
      have hq0 := free_same s1 hq
      refine ⟨L, _, _, rfl, rfl, hL2, by show 0 < sizeLine; decide, ?_⟩
      refine ⟨_, rfl, _, _, _, _, rfl, hC, xd s3, rfl, fun _ r => r, kk 3 (by decide), _, rfl, iteF ?_⟩
      refine ⟨_, rfl, _, _, _, _, rfl, hC, xd s3, rfl, fun _ r => r, kk 5 (by decide), _, rfl, iteF ?_⟩
      refine ⟨_, rfl, _, _, _, _, rfl, hC, xd s3, rfl, fun _ r => r, kk 6 (by decide), _, rfl, iteF ?_⟩
      refine ⟨_, rfl, _, _, _, _, rfl, hC, xd s3, rfl, fun _ r => r, kk 7 (by decide), _, rfl, iteF ?_⟩
      refine ⟨_, rfl, _, _, _, _, rfl, hC, xd s3, rfl, fun _ r => r, kk 8 (by decide), _, rfl, iteF ?_⟩
      refine ⟨_, rfl, _, _, _, _, rfl, hC, xd s3, rfl, fun _ r => r, kv, _, rfl, iteF ?_⟩
      exact ⟨_, rfl, z _ q L s3 hq0 hL hq3 hL3⟩
    | text =>
      refine ⟨_, rfl, _, _, _, _, rfl, hC, xd s1, rfl, fun _ r => r, kk 4 (by decide), _, rfl, iteT ⟨_, rfl, .inl ⟨rfl, _, seqL_of hL1⟩, _, rfl, _, dd, _, V.str (Str.ofString "text"), rfl, rfl, hC.xf, T.e_BadFont.noF, rfl, s1 _ _ hd, look1 _ _, by show 2 ≤ sizeLine; decide, fun q hq => ?_⟩⟩
      have s2 := s1.trans (ex_new (o := .tup (Tf.vs (.text))) hq)
      have hL2 : (upd G1 q (.tup (Tf.vs (.text)))) L = some (.lst []) := by rw [upd_ne (ne_some hq hL1)]; exact hL1
      have s3 : Same H (upd (upd G1 q (.tup (Tf.vs (.text)))) L (.lst ([] ++ [.ref q]))) := ex_mut s2 hL
      have hq3 : (upd (upd G1 q (.tup (Tf.vs (.text)))) L (.lst ([] ++ [.ref q]))) q = some (.tup (Tf.vs (.text))) := by rw [upd_ne (Ne.symm (ne_some hq hL1))]; exact upd_same
      have hL3 : (upd (upd G1 q (.tup (Tf.vs (.text)))) L (.lst ([] ++ [.ref q]))) L = some (.lst [.ref q]) := upd_same
      have hq0 := free_same s1 hq
      refine ⟨L, _, _, rfl, rfl, hL2, by show 0 < sizeLine; decide, ?_⟩
      refine ⟨_, rfl, _, _, _, _, rfl, hC, xd s3, rfl, fun _ r => r, kk 3 (by decide), _, rfl, iteF ?_⟩
      refine ⟨_, rfl, _, _, _, _, rfl, hC, xd s3, rfl, fun _ r => r, kk 5 (by decide), _, rfl, iteF ?_⟩
      refine ⟨_, rfl, _, _, _, _, rfl, hC, xd s3, rfl, fun _ r => r, kk 6 (by decide), _, rfl, iteF ?_⟩
      refine ⟨_, rfl, _, _, _, _, rfl, hC, xd s3, rfl, fun _ r => r, kk 7 (by decide), _, rfl, iteF ?_⟩
      refine ⟨_, rfl, _, _, _, _, rfl, hC, xd s3, rfl, fun _ r => r, kk 8 (by decide), _, rfl, iteF ?_⟩
      refine ⟨_, rfl, _, _, _, _, rfl, hC, xd s3, rfl, fun _ r => r, kv, _, rfl, iteF ?_⟩
      exact ⟨_, rfl, z _ q L s3 hq0 hL hq3 hL3⟩
    | many =>
      refine ⟨_, rfl, _, _, _, _, rfl, hC, xd s1, rfl, fun _ r => r, kk 4 (by decide), _, rfl, iteF ?_⟩
      refine ⟨_, rfl, _, _, _, _, rfl, hC, xd s1, rfl, fun _ r => r, kk 3 (by decide), _, rfl, iteT ⟨_, rfl, .inl ⟨rfl, _, seqL_of hL1⟩, _, rfl, _, dd, _, V.int 6, rfl, rfl, hC.xf, T.e_TooMany.noF, rfl, s1 _ _ hd, look1 _ _, _, rfl, by decide +kernel, by show 2 ≤ sizeLine; decide, fun q hq => ?_⟩⟩
      have s2 := s1.trans (ex_new (o := .tup (Tf.vs (.many))) hq)
      have hL2 : (upd G1 q (.tup (Tf.vs (.many)))) L = some (.lst []) := by rw [upd_ne (ne_some hq hL1)]; exact hL1
      have s3 : Same H (upd (upd G1 q (.tup (Tf.vs (.many)))) L (.lst ([] ++ [.ref q]))) := ex_mut s2 hL
      have hq3 : (upd (upd G1 q (.tup (Tf.vs (.many)))) L (.lst ([] ++ [.ref q]))) q = some (.tup (Tf.vs (.many))) := by rw [upd_ne (Ne.symm (ne_some hq hL1))]; exact upd_same
      have hL3 : (upd (upd G1 q (.tup (Tf.vs (.many)))) L (.lst ([] ++ [.ref q]))) L = some (.lst [.ref q]) := upd_same
      have hq0 := free_same s1 hq
      refine ⟨L, _, _, rfl, rfl, hL2, by show 0 < sizeLine; decide, ?_⟩
      refine ⟨_, rfl, _, _, _, _, rfl, hC, xd s3, rfl, fun _ r => r, kk 5 (by decide), _, rfl, iteF ?_⟩
      refine ⟨_, rfl, _, _, _, _, rfl, hC, xd s3, rfl, fun _ r => r, kk 6 (by decide), _, rfl, iteF ?_⟩
      refine ⟨_, rfl, _, _, _, _, rfl, hC, xd s3, rfl, fun _ r => r, kk 7 (by decide), _, rfl, iteF ?_⟩
      refine ⟨_, rfl, _, _, _, _, rfl, hC, xd s3, rfl, fun _ r => r, kk 8 (by decide), _, rfl, iteF ?_⟩
      refine ⟨_, rfl, _, _, _, _, rfl, hC, xd s3, rfl, fun _ r => r, kv, _, rfl, iteF ?_⟩
      exact ⟨_, rfl, z _ q L s3 hq0 hL hq3 hL3⟩
    | letter l =>
      refine ⟨_, rfl, _, _, _, _, rfl, hC, xd s1, rfl, fun _ r => r, kk 4 (by decide), _, rfl, iteF ?_⟩
      refine ⟨_, rfl, _, _, _, _, rfl, hC, xd s1, rfl, fun _ r => r, kk 3 (by decide), _, rfl, iteF ?_⟩
      refine ⟨_, rfl, _, _, _, _, rfl, hC, xd s1, rfl, fun _ r => r, kk 5 (by decide), _, rfl, iteT ⟨_, rfl, .inl ⟨rfl, _, seqL_of hL1⟩, _, rfl, _, dd, _, tx l, rfl, rfl, hC.xf, T.e_BadLetter.noF, rfl, s1 _ _ hd, look1 _ _, by show 2 ≤ sizeLine; decide, fun q hq => ?_⟩⟩
      have s2 := s1.trans (ex_new (o := .tup (Tf.vs (.letter l))) hq)
      have hL2 : (upd G1 q (.tup (Tf.vs (.letter l)))) L = some (.lst []) := by rw [upd_ne (ne_some hq hL1)]; exact hL1
      have s3 : Same H (upd (upd G1 q (.tup (Tf.vs (.letter l)))) L (.lst ([] ++ [.ref q]))) := ex_mut s2 hL
      have hq3 : (upd (upd G1 q (.tup (Tf.vs (.letter l)))) L (.lst ([] ++ [.ref q]))) q = some (.tup (Tf.vs (.letter l))) := by rw [upd_ne (Ne.symm (ne_some hq hL1))]; exact upd_same
      have hL3 : (upd (upd G1 q (.tup (Tf.vs (.letter l)))) L (.lst ([] ++ [.ref q]))) L = some (.lst [.ref q]) := upd_same
      have hq0 := free_same s1 hq
      refine ⟨L, _, _, rfl, rfl, hL2, by show 0 < sizeLine; decide, ?_⟩
      refine ⟨_, rfl, _, _, _, _, rfl, hC, xd s3, rfl, fun _ r => r, kk 6 (by decide), _, rfl, iteF ?_⟩
      refine ⟨_, rfl, _, _, _, _, rfl, hC, xd s3, rfl, fun _ r => r, kk 7 (by decide), _, rfl, iteF ?_⟩
      refine ⟨_, rfl, _, _, _, _, rfl, hC, xd s3, rfl, fun _ r => r, kk 8 (by decide), _, rfl, iteF ?_⟩
      refine ⟨_, rfl, _, _, _, _, rfl, hC, xd s3, rfl, fun _ r => r, kv, _, rfl, iteF ?_⟩
      exact ⟨_, rfl, z _ q L s3 hq0 hL hq3 hL3⟩
    | glyph l =>
      refine ⟨_, rfl, _, _, _, _, rfl, hC, xd s1, rfl, fun _ r => r, kk 4 (by decide), _, rfl, iteF ?_⟩
      refine ⟨_, rfl, _, _, _, _, rfl, hC, xd s1, rfl, fun _ r => r, kk 3 (by decide), _, rfl, iteF ?_⟩
      refine ⟨_, rfl, _, _, _, _, rfl, hC, xd s1, rfl, fun _ r => r, kk 5 (by decide), _, rfl, iteF ?_⟩
      refine ⟨_, rfl, _, _, _, _, rfl, hC, xd s1, rfl, fun _ r => r, kk 6 (by decide), _, rfl, iteT ⟨_, rfl, .inl ⟨rfl, _, seqL_of hL1⟩, _, rfl, _, dd, _, tx l, rfl, rfl, hC.xf, T.e_BadGlyph.noF, rfl, s1 _ _ hd, look1 _ _, by show 2 ≤ sizeLine; decide, fun q hq => ?_⟩⟩
      have s2 := s1.trans (ex_new (o := .tup (Tf.vs (.glyph l))) hq)
      have hL2 : (upd G1 q (.tup (Tf.vs (.glyph l)))) L = some (.lst []) := by rw [upd_ne (ne_some hq hL1)]; exact hL1
      have s3 : Same H (upd (upd G1 q (.tup (Tf.vs (.glyph l)))) L (.lst ([] ++ [.ref q]))) := ex_mut s2 hL
      have hq3 : (upd (upd G1 q (.tup (Tf.vs (.glyph l)))) L (.lst ([] ++ [.ref q]))) q = some (.tup (Tf.vs (.glyph l))) := by rw [upd_ne (Ne.symm (ne_some hq hL1))]; exact upd_same
      have hL3 : (upd (upd G1 q (.tup (Tf.vs (.glyph l)))) L (.lst ([] ++ [.ref q]))) L = some (.lst [.ref q]) := upd_same
      have hq0 := free_same s1 hq
      refine ⟨L, _, _, rfl, rfl, hL2, by show 0 < sizeLine; decide, ?_⟩
      refine ⟨_, rfl, _, _, _, _, rfl, hC, xd s3, rfl, fun _ r => r, kk 7 (by decide), _, rfl, iteF ?_⟩
      refine ⟨_, rfl, _, _, _, _, rfl, hC, xd s3, rfl, fun _ r => r, kk 8 (by decide), _, rfl, iteF ?_⟩
      refine ⟨_, rfl, _, _, _, _, rfl, hC, xd s3, rfl, fun _ r => r, kv, _, rfl, iteF ?_⟩
      exact ⟨_, rfl, z _ q L s3 hq0 hL hq3 hL3⟩
    | dup l =>
      refine ⟨_, rfl, _, _, _, _, rfl, hC, xd s1, rfl, fun _ r => r, kk 4 (by decide), _, rfl, iteF ?_⟩
      refine ⟨_, rfl, _, _, _, _, rfl, hC, xd s1, rfl, fun _ r => r, kk 3 (by decide), _, rfl, iteF ?_⟩
      refine ⟨_, rfl, _, _, _, _, rfl, hC, xd s1, rfl, fun _ r => r, kk 5 (by decide), _, rfl, iteF ?_⟩
      refine ⟨_, rfl, _, _, _, _, rfl, hC, xd s1, rfl, fun _ r => r, kk 6 (by decide), _, rfl, iteF ?_⟩
      refine ⟨_, rfl, _, _, _, _, rfl, hC, xd s1, rfl, fun _ r => r, kk 7 (by decide), _, rfl, iteT ⟨_, rfl, .inl ⟨rfl, _, seqL_of hL1⟩, _, rfl, _, dd, _, tx l, rfl, rfl, hC.xf, T.e_DuplicateLetter.noF, rfl, s1 _ _ hd, look1 _ _, by show 2 ≤ sizeLine; decide, fun q hq => ?_⟩⟩
      have s2 := s1.trans (ex_new (o := .tup (Tf.vs (.dup l))) hq)
      have hL2 : (upd G1 q (.tup (Tf.vs (.dup l)))) L = some (.lst []) := by rw [upd_ne (ne_some hq hL1)]; exact hL1
      have s3 : Same H (upd (upd G1 q (.tup (Tf.vs (.dup l)))) L (.lst ([] ++ [.ref q]))) := ex_mut s2 hL
      have hq3 : (upd (upd G1 q (.tup (Tf.vs (.dup l)))) L (.lst ([] ++ [.ref q]))) q = some (.tup (Tf.vs (.dup l))) := by rw [upd_ne (Ne.symm (ne_some hq hL1))]; exact upd_same
      have hL3 : (upd (upd G1 q (.tup (Tf.vs (.dup l)))) L (.lst ([] ++ [.ref q]))) L = some (.lst [.ref q]) := upd_same
      have hq0 := free_same s1 hq
      refine ⟨L, _, _, rfl, rfl, hL2, by show 0 < sizeLine; decide, ?_⟩
      refine ⟨_, rfl, _, _, _, _, rfl, hC, xd s3, rfl, fun _ r => r, kk 8 (by decide), _, rfl, iteF ?_⟩
      refine ⟨_, rfl, _, _, _, _, rfl, hC, xd s3, rfl, fun _ r => r, kv, _, rfl, iteF ?_⟩
      exact ⟨_, rfl, z _ q L s3 hq0 hL hq3 hL3⟩
    | unk l k =>
      refine ⟨_, rfl, _, _, _, _, rfl, hC, xd s1, rfl, fun _ r => r, kk 4 (by decide), _, rfl, iteF ?_⟩
      refine ⟨_, rfl, _, _, _, _, rfl, hC, xd s1, rfl, fun _ r => r, kk 3 (by decide), _, rfl, iteF ?_⟩
      refine ⟨_, rfl, _, _, _, _, rfl, hC, xd s1, rfl, fun _ r => r, kk 5 (by decide), _, rfl, iteF ?_⟩
      refine ⟨_, rfl, _, _, _, _, rfl, hC, xd s1, rfl, fun _ r => r, kk 6 (by decide), _, rfl, iteF ?_⟩
      refine ⟨_, rfl, _, _, _, _, rfl, hC, xd s1, rfl, fun _ r => r, kk 7 (by decide), _, rfl, iteF ?_⟩
      refine ⟨_, rfl, _, _, _, _, rfl, hC, xd s1, rfl, fun _ r => r, kk 8 (by decide), _, rfl, iteT ⟨_, rfl, .inl ⟨rfl, _, seqL_of hL1⟩, _, rfl, _, dd, _, tx l, rfl, rfl, hC.xf, T.e_UnknownLetter.noF, rfl, s1 _ _ hd, by kernel_rfl, _, rfl, _, dd, _, V.int (k : Nat), rfl, rfl, hC.xf, T.e_UnknownLetter.noG, rfl, s1 _ _ hd, by kernel_rfl, _, rfl, Nat.lt_of_le_of_lt (Nat.log2_le_self _) (Nat.lt_of_le_of_lt ok (by decide)), by show 3 ≤ sizeLine; decide, fun q hq => ?_⟩⟩
      have s2 := s1.trans (ex_new (o := .tup (Tf.vs (.unk l k))) hq)
      have hL2 : (upd G1 q (.tup (Tf.vs (.unk l k)))) L = some (.lst []) := by rw [upd_ne (ne_some hq hL1)]; exact hL1
      have s3 : Same H (upd (upd G1 q (.tup (Tf.vs (.unk l k)))) L (.lst ([] ++ [.ref q]))) := ex_mut s2 hL
      have hq3 : (upd (upd G1 q (.tup (Tf.vs (.unk l k)))) L (.lst ([] ++ [.ref q]))) q = some (.tup (Tf.vs (.unk l k))) := by rw [upd_ne (Ne.symm (ne_some hq hL1))]; exact upd_same
      have hL3 : (upd (upd G1 q (.tup (Tf.vs (.unk l k)))) L (.lst ([] ++ [.ref q]))) L = some (.lst [.ref q]) := upd_same
      have hq0 := free_same s1 hq
      refine ⟨L, _, _, rfl, rfl, hL2, by show 0 < sizeLine; decide, ?_⟩
      refine ⟨_, rfl, _, _, _, _, rfl, hC, xd s3, rfl, fun _ r => r, kv, _, rfl, iteF ?_⟩
      exact ⟨_, rfl, z _ q L s3 hq0 hL hq3 hL3⟩
end
end K32

end
section
set_option Elab.async false
set_option linter.all false
set_option maxRecDepth 100000
set_option maxHeartbeats 4000000
namespace K32
open PySem PySem.Spec PyProof.Rows L2 Kit
/-- a font stands when the purse is changed -/
structure FontP (a : Ad) (p g : Addr) (H : Hp) (y s : Addr) (r c n : Nat) (gap : List Nat) (ps : List Pr) : Prop where
  fa : FontAt a H y s r c n gap ps
  aw : ∀ dx gq td, H y = some (.ins a.Font dx (ff s gap gq td)) → Ap p g gq
theorem FontP.mono {a : Ad} {p g : Addr} {H G : Hp} {y s : Addr} {r c n : Nat} {gap : List Nat} {ps : List Pr} (h : FontP a p g H y s r c n gap ps) (e : Same H G) : FontP a p g G y s r c n gap ps := by
  refine ⟨h.fa.mono e, fun dx gq td hy => ?_⟩
  obtain ⟨dx', gq', td', ws, h1, _⟩ := h.fa.ob
  rw [e _ _ h1] at hy
  exact h.aw dx gq td (h1.trans hy)
theorem FontP.pg {a : Ad} {k m : Nat} {p g : Addr} {H G : Hp} {y s : Addr} {r c n : Nat} {gap : List Nat} {ps : List Pr} (h : FontP a p g H y s r c n gap ps) (hp : PurseAt k H p g) (e : Pg m p g H G) : FontP a p g G y s r c n gap ps := by
  obtain ⟨dx', gq', td', ws, h1, h2, h3, h4⟩ := h.fa.ob
  have g1 := e.at (ap_ins hp h1) h1
  refine ⟨⟨h.fa.sch.pg hp e, ⟨dx', gq', td', ws, g1, e.at (h.aw _ _ _ h1) h2, h3.pg hp e, e.at (ap_dk hp h4) h4⟩, h.fa.gap, h.fa.len, h.fa.ok⟩, fun dx gq td hy => ?_⟩
  rw [g1] at hy
  exact h.aw dx gq td (h1.trans hy)
theorem font_p {a : Ad} {k : Nat} {p g : Addr} {H G : Hp} {y s : Addr} {r c n : Nat} {gap : List Nat} {ps : List Pr} (hp : PurseAt k H p g) (e : Same H G) (hy : H y = none) (fa : FontAt a G y s r c n gap ps) (fr : FontFr a H G y s r c n gap ps) : FontP a p g G y s r c n gap ps := by
  obtain ⟨ns, sd, cc, h1, h2, _⟩ := hp
  have off : ∀ b xs, H b = some (.lst xs) → ∀ dx gq td, G y = some (.ins a.Font dx (ff s gap gq td)) → gq ≠ b := fun b xs hb dx gq td h q => by
    subst q
    obtain ⟨dx1, gq1, td1, ws1, f1, f2, f3, _⟩ := (fr gq xs [.int 0] hb).ob
    have nby : y ≠ gq := fun q => by rw [← q, hy] at hb; cases hb
    rw [upd_ne nby, h] at f1
    have e1 := congrArg (fun z => match z with | some (HO.ins _ _ fs) => fs.lookup ("glyphs" : Str) | _ => none) f1
    have e1 : (ff s gap gq td).lookup ("glyphs" : Str) = (ff s gap gq1 td1).lookup ("glyphs" : Str) := e1
    rw [ff_glyphs, ff_glyphs] at e1
    obtain rfl : gq = gq1 := V.ref.inj (Option.some.inj e1)
    rw [upd_same] at f2
    obtain rfl : [V.int 0] = ws1 := HO.lst.inj (Option.some.inj f2)
    have l1 := f3.1
    obtain ⟨u, g1, _⟩ := f3.2 0 _ (List.getElem?_eq_getElem (by rw [← l1]; decide))
    cases g1
  exact ⟨fa, fun dx gq td h => ⟨off p _ h1 dx gq td h, off g _ h2 dx gq td h⟩⟩
theorem put_same {G : Hp} {X v : Addr} {xs ys : List V} {o : HO} (hv : G v = none) (nXv : X ≠ v) : Same (upd G X (.lst ys)) (upd (upd (upd G X (.lst xs)) v o) X (.lst ys)) := fun b o' h => by
  by_cases q : b = X
  · rw [q, upd_same] at h ⊢
    exact h
  · rw [upd_ne q] at h ⊢
    rw [upd_ne (fun e => by rw [e, hv] at h; cases h), upd_ne q]
    exact h
def RaT (E : XK) (a : Ad) (H : Hp) (t : Tf) : Prop := ∀ d M, Same H M → M d = some (.xd t.fs) → E (.ref (eAd a t.ix)) (some d) M
theorem fe_ra {E : XK} {a : Ad} {H : Hp} {f : Fe} (h : RaT E a H f.tf) : f.Ra E a H := by
  cases f with
  | letter l => exact h
  | glyph l => exact h
  | dup l => exact h
def dueR (n : Nat) (l : List Nat) : Option Tf := match parseL l with
  | none => some .text
  | some q => dueF n q.1 q.2
theorem due_ok {n : Nat} {gap : List Nat} {ps : List Pr} {t : Tf} (h : dueF n gap ps = some t) : t.ok := by
  unfold dueF at h
  split at h
  · obtain rfl := Option.some.inj h
    trivial
  · split at h
    · obtain rfl := Option.some.inj h
      trivial
    · cases e : faultF n ps [] with
      | none => rw [e] at h; cases h
      | some f =>
        rw [e] at h
        obtain rfl := Option.some.inj h
        cases f <;> trivial
theorem dueR_ok {n : Nat} {l : List Nat} {t : Tf} (h : dueR n l = some t) : t.ok := by
  unfold dueR at h
  split at h
  · obtain rfl := Option.some.inj h
    trivial
  · exact due_ok h
theorem rinitT {a : Ad} {H : Hp} {y dx s q : Addr} {r c n : Nat} {gap : List Nat} {ws : List V} {ps : List Pr} {Q : VK} {E : XK} (hy : H y = none) (hdx : H dx = none) (hne : dx ≠ y) (sch : SchemeAt a.Scheme H s r c n) (hq : H q = some (.lst ws)) (hcl : PairsL H ws ps) (lg : gap.length ≤ 1000) (small : smallP ps) (hlen : ps.length ≤ 600)
    (err : ∀ t, dueF n gap ps = some t → RaT E a H t) (z : dueF n gap ps = none → ∀ G, Same H G → FontAt a G y s r c n gap ps → FontFr a H G y s r c n gap ps → Q .non G) : spFInit a [.ref y, .ref s, tx gap, .ref q] (upd (upd H dx (.own y)) y (.ins a.Font dx [])) Q E := by
  have n1 : gapOk n gap = true → ¬ gapOk n gap = false := fun h k => by rw [h] at k; cases k
  refine rinitF hy hdx hne sch hq hcl lg small hlen (fun h => err .gap (by unfold dueF; rw [if_pos h])) (fun h k => err .many (by unfold dueF; rw [if_neg (n1 h), if_pos k])) (fun h k f e => fe_ra (err f.tf (by unfold dueF; rw [if_neg (n1 h), if_neg (by omega), e]; rfl))) (fun h k e G sm fa fr => z (by unfold dueF; rw [if_neg (n1 h), if_neg (by omega), e]; rfl) G sm fa fr)
theorem rreadT {a : Ad} {H : Hp} {s : Addr} {r c n : Nat} {l : List Nat} {Q : VK} {E : XK} (sch : SchemeAt a.Scheme H s r c n) (hl : l.length ≤ 500) (err : ∀ t, dueR n l = some t → RaT E a H t)
    (z : dueR n l = none → ∀ gap ps, parseL l = some (gap, ps) → ∀ G y, Same H G → H y = none → FontAt a G y s r c n gap ps → FontFr a H G y s r c n gap ps → Q (.ref y) G) : spFRead a [.ref a.Font, .ref s, tx l] H Q E := by
  have n1 : ∀ gap, gapOk n gap = true → ¬ gapOk n gap = false := fun _ h k => by rw [h] at k; cases k
  refine ⟨s, r, c, n, l, rfl, sch, hl, fun e => err .text (by unfold dueR; rw [e]), fun gap ps e => ?_⟩
  have ed : dueR n l = dueF n gap ps := by unfold dueR; rw [e]
  rw [ed] at err z
  exact ⟨(fun h => err .gap (by unfold dueF; rw [if_pos h])), (fun h k => err .many (by unfold dueF; rw [if_neg (n1 _ h), if_pos k])), (fun h k f e => fe_ra (err f.tf (by unfold dueF; rw [if_neg (n1 _ h), if_neg (by omega), e]; rfl))), (fun h k e2 G y sm hy fa fr => z (by unfold dueF; rw [if_neg (n1 _ h), if_neg (by omega), e2]; rfl) gap ps e G y sm hy fa fr)⟩
/-- a refusal that was told -/
def ToldAt (G : Hp) (u : Addr) (t : Tf) : Prop := ∃ L q, G u = some (.tup [.non, .ref L]) ∧ G L = some (.lst [.ref q]) ∧ G q = some (.tup t.vs)
def DoneAt (G : Hp) (u : Addr) (v : V) : Prop := ∃ L, G u = some (.tup [v, .ref L]) ∧ G L = some (.lst [])
section
variable {P : Program} {w : World} {K : PySem.W.Frag} {mg : Str → Option Value} {base : Heap} {a : Ad}
def spRdL (a : Ad) : Sp := fun vs H Q _ => ∃ (s : Addr) (r c n : Nat) (l : List Nat), vs = [.ref s, tx l] ∧ SchemeAt a.Scheme H s r c n ∧ l.length ≤ 500 ∧ (∀ t, dueR n l = some t → ∀ G u, Same H G → H u = none → ToldAt G u t → Q (.ref u) G) ∧
  (dueR n l = none → ∀ gap ps, parseL l = some (gap, ps) → ∀ G y u, Same H G → H u = none → (∀ k p g, PurseAt k H p g → FontP a p g G y s r c n gap ps) → FontAt a G y s r c n gap ps → DoneAt G u (.ref y) → Q (.ref u) G)
theorem c_law_read (T : Txt K mg a) : Can P w K mg base 8 "_law_read" (spRdL a) := by
  refine can_of T.d_law_read sc_law_read bd_law_read (fun vs H Q E h => ?_) (fun f cdv A outer s0 H vs Q E hr h => ?_)
  · obtain ⟨s, r, c, n, l, rfl, _⟩ := h
    rfl
  · obtain ⟨s, r, c, n, l, rfl, sch, hl, z0, z1⟩ := h
    refine ⟨_, (pss_one (ps_try_as (i := 2) (tb := _) rfl rfl sc_law_read.nd rfl rfl ⟨rfl, by decide, .inl T.g_GalloonError⟩ takes0 (fun W pn xe tk po => (pss_one (ps_ret (pe_tup (pa_cons (pc_cmS (c_Font_read T) tk hr (by decide) (pe_glob (v := .ref a.Font) (by rfl) T.c_Font.gC rfl) (pa_cons (pv 0) (pa_cons (pv 1) pa_nil))) (pa_cons (pe_lst pa_nil) pa_nil)))))) (fun ae oe cls d pn hz hf => (pss_one (ps_ret (pe_tup (pa_cons pe_non (pa_cons (pc_E (c_law_told T) hz hf hr (by decide) (by rfl) (pa_cons (pv 2) pa_nil)) pa_nil)))))))), ?_⟩
    refine ⟨rfl, _, rfl, _, rfl, ?_⟩
    unfold tNil
    dsimp only
    refine rreadT sch hl (fun t ht d M sm hd => ?_) (fun hn gap ps e G y sm hy fa fr => ?_)
    · refine ⟨true, T.xm_e t.ix t.ix_lt, fun _ xx hx => ⟨_, rfl, t, d, rfl, dueR_ok ht, rfl, rfl, hd, fun G9 q9 L9 s9 hq hL gq gL => ⟨by show 2 ≤ sizeLine; decide, fun u hu => ?_⟩⟩, nofun⟩
      have x1 := ex_new (o := .tup [.non, .ref L9]) hu
      exact z0 t ht _ u ((sm.trans s9).trans x1) (free_same (sm.trans s9) hu) ⟨L9, q9, upd_same, x1 _ _ gL, x1 _ _ gq⟩
    · refine ⟨by decide, fun L hL => ⟨by show 2 ≤ sizeLine; decide, fun u hu => ?_⟩⟩
      have x0 := ex_new (o := .lst []) hL
      have x1 := ex_new (o := .tup [.ref y, .ref L]) hu
      have s2 := (sm.trans x0)
      exact z1 hn gap ps e _ y u (s2.trans x1) (free_same s2 hu) (fun k p g hp => (font_p hp sm hy fa fr).mono (x0.trans x1)) (fa.mono (x0.trans x1)) ⟨L, upd_same, x1 _ _ upd_same⟩
def spMade (a : Ad) : Sp := fun vs H Q _ => ∃ (s q : Addr) (r c n : Nat) (gap : List Nat) (ws : List V) (ps : List Pr), vs = [.ref s, tx gap, .ref q] ∧ SchemeAt a.Scheme H s r c n ∧ H q = some (.lst ws) ∧ PairsL H ws ps ∧ gap.length ≤ 1000 ∧ smallP ps ∧ ps.length ≤ 600 ∧
  (∀ t, dueF n gap ps = some t → ∀ G u, Same H G → H u = none → ToldAt G u t → Q (.ref u) G) ∧
  (dueF n gap ps = none → ∀ G y u, Same H G → H u = none → (∀ k p g, PurseAt k H p g → FontP a p g G y s r c n gap ps) → FontAt a G y s r c n gap ps → DoneAt G u (.ref y) → Q (.ref u) G)
theorem c_law_made (T : Txt K mg a) : Can P w K mg base 7 "_law_made" (spMade a) := by
  refine can_of T.d_law_made sc_law_made bd_law_made (fun vs H Q E h => ?_) (fun f cdv A outer s0 H vs Q E hr h => ?_)
  · obtain ⟨s, q, r, c, n, gap, ws, ps, rfl, _⟩ := h
    rfl
  · obtain ⟨s, q, r, c, n, gap, ws, ps, rfl, sch, hq, hcl, lg, small, hlen, z0, z1⟩ := h
    refine ⟨_, (pss_cons (ps_set (i := 3) sc_law_made.nd rfl (.inl rfl) (pe_callTy (klist_of K) (by rfl) T.b_list (by decide +kernel) (pa_cons (pv 2) pa_nil)))
      (pss_cons (ps_try_as (i := 5) (tb := _) rfl rfl sc_law_made.nd rfl rfl ⟨rfl, by decide, .inl T.g_GalloonError⟩ takes0 (fun W pn xe tk po => (pss_one (ps_set (i := 4) sc_law_made.nd rfl (.inl rfl) (pc_nS (c_Font_init T) tk hr (by decide) (by rfl) (pa_cons (pv 0) (pa_cons (pv 1) (pa_cons (pv 3) pa_nil))))))) (fun ae oe cls d pn hz hf => (pss_one (ps_ret (pe_tup (pa_cons pe_non (pa_cons (pc_E (c_law_told T) hz hf hr (by decide) (by rfl) (pa_cons (pv 5) pa_nil)) pa_nil)))))))
      (pss_cons (ps_expr (pe_bm0 PySem.F.plainAttrs_list PySem.F.slot_list_clear PySem.F.type_list_clear mt_clear (pv 3)))
      (pss_cons (ps_expr (pe_bm PySem.F.plainAttrs_list PySem.F.slot_list_append PySem.F.type_list_append mt_append (pv 3) (pa_cons (pe_tup (pa_cons pe_str (pa_cons pe_str pa_nil))) pa_nil)))
      (pss_one (ps_ret (pe_tup (pa_cons (pv 4) (pa_cons (pe_lst pa_nil) pa_nil))))))))), ?_⟩
    have lw : ws.length = ps.length := hcl.1
    refine ⟨_, rfl, ⟨q, ws, rfl, .inl (seqL_of hq), fun X hX => ?_⟩⟩
    have sX := ex_new (o := .lst ws) hX
    have hX1 : (upd H X (.lst ws)) X = some (.lst ws) := upd_same
    generalize upd H X (.lst ws) = H1 at sX hX1 ⊢
    refine ⟨_, rfl, _, rfl, _, rfl, fun y dy hy hdy hne => ?_⟩
    refine rinitT hy hdy hne (sch.mono sX) hX1 (hcl.mono sX) lg small hlen (fun t ht d M sm hd => ?_) (fun hn G sm fa fr => ?_)
    · have s1 := sX.trans sm
      refine ⟨true, T.xm_e t.ix t.ix_lt, fun _ xx hx => ⟨_, rfl, t, d, rfl, due_ok ht, rfl, rfl, hd, fun G9 q9 L9 s9 hq hL gq gL => ⟨by show 2 ≤ sizeLine; decide, fun u hu => ?_⟩⟩, nofun⟩
      have x1 := ex_new (o := .tup [.non, .ref L9]) hu
      exact z0 t ht _ u ((s1.trans s9).trans x1) (free_same (s1.trans s9) hu) ⟨L9, q9, upd_same, x1 _ _ gL, x1 _ _ gq⟩
    · have s1 := sX.trans sm
      have hXG := sm _ _ hX1
      have nXy : y ≠ X := fun q => by rw [← q, hy] at hX1; cases hX1
      refine ⟨rfl, _, rfl, .inl ⟨rfl, _, seqL_of hXG⟩, X, _, rfl, rfl, hXG, _, rfl, .inl ⟨rfl, _, seqL_of upd_same⟩, by show 2 ≤ sizeLine; decide, fun v hv => ?_⟩
      have nXv : X ≠ v := ne_some hv upd_same
      have hv0 : G v = none := by rw [upd_ne (Ne.symm nXv)] at hv; exact hv
      refine ⟨X, _, _, rfl, rfl, by rw [upd_ne nXv]; exact upd_same, by show 0 < sizeLine; decide, _, rfl, by decide, fun L hL => ⟨by show 2 ≤ sizeLine; decide, fun u hu => ?_⟩⟩
      have f1 := (fr X ws [.ref v] hX1).mono (put_same (xs := []) (o := .tup [.str (Str.ofString "Q"), .str (Str.ofString "a")]) hv0 nXv)
      have s2 : Same H (upd (upd (upd G X (.lst [])) v (.tup [.str (Str.ofString "Q"), .str (Str.ofString "a")])) X (.lst [.ref v])) := ex_mut ((ex_mut s1 hX).trans (ex_new hv)) hX
      have x0 := ex_new (o := .lst []) hL
      have x1 := ex_new (o := .tup [.ref y, .ref L]) hu
      have s3 := s2.trans x0
      have f2 := f1.mono (x0.trans x1)
      refine z1 hn _ y u (s3.trans x1) (free_same s3 hu) (fun k p g hp => ⟨f2, fun dx gq td h => ?_⟩) f2 ⟨L, upd_same, x1 _ _ upd_same⟩
      have fp := font_p hp s1 (free_same sX hy) fa (fr.same sX)
      obtain ⟨dx', gq', td', ws', h1, _⟩ := fa.ob
      have nyv : y ≠ v := fun q => by rw [q, hv0] at h1; cases h1
      have e1 := (x0.trans x1) y _ ((upd_ne nXy).trans ((upd_ne nyv).trans ((upd_ne nXy).trans h1)))
      exact fp.aw dx gq td (h1.trans (e1.symm.trans h))
def spGlyph (a : Ad) : Sp := fun vs H Q _ => ∃ (y s : Addr) (r c n : Nat) (gap : List Nat) (ps : List Pr) (l : List Nat), vs = [.ref y, tx l] ∧ FontAt a H y s r c n gap ps ∧
  (l ∈ lets ps → ∀ G u, Same H G → H u = none → DoneAt G u (tx (gly ps l)) → Q (.ref u) G) ∧ (l ∉ lets ps → ∀ G u, Same H G → H u = none → ToldAt G u (.unk l 0) → Q (.ref u) G)
theorem c_law_glyph (T : Txt K mg a) : Can P w K mg base 5 "_law_glyph" (spGlyph a) := by
  refine can_of T.d_law_glyph sc_law_glyph bd_law_glyph (fun vs H Q E h => ?_) (fun f cdv A outer s0 H vs Q E hr h => ?_)
  · obtain ⟨y, s, r, c, n, gap, ps, l, rfl, _⟩ := h
    rfl
  · obtain ⟨y, s, r, c, n, gap, ps, l, rfl, fa, z0, z1⟩ := h
    refine ⟨_, (pss_one (ps_try_as (i := 2) (tb := _) rfl rfl sc_law_glyph.nd rfl rfl ⟨rfl, by decide, .inl T.g_GalloonError⟩ takes0 (fun W pn xe tk po => (pss_one (ps_ret (pe_tup (pa_cons (pe_ixO (c_Font_getitem T) tk hr (by decide) (pv 0) (pv 1)) (pa_cons (pe_lst pa_nil) pa_nil)))))) (fun ae oe cls d pn hz hf => (pss_one (ps_ret (pe_tup (pa_cons pe_non (pa_cons (pc_E (c_law_told T) hz hf hr (by decide) (by rfl) (pa_cons (pv 2) pa_nil)) pa_nil)))))))), ?_⟩
    obtain ⟨dx, gq, td, ws, hy, hgq, hcl, hT⟩ := fa.ob
    refine ⟨_, rfl, _, rfl, y, dx, _, rfl, hy, y, s, r, c, n, gap, ps, l, rfl, fa, fun hl => ?_, fun hl d M sm hd => ?_⟩
    · refine ⟨by decide, fun L hL => ⟨by show 2 ≤ sizeLine; decide, fun u hu => ?_⟩⟩
      have x0 := ex_new (o := .lst []) hL
      have x1 := ex_new (o := .tup [tx (gly ps l), .ref L]) hu
      exact z0 hl _ u (x0.trans x1) (free_same x0 hu) ⟨L, upd_same, x1 _ _ upd_same⟩
    · refine ⟨true, T.xm_e 8 (by decide), fun _ xx hx => ⟨_, rfl, .unk l 0, d, rfl, (by show 0 ≤ 1000; decide), rfl, rfl, hd, fun G9 q9 L9 s9 hq hL gq gL => ⟨by show 2 ≤ sizeLine; decide, fun u hu => ?_⟩⟩, nofun⟩
      have x1 := ex_new (o := .tup [.non, .ref L9]) hu
      exact z1 hl _ u ((sm.trans s9).trans x1) (free_same (sm.trans s9) hu) ⟨L9, q9, upd_same, x1 _ _ gL, x1 _ _ gq⟩
def spPrL (a : Ad) : Sp := fun vs H Q _ => ∃ (y s : Addr) (r c n : Nat) (gap : List Nat) (ps : List Pr) (l : List Nat), vs = [.ref y, tx l] ∧ FontAt a H y s r c n gap ps ∧ l.length ≤ 1000 ∧
  ((∀ x ∈ l, [x] ∈ lets ps) → ∀ G u, Same H G → H u = none → DoneAt G u (tx (printF gap ps l)) → Q (.ref u) G) ∧
  ∀ (i x : Nat), l[i]? = some x → [x] ∉ lets ps → (∀ j < i, ∀ y, l[j]? = some y → [y] ∈ lets ps) → ∀ G u, Same H G → H u = none → ToldAt G u (.unk [x] i) → Q (.ref u) G
theorem c_law_print (T : Txt K mg a) : Can P w K mg base 4 "_law_print" (spPrL a) := by
  refine can_of T.d_law_print sc_law_print bd_law_print (fun vs H Q E h => ?_) (fun f cdv A outer s0 H vs Q E hr h => ?_)
  · obtain ⟨y, s, r, c, n, gap, ps, l, rfl, _⟩ := h
    rfl
  · obtain ⟨y, s, r, c, n, gap, ps, l, rfl, fa, hl, z0, z1⟩ := h
    refine ⟨_, (pss_one (ps_try_as (i := 2) (tb := _) rfl rfl sc_law_print.nd rfl rfl ⟨rfl, by decide, .inl T.g_GalloonError⟩ takes0 (fun W pn xe tk po => (pss_one (ps_ret (pe_tup (pa_cons (pc_mS (c_Font_printed T) tk hr (by decide) (pv 0) (pa_cons (pv 1) pa_nil)) (pa_cons (pe_lst pa_nil) pa_nil)))))) (fun ae oe cls d pn hz hf => (pss_one (ps_ret (pe_tup (pa_cons pe_non (pa_cons (pc_E (c_law_told T) hz hf hr (by decide) (by rfl) (pa_cons (pv 2) pa_nil)) pa_nil)))))))), ?_⟩
    obtain ⟨dx, gq, td, ws, hy, hgq, hcl, hT⟩ := fa.ob
    refine ⟨_, rfl, y, dx, _, rfl, hy, by kernel_rfl, _, rfl, y, s, r, c, n, gap, ps, l, rfl, fa, hl, fun hl G sm => ?_, fun i x hx hn hb d M sm hd => ?_⟩
    · refine ⟨by decide, fun L hL => ⟨by show 2 ≤ sizeLine; decide, fun u hu => ?_⟩⟩
      have x0 := ex_new (o := .lst []) hL
      have x1 := ex_new (o := .tup [tx (printF gap ps l), .ref L]) hu
      exact z0 hl _ u ((sm.trans x0).trans x1) (free_same (sm.trans x0) hu) ⟨L, upd_same, x1 _ _ upd_same⟩
    · have hi : i ≤ 1000 := by have := (List.getElem?_eq_some_iff.mp hx).1; omega
      refine ⟨true, T.xm_e 8 (by decide), fun _ xx hxx => ⟨_, rfl, .unk [x] i, d, rfl, hi, rfl, rfl, hd, fun G9 q9 L9 s9 hq hL gq gL => ⟨by show 2 ≤ sizeLine; decide, fun u hu => ?_⟩⟩, nofun⟩
      have x1 := ex_new (o := .tup [.non, .ref L9]) hu
      exact z1 i x hx hn hb _ u ((sm.trans s9).trans x1) (free_same (sm.trans s9) hu) ⟨L9, q9, upd_same, x1 _ _ gL, x1 _ _ gq⟩
end
end K32

end
section
set_option Elab.async false
set_option linter.all false
set_option maxRecDepth 100000
set_option maxHeartbeats 4000000
namespace K32
open PySem PySem.Spec PyProof.Rows L2 Kit
theorem kit_str {K : PySem.W.Frag} : PySem.W.kitOne K (.type "str") (.type "str") = some true := by
  unfold PySem.W.kitOne
  rw [if_pos (by decide +kernel)]
theorem kit_list {K : PySem.W.Frag} : PySem.W.kitOne K (.type "list") (.type "list") = some true := by
  unfold PySem.W.kitOne
  rw [if_pos (by decide +kernel)]
theorem kit_tup {K : PySem.W.Frag} : PySem.W.kitOne K (.type "tuple") (.type "tuple") = some true := by
  unfold PySem.W.kitOne
  rw [if_pos (by decide +kernel)]
theorem PairsL.erase {H : Hp} {ws : List V} {ps : List Pr} (h : PairsL H ws ps) (d : Nat) : PairsL H (ws.eraseIdx d) (ps.eraseIdx d) := by
  refine ⟨by rw [List.length_eraseIdx, List.length_eraseIdx, h.1], fun i k hk => ?_⟩
  rw [List.getElem?_eraseIdx] at hk ⊢
  by_cases c : i < d
  · rw [if_pos c] at hk ⊢
    exact h.2 _ _ hk
  · rw [if_neg c] at hk ⊢
    exact h.2 _ _ hk
theorem erase_perm : ∀ {l : List Pr} {d : Nat} (h : d < l.length), (l[d] :: l.eraseIdx d).Perm l
  | x :: t, 0, _ => .refl _
  | x :: t, d + 1, h => by
    have h : d < t.length := by simpa using h
    show (t[d] :: x :: t.eraseIdx d).Perm (x :: t)
    exact (List.Perm.swap x t[d] _).trans ((erase_perm h).cons x)
theorem gly_of : ∀ {ps : List Pr}, (lets ps).Nodup → ∀ p ∈ ps, gly ps p.1 = p.2
  | q :: ps, nd, p, hp => by
    have nd : (q.1 :: lets ps).Nodup := nd
    have nd := List.nodup_cons.mp nd
    unfold gly
    rw [List.find?_cons]
    rcases List.mem_cons.mp hp with rfl | hm
    · rw [decide_eq_true rfl]
      rfl
    · have hne : ¬ q.1 = p.1 := fun e => nd.1 (by rw [e]; exact List.mem_map.mpr ⟨p, hm, rfl⟩)
      rw [decide_eq_false hne]
      exact gly_of nd.2 p hm
theorem srt_perm {ps qs : List Pr} (h : qs.Perm ps) : srt qs = srt ps := by
  unfold srt
  refine List.filter_congr fun x _ => ?_
  rw [decide_eq_decide]
  exact (h.map _).mem_iff
theorem ord_perm {ps qs : List Pr} (h : qs.Perm ps) (nd : (lets ps).Nodup) : ordF qs = ordF ps := by
  have ndq : (lets qs).Nodup := (h.map _).nodup_iff.mpr nd
  unfold ordF
  rw [srt_perm h]
  refine List.map_congr_left fun x hx => ?_
  obtain ⟨p, hp, e⟩ := List.mem_map.mp (mem_srt.mp hx).2
  have e : p.1 = [x] := e
  rw [← e, gly_of nd p hp, gly_of ndq p (h.mem_iff.mpr hp)]
theorem fault_of {n : Nat} : ∀ {ps : List Pr} {met : List (List Nat)}, (∀ p ∈ ps, isLet p.1 = true ∧ glyphOk n p.2 = true ∧ p.1 ∉ met) → (lets ps).Nodup → faultF n ps met = none
  | [], _, _, _ => rfl
  | p :: ps, met, h, nd => by
    have nd : (p.1 :: lets ps).Nodup := nd
    have nd := List.nodup_cons.mp nd
    obtain ⟨h1, h2, h3⟩ := h p List.mem_cons_self
    unfold faultF
    rw [h1, h2, if_neg (by decide), if_neg (by decide), if_neg h3]
    refine fault_of (fun q hq => ?_) nd.2
    obtain ⟨k1, k2, k3⟩ := h q (List.mem_cons_of_mem _ hq)
    refine ⟨k1, k2, fun m => ?_⟩
    rcases List.mem_append.mp m with m | m
    · exact k3 m
    · rw [List.mem_singleton] at m
      exact nd.1 (by rw [← m]; exact List.mem_map.mpr ⟨q, hq, rfl⟩)
theorem fault_perm {n : Nat} {ps qs : List Pr} (h : qs.Perm ps) (e : faultF n ps [] = none) : faultF n qs [] = none := by
  obtain ⟨h1, h2⟩ := fault_none e
  exact fault_of (fun q hq => h1 q (h.mem_iff.mp hq)) ((h.map _).nodup_iff.mpr h2)
section
variable {P : Program} {w : World} {K : PySem.W.Frag} {mg : Str → Option Value} {base : Heap} {a : Ad}
theorem let_ok {l : List Nat} (h : isLet l = true) : okTx l := by
  obtain ⟨x, rfl, h1, h2⟩ := isLet_of h
  exact ⟨fun y hy => by rw [List.mem_singleton] at hy; omega, by show 1 ≤ 20; decide⟩
theorem strip_ns {n : Nat} {l : List Nat} (n9 : n ≤ 9) (h : isStrip n l = true) : nsF l := by
  rw [← all_cols, List.all_eq_true] at h
  exact fun x hx => ns_cols n n9 x (of_decide_eq_true (h x hx))
theorem gl_ok {n : Nat} {l : List Nat} (n9 : n ≤ 9) (h : glyphOk n l = true) : okTx l := by
  have lg := gl_len h
  unfold glyphOk at h
  rw [Bool.and_eq_true] at h
  exact ⟨strip_ns n9 h.1, by omega⟩
theorem ord_okPs {n : Nat} {ps : List Pr} (n9 : n ≤ 9) (h : faultF n ps [] = none) : okPs (ordF ps) := fun q hq => ⟨let_ok (ord_ok h q hq).1, gl_ok n9 (ord_ok h q hq).2⟩
theorem eqv_pr (p q : Pr) : PyData.eqv (pdP p) (pdP q) = decide (p = q) := by
  have h : (PyData.eqv (pdP p) (pdP q) && true) = decide ([p] = [q]) := eqv_prs [p] [q]
  rw [Bool.and_true] at h
  rw [h, decide_eq_decide]
  exact ⟨fun e => by injection e, fun e => by rw [e]⟩
theorem dp_pr {H : Hp} {b : Addr} {k : Pr} (h : H b = some (.tup [tx k.1, tx k.2])) : Dp K H (.ref b) (pdP k) := .tup (seqT_of h) (.cons (.str _) (.cons (.str _) .nil))
theorem plain_pr (k : Pr) : (pdP k).plain = true := rfl
theorem depth_pr (k : Pr) : (pdP k).depth ≤ 64 := by
  have h := depth_prs [k]
  unfold PyData.depth at h
  simp [PyData.depthAll] at h
  omega
def spShuf (K : PySem.W.Frag) : Sp := fun vs H Q _ => ∃ (p g q : Addr) (m : Nat) (ws : List V) (ps : List Pr), vs = [.ref p, .ref q] ∧ PurseAt (m + 10) H p g ∧ H q = some (.lst ws) ∧ PairsL H ws ps ∧ ps.length ≤ 10 ∧
  ∀ G D ws' ps', Pg m p g H G → H D = none → G D = some (.lst ws') → PairsL G ws' ps' → ps'.Perm ps → Q (.ref D) G
theorem c_law_shuffled (T : Txt K mg a) : Can P w K mg base 2 "_law_shuffled" (spShuf K) := by
  refine can_of T.d_law_shuffled sc_law_shuffled bd_law_shuffled (fun vs H Q E h => ?_) (fun f cdv A outer s0 H vs Q E hr h => ?_)
  · obtain ⟨p, g, q, m, ws, ps, rfl, _⟩ := h
    rfl
  · obtain ⟨p, g, q, m, ws, ps, rfl, hp, hq, hcl, hlen, z⟩ := h
    refine ⟨_, (pss_cons (ps_set (i := 2) sc_law_shuffled.nd rfl (.inr rfl) (pe_callTy (klist_of K) (by rfl) T.b_list (by decide +kernel) (pa_cons (pv 1) pa_nil)))
      (pss_one (ps_ret (pe_lc (own := [("k", 3)]) (g := gName 3) (tt := tYes) (by rfl) sc_law_shuffled.nd (pi_range1 (by rfl) T.b_range (pa_cons (pe_callB (klen_seq K) (by rfl) T.b_len (by decide +kernel) (pa_cons (pv 1) pa_nil)) pa_nil)) (blkOk_by (N := N_law_shuffled) (sc := defScope s_law_shuffled) (by decide +kernel)) (fun _ _ _ _ _ => (pg_name (i := 3) sc_law_shuffled.nd rfl (.inl rfl))) (fun _ _ _ _ _ => pts_nil) (fun _ _ _ _ _ => (pe_bmK K PySem.F.plainAttrs_list PySem.F.slot_list_pop PySem.F.type_list_pop mt_popAt (pv 2) (pa_cons (pc_f (c_law_draw T) hr (by decide) (by rfl) (pa_cons (pv 0) (pa_cons (pe_callB (klen_seq K) (by rfl) T.b_len (by decide +kernel) (pa_cons (pv 2) pa_nil)) pa_nil))) pa_nil))))))), ?_⟩
    refine ⟨_, rfl, q, ws, rfl, .inl (seqL_of hq), fun X hX => ?_⟩
    have sX := ex_new (o := .lst ws) hX
    have hX1 : (upd H X (.lst ws)) X = some (.lst ws) := upd_same
    have aX := ap_new hp hX
    have hq1 := sX _ _ hq
    generalize upd H X (.lst ws) = H1 at sX hX1 hq1 ⊢
    have lw : ws.length = ps.length := hcl.1
    refine ⟨_, rfl, q, _, rfl, .inl (seqL_of hq1), ((ws.length : Nat) : Int), rfl, by omega, by omega, fun D hD => ?_⟩
    have hD0 := free_same sX hD
    have aD := ap_new hp hD0
    have nXD : X ≠ D := ne_some hD hX1
    refine lc_it (walk_range (lo := 0) (n := ((ws.length : Nat) : Int).toNat)) (fun i G => ∃ rs rp as_ ap, Pg (m + (10 - i)) p g H G ∧ G X = some (.lst rs) ∧ PairsL G rs rp ∧ G D = some (.lst as_) ∧ PairsL G as_ ap ∧ (ap ++ rp).Perm ps ∧ ap.length = i) ⟨ws, ps, [], [], (Pg.refl hp).same (sX.trans (ex_new hD)), (by rw [upd_ne nXD]; exact hX1), hcl.mono (sX.trans (ex_new hD)), upd_same, ⟨rfl, nofun⟩, .refl _, rfl⟩ (fun _ _ _ _ => True.intro) ?_ ?_
    · rintro i x G' G hi ⟨rs, rp, as_, ap, pg, hGX, hR, hGD, hA, perm, li⟩ ⟨rfl, ex⟩
      have hi : i < ps.length := by rw [← lw]; simpa using hi
      have lperm := perm.length_eq
      rw [List.length_append, li] at lperm
      have lrs := hR.1
      refine ⟨rfl, ?_⟩
      unfold tYes
      dsimp only
      rw [if_pos rfl]
      refine ⟨_, rfl, .inl ⟨rfl, _, seqL_of hGX⟩, _, rfl, _, rfl, X, _, rfl, .inl (seqL_of hGX), p, g, _, m + (10 - (i + 1)), rfl, pg.pu.le (by omega), by omega, by omega, fun d G2 d0 d1 pg2 => ?_⟩
      obtain ⟨d, rfl⟩ : ∃ d' : Nat, d = (d' : Int) := ⟨d.toNat, by omega⟩
      have hd : d < rp.length := by omega
      have hk : rp[d]? = some rp[d] := List.getElem?_eq_getElem hd
      obtain ⟨b, hb, hcb⟩ := hR.2 d _ hk
      have hX2 := pg2.at aX hGX
      have hD2 := pg2.at aD hGD
      have hR2 := hR.pg pg.pu pg2
      have hA2 := hA.pg pg.pu pg2
      obtain ⟨b', hb', hcb2⟩ := hR2.2 d _ hk
      rw [hb] at hb'
      obtain rfl : b = b' := V.ref.inj (Option.some.inj hb')
      have pgT := pg.trans pg2
      refine ⟨X, rs, _, d, _, rfl, rfl, hX2, by omega, by omega, seqIndex_of (by omega) (by omega), hb, _, by rw [upd_ne (Ne.symm nXD)]; exact hD2, by rw [hA.1, li]; exact szlt (by omega), rs.eraseIdx d, rp.eraseIdx d, as_ ++ [.ref b], ap ++ [rp[d]], (pgT.put hX aX).put hD0 aD, ?_, ?_, upd_same, ?_, ?_, by rw [List.length_append, li]; rfl⟩
      · rw [upd_ne nXD]
        exact upd_same
      · exact ((hR2.erase d).upd hX2).upd (by rw [upd_ne (Ne.symm nXD)]; exact hD2)
      · exact ((hA2.upd hX2).snoc (by rw [upd_ne fun e => by rw [e, hX2] at hcb2; cases hcb2]; exact hcb2)).upd (by rw [upd_ne (Ne.symm nXD)]; exact hD2)
      · rw [List.append_assoc]
        exact ((erase_perm hd).append_left ap).trans perm
    · rintro G ⟨rs, rp, as_, ap, pg, hGX, hR, hGD, hA, perm, li⟩
      have lperm := perm.length_eq
      have li : ap.length = ps.length := by rw [li, ← lw]; simp
      rw [List.length_append] at lperm
      have e0 : rp = [] := List.length_eq_zero_iff.mp (by omega)
      rw [e0, List.append_nil] at perm
      exact z G D as_ ap (pg.le (by omega)) hD0 hGD hA perm
def spFields (a : Ad) : Sp := fun vs H Q _ => ∃ (y s q : Addr) (r c n : Nat) (gap : List Nat) (ps : List Pr) (ws : List V), vs = [.ref y, .ref s, tx gap, .ref q] ∧ FontAt a H y s r c n gap ps ∧ H q = some (.lst ws) ∧ PairsL H ws (ordF ps) ∧ ∀ G, Same H G → Q (.bl true) G
theorem c_law_fields (T : Txt K mg a) : Can P w K mg base 4 "_law_fields" (spFields a) := by
  refine can_of T.d_law_fields sc_law_fields bd_law_fields (fun vs H Q E h => ?_) (fun f cdv A outer s0 H vs Q E hr h => ?_)
  · obtain ⟨y, s, q, r, c, n, gap, ps, ws, rfl, _⟩ := h
    rfl
  · obtain ⟨y, s, q, r, c, n, gap, ps, ws, rfl, fa, hq, hcl, z⟩ := h
    refine ⟨_, (pss_cons (ps_if (PW.pt (pw_or (pt_not (pt_cmpR (eqO K (c_Scheme_eq T) hr (by decide) T.i_ni T.i_ns) (kfld K (pv 0)) (pv 1) (nomark _))) (pw_or (pt_not (pt_val (pe_callB (kisi K) (by rfl) T.b_isinstance (by decide +kernel) (pa_cons (kfld K (pv 0)) (pa_cons (pe_bltn (v := .ty "str") (by rfl) T.b_str (by decide +kernel) rfl) pa_nil))))) (pw_or1 (pt_cmpR op_ne (kfld K (pv 0)) (pv 2) (nomark _)))))) (pss_one (ps_ret pe_bl)) pss_nil)
      (pss_cons (ps_if (PW.pt (pw_or (pt_not (pt_val (pe_callB (kisi K) (by rfl) T.b_isinstance (by decide +kernel) (pa_cons (kfld K (pv 0)) (pa_cons (pe_bltn (v := .ty "list") (by rfl) T.b_list (by decide +kernel) rfl) pa_nil))))) (pw_or1 (pt_cmpR op_ne (pe_callB (klen_seq K) (by rfl) T.b_len (by decide +kernel) (pa_cons (kfld K (pv 0)) pa_nil)) (pe_callB (klen_seq K) (by rfl) T.b_len (by decide +kernel) (pa_cons (pv 3) pa_nil)) (nomark _))))) (pss_one (ps_ret pe_bl)) pss_nil)
      (pss_cons (ps_for (passes_of rfl) (by rfl) (pi_range1 (by rfl) T.b_range (pa_cons (pe_callB (klen_seq K) (by rfl) T.b_len (by decide +kernel) (pa_cons (pv 3) pa_nil)) pa_nil)) (pg_name (i := 4) sc_law_fields.nd rfl (.inl rfl)) (pss_cons (ps_set (i := 5) sc_law_fields.nd rfl (.inl rfl) (pe_ix (kix_list K) (kfld K (pv 0)) (pv 4) (fun _ _ => rfl)))
      (pss_one (ps_if (PW.pt (pw_or (pt_not (pt_val (pe_callB (kisi K) (by rfl) T.b_isinstance (by decide +kernel) (pa_cons (pv 5) (pa_cons (pe_bltn (v := .ty "tuple") (by rfl) T.b_tuple (by decide +kernel) rfl) pa_nil))))) (pw_or1 (pt_cmpR (kneP K hr.units) (pv 5) (pe_ix (kix_list K) (pv 3) (pv 4) (fun _ _ => rfl)) (nomark _))))) (pss_one (ps_ret pe_bl)) pss_nil))))
      (pss_one (ps_ret (pe_and (pe_cmpR op_eq (pe_callB (lenO (c_Font_len T) hr (by decide)) (by rfl) T.b_len (by decide +kernel) (pa_cons (pv 0) pa_nil)) (pe_callB (klen_seq K) (by rfl) T.b_len (by decide +kernel) (pa_cons (pv 3) pa_nil)) (nomark _)) (pe_one (pe_cmpR op_eq (pe_callTy (strO (c_Font_str T) hr (by decide)) (by rfl) T.b_str (by decide +kernel) (pa_cons (pv 0) pa_nil)) (pc_f (c_law_line T) hr (by decide) (by rfl) (pa_cons (pv 2) (pa_cons (pv 3) pa_nil))) (nomark _))))))))), ?_⟩
    obtain ⟨dx, gq, td, vs, hy, hgq, hvs, hT⟩ := fa.ob
    obtain ⟨sx, hs⟩ := fa.sch.1
    refine ⟨_, rfl, y, _, dx, _, _, rfl, hy, T.c_Font.cl, T.y_scheme, ff_scheme s gap gq td, _, rfl, s, sx, _, rfl, hs, .inr (.inr ⟨s, sx, _, rfl, hs⟩), s, r, c, n, .ref s, rfl, fa.sch, .inr (.inr ⟨s, r, c, n, rfl, fa.sch, _, rfl, _, rfl, ?_⟩)⟩
    rw [decide_eq_true rfl, decide_eq_true rfl]
    refine iteF ⟨_, rfl, y, _, dx, _, _, rfl, hy, T.c_Font.cl, T.y_gap, ff_gap s gap gq td, _, _, _, _, true, rfl, .ty _, .base (.str _), kit_str, _, rfl, iteF ?_⟩
    refine ⟨_, rfl, y, _, dx, _, _, rfl, hy, T.c_Font.cl, T.y_gap, ff_gap s gap gq td, _, rfl, rfl, _, rfl, ?_⟩
    refine itN (by rw [decide_eq_true rfl]; decide) ?_
    refine ⟨_, rfl, y, _, dx, _, _, rfl, hy, T.c_Font.cl, T.y_glyphs, ff_glyphs s gap gq td, _, _, _, _, true, rfl, .ty _, .base (.lst hgq), kit_list, _, rfl, iteF ?_⟩
    refine ⟨_, rfl, y, _, dx, _, _, rfl, hy, T.c_Font.cl, T.y_glyphs, ff_glyphs s gap gq td, gq, _, rfl, .inl (seqL_of hgq), _, rfl, q, _, rfl, .inl (seqL_of hq), rfl, _, rfl, ?_⟩
    have lv := hvs.1
    have lw := hcl.1
    have l26 := ord_len ps
    refine itN (by rw [lv, lw, decide_eq_true rfl]; decide) ?_
    refine ⟨_, rfl, q, _, rfl, .inl (seqL_of hq), ((ws.length : Nat) : Int), rfl, by omega, by omega, for_it (walk_range (lo := 0) (n := ((ws.length : Nat) : Int).toNat)) (fun i σ G => Same H G ∧ ∃ u v : Option V, σ = [some (.ref y), some (.ref s), some (tx gap), some (.ref q), u, v]) ⟨.refl _, none, none, rfl⟩ (fun _ _ _ _ _ => True.intro) ?_ ?_⟩
    · rintro i x σ G' G hi ⟨s1, u, v, rfl⟩ ⟨rfl, ex⟩
      obtain rfl : x = .int (i : Nat) := ex.trans (congrArg V.int (Int.zero_add _))
      have hi : i < (ordF ps).length := by rw [← lw]; simpa using hi
      have hk : (ordF ps)[i]? = some (ordF ps)[i] := List.getElem?_eq_getElem hi
      obtain ⟨b, hb, hcb⟩ := hvs.2 i _ hk
      obtain ⟨b2, hb2, hcb2⟩ := hcl.2 i _ hk
      generalize (ordF ps)[i] = k at hk hcb hcb2
      have hy1 := s1 _ _ hy
      refine ⟨_, rfl, y, _, dx, _, _, rfl, hy1, T.c_Font.cl, T.y_glyphs, ff_glyphs s gap gq td, _, rfl, gq, _, _, _, rfl, rfl, seqL_of (s1 _ _ hgq), atI_nat (j := i) hb, ?_⟩
      refine ⟨_, rfl, _, _, _, _, true, rfl, .ty _, .base (.tup (s1 _ _ hcb)), kit_tup, _, rfl, iteF ?_⟩
      refine ⟨_, rfl, _, rfl, _, rfl, q, _, _, _, rfl, rfl, seqL_of (s1 _ _ hq), atI_nat (j := i) hb2, pdP k, pdP k, dp_pr (s1 _ _ hcb), dp_pr (s1 _ _ hcb2), plain_pr _, plain_pr _, depth_pr _, _, rfl, ?_⟩
      rw [eqv_pr, decide_eq_true rfl]
      exact iteF ⟨s1, _, _, rfl⟩
    · rintro σ G ⟨s1, u, v, rfl⟩
      have hy1 := s1 _ _ hy
      refine ⟨_, rfl, y, dx, _, rfl, hy1, y, s, r, c, n, gap, ps, rfl, fa.mono s1, _, rfl, by omega, by omega, _, rfl, q, _, rfl, .inl (seqL_of (s1 _ _ hq)), rfl, ?_⟩
      refine ⟨_, rfl, ?_⟩
      rw [lw, decide_eq_true rfl]
      refine iteT ⟨_, rfl, y, dx, _, rfl, hy1, y, s, r, c, n, gap, ps, rfl, fa.mono s1, fun G2 s2 => ⟨_, rfl, _, rfl, _, rfl, q, gap, ws, ordF ps, rfl, (s1.trans s2) _ _ hq, hcl.mono (s1.trans s2), by have := gap_len fa.gap; omega, ord_okPs (good_n fa.sch.2).1 fa.ok, by omega, fun G3 s3 => ⟨rfl, ?_⟩⟩⟩
      rw [decide_eq_true rfl]
      exact z G3 ((s1.trans s2).trans s3)
end
end K32

end
section
set_option Elab.async false
set_option linter.all false
set_option maxRecDepth 100000
set_option maxHeartbeats 4000000
namespace K32
open PySem PySem.Spec PyProof.Rows L2 Kit
theorem first_at : ∀ {L : List (List Nat)} {l : List Nat}, l ∈ L → ∃ j : Nat, L[j]? = some l ∧ ∀ m, m < j → ∀ z, L[m]? = some z → z ≠ l
  | x :: L, l, h => by
    by_cases e : x = l
    · exact ⟨0, by rw [e]; rfl, nofun⟩
    · rcases List.mem_cons.mp h with q | q
      · exact absurd q.symm e
      · obtain ⟨j, h1, h2⟩ := first_at q
        refine ⟨j + 1, h1, fun m hm z hz => ?_⟩
        cases m with
        | zero => rw [← Option.some.inj hz]; exact e
        | succ m => exact h2 m (by omega) z hz
theorem lets_ord {n : Nat} {ps : List Pr} (h : faultF n ps [] = none) {l : List Nat} : l ∈ lets (ordF ps) ↔ l ∈ lets ps := by
  obtain ⟨h1, h2⟩ := fault_none h
  unfold lets ordF
  rw [List.map_map]
  constructor
  · intro k
    obtain ⟨x, hx, rfl⟩ := List.mem_map.mp k
    exact (mem_srt.mp hx).2
  · intro k
    obtain ⟨p, hp, rfl⟩ := List.mem_map.mp k
    obtain ⟨x, hx, h3, h4⟩ := isLet_of (h1 p hp).1
    exact List.mem_map.mpr ⟨x, mem_srt.mpr ⟨⟨h3, h4⟩, List.mem_map.mpr ⟨p, hp, hx⟩⟩, by show [x] = _; rw [hx]⟩
theorem gly_ord {ps : List Pr} {k : Pr} (h : k ∈ ordF ps) : gly ps k.1 = k.2 := by
  obtain ⟨x, _, rfl⟩ := List.mem_map.mp h
  rfl
def Tf.ss : Tf → List Str
  | .gap => [Str.ofString "BadFont", Str.ofString "gap"]
  | .text => [Str.ofString "BadFont", Str.ofString "text"]
  | .many => [Str.ofString "TooMany", Str.ofString "6"]
  | .letter l => [Str.ofString "BadLetter", S l]
  | .glyph l => [Str.ofString "BadGlyph", S l]
  | .dup l => [Str.ofString "DuplicateLetter", S l]
  | .unk l k => [Str.ofString "UnknownLetter", S l, Str.ofString (toString ((k : Nat) : Int))]
theorem Tf.vs_ss (t : Tf) : t.vs = t.ss.map V.str := by cases t <;> rfl
theorem Tf.ss_len (t : Tf) : t.ss.length ≤ 3 := by
  cases t with
  | gap => show 2 ≤ 3; decide
  | text => show 2 ≤ 3; decide
  | many => show 2 ≤ 3; decide
  | letter l => show 2 ≤ 3; decide
  | glyph l => show 2 ≤ 3; decide
  | dup l => show 2 ≤ 3; decide
  | unk l k => show 3 ≤ 3; decide
theorem dp_strs {K : PySem.W.Frag} {H : Hp} : ∀ ss : List Str, DpAll K H (ss.map V.str) (ss.map PyData.str)
  | [] => .nil
  | s :: ss => .cons (.str s) (dp_strs ss)
theorem eqv_strS (s : Str) : PyData.eqv (.str s) (.str s) = true := by
  obtain ⟨l, rfl⟩ := S_of s
  rw [eqv_txt, decide_eq_true rfl]
theorem eqv_strs : ∀ ss : List Str, PyData.eqv (.tuple (ss.map PyData.str)) (.tuple (ss.map PyData.str)) = true
  | [] => rfl
  | s :: ss => by
    have ih : PyData.eqvAll (ss.map PyData.str) (ss.map PyData.str) = true := eqv_strs ss
    show (PyData.eqv (.str s) (.str s) && PyData.eqvAll (ss.map PyData.str) (ss.map PyData.str)) = true
    rw [eqv_strS, ih]
    rfl
theorem plain_strs : ∀ ss : List Str, (PyData.tuple (ss.map PyData.str)).plain = true
  | [] => rfl
  | s :: ss => by
    have ih : PyData.plainAll (ss.map PyData.str) = true := plain_strs ss
    show ((PyData.str s).plain && PyData.plainAll (ss.map PyData.str)) = true
    rw [ih]
    rfl
theorem depth_strs : ∀ ss : List Str, PyData.depthAll (ss.map PyData.str) ≤ 2
  | [] => by simp [PyData.depthAll]
  | s :: ss => by
    have ih := depth_strs ss
    rw [List.map_cons]
    unfold PyData.depthAll
    have : (PyData.str s).depth ≤ 2 := by simp [PyData.depth]
    omega
def onD (t : Tf) : PyData := .list [.tuple (t.ss.map PyData.str)]
theorem dp_on {K : PySem.W.Frag} {H : Hp} {L q : Addr} {t : Tf} (h : H L = some (.lst [.ref q])) (k : H q = some (.tup t.vs)) : Dp K H (.ref L) (onD t) := .lst (seqL_of h) (.cons (.tup (seqT_of k) (by rw [t.vs_ss]; exact dp_strs _)) .nil)
theorem eqv_on (t : Tf) : PyData.eqv (onD t) (onD t) = true := by
  show (PyData.eqv (.tuple (t.ss.map PyData.str)) (.tuple (t.ss.map PyData.str)) && true) = true
  rw [eqv_strs]
  rfl
theorem plain_on (t : Tf) : (onD t).plain = true := by
  show ((PyData.tuple (t.ss.map PyData.str)).plain && true) = true
  rw [plain_strs]
  rfl
theorem depth_on (t : Tf) : (onD t).depth ≤ 10 := by
  have h := depth_strs t.ss
  unfold onD
  simp [PyData.depth, PyData.depthAll]
  omega
def tdD (t : Tf) : PyData := .tuple [.none, onD t]
theorem dp_told {K : PySem.W.Frag} {H : Hp} {u : Addr} {t : Tf} (h : ToldAt H u t) : Dp K H (.ref u) (tdD t) := by
  obtain ⟨L, q, h1, h2, h3⟩ := h
  exact .tup (seqT_of h1) (.cons .non (.cons (dp_on h2 h3) .nil))
theorem eqv_told (t : Tf) : PyData.eqv (tdD t) (tdD t) = true := by
  show (PyData.eqv .none .none && (PyData.eqv (onD t) (onD t) && true)) = true
  rw [eqv_on]
  rfl
theorem plain_told (t : Tf) : (tdD t).plain = true := by
  show (PyData.none.plain && ((onD t).plain && true)) = true
  rw [plain_on]
  rfl
theorem depth_told (t : Tf) : (tdD t).depth ≤ 64 := by
  have h := depth_on t
  unfold tdD
  simp [PyData.depth, PyData.depthAll]
  omega
def dnD (l : List Nat) : PyData := .tuple [.str (S l), .list []]
theorem dp_done {K : PySem.W.Frag} {H : Hp} {u : Addr} {l : List Nat} (h : DoneAt H u (tx l)) : Dp K H (.ref u) (dnD l) := by
  obtain ⟨L, h1, h2⟩ := h
  exact .tup (seqT_of h1) (.cons (.str _) (.cons (.lst (seqL_of h2) .nil) .nil))
theorem eqv_done (l : List Nat) : PyData.eqv (dnD l) (dnD l) = true := by
  show (PyData.eqv (.str (S l)) (.str (S l)) && (PyData.eqv (.list []) (.list []) && true)) = true
  rw [eqv_strS]
  rfl
theorem plain_done (l : List Nat) : (dnD l).plain = true := rfl
theorem depth_done (l : List Nat) : (dnD l).depth ≤ 64 := by
  unfold dnD
  simp [PyData.depth, PyData.depthAll]
theorem ToldAt.mono {G M : Hp} {u : Addr} {t : Tf} (h : ToldAt G u t) (e : Same G M) : ToldAt M u t := let ⟨L, q, h1, h2, h3⟩ := h; ⟨L, q, e _ _ h1, e _ _ h2, e _ _ h3⟩
theorem DoneAt.mono {G M : Hp} {u : Addr} {v : V} (h : DoneAt G u v) (e : Same G M) : DoneAt M u v := let ⟨L, h1, h2⟩ := h; ⟨L, e _ _ h1, e _ _ h2⟩
section
variable {P : Program} {w : World} {K : PySem.W.Frag} {mg : Str → Option Value} {base : Heap} {a : Ad}
def spMemb (a : Ad) : Sp := fun vs H Q _ => ∃ (y s q : Addr) (r c n : Nat) (gap : List Nat) (ps : List Pr) (ws : List V), vs = [.ref y, .ref q] ∧ FontAt a H y s r c n gap ps ∧ H q = some (.lst ws) ∧ PairsL H ws (ordF ps) ∧ ∀ G, Same H G → Q (.bl true) G
theorem c_law_members (T : Txt K mg a) : Can P w K mg base 8 "_law_members" (spMemb a) := by
  refine can_of T.d_law_members sc_law_members bd_law_members (fun vs H Q E h => ?_) (fun f cdv A outer s0 H vs Q E hr h => ?_)
  · obtain ⟨y, s, q, r, c, n, gap, ps, ws, rfl, _⟩ := h
    rfl
  · obtain ⟨y, s, q, r, c, n, gap, ps, ws, rfl, fa, hq, hcl, z⟩ := h
    refine ⟨_, (pss_cons (ps_setLc (i := 2) (own := [("mark", 3), ("shape", 4)]) (g := (gTup _ 2 (gCons (gName 3) (gCons (gName 4) gNil)))) (tt := tYes) (by rfl) sc_law_members.nd rfl rfl (sw_true rfl rfl rfl (by decide +kernel)) (kpi_list K (pv 1)) (blkOk_by (N := N_law_members) (sc := defScope s_law_members) (by decide +kernel)) (fun _ _ _ _ _ => (pg_tup rfl (pgs_cons (pg_name (i := 3) sc_law_members.nd rfl (.inl rfl)) (pgs_cons (pg_name (i := 4) sc_law_members.nd rfl (.inl rfl)) pgs_nil)))) (fun _ _ _ _ _ => pts_nil) (fun _ _ _ _ _ => (pv 3)))
      (pss_cons (ps_for (passes_of rfl) (by rfl) (kpi_list K (pe_op op_cat (pe_callTy (listS (by rfl)) (by rfl) T.b_list (by decide +kernel) (pa_cons pe_str pa_nil)) (pe_lst (pa_cons pe_str (pa_cons pe_str (pa_cons pe_str (pa_cons pe_str (pa_cons pe_str (pa_cons pe_str (pa_cons pe_str (pa_cons (kjoin K pe_str (pv 2)) pa_nil))))))))))) (pg_name (i := 3) sc_law_members.nd rfl (.inl rfl)) (pss_cons (ps_if (pt_cmpR op_ne (pe_cmpR (inO (c_Font_contains T) hr (by decide)) (pv 3) (pv 0) (by rfl)) (pe_cmpR (kin K) (pv 3) (pv 2) (by rfl)) (nomark _)) (pss_one (ps_ret pe_bl)) pss_nil)
      (pss_cons (ps_set (i := 5) sc_law_members.nd rfl (.inl rfl) (pc_f (c_law_glyph T) hr (by decide) (by rfl) (pa_cons (pv 0) (pa_cons (pv 3) pa_nil))))
      (pss_cons (ps_if (PW.pt (pw_and (pt_cmpR (kin K) (pv 3) (pv 2) (by rfl)) (pw_and1 (pt_cmpR (kneP K hr.units) (pv 5) (pe_tup (pa_cons (pe_ix (kix_tup K) (pe_ix (kix_list K) (pv 1) (pe_bm PySem.F.plainAttrs_list PySem.F.slot_list_index PySem.F.type_list_index mt_index (pv 2) (pa_cons (pv 3) pa_nil)) (fun _ _ => rfl)) pe_int (fun _ _ => rfl)) (pa_cons (pe_lst pa_nil) pa_nil))) (nomark _))))) (pss_one (ps_ret pe_bl)) pss_nil)
      (pss_one (ps_if (PW.pt (pw_and (pt_cmpR (knotin K) (pv 3) (pv 2) (by rfl)) (pw_and1 (pt_cmpR (kneP K hr.units) (pv 5) (pe_tup (pa_cons pe_non (pa_cons (pe_lst (pa_cons (pe_tup (pa_cons pe_str (pa_cons (pv 3) (pa_cons pe_str pa_nil)))) pa_nil)) pa_nil))) (nomark _))))) (pss_one (ps_ret pe_bl)) pss_nil))))))
      (pss_one (ps_ret pe_bl)))), ?_⟩
    obtain ⟨dx, gq, td, vs, hy, hgq, hvs, hT⟩ := fa.ob
    obtain ⟨sx, hs⟩ := fa.sch.1
    have l26 := ord_len ps
    refine ⟨_, rfl, q, rfl, ⟨_, seqL_of hq⟩, fun D hD => ?_⟩
    refine lc_it (vs := [3, 4]) (σ := L2.start N_law_members [V.ref y, V.ref q]) (g := gTup K 2 (gCons (gName 3) (gCons (gName 4) gNil))) (tt := tYes) (te := tVar 3) (walk_list (xs := ws)) (fun i G => Same H G ∧ G D = some (.lst ((((ordF ps).take i).map (·.1)).map tx))) ⟨ex_new hD, upd_same⟩ (fun i G _ h => seqL_of (h.1 _ _ hq)) ?_ ?_
    · rintro i x G0 G hi ⟨s1, hGD⟩ ⟨rfl, hx⟩
      have hi : i < (ordF ps).length := by rw [← hcl.1]; exact hi
      have hk : (ordF ps)[i]? = some (ordF ps)[i] := List.getElem?_eq_getElem hi
      obtain ⟨b, hb, hcb⟩ := hcl.2 i _ hk
      obtain rfl : V.ref b = x := Option.some.inj (hb.symm.trans hx)
      rw [List.take_add_one, hk]
      generalize (ordF ps)[i] = k at hk hcb
      refine ⟨b, _, rfl, seqT_of (s1 _ _ hcb), rfl, _, _, rfl, _, _, rfl, rfl, ?_⟩
      refine ⟨rfl, ?_⟩
      unfold tYes
      dsimp only
      rw [if_pos rfl]
      refine ⟨_, rfl, _, hGD, by rw [List.length_map, List.length_map, List.length_take]; exact szlt (by omega), ex_mut s1 hD, ?_⟩
      rw [upd_same, List.map_append, List.map_append]
      rfl
    rintro G1 ⟨s1, hD1⟩
    rw [List.take_of_length_le (Nat.le_of_eq hcl.1.symm)] at hD1
    have hD1 : G1 D = some (.lst ((lets (ordF ps)).map tx)) := hD1
    have lc : (lets (ordF ps)).length ≤ 26 := by unfold lets; rw [List.length_map]; exact l26
    have hq1 := s1 _ _ hq
    have fa1 := fa.mono s1
    have hcl1 := hcl.mono s1
    have hD0 := free_same (Same.refl H) hD
    have eaz : Str.ofString "ABCDEFGHIJKLMNOPQRSTUVWXYZ" = S ((List.range 26).map (65 + ·)) := by decide +kernel
    refine ⟨(List.range 26).map (65 + ·), by rw [eaz], by decide, fun A hA => ?_⟩
    have sA := ex_new (o := .lst (((List.range 26).map (65 + ·)).map fun x => tx [x])) hA
    have hAA : (upd G1 A (.lst (((List.range 26).map (65 + ·)).map fun x => tx [x]))) A = some (.lst (((List.range 26).map (65 + ·)).map fun x => tx [x])) := upd_same
    generalize upd G1 A (.lst (((List.range 26).map (65 + ·)).map fun x => tx [x])) = G2 at sA hAA ⊢
    have hD2 := sA _ _ hD1
    have ee0 : Str.ofString "" = S [] := by decide +kernel
    have lps : ∀ p ∈ lets (ordF ps), p.length ≤ 1 := fun p hp => by
      obtain ⟨k, hk, rfl⟩ := List.mem_map.mp hp
      exact Nat.le_of_eq (let_len (ord_ok fa.ok k hk).1)
    refine ⟨⟨_, rfl⟩, _, rfl, _, D, (lets (ordF ps)).map S, rfl, rfl, .inl (seqL_of (by rw [List.map_map]; exact hD2)), ?_, ?_⟩
    · have ls := sum_leS lps
      rw [ee0, S_len, List.length_map]
      show _ + _ * 0 ≤ _
      omega
    rw [ee0, join_S]
    have lj : (TL.joinL [] (lets (ordF ps))).length ≤ 26 := by
      have := joinL_len (s := []) lps
      have e : ([] : List Nat).length = 0 := rfl
      rw [e] at this
      omega
    generalize TL.joinL [] (lets (ordF ps)) = jn at lj ⊢
    refine ⟨by show 8 ≤ sizeLine; decide, fun L hL => ?_⟩
    have sL := ex_new (o := .lst [.str (S []), .str (Str.ofString "a"), .str (Str.ofString "AB"), .str (Str.ofString "="), .str (Str.ofString "["), .str (Str.ofString "@"), .str (Str.ofString " "), .str (S jn)]) hL
    refine ⟨A, L, _, _, rfl, rfl, sL _ _ hAA, upd_same, ?_, fun X hX => ⟨X, rfl, ⟨_, seqL_of upd_same⟩, ?_⟩⟩
    · rw [List.length_map, List.length_map, List.length_range]
      show 26 + 8 ≤ sizeLine
      decide
    obtain ⟨ms, hms, lms⟩ : ∃ ms : List (List Nat), (((List.range 26).map (65 + ·)).map fun x => tx [x]) ++ [.str (S []), .str (Str.ofString "a"), .str (Str.ofString "AB"), .str (Str.ofString "="), .str (Str.ofString "["), .str (Str.ofString "@"), .str (Str.ofString " "), .str (S jn)] = ms.map tx ∧ ∀ l ∈ ms, l.length ≤ 26 := by
      refine ⟨((List.range 26).map (65 + ·)).map (fun x => [x]) ++ [[], [97], [65, 66], [61], [91], [64], [32], jn], ?_, fun l hl => ?_⟩
      · have e1 : Str.ofString "a" = S [97] := by decide +kernel
        have e2 : Str.ofString "AB" = S [65, 66] := by decide +kernel
        have e3 : Str.ofString "=" = S [61] := by decide +kernel
        have e4 : Str.ofString "[" = S [91] := by decide +kernel
        have e5 : Str.ofString "@" = S [64] := by decide +kernel
        have e6 : Str.ofString " " = S [32] := by decide +kernel
        rw [e1, e2, e3, e4, e5, e6, List.map_append, List.map_map]
        rfl
      · rcases List.mem_append.mp hl with h | h
        · obtain ⟨x, _, rfl⟩ := List.mem_map.mp h
          show 1 ≤ 26
          decide
        · simp only [List.mem_cons, List.not_mem_nil, or_false] at h
          rcases h with rfl | rfl | rfl | rfl | rfl | rfl | rfl | rfl <;> first | exact lj | (show _ ≤ 26; decide)
    rw [hms]
    have sX := (s1.trans sA).trans (sL.trans (ex_new (o := .lst (ms.map tx)) hX))
    have hXX : (upd (upd G2 L (.lst [.str (S []), .str (Str.ofString "a"), .str (Str.ofString "AB"), .str (Str.ofString "="), .str (Str.ofString "["), .str (Str.ofString "@"), .str (Str.ofString " "), .str (S jn)])) X (.lst (ms.map tx))) X = some (.lst (ms.map tx)) := upd_same
    have hD3 := (sL.trans (ex_new (o := .lst (ms.map tx)) hX)) _ _ hD2
    generalize upd (upd G2 L (.lst [.str (S []), .str (Str.ofString "a"), .str (Str.ofString "AB"), .str (Str.ofString "="), .str (Str.ofString "["), .str (Str.ofString "@"), .str (Str.ofString " "), .str (S jn)])) X (.lst (ms.map tx)) = G3 at sX hXX hD3 ⊢
    refine for_it (walk_list (xs := ms.map tx)) (fun i σ G => Same G3 G ∧ ∃ u v t : Option V, σ = [some (.ref y), some (.ref q), some (.ref D), u, v, t]) ⟨.refl _, none, none, none, rfl⟩ (fun i σ G _ h => seqL_of (h.1 _ _ hXX)) ?_ ?_
    · rintro i x σ G' G hi ⟨s2, u, v, t, rfl⟩ ⟨rfl, hx⟩
      have hi : i < ms.length := by rw [List.length_map] at hi; exact hi
      have hk : ms[i]? = some ms[i] := List.getElem?_eq_getElem hi
      rw [List.getElem?_map, hk] at hx
      obtain rfl : tx ms[i] = x := Option.some.inj hx
      have ll := lms _ (List.getElem_mem hi)
      generalize ms[i] = l at ll hk
      clear hk
      have sG := sX.trans s2
      have hDG := s2 _ _ hD3
      have hdec : decide (l ∈ lets (ordF ps)) = decide (l ∈ lets ps) := by rw [decide_eq_decide]; exact lets_ord fa.ok
      have fl := flat_txs (lets (ordF ps))
      refine ⟨_, rfl, _, rfl, y, dx, _, rfl, sG _ _ hy, y, s, r, c, n, gap, ps, l, rfl, fa.mono sG, _, rfl, _, rfl, _, rfl, D, _, rfl, .inl (seqL_of hDG), rfl, fl, rfl, _, rfl, ?_⟩
      refine itN (by
        show ¬ (!decide (V.bl (decide (l ∈ lets ps)) = V.bl (inV (tx l) ((lets (ordF ps)).map tx)))) = true
        rw [in_txs, hdec, decide_eq_true rfl]
        decide) ?_
      refine ⟨_, rfl, _, rfl, y, s, r, c, n, gap, ps, l, rfl, fa.mono sG, fun hl M u2 s3 hu2 dn => ?_, fun hl M u2 s3 hu2 tl => ?_⟩
      · have sM := sG.trans s3
        have hDM := s3 _ _ hDG
        refine ⟨_, rfl, _, rfl, D, _, rfl, .inl (seqL_of hDM), rfl, fl, _, rfl, ?_⟩
        show if inV (tx l) ((lets (ordF ps)).map tx) = true then _ else _
        rw [in_txs, hdec, decide_eq_true hl]
        obtain ⟨j, hj, hb⟩ := first_at ((lets_ord fa.ok).mpr hl)
        obtain ⟨k, hkk, rfl⟩ : ∃ k, (ordF ps)[j]? = some k ∧ k.1 = l := by
          unfold lets at hj
          rw [List.getElem?_map] at hj
          exact Option.map_eq_some_iff.mp hj
        obtain ⟨b, hb1, hb2⟩ := hcl.2 j k hkk
        refine iteT ⟨_, rfl, _, rfl, _, rfl, .inl ⟨rfl, _, seqL_of hDM⟩, _, rfl, D, _, tx k.1, j, tx k.1, rfl, rfl, seqL_of hDM, rfl, fl, by rw [List.getElem?_map, hj]; rfl, by rw [eqV_txt, decide_eq_true rfl], fun m z' hm hz' => ?_, ?_⟩
        · rw [List.getElem?_map] at hz'
          obtain ⟨z0, h1, rfl⟩ := Option.map_eq_some_iff.mp hz'
          rw [eqV_txt, decide_eq_false (hb m hm z0 h1)]
        refine ⟨q, _, _, _, rfl, rfl, seqL_of (sM _ _ hq), atI_nat (j := j) hb1, b, _, _, _, rfl, rfl, seqT_of (sM _ _ hb2), atI_nat (j := 1) rfl, by decide, fun L2 hL2 => ⟨by show 2 ≤ sizeLine; decide, fun u3 hu3 => ?_⟩⟩
        have x0 := ex_new (o := .lst []) hL2
        have x1 := ex_new (o := .tup [tx k.2, .ref L2]) hu3
        have dn2 : DoneAt (upd (upd M L2 (.lst [])) u3 (.tup [tx k.2, .ref L2])) u3 (tx (gly ps k.1)) := ⟨L2, by rw [upd_same, gly_ord (List.mem_of_getElem? hkk)], x1 _ _ upd_same⟩
        refine ⟨dnD (gly ps k.1), dnD (gly ps k.1), dp_done (dn.mono (x0.trans x1)), dp_done dn2, plain_done _, plain_done _, depth_done _, _, rfl, ?_⟩
        rw [eqv_done]
        refine iteF ?_
        have s4 := x0.trans x1
        refine ⟨_, rfl, _, rfl, D, _, rfl, .inl (seqL_of (s4 _ _ hDM)), rfl, fl, _, rfl, ?_⟩
        show if (!inV (tx k.1) ((lets (ordF ps)).map tx)) = true then _ else _
        rw [in_txs, hdec, decide_eq_true hl]
        exact iteF ⟨(s2.trans s3).trans s4, _, _, _, rfl⟩
      · have sM := sG.trans s3
        have hDM := s3 _ _ hDG
        refine ⟨_, rfl, _, rfl, D, _, rfl, .inl (seqL_of hDM), rfl, fl, _, rfl, ?_⟩
        show if inV (tx l) ((lets (ordF ps)).map tx) = true then _ else _
        rw [in_txs, hdec, decide_eq_false hl]
        refine iteF ⟨_, rfl, _, rfl, D, _, rfl, .inl (seqL_of hDM), rfl, fl, _, rfl, ?_⟩
        show if (!inV (tx l) ((lets (ordF ps)).map tx)) = true then _ else _
        rw [in_txs, hdec, decide_eq_false hl]
        refine iteT ⟨_, rfl, _, rfl, by show 3 ≤ sizeLine; decide, fun q3 hq3 => ⟨by show 1 ≤ sizeLine; decide, fun L3 hL3 => ⟨by show 2 ≤ sizeLine; decide, fun u3 hu3 => ?_⟩⟩⟩
        have x0 := ex_new (o := .tup [.str (Str.ofString "UnknownLetter"), tx l, .str (Str.ofString "0")]) hq3
        have x1 := ex_new (o := .lst [.ref q3]) hL3
        have x2 := ex_new (o := .tup [.non, .ref L3]) hu3
        have e0 : Str.ofString "0" = Str.ofString (toString (((0 : Nat)) : Int)) := by decide +kernel
        have s4 := (x0.trans x1).trans x2
        refine ⟨tdD (.unk l 0), tdD (.unk l 0), dp_told (tl.mono s4), dp_told ⟨L3, q3, upd_same, x2 _ _ upd_same, (x1.trans x2) _ _ (by rw [upd_same, e0]; rfl)⟩, plain_told _, plain_told _, depth_told _, _, rfl, ?_⟩
        rw [eqv_told]
        exact iteF ⟨(s2.trans s3).trans s4, _, _, _, rfl⟩
    · rintro σ G ⟨s2, u, v, t, rfl⟩
      exact z G (sX.trans s2)
end
end K32

end
section
set_option Elab.async false
set_option linter.all false
set_option maxRecDepth 100000
set_option maxHeartbeats 4000000
namespace K32
open PySem PySem.Spec PyProof.Rows L2 Kit
theorem mem_ord {n : Nat} {ps : List Pr} (h : faultF n ps [] = none) {k : Pr} : k ∈ ordF ps ↔ k ∈ ps := by
  obtain ⟨h1, h2⟩ := fault_none h
  unfold ordF
  constructor
  · intro m
    obtain ⟨x, hx, rfl⟩ := List.mem_map.mp m
    obtain ⟨p, hp, e⟩ := List.mem_map.mp (mem_srt.mp hx).2
    have e : p.1 = [x] := e
    have g := gly_of h2 p hp
    rw [e] at g
    rw [g, ← e]
    exact hp
  · intro m
    obtain ⟨x, hx, h3, h4⟩ := isLet_of (h1 k m).1
    refine List.mem_map.mpr ⟨x, mem_srt.mpr ⟨⟨h3, h4⟩, List.mem_map.mpr ⟨k, m, hx⟩⟩, ?_⟩
    have g := gly_of h2 k m
    rw [← hx, g]
theorem ord_nd (ps : List Pr) : (ordF ps).Nodup := by
  unfold ordF List.Nodup
  rw [List.pairwise_map]
  refine (srt_pw ps).imp fun {x y} hlt e => ?_
  have e : [x] = [y] := congrArg Prod.fst e
  injection e with e
  omega
theorem lets_nd (ps : List Pr) : (lets (ordF ps)).Nodup := by
  unfold lets ordF List.Nodup
  rw [List.map_map, List.pairwise_map]
  refine (srt_pw ps).imp fun {x y} hlt e => ?_
  have e : [x] = [y] := e
  injection e with e
  omega
theorem ps_nd {n : Nat} {ps : List Pr} (h : faultF n ps [] = none) : ps.Nodup := by
  obtain ⟨_, h2⟩ := fault_none h
  unfold List.Nodup at h2 ⊢
  rw [List.pairwise_map] at h2
  exact h2.imp fun {x y} hne e => hne (by rw [e])
theorem ord_ps {n : Nat} {ps : List Pr} (h : faultF n ps [] = none) : (ordF ps).Perm ps := (List.perm_ext_iff_of_nodup (ord_nd ps) (ps_nd h)).mpr fun _ => mem_ord h
theorem ord_ord {n : Nat} {ps : List Pr} (h : faultF n ps [] = none) : ordF (ordF ps) = ordF ps := ord_perm (ord_ps h) (fault_none h).2
theorem joinL_one : ∀ l : List Nat, TL.joinL [] (l.map fun x => [x]) = l
  | [] => rfl
  | [x] => rfl
  | x :: y :: l => by
    have ih := joinL_one (y :: l)
    show [x] ++ [] ++ TL.joinL [] ((y :: l).map fun x => [x]) = _
    rw [ih]
    rfl
theorem joinL_heads {ks : List Pr} (h : ∀ k ∈ ks, isLet k.1 = true) : TL.joinL [] (ks.map (·.1)) = ks.map fun k => k.1.headD 0 := by
  rw [show ks.map (·.1) = (ks.map fun k => k.1.headD 0).map fun x => [x] by
    rw [List.map_map]
    refine List.map_congr_left fun k hk => ?_
    obtain ⟨x, hx, _⟩ := isLet_of (h k hk)
    show k.1 = [k.1.headD 0]
    rw [hx]
    rfl]
  exact joinL_one _
theorem print_heads {n : Nat} {gap : List Nat} {ps ks : List Pr} (ok : faultF n ps [] = none) (h : ∀ k ∈ ks, k ∈ ordF ps) : printF gap ps (ks.map fun k => k.1.headD 0) = TL.joinL gap (ks.map (·.2)) := by
  unfold printF
  rw [List.map_map]
  congr 1
  refine List.map_congr_left fun k hk => ?_
  obtain ⟨x, hx, _⟩ := isLet_of (ord_ok ok k (h k hk)).1
  show gly ps [k.1.headD 0] = k.2
  rw [← gly_ord (h k hk), hx]
  rfl
theorem wrong_at {x0 : Nat} {d : Int} (h0 : 0 ≤ d) (h1 : d < 6) : ∃ x, atI [tx [x0], .str (Str.ofString "a"), .str (Str.ofString "="), .str (Str.ofString " "), tx [x0], .str (Str.ofString "-")] d = some (tx [x]) ∧ (x = x0 ∨ x < 65 ∨ 91 ≤ x) := by
  rcases (show d = 0 ∨ d = 1 ∨ d = 2 ∨ d = 3 ∨ d = 4 ∨ d = 5 by omega) with rfl | rfl | rfl | rfl | rfl | rfl
  · exact ⟨x0, rfl, .inl rfl⟩
  · exact ⟨97, congrArg (fun z => some (V.str z)) (by decide +kernel), .inr (.inr (by decide))⟩
  · exact ⟨61, congrArg (fun z => some (V.str z)) (by decide +kernel), .inr (.inl (by decide))⟩
  · exact ⟨32, congrArg (fun z => some (V.str z)) (by decide +kernel), .inr (.inl (by decide))⟩
  · exact ⟨x0, rfl, .inl rfl⟩
  · exact ⟨45, congrArg (fun z => some (V.str z)) (by decide +kernel), .inr (.inl (by decide))⟩
theorem tail_at {x : Nat} {d : Int} (h0 : 0 ≤ d) (h1 : d < 4) : ∃ e, atI [.str (Str.ofString ""), .str (Str.ofString "b"), .str (Str.ofString "?"), tx [x]] d = some (tx e) ∧ e.length ≤ 1 := by
  rcases (show d = 0 ∨ d = 1 ∨ d = 2 ∨ d = 3 by omega) with rfl | rfl | rfl | rfl
  · exact ⟨[], congrArg (fun z => some (V.str z)) (by decide +kernel), by decide⟩
  · exact ⟨[98], congrArg (fun z => some (V.str z)) (by decide +kernel), by decide⟩
  · exact ⟨[63], congrArg (fun z => some (V.str z)) (by decide +kernel), by decide⟩
  · exact ⟨[x], rfl, Nat.le_refl 1⟩
theorem tru_lst {K : PySem.W.Frag} {H : Hp} {q : Addr} {xs : List V} (h : H q = some (.lst xs)) : TruV K (.ref q) H (!xs.isEmpty) := .inl ⟨xs, seqL_of h, rfl⟩
section
variable {P : Program} {w : World} {K : PySem.W.Frag} {mg : Str → Option Value} {base : Heap} {a : Ad}
def spPrints (a : Ad) : Sp := fun vs H Q _ => ∃ (p g y s q : Addr) (r c n m : Nat) (gap : List Nat) (ps : List Pr) (ws : List V), vs = [.ref p, .ref y, tx gap, .ref q] ∧ PurseAt (m + 40) H p g ∧ FontP a p g H y s r c n gap ps ∧ H q = some (.lst ws) ∧ Ap p g q ∧ PairsL H ws (ordF ps) ∧ ∀ G, Pg m p g H G → Q (.bl true) G
theorem c_law_prints (T : Txt K mg a) : Can P w K mg base 8 "_law_prints" (spPrints a) := by
  refine can_of T.d_law_prints sc_law_prints bd_law_prints (fun vs H Q E h => ?_) (fun f cdv A outer s0 H vs Q E hr h => ?_)
  · obtain ⟨p, g, y, s, q, r, c, n, m, gap, ps, ws, rfl, _⟩ := h
    rfl
  · obtain ⟨p, g, y, s, q, r, c, n, m, gap, ps, ws, rfl, hp, fp, hq, aq, hcl, z⟩ := h
    refine ⟨_, (pss_cons (ps_setLc (i := 4) (own := [("mark", 5), ("shape", 6)]) (g := (gTup _ 2 (gCons (gName 5) (gCons (gName 6) gNil)))) (tt := tYes) (by rfl) sc_law_prints.nd rfl rfl (sw_true rfl rfl rfl (by decide +kernel)) (kpi_list K (pv 3)) (blkOk_by (N := N_law_prints) (sc := defScope s_law_prints) (by decide +kernel)) (fun _ _ _ _ _ => (pg_tup rfl (pgs_cons (pg_name (i := 5) sc_law_prints.nd rfl (.inl rfl)) (pgs_cons (pg_name (i := 6) sc_law_prints.nd rfl (.inl rfl)) pgs_nil)))) (fun _ _ _ _ _ => pts_nil) (fun _ _ _ _ _ => (pv 5)))
      (pss_cons (ps_for (passes_of rfl) (by rfl) (pi_range1 (by rfl) T.b_range (pa_cons pe_int pa_nil)) (pg_name (i := 7) sc_law_prints.nd rfl (.inl rfl)) (pss_cons (ps_set (i := 8) sc_law_prints.nd rfl (.inl rfl) (pe_lst pa_nil))
      (C8.pss_cut (ps_if (pt_truth (pv 3) (by intro _; rfl)) (pss_one (ps_setLc (i := 8) (own := [("j", 9)]) (g := gName 9) (tt := tYes) (by rfl) sc_law_prints.nd rfl rfl (sw_true rfl rfl rfl (by decide +kernel)) (pi_range1 (by rfl) T.b_range (pa_cons (pc_f (c_law_draw T) hr (by decide) (by rfl) (pa_cons (pv 0) (pa_cons pe_int pa_nil))) pa_nil)) (blkOk_by (N := N_law_prints) (sc := defScope s_law_prints) (by decide +kernel)) (fun _ _ _ _ _ => (pg_name (i := 9) sc_law_prints.nd rfl (.inl rfl))) (fun _ _ _ _ _ => pts_nil) (fun _ _ _ _ _ => (pe_ix (kix_list K) (pv 3) (pc_f (c_law_draw T) hr (by decide) (by rfl) (pa_cons (pv 0) (pa_cons (pe_callB (klen_seq K) (by rfl) T.b_len (by decide +kernel) (pa_cons (pv 3) pa_nil)) pa_nil))) (fun _ _ => rfl))))) pss_nil)
      (pss_cons (ps_set (i := 10) sc_law_prints.nd rfl (.inl rfl) (kjoin K pe_str (pe_lc (own := [("mark", 5), ("shape", 6)]) (g := (gTup _ 2 (gCons (gName 5) (gCons (gName 6) gNil)))) (tt := tYes) (by rfl) sc_law_prints.nd (kpi_list K (pv 8)) (blkOk_by (N := N_law_prints) (sc := defScope s_law_prints) (by decide +kernel)) (fun _ _ _ _ _ => (pg_tup rfl (pgs_cons (pg_name (i := 5) sc_law_prints.nd rfl (.inl rfl)) (pgs_cons (pg_name (i := 6) sc_law_prints.nd rfl (.inl rfl)) pgs_nil)))) (fun _ _ _ _ _ => pts_nil) (fun _ _ _ _ _ => (pv 5)))))
      (pss_cons (ps_set (i := 11) sc_law_prints.nd rfl (.inl rfl) (pe_tup (pa_cons (kjoin K (pv 2) (pe_lc (own := [("mark", 5), ("shape", 6)]) (g := (gTup _ 2 (gCons (gName 5) (gCons (gName 6) gNil)))) (tt := tYes) (by rfl) sc_law_prints.nd (kpi_list K (pv 8)) (blkOk_by (N := N_law_prints) (sc := defScope s_law_prints) (by decide +kernel)) (fun _ _ _ _ _ => (pg_tup rfl (pgs_cons (pg_name (i := 5) sc_law_prints.nd rfl (.inl rfl)) (pgs_cons (pg_name (i := 6) sc_law_prints.nd rfl (.inl rfl)) pgs_nil)))) (fun _ _ _ _ _ => pts_nil) (fun _ _ _ _ _ => (pv 6)))) (pa_cons (pe_lst pa_nil) pa_nil))))
      (pss_cons (ps_if (pt_cmpR (kneP K hr.units) (pc_f (c_law_print T) hr (by decide) (by rfl) (pa_cons (pv 1) (pa_cons (pv 10) pa_nil))) (pv 11) (nomark _)) (pss_one (ps_ret pe_bl)) pss_nil)
      (pss_cons (ps_set (i := 12) sc_law_prints.nd rfl (.inl rfl) (pc_f (c_law_fresh T) hr (by decide) (by rfl) (pa_cons (pv 0) (pa_cons (pv 4) pa_nil))))
      (pss_cons (ps_set (i := 13) sc_law_prints.nd rfl (.inl rfl) (pe_ix (kix_list K) (pe_lst (pa_cons (pv 12) (pa_cons pe_str (pa_cons pe_str (pa_cons pe_str (pa_cons (pv 12) (pa_cons pe_str pa_nil))))))) (pc_f (c_law_draw T) hr (by decide) (by rfl) (pa_cons (pv 0) (pa_cons pe_int pa_nil))) (fun _ _ => rfl)))
      (pss_cons (ps_set (i := 14) sc_law_prints.nd rfl (.inl rfl) (pc_f (c_law_draw T) hr (by decide) (by rfl) (pa_cons (pv 0) (pa_cons (pe_op op_add (pe_callB call_len_str (by rfl) T.b_len (by decide +kernel) (pa_cons (pv 10) pa_nil)) pe_int) pa_nil))))
      (pss_cons (ps_set (i := 15) sc_law_prints.nd rfl (.inl rfl) (pe_op op_add_str (pe_slice sl_str (pv 10) (po_some (pv 14)) po_none) (pe_ix (kix_list K) (pe_lst (pa_cons pe_str (pa_cons pe_str (pa_cons pe_str (pa_cons (pv 13) pa_nil))))) (pc_f (c_law_draw T) hr (by decide) (by rfl) (pa_cons (pv 0) (pa_cons pe_int pa_nil))) (fun _ _ => rfl))))
      (pss_cons (ps_if (pt_cmpR (kneP K hr.units) (pc_f (c_law_print T) hr (by decide) (by rfl) (pa_cons (pv 1) (pa_cons (pe_op op_add_str (pe_op op_add_str (pe_slice sl_str (pv 10) po_none (po_some (pv 14))) (pv 13)) (pv 15)) pa_nil))) (pe_tup (pa_cons pe_non (pa_cons (pe_lst (pa_cons (pe_tup (pa_cons pe_str (pa_cons (pv 13) (pa_cons (pe_callTy call_str_int (by rfl) T.b_str (by decide +kernel) (pa_cons (pv 14) pa_nil)) pa_nil)))) pa_nil)) pa_nil))) (nomark _)) (pss_one (ps_ret pe_bl)) pss_nil)
      (pss_one (ps_if (pt_cmpR (kneP K hr.units) (pc_f (c_law_print T) hr (by decide) (by rfl) (pa_cons (pv 1) (pa_cons (pv 10) pa_nil))) (pv 11) (nomark _)) (pss_one (ps_ret pe_bl)) pss_nil)))))))))))))
      (pss_one (ps_ret pe_bl)))), ?_⟩
    have l26 := ord_len ps
    have ok := fp.fa.ok
    have l6 : (ordF ps).length ≤ 6 := by rw [(ord_ps ok).length_eq]; exact fp.fa.len
    have lw := hcl.1
    refine ⟨_, rfl, q, rfl, ⟨_, seqL_of hq⟩, fun D hD => ?_⟩
    refine lc_it (vs := [5, 6]) (σ := L2.start N_law_prints [V.ref p, V.ref y, tx gap, V.ref q]) (g := gTup K 2 (gCons (gName 5) (gCons (gName 6) gNil))) (tt := tYes) (te := tVar 5) (walk_list (xs := ws)) (fun i N => Same H N ∧ N D = some (.lst ((((ordF ps).take i).map (·.1)).map tx))) ⟨ex_new hD, upd_same⟩ (fun i N _ h => seqL_of (h.1 _ _ hq)) ?_ ?_
    · rintro i x N0 N hi ⟨sN, hND⟩ ⟨rfl, hx⟩
      have hi : i < (ordF ps).length := by rw [← hcl.1]; exact hi
      have hk : (ordF ps)[i]? = some (ordF ps)[i] := List.getElem?_eq_getElem hi
      obtain ⟨b, hb, hcb⟩ := hcl.2 i _ hk
      obtain rfl : V.ref b = x := Option.some.inj (hb.symm.trans hx)
      rw [List.take_add_one, hk]
      generalize (ordF ps)[i] = k at hk hcb
      refine ⟨b, _, rfl, seqT_of (sN _ _ hcb), rfl, _, _, rfl, _, _, rfl, rfl, ?_⟩
      refine ⟨rfl, ?_⟩
      unfold tYes
      dsimp only
      rw [if_pos rfl]
      refine ⟨_, rfl, _, hND, by rw [List.length_map, List.length_map, List.length_take]; exact szlt (by omega), ex_mut sN hD, ?_⟩
      rw [upd_same, List.map_append, List.map_append]
      rfl
    rintro N ⟨sN, hND⟩
    rw [List.take_of_length_le (Nat.le_of_eq hcl.1.symm)] at hND
    have hND : N D = some (.lst ((lets (ordF ps)).map tx)) := hND
    have aD := ap_new hp hD
    have lc : (lets (ordF ps)).length ≤ 6 := by unfold lets; rw [List.length_map]; exact l6
    have pgN := (Pg.refl hp).same sN
    refine ⟨3, rfl, by decide, by decide, for_it (walk_range (lo := 0) (n := (3 : Int).toNat)) (fun i σ G => (Pg (m + 12 * (3 - i)) p g H G ∧ G D = some (.lst ((lets (ordF ps)).map tx))) ∧ ∃ u5 u6 u7 u8 u9 u10 u11 u12 u13 u14 u15 : Option V, σ = [some (.ref p), some (.ref y), some (tx gap), some (.ref q), some (.ref D), u5, u6, u7, u8, u9, u10, u11, u12, u13, u14, u15]) ⟨⟨pgN.le (by omega), hND⟩, none, none, none, none, none, none, none, none, none, none, none, rfl⟩ (fun _ _ _ _ _ => True.intro) ?_ ?_⟩
    · rintro i x σ G' G hi ⟨⟨pgG, hDG⟩, u5, u6, u7, u8, u9, u10, u11, u12, u13, u14, u15, rfl⟩ ⟨rfl, ex⟩
      have hi : i < 3 := hi
      have b12 : m + 12 * (3 - i) = m + 12 * (3 - (i + 1)) + 12 := by omega
      rw [b12] at pgG
      generalize m + 12 * (3 - (i + 1)) = bd at pgG ⊢
      refine ⟨by decide, fun P0 hP0 => ?_⟩
      have aP0 := ap_new pgG.pu hP0
      have pg1 := pgG.same (ex_new (o := .lst []) hP0)
      have hD1 := (ex_new (o := .lst []) hP0) _ _ hDG
      have hP1 : (upd G P0 (.lst [])) P0 = some (.lst []) := upd_same
      have fP0 := pgG.2.2 _ hP0
      generalize upd G P0 (.lst []) = G1 at pg1 hD1 hP1 ⊢
      refine ⟨fun σ G2 => ∃ (PA : Addr) (pw : List V) (pk : List Pr), Pg (bd + 5) p g H G2 ∧ G2 D = some (.lst ((lets (ordF ps)).map tx)) ∧ G2 PA = some (.lst pw) ∧ PairsL G2 pw pk ∧ (∀ k ∈ pk, k ∈ ordF ps) ∧ pk.length ≤ 6 ∧ ∃ v5 v6 v9 : Option V, σ = [some (.ref p), some (.ref y), some (tx gap), some (.ref q), some (.ref D), v5, v6, some x, some (.ref PA), v9, u10, u11, u12, u13, u14, u15], ?_, ?_⟩
      · refine ⟨_, rfl, _, tru_lst (pg1.at aq hq), ?_⟩
        cases hw : ws.isEmpty with
        | true =>
          refine iteF ?_
          exact ⟨P0, [], [], pg1.le (by omega), hD1, hP1, ⟨rfl, nofun⟩, nofun, by decide, _, _, _, rfl⟩
        | false =>
          have w0l : 0 < ws.length := by
            cases ws with
            | nil => cases hw
            | cons => exact Nat.succ_pos _
          refine iteT ?_
          refine ⟨_, rfl, p, g, 7, bd + 11, rfl, pg1.pu, by decide, by decide, fun d G2 d0 d1 pg2 => ⟨d, rfl, by omega, by omega, fun E1 hE1 => ?_⟩⟩
          have pgE := pg1.trans pg2
          have aE := ap_new pgE.pu hE1
          have fE := pgE.2.2 _ hE1
          have hD2 := pg2.at aD hD1
          have hDE : (upd G2 E1 (.lst [])) D = some (.lst ((lets (ordF ps)).map tx)) := (ex_new hE1) _ _ hD2
          refine lc_it (walk_range (lo := 0) (n := d.toNat)) (fun j N => ∃ pw pk, Pg (bd + (11 - j)) p g H N ∧ N D = some (.lst ((lets (ordF ps)).map tx)) ∧ N E1 = some (.lst pw) ∧ PairsL N pw pk ∧ (∀ k ∈ pk, k ∈ ordF ps) ∧ pk.length = j) ⟨[], [], pgE.same (ex_new hE1), hDE, upd_same, ⟨rfl, nofun⟩, nofun, rfl⟩ (fun _ _ _ _ => True.intro) ?_ ?_
          · rintro j z N0 N1 hj ⟨pw, pk, pgj, hDj, hEj, hPj, mk, lk⟩ ⟨rfl, ez⟩
            have hj : j < 6 := by have : j < d.toNat := hj; omega
            refine ⟨rfl, ?_⟩
            unfold tYes
            dsimp only
            rw [if_pos rfl]
            refine ⟨_, rfl, _, rfl, _, rfl, q, _, rfl, .inl (seqL_of (pgj.at aq hq)), p, g, _, bd + (11 - (j + 1)), rfl, pgj.pu.le (by omega), by omega, by omega, fun d2 N2 e0 e1 pg3 => ?_⟩
            obtain ⟨d2, rfl⟩ : ∃ d' : Nat, d2 = (d' : Int) := ⟨d2.toNat, by omega⟩
            have hd2 : d2 < (ordF ps).length := by rw [← lw]; omega
            have hk2 : (ordF ps)[d2]? = some (ordF ps)[d2] := List.getElem?_eq_getElem hd2
            obtain ⟨b, hb, hcb⟩ := hcl.2 d2 _ hk2
            have pgT := pgj.trans pg3
            have hcb3 := pgT.tup hp hcb
            have hE3 := pg3.at aE hEj
            refine ⟨q, _, _, _, rfl, rfl, seqL_of (pgT.at aq hq), atI_nat (j := d2) hb, _, hE3, by rw [hPj.1, lk]; exact szlt (by omega), pw ++ [.ref b], pk ++ [(ordF ps)[d2]], pgT.put fE aE, ?_, upd_same, ?_, fun k hk => ?_, by rw [List.length_append, lk]; rfl⟩
            · rw [upd_ne (ne_some hE1 hD2)]
              exact pg3.at aD hDj
            · exact ((hPj.pg pgj.pu pg3).snoc hcb3).upd hE3
            · rcases List.mem_append.mp hk with h | h
              · exact mk k h
              · rw [List.mem_singleton] at h
                rw [h]
                exact List.getElem_mem hd2
          · rintro N1 ⟨pw, pk, pgj, hDj, hEj, hPj, mk, lk⟩
            exact ⟨E1, pw, pk, pgj.le (by omega), hDj, hEj, hPj, mk, by omega, _, _, _, rfl⟩
      rintro σ G2 ⟨PA, pw, pk, pg2, hD2, hPA, hPk, mk, lk, v5, v6, v9, rfl⟩
      have lkk := hPk.1
      have ee0 : Str.ofString "" = S [] := by decide +kernel
      have lets1 : ∀ k ∈ pk, isLet k.1 = true := fun k hk => (ord_ok ok k (mk k hk)).1
      have lgap := gap_len fp.fa.gap
      refine ⟨⟨_, rfl⟩, _, rfl, PA, rfl, ⟨_, seqL_of hPA⟩, fun M hM => ?_⟩
      refine lc_it (vs := [5, 6]) (σ := [some (.ref p), some (.ref y), some (tx gap), some (.ref q), some (.ref D), v5, v6, some x, some (.ref PA), v9, u10, u11, u12, u13, u14, u15]) (g := gTup K 2 (gCons (gName 5) (gCons (gName 6) gNil))) (tt := tYes) (te := tVar 5) (walk_list (xs := pw)) (fun i N => Same G2 N ∧ N M = some (.lst ((((pk).take i).map (·.1)).map tx))) ⟨ex_new hM, upd_same⟩ (fun i N _ h => seqL_of (h.1 _ _ hPA)) ?_ ?_
      · rintro i x N0 N hi ⟨sN, hND⟩ ⟨rfl, hx⟩
        have hi : i < (pk).length := by rw [← hPk.1]; exact hi
        have hk : (pk)[i]? = some (pk)[i] := List.getElem?_eq_getElem hi
        obtain ⟨b, hb, hcb⟩ := hPk.2 i _ hk
        obtain rfl : V.ref b = x := Option.some.inj (hb.symm.trans hx)
        rw [List.take_add_one, hk]
        generalize (pk)[i] = k at hk hcb
        refine ⟨b, _, rfl, seqT_of (sN _ _ hcb), rfl, _, _, rfl, _, _, rfl, rfl, ?_⟩
        refine ⟨rfl, ?_⟩
        unfold tYes
        dsimp only
        rw [if_pos rfl]
        refine ⟨_, rfl, _, hND, by rw [List.length_map, List.length_map, List.length_take]; exact szlt (by omega), ex_mut sN hM, ?_⟩
        rw [upd_same, List.map_append, List.map_append]
        rfl
      rintro N ⟨sN, hND⟩
      rw [List.take_of_length_le (Nat.le_of_eq hPk.1.symm)] at hND
      have b1 := sum_leS (ps := pk.map (·.1)) (B := 1) fun l hl => by
        obtain ⟨k, hk, rfl⟩ := List.mem_map.mp hl
        exact Nat.le_of_eq (let_len (lets1 k hk))
      refine ⟨_, M, (pk.map (·.1)).map S, rfl, rfl, .inl (seqL_of (by rw [List.map_map]; exact hND)), ?_, ?_⟩
      · rw [List.length_map] at b1
        rw [ee0, S_len, List.length_map, List.length_map]
        show _ + _ * 0 ≤ _
        omega
      rw [ee0, join_S, joinL_heads lets1]
      have hpr := print_heads (gap := gap) ok mk
      have lln : (pk.map fun k => k.1.headD 0).length ≤ 6 := by rw [List.length_map]; exact lk
      have lnok : ∀ z ∈ pk.map (fun k => k.1.headD 0), [z] ∈ lets ps := fun z hz => by
        obtain ⟨k, hk, rfl⟩ := List.mem_map.mp hz
        obtain ⟨z, hz, _⟩ := isLet_of (lets1 k hk)
        show [k.1.headD 0] ∈ _
        have e : [k.1.headD 0] = k.1 := by rw [hz]; rfl
        rw [e]
        exact List.mem_map.mpr ⟨k, (mem_ord ok).mp (mk k hk), rfl⟩
      generalize pk.map (fun k => k.1.headD 0) = ln at hpr lln lnok ⊢
      have pg3 := pg2.same sN
      have hD3 := sN _ _ hD2
      have hPA3 := sN _ _ hPA
      have hPk3 := hPk.mono sN
      clear hND
      generalize N = G3 at pg3 hD3 hPA3 hPk3 ⊢
      clear sN
      refine ⟨_, rfl, ⟨_, rfl⟩, _, rfl, PA, rfl, ⟨_, seqL_of hPA3⟩, fun M2 hM2 => ?_⟩
      refine lc_it (vs := [5, 6]) (σ := [some (.ref p), some (.ref y), some (tx gap), some (.ref q), some (.ref D), v5, v6, some x, some (.ref PA), v9, some (tx ln), u11, u12, u13, u14, u15]) (g := gTup K 2 (gCons (gName 5) (gCons (gName 6) gNil))) (tt := tYes) (te := tVar 6) (walk_list (xs := pw)) (fun i N => Same G3 N ∧ N M2 = some (.lst ((((pk).take i).map (·.2)).map tx))) ⟨ex_new hM2, upd_same⟩ (fun i N _ h => seqL_of (h.1 _ _ hPA3)) ?_ ?_
      · rintro i x N0 N hi ⟨sN, hND⟩ ⟨rfl, hx⟩
        have hi : i < (pk).length := by rw [← hPk3.1]; exact hi
        have hk : (pk)[i]? = some (pk)[i] := List.getElem?_eq_getElem hi
        obtain ⟨b, hb, hcb⟩ := hPk3.2 i _ hk
        obtain rfl : V.ref b = x := Option.some.inj (hb.symm.trans hx)
        rw [List.take_add_one, hk]
        generalize (pk)[i] = k at hk hcb
        refine ⟨b, _, rfl, seqT_of (sN _ _ hcb), rfl, _, _, rfl, _, _, rfl, rfl, ?_⟩
        refine ⟨rfl, ?_⟩
        unfold tYes
        dsimp only
        rw [if_pos rfl]
        refine ⟨_, rfl, _, hND, by rw [List.length_map, List.length_map, List.length_take]; exact szlt (by omega), ex_mut sN hM2, ?_⟩
        rw [upd_same, List.map_append, List.map_append]
        rfl
      rintro N ⟨sN, hND⟩
      rw [List.take_of_length_le (Nat.le_of_eq hPk3.1.symm)] at hND
      have b2 := sum_leS (ps := pk.map (·.2)) (B := 4) fun l hl => by
        obtain ⟨k, hk, rfl⟩ := List.mem_map.mp hl
        exact (gl_len (ord_ok ok k (mk k hk)).2).2
      refine ⟨_, M2, (pk.map (·.2)).map S, rfl, rfl, .inl (seqL_of (by rw [List.map_map]; exact hND)), ?_, ?_⟩
      · rw [List.length_map] at b2
        rw [S_len, List.length_map, List.length_map]
        have : pk.length * gap.length ≤ 6 * 3 := Nat.mul_le_mul lk lgap
        omega
      rw [join_S, ← hpr]
      have pg4 := pg3.same sN
      have hD4 := sN _ _ hD3
      clear hND
      generalize N = G4 at pg4 hD4 ⊢
      refine ⟨by decide, fun L hL => ⟨by show 2 ≤ sizeLine; decide, fun d hd => ?_⟩⟩
      have aL := ap_new pg4.pu hL
      have x0 := ex_new (o := .lst []) hL
      have x1 := ex_new (o := .tup [tx (printF gap ps ln), .ref L]) hd
      have pg5 := pg4.same (x0.trans x1)
      have hD5 := (x0.trans x1) _ _ hD4
      have hd5 : (upd (upd G4 L (.lst [])) d (.tup [tx (printF gap ps ln), .ref L])) d = some (.tup [tx (printF gap ps ln), .ref L]) := upd_same
      have hL5 := x1 _ _ (upd_same (H := G4) (a := L) (o := .lst []))
      generalize upd (upd G4 L (.lst [])) d (.tup [tx (printF gap ps ln), .ref L]) = G5 at pg5 hD5 hd5 hL5 ⊢
      refine ⟨_, rfl, _, rfl, y, s, r, c, n, gap, ps, ln, rfl, (fp.pg hp pg5).fa, by omega, fun _ G6 w6 s6 hw6 dn6 => ?_, fun i' x' hx' hn' _ => absurd (lnok x' (List.mem_of_getElem? hx')) hn'⟩
      refine ⟨_, rfl, dnD (printF gap ps ln), dnD (printF gap ps ln), dp_done dn6, dp_done ⟨L, s6 _ _ hd5, s6 _ _ hL5⟩, plain_done _, plain_done _, depth_done _, _, rfl, ?_⟩
      rw [eqv_done]
      refine iteF ?_
      have pg6 := pg5.same s6
      have hD6 := s6 _ _ hD5
      have hd6 := s6 _ _ hd5
      have hL6 := s6 _ _ hL5
      refine ⟨_, rfl, _, rfl, p, g, D, lets (ordF ps), bd + 4, rfl, hD6, by omega, pg6.pu, fun z0 G7 z1 z2 z3 pg7 => ?_⟩
      have pgB := pg6.trans pg7
      refine ⟨_, rfl, _, rfl, by show 6 ≤ sizeLine; decide, fun B hB => ?_⟩
      have sB := ex_new (o := .lst [tx [z0], .str (Str.ofString "a"), .str (Str.ofString "="), .str (Str.ofString " "), tx [z0], .str (Str.ofString "-")]) hB
      have aB := ap_new pgB.pu hB
      refine ⟨_, rfl, p, g, 6, bd + 3, rfl, pgB.pu.mono sB, by decide, by decide, fun e2 G8 d0 d1 pg8 => ?_⟩
      obtain ⟨xw, hxw, cw⟩ := wrong_at (x0 := z0) d0 d1
      refine ⟨B, _, _, _, rfl, rfl, seqL_of (pg8.at aB upd_same), hxw, ?_⟩
      have pgC := pgB.trans (same_pg sB pg8)
      have wno : [xw] ∉ lets ps := fun hm => by
        obtain ⟨k, hk, e⟩ := List.mem_map.mp hm
        obtain ⟨z, hz, h1, h2⟩ := isLet_of ((fault_none ok).1 k hk).1
        have e : k.1 = [xw] := e
        rw [hz] at e
        injection e with e
        rcases cw with h | h | h
        · exact z3 (by rw [← h]; exact (lets_ord ok).mpr hm)
        · omega
        · omega
      refine ⟨_, rfl, _, rfl, _, rfl, by rw [S_len]; exact szl (by omega), _, _, rfl, rfl, p, g, _, bd + 2, rfl, pgC.pu, by rw [S_len]; omega, by rw [S_len]; omega, fun e3 G9 d2 d3 pg9 => ?_⟩
      rw [S_len] at d3
      obtain ⟨pl, rfl⟩ : ∃ pl : Nat, e3 = (pl : Int) := ⟨e3.toNat, by omega⟩
      have hpl : pl ≤ ln.length := by omega
      have pgD := pgC.trans pg9
      refine ⟨_, rfl, _, rfl, _, rfl, _, rfl, by rw [S_len]; exact szl (by omega), ?_⟩
      rw [cut_drop]
      refine ⟨_, rfl, by show 4 ≤ sizeLine; decide, fun B2 hB2 => ?_⟩
      have sB2 := ex_new (o := .lst [.str (Str.ofString ""), .str (Str.ofString "b"), .str (Str.ofString "?"), tx [xw]]) hB2
      have aB2 := ap_new pgD.pu hB2
      refine ⟨_, rfl, p, g, 4, bd + 1, rfl, pgD.pu.mono sB2, by decide, by decide, fun e4 G10 d4 d5 pg10 => ?_⟩
      obtain ⟨te, hte, lte⟩ := tail_at (x := xw) d4 d5
      have hz2 : ∀ l m : List Nat, l.length ≤ 100 → m.length ≤ 100 → (S l).length + (S m).length ≤ sizeLine := fun l m h k => by rw [S_len, S_len]; exact szl (by omega)
      have ldr : (ln.drop pl).length ≤ 6 := by rw [List.length_drop]; omega
      have ltk : (ln.take pl).length ≤ 6 := by rw [List.length_take]; omega
      refine ⟨B2, _, _, _, rfl, rfl, seqL_of (pg10.at aB2 upd_same), hte, _, _, rfl, rfl, hz2 _ _ (by omega) (by omega), ?_⟩
      rw [S_app]
      have pgE := pgD.trans (same_pg sB2 pg10)
      have hd10 : G10 d = some (.tup [tx (printF gap ps ln), .ref L]) := ((pg7.trans (same_pg sB pg8)).trans (pg9.trans (same_pg sB2 pg10))).tup pg6.pu hd6
      have hL10 : G10 L = some (.lst []) := ((pg7.trans (same_pg sB pg8)).trans (pg9.trans (same_pg sB2 pg10))).at aL hL6
      have hD10 : G10 D = some (.lst ((lets (ordF ps)).map tx)) := ((pg7.trans (same_pg sB pg8)).trans (pg9.trans (same_pg sB2 pg10))).at aD hD6
      refine ⟨_, rfl, _, rfl, _, rfl, _, rfl, _, rfl, by rw [S_len]; exact szl (by omega), ?_⟩
      rw [cut_take]
      refine ⟨_, rfl, _, _, rfl, rfl, hz2 _ _ (by omega) (by show 1 ≤ 100; decide), ?_⟩
      rw [S_app]
      refine ⟨_, rfl, _, _, rfl, rfl, hz2 _ _ (by rw [List.length_append]; show _ + 1 ≤ 100; omega) (by rw [List.length_append]; omega), ?_⟩
      rw [S_app]
      have hat : (ln.take pl ++ [xw] ++ (ln.drop pl ++ te))[pl]? = some xw := by
        rw [List.append_assoc, List.getElem?_append_right (by rw [List.length_take]; omega), List.length_take, Nat.min_eq_left hpl, Nat.sub_self]
        rfl
      have hbf : ∀ j, j < pl → ∀ z, (ln.take pl ++ [xw] ++ (ln.drop pl ++ te))[j]? = some z → [z] ∈ lets ps := fun j hj z hz => by
        rw [List.append_assoc, List.getElem?_append_left (by rw [List.length_take]; omega)] at hz
        exact lnok z (List.mem_of_mem_take (List.mem_of_getElem? hz))
      have lW : (ln.take pl ++ [xw] ++ (ln.drop pl ++ te)).length ≤ 1000 := by
        rw [List.length_append, List.length_append, List.length_append]
        show _ + 1 + _ ≤ _
        omega
      generalize ln.take pl ++ [xw] ++ (ln.drop pl ++ te) = W at hat hbf lW ⊢
      refine ⟨y, s, r, c, n, gap, ps, W, rfl, (fp.pg hp pgE).fa, lW, fun hall => absurd (hall xw (List.mem_of_getElem? hat)) wno, fun i' x' hx' hn' hb' G11 w11 s11 hw11 tl => ?_⟩
      have ei : i' = pl := by
        rcases Nat.lt_trichotomy i' pl with h | h | h
        · exact absurd (hbf i' h x' hx') hn'
        · exact h
        · exact absurd (hb' pl h xw hat) wno
      subst ei
      rw [hat] at hx'
      obtain rfl : xw = x' := Option.some.inj hx'
      refine ⟨_, rfl, _, rfl, _, rfl, Nat.lt_of_le_of_lt (Nat.log2_le_self _) (Nat.lt_of_le_of_lt (show _ ≤ 6 by show i' ≤ 6; omega) (by decide)), by show 3 ≤ sizeLine; decide, fun q3 hq3 => ⟨by show 1 ≤ sizeLine; decide, fun L3 hL3 => ⟨by show 2 ≤ sizeLine; decide, fun u3 hu3 => ?_⟩⟩⟩
      have y0 := ex_new (o := .tup [.str (Str.ofString "UnknownLetter"), tx [xw], .str (Str.ofString (toString ((i' : Nat) : Int)))]) hq3
      have y1 := ex_new (o := .lst [.ref q3]) hL3
      have y2 := ex_new (o := .tup [.non, .ref L3]) hu3
      have s4 := (y0.trans y1).trans y2
      refine ⟨tdD (.unk [xw] i'), tdD (.unk [xw] i'), dp_told (tl.mono s4), dp_told ⟨L3, q3, upd_same, y2 _ _ upd_same, (y1.trans y2) _ _ upd_same⟩, plain_told _, plain_told _, depth_told _, _, rfl, ?_⟩
      rw [eqv_told]
      refine iteF ?_
      have s12 := s11.trans s4
      have pgF := pgE.same s12
      have hd12 := s12 _ _ hd10
      have hL12 := s12 _ _ hL10
      refine ⟨_, rfl, _, rfl, y, s, r, c, n, gap, ps, ln, rfl, (fp.pg hp pgF).fa, by omega, fun _ G13 w13 s13 hw13 dn13 => ?_, fun i' x' hx' hn' _ => absurd (lnok x' (List.mem_of_getElem? hx')) hn'⟩
      refine ⟨_, rfl, dnD (printF gap ps ln), dnD (printF gap ps ln), dp_done dn13, dp_done ⟨L, s13 _ _ hd12, s13 _ _ hL12⟩, plain_done _, plain_done _, depth_done _, _, rfl, ?_⟩
      rw [eqv_done]
      refine iteF ?_
      exact ⟨⟨(pgF.same s13).le (by omega), s13 _ _ (s12 _ _ hD10)⟩, _, _, _, _, _, _, _, _, _, _, _, rfl⟩
    · rintro σ G ⟨⟨pgG, hDG⟩, u5, u6, u7, u8, u9, u10, u11, u12, u13, u14, u15, rfl⟩
      exact z G (pgG.le (by omega))
end
end K32

end
section
set_option Elab.async false
set_option linter.all false
set_option maxRecDepth 100000
set_option maxHeartbeats 4000000
namespace K32
open PySem PySem.Spec PyProof.Rows L2 Kit
theorem due_none {n : Nat} {gap : List Nat} {ps : List Pr} (h1 : gapOk n gap = true) (h2 : ps.length ≤ 6) (h3 : faultF n ps [] = none) : dueF n gap ps = none := by
  unfold dueF
  rw [if_neg (by rw [h1]; decide), if_neg (by omega), h3]
  rfl
theorem gap_mk {n : Nat} {l : List Nat} (h : ∀ x ∈ l, x ∈ cols n) (hl : l.length ≤ 3) : gapOk n l = true := by
  unfold gapOk
  rw [← all_cols, List.all_eq_true.mpr fun x hx => decide_eq_true (h x hx), decide_eq_true hl]
  rfl
theorem gl_mk {n : Nat} {l : List Nat} (h : ∀ x ∈ l, x ∈ cols n) (h1 : 1 ≤ l.length) (hl : l.length ≤ 4) : glyphOk n l = true := by
  unfold glyphOk
  rw [← all_cols, List.all_eq_true.mpr fun x hx => decide_eq_true (h x hx), decide_eq_true hl, decide_eq_true h1]
  rfl
theorem gap_in {n : Nat} {l : List Nat} (h : gapOk n l = true) : ∀ x ∈ l, x ∈ cols n := by
  unfold gapOk at h
  rw [Bool.and_eq_true, ← all_cols, List.all_eq_true] at h
  exact fun x hx => of_decide_eq_true (h.1 x hx)
theorem gl_in {n : Nat} {l : List Nat} (h : glyphOk n l = true) : ∀ x ∈ l, x ∈ cols n := by
  unfold glyphOk at h
  rw [Bool.and_eq_true, ← all_cols, List.all_eq_true] at h
  exact fun x hx => of_decide_eq_true (h.1 x hx)
theorem cols_le {n m : Nat} (h : n ≤ m) {x : Nat} (hx : x ∈ cols n) : x ∈ cols m := by
  unfold cols at hx ⊢
  obtain ⟨k, hk, rfl⟩ := List.mem_map.mp hx
  exact List.mem_map.mpr ⟨k, List.mem_range.mpr (by have := List.mem_range.mp hk; omega), rfl⟩
/-- the list F is none of the font's own -/
theorem font_f {a : Ad} {F : Addr} {xs : List V} {H G : Hp} {y s : Addr} {r c n : Nat} {gap : List Nat} {ps : List Pr} (hF : H F = some (.lst xs)) (hy : H y = none) (fa : FontAt a G y s r c n gap ps) (fr : FontFr a H G y s r c n gap ps) : FontP a F F G y s r c n gap ps := by
  have off : ∀ dx gq td, G y = some (.ins a.Font dx (ff s gap gq td)) → gq ≠ F := fun dx gq td h q => by
    subst q
    obtain ⟨dx1, gq1, td1, ws1, f1, f2, f3, _⟩ := (fr gq xs [.int 0] hF).ob
    have nby : y ≠ gq := fun q => by rw [← q, hy] at hF; cases hF
    rw [upd_ne nby, h] at f1
    have e1 := congrArg (fun z => match z with | some (HO.ins _ _ fs) => fs.lookup ("glyphs" : Str) | _ => none) f1
    have e1 : (ff s gap gq td).lookup ("glyphs" : Str) = (ff s gap gq1 td1).lookup ("glyphs" : Str) := e1
    rw [ff_glyphs, ff_glyphs] at e1
    obtain rfl : gq = gq1 := V.ref.inj (Option.some.inj e1)
    rw [upd_same] at f2
    obtain rfl : [V.int 0] = ws1 := HO.lst.inj (Option.some.inj f2)
    have l1 := f3.1
    obtain ⟨u, g1, _⟩ := f3.2 0 _ (List.getElem?_eq_getElem (by rw [← l1]; decide))
    cases g1
  exact ⟨fa, fun dx gq td h => ⟨off dx gq td h, off dx gq td h⟩⟩
/-- the same font where no part of it was changed -/
theorem FontP.to {a : Ad} {p g F K : Addr} {H G : Hp} {y s : Addr} {r c n : Nat} {gap : List Nat} {ps : List Pr} (h : FontP a F K H y s r c n gap ps) (fa : FontAt a G y s r c n gap ps) (e : ∀ o, H y = some o → G y = some o) : FontP a F K G y s r c n gap ps := by
  obtain ⟨dx', gq', td', ws', h1, _⟩ := h.fa.ob
  refine ⟨fa, fun dx gq td k => ?_⟩
  rw [e _ h1] at k
  exact h.aw dx gq td (h1.trans k)
theorem FontAt.putF {a : Ad} {F : Addr} {xs ys : List V} {H : Hp} {y s : Addr} {r c n : Nat} {gap : List Nat} {ps : List Pr} (hF : H F = some (.lst xs)) (h : FontP a F F H y s r c n gap ps) : FontAt a (upd H F (.lst ys)) y s r c n gap ps := by
  obtain ⟨dx, gq, td, ws, h1, h2, h3, h4⟩ := h.fa.ob
  obtain ⟨sx, hs⟩ := h.fa.sch.1
  refine ⟨⟨⟨sx, ?_⟩, h.fa.sch.2⟩, ⟨dx, gq, td, ws, ?_, ?_, h3.upd hF, ?_⟩, h.fa.gap, h.fa.len, h.fa.ok⟩
  · rw [upd_ne fun e => by rw [e, hF] at hs; cases hs]
    exact hs
  · rw [upd_ne fun e => by rw [e, hF] at h1; cases h1]
    exact h1
  · rw [upd_ne (h.aw _ _ _ h1).p]
    exact h2
  · rw [upd_ne fun e => by rw [e, hF] at h4; cases h4]
    exact h4
/-- another font than the one that is told -/
def Un (a : Ad) (p g F : Addr) (G : Hp) (r c : Nat) (gap : List Nat) (ps : List Pr) (v : V) : Prop := ∃ (y s : Addr) (r2 c2 n2 : Nat) (gap2 : List Nat) (qs : List Pr), v = .ref y ∧ FontP a p g G y s r2 c2 n2 gap2 qs ∧ FontP a F F G y s r2 c2 n2 gap2 qs ∧ ¬ (r = r2 ∧ c = c2 ∧ gap = gap2 ∧ ordF ps = ordF qs)
theorem Un.mono {a : Ad} {p g F : Addr} {G M : Hp} {r c : Nat} {gap : List Nat} {ps : List Pr} {v : V} (h : Un a p g F G r c gap ps v) (e : Same G M) : Un a p g F M r c gap ps v := let ⟨y, s, r2, c2, n2, gap2, qs, h1, h2, h4, h3⟩ := h; ⟨y, s, r2, c2, n2, gap2, qs, h1, h2.mono e, h4.mono e, h3⟩
theorem Un.pg {a : Ad} {p g F : Addr} {G M : Hp} {k m r c : Nat} {gap : List Nat} {ps : List Pr} {v : V} (h : Un a p g F G r c gap ps v) (hp : PurseAt k G p g) (e : Pg m p g G M) : Un a p g F M r c gap ps v := by
  obtain ⟨y, s, r2, c2, n2, gap2, qs, h1, h2, h4, h3⟩ := h
  have f := h2.pg hp e
  refine ⟨y, s, r2, c2, n2, gap2, qs, h1, f, h4.to (p := p) (g := g) f.fa fun o ho => ?_, h3⟩
  obtain ⟨dx, gq, td, ws, k1, _⟩ := h2.fa.ob
  obtain rfl : _ = o := Option.some.inj (k1.symm.trans ho)
  exact e.at (ap_ins hp k1) k1
theorem Un.put {a : Ad} {p g F : Addr} {G : Hp} {xs ys : List V} {r c : Nat} {gap : List Nat} {ps : List Pr} {v : V} (h : Un a p g F G r c gap ps v) (hF : G F = some (.lst xs)) : Un a p g F (upd G F (.lst ys)) r c gap ps v := by
  obtain ⟨y, s, r2, c2, n2, gap2, qs, h1, h2, h4, h3⟩ := h
  have f := FontAt.putF (ys := ys) hF h4
  have e : ∀ o, G y = some o → (upd G F (.lst ys)) y = some o := fun o ho => by
    obtain ⟨dx, gq, td, ws, k1, _⟩ := h2.fa.ob
    rw [upd_ne fun e => by rw [e, hF] at k1; cases k1]
    exact ho
  exact ⟨y, s, r2, c2, n2, gap2, qs, h1, h2.to (p := p) (g := g) f e, h4.to (p := p) (g := g) f e, h3⟩
structure StU (a : Ad) (p g F : Addr) (k j : Nat) (H G : Hp) (r c : Nat) (gap : List Nat) (ps : List Pr) (fs : List V) : Prop where
  pg : Pg k p g H G
  hF : G F = some (.lst fs)
  len : fs.length ≤ j
  un : ∀ v ∈ fs, Un a p g F G r c gap ps v
theorem StU.same {a : Ad} {p g F : Addr} {k j : Nat} {H G M : Hp} {r c : Nat} {gap : List Nat} {ps : List Pr} {fs : List V} (h : StU a p g F k j H G r c gap ps fs) (e : Same G M) : StU a p g F k j H M r c gap ps fs := ⟨h.pg.same e, e _ _ h.hF, h.len, fun v hv => (h.un v hv).mono e⟩
theorem StU.pgs {a : Ad} {p g F : Addr} {k i j : Nat} {H G M : Hp} {r c : Nat} {gap : List Nat} {ps : List Pr} {fs : List V} (h : StU a p g F k j H G r c gap ps fs) (aF : Ap p g F) (e : Pg i p g G M) : StU a p g F i j H M r c gap ps fs := ⟨h.pg.trans e, e.at aF h.hF, h.len, fun v hv => (h.un v hv).pg h.pg.pu e⟩
theorem StU.le {a : Ad} {p g F : Addr} {k i j j' : Nat} {H G : Hp} {r c : Nat} {gap : List Nat} {ps : List Pr} {fs : List V} (h : StU a p g F k j H G r c gap ps fs) (e : i ≤ k) (e2 : j ≤ j') : StU a p g F i j' H G r c gap ps fs := ⟨h.pg.le e, h.hF, Nat.le_trans h.len e2, h.un⟩
theorem small_ok {n : Nat} {qs : List Pr} (h : faultF n qs [] = none) : smallP qs := fun q hq => by
  obtain ⟨h1, h2, _⟩ := (fault_none h).1 q hq
  have := let_len h1
  have := gl_len h2
  exact ⟨by omega, by omega⟩
theorem unl_make {a : Ad} {p g F L : Addr} {k j : Nat} {H M : Hp} {r c : Nat} {gap : List Nat} {ps : List Pr} {fs wl : List V} {s : Addr} {r2 c2 n2 : Nat} {gap2 : List Nat} {qs : List Pr} {y dx : Addr} {Q : VK} {E : XK}
    (hy : M y = none) (hdx : M dx = none) (hne : dx ≠ y) (hF0 : H F = none) (aF : Ap p g F) (st : StU a p g F k j H M r c gap ps fs) (sch : SchemeAt a.Scheme M s r2 c2 n2) (hL : M L = some (.lst wl)) (hP : PairsL M wl qs) (gk : gapOk n2 gap2 = true) (lq : qs.length ≤ 6) (okq : faultF n2 qs [] = none)
    (ne : ¬ (r = r2 ∧ c = c2 ∧ gap = gap2 ∧ ordF ps = ordF qs)) (z : ∀ G, Same M G → G F = some (.lst fs) → StU a p g F k (j + 1) H (upd G F (.lst (fs ++ [.ref y]))) r c gap ps (fs ++ [.ref y]) → Q .non G) : spFInit a [.ref y, .ref s, tx gap2, .ref L] (upd (upd M dx (.own y)) y (.ins a.Font dx [])) Q E := by
  have lg := gap_len gk
  refine rinitT hy hdx hne sch hL hP (by omega) (small_ok okq) (by omega) (fun t ht => by rw [due_none gk lq okq] at ht; cases ht) (fun _ G sm fa fr => z G sm (sm _ _ st.hF) ⟨((st.pg.same sm).put hF0 aF), upd_same, by rw [List.length_append]; show _ + 1 ≤ j + 1; have := st.len; omega, fun v hv => ?_⟩)
  have st2 := st.same sm
  rcases List.mem_append.mp hv with h | h
  · exact (st2.un v h).put st2.hF
  · rw [List.mem_singleton] at h
    have u : Un a p g F G r c gap ps (.ref y) := ⟨y, s, r2, c2, n2, gap2, qs, rfl, font_p st.pg.pu sm hy fa fr, font_f st.hF hy fa fr, ne⟩
    rw [h]
    exact u.put st2.hF
theorem rest_ps {ps : List Pr} {d : Nat} (h : d < ps.length) : (ps[d] :: (ps.take d ++ ps.drop (d + 1))).Perm ps := by
  have e := erase_perm h
  rw [List.eraseIdx_eq_take_drop_succ] at e
  exact e
theorem PairsL.take {H : Hp} {ws : List V} {ps : List Pr} (h : PairsL H ws ps) (d : Nat) : PairsL H (ws.take d) (ps.take d) := by
  refine ⟨by rw [List.length_take, List.length_take, h.1], fun i k hk => ?_⟩
  by_cases c : i < d
  · rw [List.getElem?_take_of_lt c] at hk ⊢
    exact h.2 i k hk
  · rw [List.getElem?_eq_none (by rw [List.length_take]; omega)] at hk
    cases hk
theorem PairsL.drop {H : Hp} {ws : List V} {ps : List Pr} (h : PairsL H ws ps) (d : Nat) : PairsL H (ws.drop d) (ps.drop d) := by
  refine ⟨by rw [List.length_drop, List.length_drop, h.1], fun i k hk => ?_⟩
  rw [List.getElem?_drop] at hk ⊢
  exact h.2 _ k hk
theorem PairsL.app {H : Hp} {ws vs : List V} {ps qs : List Pr} (h : PairsL H ws ps) (h2 : PairsL H vs qs) : PairsL H (ws ++ vs) (ps ++ qs) := by
  refine ⟨by rw [List.length_append, List.length_append, h.1, h2.1], fun i k hk => ?_⟩
  by_cases c : i < ps.length
  · rw [List.getElem?_append_left c] at hk
    rw [List.getElem?_append_left (by rw [h.1]; exact c)]
    exact h.2 i k hk
  · rw [List.getElem?_append_right (by omega)] at hk
    rw [List.getElem?_append_right (by rw [h.1]; omega), h.1]
    exact h2.2 _ k hk
section
variable {P : Program} {w : World} {K : PySem.W.Frag} {mg : Str → Option Value} {base : Heap} {a : Ad}
def spUnl (a : Ad) : Sp := fun vs H Q _ => ∃ (p g s q : Addr) (r c n m : Nat) (gap : List Nat) (ps : List Pr) (ws : List V), vs = [.ref p, .ref s, tx (cols n), tx gap, .ref q] ∧ PurseAt (m + 2) H p g ∧ SchemeAt a.Scheme H s r c n ∧ H q = some (.lst ws) ∧ Ap p g q ∧ PairsL H ws (ordF ps) ∧ gapOk n gap = true ∧ ps.length ≤ 6 ∧ faultF n ps [] = none ∧
  ∀ G D fs, StU a p g D m 10 H G r c gap ps fs → Q (.ref D) G
theorem c_law_unlike (T : Txt K mg a) : Can P w K mg base 8 "_law_unlike" (spUnl a) := by
  refine can_of T.d_law_unlike sc_law_unlike bd_law_unlike (fun vs H Q E h => ?_) (fun f cdv A outer s0 H vs Q E hr h => ?_)
  · obtain ⟨p, g, s, q, r, c, n, m, gap, ps, ws, rfl, _⟩ := h
    rfl
  · obtain ⟨p, g, s, q, r, c, n, m, gap, ps, ws, rfl, hp, sch, hq, aq, hcl, gok, h6, ok, z⟩ := h
    refine ⟨_, (pss_cons (ps_set (i := 5) sc_law_unlike.nd rfl (.inl rfl) (pe_lst pa_nil))
      (C8.pss_cut (ps_if (pt_cmpR op_lt (pe_callB call_len_str (by rfl) T.b_len (by decide +kernel) (pa_cons (pv 3) pa_nil)) pe_int (nomark _)) (pss_one (ps_expr (pe_bm PySem.F.plainAttrs_list PySem.F.slot_list_append PySem.F.type_list_append mt_append (pv 5) (pa_cons (pc_n (c_Font_init T) hr (by decide) (by rfl) (pa_cons (pv 1) (pa_cons (pe_op op_add_str (pv 3) (pe_ix ix_str (pv 2) pe_int (fun _ _ => rfl))) (pa_cons (pe_callTy (klist_of K) (by rfl) T.b_list (by decide +kernel) (pa_cons (pv 4) pa_nil)) pa_nil)))) pa_nil)))) (pss_one (ps_expr (pe_bm PySem.F.plainAttrs_list PySem.F.slot_list_append PySem.F.type_list_append mt_append (pv 5) (pa_cons (pc_n (c_Font_init T) hr (by decide) (by rfl) (pa_cons (pv 1) (pa_cons (pe_slice sl_str (pv 3) (po_some pe_int) po_none) (pa_cons (pe_callTy (klist_of K) (by rfl) T.b_list (by decide +kernel) (pa_cons (pv 4) pa_nil)) pa_nil)))) pa_nil)))))
      (C8.pss_cut (ps_if (pt_truth (pv 4) (by intro _; rfl)) (pss_cons (ps_set (i := 6) sc_law_unlike.nd rfl (.inl rfl) (pc_f (c_law_draw T) hr (by decide) (by rfl) (pa_cons (pv 0) (pa_cons (pe_callB (klen_seq K) (by rfl) T.b_len (by decide +kernel) (pa_cons (pv 4) pa_nil)) pa_nil))))
      (pss_cons (ps_asg (pe_ix (kix_list K) (pv 4) (pv 6) (fun _ _ => rfl)) (pg_tup rfl (pgs_cons (pg_name (i := 7) sc_law_unlike.nd rfl (.inl rfl)) (pgs_cons (pg_name (i := 8) sc_law_unlike.nd rfl (.inl rfl)) pgs_nil))))
      (pss_cons (ps_set (i := 9) sc_law_unlike.nd rfl (.inl rfl) (pe_op op_add_str (pv 8) (pe_ix ix_str (pv 2) (pe_un un_neg pe_int) (fun _ _ => rfl))))
      (C8.pss_cut (ps_if (pt_cmpR op_eq (pe_callB call_len_str (by rfl) T.b_len (by decide +kernel) (pa_cons (pv 8) pa_nil)) pe_int (nomark _)) (pss_one (ps_set (i := 9) sc_law_unlike.nd rfl (.inl rfl) (pe_slice sl_str (pv 8) (po_some pe_int) po_none))) pss_nil)
      (pss_cons (ps_set (i := 10) sc_law_unlike.nd rfl (.inl rfl) (pe_op op_cat (pe_slice (ksl_list K) (pv 4) po_none (po_some (pv 6))) (pe_slice (ksl_list K) (pv 4) (po_some (pe_op op_add (pv 6) pe_int)) po_none)))
      (pss_cons (ps_expr (pe_bm PySem.F.plainAttrs_list PySem.F.slot_list_append PySem.F.type_list_append mt_append (pv 5) (pa_cons (pc_n (c_Font_init T) hr (by decide) (by rfl) (pa_cons (pv 1) (pa_cons (pv 3) (pa_cons (pe_callTy (klist_of K) (by rfl) T.b_list (by decide +kernel) (pa_cons (pv 10) pa_nil)) pa_nil)))) pa_nil)))
      (pss_cons (ps_expr (pe_bm PySem.F.plainAttrs_list PySem.F.slot_list_append PySem.F.type_list_append mt_append (pv 5) (pa_cons (pc_n (c_Font_init T) hr (by decide) (by rfl) (pa_cons (pv 1) (pa_cons (pv 3) (pa_cons (pe_op op_cat (pv 10) (pe_lst (pa_cons (pe_tup (pa_cons (pv 7) (pa_cons (pv 9) pa_nil))) pa_nil))) pa_nil)))) pa_nil)))
      (pss_one (ps_expr (pe_bm PySem.F.plainAttrs_list PySem.F.slot_list_append PySem.F.type_list_append mt_append (pv 5) (pa_cons (pc_n (c_Font_init T) hr (by decide) (by rfl) (pa_cons (pv 1) (pa_cons (pv 3) (pa_cons (pe_op op_cat (pv 10) (pe_lst (pa_cons (pe_tup (pa_cons (pc_f (c_law_fresh T) hr (by decide) (by rfl) (pa_cons (pv 0) (pa_cons (pe_lc (own := [("one", 11), ("two", 12)]) (g := (gTup _ 2 (gCons (gName 11) (gCons (gName 12) gNil)))) (tt := tYes) (by rfl) sc_law_unlike.nd (kpi_list K (pv 4)) (blkOk_by (N := N_law_unlike) (sc := defScope s_law_unlike) (by decide +kernel)) (fun _ _ _ _ _ => (pg_tup rfl (pgs_cons (pg_name (i := 11) sc_law_unlike.nd rfl (.inl rfl)) (pgs_cons (pg_name (i := 12) sc_law_unlike.nd rfl (.inl rfl)) pgs_nil)))) (fun _ _ _ _ _ => pts_nil) (fun _ _ _ _ _ => (pv 11))) pa_nil))) (pa_cons (pv 8) pa_nil))) pa_nil))) pa_nil)))) pa_nil))))))))))) pss_nil)
      (pss_cons (ps_if (pt_cmpR op_lt (pe_callB call_len_str (by rfl) T.b_len (by decide +kernel) (pa_cons (pv 2) pa_nil)) pe_int (nomark _)) (pss_one (ps_expr (pe_bm PySem.F.plainAttrs_list PySem.F.slot_list_append PySem.F.type_list_append mt_append (pv 5) (pa_cons (pc_n (c_Font_init T) hr (by decide) (by rfl) (pa_cons (pc_n (c_Scheme_init T) hr (by decide) (by rfl) (pa_cons pe_int (pa_cons pe_int pa_nil))) (pa_cons (pv 3) (pa_cons (pe_callTy (klist_of K) (by rfl) T.b_list (by decide +kernel) (pa_cons (pv 4) pa_nil)) pa_nil)))) pa_nil)))) pss_nil)
      (pss_one (ps_ret (pv 5))))))), ?_⟩
    have l26 := ord_len ps
    have gn := good_n sch.2
    have lw := hcl.1
    have l6 : (ordF ps).length ≤ 6 := by rw [(ord_ps ok).length_eq]; exact h6
    have oko : faultF n (ordF ps) [] = none := fault_perm (ord_ps ok) ok
    have lg := gap_len gok
    have lcn := cols_len n
    have c0 : atI (S (cols n)).cps.toList 0 = some 97 := atI_S (i := 0) (by unfold cols; rw [List.getElem?_map, List.getElem?_range (by omega)]; rfl)
    have i0 : 97 ∈ cols n := by unfold cols; exact List.mem_map.mpr ⟨0, List.mem_range.mpr (by omega), rfl⟩
    obtain ⟨y0, cl, il⟩ : ∃ y, atI (S (cols n)).cps.toList (-1) = some y ∧ y ∈ cols n := by
      rcases List.eq_nil_or_concat (cols n) with e | ⟨v, y, e⟩
      · rw [e] at lcn; exact absurd lcn.symm (by show ¬ n = 0; omega)
      · rw [List.concat_eq_append] at e
        rw [e]
        exact ⟨y, at_last v y, List.mem_append.mpr (.inr List.mem_cons_self)⟩
    have hz2 : ∀ l m : List Nat, l.length ≤ 100 → m.length ≤ 100 → (S l).length + (S m).length ≤ sizeLine := fun l m h k => by rw [S_len, S_len]; exact szl (by omega)
    refine ⟨by decide, fun F hF => ?_⟩
    have aF := ap_new hp hF
    have sF := ex_new (o := .lst []) hF
    have st0 : StU a p g F (m + 2) 0 H (upd H F (.lst [])) r c gap ps [] := ⟨(Pg.refl hp).same sF, upd_same, by decide, nofun⟩
    generalize upd H F (.lst []) = G0 at st0 sF ⊢
    refine ⟨fun σ G => ∃ fs, StU a p g F (m + 2) 1 H G r c gap ps fs ∧ σ = [some (.ref p), some (.ref s), some (tx (cols n)), some (tx gap), some (.ref q), some (.ref F), none, none, none, none, none, none, none], ?_, ?_⟩
    · refine ⟨_, rfl, _, rfl, by rw [S_len]; exact szl (by omega), _, _, rfl, rfl, _, rfl, ?_⟩
      rw [S_len, show decide (((gap.length : Nat) : Int) < 3) = decide (gap.length < 3) by rw [decide_eq_decide]; omega]
      by_cases h3 : gap.length < 3
      · rw [decide_eq_true h3]
        refine iteT ⟨_, rfl, .inl ⟨rfl, _, seqL_of st0.hF⟩, _, rfl, _, rfl, _, rfl, _, _, 97, rfl, rfl, by rw [S_len]; exact szl (by omega), c0, _, _, rfl, rfl, hz2 _ [97] (by omega) (by decide), ?_⟩
        rw [show (⟨#[97]⟩ : Str) = S [97] from rfl, S_app]
        refine ⟨_, rfl, q, _, rfl, .inl (seqL_of (st0.pg.at aq hq)), fun L hL => ?_⟩
        have sL := ex_new (o := .lst ws) hL
        intro y dy hy hdy hne
        refine unl_make hy hdy hne hF aF (st0.same sL) ((sch.pg hp st0.pg).mono sL) upd_same ((hcl.pg hp st0.pg).mono sL) (gap_mk (fun x hx => ?_) (by rw [List.length_append]; show _ + 1 ≤ 3; omega)) l6 oko (fun e => ?_) (fun G sm hFG st1 => ⟨rfl, F, _, _, rfl, rfl, hFG, by decide, _, st1, rfl⟩)
        · rcases List.mem_append.mp hx with h | h
          · exact gap_in gok x h
          · rw [List.mem_singleton] at h
            rw [h]
            exact i0
        · have e := congrArg List.length e.2.2.1
          rw [List.length_append] at e
          have e : gap.length = gap.length + 1 := e
          omega
      · rw [decide_eq_false h3]
        refine iteF ⟨_, rfl, .inl ⟨rfl, _, seqL_of st0.hF⟩, _, rfl, _, rfl, _, rfl, _, rfl, by rw [S_len]; exact szl (by omega), ?_⟩
        rw [show cutS (S gap) (some 1) none = S (gap.drop 1) from cut_drop gap 1]
        refine ⟨_, rfl, q, _, rfl, .inl (seqL_of (st0.pg.at aq hq)), fun L hL => ?_⟩
        have sL := ex_new (o := .lst ws) hL
        intro y dy hy hdy hne
        refine unl_make hy hdy hne hF aF (st0.same sL) ((sch.pg hp st0.pg).mono sL) upd_same ((hcl.pg hp st0.pg).mono sL) (gap_mk (fun x hx => gap_in gok x (List.mem_of_mem_drop hx)) (by rw [List.length_drop]; omega)) l6 oko (fun e => ?_) (fun G sm hFG st1 => ⟨rfl, F, _, _, rfl, rfl, hFG, by decide, _, st1, rfl⟩)
        have e := congrArg List.length e.2.2.1
        rw [List.length_drop] at e
        omega
    rintro σ G1 ⟨fs1, st1, rfl⟩
    clear st0 sF
    refine ⟨fun σ G => ∃ fs, StU a p g F m 4 H G r c gap ps fs ∧ ∃ u6 u7 u8 u9 u10 u11 u12 : Option V, σ = [some (.ref p), some (.ref s), some (tx (cols n)), some (tx gap), some (.ref q), some (.ref F), u6, u7, u8, u9, u10, u11, u12], ?_, ?_⟩
    · refine ⟨_, rfl, _, tru_lst (st1.pg.at aq hq), ?_⟩
      cases hw : ws.isEmpty with
      | true =>
        refine iteF ?_
        exact ⟨fs1, st1.le (by omega) (by omega), _, _, _, _, _, _, _, rfl⟩
      | false =>
      have w0l : 0 < ws.length := by
        cases ws with
        | nil => cases hw
        | cons => exact Nat.succ_pos _
      refine iteT ?_
      refine ⟨_, rfl, _, rfl, q, _, rfl, .inl (seqL_of (st1.pg.at aq hq)), p, g, _, m + 1, rfl, st1.pg.pu, by omega, by omega, fun d G2 d0 d1 pg2 => ?_⟩
      obtain ⟨d, rfl⟩ : ∃ d' : Nat, d = (d' : Int) := ⟨d.toNat, by omega⟩
      have hd : d < (ordF ps).length := by rw [← lw]; omega
      have hk : (ordF ps)[d]? = some (ordF ps)[d] := List.getElem?_eq_getElem hd
      obtain ⟨b, hb, hcb⟩ := hcl.2 d _ hk
      have st2 := st1.pgs aF pg2
      have rp := rest_ps hd
      have hmk : (ordF ps)[d] ∈ ordF ps := List.getElem_mem hd
      generalize (ordF ps)[d] = k at hk hcb rp hmk
      refine ⟨_, rfl, _, rfl, q, ws, _, _, rfl, rfl, seqL_of (st2.pg.at aq hq), atI_nat (j := d) hb, b, _, rfl, seqT_of (st2.pg.tup hp hcb), rfl, _, _, rfl, _, _, rfl, rfl, ?_⟩
      have gk := (ord_ok ok k hmk).2
      have lk2 := gl_len gk
      refine ⟨_, rfl, _, rfl, _, rfl, _, _, y0, rfl, rfl, by rw [S_len]; exact szl (by omega), cl, _, _, rfl, rfl, hz2 _ [y0] (by omega) (by show 1 ≤ 100; decide), ?_⟩
      rw [show (⟨#[y0]⟩ : Str) = S [y0] from rfl, S_app]
      refine ⟨fun σ G => ∃ bent, glyphOk n bent = true ∧ bent ≠ k.2 ∧ G = G2 ∧ σ = [some (.ref p), some (.ref s), some (tx (cols n)), some (tx gap), some (.ref q), some (.ref F), some (.int (d : Nat)), some (tx k.1), some (tx k.2), some (tx bent), none, none, none], ?_, ?_⟩
      · refine ⟨_, rfl, _, rfl, by rw [S_len]; exact szl (by omega), rfl, _, rfl, ?_⟩
        rw [S_len, decV (i := 4) (n := 4) rfl]
        by_cases h4 : k.2.length = 4
        · rw [decide_eq_true h4]
          refine iteT ⟨_, rfl, _, rfl, _, rfl, by rw [S_len]; exact szl (by omega), ?_⟩
          rw [show cutS (S k.2) (some 1) none = S (k.2.drop 1) from cut_drop k.2 1]
          exact ⟨k.2.drop 1, gl_mk (fun x hx => gl_in gk x (List.mem_of_mem_drop hx)) (by rw [List.length_drop]; omega) (by rw [List.length_drop]; omega), (fun e => by have e := congrArg List.length e; rw [List.length_drop] at e; omega), rfl, rfl⟩
        · rw [decide_eq_false h4]
          refine iteF ⟨k.2 ++ [y0], gl_mk (fun x hx => ?_) (by rw [List.length_append]; show 1 ≤ _ + 1; omega) (by rw [List.length_append]; show _ + 1 ≤ 4; omega), (fun e => by have e := congrArg List.length e; rw [List.length_append] at e; have e : k.2.length + 1 = k.2.length := e; omega), rfl, rfl⟩
          rcases List.mem_append.mp hx with h | h
          · exact gl_in gk x h
          · rw [List.mem_singleton] at h
            rw [h]
            exact il
      rintro σ G ⟨bent, gb, nb, rfl, rfl⟩
      have hq2 := st2.pg.at aq hq
      refine ⟨_, rfl, _, rfl, _, rfl, q, ws, rfl, seqL_of hq2, fun R1 hR1 => ?_⟩
      rw [cv_take]
      have t1 := ex_new (o := .lst (ws.take d)) hR1
      have e5 : (d : Int) + 1 = ((d + 1 : Nat) : Int) := by omega
      refine ⟨_, rfl, _, rfl, _, _, rfl, rfl, _, rfl, q, ws, rfl, seqL_of (t1 _ _ hq2), fun R2 hR2 => ?_⟩
      rw [e5, cv_drop]
      have t2 := ex_new (o := .lst (ws.drop (d + 1))) hR2
      have lrest0 : (ws.take d ++ ws.drop (d + 1)).length ≤ 20 := by rw [List.length_append, List.length_take, List.length_drop]; omega
      refine ⟨R1, R2, _, _, rfl, rfl, t2 _ _ upd_same, upd_same, by rw [← List.length_append]; exact szl (by omega), fun R hR => ?_⟩
      have t3 := ex_new (o := .lst (ws.take d ++ ws.drop (d + 1))) hR
      have st3 := st2.same ((t1.trans t2).trans t3)
      have hR3 : (upd (upd (upd G R1 (.lst (ws.take d))) R2 (.lst (ws.drop (d + 1)))) R (.lst (ws.take d ++ ws.drop (d + 1)))) R = some (.lst (ws.take d ++ ws.drop (d + 1))) := upd_same
      have fR := st2.pg.2.2 _ (free_same (t1.trans t2) hR)
      have aR := ap_new hp fR
      have nRF : R ≠ F := fun e => by
        have h := (t1.trans t2) _ _ st2.hF
        rw [← e, hR] at h
        cases h
      generalize upd (upd (upd G R1 (.lst (ws.take d))) R2 (.lst (ws.drop (d + 1)))) R (.lst (ws.take d ++ ws.drop (d + 1))) = G3 at st3 hR3 ⊢
      generalize hwr : ws.take d ++ ws.drop (d + 1) = wr at hR3 lrest0
      have hPr : ∀ {M : Hp} {i : Nat}, Pg i p g H M → PairsL M wr ((ordF ps).take d ++ (ordF ps).drop (d + 1)) := fun pg => by
        rw [← hwr]
        exact ((hcl.pg hp pg).take d).app ((hcl.pg hp pg).drop (d + 1))
      generalize (ordF ps).take d ++ (ordF ps).drop (d + 1) = rest at rp hPr
      have okC : faultF n (k :: rest) [] = none := fault_perm rp oko
      obtain ⟨cC, nC⟩ := fault_none okC
      have nC : (k.1 :: lets rest).Nodup := nC
      obtain ⟨nk, nR⟩ := List.nodup_cons.mp nC
      have okR : faultF n rest [] = none := fault_of (fun x hx => cC x (List.mem_cons_of_mem _ hx)) nR
      have lrest : rest.length + 1 = (ordF ps).length := rp.length_eq
      have ne1 : ¬ (r = r ∧ c = c ∧ gap = gap ∧ ordF ps = ordF rest) := fun e => by
        have e := congrArg List.length e.2.2.2
        rw [(ord_ps okR).length_eq] at e
        omega
      refine ⟨_, rfl, .inl ⟨rfl, _, seqL_of st3.hF⟩, _, rfl, _, rfl, _, rfl, R, _, rfl, .inl (seqL_of hR3), fun L hL => ?_⟩
      have sL := ex_new (o := .lst wr) hL
      intro y dy hy hdy hne
      refine unl_make hy hdy hne hF aF (st3.same sL) (sch.pg hp (st3.pg.same sL)) upd_same (hPr (st3.pg.same sL)) gok (by omega) okR ne1 (fun G5 sm5 hF5 st5 => ⟨rfl, F, _, _, rfl, rfl, hF5, szlt (by have := st3.len; omega), ?_⟩)
      have hR5 : (upd G5 F (.lst (fs1 ++ [.ref y]))) R = some (.lst wr) := by rw [upd_ne nRF]; exact sm5 _ _ (sL _ _ hR3)
      generalize upd G5 F (.lst (fs1 ++ [.ref y])) = G6 at st5 hR5 ⊢
      have c2 : ∀ bn, glyphOk n bn = true → faultF n (rest ++ [(k.1, bn)]) [] = none := fun bn gbn => by
        refine fault_of (fun x hx => ?_) ?_
        · rcases List.mem_append.mp hx with h | h
          · exact cC x (List.mem_cons_of_mem _ h)
          · rw [List.mem_singleton] at h
            rw [h]
            exact ⟨(cC k List.mem_cons_self).1, gbn, nofun⟩
        · unfold lets
          rw [List.map_append]
          exact (List.perm_append_singleton _ _).nodup_iff.mpr nC
      have ok2 := c2 bent gb
      have ne2 : ¬ (r = r ∧ c = c ∧ gap = gap ∧ ordF ps = ordF (rest ++ [(k.1, bent)])) := fun e => by
        have h1 : (k.1, bent) ∈ ordF ps := by
          rw [e.2.2.2]
          exact (mem_ord ok2).mpr (List.mem_append_right _ List.mem_cons_self)
        exact nb ((gly_ord h1).symm.trans (gly_ord hmk))
      refine ⟨_, rfl, .inl ⟨rfl, _, seqL_of st5.hF⟩, _, rfl, _, rfl, _, rfl, _, rfl, _, rfl, by show 2 ≤ sizeLine; decide, fun u hu => ⟨by show 1 ≤ sizeLine; decide, fun B hB => ?_⟩⟩
      have x0 := ex_new (o := .tup [tx k.1, tx bent]) hu
      have x1 := ex_new (o := .lst [.ref u]) hB
      refine ⟨R, B, _, _, rfl, rfl, (x0.trans x1) _ _ hR5, upd_same, by show _ + 1 ≤ _; exact szlt (by omega), fun L2 hL2 => ?_⟩
      have x2 := ex_new (o := .lst (wr ++ [.ref u])) hL2
      have xs := (x0.trans x1).trans x2
      intro y2 dy2 hy2 hdy2 hne2
      have hu2 := (x1.trans x2) _ _ (upd_same (H := G6) (a := u) (o := .tup [tx k.1, tx bent]))
      refine unl_make hy2 hdy2 hne2 hF aF (st5.same xs) (sch.pg hp (st5.pg.same xs)) upd_same ((hPr (st5.pg.same xs)).snoc (k := (k.1, bent)) hu2) gok (by rw [List.length_append]; show _ + 1 ≤ 6; omega) ok2 ne2 (fun G8 sm8 hF8 st8 => ⟨rfl, F, _, _, rfl, rfl, hF8, szlt (by have := st5.len; omega), ?_⟩)
      have hR7 : (upd G8 F (.lst ((fs1 ++ [.ref y]) ++ [.ref y2]))) R = some (.lst wr) := by rw [upd_ne nRF]; exact sm8 _ _ (xs _ _ hR5)
      generalize upd G8 F (.lst ((fs1 ++ [.ref y]) ++ [.ref y2])) = G7 at st8 hR7 ⊢
      have hq7 := st8.pg.at aq hq
      have hcl7 := hcl.pg hp st8.pg
      refine ⟨_, rfl, .inl ⟨rfl, _, seqL_of st8.hF⟩, _, rfl, _, rfl, _, rfl, _, rfl, _, rfl, q, rfl, ⟨_, seqL_of hq7⟩, fun D hD => ?_⟩
      refine lc_it (vs := [11, 12]) (σ := [some (.ref p), some (.ref s), some (tx (cols n)), some (tx gap), some (.ref q), some (.ref F), some (.int (d : Nat)), some (tx k.1), some (tx k.2), some (tx bent), some (.ref R), none, none]) (g := gTup K 2 (gCons (gName 11) (gCons (gName 12) gNil))) (tt := tYes) (te := tVar 11) (walk_list (xs := ws)) (fun i N => Same G7 N ∧ N D = some (.lst ((((ordF ps).take i).map (·.1)).map tx))) ⟨ex_new hD, upd_same⟩ (fun i N _ h => seqL_of (h.1 _ _ hq7)) ?_ ?_
      · rintro i x N0 N hi ⟨sN, hND⟩ ⟨rfl, hx⟩
        have hi : i < (ordF ps).length := by rw [← hcl7.1]; exact hi
        have hk : (ordF ps)[i]? = some (ordF ps)[i] := List.getElem?_eq_getElem hi
        obtain ⟨b, hb, hcb⟩ := hcl7.2 i _ hk
        obtain rfl : V.ref b = x := Option.some.inj (hb.symm.trans hx)
        rw [List.take_add_one, hk]
        generalize (ordF ps)[i] = k at hk hcb
        refine ⟨b, _, rfl, seqT_of (sN _ _ hcb), rfl, _, _, rfl, _, _, rfl, rfl, ?_⟩
        refine ⟨rfl, ?_⟩
        unfold tYes
        dsimp only
        rw [if_pos rfl]
        refine ⟨_, rfl, _, hND, by rw [List.length_map, List.length_map, List.length_take]; exact szlt (by omega), ex_mut sN hD, ?_⟩
        rw [upd_same, List.map_append, List.map_append]
        rfl
      rintro N ⟨sN, hND⟩
      rw [List.take_of_length_le (Nat.le_of_eq hcl7.1.symm)] at hND
      have st9 := st8.same sN
      have hR9 := sN _ _ hR7
      refine ⟨p, g, D, lets (ordF ps), m, rfl, hND, by unfold lets; rw [List.length_map]; omega, st9.pg.pu, fun z0 G10 z1 z2 z3 pg10 => ?_⟩
      have st10 := st9.pgs aF pg10
      have hR10 := pg10.at aR hR9
      refine ⟨_, rfl, by show 2 ≤ sizeLine; decide, fun u3 hu3 => ⟨by show 1 ≤ sizeLine; decide, fun B3 hB3 => ?_⟩⟩
      have w0 := ex_new (o := .tup [tx [z0], tx k.2]) hu3
      have w1 := ex_new (o := .lst [.ref u3]) hB3
      refine ⟨R, B3, _, _, rfl, rfl, (w0.trans w1) _ _ hR10, upd_same, by show _ + 1 ≤ _; exact szlt (by omega), fun L4 hL4 => ?_⟩
      have w2 := ex_new (o := .lst (wr ++ [.ref u3])) hL4
      have wss := (w0.trans w1).trans w2
      have hu4 := (w1.trans w2) _ _ (upd_same (H := G10) (a := u3) (o := .tup [tx [z0], tx k.2]))
      have ok3 : faultF n (rest ++ [([z0], k.2)]) [] = none := by
        refine fault_of (fun x hx => ?_) ?_
        · rcases List.mem_append.mp hx with h | h
          · exact cC x (List.mem_cons_of_mem _ h)
          · rw [List.mem_singleton] at h
            rw [h]
            exact ⟨by rw [isLet_one]; exact decide_eq_true ⟨z1, z2⟩, gk, nofun⟩
        · unfold lets
          rw [List.map_append]
          refine (List.perm_append_singleton _ _).nodup_iff.mpr (List.nodup_cons.mpr ⟨fun h => z3 ?_, nR⟩)
          obtain ⟨x, hx, e⟩ := List.mem_map.mp h
          exact List.mem_map.mpr ⟨x, rp.mem_iff.mp (List.mem_cons_of_mem _ hx), e⟩
      have ne3 : ¬ (r = r ∧ c = c ∧ gap = gap ∧ ordF ps = ordF (rest ++ [([z0], k.2)])) := fun e => by
        have h1 : ([z0], k.2) ∈ ordF ps := by
          rw [e.2.2.2]
          exact (mem_ord ok3).mpr (List.mem_append_right _ List.mem_cons_self)
        exact z3 (List.mem_map.mpr ⟨_, h1, rfl⟩)
      intro y3 dy3 hy3 hdy3 hne3
      refine unl_make hy3 hdy3 hne3 hF aF (st10.same wss) (sch.pg hp (st10.pg.same wss)) upd_same ((hPr (st10.pg.same wss)).snoc (k := ([z0], k.2)) hu4) gok (by rw [List.length_append]; show _ + 1 ≤ 6; omega) ok3 ne3 (fun G12 sm12 hF12 st12 => ⟨rfl, F, _, _, rfl, rfl, hF12, szlt (by have := st10.len; omega), _, st12.le (by omega) (by omega), _, _, _, _, _, _, _, rfl⟩)
    rintro σ G2 ⟨fs2, st2, u6, u7, u8, u9, u10, u11, u12, rfl⟩
    refine ⟨_, rfl, _, rfl, by rw [S_len]; exact szl (by omega), _, _, rfl, rfl, _, rfl, ?_⟩
    rw [S_len, lcn, show decide (((n : Nat) : Int) < 4) = decide (n < 4) by rw [decide_eq_decide]; omega]
    by_cases h4 : n < 4
    · rw [decide_eq_true h4]
      refine iteT ⟨_, rfl, .inl ⟨rfl, _, seqL_of st2.hF⟩, ?_⟩
      intro sy sdy hsy hsdy hsne
      refine ⟨sy, sdy, 2, 2, rfl, upd_same, (fun l e => by rw [show badPart 2 2 = none by decide] at e; cases e), fun _ G kp ⟨r', c', n', e1, e2, schG⟩ => ⟨rfl, ?_⟩⟩
      obtain rfl : r' = 2 := by omega
      obtain rfl : c' = 2 := by omega
      have en : n' = 4 := by rcases schG.2.cases with h | h | h | h | h <;> omega
      subst en
      have sG : Same G2 G := fun b o hb => kp b o (by
        rw [upd_ne (fun e => by rw [e, hsy] at hb; cases hb), upd_ne (fun e => by rw [e, hsdy] at hb; cases hb)]
        exact hb) (fun e => by rw [e, hsy] at hb; cases hb)
      have st3 := st2.same sG
      refine ⟨_, rfl, _, rfl, q, _, rfl, .inl (seqL_of (st3.pg.at aq hq)), fun L hL => ?_⟩
      have sL := ex_new (o := .lst ws) hL
      have ok4 : faultF 4 (ordF ps) [] = none := by
        obtain ⟨h1, h2⟩ := fault_none oko
        refine fault_of (fun x hx => ?_) h2
        obtain ⟨k1, k2, k3⟩ := h1 x hx
        have := gl_len k2
        exact ⟨k1, gl_mk (fun z hz => cols_le (by omega) (gl_in k2 z hz)) (by omega) (by omega), k3⟩
      intro y dy hy hdy hne
      refine unl_make hy hdy hne hF aF (st3.same sL) (schG.mono sL) upd_same (hcl.pg hp (st3.pg.same sL)) (gap_mk (fun z hz => cols_le (by omega) (gap_in gok z hz)) lg) l6 ok4 (fun e => ?_) (fun G5 sm5 hF5 st5 => ⟨rfl, F, _, _, rfl, rfl, hF5, szlt (by have := st3.len; omega), _, rfl, z _ F _ (st5.le (by omega) (by omega))⟩)
      have e1 := e.1
      rcases sch.2.cases with h | h | h | h | h <;> omega
    · rw [decide_eq_false h4]
      exact iteF ⟨_, rfl, z _ F _ (st2.le (by omega) (by omega))⟩
end
end K32

end
section
set_option Elab.async false
set_option linter.all false
set_option maxRecDepth 100000
set_option maxHeartbeats 4000000
namespace K32
open PySem PySem.Spec PyProof.Rows L2 Kit SrtO
def kH (H : Hp) (v : V) : Str × Str := match v with
  | .ref t => (match H t with
    | some (.tup [.str x, .str y]) => (x, y)
    | _ => (S [], S []))
  | _ => (S [], S [])
theorem kH_at {H : Hp} {t : Addr} {x y : Str} (h : H t = some (.tup [.str x, .str y])) : kH H (.ref t) = (x, y) := by
  show (match H t with
    | some (.tup [.str x, .str y]) => (x, y)
    | _ => (S [], S [])) = _
  rw [h]
def eP (p : Pr) : Str × Str := (S p.1, S p.2)
theorem kH_map {H : Hp} {ws : List V} {ps : List Pr} (h : PairsL H ws ps) : ws.map (kH H) = ps.map eP := by
  refine List.ext_getElem? fun i => ?_
  rw [List.getElem?_map, List.getElem?_map]
  by_cases c : i < ps.length
  · have hk := List.getElem?_eq_getElem c
    obtain ⟨b, h1, h2⟩ := h.2 i _ hk
    rw [hk, h1]
    exact congrArg some (kH_at h2)
  · rw [List.getElem?_eq_none (by rw [h.1]; omega), List.getElem?_eq_none (by omega)]
    rfl
theorem lex_ord {ps : List Pr} : ((ordF ps).map eP).Pairwise fun x y => lexS y x = false := by
  unfold ordF
  rw [List.map_map, List.pairwise_map]
  refine (srt_pw ps).imp fun {x y} hlt => ?_
  show (if S [y] = S [x] then _ else ltS (S [y]) (S [x])) = false
  rw [if_neg fun e => by have e := S_inj e; injection e with e; omega]
  refine decide_eq_false fun h => ?_
  have h : [y] < [x] := h
  rw [List.cons_lt_cons_iff] at h
  first | (rcases h with h | ⟨_, h⟩ <;> first | omega | exact List.lt_irrefl _ h) | omega
theorem lex_anti {x y : Str × Str} (h1 : lexS y x = false) (h2 : lexS x y = false) : x = y := by
  unfold lexS at h1 h2
  by_cases e : x.1 = y.1
  · rw [if_pos e.symm] at h1
    rw [if_pos e] at h2
    exact Prod.ext e (ltS_eq h2 h1)
  · rw [if_neg fun q => e q.symm] at h1
    rw [if_neg e] at h2
    exact absurd (ltS_eq h2 h1) e
theorem sorted_ok {n : Nat} {ps : List Pr} (ok : faultF n ps [] = none) {H : Hp} {ws : List V} (h : PairsL H ws ps) : (∀ x ∈ ws, ∃ t, x = V.ref t ∧ H t = some (.tup [.str (kH H x).1, .str (kH H x).2])) ∧ ∀ ys, Srtd (ltQ (kH H)) ys → Stb (ltQ (kH H)) ys ws → PairsL H ys (ordF ps) := by
  have all : ∀ x ∈ ws, ∃ t, x = V.ref t ∧ H t = some (.tup [.str (kH H x).1, .str (kH H x).2]) := fun x hx => by
    obtain ⟨i, hi⟩ := List.getElem?_of_mem hx
    have c : i < ps.length := by rw [← h.1]; exact (List.getElem?_eq_some_iff.mp hi).1
    obtain ⟨b, h1, h2⟩ := h.2 i _ (List.getElem?_eq_getElem c)
    obtain rfl : x = .ref b := Option.some.inj (hi.symm.trans h1)
    exact ⟨b, rfl, by rw [kH_at h2]; exact h2⟩
  refine ⟨all, fun ys hs hb => ?_⟩
  have e : ys.map (kH H) = (ordF ps).map eP := by
    have p1 : (ys.map (kH H)).Perm ((ordF ps).map eP) := by
      refine (hb.perm.map (kH H)).trans ?_
      rw [kH_map h]
      exact (ord_ps ok).symm.map eP
    exact p1.eq_of_pairwise (fun x y _ _ h1 h2 => lex_anti h1 h2) (List.pairwise_map.mpr hs) lex_ord
  have le : ys.length = (ordF ps).length := by
    have := congrArg List.length e
    rwa [List.length_map, List.length_map] at this
  refine ⟨le, fun i k hk => ?_⟩
  have c : i < ys.length := by rw [le]; exact (List.getElem?_eq_some_iff.mp hk).1
  have hy := List.getElem?_eq_getElem c
  obtain ⟨t, h1, h2⟩ := all _ (hb.perm.mem_iff.mp (List.getElem_mem c))
  have e2 := congrArg (fun l => l[i]?) e
  have e2 : (ys.map (kH H))[i]? = ((ordF ps).map eP)[i]? := e2
  rw [List.getElem?_map, List.getElem?_map, hy, hk] at e2
  have e3 : kH H ys[i] = eP k := Option.some.inj e2
  rw [e3] at h2
  exact ⟨t, by rw [hy, h1], h2⟩
/-! ### the written form is read back -/
theorem joinL_cons (c : Nat) (l m : List Nat) (ls : List (List Nat)) : TL.joinL [c] (l :: m :: ls) = l ++ c :: TL.joinL [c] (m :: ls) := rfl
theorem cutc_join {c : Nat} : ∀ {ls : List (List Nat)} {l acc : List Nat}, (∀ x ∈ l :: ls, c ∉ x) → cutc c acc (TL.joinL [c] (l :: ls)) = (acc ++ l) :: ls
  | [], l, acc, h => by
    show cutc c acc l = _
    exact cutc_none (h l List.mem_cons_self)
  | m :: ls, l, acc, h => by
    rw [show TL.joinL [c] (l :: m :: ls) = l ++ c :: TL.joinL [c] (m :: ls) from joinL_cons c l m ls]
    rw [cutc_at (h l List.mem_cons_self), cutc_join fun x hx => h x (List.mem_cons_of_mem _ hx)]
    rfl
theorem all_pieces : ∀ {ps : List Pr}, okPs ps → allL (ps.map pieceF) = some ps
  | [], _ => rfl
  | p :: ps, h => by
    have hp := h p List.mem_cons_self
    have n1 : 61 ∉ p.1 := fun m => (hp.1.1 _ m).2.1 rfl
    have n2 : 61 ∉ p.2 := fun m => (hp.2.1 _ m).2.1 rfl
    show allL (pieceF p :: ps.map pieceF) = _
    rw [allL_ok (show pieceL (pieceF p) = some (p.1, p.2) from piece_at n1 n2), all_pieces fun q hq => h q (List.mem_cons_of_mem _ hq)]
    rfl
theorem not_join {c d : Nat} (hne : c ≠ d) : ∀ {ls : List (List Nat)}, (∀ x ∈ ls, d ∉ x) → d ∉ TL.joinL [c] ls
  | [], _ => nofun
  | [l], h => h l List.mem_cons_self
  | l :: m :: ls, h => fun hm => by
    rw [joinL_cons] at hm
    rcases List.mem_append.mp hm with hm | hm
    · exact h l List.mem_cons_self hm
    rcases List.mem_cons.mp hm with hm | hm
    · exact hne hm.symm
    · exact not_join hne (fun x hx => h x (List.mem_cons_of_mem _ hx)) hm
theorem piece_no4 {p : Pr} (h : okTx p.1 ∧ okTx p.2) {d : Nat} (hd : d = 44 ∨ d = 124) : d ∉ pieceF p := fun m => by
  unfold pieceF at m
  rcases List.mem_append.mp m with m | m
  · have := h.1.1 d m
    omega
  · rcases List.mem_cons.mp m with m | m
    · omega
    · have := h.2.1 d m
      omega
theorem parse_line {gap : List Nat} {ps : List Pr} (hg : nsF gap) (h : okPs ps) : parseL (lineF gap ps) = some (gap, ps) := by
  unfold lineF
  have n1 : 124 ∉ TL.joinL [44] (ps.map pieceF) := not_join (by decide) fun x hx => by
    obtain ⟨p, hp, rfl⟩ := List.mem_map.mp hx
    exact piece_no4 (h p hp) (.inr rfl)
  rw [parse_at n1 fun m => (hg _ m).2.2 rfl]
  have e : cutP (TL.joinL [44] (ps.map pieceF)) = ps.map pieceF := by
    cases ps with
    | nil => rfl
    | cons p ps =>
      have e := cutc_join (c := 44) (ls := ps.map pieceF) (l := pieceF p) (acc := []) fun x hx => by
        obtain ⟨q, hq, rfl⟩ := List.mem_map.mp (show x ∈ (p :: ps).map pieceF from hx)
        exact piece_no4 (h q hq) (.inl rfl)
      unfold cutP
      rw [if_neg fun q => ?_]
      · exact e
      · have hm : 61 ∈ pieceF p := List.mem_append_right _ List.mem_cons_self
        have q : TL.joinL [44] (pieceF p :: ps.map pieceF) = [] := q
        cases ps with
        | nil =>
          have q : pieceF p = [] := q
          rw [q] at hm
          cases hm
        | cons p2 ps =>
          have q : TL.joinL [44] (pieceF p :: pieceF p2 :: ps.map pieceF) = [] := q
          rw [joinL_cons] at q
          rw [(List.append_eq_nil_iff.mp q).1] at hm
          cases hm
  rw [e, all_pieces h]
  rfl
theorem ps_okPs {n : Nat} {ps : List Pr} (n9 : n ≤ 9) (h : faultF n ps [] = none) : okPs ps := fun q hq => let h := (fault_none h).1 q hq; ⟨let_ok h.1, gl_ok n9 h.2.1⟩
theorem line_len {n : Nat} {gap : List Nat} {ps : List Pr} (lg : gap.length ≤ 3) (h6 : ps.length ≤ 6) (h : faultF n ps [] = none) : (lineF gap ps).length ≤ 500 := by
  have lp : ∀ l ∈ ps.map pieceF, l.length ≤ 6 := fun l hl => by
    obtain ⟨p, hp, rfl⟩ := List.mem_map.mp hl
    obtain ⟨h1, h2, _⟩ := (fault_none h).1 p hp
    have := let_len h1
    have := gl_len h2
    unfold pieceF
    rw [List.length_append, List.length_cons]
    omega
  have lj := joinL_len (s := [44]) lp
  rw [List.length_map] at lj
  have lj : (TL.joinL [44] (ps.map pieceF)).length ≤ ps.length * 7 := lj
  unfold lineF
  rw [List.length_append, List.length_cons]
  omega
theorem dec_same {r c : Nat} {gap : List Nat} {ps qs : List Pr} (e : ordF ps = ordF qs) : (decide (r = r) && decide (c = c) && decide (gap = gap) && decide (ordF ps = ordF qs)) = true := by
  rw [decide_eq_true rfl, decide_eq_true rfl, decide_eq_true rfl, decide_eq_true e]
  rfl
theorem dec_not {r c r2 c2 : Nat} {gap gap2 : List Nat} {ps qs : List Pr} (e : ¬ (r = r2 ∧ c = c2 ∧ gap = gap2 ∧ ordF ps = ordF qs)) : (decide (r = r2) && decide (c = c2) && decide (gap = gap2) && decide (ordF ps = ordF qs)) = false := by
  rw [← Bool.decide_and, ← Bool.decide_and, ← Bool.decide_and]
  exact decide_eq_false fun h => e ⟨h.1.1.1, h.1.1.2, h.1.2, h.2⟩
section
variable {P : Program} {w : World} {K : PySem.W.Frag} {mg : Str → Option Value} {base : Heap} {a : Ad}
def spGood (a : Ad) : Sp := fun vs H Q _ => ∃ (p g y s q : Addr) (r c n m : Nat) (gap : List Nat) (ps : List Pr) (ws : List V), vs = [.ref p, .ref y, .ref s, tx (cols n), tx gap, .ref q] ∧ PurseAt (m + 100) H p g ∧ FontP a p g H y s r c n gap ps ∧ H q = some (.lst ws) ∧ Ap p g q ∧ PairsL H ws ps ∧ ∀ G, Pg m p g H G → Q (.bl true) G
theorem c_law_good (T : Txt K mg a) : Can P w K mg base 10 "_law_good" (spGood a) := by
  refine can_of T.d_law_good sc_law_good bd_law_good (fun vs H Q E h => ?_) (fun f cdv A outer s0 H vs Q E hr h => ?_)
  · obtain ⟨p, g, y, s, q, r, c, n, m, gap, ps, ws, rfl, _⟩ := h
    rfl
  · obtain ⟨p, g, y, s, q, r, c, n, m, gap, ps, ws, rfl, hp, fp, hq, aq, hcl, z⟩ := h
    refine ⟨_, (pss_cons (ps_set (i := 6) sc_law_good.nd rfl (.inl rfl) (pe_callB (cr_sortedPS K) (by rfl) T.b_sorted (by decide +kernel) (pa_cons (pv 5) pa_nil)))
      (pss_cons (ps_if (PW.pt (pw_or (pt_not (pt_val (pc_f (c_law_fields T) hr (by decide) (by rfl) (pa_cons (pv 1) (pa_cons (pv 2) (pa_cons (pv 4) (pa_cons (pv 6) pa_nil))))))) (pw_or1 (pt_not (pt_val (pc_f (c_law_members T) hr (by decide) (by rfl) (pa_cons (pv 1) (pa_cons (pv 6) pa_nil)))))))) (pss_one (ps_ret pe_bl)) pss_nil)
      (pss_cons (ps_if (pt_not (pt_val (pc_f (c_law_prints T) hr (by decide) (by rfl) (pa_cons (pv 0) (pa_cons (pv 1) (pa_cons (pv 4) (pa_cons (pv 6) pa_nil))))))) (pss_one (ps_ret pe_bl)) pss_nil)
      (pss_cons (ps_set (i := 7) sc_law_good.nd rfl (.inl rfl) (pc_n (c_Font_init T) hr (by decide) (by rfl) (pa_cons (pv 2) (pa_cons (pv 4) (pa_cons (pc_f (c_law_shuffled T) hr (by decide) (by rfl) (pa_cons (pv 0) (pa_cons (pv 5) pa_nil))) pa_nil)))))
      (pss_cons (ps_set (i := 8) sc_law_good.nd rfl (.inl rfl) (pc_cm (c_Font_read T) hr (by decide) (pe_glob (v := .ref a.Font) (by rfl) T.c_Font.gC rfl) (pa_cons (pv 2) (pa_cons (pc_f (c_law_line T) hr (by decide) (by rfl) (pa_cons (pv 4) (pa_cons (pc_f (c_law_shuffled T) hr (by decide) (by rfl) (pa_cons (pv 0) (pa_cons (pv 5) pa_nil))) pa_nil))) pa_nil))))
      (pss_cons (ps_if (PW.pt (pw_or (pt_not (pt_cmpR (eqO2 K (c_Font_eq T) hr (by decide) T.y_ni T.y_ns T.y_nl) (pv 1) (pv 7) (nomark _))) (pw_or (pt_not (pt_cmpR (eqO2 K (c_Font_eq T) hr (by decide) T.y_ni T.y_ns T.y_nl) (pv 8) (pv 1) (nomark _))) (pw_or1 (pt_not (pt_cmpR (eqO2 K (c_Font_eq T) hr (by decide) T.y_ni T.y_ns T.y_nl) (pv 7) (pv 8) (nomark _))))))) (pss_one (ps_ret pe_bl)) pss_nil)
      (pss_cons (ps_if (PW.pt (pw_or (pt_not (pt_val (pc_f (c_law_fields T) hr (by decide) (by rfl) (pa_cons (pv 8) (pa_cons (pv 2) (pa_cons (pv 4) (pa_cons (pv 6) pa_nil))))))) (pw_or1 (pt_not (pt_val (pc_f (c_law_fields T) hr (by decide) (by rfl) (pa_cons (pv 7) (pa_cons (pv 2) (pa_cons (pv 4) (pa_cons (pv 6) pa_nil)))))))))) (pss_one (ps_ret pe_bl)) pss_nil)
      (pss_cons (ps_for (passes_of rfl) (by rfl) (kpi_list K (pc_f (c_law_unlike T) hr (by decide) (by rfl) (pa_cons (pv 0) (pa_cons (pv 2) (pa_cons (pv 3) (pa_cons (pv 4) (pa_cons (pv 6) pa_nil))))))) (pg_name (i := 9) sc_law_good.nd rfl (.inl rfl)) (pss_one (ps_if (PW.pt (pw_or (pt_cmpR (eqO2 K (c_Font_eq T) hr (by decide) T.y_ni T.y_ns T.y_nl) (pv 1) (pv 9) (nomark _)) (pw_or1 (pt_cmpR (eqO2 K (c_Font_eq T) hr (by decide) T.y_ni T.y_ns T.y_nl) (pv 9) (pv 1) (nomark _))))) (pss_one (ps_ret pe_bl)) pss_nil)))
      (pss_cons (ps_if (PW.pt (pw_or (pt_cmpR (eqO2 K (c_Font_eq T) hr (by decide) T.y_ni T.y_ns T.y_nl) (pv 1) (pe_callTy (strO (c_Font_str T) hr (by decide)) (by rfl) T.b_str (by decide +kernel) (pa_cons (pv 1) pa_nil)) (nomark _)) (pw_or (pt_cmpR (eqO2 K (c_Font_eq T) hr (by decide) T.y_ni T.y_ns T.y_nl) (pv 1) pe_int (nomark _)) (pw_or1 (pt_cmpR (eqO2 K (c_Font_eq T) hr (by decide) T.y_ni T.y_ns T.y_nl) (pv 1) (pv 6) (nomark _)))))) (pss_one (ps_ret pe_bl)) pss_nil)
      (pss_one (ps_ret (pe_and (pc_f (c_law_fields T) hr (by decide) (by rfl) (pa_cons (pv 1) (pa_cons (pv 2) (pa_cons (pv 4) (pa_cons (pv 6) pa_nil))))) (pe_one (pe_cmpR op_eq (pc_m (c_Font_printed T) hr (by decide) (pv 8) (pa_cons pe_str pa_nil)) pe_str (nomark _))))))))))))))), ?_⟩
    have ok := fp.fa.ok
    have gok := fp.fa.gap
    have h6 := fp.fa.len
    have sch := fp.fa.sch
    have gn := good_n sch.2
    have lg := gap_len gok
    have nd := (fault_none ok).2
    have eo : ∀ {qs : List Pr}, qs.Perm ps → ordF ps = ordF qs := fun h => (ord_perm h nd).symm
    obtain ⟨so1, so2⟩ := sorted_ok ok hcl
    refine ⟨_, rfl, q, ws, kH H, rfl, seqL_of hq, so1, fun ys O hs hb hO => ?_⟩
    have hPo := so2 ys hs hb
    have sO := ex_new (o := .lst ys) hO
    have aO := ap_new hp hO
    have hO0 : (upd H O (.lst ys)) O = some (.lst ys) := upd_same
    generalize upd H O (.lst ys) = G0 at sO hO0 ⊢
    refine ⟨_, rfl, _, rfl, _, rfl, _, rfl, y, s, O, r, c, n, gap, ps, ys, rfl, fp.fa.mono sO, hO0, hPo.mono sO, fun G1 s1 => ⟨_, rfl, iteF ?_⟩⟩
    have t1 := sO.trans s1
    refine ⟨_, rfl, _, rfl, y, s, O, r, c, n, gap, ps, ys, rfl, fp.fa.mono t1, s1 _ _ hO0, hPo.mono t1, fun G2 s2 => ⟨_, rfl, iteF ?_⟩⟩
    have t2 := t1.trans s2
    have hO2 := s2 _ _ (s1 _ _ hO0)
    refine ⟨_, rfl, _, rfl, _, rfl, _, rfl, p, g, y, s, O, r, c, n, m + 60, gap, ps, ys, rfl, (hp.mono t2).le (by omega), fp.mono t2, hO2, aO, hPo.mono t2, fun G3 pg3 => ⟨_, rfl, iteF ?_⟩⟩
    have pgA := same_pg t2 pg3
    have hO3 := pg3.at aO hO2
    refine ⟨_, rfl, _, rfl, _, rfl, _, rfl, p, g, q, m + 50, ws, ps, rfl, pgA.pu.le (by omega), pgA.at aq hq, hcl.pg hp pgA, by omega, fun G4 D1 w1 p1 pg4 hD1 hG4 hP4 perm1 => ?_⟩
    have pgB := pgA.trans pg4
    have hO4 := pg4.at aO hO3
    have ok1 := fault_perm perm1 ok
    have l1 := perm1.length_eq
    intro y1 dy1 hy1 hdy1 hne1
    refine rinitT hy1 hdy1 hne1 (sch.pg hp pgB) hG4 hP4 (by omega) (small_ok ok1) (by omega) (fun t ht => by rw [due_none gok (by omega) ok1] at ht; cases ht) (fun _ G5 s5 fa1 fr1 => ⟨rfl, ?_⟩)
    have fp1 := font_p pgB.pu s5 hy1 fa1 fr1
    have pgC := pgB.same s5
    have hO5 := s5 _ _ hO4
    refine ⟨rfl, _, rfl, _, rfl, _, rfl, _, rfl, p, g, q, m + 40, ws, ps, rfl, pgC.pu.le (by omega), pgC.at aq hq, hcl.pg hp pgC, by omega, fun G6 D2 w2 p2 pg6 hD2 hG6 hP6 perm2 => ?_⟩
    have pgD := pgC.trans pg6
    have fp1b := fp1.pg pgC.pu pg6
    have hO6 := pg6.at aO hO5
    have ok2 := fault_perm perm2 ok
    have l2 := perm2.length_eq
    have okp2 := ps_okPs gn.1 ok2
    have gns : nsF gap := strip_ns gn.1 (by unfold gapOk at gok; rw [Bool.and_eq_true] at gok; exact gok.1)
    refine ⟨D2, gap, w2, p2, rfl, hG6, hP6, by omega, okp2, by omega, fun G7 s7 => ?_⟩
    have pgE := pgD.same s7
    have fp1c := fp1b.mono s7
    have hO7 := s7 _ _ hO6
    have hpl := parse_line gns okp2
    have hdr : dueR n (lineF gap p2) = none := by
      unfold dueR
      rw [hpl]
      exact due_none gok (Nat.le_trans (Nat.le_of_eq l2) h6) ok2
    unfold tNil
    dsimp only
    refine rreadT (sch.pg hp pgE) (line_len lg (by omega) ok2) (fun t ht => by rw [hdr] at ht; cases ht) (fun _ gap' ps' e G8 y2 s8 hy2 fa2 fr2 => ?_)
    rw [hpl] at e
    have e := Option.some.inj e
    obtain rfl : gap = gap' := congrArg Prod.fst e
    obtain rfl : p2 = ps' := congrArg Prod.snd e
    have fp2 := font_p pgE.pu s8 hy2 fa2 fr2
    have pgF := pgE.same s8
    have fp1d := fp1c.mono s8
    have hO8 := s8 _ _ hO7
    clear hpl hdr e
    have fpd := fp.pg hp pgF
    obtain ⟨dx, gq, td, vs, hy, hgq, hvs, hT⟩ := fpd.fa.ob
    obtain ⟨dx1, gq1, td1, vs1, hyy1, _⟩ := fp1d.fa.ob
    obtain ⟨dx2, gq2, td2, vs2, hyy2, _⟩ := fp2.fa.ob
    have e1 := eo perm1
    have e2 := eo perm2
    refine ⟨_, rfl, _, rfl, y, dx, _, rfl, hy, .inr (.inr (.inl ⟨y1, dx1, _, rfl, hyy1⟩)), y, s, r, c, n, gap, ps, .ref y1, rfl, fpd.fa, .inr (.inr (.inr ⟨y1, s, r, c, n, gap, p1, rfl, fp1d.fa, _, rfl, _, rfl, ?_⟩))⟩
    rw [dec_same e1]
    refine iteF ⟨_, rfl, _, rfl, y2, dx2, _, rfl, hyy2, .inr (.inr (.inl ⟨y, dx, _, rfl, hy⟩)), y2, s, r, c, n, gap, p2, .ref y, rfl, fp2.fa, .inr (.inr (.inr ⟨y, s, r, c, n, gap, ps, rfl, fpd.fa, _, rfl, _, rfl, ?_⟩))⟩
    rw [dec_same e2.symm]
    refine iteF ⟨_, rfl, _, rfl, y1, dx1, _, rfl, hyy1, .inr (.inr (.inl ⟨y2, dx2, _, rfl, hyy2⟩)), y1, s, r, c, n, gap, p1, .ref y2, rfl, fp1d.fa, .inr (.inr (.inr ⟨y2, s, r, c, n, gap, p2, rfl, fp2.fa, _, rfl, _, rfl, ?_⟩))⟩
    rw [dec_same (e1.symm.trans e2)]
    refine iteF ?_
    have hPF := hPo.pg hp pgF
    have hPF2 : PairsL G8 ys (ordF p2) := by rw [← e2]; exact hPF
    have hPF1 : PairsL G8 ys (ordF p1) := by rw [← e1]; exact hPF
    refine ⟨_, rfl, _, rfl, _, rfl, _, rfl, y2, s, O, r, c, n, gap, p2, ys, rfl, fp2.fa, hO8, hPF2, fun G9 s9 => ⟨_, rfl, iteF ?_⟩⟩
    refine ⟨_, rfl, _, rfl, _, rfl, _, rfl, y1, s, O, r, c, n, gap, p1, ys, rfl, fp1d.fa.mono s9, s9 _ _ hO8, hPF1.mono s9, fun G10 s10 => ⟨_, rfl, iteF ?_⟩⟩
    have pgG := (pgF.same s9).same s10
    have hO10 := s10 _ _ (s9 _ _ hO8)
    have fp2b := (fp2.mono s9).mono s10
    refine ⟨_, rfl, _, rfl, _, rfl, _, rfl, _, rfl, p, g, s, O, r, c, n, m + 1, gap, ps, ys, rfl, pgG.pu.le (by omega), sch.pg hp pgG, hO10, aO, hPo.pg hp pgG, gok, h6, ok, fun G11 D8 fs st => ?_⟩
    have pgH := pgG.trans st.pg
    have hO11 := st.pg.at aO hO10
    have fp2c := fp2b.pg pgG.pu st.pg
    have fpe := fp.pg hp pgH
    have hPH := hPo.pg hp pgH
    refine ⟨D8, rfl, ⟨_, seqL_of st.hF⟩, for_it (walk_list (xs := fs)) (fun i σ G => Same G11 G ∧ ∃ v, σ = [some (.ref p), some (.ref y), some (.ref s), some (tx (cols n)), some (tx gap), some (.ref q), some (.ref O), some (.ref y1), some (.ref y2), v]) ⟨.refl _, none, rfl⟩ (fun i σ G _ h => seqL_of (h.1 _ _ st.hF)) ?_ ?_⟩
    · rintro i x σ G' G hi ⟨sm, v, rfl⟩ ⟨rfl, hx⟩
      obtain ⟨y3, s3, r3, c3, n3, gap3, p3, rfl, f3, _, ne⟩ := (st.un x (List.mem_of_getElem? hx)).mono sm
      have fm := fpe.fa.mono sm
      obtain ⟨dx3, _, _, _, hy3, _⟩ := f3.fa.ob
      obtain ⟨dx4, _, _, _, hy4, _⟩ := fm.ob
      refine ⟨_, rfl, _, rfl, y, dx4, _, rfl, hy4, .inr (.inr (.inl ⟨y3, dx3, _, rfl, hy3⟩)), y, s, r, c, n, gap, ps, .ref y3, rfl, fm, .inr (.inr (.inr ⟨y3, s3, r3, c3, n3, gap3, p3, rfl, f3.fa, _, rfl, _, rfl, ?_⟩))⟩
      rw [dec_not ne]
      refine iteF ⟨_, rfl, _, rfl, y3, dx3, _, rfl, hy3, .inr (.inr (.inl ⟨y, dx4, _, rfl, hy4⟩)), y3, s3, r3, c3, n3, gap3, p3, .ref y, rfl, f3.fa, .inr (.inr (.inr ⟨y, s, r, c, n, gap, ps, rfl, fm, _, rfl, _, rfl, ?_⟩))⟩
      rw [dec_not fun h => ne ⟨h.1.symm, h.2.1.symm, h.2.2.1.symm, h.2.2.2.symm⟩]
      exact iteF ⟨sm, _, rfl⟩
    · rintro σ G ⟨sm, v, rfl⟩
      have fm := fpe.fa.mono sm
      obtain ⟨dx4, _, _, _, hy4, _⟩ := fm.ob
      refine ⟨_, rfl, _, rfl, y, dx4, _, rfl, hy4, y, s, r, c, n, gap, ps, rfl, fm, fun G12 s12 => ⟨_, rfl, y, dx4, _, rfl, s12 _ _ hy4, .inr (.inl ⟨_, rfl⟩), y, s, r, c, n, gap, ps, _, rfl, fm.mono s12, .inr (.inl ⟨_, rfl, _, rfl, _, rfl, iteF ?_⟩)⟩⟩
      have fm2 := fm.mono s12
      have hy5 := s12 _ _ hy4
      have smT := sm.trans s12
      have hO12 := smT _ _ hO11
      refine ⟨_, rfl, y, dx4, _, rfl, hy5, .inl ⟨_, rfl⟩, y, s, r, c, n, gap, ps, _, rfl, fm2, .inl ⟨_, rfl, _, rfl, _, rfl, iteF ?_⟩⟩
      refine ⟨_, rfl, _, rfl, y, dx4, _, rfl, hy5, .inr (.inr (.inr ⟨O, ys, rfl, hO12⟩)), y, s, r, c, n, gap, ps, _, rfl, fm2, .inr (.inr (.inl ⟨O, ys, rfl, hO12, _, rfl, _, rfl, iteF ?_⟩))⟩
      refine ⟨_, rfl, _, rfl, _, rfl, _, rfl, y, s, O, r, c, n, gap, ps, ys, rfl, fm2, hO12, hPH.mono smT, fun G13 s13 => ⟨_, rfl, iteT ?_⟩⟩
      have f2m := (fp2c.fa.mono smT).mono s13
      obtain ⟨dx5, gq5, td5, _, hy6, _⟩ := f2m.ob
      have ee0 : Str.ofString "" = S [] := by decide +kernel
      refine ⟨_, rfl, y2, dx5, _, rfl, hy6, by kernel_rfl, ?_⟩
      rw [ee0]
      refine ⟨y2, s, r, c, n, gap, p2, [], rfl, f2m, by decide, fun _ G14 s14 => ⟨rfl, ?_⟩, nofun⟩
      rw [show decide (tx (printF gap p2 []) = V.str (S [])) = true from decide_eq_true rfl]
      exact z G14 (((pgH.same smT).same s13).same s14 |>.le (by omega))
end
end K32

end
section
set_option Elab.async false
set_option linter.all false
set_option maxRecDepth 100000
set_option maxHeartbeats 4000000
namespace K32
open PySem PySem.Spec PyProof.Rows L2 Kit
section
variable {P : Program} {w : World} {K : PySem.W.Frag} {mg : Str → Option Value} {base : Heap} {a : Ad}
def spBent : Sp := fun vs H Q _ => ∃ (p g : Addr) (l : List Nat) (m : Nat), vs = [.ref p, tx l] ∧ l.length ≤ 450 ∧ PurseAt (m + 3) H p g ∧ ∀ l' G, l'.length ≤ 500 → Pg m p g H G → Q (tx l') G
theorem c_law_bent (T : Txt K mg a) : Can P w K mg base 2 "_law_bent" spBent := by
  refine can_of T.d_law_bent sc_law_bent bd_law_bent (fun vs H Q E h => ?_) (fun f cdv A outer s0 H vs Q E hr h => ?_)
  · obtain ⟨p, g, l, m, rfl, _⟩ := h
    rfl
  · obtain ⟨p, g, l, m, rfl, hl, hp, z⟩ := h
    refine ⟨_, (pss_cons (ps_set (i := 2) sc_law_bent.nd rfl (.inl rfl) (pc_f (c_law_draw T) hr (by decide) (by rfl) (pa_cons (pv 0) (pa_cons (pe_op op_add (pe_callB call_len_str (by rfl) T.b_len (by decide +kernel) (pa_cons (pv 1) pa_nil)) pe_int) pa_nil))))
      (pss_cons (ps_set (i := 3) sc_law_bent.nd rfl (.inl rfl) (pe_ix ix_str pe_str (pc_f (c_law_draw T) hr (by decide) (by rfl) (pa_cons (pv 0) (pa_cons pe_int pa_nil))) (fun _ _ => rfl)))
      (pss_cons (ps_set (i := 4) sc_law_bent.nd rfl (.inl rfl) (pc_f (c_law_draw T) hr (by decide) (by rfl) (pa_cons (pv 0) (pa_cons pe_int pa_nil))))
      (pss_cons (ps_if (pt_cmpR op_eq (pv 4) pe_int (nomark _)) (pss_one (ps_ret (pe_op op_add_str (pe_op op_add_str (pe_slice sl_str (pv 1) po_none (po_some (pv 2))) (pv 3)) (pe_slice sl_str (pv 1) (po_some (pv 2)) po_none)))) pss_nil)
      (pss_cons (ps_if (pt_cmpR op_eq (pv 4) pe_int (nomark _)) (pss_one (ps_ret (pe_op op_add_str (pe_slice sl_str (pv 1) po_none (po_some (pv 2))) (pe_slice sl_str (pv 1) (po_some (pe_op op_add (pv 2) pe_int)) po_none)))) pss_nil)
      (pss_one (ps_ret (pe_op op_add_str (pe_op op_add_str (pe_slice sl_str (pv 1) po_none (po_some (pv 2))) (pv 3)) (pe_slice sl_str (pv 1) (po_some (pe_op op_add (pv 2) pe_int)) po_none))))))))), ?_⟩
    have lit : (Str.ofString "|=,Aaz B").length = 8 := by decide +kernel
    have hz2 : ∀ l m : List Nat, l.length ≤ 1000 → m.length ≤ 1000 → (S l).length + (S m).length ≤ sizeLine := fun l m h k => by rw [S_len, S_len]; exact szl (by omega)
    have hz : (S l).length ≤ sizeLine := by rw [S_len]; exact szl (by omega)
    refine ⟨_, rfl, _, rfl, _, rfl, hz, _, _, rfl, rfl, p, g, _, m + 2, rfl, hp, by rw [S_len]; omega, by rw [S_len]; omega, fun e1 G1 d0 d1 pg1 => ?_⟩
    rw [S_len] at d1
    obtain ⟨pl, rfl⟩ : ∃ pl : Nat, e1 = (pl : Int) := ⟨e1.toNat, by omega⟩
    refine ⟨_, rfl, p, g, 8, m + 1, rfl, pg1.pu, by decide, by decide, fun e2 G2 d2 d3 pg2 => ?_⟩
    obtain ⟨x, hx⟩ := str_at lit d2 d3
    refine ⟨_, _, x, rfl, rfl, by rw [lit]; decide, hx, ?_⟩
    rw [show (⟨#[x]⟩ : Str) = S [x] from rfl]
    refine ⟨_, rfl, p, g, 3, m, rfl, (pg1.trans pg2).pu, by decide, by decide, fun e3 G3 d4 d5 pg3 => ?_⟩
    have pgT := (pg1.trans pg2).trans pg3
    have ltk : (l.take pl).length ≤ 450 := by rw [List.length_take]; omega
    have e5 : (pl : Int) + 1 = ((pl + 1 : Nat) : Int) := by omega
    have ld : ∀ k, (l.drop k).length ≤ 450 := fun k => by rw [List.length_drop]; omega
    have lsum : (l.take pl).length + (l.drop pl).length ≤ 450 := by rw [List.length_take, List.length_drop]; omega
    have lsum1 : (l.take pl).length + (l.drop (pl + 1)).length ≤ 450 := by rw [List.length_take, List.length_drop]; omega
    have l1x : (l.take pl ++ [x]).length = (l.take pl).length + 1 := by rw [List.length_append]; rfl
    refine ⟨_, rfl, rfl, _, rfl, ?_⟩
    refine ite2 (fun _ => ?_) (fun _ => ?_)
    · refine ⟨_, rfl, _, rfl, _, rfl, _, rfl, hz, ?_⟩
      rw [cut_take]
      refine ⟨_, rfl, _, _, rfl, rfl, hz2 _ _ (by omega) (by show 1 ≤ 1000; decide), ?_⟩
      rw [S_app]
      refine ⟨_, rfl, _, rfl, _, rfl, _, rfl, hz, ?_⟩
      rw [cut_drop]
      refine ⟨_, _, rfl, rfl, hz2 _ _ (by omega) (by have := ld pl; omega), ?_⟩
      rw [S_app]
      exact z _ G3 (by rw [List.length_append, l1x]; omega) pgT
    refine ⟨_, rfl, rfl, _, rfl, ?_⟩
    refine ite2 (fun _ => ?_) (fun _ => ?_)
    · refine ⟨_, rfl, _, rfl, _, rfl, _, rfl, hz, ?_⟩
      rw [cut_take]
      refine ⟨_, rfl, _, rfl, _, _, rfl, rfl, _, rfl, _, rfl, hz, ?_⟩
      rw [e5, cut_drop]
      refine ⟨_, _, rfl, rfl, hz2 _ _ (by omega) (by have := ld (pl + 1); omega), ?_⟩
      rw [S_app]
      exact z _ G3 (by rw [List.length_append]; omega) pgT
    · refine ⟨_, rfl, _, rfl, _, rfl, _, rfl, hz, ?_⟩
      rw [cut_take]
      refine ⟨_, rfl, _, _, rfl, rfl, hz2 _ _ (by omega) (by show 1 ≤ 1000; decide), ?_⟩
      rw [S_app]
      refine ⟨_, rfl, _, rfl, _, _, rfl, rfl, _, rfl, _, rfl, hz, ?_⟩
      rw [e5, cut_drop]
      refine ⟨_, _, rfl, rfl, hz2 _ _ (by omega) (by have := ld (pl + 1); omega), ?_⟩
      rw [S_app]
      exact z _ G3 (by rw [List.length_append, l1x]; omega) pgT
end
end K32

end
section
set_option Elab.async false
set_option linter.all false
set_option maxRecDepth 100000
set_option maxHeartbeats 4000000
namespace K32
open PySem PySem.Spec PyProof.Rows L2 Kit
theorem init_good {a : Ad} {H : Hp} {y dx : Addr} {r c n : Nat} {Q : Hp → Prop} (g : Good r c n) (hy : H y = none) (hdx : H dx = none) (ne : dx ≠ y) (k : ∀ G, Same H G → SchemeAt a.Scheme G y r c n → Q G) :
    spInit a (.ref y :: ([.int (r : Int), .int (c : Int)] ++ [])) (upd (upd H dx (.own y)) y (.ins a.Scheme dx [])) (fun v G => v = .non ∧ Q G) E0 := by
  have hb : badPart (r : Int) (c : Int) = none := by rcases g.cases with ⟨rfl, rfl, rfl⟩ | ⟨rfl, rfl, rfl⟩ | ⟨rfl, rfl, rfl⟩ | ⟨rfl, rfl, rfl⟩ | ⟨rfl, rfl, rfl⟩ <;> decide
  refine ⟨y, dx, r, c, rfl, upd_same, fun l e => ?_, fun _ G hG hs => ⟨rfl, ?_⟩⟩
  · rw [hb] at e
    cases e
  · obtain ⟨r', c', n', e1, e2, sch⟩ := hs
    obtain rfl : r' = r := by omega
    obtain rfl : c' = c := by omega
    have e3 : n' = n := by rcases g.cases with h | h | h | h | h <;> rcases sch.2.cases with q | q | q | q | q <;> omega
    subst e3
    exact k G (fun b o hb => hG b o (((ex_new hdx).trans (ex_new (by rw [upd_ne (Ne.symm ne)]; exact hy))) b o hb) (ne_some hy hb)) sch
def DueV (G : Hp) (v : V) (o : Option Tf) : Prop := (o = none ∧ v = .non) ∨ ∃ t u, o = some t ∧ v = .ref u ∧ G u = some (.tup t.vs)
theorem due_use {Q : VK} {H : Hp} {o : Option Tf} (h : ∀ v G, Same H G → DueV G v o → Q v G) : (o = none → ∀ G, Same H G → Q .non G) ∧ ∀ t, o = some t → ∀ G u, Same H G → H u = none → G u = some (.tup t.vs) → Q (.ref u) G :=
  ⟨fun e G s => h .non G s (.inl ⟨e, rfl⟩), fun t e G u s _ hu => h _ G s (.inr ⟨t, u, e, rfl, hu⟩)⟩
theorem DueV.mono {G M : Hp} {v : V} {o : Option Tf} (h : DueV G v o) (s : Same G M) : DueV M v o := by
  rcases h with h | ⟨t, u, h1, h2, h3⟩
  · exact .inl h
  · exact .inr ⟨t, u, h1, h2, s _ _ h3⟩
def MadeV (a : Ad) (H G : Hp) (u s : Addr) (r c n : Nat) (gap : List Nat) (ps : List Pr) (o : Option Tf) : Prop := (∃ t, o = some t ∧ ToldAt G u t) ∨ (o = none ∧ ∃ y, DoneAt G u (.ref y) ∧ FontAt a G y s r c n gap ps ∧ ∀ k p g, PurseAt k H p g → FontP a p g G y s r c n gap ps)
theorem MadeV.mono {a : Ad} {H G M : Hp} {u s : Addr} {r c n : Nat} {gap : List Nat} {ps : List Pr} {o : Option Tf} (h : MadeV a H G u s r c n gap ps o) (e : Same G M) : MadeV a H M u s r c n gap ps o := by
  rcases h with ⟨t, h1, h2⟩ | ⟨h1, y, h2, h3, h4⟩
  · exact .inl ⟨t, h1, h2.mono e⟩
  · exact .inr ⟨h1, y, h2.mono e, h3.mono e, fun k p g hp => (h4 k p g hp).mono e⟩
def ReadV (a : Ad) (G : Hp) (u s : Addr) (r c n : Nat) (l : List Nat) : Prop := (∃ t, dueR n l = some t ∧ ToldAt G u t) ∨ (dueR n l = none ∧ ∃ gap ps y, parseL l = some (gap, ps) ∧ DoneAt G u (.ref y) ∧ FontAt a G y s r c n gap ps)
theorem ReadV.mono {a : Ad} {G M : Hp} {u s : Addr} {r c n : Nat} {l : List Nat} (h : ReadV a G u s r c n l) (e : Same G M) : ReadV a M u s r c n l := by
  rcases h with ⟨t, h1, h2⟩ | ⟨h1, gap, ps, y, h2, h3, h4⟩
  · exact .inl ⟨t, h1, h2.mono e⟩
  · exact .inr ⟨h1, gap, ps, y, h2, h3.mono e, h4.mono e⟩
def PartV (G : Hp) (v : V) (o : Option (List Nat × List Pr)) : Prop := (o = none ∧ v = .non) ∨ ∃ gap ps u D ws, o = some (gap, ps) ∧ v = .ref u ∧ G u = some (.tup [tx gap, .ref D]) ∧ G D = some (.lst ws) ∧ PairsL G ws ps
theorem PartV.mono {G M : Hp} {v : V} {o : Option (List Nat × List Pr)} (h : PartV G v o) (s : Same G M) : PartV M v o := by
  rcases h with h | ⟨gap, ps, u, D, ws, h1, h2, h3, h4, h5⟩
  · exact .inl h
  · exact .inr ⟨gap, ps, u, D, ws, h1, h2, s _ _ h3, s _ _ h4, h5.mono s⟩
theorem made_use {a : Ad} {Q : VK} {H : Hp} {s : Addr} {r c n : Nat} {gap : List Nat} {ps : List Pr} {o : Option Tf} (h : ∀ G u, Same H G → H u = none → MadeV a H G u s r c n gap ps o → Q (.ref u) G) :
    (∀ t, o = some t → ∀ G u, Same H G → H u = none → ToldAt G u t → Q (.ref u) G) ∧ (o = none → ∀ G y u, Same H G → H u = none → (∀ k p g, PurseAt k H p g → FontP a p g G y s r c n gap ps) → FontAt a G y s r c n gap ps → DoneAt G u (.ref y) → Q (.ref u) G) :=
  ⟨fun t e G u sm hu tl => h G u sm hu (.inl ⟨t, e, tl⟩), fun e G y u sm hu hf fa dn => h G u sm hu (.inr ⟨e, y, dn, fa, hf⟩)⟩
theorem read_use {a : Ad} {Q : VK} {H : Hp} {s : Addr} {r c n : Nat} {l : List Nat} (h : ∀ G u, Same H G → H u = none → ReadV a G u s r c n l → Q (.ref u) G) :
    (∀ t, dueR n l = some t → ∀ G u, Same H G → H u = none → ToldAt G u t → Q (.ref u) G) ∧ (dueR n l = none → ∀ gap ps, parseL l = some (gap, ps) → ∀ G y u, Same H G → H u = none → (∀ k p g, PurseAt k H p g → FontP a p g G y s r c n gap ps) → FontAt a G y s r c n gap ps → DoneAt G u (.ref y) → Q (.ref u) G) :=
  ⟨fun t e G u sm hu tl => h G u sm hu (.inl ⟨t, e, tl⟩), fun e gap ps hp G y u sm hu _ fa dn => h G u sm hu (.inr ⟨e, gap, ps, y, hp, dn, fa⟩)⟩
theorem part_use {Q : VK} {H : Hp} {l : List Nat} (h : ∀ v G, Same H G → PartV G v (parseL l) → Q v G) : (parseL l = none → ∀ G, Same H G → Q .non G) ∧
    ∀ gap ps, parseL l = some (gap, ps) → ∀ u D G ws, Same H G → H u = none → H D = none → G u = some (.tup [tx gap, .ref D]) → G D = some (.lst ws) → PairsL G ws ps → Q (.ref u) G :=
  ⟨fun e G sm => h .non G sm (.inl ⟨e, rfl⟩), fun gap ps e u D G ws sm _ _ hu hD hP => h _ G sm (.inr ⟨gap, ps, u, D, ws, e, rfl, hu, hD, hP⟩)⟩
theorem all_small {B : Nat} : ∀ {ls : List (List Nat)} {ks : List Pr}, allL ls = some ks → (∀ p ∈ ls, p.length ≤ B) → ks.length = ls.length ∧ ∀ k ∈ ks, k.1.length ≤ B ∧ k.2.length ≤ B
  | [], ks, h, _ => by
    obtain rfl := Option.some.inj h
    exact ⟨rfl, nofun⟩
  | p :: ls, ks, h, hb => by
    cases e : pieceL p with
    | none => rw [allL_bad e] at h; cases h
    | some k =>
      rw [allL_ok e] at h
      obtain ⟨k2, h1, rfl⟩ := Option.map_eq_some_iff.mp h
      obtain ⟨i1, i2⟩ := all_small h1 fun q hq => hb q (List.mem_cons_of_mem _ hq)
      refine ⟨by rw [List.length_cons, List.length_cons, i1], fun q hq => ?_⟩
      rcases List.mem_cons.mp hq with rfl | hq
      · by_cases c1 : p.count 61 = 1
        · obtain ⟨u, v, rfl, hu, hv, _⟩ := cut2 c1
          rw [piece_at hu hv] at e
          obtain rfl := Option.some.inj e
          have := hb _ List.mem_cons_self
          rw [List.length_append, List.length_cons] at this
          exact ⟨by show u.length ≤ B; omega, by show v.length ≤ B; omega⟩
        · rw [piece_no c1] at e
          cases e
      · exact i2 q hq
theorem parse_small {l gap : List Nat} {ps : List Pr} (h : parseL l = some (gap, ps)) (hl : l.length ≤ 500) : gap.length ≤ 500 ∧ smallP ps ∧ ps.length ≤ 501 := by
  by_cases c1 : l.count 124 = 1
  · obtain ⟨u, v, rfl, hu, hv, _⟩ := cut2 c1
    rw [parse_at hu hv] at h
    obtain ⟨k2, h1, h2⟩ := Option.map_eq_some_iff.mp h
    obtain rfl : v = gap := congrArg Prod.fst h2
    obtain rfl : k2 = ps := congrArg Prod.snd h2
    rw [List.length_append, List.length_cons] at hl
    have lc : (cutP u).length ≤ 501 := by
      unfold cutP
      split
      · exact Nat.zero_le _
      · exact Nat.le_trans cutc_len (by omega)
    obtain ⟨i1, i2⟩ := all_small (B := 500) h1 fun p hp => by
      unfold cutP at hp
      split at hp
      · cases hp
      · have := cutc_part p hp
        simp at this
        omega
    exact ⟨by omega, fun q hq => ⟨by have := (i2 q hq).1; omega, by have := (i2 q hq).2; omega⟩, by omega⟩
  · rw [parse_no c1] at h
    cases h
theorem line_len2 {gap : List Nat} {ps : List Pr} (lg : gap.length ≤ 20) (h6 : ps.length ≤ 8) (h : okPs ps) : (lineF gap ps).length ≤ 450 := by
  have lp : ∀ l ∈ ps.map pieceF, l.length ≤ 41 := fun l hl => by
    obtain ⟨p, hp, rfl⟩ := List.mem_map.mp hl
    obtain ⟨⟨_, h1⟩, _, h2⟩ := h p hp
    unfold pieceF
    rw [List.length_append, List.length_cons]
    omega
  have lj := joinL_len (s := [44]) lp
  rw [List.length_map] at lj
  have lj : (TL.joinL [44] (ps.map pieceF)).length ≤ ps.length * 42 := lj
  unfold lineF
  rw [List.length_append, List.length_cons]
  omega
theorem ok_small {ps : List Pr} (h : okPs ps) : smallP ps := fun q hq => by
  obtain ⟨⟨_, h1⟩, _, h2⟩ := h q hq
  exact ⟨by omega, by omega⟩
theorem depth_on64 (t : Tf) : (onD t).depth ≤ 64 := Nat.le_trans (depth_on t) (by decide)
section
variable {P : Program} {w : World} {K : PySem.W.Frag} {mg : Str → Option Value} {base : Heap} {a : Ad}
theorem can_imp {k : Nat} {x : Str} {sp sp' : Sp} (c : Can P w K mg base k x sp) (h : ∀ vs H Q E, sp' vs H Q E → sp vs H Q E) : Can P w K mg base k x sp' := ⟨let ⟨f, fd, ps, F, r⟩ := c.ex; ⟨f, fd, ps, F.imp h, r⟩⟩
namespace ZZ
def spDue2 : Sp := fun vs H Q _ => ∃ (q : Addr) (m : Nat) (gap : List Nat) (ws : List V) (ps : List Pr), vs = [tx (cols m), tx gap, .ref q] ∧ m ≤ 9 ∧ H q = some (.lst ws) ∧ PairsL H ws ps ∧ gap.length ≤ 1000 ∧ smallP ps ∧ ps.length ≤ 1000 ∧ ∀ v G, Same H G → DueV G v (dueF m gap ps) → Q v G
theorem c_law_due (T : Txt K mg a) : Can P w K mg base 2 "_law_due" spDue2 := can_imp (K32.c_law_due T) fun vs H Q E h => by
  obtain ⟨q, m, gap, ws, ps, h1, h2, h3, h4, h5, h6, h7, z⟩ := h
  exact ⟨q, m, gap, ws, ps, h1, h2, h3, h4, h5, h6, h7, due_use z⟩
def spMade2 (a : Ad) : Sp := fun vs H Q _ => ∃ (s q : Addr) (r c n : Nat) (gap : List Nat) (ws : List V) (ps : List Pr), vs = [.ref s, tx gap, .ref q] ∧ SchemeAt a.Scheme H s r c n ∧ H q = some (.lst ws) ∧ PairsL H ws ps ∧ gap.length ≤ 1000 ∧ smallP ps ∧ ps.length ≤ 600 ∧
  ∀ u G, Same H G → H u = none → MadeV a H G u s r c n gap ps (dueF n gap ps) → Q (.ref u) G
theorem c_law_made (T : Txt K mg a) : Can P w K mg base 7 "_law_made" (spMade2 a) := can_imp (K32.c_law_made T) fun vs H Q E h => by
  obtain ⟨s, q, r, c, n, gap, ws, ps, h1, h2, h3, h4, h5, h6, h7, z⟩ := h
  exact ⟨s, q, r, c, n, gap, ws, ps, h1, h2, h3, h4, h5, h6, h7, made_use fun G u => z u G⟩
def spRdL2 (a : Ad) : Sp := fun vs H Q _ => ∃ (s : Addr) (r c n : Nat) (l : List Nat), vs = [.ref s, tx l] ∧ SchemeAt a.Scheme H s r c n ∧ l.length ≤ 500 ∧ ∀ u G, Same H G → H u = none → ReadV a G u s r c n l → Q (.ref u) G
theorem c_law_read (T : Txt K mg a) : Can P w K mg base 8 "_law_read" (spRdL2 a) := can_imp (K32.c_law_read T) fun vs H Q E h => by
  obtain ⟨s, r, c, n, l, h1, h2, h3, z⟩ := h
  exact ⟨s, r, c, n, l, h1, h2, h3, read_use fun G u => z u G⟩
def spParts2 : Sp := fun vs H Q _ => ∃ (l : List Nat), vs = [tx l] ∧ l.length ≤ 500 ∧ ∀ v G, Same H G → PartV G v (parseL l) → Q v G
theorem c_law_parts (T : Txt K mg a) : Can P w K mg base 1 "_law_parts" spParts2 := can_imp (K32.c_law_parts T) fun vs H Q E h => by
  obtain ⟨l, h1, h2, z⟩ := h
  exact ⟨l, h1, h2, part_use z⟩
end ZZ
def spLaw (K : PySem.W.Frag) : Sp := fun vs H Q _ => ∃ (b : Addr) (ns : List Int), vs = [.ref b] ∧ SqL K H b (ns.map V.int) ∧ ns.length ≤ 63 ∧ ∀ G, Q (.bl true) G
namespace ZZ
theorem ok_law (T : Txt K mg a) {f : Addr} {fd : FuncData} (F : Fun K "law" "law" s_law f fd) : FnOk P w K mg base (L2.CX P w) 12 f fd P_law (spLaw K) := by
  refine F.okX sc_law (fun vs H Q E h => ?_) (fun cdv A outer s0 H vs Q E hr h => ?_)
  · obtain ⟨b, ns, rfl, _⟩ := h
    rfl
  · obtain ⟨b, ns, rfl, hs, hl, z⟩ := h
    refine ⟨_, (pss_cons (ps_set (i := 1) sc_law.nd rfl (.inl rfl) (pc_f (c_law_purse T) hr (by decide) (by rfl) (pa_cons (pv 0) pa_nil)))
      (pss_cons (ps_set (i := 2) sc_law.nd rfl (.inl rfl) (pc_f (c_law_kind T) hr (by decide) (by rfl) (pa_cons (pv 1) pa_nil)))
      (pss_cons (ps_set (i := 3) sc_law.nd rfl (.inl rfl) (pc_n (c_Scheme_init T) hr (by decide) (by rfl) (pa_cons (pe_ix (kix_tup K) (pv 2) pe_int (fun _ _ => rfl)) (pa_cons (pe_ix (kix_tup K) (pv 2) pe_int (fun _ _ => rfl)) pa_nil))))
      (pss_cons (ps_set (i := 4) sc_law.nd rfl (.inl rfl) (pe_ix (kix_tup K) (pv 2) pe_int (fun _ _ => rfl)))
      (pss_cons (ps_set (i := 5) sc_law.nd rfl (.inl rfl) (pe_cmpR op_eq (pc_f (c_law_draw T) hr (by decide) (by rfl) (pa_cons (pv 1) (pa_cons pe_int pa_nil))) pe_int (nomark _)))
      (pss_cons (ps_set (i := 6) sc_law.nd rfl (.inl rfl) (pc_f (c_law_word T) hr (by decide) (by rfl) (pa_cons (pv 1) (pa_cons (pv 4) (pa_cons pe_int (pa_cons pe_int pa_nil))))))
      (C8.pss_cut (ps_if (PW.pt (pw_and (pt_val (pv 5)) (pw_and1 (pt_cmpR op_eq (pc_f (c_law_draw T) hr (by decide) (by rfl) (pa_cons (pv 1) (pa_cons pe_int pa_nil))) pe_int (nomark _))))) (pss_one (ps_set (i := 6) sc_law.nd rfl (.inl rfl) (pc_f (c_law_odd_word T) hr (by decide) (by rfl) (pa_cons (pv 1) (pa_cons (pv 4) (pa_cons pe_int pa_nil)))))) pss_nil)
      (pss_cons (ps_set (i := 7) sc_law.nd rfl (.inl rfl) (pc_f (c_law_pairs T) hr (by decide) (by rfl) (pa_cons (pv 1) (pa_cons (pv 4) (pa_cons (pv 5) pa_nil)))))
      (pss_cons (ps_set (i := 8) sc_law.nd rfl (.inl rfl) (pc_f (c_law_due T) hr (by decide) (by rfl) (pa_cons (pv 4) (pa_cons (pv 6) (pa_cons (pv 7) pa_nil)))))
      (pss_cons (ps_set (i := 9) sc_law.nd rfl (.inl rfl) (pc_f (c_law_made T) hr (by decide) (by rfl) (pa_cons (pv 3) (pa_cons (pv 6) (pa_cons (pv 7) pa_nil)))))
      (pss_cons (ps_set (i := 10) sc_law.nd rfl (.inl rfl) (pc_f (c_law_read T) hr (by decide) (by rfl) (pa_cons (pv 3) (pa_cons (pc_f (c_law_line T) hr (by decide) (by rfl) (pa_cons (pv 6) (pa_cons (pv 7) pa_nil))) pa_nil))))
      (pss_cons (ps_if (pt_cmpR op_ne (ClX.pe_cval (pe_glob (v := .ref a.Font) (by rfl) T.c_Font.gC rfl)) pe_int (nomark _)) (pss_one (ps_ret pe_bl)) pss_nil)
      (C8.pss_cut (ps_if (pt_cmpR op_notN (pv 8) pe_non (nomark _)) (pss_one (ps_if (PW.pt (pw_or (pt_cmpR op_notN (pe_ix (kix_tup K) (pv 9) pe_int (fun _ _ => rfl)) pe_non (nomark _)) (pw_or (pt_cmpR (kneP K hr.units) (pe_ix (kix_tup K) (pv 9) pe_int (fun _ _ => rfl)) (pe_lst (pa_cons (pv 8) pa_nil)) (nomark _)) (pw_or (pt_cmpR op_notN (pe_ix (kix_tup K) (pv 10) pe_int (fun _ _ => rfl)) pe_non (nomark _)) (pw_or1 (pt_cmpR (kneP K hr.units) (pe_ix (kix_tup K) (pv 10) pe_int (fun _ _ => rfl)) (pe_lst (pa_cons (pv 8) pa_nil)) (nomark _))))))) (pss_one (ps_ret pe_bl)) pss_nil)) (pss_cons (ps_if (PW.pt (pw_or (pt_cmpR op_isN (pe_ix (kix_tup K) (pv 9) pe_int (fun _ _ => rfl)) pe_non (nomark _)) (pw_or1 (pt_cmpR op_isN (pe_ix (kix_tup K) (pv 10) pe_int (fun _ _ => rfl)) pe_non (nomark _))))) (pss_one (ps_ret pe_bl)) pss_nil)
      (pss_one (ps_if (pt_not (pt_val (pc_f (c_law_good T) hr (by decide) (by rfl) (pa_cons (pv 1) (pa_cons (pe_ix (kix_tup K) (pv 9) pe_int (fun _ _ => rfl)) (pa_cons (pv 3) (pa_cons (pv 4) (pa_cons (pv 6) (pa_cons (pv 7) pa_nil))))))))) (pss_one (ps_ret pe_bl)) pss_nil))))
      (pss_cons (ps_set (i := 11) sc_law.nd rfl (.inl rfl) (pc_f (c_law_bent T) hr (by decide) (by rfl) (pa_cons (pv 1) (pa_cons (pc_f (c_law_line T) hr (by decide) (by rfl) (pa_cons (pv 6) (pa_cons (pv 7) pa_nil))) pa_nil))))
      (pss_cons (ps_set (i := 12) sc_law.nd rfl (.inl rfl) (pc_f (c_law_parts T) hr (by decide) (by rfl) (pa_cons (pv 11) pa_nil)))
      (pss_cons (ps_set (i := 8) sc_law.nd rfl (.inl rfl) (pe_tup (pa_cons pe_str (pa_cons pe_str pa_nil))))
      (C8.pss_cut (ps_if (pt_cmpR op_notN (pv 12) pe_non (nomark _)) (pss_one (ps_set (i := 8) sc_law.nd rfl (.inl rfl) (pc_f (c_law_due T) hr (by decide) (by rfl) (pa_cons (pv 4) (pa_cons (pe_ix (kix_seq K) (pv 12) pe_int (fun _ _ => rfl)) (pa_cons (pe_ix (kix_seq K) (pv 12) pe_int (fun _ _ => rfl)) pa_nil)))))) pss_nil)
      (pss_cons (ps_set (i := 10) sc_law.nd rfl (.inl rfl) (pc_f (c_law_read T) hr (by decide) (by rfl) (pa_cons (pv 3) (pa_cons (pv 11) pa_nil))))
      (pss_cons (ps_if (pt_cmpR op_notN (pv 8) pe_non (nomark _)) (pss_one (ps_ret (pe_and (pe_cmpR op_isN (pe_ix (kix_tup K) (pv 10) pe_int (fun _ _ => rfl)) pe_non (nomark _)) (pe_one (pe_cmpR (keqP K hr.units) (pe_ix (kix_tup K) (pv 10) pe_int (fun _ _ => rfl)) (pe_lst (pa_cons (pv 8) pa_nil)) (nomark _)))))) pss_nil)
      (pss_one (ps_ret (pe_and (pe_cmpR op_notN (pe_ix (kix_tup K) (pv 10) pe_int (fun _ _ => rfl)) pe_non (nomark _)) (pe_one (pc_f (c_law_fields T) hr (by decide) (by rfl) (pa_cons (pe_ix (kix_tup K) (pv 10) pe_int (fun _ _ => rfl)) (pa_cons (pv 3) (pa_cons (pe_ix (kix_seq K) (pv 12) pe_int (fun _ _ => rfl)) (pa_cons (pe_callB (cr_sortedPS K) (by rfl) T.b_sorted (by decide +kernel) (pa_cons (pe_ix (kix_seq K) (pv 12) pe_int (fun _ _ => rfl)) pa_nil)) pa_nil)))))))))))))))))))))))))))), ?_⟩
    refine ⟨_, rfl, b, ns, rfl, hs, hl, fun p g G0 s0' hp0 => ?_⟩
    refine ⟨_, rfl, p, g, 99999, rfl, hp0, fun kq r c n G1 gd hkq hk pg1 => ?_⟩
    refine ⟨_, rfl, kq, _, _, _, rfl, rfl, seqT_of hk, atI_nat (j := 0) rfl, _, rfl, kq, _, _, _, rfl, rfl, seqT_of hk, atI_nat (j := 1) rfl, ?_⟩
    intro s sdy hsy hsdy hsne
    refine init_good gd hsy hsdy hsne fun G2 s2 sch => ?_
    have gn := good_n gd
    have hp2 := pg1.pu.mono s2
    have lcn := cols_len n
    have nsc := ns_cols n gn.1
    refine ⟨_, rfl, kq, _, _, _, rfl, rfl, seqT_of (s2 _ _ hk), atI_nat (j := 2) rfl, ?_⟩
    refine ⟨_, rfl, p, g, 3, 99998, rfl, hp2, by decide, by decide, fun d G3 d0 d1 pg3 => ⟨rfl, ?_⟩⟩
    generalize decide (V.int d = V.int 0) = sp
    refine ⟨_, rfl, _, rfl, p, g, cols n, 0, 3, 99994, rfl, by decide, by decide, by omega, by omega, pg3.pu, fun gp G4 hgp _ lgp pg4 => ?_⟩
    have pgA := pg3.trans pg4
    refine ⟨fun σ G => ∃ gap, nsF gap ∧ gap.length ≤ 20 ∧ Pg 99980 p g G2 G ∧ σ = [some (.ref b), some (.ref p), some (.ref kq), some (.ref s), some (tx (cols n)), some (.bl sp), some (tx gap), none, none, none, none, none, none], ?_, ?_⟩
    · refine ⟨_, rfl, _, rfl, ?_⟩
      cases sp with
      | false => exact iteF ⟨gp, fun x hx => nsc x (hgp x hx), by omega, pgA.le (by decide), rfl⟩
      | true =>
        refine iteT ⟨_, rfl, p, g, 6, 99993, rfl, pgA.pu, by decide, by decide, fun d2 G5 _ _ pg5 => ⟨rfl, _, rfl, ?_⟩⟩
        refine ite2 (fun _ => ?_) (fun _ => ⟨gp, fun x hx => nsc x (hgp x hx), by omega, (pgA.trans pg5).le (by decide), rfl⟩)
        exact ⟨_, rfl, _, rfl, p, g, cols n, 3, 99986, rfl, by decide, by omega, by omega, nsc, pg5.pu, fun l G6 nl ll pg6 => ⟨l, nl, ll, ((pgA.trans pg5).trans pg6).le (by decide), rfl⟩⟩
    rintro σ G5 ⟨gap, ngap, lgap, pg5, rfl⟩
    clear pg3 pg4 pgA hgp lgp
    refine ⟨_, rfl, _, rfl, _, rfl, p, g, cols n, sp, 99780, rfl, by omega, by omega, nsc, pg5.pu, fun D ws ps G6 okp l8 hD hD6 hP6 pg6 => ?_⟩
    have pgB := pg5.trans pg6
    have aD := ap_new pg5.pu hD
    have sch6 := sch.pg hp2 pgB
    have llen := line_len2 lgap l8 okp
    have hpl := parse_line ngap okp
    have edr : dueR n (lineF gap ps) = dueF n gap ps := by unfold dueR; rw [hpl]
    refine ⟨_, rfl, _, rfl, _, rfl, D, n, gap, ws, ps, rfl, gn.1, hD6, hP6, by omega, ok_small okp, by omega, fun v8 G7 s7 dv => ?_⟩
    have hD7 := s7 _ _ hD6
    have hP7 := hP6.mono s7
    have pg7 := pgB.same s7
    refine ⟨_, rfl, _, rfl, _, rfl, s, D, r, c, n, gap, ws, ps, rfl, sch6.mono s7, hD7, hP7, by omega, ok_small okp, by omega, fun u9 G8 s8 hu9 mv => ?_⟩
    have hD8 := s8 _ _ hD7
    have hP8 := hP7.mono s8
    have s78 := s7.trans s8
    refine ⟨_, rfl, _, rfl, _, rfl, D, gap, ws, ps, rfl, hD8, hP8, by omega, okp, by omega, fun G9 s9 => ⟨s, r, c, n, lineF gap ps, rfl, (sch6.mono s78).mono s9, by omega, fun u10 G10 s10 _ rv => ?_⟩⟩
    have sT := (s78.trans s9).trans s10
    have hD10 := sT _ _ hD6
    have hP10 := hP6.mono sT
    have pg10 : Pg 99780 p g G6 G10 := (Pg.refl pg6.pu).same sT
    have mv10 := (mv.mono s9).mono s10
    have dv10 := ((dv.mono s8).mono s9).mono s10
    obtain ⟨mc, rd, u0, cv⟩ := T.r_Font
    refine ⟨a.Font, mc, _, u0, rfl, rd, cv, rfl, _, rfl, itN (by decide) ?_⟩
    refine ⟨fun σ G => Pg 99600 p g G6 G ∧ ∃ w8 w9 w10 : Option V, σ = [some (.ref b), some (.ref p), some (.ref kq), some (.ref s), some (tx (cols n)), some (.bl sp), some (tx gap), some (.ref D), w8, w9, w10, none, none], ?_, ?_⟩
    · refine ⟨_, rfl, rfl, _, rfl, ?_⟩
      rcases dv10 with ⟨hn, rfl⟩ | ⟨t, ut, ht, rfl, hut⟩
      · refine itN (by decide) ?_
        rcases mv10 with ⟨t, h1, _⟩ | ⟨_, y, ⟨L1, k1, k2⟩, fa, hf⟩
        · rw [hn] at h1; cases h1
        rcases rv with ⟨t, h1, _⟩ | ⟨_, gap2, ps2, y2, _, ⟨L2, m1, m2⟩, fa2⟩
        · rw [edr, hn] at h1; cases h1
        refine ⟨_, rfl, u9, _, _, _, rfl, rfl, seqT_of k1, atI_nat (j := 0) rfl, rfl, _, rfl, itN (by rw [decide_eq_false (fun e => by cases e)]; decide) ?_⟩
        refine ⟨_, rfl, u10, _, _, _, rfl, rfl, seqT_of m1, atI_nat (j := 0) rfl, rfl, _, rfl, itN (by rw [decide_eq_false (fun e => by cases e)]; decide) ?_⟩
        refine ⟨_, rfl, _, rfl, u9, _, _, _, rfl, rfl, seqT_of k1, atI_nat (j := 0) rfl, _, rfl, _, rfl, _, rfl, _, rfl, p, g, y, s, D, r, c, n, 99600, gap, ps, ws, rfl, pg10.pu.le (by decide), hf _ _ _ (pg6.pu.mono s7), hD10, aD, hP10, fun G11 pg11 => ⟨_, rfl, iteF ⟨pg10.trans pg11, _, _, _, rfl⟩⟩⟩
      · refine itP (by rw [decide_eq_false (fun e => by cases e)]; rfl) ?_
        rcases mv10 with ⟨t1, h1, L1, q1, k1, k2, k3⟩ | ⟨hn, _⟩
        rotate_left
        · rw [hn] at ht; cases ht
        rcases rv with ⟨t2, h2, L2, q2, m1, m2, m3⟩ | ⟨hn, _⟩
        rotate_left
        · rw [edr, ht] at hn; cases hn
        rw [ht] at h1
        obtain rfl : t = t1 := Option.some.inj h1
        rw [edr, ht] at h2
        obtain rfl : t = t2 := Option.some.inj h2
        refine ⟨_, rfl, u9, _, _, _, rfl, rfl, seqT_of k1, atI_nat (j := 0) rfl, rfl, _, rfl, itN (by decide) ?_⟩
        refine ⟨_, rfl, u9, _, _, _, rfl, rfl, seqT_of k1, atI_nat (j := 1) rfl, _, rfl, by show 1 ≤ sizeLine; decide, fun B1 hB1 => ?_⟩
        have x1 := ex_new (o := .lst [.ref ut]) hB1
        refine ⟨onD t, onD t, dp_on (x1 _ _ k2) (x1 _ _ k3), dp_on upd_same (x1 _ _ hut), plain_on _, plain_on _, depth_on64 _, _, rfl, ?_⟩
        rw [eqv_on]
        refine iteF ⟨_, rfl, u10, _, _, _, rfl, rfl, seqT_of (x1 _ _ m1), atI_nat (j := 0) rfl, rfl, _, rfl, itN (by decide) ?_⟩
        refine ⟨_, rfl, u10, _, _, _, rfl, rfl, seqT_of (x1 _ _ m1), atI_nat (j := 1) rfl, _, rfl, by show 1 ≤ sizeLine; decide, fun B2 hB2 => ?_⟩
        have x2 := ex_new (o := .lst [.ref ut]) hB2
        have x12 := x1.trans x2
        refine ⟨onD t, onD t, dp_on (x12 _ _ m2) (x12 _ _ m3), dp_on upd_same (x12 _ _ hut), plain_on _, plain_on _, depth_on64 _, _, rfl, ?_⟩
        rw [eqv_on]
        exact iteF ⟨(pg10.same x12).le (by decide), _, _, _, rfl⟩
    rintro σ G11 ⟨pg11, w8, w9, w10, rfl⟩
    clear dv dv10 mv mv10 rv
    refine ⟨_, rfl, _, rfl, _, rfl, D, gap, ws, ps, rfl, pg11.at aD hD6, hP6.pg pg6.pu pg11, by omega, okp, by omega, fun G12 s12 => ⟨p, g, lineF gap ps, 99590, rfl, llen, (pg11.pu.mono s12).le (by decide), fun l G13 ll pg13 => ?_⟩⟩
    have pgC := (pgB.trans pg11).trans (same_pg s12 pg13)
    refine ⟨_, rfl, l, rfl, ll, fun v12 G14 s14 pv => ?_⟩
    refine ⟨by show 2 ≤ sizeLine; decide, fun t0 ht0 => ?_⟩
    have x0 := ex_new (o := .tup Tf.text.vs) ht0
    have pv15 := pv.mono x0
    have pgD := (pgC.same s14).same x0
    have ht15 : (upd G14 t0 (.tup Tf.text.vs)) t0 = some (.tup Tf.text.vs) := upd_same
    show C8.tCut _ _ _ _ (upd G14 t0 (.tup Tf.text.vs))
    generalize upd G14 t0 (.tup Tf.text.vs) = G15 at pv15 pgD ht15 ⊢
    refine ⟨fun σ G => ∃ v, Same G15 G ∧ DueV G v (dueR n l) ∧ σ = [some (.ref b), some (.ref p), some (.ref kq), some (.ref s), some (tx (cols n)), some (.bl sp), some (tx gap), some (.ref D), some v, w9, w10, some (tx l), some v12], ?_, ?_⟩
    · refine ⟨_, rfl, rfl, _, rfl, ?_⟩
      rcases pv15 with ⟨hn, rfl⟩ | ⟨gap2, ps2, u, D2, ws2, h1, rfl, h3, h4, h5⟩
      · exact itN (by decide) ⟨_, .refl _, .inr ⟨.text, t0, by unfold dueR; rw [hn], rfl, ht15⟩, rfl⟩
      · obtain ⟨i1, i2, i3⟩ := parse_small h1 ll
        refine itP (by rw [decide_eq_false (fun e => by cases e)]; rfl) ?_
        refine ⟨_, rfl, _, rfl, .inr (.inl ⟨u, _, _, _, rfl, rfl, seqT_of h3, atI_nat (j := 0) rfl, _, rfl, .inr (.inl ⟨u, _, _, _, rfl, rfl, seqT_of h3, atI_nat (j := 1) rfl, D2, n, gap2, ws2, ps2, rfl, gn.1, h4, h5, by omega, i2, by omega, fun v M sm dv => ⟨v, sm, ?_, rfl⟩⟩)⟩)⟩
        have e : dueR n l = dueF n gap2 ps2 := by unfold dueR; rw [h1]
        rw [e]
        exact dv
    rintro σ G16 ⟨v, s16, dv, rfl⟩
    have pv16 := pv15.mono s16
    have pgE := pgD.same s16
    refine ⟨_, rfl, _, rfl, s, r, c, n, l, rfl, sch.pg hp2 pgE, ll, fun u17 G17 s17 _ rv => ?_⟩
    have pv17 := pv16.mono s17
    refine ⟨_, rfl, rfl, _, rfl, ?_⟩
    rcases dv with ⟨hn, rfl⟩ | ⟨t, ut, ht, rfl, hut⟩
    · refine itN (by decide) ?_
      rcases rv with ⟨t, h1, _⟩ | ⟨_, gap2, ps2, y2, hpp, ⟨L2, m1, m2⟩, fa2⟩
      · rw [hn] at h1; cases h1
      rcases pv17 with ⟨h1, _⟩ | ⟨gap3, ps3, u, D2, ws2, h1, rfl, h3, h4, h5⟩
      · rw [hpp] at h1; cases h1
      rw [hpp] at h1
      have h1 := Option.some.inj h1
      obtain rfl : gap2 = gap3 := congrArg Prod.fst h1
      obtain rfl : ps2 = ps3 := congrArg Prod.snd h1
      obtain ⟨so1, so2⟩ := sorted_ok fa2.ok h5
      refine ⟨_, rfl, u17, _, _, _, rfl, rfl, seqT_of m1, atI_nat (j := 0) rfl, rfl, _, rfl, itP (by rw [decide_eq_false (fun e => by cases e)]; rfl) ?_⟩
      refine ⟨_, rfl, u17, _, _, _, rfl, rfl, seqT_of m1, atI_nat (j := 0) rfl, _, rfl, _, rfl, .inr (.inl ⟨u, _, _, _, rfl, rfl, seqT_of h3, atI_nat (j := 0) rfl, _, rfl, .inr (.inl ⟨u, _, _, _, rfl, rfl, seqT_of h3, atI_nat (j := 1) rfl, D2, ws2, kH G17, rfl, seqL_of h4, so1, fun ys O hs' hb' hO => ?_⟩)⟩)⟩
      have xO := ex_new (o := .lst ys) hO
      exact ⟨y2, s, O, r, c, n, gap2, ps2, ys, rfl, fa2.mono xO, upd_same, (so2 ys hs' hb').mono xO, fun M _ => z M⟩
    · refine itP (by rw [decide_eq_false (fun e => by cases e)]; rfl) ?_
      rcases rv with ⟨t2, h2, L2, q2, m1, m2, m3⟩ | ⟨hn, _⟩
      rotate_left
      · rw [ht] at hn; cases hn
      rw [ht] at h2
      obtain rfl : t = t2 := Option.some.inj h2
      refine ⟨_, rfl, u17, _, _, _, rfl, rfl, seqT_of m1, atI_nat (j := 0) rfl, rfl, _, rfl, itP (decide_eq_true rfl) ?_⟩
      refine ⟨_, rfl, u17, _, _, _, rfl, rfl, seqT_of m1, atI_nat (j := 1) rfl, _, rfl, by show 1 ≤ sizeLine; decide, fun B2 hB2 => ?_⟩
      have x2 := ex_new (o := .lst [.ref ut]) hB2
      refine ⟨onD t, onD t, dp_on (x2 _ _ m2) (x2 _ _ m3), dp_on upd_same ((s17.trans x2) _ _ hut), plain_on _, plain_on _, depth_on64 _, ?_⟩
      rw [eqv_on]
      exact z _
end ZZ
end
theorem law_F {l : PySem.W.OpenLaw} {w : World} {K : PySem.W.Frag} {mg : Str → Option Value} {fa : Addr} {a : Ad} (T : Txt K mg a) (hfa : mg "law" = some (.ref fa)) :
    ∃ fd : FuncData, (∀ (s : Shared) (v : Value), BindsTo s fd ⟨[v], []⟩ [("script", v)]) ∧ ∀ base : Heap, K.In base → base.Ns mainGlobals mg → FnOk l.prog w K mg base (L2.CX l.prog w) 12 fa fd ["script"] (spLaw K) := by
  obtain ⟨f, fd, F, g⟩ := T.d_law.ex
  have e := hfa.symm.trans g
  cases e
  refine ⟨fd, fun s v => ?_, fun base _ _ => ZZ.ok_law T F⟩
  obtain ⟨oc, od, kV, doc, pm, an, cdv, ct, osl, rfl, lk, hcd⟩ := F.ex
  exact .of_eq rfl
theorem walk {l : PySem.W.OpenLaw} {q : Program} {loose : List Str} {XP : (Str → Option Value) → Heap → Prop} {YP : World → Heap → Prop} {d : DefRec} {K : Params → PySem.W.Frag} (hn : l.most = some 63) (hdf : d.params.defaults = [])
    (hY : ∀ (w : World) (h : Heap), YP w h → (K w.params).In h) (hd : d.name = "law")
    (F : ∀ (w : World) (mg : Str → Option Value) (h : Heap), (K w.params).In h → h.Ns mainGlobals mg → ∃ a, Txt (K w.params) mg a) :
    PySem.W.WalkO q loose XP YP l.row.toRowW d [] (fun f vs => PySem.call f vs) :=
  L2.walk_of (n := 63) (k := 12) (x := "script") (CX := fun w => L2.CX l.prog w) (sp := fun w => spLaw (K w.params)) hn (by decide) hdf ⟨rfl, by decide, by decide⟩ hY
    (fun w mg fa h KX G hmg => let ⟨a, T⟩ := F w mg h KX G; law_F T (hd ▸ hmg))
    (fun _ _ a ns hl _ hS => ⟨a, ns, rfl, hS, hl, fun _ => rfl⟩) fun _ _ _ _ _ z => by
      obtain ⟨_, _, _, _, _, _, _, _, _, _, _, _, x⟩ := z
      exact x
end K32

end
section
set_option Elab.async false
set_option linter.all false
set_option maxRecDepth 100000
set_option maxHeartbeats 4000000
namespace K32
open PySem PySem.Spec PyProof.Rows L2 Kit
theorem kk_of {K : PySem.W.Frag} {CGalloonError CBadScheme CBadColumn CBadSpots CTooMany CBadFont CBadLetter CBadGlyph CDuplicateLetter CUnknownLetter CScheme CFont : Addr}
    (ic_BadScheme : PySem.W.isClsIn K CBadScheme = true)
    (tc_BadScheme : PySem.W.typeIn K (.ref CBadScheme) = some (.type "type"))
    (ic_BadColumn : PySem.W.isClsIn K CBadColumn = true)
    (tc_BadColumn : PySem.W.typeIn K (.ref CBadColumn) = some (.type "type"))
    (ic_BadSpots : PySem.W.isClsIn K CBadSpots = true)
    (tc_BadSpots : PySem.W.typeIn K (.ref CBadSpots) = some (.type "type"))
    (ic_TooMany : PySem.W.isClsIn K CTooMany = true)
    (tc_TooMany : PySem.W.typeIn K (.ref CTooMany) = some (.type "type"))
    (ic_BadFont : PySem.W.isClsIn K CBadFont = true)
    (tc_BadFont : PySem.W.typeIn K (.ref CBadFont) = some (.type "type"))
    (ic_BadLetter : PySem.W.isClsIn K CBadLetter = true)
    (tc_BadLetter : PySem.W.typeIn K (.ref CBadLetter) = some (.type "type"))
    (ic_BadGlyph : PySem.W.isClsIn K CBadGlyph = true)
    (tc_BadGlyph : PySem.W.typeIn K (.ref CBadGlyph) = some (.type "type"))
    (ic_DuplicateLetter : PySem.W.isClsIn K CDuplicateLetter = true)
    (tc_DuplicateLetter : PySem.W.typeIn K (.ref CDuplicateLetter) = some (.type "type"))
    (ic_UnknownLetter : PySem.W.isClsIn K CUnknownLetter = true)
    (tc_UnknownLetter : PySem.W.typeIn K (.ref CUnknownLetter) = some (.type "type"))
    (s_0_1 : PySem.W.subIn K (.ref CBadScheme) (.ref CBadColumn) = some false)
    (ne_0_1 : ((Value.ref CBadScheme) == Value.ref CBadColumn) = false)
    (s_0_2 : PySem.W.subIn K (.ref CBadScheme) (.ref CBadSpots) = some false)
    (ne_0_2 : ((Value.ref CBadScheme) == Value.ref CBadSpots) = false)
    (s_0_3 : PySem.W.subIn K (.ref CBadScheme) (.ref CTooMany) = some false)
    (ne_0_3 : ((Value.ref CBadScheme) == Value.ref CTooMany) = false)
    (s_0_4 : PySem.W.subIn K (.ref CBadScheme) (.ref CBadFont) = some false)
    (ne_0_4 : ((Value.ref CBadScheme) == Value.ref CBadFont) = false)
    (s_0_5 : PySem.W.subIn K (.ref CBadScheme) (.ref CBadLetter) = some false)
    (ne_0_5 : ((Value.ref CBadScheme) == Value.ref CBadLetter) = false)
    (s_0_6 : PySem.W.subIn K (.ref CBadScheme) (.ref CBadGlyph) = some false)
    (ne_0_6 : ((Value.ref CBadScheme) == Value.ref CBadGlyph) = false)
    (s_0_7 : PySem.W.subIn K (.ref CBadScheme) (.ref CDuplicateLetter) = some false)
    (ne_0_7 : ((Value.ref CBadScheme) == Value.ref CDuplicateLetter) = false)
    (s_0_8 : PySem.W.subIn K (.ref CBadScheme) (.ref CUnknownLetter) = some false)
    (ne_0_8 : ((Value.ref CBadScheme) == Value.ref CUnknownLetter) = false)
    (s_1_0 : PySem.W.subIn K (.ref CBadColumn) (.ref CBadScheme) = some false)
    (ne_1_0 : ((Value.ref CBadColumn) == Value.ref CBadScheme) = false)
    (s_1_2 : PySem.W.subIn K (.ref CBadColumn) (.ref CBadSpots) = some false)
    (ne_1_2 : ((Value.ref CBadColumn) == Value.ref CBadSpots) = false)
    (s_1_3 : PySem.W.subIn K (.ref CBadColumn) (.ref CTooMany) = some false)
    (ne_1_3 : ((Value.ref CBadColumn) == Value.ref CTooMany) = false)
    (s_1_4 : PySem.W.subIn K (.ref CBadColumn) (.ref CBadFont) = some false)
    (ne_1_4 : ((Value.ref CBadColumn) == Value.ref CBadFont) = false)
    (s_1_5 : PySem.W.subIn K (.ref CBadColumn) (.ref CBadLetter) = some false)
    (ne_1_5 : ((Value.ref CBadColumn) == Value.ref CBadLetter) = false)
    (s_1_6 : PySem.W.subIn K (.ref CBadColumn) (.ref CBadGlyph) = some false)
    (ne_1_6 : ((Value.ref CBadColumn) == Value.ref CBadGlyph) = false)
    (s_1_7 : PySem.W.subIn K (.ref CBadColumn) (.ref CDuplicateLetter) = some false)
    (ne_1_7 : ((Value.ref CBadColumn) == Value.ref CDuplicateLetter) = false)
    (s_1_8 : PySem.W.subIn K (.ref CBadColumn) (.ref CUnknownLetter) = some false)
    (ne_1_8 : ((Value.ref CBadColumn) == Value.ref CUnknownLetter) = false)
    (s_2_0 : PySem.W.subIn K (.ref CBadSpots) (.ref CBadScheme) = some false)
    (ne_2_0 : ((Value.ref CBadSpots) == Value.ref CBadScheme) = false)
    (s_2_1 : PySem.W.subIn K (.ref CBadSpots) (.ref CBadColumn) = some false)
    (ne_2_1 : ((Value.ref CBadSpots) == Value.ref CBadColumn) = false)
    (s_2_3 : PySem.W.subIn K (.ref CBadSpots) (.ref CTooMany) = some false)
    (ne_2_3 : ((Value.ref CBadSpots) == Value.ref CTooMany) = false)
    (s_2_4 : PySem.W.subIn K (.ref CBadSpots) (.ref CBadFont) = some false)
    (ne_2_4 : ((Value.ref CBadSpots) == Value.ref CBadFont) = false)
    (s_2_5 : PySem.W.subIn K (.ref CBadSpots) (.ref CBadLetter) = some false)
    (ne_2_5 : ((Value.ref CBadSpots) == Value.ref CBadLetter) = false)
    (s_2_6 : PySem.W.subIn K (.ref CBadSpots) (.ref CBadGlyph) = some false)
    (ne_2_6 : ((Value.ref CBadSpots) == Value.ref CBadGlyph) = false)
    (s_2_7 : PySem.W.subIn K (.ref CBadSpots) (.ref CDuplicateLetter) = some false)
    (ne_2_7 : ((Value.ref CBadSpots) == Value.ref CDuplicateLetter) = false)
    (s_2_8 : PySem.W.subIn K (.ref CBadSpots) (.ref CUnknownLetter) = some false)
    (ne_2_8 : ((Value.ref CBadSpots) == Value.ref CUnknownLetter) = false)
    (s_3_0 : PySem.W.subIn K (.ref CTooMany) (.ref CBadScheme) = some false)
    (ne_3_0 : ((Value.ref CTooMany) == Value.ref CBadScheme) = false)
    (s_3_1 : PySem.W.subIn K (.ref CTooMany) (.ref CBadColumn) = some false)
    (ne_3_1 : ((Value.ref CTooMany) == Value.ref CBadColumn) = false)
    (s_3_2 : PySem.W.subIn K (.ref CTooMany) (.ref CBadSpots) = some false)
    (ne_3_2 : ((Value.ref CTooMany) == Value.ref CBadSpots) = false)
    (s_3_4 : PySem.W.subIn K (.ref CTooMany) (.ref CBadFont) = some false)
    (ne_3_4 : ((Value.ref CTooMany) == Value.ref CBadFont) = false)
    (s_3_5 : PySem.W.subIn K (.ref CTooMany) (.ref CBadLetter) = some false)
    (ne_3_5 : ((Value.ref CTooMany) == Value.ref CBadLetter) = false)
    (s_3_6 : PySem.W.subIn K (.ref CTooMany) (.ref CBadGlyph) = some false)
    (ne_3_6 : ((Value.ref CTooMany) == Value.ref CBadGlyph) = false)
    (s_3_7 : PySem.W.subIn K (.ref CTooMany) (.ref CDuplicateLetter) = some false)
    (ne_3_7 : ((Value.ref CTooMany) == Value.ref CDuplicateLetter) = false)
    (s_3_8 : PySem.W.subIn K (.ref CTooMany) (.ref CUnknownLetter) = some false)
    (ne_3_8 : ((Value.ref CTooMany) == Value.ref CUnknownLetter) = false)
    (s_4_0 : PySem.W.subIn K (.ref CBadFont) (.ref CBadScheme) = some false)
    (ne_4_0 : ((Value.ref CBadFont) == Value.ref CBadScheme) = false)
    (s_4_1 : PySem.W.subIn K (.ref CBadFont) (.ref CBadColumn) = some false)
    (ne_4_1 : ((Value.ref CBadFont) == Value.ref CBadColumn) = false)
    (s_4_2 : PySem.W.subIn K (.ref CBadFont) (.ref CBadSpots) = some false)
    (ne_4_2 : ((Value.ref CBadFont) == Value.ref CBadSpots) = false)
    (s_4_3 : PySem.W.subIn K (.ref CBadFont) (.ref CTooMany) = some false)
    (ne_4_3 : ((Value.ref CBadFont) == Value.ref CTooMany) = false)
    (s_4_5 : PySem.W.subIn K (.ref CBadFont) (.ref CBadLetter) = some false)
    (ne_4_5 : ((Value.ref CBadFont) == Value.ref CBadLetter) = false)
    (s_4_6 : PySem.W.subIn K (.ref CBadFont) (.ref CBadGlyph) = some false)
    (ne_4_6 : ((Value.ref CBadFont) == Value.ref CBadGlyph) = false)
    (s_4_7 : PySem.W.subIn K (.ref CBadFont) (.ref CDuplicateLetter) = some false)
    (ne_4_7 : ((Value.ref CBadFont) == Value.ref CDuplicateLetter) = false)
    (s_4_8 : PySem.W.subIn K (.ref CBadFont) (.ref CUnknownLetter) = some false)
    (ne_4_8 : ((Value.ref CBadFont) == Value.ref CUnknownLetter) = false)
    (s_5_0 : PySem.W.subIn K (.ref CBadLetter) (.ref CBadScheme) = some false)
    (ne_5_0 : ((Value.ref CBadLetter) == Value.ref CBadScheme) = false)
    (s_5_1 : PySem.W.subIn K (.ref CBadLetter) (.ref CBadColumn) = some false)
    (ne_5_1 : ((Value.ref CBadLetter) == Value.ref CBadColumn) = false)
    (s_5_2 : PySem.W.subIn K (.ref CBadLetter) (.ref CBadSpots) = some false)
    (ne_5_2 : ((Value.ref CBadLetter) == Value.ref CBadSpots) = false)
    (s_5_3 : PySem.W.subIn K (.ref CBadLetter) (.ref CTooMany) = some false)
    (ne_5_3 : ((Value.ref CBadLetter) == Value.ref CTooMany) = false)
    (s_5_4 : PySem.W.subIn K (.ref CBadLetter) (.ref CBadFont) = some false)
    (ne_5_4 : ((Value.ref CBadLetter) == Value.ref CBadFont) = false)
    (s_5_6 : PySem.W.subIn K (.ref CBadLetter) (.ref CBadGlyph) = some false)
    (ne_5_6 : ((Value.ref CBadLetter) == Value.ref CBadGlyph) = false)
    (s_5_7 : PySem.W.subIn K (.ref CBadLetter) (.ref CDuplicateLetter) = some false)
    (ne_5_7 : ((Value.ref CBadLetter) == Value.ref CDuplicateLetter) = false)
    (s_5_8 : PySem.W.subIn K (.ref CBadLetter) (.ref CUnknownLetter) = some false)
    (ne_5_8 : ((Value.ref CBadLetter) == Value.ref CUnknownLetter) = false)
    (s_6_0 : PySem.W.subIn K (.ref CBadGlyph) (.ref CBadScheme) = some false)
    (ne_6_0 : ((Value.ref CBadGlyph) == Value.ref CBadScheme) = false)
    (s_6_1 : PySem.W.subIn K (.ref CBadGlyph) (.ref CBadColumn) = some false)
    (ne_6_1 : ((Value.ref CBadGlyph) == Value.ref CBadColumn) = false)
    (s_6_2 : PySem.W.subIn K (.ref CBadGlyph) (.ref CBadSpots) = some false)
    (ne_6_2 : ((Value.ref CBadGlyph) == Value.ref CBadSpots) = false)
    (s_6_3 : PySem.W.subIn K (.ref CBadGlyph) (.ref CTooMany) = some false)
    (ne_6_3 : ((Value.ref CBadGlyph) == Value.ref CTooMany) = false)
    (s_6_4 : PySem.W.subIn K (.ref CBadGlyph) (.ref CBadFont) = some false)
    (ne_6_4 : ((Value.ref CBadGlyph) == Value.ref CBadFont) = false)
    (s_6_5 : PySem.W.subIn K (.ref CBadGlyph) (.ref CBadLetter) = some false)
    (ne_6_5 : ((Value.ref CBadGlyph) == Value.ref CBadLetter) = false)
    (s_6_7 : PySem.W.subIn K (.ref CBadGlyph) (.ref CDuplicateLetter) = some false)
    (ne_6_7 : ((Value.ref CBadGlyph) == Value.ref CDuplicateLetter) = false)
    (s_6_8 : PySem.W.subIn K (.ref CBadGlyph) (.ref CUnknownLetter) = some false)
    (ne_6_8 : ((Value.ref CBadGlyph) == Value.ref CUnknownLetter) = false)
    (s_7_0 : PySem.W.subIn K (.ref CDuplicateLetter) (.ref CBadScheme) = some false)
    (ne_7_0 : ((Value.ref CDuplicateLetter) == Value.ref CBadScheme) = false)
    (s_7_1 : PySem.W.subIn K (.ref CDuplicateLetter) (.ref CBadColumn) = some false)
    (ne_7_1 : ((Value.ref CDuplicateLetter) == Value.ref CBadColumn) = false)
    (s_7_2 : PySem.W.subIn K (.ref CDuplicateLetter) (.ref CBadSpots) = some false)
    (ne_7_2 : ((Value.ref CDuplicateLetter) == Value.ref CBadSpots) = false)
    (s_7_3 : PySem.W.subIn K (.ref CDuplicateLetter) (.ref CTooMany) = some false)
    (ne_7_3 : ((Value.ref CDuplicateLetter) == Value.ref CTooMany) = false)
    (s_7_4 : PySem.W.subIn K (.ref CDuplicateLetter) (.ref CBadFont) = some false)
    (ne_7_4 : ((Value.ref CDuplicateLetter) == Value.ref CBadFont) = false)
    (s_7_5 : PySem.W.subIn K (.ref CDuplicateLetter) (.ref CBadLetter) = some false)
    (ne_7_5 : ((Value.ref CDuplicateLetter) == Value.ref CBadLetter) = false)
    (s_7_6 : PySem.W.subIn K (.ref CDuplicateLetter) (.ref CBadGlyph) = some false)
    (ne_7_6 : ((Value.ref CDuplicateLetter) == Value.ref CBadGlyph) = false)
    (s_7_8 : PySem.W.subIn K (.ref CDuplicateLetter) (.ref CUnknownLetter) = some false)
    (ne_7_8 : ((Value.ref CDuplicateLetter) == Value.ref CUnknownLetter) = false)
    (s_8_0 : PySem.W.subIn K (.ref CUnknownLetter) (.ref CBadScheme) = some false)
    (ne_8_0 : ((Value.ref CUnknownLetter) == Value.ref CBadScheme) = false)
    (s_8_1 : PySem.W.subIn K (.ref CUnknownLetter) (.ref CBadColumn) = some false)
    (ne_8_1 : ((Value.ref CUnknownLetter) == Value.ref CBadColumn) = false)
    (s_8_2 : PySem.W.subIn K (.ref CUnknownLetter) (.ref CBadSpots) = some false)
    (ne_8_2 : ((Value.ref CUnknownLetter) == Value.ref CBadSpots) = false)
    (s_8_3 : PySem.W.subIn K (.ref CUnknownLetter) (.ref CTooMany) = some false)
    (ne_8_3 : ((Value.ref CUnknownLetter) == Value.ref CTooMany) = false)
    (s_8_4 : PySem.W.subIn K (.ref CUnknownLetter) (.ref CBadFont) = some false)
    (ne_8_4 : ((Value.ref CUnknownLetter) == Value.ref CBadFont) = false)
    (s_8_5 : PySem.W.subIn K (.ref CUnknownLetter) (.ref CBadLetter) = some false)
    (ne_8_5 : ((Value.ref CUnknownLetter) == Value.ref CBadLetter) = false)
    (s_8_6 : PySem.W.subIn K (.ref CUnknownLetter) (.ref CBadGlyph) = some false)
    (ne_8_6 : ((Value.ref CUnknownLetter) == Value.ref CBadGlyph) = false)
    (s_8_7 : PySem.W.subIn K (.ref CUnknownLetter) (.ref CDuplicateLetter) = some false)
    (ne_8_7 : ((Value.ref CUnknownLetter) == Value.ref CDuplicateLetter) = false) : ∀ i < 9, ∀ j < 9, PySem.W.kitOne K (.ref (eAd ⟨CGalloonError, CBadScheme, CBadColumn, CBadSpots, CTooMany, CBadFont, CBadLetter, CBadGlyph, CDuplicateLetter, CUnknownLetter, CScheme, CFont⟩ i)) (.ref (eAd ⟨CGalloonError, CBadScheme, CBadColumn, CBadSpots, CTooMany, CBadFont, CBadLetter, CBadGlyph, CDuplicateLetter, CUnknownLetter, CScheme, CFont⟩ j)) = some (decide (i = j)) := by
  intro i hi j hj
  match i, hi, j, hj with
  | 0, _, 0, _ => exact kitS_of
  | 0, _, 1, _ => exact kitR_of ic_BadColumn tc_BadColumn s_0_1 ne_0_1
  | 0, _, 2, _ => exact kitR_of ic_BadSpots tc_BadSpots s_0_2 ne_0_2
  | 0, _, 3, _ => exact kitR_of ic_TooMany tc_TooMany s_0_3 ne_0_3
  | 0, _, 4, _ => exact kitR_of ic_BadFont tc_BadFont s_0_4 ne_0_4
  | 0, _, 5, _ => exact kitR_of ic_BadLetter tc_BadLetter s_0_5 ne_0_5
  | 0, _, 6, _ => exact kitR_of ic_BadGlyph tc_BadGlyph s_0_6 ne_0_6
  | 0, _, 7, _ => exact kitR_of ic_DuplicateLetter tc_DuplicateLetter s_0_7 ne_0_7
  | 0, _, 8, _ => exact kitR_of ic_UnknownLetter tc_UnknownLetter s_0_8 ne_0_8
  | 1, _, 0, _ => exact kitR_of ic_BadScheme tc_BadScheme s_1_0 ne_1_0
  | 1, _, 1, _ => exact kitS_of
  | 1, _, 2, _ => exact kitR_of ic_BadSpots tc_BadSpots s_1_2 ne_1_2
  | 1, _, 3, _ => exact kitR_of ic_TooMany tc_TooMany s_1_3 ne_1_3
  | 1, _, 4, _ => exact kitR_of ic_BadFont tc_BadFont s_1_4 ne_1_4
  | 1, _, 5, _ => exact kitR_of ic_BadLetter tc_BadLetter s_1_5 ne_1_5
  | 1, _, 6, _ => exact kitR_of ic_BadGlyph tc_BadGlyph s_1_6 ne_1_6
  | 1, _, 7, _ => exact kitR_of ic_DuplicateLetter tc_DuplicateLetter s_1_7 ne_1_7
  | 1, _, 8, _ => exact kitR_of ic_UnknownLetter tc_UnknownLetter s_1_8 ne_1_8
  | 2, _, 0, _ => exact kitR_of ic_BadScheme tc_BadScheme s_2_0 ne_2_0
  | 2, _, 1, _ => exact kitR_of ic_BadColumn tc_BadColumn s_2_1 ne_2_1
  | 2, _, 2, _ => exact kitS_of
  | 2, _, 3, _ => exact kitR_of ic_TooMany tc_TooMany s_2_3 ne_2_3
  | 2, _, 4, _ => exact kitR_of ic_BadFont tc_BadFont s_2_4 ne_2_4
  | 2, _, 5, _ => exact kitR_of ic_BadLetter tc_BadLetter s_2_5 ne_2_5
  | 2, _, 6, _ => exact kitR_of ic_BadGlyph tc_BadGlyph s_2_6 ne_2_6
  | 2, _, 7, _ => exact kitR_of ic_DuplicateLetter tc_DuplicateLetter s_2_7 ne_2_7
  | 2, _, 8, _ => exact kitR_of ic_UnknownLetter tc_UnknownLetter s_2_8 ne_2_8
  | 3, _, 0, _ => exact kitR_of ic_BadScheme tc_BadScheme s_3_0 ne_3_0
  | 3, _, 1, _ => exact kitR_of ic_BadColumn tc_BadColumn s_3_1 ne_3_1
  | 3, _, 2, _ => exact kitR_of ic_BadSpots tc_BadSpots s_3_2 ne_3_2
  | 3, _, 3, _ => exact kitS_of
  | 3, _, 4, _ => exact kitR_of ic_BadFont tc_BadFont s_3_4 ne_3_4
  | 3, _, 5, _ => exact kitR_of ic_BadLetter tc_BadLetter s_3_5 ne_3_5
  | 3, _, 6, _ => exact kitR_of ic_BadGlyph tc_BadGlyph s_3_6 ne_3_6
  | 3, _, 7, _ => exact kitR_of ic_DuplicateLetter tc_DuplicateLetter s_3_7 ne_3_7
  | 3, _, 8, _ => exact kitR_of ic_UnknownLetter tc_UnknownLetter s_3_8 ne_3_8
  | 4, _, 0, _ => exact kitR_of ic_BadScheme tc_BadScheme s_4_0 ne_4_0
  | 4, _, 1, _ => exact kitR_of ic_BadColumn tc_BadColumn s_4_1 ne_4_1
  | 4, _, 2, _ => exact kitR_of ic_BadSpots tc_BadSpots s_4_2 ne_4_2
  | 4, _, 3, _ => exact kitR_of ic_TooMany tc_TooMany s_4_3 ne_4_3
  | 4, _, 4, _ => exact kitS_of
  | 4, _, 5, _ => exact kitR_of ic_BadLetter tc_BadLetter s_4_5 ne_4_5
  | 4, _, 6, _ => exact kitR_of ic_BadGlyph tc_BadGlyph s_4_6 ne_4_6
  | 4, _, 7, _ => exact kitR_of ic_DuplicateLetter tc_DuplicateLetter s_4_7 ne_4_7
  | 4, _, 8, _ => exact kitR_of ic_UnknownLetter tc_UnknownLetter s_4_8 ne_4_8
  | 5, _, 0, _ => exact kitR_of ic_BadScheme tc_BadScheme s_5_0 ne_5_0
  | 5, _, 1, _ => exact kitR_of ic_BadColumn tc_BadColumn s_5_1 ne_5_1
  | 5, _, 2, _ => exact kitR_of ic_BadSpots tc_BadSpots s_5_2 ne_5_2
  | 5, _, 3, _ => exact kitR_of ic_TooMany tc_TooMany s_5_3 ne_5_3
  | 5, _, 4, _ => exact kitR_of ic_BadFont tc_BadFont s_5_4 ne_5_4
  | 5, _, 5, _ => exact kitS_of
  | 5, _, 6, _ => exact kitR_of ic_BadGlyph tc_BadGlyph s_5_6 ne_5_6
  | 5, _, 7, _ => exact kitR_of ic_DuplicateLetter tc_DuplicateLetter s_5_7 ne_5_7
  | 5, _, 8, _ => exact kitR_of ic_UnknownLetter tc_UnknownLetter s_5_8 ne_5_8
  | 6, _, 0, _ => exact kitR_of ic_BadScheme tc_BadScheme s_6_0 ne_6_0
  | 6, _, 1, _ => exact kitR_of ic_BadColumn tc_BadColumn s_6_1 ne_6_1
  | 6, _, 2, _ => exact kitR_of ic_BadSpots tc_BadSpots s_6_2 ne_6_2
  | 6, _, 3, _ => exact kitR_of ic_TooMany tc_TooMany s_6_3 ne_6_3
  | 6, _, 4, _ => exact kitR_of ic_BadFont tc_BadFont s_6_4 ne_6_4
  | 6, _, 5, _ => exact kitR_of ic_BadLetter tc_BadLetter s_6_5 ne_6_5
  | 6, _, 6, _ => exact kitS_of
  | 6, _, 7, _ => exact kitR_of ic_DuplicateLetter tc_DuplicateLetter s_6_7 ne_6_7
  | 6, _, 8, _ => exact kitR_of ic_UnknownLetter tc_UnknownLetter s_6_8 ne_6_8
  | 7, _, 0, _ => exact kitR_of ic_BadScheme tc_BadScheme s_7_0 ne_7_0
  | 7, _, 1, _ => exact kitR_of ic_BadColumn tc_BadColumn s_7_1 ne_7_1
  | 7, _, 2, _ => exact kitR_of ic_BadSpots tc_BadSpots s_7_2 ne_7_2
  | 7, _, 3, _ => exact kitR_of ic_TooMany tc_TooMany s_7_3 ne_7_3
  | 7, _, 4, _ => exact kitR_of ic_BadFont tc_BadFont s_7_4 ne_7_4
  | 7, _, 5, _ => exact kitR_of ic_BadLetter tc_BadLetter s_7_5 ne_7_5
  | 7, _, 6, _ => exact kitR_of ic_BadGlyph tc_BadGlyph s_7_6 ne_7_6
  | 7, _, 7, _ => exact kitS_of
  | 7, _, 8, _ => exact kitR_of ic_UnknownLetter tc_UnknownLetter s_7_8 ne_7_8
  | 8, _, 0, _ => exact kitR_of ic_BadScheme tc_BadScheme s_8_0 ne_8_0
  | 8, _, 1, _ => exact kitR_of ic_BadColumn tc_BadColumn s_8_1 ne_8_1
  | 8, _, 2, _ => exact kitR_of ic_BadSpots tc_BadSpots s_8_2 ne_8_2
  | 8, _, 3, _ => exact kitR_of ic_TooMany tc_TooMany s_8_3 ne_8_3
  | 8, _, 4, _ => exact kitR_of ic_BadFont tc_BadFont s_8_4 ne_8_4
  | 8, _, 5, _ => exact kitR_of ic_BadLetter tc_BadLetter s_8_5 ne_8_5
  | 8, _, 6, _ => exact kitR_of ic_BadGlyph tc_BadGlyph s_8_6 ne_8_6
  | 8, _, 7, _ => exact kitR_of ic_DuplicateLetter tc_DuplicateLetter s_8_7 ne_8_7
  | 8, _, 8, _ => exact kitS_of
theorem kv_of {K : PySem.W.Frag} {CGalloonError CBadScheme CBadColumn CBadSpots CTooMany CBadFont CBadLetter CBadGlyph CDuplicateLetter CUnknownLetter CScheme CFont : Addr}
    (sv_0 : PySem.W.subIn K (.ref CBadScheme) (.type "ValueError") = some true)
    (sv_1 : PySem.W.subIn K (.ref CBadColumn) (.type "ValueError") = some true)
    (sv_2 : PySem.W.subIn K (.ref CBadSpots) (.type "ValueError") = some true)
    (sv_3 : PySem.W.subIn K (.ref CTooMany) (.type "ValueError") = some true)
    (sv_4 : PySem.W.subIn K (.ref CBadFont) (.type "ValueError") = some true)
    (sv_5 : PySem.W.subIn K (.ref CBadLetter) (.type "ValueError") = some true)
    (sv_6 : PySem.W.subIn K (.ref CBadGlyph) (.type "ValueError") = some true)
    (sv_7 : PySem.W.subIn K (.ref CDuplicateLetter) (.type "ValueError") = some true)
    (sv_8 : PySem.W.subIn K (.ref CUnknownLetter) (.type "ValueError") = some true) : ∀ i < 9, PySem.W.kitOne K (.ref (eAd ⟨CGalloonError, CBadScheme, CBadColumn, CBadSpots, CTooMany, CBadFont, CBadLetter, CBadGlyph, CDuplicateLetter, CUnknownLetter, CScheme, CFont⟩ i)) (.type "ValueError") = some true := by
  intro i hi
  match i, hi with
  | 0, _ => exact kitT_of (by decide +kernel) sv_0
  | 1, _ => exact kitT_of (by decide +kernel) sv_1
  | 2, _ => exact kitT_of (by decide +kernel) sv_2
  | 3, _ => exact kitT_of (by decide +kernel) sv_3
  | 4, _ => exact kitT_of (by decide +kernel) sv_4
  | 5, _ => exact kitT_of (by decide +kernel) sv_5
  | 6, _ => exact kitT_of (by decide +kernel) sv_6
  | 7, _ => exact kitT_of (by decide +kernel) sv_7
  | 8, _ => exact kitT_of (by decide +kernel) sv_8
theorem xm_of {K : PySem.W.Frag} {CGalloonError CBadScheme CBadColumn CBadSpots CTooMany CBadFont CBadLetter CBadGlyph CDuplicateLetter CUnknownLetter CScheme CFont : Addr}
    (sB_GalloonError : PySem.W.subIn K (.ref CGalloonError) (.type "BaseException") = some true)
    (ic_GalloonError : PySem.W.isClsIn K CGalloonError = true)
    (tc_GalloonError : PySem.W.typeIn K (.ref CGalloonError) = some (.type "type"))
    (sg_0 : PySem.W.subIn K (.ref CBadScheme) (.ref CGalloonError) = some true)
    (sg_1 : PySem.W.subIn K (.ref CBadColumn) (.ref CGalloonError) = some true)
    (sg_2 : PySem.W.subIn K (.ref CBadSpots) (.ref CGalloonError) = some true)
    (sg_3 : PySem.W.subIn K (.ref CTooMany) (.ref CGalloonError) = some true)
    (sg_4 : PySem.W.subIn K (.ref CBadFont) (.ref CGalloonError) = some true)
    (sg_5 : PySem.W.subIn K (.ref CBadLetter) (.ref CGalloonError) = some true)
    (sg_6 : PySem.W.subIn K (.ref CBadGlyph) (.ref CGalloonError) = some true)
    (sg_7 : PySem.W.subIn K (.ref CDuplicateLetter) (.ref CGalloonError) = some true)
    (sg_8 : PySem.W.subIn K (.ref CUnknownLetter) (.ref CGalloonError) = some true) : ∀ i < 9, PySem.W.exmOne K (.ref (eAd ⟨CGalloonError, CBadScheme, CBadColumn, CBadSpots, CTooMany, CBadFont, CBadLetter, CBadGlyph, CDuplicateLetter, CUnknownLetter, CScheme, CFont⟩ i)) (.ref CGalloonError) = some true := by
  intro i hi
  match i, hi with
  | 0, _ => exact exm_of sB_GalloonError ic_GalloonError tc_GalloonError sg_0
  | 1, _ => exact exm_of sB_GalloonError ic_GalloonError tc_GalloonError sg_1
  | 2, _ => exact exm_of sB_GalloonError ic_GalloonError tc_GalloonError sg_2
  | 3, _ => exact exm_of sB_GalloonError ic_GalloonError tc_GalloonError sg_3
  | 4, _ => exact exm_of sB_GalloonError ic_GalloonError tc_GalloonError sg_4
  | 5, _ => exact exm_of sB_GalloonError ic_GalloonError tc_GalloonError sg_5
  | 6, _ => exact exm_of sB_GalloonError ic_GalloonError tc_GalloonError sg_6
  | 7, _ => exact exm_of sB_GalloonError ic_GalloonError tc_GalloonError sg_7
  | 8, _ => exact exm_of sB_GalloonError ic_GalloonError tc_GalloonError sg_8
theorem kg_of {K : PySem.W.Frag} {CGalloonError CBadScheme CBadColumn CBadSpots CTooMany CBadFont CBadLetter CBadGlyph CDuplicateLetter CUnknownLetter CScheme CFont : Addr}
    (ic_GalloonError : PySem.W.isClsIn K CGalloonError = true)
    (tc_GalloonError : PySem.W.typeIn K (.ref CGalloonError) = some (.type "type"))
    (sg_0 : PySem.W.subIn K (.ref CBadScheme) (.ref CGalloonError) = some true)
    (sg_1 : PySem.W.subIn K (.ref CBadColumn) (.ref CGalloonError) = some true)
    (sg_2 : PySem.W.subIn K (.ref CBadSpots) (.ref CGalloonError) = some true)
    (sg_3 : PySem.W.subIn K (.ref CTooMany) (.ref CGalloonError) = some true)
    (sg_4 : PySem.W.subIn K (.ref CBadFont) (.ref CGalloonError) = some true)
    (sg_5 : PySem.W.subIn K (.ref CBadLetter) (.ref CGalloonError) = some true)
    (sg_6 : PySem.W.subIn K (.ref CBadGlyph) (.ref CGalloonError) = some true)
    (sg_7 : PySem.W.subIn K (.ref CDuplicateLetter) (.ref CGalloonError) = some true)
    (sg_8 : PySem.W.subIn K (.ref CUnknownLetter) (.ref CGalloonError) = some true)
    (ne_g_0 : ((Value.ref CBadScheme) == Value.ref CGalloonError) = false)
    (ne_g_1 : ((Value.ref CBadColumn) == Value.ref CGalloonError) = false)
    (ne_g_2 : ((Value.ref CBadSpots) == Value.ref CGalloonError) = false)
    (ne_g_3 : ((Value.ref CTooMany) == Value.ref CGalloonError) = false)
    (ne_g_4 : ((Value.ref CBadFont) == Value.ref CGalloonError) = false)
    (ne_g_5 : ((Value.ref CBadLetter) == Value.ref CGalloonError) = false)
    (ne_g_6 : ((Value.ref CBadGlyph) == Value.ref CGalloonError) = false)
    (ne_g_7 : ((Value.ref CDuplicateLetter) == Value.ref CGalloonError) = false)
    (ne_g_8 : ((Value.ref CUnknownLetter) == Value.ref CGalloonError) = false) : ∀ i < 9, PySem.W.kitOne K (.ref (eAd ⟨CGalloonError, CBadScheme, CBadColumn, CBadSpots, CTooMany, CBadFont, CBadLetter, CBadGlyph, CDuplicateLetter, CUnknownLetter, CScheme, CFont⟩ i)) (.ref CGalloonError) = some true := by
  intro i hi
  match i, hi with
  | 0, _ => exact kitR_of ic_GalloonError tc_GalloonError sg_0 ne_g_0
  | 1, _ => exact kitR_of ic_GalloonError tc_GalloonError sg_1 ne_g_1
  | 2, _ => exact kitR_of ic_GalloonError tc_GalloonError sg_2 ne_g_2
  | 3, _ => exact kitR_of ic_GalloonError tc_GalloonError sg_3 ne_g_3
  | 4, _ => exact kitR_of ic_GalloonError tc_GalloonError sg_4 ne_g_4
  | 5, _ => exact kitR_of ic_GalloonError tc_GalloonError sg_5 ne_g_5
  | 6, _ => exact kitR_of ic_GalloonError tc_GalloonError sg_6 ne_g_6
  | 7, _ => exact kitR_of ic_GalloonError tc_GalloonError sg_7 ne_g_7
  | 8, _ => exact kitR_of ic_GalloonError tc_GalloonError sg_8 ne_g_8
theorem xo_of {K : PySem.W.Frag} {CGalloonError CBadScheme CBadColumn CBadSpots CTooMany CBadFont CBadLetter CBadGlyph CDuplicateLetter CUnknownLetter CScheme CFont : Addr}
    (sB_BadScheme : PySem.W.subIn K (.ref CBadScheme) (.type "BaseException") = some true)
    (ic_BadScheme : PySem.W.isClsIn K CBadScheme = true)
    (tc_BadScheme : PySem.W.typeIn K (.ref CBadScheme) = some (.type "type"))
    (sB_BadColumn : PySem.W.subIn K (.ref CBadColumn) (.type "BaseException") = some true)
    (ic_BadColumn : PySem.W.isClsIn K CBadColumn = true)
    (tc_BadColumn : PySem.W.typeIn K (.ref CBadColumn) = some (.type "type"))
    (sB_BadSpots : PySem.W.subIn K (.ref CBadSpots) (.type "BaseException") = some true)
    (ic_BadSpots : PySem.W.isClsIn K CBadSpots = true)
    (tc_BadSpots : PySem.W.typeIn K (.ref CBadSpots) = some (.type "type"))
    (sB_TooMany : PySem.W.subIn K (.ref CTooMany) (.type "BaseException") = some true)
    (ic_TooMany : PySem.W.isClsIn K CTooMany = true)
    (tc_TooMany : PySem.W.typeIn K (.ref CTooMany) = some (.type "type"))
    (sB_BadFont : PySem.W.subIn K (.ref CBadFont) (.type "BaseException") = some true)
    (ic_BadFont : PySem.W.isClsIn K CBadFont = true)
    (tc_BadFont : PySem.W.typeIn K (.ref CBadFont) = some (.type "type"))
    (sB_BadLetter : PySem.W.subIn K (.ref CBadLetter) (.type "BaseException") = some true)
    (ic_BadLetter : PySem.W.isClsIn K CBadLetter = true)
    (tc_BadLetter : PySem.W.typeIn K (.ref CBadLetter) = some (.type "type"))
    (sB_BadGlyph : PySem.W.subIn K (.ref CBadGlyph) (.type "BaseException") = some true)
    (ic_BadGlyph : PySem.W.isClsIn K CBadGlyph = true)
    (tc_BadGlyph : PySem.W.typeIn K (.ref CBadGlyph) = some (.type "type"))
    (sB_DuplicateLetter : PySem.W.subIn K (.ref CDuplicateLetter) (.type "BaseException") = some true)
    (ic_DuplicateLetter : PySem.W.isClsIn K CDuplicateLetter = true)
    (tc_DuplicateLetter : PySem.W.typeIn K (.ref CDuplicateLetter) = some (.type "type"))
    (sB_UnknownLetter : PySem.W.subIn K (.ref CUnknownLetter) (.type "BaseException") = some true)
    (ic_UnknownLetter : PySem.W.isClsIn K CUnknownLetter = true)
    (tc_UnknownLetter : PySem.W.typeIn K (.ref CUnknownLetter) = some (.type "type"))
    (ss_0 : PySem.W.subIn K (.ref CBadScheme) (.ref CBadScheme) = some true)
    (s_0_1 : PySem.W.subIn K (.ref CBadScheme) (.ref CBadColumn) = some false)
    (s_0_2 : PySem.W.subIn K (.ref CBadScheme) (.ref CBadSpots) = some false)
    (s_0_3 : PySem.W.subIn K (.ref CBadScheme) (.ref CTooMany) = some false)
    (s_0_4 : PySem.W.subIn K (.ref CBadScheme) (.ref CBadFont) = some false)
    (s_0_5 : PySem.W.subIn K (.ref CBadScheme) (.ref CBadLetter) = some false)
    (s_0_6 : PySem.W.subIn K (.ref CBadScheme) (.ref CBadGlyph) = some false)
    (s_0_7 : PySem.W.subIn K (.ref CBadScheme) (.ref CDuplicateLetter) = some false)
    (s_0_8 : PySem.W.subIn K (.ref CBadScheme) (.ref CUnknownLetter) = some false)
    (s_1_0 : PySem.W.subIn K (.ref CBadColumn) (.ref CBadScheme) = some false)
    (ss_1 : PySem.W.subIn K (.ref CBadColumn) (.ref CBadColumn) = some true)
    (s_1_2 : PySem.W.subIn K (.ref CBadColumn) (.ref CBadSpots) = some false)
    (s_1_3 : PySem.W.subIn K (.ref CBadColumn) (.ref CTooMany) = some false)
    (s_1_4 : PySem.W.subIn K (.ref CBadColumn) (.ref CBadFont) = some false)
    (s_1_5 : PySem.W.subIn K (.ref CBadColumn) (.ref CBadLetter) = some false)
    (s_1_6 : PySem.W.subIn K (.ref CBadColumn) (.ref CBadGlyph) = some false)
    (s_1_7 : PySem.W.subIn K (.ref CBadColumn) (.ref CDuplicateLetter) = some false)
    (s_1_8 : PySem.W.subIn K (.ref CBadColumn) (.ref CUnknownLetter) = some false)
    (s_2_0 : PySem.W.subIn K (.ref CBadSpots) (.ref CBadScheme) = some false)
    (s_2_1 : PySem.W.subIn K (.ref CBadSpots) (.ref CBadColumn) = some false)
    (ss_2 : PySem.W.subIn K (.ref CBadSpots) (.ref CBadSpots) = some true)
    (s_2_3 : PySem.W.subIn K (.ref CBadSpots) (.ref CTooMany) = some false)
    (s_2_4 : PySem.W.subIn K (.ref CBadSpots) (.ref CBadFont) = some false)
    (s_2_5 : PySem.W.subIn K (.ref CBadSpots) (.ref CBadLetter) = some false)
    (s_2_6 : PySem.W.subIn K (.ref CBadSpots) (.ref CBadGlyph) = some false)
    (s_2_7 : PySem.W.subIn K (.ref CBadSpots) (.ref CDuplicateLetter) = some false)
    (s_2_8 : PySem.W.subIn K (.ref CBadSpots) (.ref CUnknownLetter) = some false)
    (s_3_0 : PySem.W.subIn K (.ref CTooMany) (.ref CBadScheme) = some false)
    (s_3_1 : PySem.W.subIn K (.ref CTooMany) (.ref CBadColumn) = some false)
    (s_3_2 : PySem.W.subIn K (.ref CTooMany) (.ref CBadSpots) = some false)
    (ss_3 : PySem.W.subIn K (.ref CTooMany) (.ref CTooMany) = some true)
    (s_3_4 : PySem.W.subIn K (.ref CTooMany) (.ref CBadFont) = some false)
    (s_3_5 : PySem.W.subIn K (.ref CTooMany) (.ref CBadLetter) = some false)
    (s_3_6 : PySem.W.subIn K (.ref CTooMany) (.ref CBadGlyph) = some false)
    (s_3_7 : PySem.W.subIn K (.ref CTooMany) (.ref CDuplicateLetter) = some false)
    (s_3_8 : PySem.W.subIn K (.ref CTooMany) (.ref CUnknownLetter) = some false)
    (s_4_0 : PySem.W.subIn K (.ref CBadFont) (.ref CBadScheme) = some false)
    (s_4_1 : PySem.W.subIn K (.ref CBadFont) (.ref CBadColumn) = some false)
    (s_4_2 : PySem.W.subIn K (.ref CBadFont) (.ref CBadSpots) = some false)
    (s_4_3 : PySem.W.subIn K (.ref CBadFont) (.ref CTooMany) = some false)
    (ss_4 : PySem.W.subIn K (.ref CBadFont) (.ref CBadFont) = some true)
    (s_4_5 : PySem.W.subIn K (.ref CBadFont) (.ref CBadLetter) = some false)
    (s_4_6 : PySem.W.subIn K (.ref CBadFont) (.ref CBadGlyph) = some false)
    (s_4_7 : PySem.W.subIn K (.ref CBadFont) (.ref CDuplicateLetter) = some false)
    (s_4_8 : PySem.W.subIn K (.ref CBadFont) (.ref CUnknownLetter) = some false)
    (s_5_0 : PySem.W.subIn K (.ref CBadLetter) (.ref CBadScheme) = some false)
    (s_5_1 : PySem.W.subIn K (.ref CBadLetter) (.ref CBadColumn) = some false)
    (s_5_2 : PySem.W.subIn K (.ref CBadLetter) (.ref CBadSpots) = some false)
    (s_5_3 : PySem.W.subIn K (.ref CBadLetter) (.ref CTooMany) = some false)
    (s_5_4 : PySem.W.subIn K (.ref CBadLetter) (.ref CBadFont) = some false)
    (ss_5 : PySem.W.subIn K (.ref CBadLetter) (.ref CBadLetter) = some true)
    (s_5_6 : PySem.W.subIn K (.ref CBadLetter) (.ref CBadGlyph) = some false)
    (s_5_7 : PySem.W.subIn K (.ref CBadLetter) (.ref CDuplicateLetter) = some false)
    (s_5_8 : PySem.W.subIn K (.ref CBadLetter) (.ref CUnknownLetter) = some false)
    (s_6_0 : PySem.W.subIn K (.ref CBadGlyph) (.ref CBadScheme) = some false)
    (s_6_1 : PySem.W.subIn K (.ref CBadGlyph) (.ref CBadColumn) = some false)
    (s_6_2 : PySem.W.subIn K (.ref CBadGlyph) (.ref CBadSpots) = some false)
    (s_6_3 : PySem.W.subIn K (.ref CBadGlyph) (.ref CTooMany) = some false)
    (s_6_4 : PySem.W.subIn K (.ref CBadGlyph) (.ref CBadFont) = some false)
    (s_6_5 : PySem.W.subIn K (.ref CBadGlyph) (.ref CBadLetter) = some false)
    (ss_6 : PySem.W.subIn K (.ref CBadGlyph) (.ref CBadGlyph) = some true)
    (s_6_7 : PySem.W.subIn K (.ref CBadGlyph) (.ref CDuplicateLetter) = some false)
    (s_6_8 : PySem.W.subIn K (.ref CBadGlyph) (.ref CUnknownLetter) = some false)
    (s_7_0 : PySem.W.subIn K (.ref CDuplicateLetter) (.ref CBadScheme) = some false)
    (s_7_1 : PySem.W.subIn K (.ref CDuplicateLetter) (.ref CBadColumn) = some false)
    (s_7_2 : PySem.W.subIn K (.ref CDuplicateLetter) (.ref CBadSpots) = some false)
    (s_7_3 : PySem.W.subIn K (.ref CDuplicateLetter) (.ref CTooMany) = some false)
    (s_7_4 : PySem.W.subIn K (.ref CDuplicateLetter) (.ref CBadFont) = some false)
    (s_7_5 : PySem.W.subIn K (.ref CDuplicateLetter) (.ref CBadLetter) = some false)
    (s_7_6 : PySem.W.subIn K (.ref CDuplicateLetter) (.ref CBadGlyph) = some false)
    (ss_7 : PySem.W.subIn K (.ref CDuplicateLetter) (.ref CDuplicateLetter) = some true)
    (s_7_8 : PySem.W.subIn K (.ref CDuplicateLetter) (.ref CUnknownLetter) = some false)
    (s_8_0 : PySem.W.subIn K (.ref CUnknownLetter) (.ref CBadScheme) = some false)
    (s_8_1 : PySem.W.subIn K (.ref CUnknownLetter) (.ref CBadColumn) = some false)
    (s_8_2 : PySem.W.subIn K (.ref CUnknownLetter) (.ref CBadSpots) = some false)
    (s_8_3 : PySem.W.subIn K (.ref CUnknownLetter) (.ref CTooMany) = some false)
    (s_8_4 : PySem.W.subIn K (.ref CUnknownLetter) (.ref CBadFont) = some false)
    (s_8_5 : PySem.W.subIn K (.ref CUnknownLetter) (.ref CBadLetter) = some false)
    (s_8_6 : PySem.W.subIn K (.ref CUnknownLetter) (.ref CBadGlyph) = some false)
    (s_8_7 : PySem.W.subIn K (.ref CUnknownLetter) (.ref CDuplicateLetter) = some false)
    (ss_8 : PySem.W.subIn K (.ref CUnknownLetter) (.ref CUnknownLetter) = some true) : ∀ i < 9, ∀ j < 9, PySem.W.exmOne K (.ref (eAd ⟨CGalloonError, CBadScheme, CBadColumn, CBadSpots, CTooMany, CBadFont, CBadLetter, CBadGlyph, CDuplicateLetter, CUnknownLetter, CScheme, CFont⟩ i)) (.ref (eAd ⟨CGalloonError, CBadScheme, CBadColumn, CBadSpots, CTooMany, CBadFont, CBadLetter, CBadGlyph, CDuplicateLetter, CUnknownLetter, CScheme, CFont⟩ j)) = some (decide (i = j)) := by
  intro i hi j hj
  match i, hi, j, hj with
  | 0, _, 0, _ => exact exm_of sB_BadScheme ic_BadScheme tc_BadScheme ss_0
  | 0, _, 1, _ => exact exm_of sB_BadColumn ic_BadColumn tc_BadColumn s_0_1
  | 0, _, 2, _ => exact exm_of sB_BadSpots ic_BadSpots tc_BadSpots s_0_2
  | 0, _, 3, _ => exact exm_of sB_TooMany ic_TooMany tc_TooMany s_0_3
  | 0, _, 4, _ => exact exm_of sB_BadFont ic_BadFont tc_BadFont s_0_4
  | 0, _, 5, _ => exact exm_of sB_BadLetter ic_BadLetter tc_BadLetter s_0_5
  | 0, _, 6, _ => exact exm_of sB_BadGlyph ic_BadGlyph tc_BadGlyph s_0_6
  | 0, _, 7, _ => exact exm_of sB_DuplicateLetter ic_DuplicateLetter tc_DuplicateLetter s_0_7
  | 0, _, 8, _ => exact exm_of sB_UnknownLetter ic_UnknownLetter tc_UnknownLetter s_0_8
  | 1, _, 0, _ => exact exm_of sB_BadScheme ic_BadScheme tc_BadScheme s_1_0
  | 1, _, 1, _ => exact exm_of sB_BadColumn ic_BadColumn tc_BadColumn ss_1
  | 1, _, 2, _ => exact exm_of sB_BadSpots ic_BadSpots tc_BadSpots s_1_2
  | 1, _, 3, _ => exact exm_of sB_TooMany ic_TooMany tc_TooMany s_1_3
  | 1, _, 4, _ => exact exm_of sB_BadFont ic_BadFont tc_BadFont s_1_4
  | 1, _, 5, _ => exact exm_of sB_BadLetter ic_BadLetter tc_BadLetter s_1_5
  | 1, _, 6, _ => exact exm_of sB_BadGlyph ic_BadGlyph tc_BadGlyph s_1_6
  | 1, _, 7, _ => exact exm_of sB_DuplicateLetter ic_DuplicateLetter tc_DuplicateLetter s_1_7
  | 1, _, 8, _ => exact exm_of sB_UnknownLetter ic_UnknownLetter tc_UnknownLetter s_1_8
  | 2, _, 0, _ => exact exm_of sB_BadScheme ic_BadScheme tc_BadScheme s_2_0
  | 2, _, 1, _ => exact exm_of sB_BadColumn ic_BadColumn tc_BadColumn s_2_1
  | 2, _, 2, _ => exact exm_of sB_BadSpots ic_BadSpots tc_BadSpots ss_2
  | 2, _, 3, _ => exact exm_of sB_TooMany ic_TooMany tc_TooMany s_2_3
  | 2, _, 4, _ => exact exm_of sB_BadFont ic_BadFont tc_BadFont s_2_4
  | 2, _, 5, _ => exact exm_of sB_BadLetter ic_BadLetter tc_BadLetter s_2_5
  | 2, _, 6, _ => exact exm_of sB_BadGlyph ic_BadGlyph tc_BadGlyph s_2_6
  | 2, _, 7, _ => exact exm_of sB_DuplicateLetter ic_DuplicateLetter tc_DuplicateLetter s_2_7
  | 2, _, 8, _ => exact exm_of sB_UnknownLetter ic_UnknownLetter tc_UnknownLetter s_2_8
  | 3, _, 0, _ => exact exm_of sB_BadScheme ic_BadScheme tc_BadScheme s_3_0
  | 3, _, 1, _ => exact exm_of sB_BadColumn ic_BadColumn tc_BadColumn s_3_1
  | 3, _, 2, _ => exact exm_of sB_BadSpots ic_BadSpots tc_BadSpots s_3_2
  | 3, _, 3, _ => exact exm_of sB_TooMany ic_TooMany tc_TooMany ss_3
  | 3, _, 4, _ => exact exm_of sB_BadFont ic_BadFont tc_BadFont s_3_4
  | 3, _, 5, _ => exact exm_of sB_BadLetter ic_BadLetter tc_BadLetter s_3_5
  | 3, _, 6, _ => exact exm_of sB_BadGlyph ic_BadGlyph tc_BadGlyph s_3_6
  | 3, _, 7, _ => exact exm_of sB_DuplicateLetter ic_DuplicateLetter tc_DuplicateLetter s_3_7
  | 3, _, 8, _ => exact exm_of sB_UnknownLetter ic_UnknownLetter tc_UnknownLetter s_3_8
  | 4, _, 0, _ => exact exm_of sB_BadScheme ic_BadScheme tc_BadScheme s_4_0
  | 4, _, 1, _ => exact exm_of sB_BadColumn ic_BadColumn tc_BadColumn s_4_1
  | 4, _, 2, _ => exact exm_of sB_BadSpots ic_BadSpots tc_BadSpots s_4_2
  | 4, _, 3, _ => exact exm_of sB_TooMany ic_TooMany tc_TooMany s_4_3
  | 4, _, 4, _ => exact exm_of sB_BadFont ic_BadFont tc_BadFont ss_4
  | 4, _, 5, _ => exact exm_of sB_BadLetter ic_BadLetter tc_BadLetter s_4_5
  | 4, _, 6, _ => exact exm_of sB_BadGlyph ic_BadGlyph tc_BadGlyph s_4_6
  | 4, _, 7, _ => exact exm_of sB_DuplicateLetter ic_DuplicateLetter tc_DuplicateLetter s_4_7
  | 4, _, 8, _ => exact exm_of sB_UnknownLetter ic_UnknownLetter tc_UnknownLetter s_4_8
  | 5, _, 0, _ => exact exm_of sB_BadScheme ic_BadScheme tc_BadScheme s_5_0
  | 5, _, 1, _ => exact exm_of sB_BadColumn ic_BadColumn tc_BadColumn s_5_1
  | 5, _, 2, _ => exact exm_of sB_BadSpots ic_BadSpots tc_BadSpots s_5_2
  | 5, _, 3, _ => exact exm_of sB_TooMany ic_TooMany tc_TooMany s_5_3
  | 5, _, 4, _ => exact exm_of sB_BadFont ic_BadFont tc_BadFont s_5_4
  | 5, _, 5, _ => exact exm_of sB_BadLetter ic_BadLetter tc_BadLetter ss_5
  | 5, _, 6, _ => exact exm_of sB_BadGlyph ic_BadGlyph tc_BadGlyph s_5_6
  | 5, _, 7, _ => exact exm_of sB_DuplicateLetter ic_DuplicateLetter tc_DuplicateLetter s_5_7
  | 5, _, 8, _ => exact exm_of sB_UnknownLetter ic_UnknownLetter tc_UnknownLetter s_5_8
  | 6, _, 0, _ => exact exm_of sB_BadScheme ic_BadScheme tc_BadScheme s_6_0
  | 6, _, 1, _ => exact exm_of sB_BadColumn ic_BadColumn tc_BadColumn s_6_1
  | 6, _, 2, _ => exact exm_of sB_BadSpots ic_BadSpots tc_BadSpots s_6_2
  | 6, _, 3, _ => exact exm_of sB_TooMany ic_TooMany tc_TooMany s_6_3
  | 6, _, 4, _ => exact exm_of sB_BadFont ic_BadFont tc_BadFont s_6_4
  | 6, _, 5, _ => exact exm_of sB_BadLetter ic_BadLetter tc_BadLetter s_6_5
  | 6, _, 6, _ => exact exm_of sB_BadGlyph ic_BadGlyph tc_BadGlyph ss_6
  | 6, _, 7, _ => exact exm_of sB_DuplicateLetter ic_DuplicateLetter tc_DuplicateLetter s_6_7
  | 6, _, 8, _ => exact exm_of sB_UnknownLetter ic_UnknownLetter tc_UnknownLetter s_6_8
  | 7, _, 0, _ => exact exm_of sB_BadScheme ic_BadScheme tc_BadScheme s_7_0
  | 7, _, 1, _ => exact exm_of sB_BadColumn ic_BadColumn tc_BadColumn s_7_1
  | 7, _, 2, _ => exact exm_of sB_BadSpots ic_BadSpots tc_BadSpots s_7_2
  | 7, _, 3, _ => exact exm_of sB_TooMany ic_TooMany tc_TooMany s_7_3
  | 7, _, 4, _ => exact exm_of sB_BadFont ic_BadFont tc_BadFont s_7_4
  | 7, _, 5, _ => exact exm_of sB_BadLetter ic_BadLetter tc_BadLetter s_7_5
  | 7, _, 6, _ => exact exm_of sB_BadGlyph ic_BadGlyph tc_BadGlyph s_7_6
  | 7, _, 7, _ => exact exm_of sB_DuplicateLetter ic_DuplicateLetter tc_DuplicateLetter ss_7
  | 7, _, 8, _ => exact exm_of sB_UnknownLetter ic_UnknownLetter tc_UnknownLetter s_7_8
  | 8, _, 0, _ => exact exm_of sB_BadScheme ic_BadScheme tc_BadScheme s_8_0
  | 8, _, 1, _ => exact exm_of sB_BadColumn ic_BadColumn tc_BadColumn s_8_1
  | 8, _, 2, _ => exact exm_of sB_BadSpots ic_BadSpots tc_BadSpots s_8_2
  | 8, _, 3, _ => exact exm_of sB_TooMany ic_TooMany tc_TooMany s_8_3
  | 8, _, 4, _ => exact exm_of sB_BadFont ic_BadFont tc_BadFont s_8_4
  | 8, _, 5, _ => exact exm_of sB_BadLetter ic_BadLetter tc_BadLetter s_8_5
  | 8, _, 6, _ => exact exm_of sB_BadGlyph ic_BadGlyph tc_BadGlyph s_8_6
  | 8, _, 7, _ => exact exm_of sB_DuplicateLetter ic_DuplicateLetter tc_DuplicateLetter s_8_7
  | 8, _, 8, _ => exact exm_of sB_UnknownLetter ic_UnknownLetter tc_UnknownLetter ss_8
theorem mkTxt {K : PySem.W.Frag} {h : Heap} {mg : Str → Option Value} (X : K.In h) (G : h.Ns mainGlobals mg)
    {CGalloonError CBadScheme CBadColumn CBadSpots CTooMany CBadFont CBadLetter CBadGlyph CDuplicateLetter CUnknownLetter CScheme CFont : Addr}
    {tk_DIGITS : Nat}
    {tk_LETTERS : Nat}
    {tk_ALPHABET : Nat}
    {tk_MOST_GAP : Nat}
    {tk_MOST_GLYPH : Nat}
    {f1 : Addr} {od1 an1 : Option Addr} {sl1 : Array (Option Value)} {oc1 kV1 dc1 pm1 cd1 ct1 : Value}
    {nm1 qn1 : Str} {N1 : Addr} {bs1 bm1 : List Value} {sn1 : List Str} {sub1 : List Value} {ab1 : Bool} {col1 : Option Bool} {dd1 : Option Addr} {m01 m11 m21 m31 m51 : Option Value}
    {f2 : Addr} {od2 an2 : Option Addr} {sl2 : Array (Option Value)} {oc2 kV2 dc2 pm2 cd2 ct2 : Value}
    {nm2 qn2 : Str} {N2 : Addr} {bs2 bm2 : List Value} {sn2 : List Str} {sub2 : List Value} {ab2 : Bool} {col2 : Option Bool} {dd2 : Option Addr} {m02 m12 m22 m32 m52 : Option Value}
    {f3 : Addr} {od3 an3 : Option Addr} {sl3 : Array (Option Value)} {oc3 kV3 dc3 pm3 cd3 ct3 : Value}
    {nm3 qn3 : Str} {N3 : Addr} {bs3 bm3 : List Value} {sn3 : List Str} {sub3 : List Value} {ab3 : Bool} {col3 : Option Bool} {dd3 : Option Addr} {m03 m13 m23 m33 m53 : Option Value}
    {f4 : Addr} {od4 an4 : Option Addr} {sl4 : Array (Option Value)} {oc4 kV4 dc4 pm4 cd4 ct4 : Value}
    {nm4 qn4 : Str} {N4 : Addr} {bs4 bm4 : List Value} {sn4 : List Str} {sub4 : List Value} {ab4 : Bool} {col4 : Option Bool} {dd4 : Option Addr} {m04 m14 m24 m34 m54 : Option Value}
    {f5 : Addr} {od5 an5 : Option Addr} {sl5 : Array (Option Value)} {oc5 kV5 dc5 pm5 cd5 ct5 : Value}
    {nm5 qn5 : Str} {N5 : Addr} {bs5 bm5 : List Value} {sn5 : List Str} {sub5 : List Value} {ab5 : Bool} {col5 : Option Bool} {dd5 : Option Addr} {m05 m15 m25 m35 m55 : Option Value}
    {f6 : Addr} {od6 an6 : Option Addr} {sl6 : Array (Option Value)} {oc6 kV6 dc6 pm6 cd6 ct6 : Value}
    {nm6 qn6 : Str} {N6 : Addr} {bs6 bm6 : List Value} {sn6 : List Str} {sub6 : List Value} {ab6 : Bool} {col6 : Option Bool} {dd6 : Option Addr} {m06 m16 m26 m36 m56 : Option Value}
    {f7 : Addr} {od7 an7 : Option Addr} {sl7 : Array (Option Value)} {oc7 kV7 dc7 pm7 cd7 ct7 : Value}
    {nm7 qn7 : Str} {N7 : Addr} {bs7 bm7 : List Value} {sn7 : List Str} {sub7 : List Value} {ab7 : Bool} {col7 : Option Bool} {dd7 : Option Addr} {m07 m17 m27 m37 m57 : Option Value}
    {f8 : Addr} {od8 an8 : Option Addr} {sl8 : Array (Option Value)} {oc8 kV8 dc8 pm8 cd8 ct8 : Value}
    {nm8 qn8 : Str} {N8 : Addr} {bs8 bm8 : List Value} {sn8 : List Str} {sub8 : List Value} {ab8 : Bool} {col8 : Option Bool} {dd8 : Option Addr} {m08 m18 m28 m38 m58 : Option Value}
    {f9 : Addr} {od9 an9 : Option Addr} {sl9 : Array (Option Value)} {oc9 kV9 dc9 pm9 cd9 ct9 : Value}
    {nm9 qn9 : Str} {N9 : Addr} {bs9 bm9 : List Value} {sn9 : List Str} {sub9 : List Value} {ab9 : Bool} {col9 : Option Bool} {dd9 : Option Addr} {m09 m19 m29 m39 m59 : Option Value}
    {f10 : Addr} {od10 an10 : Option Addr} {sl10 : Array (Option Value)} {oc10 kV10 dc10 pm10 cd10 ct10 : Value}
    {f11 : Addr} {od11 an11 : Option Addr} {sl11 : Array (Option Value)} {oc11 kV11 dc11 pm11 cd11 ct11 : Value}
    {f12 : Addr} {od12 an12 : Option Addr} {sl12 : Array (Option Value)} {oc12 kV12 dc12 pm12 cd12 ct12 : Value}
    {f13 : Addr} {od13 an13 : Option Addr} {sl13 : Array (Option Value)} {oc13 kV13 dc13 pm13 cd13 ct13 : Value}
    {f14 : Addr} {od14 an14 : Option Addr} {sl14 : Array (Option Value)} {oc14 kV14 dc14 pm14 cd14 ct14 : Value}
    {p14 : Addr} {rs14 : List Value}
    {f15 : Addr} {od15 an15 : Option Addr} {sl15 : Array (Option Value)} {oc15 kV15 dc15 pm15 cd15 ct15 : Value}
    {f16 : Addr} {od16 an16 : Option Addr} {sl16 : Array (Option Value)} {oc16 kV16 dc16 pm16 cd16 ct16 : Value}
    {f17 : Addr} {od17 an17 : Option Addr} {sl17 : Array (Option Value)} {oc17 kV17 dc17 pm17 cd17 ct17 : Value}
    {f18 : Addr} {od18 an18 : Option Addr} {sl18 : Array (Option Value)} {oc18 kV18 dc18 pm18 cd18 ct18 : Value}
    {f19 : Addr} {od19 an19 : Option Addr} {sl19 : Array (Option Value)} {oc19 kV19 dc19 pm19 cd19 ct19 : Value}
    {f20 : Addr} {od20 an20 : Option Addr} {sl20 : Array (Option Value)} {oc20 kV20 dc20 pm20 cd20 ct20 : Value}
    {f21 : Addr} {od21 an21 : Option Addr} {sl21 : Array (Option Value)} {oc21 kV21 dc21 pm21 cd21 ct21 : Value}
    {f22 : Addr} {od22 an22 : Option Addr} {sl22 : Array (Option Value)} {oc22 kV22 dc22 pm22 cd22 ct22 : Value}
    {f23 : Addr} {od23 an23 : Option Addr} {sl23 : Array (Option Value)} {oc23 kV23 dc23 pm23 cd23 ct23 : Value}
    {f24 : Addr} {od24 an24 : Option Addr} {sl24 : Array (Option Value)} {oc24 kV24 dc24 pm24 cd24 ct24 : Value}
    {f25 : Addr} {od25 an25 : Option Addr} {sl25 : Array (Option Value)} {oc25 kV25 dc25 pm25 cd25 ct25 : Value}
    {f26 : Addr} {od26 an26 : Option Addr} {sl26 : Array (Option Value)} {oc26 kV26 dc26 pm26 cd26 ct26 : Value}
    {f27 : Addr} {od27 an27 : Option Addr} {sl27 : Array (Option Value)} {oc27 kV27 dc27 pm27 cd27 ct27 : Value}
    {f28 : Addr} {od28 an28 : Option Addr} {sl28 : Array (Option Value)} {oc28 kV28 dc28 pm28 cd28 ct28 : Value}
    {f29 : Addr} {od29 an29 : Option Addr} {sl29 : Array (Option Value)} {oc29 kV29 dc29 pm29 cd29 ct29 : Value}
    {f30 : Addr} {od30 an30 : Option Addr} {sl30 : Array (Option Value)} {oc30 kV30 dc30 pm30 cd30 ct30 : Value}
    {f31 : Addr} {od31 an31 : Option Addr} {sl31 : Array (Option Value)} {oc31 kV31 dc31 pm31 cd31 ct31 : Value}
    {f32 : Addr} {od32 an32 : Option Addr} {sl32 : Array (Option Value)} {oc32 kV32 dc32 pm32 cd32 ct32 : Value}
    {f33 : Addr} {od33 an33 : Option Addr} {sl33 : Array (Option Value)} {oc33 kV33 dc33 pm33 cd33 ct33 : Value}
    {f34 : Addr} {od34 an34 : Option Addr} {sl34 : Array (Option Value)} {oc34 kV34 dc34 pm34 cd34 ct34 : Value}
    {f35 : Addr} {od35 an35 : Option Addr} {sl35 : Array (Option Value)} {oc35 kV35 dc35 pm35 cd35 ct35 : Value}
    {f36 : Addr} {od36 an36 : Option Addr} {sl36 : Array (Option Value)} {oc36 kV36 dc36 pm36 cd36 ct36 : Value}
    {f37 : Addr} {od37 an37 : Option Addr} {sl37 : Array (Option Value)} {oc37 kV37 dc37 pm37 cd37 ct37 : Value}
    {f38 : Addr} {od38 an38 : Option Addr} {sl38 : Array (Option Value)} {oc38 kV38 dc38 pm38 cd38 ct38 : Value}
    {f39 : Addr} {od39 an39 : Option Addr} {sl39 : Array (Option Value)} {oc39 kV39 dc39 pm39 cd39 ct39 : Value}
    {f40 : Addr} {od40 an40 : Option Addr} {sl40 : Array (Option Value)} {oc40 kV40 dc40 pm40 cd40 ct40 : Value}
    {f41 : Addr} {od41 an41 : Option Addr} {sl41 : Array (Option Value)} {oc41 kV41 dc41 pm41 cd41 ct41 : Value}
    {f42 : Addr} {od42 an42 : Option Addr} {sl42 : Array (Option Value)} {oc42 kV42 dc42 pm42 cd42 ct42 : Value}
    {f43 : Addr} {od43 an43 : Option Addr} {sl43 : Array (Option Value)} {oc43 kV43 dc43 pm43 cd43 ct43 : Value}
    {f44 : Addr} {od44 an44 : Option Addr} {sl44 : Array (Option Value)} {oc44 kV44 dc44 pm44 cd44 ct44 : Value}
    {f45 : Addr} {od45 an45 : Option Addr} {sl45 : Array (Option Value)} {oc45 kV45 dc45 pm45 cd45 ct45 : Value}
    {f46 : Addr} {od46 an46 : Option Addr} {sl46 : Array (Option Value)} {oc46 kV46 dc46 pm46 cd46 ct46 : Value}
    {t_Scheme_MOST : Nat}
    {t_Scheme_BLANK : Nat}
    {t_Font_MOST : Nat}
    {tc_Font_MOST : Nat}
    (a_GalloonError : PySem.W.nsIn K mainGlobals "GalloonError" = some (some (.ref CGalloonError)))
    (a_BadScheme : PySem.W.nsIn K mainGlobals "BadScheme" = some (some (.ref CBadScheme)))
    (a_BadColumn : PySem.W.nsIn K mainGlobals "BadColumn" = some (some (.ref CBadColumn)))
    (a_BadSpots : PySem.W.nsIn K mainGlobals "BadSpots" = some (some (.ref CBadSpots)))
    (a_TooMany : PySem.W.nsIn K mainGlobals "TooMany" = some (some (.ref CTooMany)))
    (a_BadFont : PySem.W.nsIn K mainGlobals "BadFont" = some (some (.ref CBadFont)))
    (a_BadLetter : PySem.W.nsIn K mainGlobals "BadLetter" = some (some (.ref CBadLetter)))
    (a_BadGlyph : PySem.W.nsIn K mainGlobals "BadGlyph" = some (some (.ref CBadGlyph)))
    (a_DuplicateLetter : PySem.W.nsIn K mainGlobals "DuplicateLetter" = some (some (.ref CDuplicateLetter)))
    (a_UnknownLetter : PySem.W.nsIn K mainGlobals "UnknownLetter" = some (some (.ref CUnknownLetter)))
    (a_Scheme : PySem.W.nsIn K mainGlobals "Scheme" = some (some (.ref CScheme)))
    (a_Font : PySem.W.nsIn K mainGlobals "Font" = some (some (.ref CFont)))
    (z_ValueError : PySem.W.nsIn K mainGlobals "ValueError" = some none)
    (z_all : PySem.W.nsIn K mainGlobals "all" = some none)
    (z_classmethod : PySem.W.nsIn K mainGlobals "classmethod" = some none)
    (z_enumerate : PySem.W.nsIn K mainGlobals "enumerate" = some none)
    (z_int : PySem.W.nsIn K mainGlobals "int" = some none)
    (z_isinstance : PySem.W.nsIn K mainGlobals "isinstance" = some none)
    (z_len : PySem.W.nsIn K mainGlobals "len" = some none)
    (z_list : PySem.W.nsIn K mainGlobals "list" = some none)
    (z_range : PySem.W.nsIn K mainGlobals "range" = some none)
    (z_sorted : PySem.W.nsIn K mainGlobals "sorted" = some none)
    (z_str : PySem.W.nsIn K mainGlobals "str" = some none)
    (z_tuple : PySem.W.nsIn K mainGlobals "tuple" = some none)
    (v_DIGITS : PySem.W.nsIn K mainGlobals "DIGITS" = some (some (.str "012" tk_DIGITS)))
    (v_LETTERS : PySem.W.nsIn K mainGlobals "LETTERS" = some (some (.str "abcdefghi" tk_LETTERS)))
    (v_ALPHABET : PySem.W.nsIn K mainGlobals "ALPHABET" = some (some (.str "ABCDEFGHIJKLMNOPQRSTUVWXYZ" tk_ALPHABET)))
    (v_MOST_GAP : PySem.W.nsIn K mainGlobals "MOST_GAP" = some (some (.int 3 tk_MOST_GAP)))
    (v_MOST_GLYPH : PySem.W.nsIn K mainGlobals "MOST_GLYPH" = some (some (.int 4 tk_MOST_GLYPH)))
    (sB_GalloonError : PySem.W.subIn K (.ref CGalloonError) (.type "BaseException") = some true)
    (ic_GalloonError : PySem.W.isClsIn K CGalloonError = true)
    (tc_GalloonError : PySem.W.typeIn K (.ref CGalloonError) = some (.type "type"))
    (sB_BadScheme : PySem.W.subIn K (.ref CBadScheme) (.type "BaseException") = some true)
    (ic_BadScheme : PySem.W.isClsIn K CBadScheme = true)
    (tc_BadScheme : PySem.W.typeIn K (.ref CBadScheme) = some (.type "type"))
    (sB_BadColumn : PySem.W.subIn K (.ref CBadColumn) (.type "BaseException") = some true)
    (ic_BadColumn : PySem.W.isClsIn K CBadColumn = true)
    (tc_BadColumn : PySem.W.typeIn K (.ref CBadColumn) = some (.type "type"))
    (sB_BadSpots : PySem.W.subIn K (.ref CBadSpots) (.type "BaseException") = some true)
    (ic_BadSpots : PySem.W.isClsIn K CBadSpots = true)
    (tc_BadSpots : PySem.W.typeIn K (.ref CBadSpots) = some (.type "type"))
    (sB_TooMany : PySem.W.subIn K (.ref CTooMany) (.type "BaseException") = some true)
    (ic_TooMany : PySem.W.isClsIn K CTooMany = true)
    (tc_TooMany : PySem.W.typeIn K (.ref CTooMany) = some (.type "type"))
    (sB_BadFont : PySem.W.subIn K (.ref CBadFont) (.type "BaseException") = some true)
    (ic_BadFont : PySem.W.isClsIn K CBadFont = true)
    (tc_BadFont : PySem.W.typeIn K (.ref CBadFont) = some (.type "type"))
    (sB_BadLetter : PySem.W.subIn K (.ref CBadLetter) (.type "BaseException") = some true)
    (ic_BadLetter : PySem.W.isClsIn K CBadLetter = true)
    (tc_BadLetter : PySem.W.typeIn K (.ref CBadLetter) = some (.type "type"))
    (sB_BadGlyph : PySem.W.subIn K (.ref CBadGlyph) (.type "BaseException") = some true)
    (ic_BadGlyph : PySem.W.isClsIn K CBadGlyph = true)
    (tc_BadGlyph : PySem.W.typeIn K (.ref CBadGlyph) = some (.type "type"))
    (sB_DuplicateLetter : PySem.W.subIn K (.ref CDuplicateLetter) (.type "BaseException") = some true)
    (ic_DuplicateLetter : PySem.W.isClsIn K CDuplicateLetter = true)
    (tc_DuplicateLetter : PySem.W.typeIn K (.ref CDuplicateLetter) = some (.type "type"))
    (sB_UnknownLetter : PySem.W.subIn K (.ref CUnknownLetter) (.type "BaseException") = some true)
    (ic_UnknownLetter : PySem.W.isClsIn K CUnknownLetter = true)
    (tc_UnknownLetter : PySem.W.typeIn K (.ref CUnknownLetter) = some (.type "type"))
    (ic_Scheme : PySem.W.isClsIn K CScheme = true)
    (tc_Scheme : PySem.W.typeIn K (.ref CScheme) = some (.type "type"))
    (ic_Font : PySem.W.isClsIn K CFont = true)
    (tc_Font : PySem.W.typeIn K (.ref CFont) = some (.type "type"))
    (x_BadScheme : K.lookup CBadScheme = some (excClassObj nm1 qn1 CBadScheme N1 bs1 bm1 true sn1 sub1 ab1 col1 dd1 m01 m11 m21 m31 m51 "ValueError.__new__"))
    (rf_BadScheme : PySem.HandSPX.refsVE bm1 = true)
    (sa_BadScheme : PySem.W.findIn K (.ref CBadScheme) "__setattr__" = some (some (.builtin "object.__setattr__")))
    (kc_BadScheme : PySem.W.keepIn K (.ref CBadScheme) = true)
    (nb_BadScheme : PySem.W.findIn K (.ref CBadScheme) "part" = some none)
    (ai_BadScheme : PySem.W.findIn K (.ref CBadScheme) "__init__" = some (some (.ref f1)))
    (ti_BadScheme : PySem.W.typeIn K (.ref f1) = some (.type "function"))
    (li_BadScheme : K.lookup f1 = some ⟨oc1, od1, .func (PySem.W.fnOf "__init__" "BadScheme.__init__" (defArgs s_BadScheme___init__) (defBody s_BadScheme___init__) (defScope s_BadScheme___init__) .none kV1 dc1 pm1 an1 cd1 ct1), sl1⟩)
    (ci_BadScheme : PySem.W.codeIn K cd1 "BadScheme.__init__" = true)
    (ki_BadScheme : PySem.W.keepIn K (.ref f1) = true)
    (ga_BadScheme : PySem.W.findIn K (.ref CBadScheme) "__getattribute__" = some (some (.builtin "BaseException.__getattribute__")))
    (gg_BadScheme : PySem.W.findIn K (.ref CBadScheme) "__getattr__" = some none)
    (hd_BadScheme : PySem.W.hasDictIn K CBadScheme = true)
    (ha_BadScheme : PySem.W.findIn K (.ref CBadScheme) "__class__" = some (some (.builtin "object.__class__")))
    (hm_BadScheme : PySem.W.mroIn K CBadScheme (.type "object") = some true)
    (x_BadColumn : K.lookup CBadColumn = some (excClassObj nm2 qn2 CBadColumn N2 bs2 bm2 true sn2 sub2 ab2 col2 dd2 m02 m12 m22 m32 m52 "ValueError.__new__"))
    (rf_BadColumn : PySem.HandSPX.refsVE bm2 = true)
    (sa_BadColumn : PySem.W.findIn K (.ref CBadColumn) "__setattr__" = some (some (.builtin "object.__setattr__")))
    (kc_BadColumn : PySem.W.keepIn K (.ref CBadColumn) = true)
    (nb_BadColumn : PySem.W.findIn K (.ref CBadColumn) "text" = some none)
    (ai_BadColumn : PySem.W.findIn K (.ref CBadColumn) "__init__" = some (some (.ref f2)))
    (ti_BadColumn : PySem.W.typeIn K (.ref f2) = some (.type "function"))
    (li_BadColumn : K.lookup f2 = some ⟨oc2, od2, .func (PySem.W.fnOf "__init__" "BadColumn.__init__" (defArgs s_BadColumn___init__) (defBody s_BadColumn___init__) (defScope s_BadColumn___init__) .none kV2 dc2 pm2 an2 cd2 ct2), sl2⟩)
    (ci_BadColumn : PySem.W.codeIn K cd2 "BadColumn.__init__" = true)
    (ki_BadColumn : PySem.W.keepIn K (.ref f2) = true)
    (ga_BadColumn : PySem.W.findIn K (.ref CBadColumn) "__getattribute__" = some (some (.builtin "BaseException.__getattribute__")))
    (gg_BadColumn : PySem.W.findIn K (.ref CBadColumn) "__getattr__" = some none)
    (hd_BadColumn : PySem.W.hasDictIn K CBadColumn = true)
    (ha_BadColumn : PySem.W.findIn K (.ref CBadColumn) "__class__" = some (some (.builtin "object.__class__")))
    (hm_BadColumn : PySem.W.mroIn K CBadColumn (.type "object") = some true)
    (x_BadSpots : K.lookup CBadSpots = some (excClassObj nm3 qn3 CBadSpots N3 bs3 bm3 true sn3 sub3 ab3 col3 dd3 m03 m13 m23 m33 m53 "ValueError.__new__"))
    (rf_BadSpots : PySem.HandSPX.refsVE bm3 = true)
    (sa_BadSpots : PySem.W.findIn K (.ref CBadSpots) "__setattr__" = some (some (.builtin "object.__setattr__")))
    (kc_BadSpots : PySem.W.keepIn K (.ref CBadSpots) = true)
    (nb_BadSpots : PySem.W.findIn K (.ref CBadSpots) "text" = some none)
    (ai_BadSpots : PySem.W.findIn K (.ref CBadSpots) "__init__" = some (some (.ref f3)))
    (ti_BadSpots : PySem.W.typeIn K (.ref f3) = some (.type "function"))
    (li_BadSpots : K.lookup f3 = some ⟨oc3, od3, .func (PySem.W.fnOf "__init__" "BadSpots.__init__" (defArgs s_BadSpots___init__) (defBody s_BadSpots___init__) (defScope s_BadSpots___init__) .none kV3 dc3 pm3 an3 cd3 ct3), sl3⟩)
    (ci_BadSpots : PySem.W.codeIn K cd3 "BadSpots.__init__" = true)
    (ki_BadSpots : PySem.W.keepIn K (.ref f3) = true)
    (ga_BadSpots : PySem.W.findIn K (.ref CBadSpots) "__getattribute__" = some (some (.builtin "BaseException.__getattribute__")))
    (gg_BadSpots : PySem.W.findIn K (.ref CBadSpots) "__getattr__" = some none)
    (hd_BadSpots : PySem.W.hasDictIn K CBadSpots = true)
    (ha_BadSpots : PySem.W.findIn K (.ref CBadSpots) "__class__" = some (some (.builtin "object.__class__")))
    (hm_BadSpots : PySem.W.mroIn K CBadSpots (.type "object") = some true)
    (x_TooMany : K.lookup CTooMany = some (excClassObj nm4 qn4 CTooMany N4 bs4 bm4 true sn4 sub4 ab4 col4 dd4 m04 m14 m24 m34 m54 "ValueError.__new__"))
    (rf_TooMany : PySem.HandSPX.refsVE bm4 = true)
    (sa_TooMany : PySem.W.findIn K (.ref CTooMany) "__setattr__" = some (some (.builtin "object.__setattr__")))
    (kc_TooMany : PySem.W.keepIn K (.ref CTooMany) = true)
    (nb_TooMany : PySem.W.findIn K (.ref CTooMany) "most" = some none)
    (ai_TooMany : PySem.W.findIn K (.ref CTooMany) "__init__" = some (some (.ref f4)))
    (ti_TooMany : PySem.W.typeIn K (.ref f4) = some (.type "function"))
    (li_TooMany : K.lookup f4 = some ⟨oc4, od4, .func (PySem.W.fnOf "__init__" "TooMany.__init__" (defArgs s_TooMany___init__) (defBody s_TooMany___init__) (defScope s_TooMany___init__) .none kV4 dc4 pm4 an4 cd4 ct4), sl4⟩)
    (ci_TooMany : PySem.W.codeIn K cd4 "TooMany.__init__" = true)
    (ki_TooMany : PySem.W.keepIn K (.ref f4) = true)
    (ga_TooMany : PySem.W.findIn K (.ref CTooMany) "__getattribute__" = some (some (.builtin "BaseException.__getattribute__")))
    (gg_TooMany : PySem.W.findIn K (.ref CTooMany) "__getattr__" = some none)
    (hd_TooMany : PySem.W.hasDictIn K CTooMany = true)
    (ha_TooMany : PySem.W.findIn K (.ref CTooMany) "__class__" = some (some (.builtin "object.__class__")))
    (hm_TooMany : PySem.W.mroIn K CTooMany (.type "object") = some true)
    (x_BadFont : K.lookup CBadFont = some (excClassObj nm5 qn5 CBadFont N5 bs5 bm5 true sn5 sub5 ab5 col5 dd5 m05 m15 m25 m35 m55 "ValueError.__new__"))
    (rf_BadFont : PySem.HandSPX.refsVE bm5 = true)
    (sa_BadFont : PySem.W.findIn K (.ref CBadFont) "__setattr__" = some (some (.builtin "object.__setattr__")))
    (kc_BadFont : PySem.W.keepIn K (.ref CBadFont) = true)
    (nb_BadFont : PySem.W.findIn K (.ref CBadFont) "part" = some none)
    (ai_BadFont : PySem.W.findIn K (.ref CBadFont) "__init__" = some (some (.ref f5)))
    (ti_BadFont : PySem.W.typeIn K (.ref f5) = some (.type "function"))
    (li_BadFont : K.lookup f5 = some ⟨oc5, od5, .func (PySem.W.fnOf "__init__" "BadFont.__init__" (defArgs s_BadFont___init__) (defBody s_BadFont___init__) (defScope s_BadFont___init__) .none kV5 dc5 pm5 an5 cd5 ct5), sl5⟩)
    (ci_BadFont : PySem.W.codeIn K cd5 "BadFont.__init__" = true)
    (ki_BadFont : PySem.W.keepIn K (.ref f5) = true)
    (ga_BadFont : PySem.W.findIn K (.ref CBadFont) "__getattribute__" = some (some (.builtin "BaseException.__getattribute__")))
    (gg_BadFont : PySem.W.findIn K (.ref CBadFont) "__getattr__" = some none)
    (hd_BadFont : PySem.W.hasDictIn K CBadFont = true)
    (ha_BadFont : PySem.W.findIn K (.ref CBadFont) "__class__" = some (some (.builtin "object.__class__")))
    (hm_BadFont : PySem.W.mroIn K CBadFont (.type "object") = some true)
    (x_BadLetter : K.lookup CBadLetter = some (excClassObj nm6 qn6 CBadLetter N6 bs6 bm6 true sn6 sub6 ab6 col6 dd6 m06 m16 m26 m36 m56 "ValueError.__new__"))
    (rf_BadLetter : PySem.HandSPX.refsVE bm6 = true)
    (sa_BadLetter : PySem.W.findIn K (.ref CBadLetter) "__setattr__" = some (some (.builtin "object.__setattr__")))
    (kc_BadLetter : PySem.W.keepIn K (.ref CBadLetter) = true)
    (nb_BadLetter : PySem.W.findIn K (.ref CBadLetter) "letter" = some none)
    (ai_BadLetter : PySem.W.findIn K (.ref CBadLetter) "__init__" = some (some (.ref f6)))
    (ti_BadLetter : PySem.W.typeIn K (.ref f6) = some (.type "function"))
    (li_BadLetter : K.lookup f6 = some ⟨oc6, od6, .func (PySem.W.fnOf "__init__" "BadLetter.__init__" (defArgs s_BadLetter___init__) (defBody s_BadLetter___init__) (defScope s_BadLetter___init__) .none kV6 dc6 pm6 an6 cd6 ct6), sl6⟩)
    (ci_BadLetter : PySem.W.codeIn K cd6 "BadLetter.__init__" = true)
    (ki_BadLetter : PySem.W.keepIn K (.ref f6) = true)
    (ga_BadLetter : PySem.W.findIn K (.ref CBadLetter) "__getattribute__" = some (some (.builtin "BaseException.__getattribute__")))
    (gg_BadLetter : PySem.W.findIn K (.ref CBadLetter) "__getattr__" = some none)
    (hd_BadLetter : PySem.W.hasDictIn K CBadLetter = true)
    (ha_BadLetter : PySem.W.findIn K (.ref CBadLetter) "__class__" = some (some (.builtin "object.__class__")))
    (hm_BadLetter : PySem.W.mroIn K CBadLetter (.type "object") = some true)
    (x_BadGlyph : K.lookup CBadGlyph = some (excClassObj nm7 qn7 CBadGlyph N7 bs7 bm7 true sn7 sub7 ab7 col7 dd7 m07 m17 m27 m37 m57 "ValueError.__new__"))
    (rf_BadGlyph : PySem.HandSPX.refsVE bm7 = true)
    (sa_BadGlyph : PySem.W.findIn K (.ref CBadGlyph) "__setattr__" = some (some (.builtin "object.__setattr__")))
    (kc_BadGlyph : PySem.W.keepIn K (.ref CBadGlyph) = true)
    (nb_BadGlyph : PySem.W.findIn K (.ref CBadGlyph) "letter" = some none)
    (ai_BadGlyph : PySem.W.findIn K (.ref CBadGlyph) "__init__" = some (some (.ref f7)))
    (ti_BadGlyph : PySem.W.typeIn K (.ref f7) = some (.type "function"))
    (li_BadGlyph : K.lookup f7 = some ⟨oc7, od7, .func (PySem.W.fnOf "__init__" "BadGlyph.__init__" (defArgs s_BadGlyph___init__) (defBody s_BadGlyph___init__) (defScope s_BadGlyph___init__) .none kV7 dc7 pm7 an7 cd7 ct7), sl7⟩)
    (ci_BadGlyph : PySem.W.codeIn K cd7 "BadGlyph.__init__" = true)
    (ki_BadGlyph : PySem.W.keepIn K (.ref f7) = true)
    (ga_BadGlyph : PySem.W.findIn K (.ref CBadGlyph) "__getattribute__" = some (some (.builtin "BaseException.__getattribute__")))
    (gg_BadGlyph : PySem.W.findIn K (.ref CBadGlyph) "__getattr__" = some none)
    (hd_BadGlyph : PySem.W.hasDictIn K CBadGlyph = true)
    (ha_BadGlyph : PySem.W.findIn K (.ref CBadGlyph) "__class__" = some (some (.builtin "object.__class__")))
    (hm_BadGlyph : PySem.W.mroIn K CBadGlyph (.type "object") = some true)
    (x_DuplicateLetter : K.lookup CDuplicateLetter = some (excClassObj nm8 qn8 CDuplicateLetter N8 bs8 bm8 true sn8 sub8 ab8 col8 dd8 m08 m18 m28 m38 m58 "ValueError.__new__"))
    (rf_DuplicateLetter : PySem.HandSPX.refsVE bm8 = true)
    (sa_DuplicateLetter : PySem.W.findIn K (.ref CDuplicateLetter) "__setattr__" = some (some (.builtin "object.__setattr__")))
    (kc_DuplicateLetter : PySem.W.keepIn K (.ref CDuplicateLetter) = true)
    (nb_DuplicateLetter : PySem.W.findIn K (.ref CDuplicateLetter) "letter" = some none)
    (ai_DuplicateLetter : PySem.W.findIn K (.ref CDuplicateLetter) "__init__" = some (some (.ref f8)))
    (ti_DuplicateLetter : PySem.W.typeIn K (.ref f8) = some (.type "function"))
    (li_DuplicateLetter : K.lookup f8 = some ⟨oc8, od8, .func (PySem.W.fnOf "__init__" "DuplicateLetter.__init__" (defArgs s_DuplicateLetter___init__) (defBody s_DuplicateLetter___init__) (defScope s_DuplicateLetter___init__) .none kV8 dc8 pm8 an8 cd8 ct8), sl8⟩)
    (ci_DuplicateLetter : PySem.W.codeIn K cd8 "DuplicateLetter.__init__" = true)
    (ki_DuplicateLetter : PySem.W.keepIn K (.ref f8) = true)
    (ga_DuplicateLetter : PySem.W.findIn K (.ref CDuplicateLetter) "__getattribute__" = some (some (.builtin "BaseException.__getattribute__")))
    (gg_DuplicateLetter : PySem.W.findIn K (.ref CDuplicateLetter) "__getattr__" = some none)
    (hd_DuplicateLetter : PySem.W.hasDictIn K CDuplicateLetter = true)
    (ha_DuplicateLetter : PySem.W.findIn K (.ref CDuplicateLetter) "__class__" = some (some (.builtin "object.__class__")))
    (hm_DuplicateLetter : PySem.W.mroIn K CDuplicateLetter (.type "object") = some true)
    (x_UnknownLetter : K.lookup CUnknownLetter = some (excClassObj nm9 qn9 CUnknownLetter N9 bs9 bm9 true sn9 sub9 ab9 col9 dd9 m09 m19 m29 m39 m59 "ValueError.__new__"))
    (rf_UnknownLetter : PySem.HandSPX.refsVE bm9 = true)
    (sa_UnknownLetter : PySem.W.findIn K (.ref CUnknownLetter) "__setattr__" = some (some (.builtin "object.__setattr__")))
    (kc_UnknownLetter : PySem.W.keepIn K (.ref CUnknownLetter) = true)
    (nb_UnknownLetter : PySem.W.findIn K (.ref CUnknownLetter) "letter" = some none)
    (nd_UnknownLetter : PySem.W.findIn K (.ref CUnknownLetter) "place" = some none)
    (ai_UnknownLetter : PySem.W.findIn K (.ref CUnknownLetter) "__init__" = some (some (.ref f9)))
    (ti_UnknownLetter : PySem.W.typeIn K (.ref f9) = some (.type "function"))
    (li_UnknownLetter : K.lookup f9 = some ⟨oc9, od9, .func (PySem.W.fnOf "__init__" "UnknownLetter.__init__" (defArgs s_UnknownLetter___init__) (defBody s_UnknownLetter___init__) (defScope s_UnknownLetter___init__) .none kV9 dc9 pm9 an9 cd9 ct9), sl9⟩)
    (ci_UnknownLetter : PySem.W.codeIn K cd9 "UnknownLetter.__init__" = true)
    (ki_UnknownLetter : PySem.W.keepIn K (.ref f9) = true)
    (ga_UnknownLetter : PySem.W.findIn K (.ref CUnknownLetter) "__getattribute__" = some (some (.builtin "BaseException.__getattribute__")))
    (gg_UnknownLetter : PySem.W.findIn K (.ref CUnknownLetter) "__getattr__" = some none)
    (hd_UnknownLetter : PySem.W.hasDictIn K CUnknownLetter = true)
    (ha_UnknownLetter : PySem.W.findIn K (.ref CUnknownLetter) "__class__" = some (some (.builtin "object.__class__")))
    (hm_UnknownLetter : PySem.W.mroIn K CUnknownLetter (.type "object") = some true)
    (pg_Scheme : PySem.W.plainGet K CScheme Str.empty = true)
    (hd_Scheme : PySem.W.hasDictIn K CScheme = true)
    (po_Scheme : PySem.W.plainOver K CScheme = true)
    (sa_Scheme : PySem.W.findIn K (.ref CScheme) "__setattr__" = some (some (.builtin "object.__setattr__")))
    (mk_Scheme : PySem.W.makesIn K CScheme = true)
    (kc_Scheme : PySem.W.keepIn K (.ref CScheme) = true)
    (am_Scheme___init__ : PySem.W.findIn K (.ref CScheme) "__init__" = some (some (.ref f10)))
    (im_Scheme___init__ : PySem.W.isFn K (.ref f10) = true)
    (lm_Scheme___init__ : K.lookup f10 = some ⟨oc10, od10, .func (PySem.W.fnOf "__init__" "Scheme.__init__" (defArgs s_Scheme___init__) (defBody s_Scheme___init__) (defScope s_Scheme___init__) .none kV10 dc10 pm10 an10 cd10 ct10), sl10⟩)
    (cm_Scheme___init__ : PySem.W.codeIn K cd10 "Scheme.__init__" = true)
    (km_Scheme___init__ : PySem.W.keepIn K (.ref f10) = true)
    (am_Scheme___eq__ : PySem.W.findIn K (.ref CScheme) "__eq__" = some (some (.ref f11)))
    (im_Scheme___eq__ : PySem.W.isFn K (.ref f11) = true)
    (lm_Scheme___eq__ : K.lookup f11 = some ⟨oc11, od11, .func (PySem.W.fnOf "__eq__" "Scheme.__eq__" (defArgs s_Scheme___eq__) (defBody s_Scheme___eq__) (defScope s_Scheme___eq__) .none kV11 dc11 pm11 an11 cd11 ct11), sl11⟩)
    (cm_Scheme___eq__ : PySem.W.codeIn K cd11 "Scheme.__eq__" = true)
    (km_Scheme___eq__ : PySem.W.keepIn K (.ref f11) = true)
    (am_Scheme_is_strip : PySem.W.findIn K (.ref CScheme) "is_strip" = some (some (.ref f12)))
    (im_Scheme_is_strip : PySem.W.isFn K (.ref f12) = true)
    (lm_Scheme_is_strip : K.lookup f12 = some ⟨oc12, od12, .func (PySem.W.fnOf "is_strip" "Scheme.is_strip" (defArgs s_Scheme_is_strip) (defBody s_Scheme_is_strip) (defScope s_Scheme_is_strip) .none kV12 dc12 pm12 an12 cd12 ct12), sl12⟩)
    (cm_Scheme_is_strip : PySem.W.codeIn K cd12 "Scheme.is_strip" = true)
    (km_Scheme_is_strip : PySem.W.keepIn K (.ref f12) = true)
    (pg_Font : PySem.W.plainGet K CFont Str.empty = true)
    (hd_Font : PySem.W.hasDictIn K CFont = true)
    (po_Font : PySem.W.plainOver K CFont = true)
    (sa_Font : PySem.W.findIn K (.ref CFont) "__setattr__" = some (some (.builtin "object.__setattr__")))
    (mk_Font : PySem.W.makesIn K CFont = true)
    (kc_Font : PySem.W.keepIn K (.ref CFont) = true)
    (am_Font___init__ : PySem.W.findIn K (.ref CFont) "__init__" = some (some (.ref f13)))
    (im_Font___init__ : PySem.W.isFn K (.ref f13) = true)
    (lm_Font___init__ : K.lookup f13 = some ⟨oc13, od13, .func (PySem.W.fnOf "__init__" "Font.__init__" (defArgs s_Font___init__) (defBody s_Font___init__) (defScope s_Font___init__) .none kV13 dc13 pm13 an13 cd13 ct13), sl13⟩)
    (cm_Font___init__ : PySem.W.codeIn K cd13 "Font.__init__" = true)
    (km_Font___init__ : PySem.W.keepIn K (.ref f13) = true)
    (cg_Font_read : PySem.W.findCls K (.ref CFont) (.type "type") "read" = some (.get (.builtin "classmethod.__get__") (.ref p14) .none (.ref CFont)))
    (cr_Font_read : PySem.W.recIn K p14 "classmethod" = some (.ref f14 :: rs14))
    (cf_Font_read : PySem.W.fnIn K f14 = true)
    (lm_Font_read : K.lookup f14 = some ⟨oc14, od14, .func (PySem.W.fnOf "read" "Font.read" (defArgs s_Font_read) (defBody s_Font_read) (defScope s_Font_read) .none kV14 dc14 pm14 an14 cd14 ct14), sl14⟩)
    (cm_Font_read : PySem.W.codeIn K cd14 "Font.read" = true)
    (km_Font_read : PySem.W.keepIn K (.ref f14) = true)
    (am_Font___getitem__ : PySem.W.findIn K (.ref CFont) "__getitem__" = some (some (.ref f15)))
    (im_Font___getitem__ : PySem.W.isFn K (.ref f15) = true)
    (lm_Font___getitem__ : K.lookup f15 = some ⟨oc15, od15, .func (PySem.W.fnOf "__getitem__" "Font.__getitem__" (defArgs s_Font___getitem__) (defBody s_Font___getitem__) (defScope s_Font___getitem__) .none kV15 dc15 pm15 an15 cd15 ct15), sl15⟩)
    (cm_Font___getitem__ : PySem.W.codeIn K cd15 "Font.__getitem__" = true)
    (km_Font___getitem__ : PySem.W.keepIn K (.ref f15) = true)
    (am_Font___contains__ : PySem.W.findIn K (.ref CFont) "__contains__" = some (some (.ref f16)))
    (im_Font___contains__ : PySem.W.isFn K (.ref f16) = true)
    (lm_Font___contains__ : K.lookup f16 = some ⟨oc16, od16, .func (PySem.W.fnOf "__contains__" "Font.__contains__" (defArgs s_Font___contains__) (defBody s_Font___contains__) (defScope s_Font___contains__) .none kV16 dc16 pm16 an16 cd16 ct16), sl16⟩)
    (cm_Font___contains__ : PySem.W.codeIn K cd16 "Font.__contains__" = true)
    (km_Font___contains__ : PySem.W.keepIn K (.ref f16) = true)
    (am_Font___len__ : PySem.W.findIn K (.ref CFont) "__len__" = some (some (.ref f17)))
    (im_Font___len__ : PySem.W.isFn K (.ref f17) = true)
    (lm_Font___len__ : K.lookup f17 = some ⟨oc17, od17, .func (PySem.W.fnOf "__len__" "Font.__len__" (defArgs s_Font___len__) (defBody s_Font___len__) (defScope s_Font___len__) .none kV17 dc17 pm17 an17 cd17 ct17), sl17⟩)
    (cm_Font___len__ : PySem.W.codeIn K cd17 "Font.__len__" = true)
    (km_Font___len__ : PySem.W.keepIn K (.ref f17) = true)
    (am_Font___eq__ : PySem.W.findIn K (.ref CFont) "__eq__" = some (some (.ref f18)))
    (im_Font___eq__ : PySem.W.isFn K (.ref f18) = true)
    (lm_Font___eq__ : K.lookup f18 = some ⟨oc18, od18, .func (PySem.W.fnOf "__eq__" "Font.__eq__" (defArgs s_Font___eq__) (defBody s_Font___eq__) (defScope s_Font___eq__) .none kV18 dc18 pm18 an18 cd18 ct18), sl18⟩)
    (cm_Font___eq__ : PySem.W.codeIn K cd18 "Font.__eq__" = true)
    (km_Font___eq__ : PySem.W.keepIn K (.ref f18) = true)
    (am_Font___str__ : PySem.W.findIn K (.ref CFont) "__str__" = some (some (.ref f19)))
    (im_Font___str__ : PySem.W.isFn K (.ref f19) = true)
    (lm_Font___str__ : K.lookup f19 = some ⟨oc19, od19, .func (PySem.W.fnOf "__str__" "Font.__str__" (defArgs s_Font___str__) (defBody s_Font___str__) (defScope s_Font___str__) .none kV19 dc19 pm19 an19 cd19 ct19), sl19⟩)
    (cm_Font___str__ : PySem.W.codeIn K cd19 "Font.__str__" = true)
    (km_Font___str__ : PySem.W.keepIn K (.ref f19) = true)
    (am_Font_printed : PySem.W.findIn K (.ref CFont) "printed" = some (some (.ref f20)))
    (im_Font_printed : PySem.W.isFn K (.ref f20) = true)
    (lm_Font_printed : K.lookup f20 = some ⟨oc20, od20, .func (PySem.W.fnOf "printed" "Font.printed" (defArgs s_Font_printed) (defBody s_Font_printed) (defScope s_Font_printed) .none kV20 dc20 pm20 an20 cd20 ct20), sl20⟩)
    (cm_Font_printed : PySem.W.codeIn K cd20 "Font.printed" = true)
    (km_Font_printed : PySem.W.keepIn K (.ref f20) = true)
    (ad_check_gap : PySem.W.nsIn K mainGlobals "check_gap" = some (some (.ref f21)))
    (ld_check_gap : K.lookup f21 = some ⟨oc21, od21, .func (PySem.W.fnOf "check_gap" "check_gap" (defArgs s_check_gap) (defBody s_check_gap) (defScope s_check_gap) .none kV21 dc21 pm21 an21 cd21 ct21), sl21⟩)
    (cd_check_gap : PySem.W.codeIn K cd21 "check_gap" = true)
    (kd_check_gap : PySem.W.keepIn K (.ref f21) = true)
    (ad_is_letter : PySem.W.nsIn K mainGlobals "is_letter" = some (some (.ref f22)))
    (ld_is_letter : K.lookup f22 = some ⟨oc22, od22, .func (PySem.W.fnOf "is_letter" "is_letter" (defArgs s_is_letter) (defBody s_is_letter) (defScope s_is_letter) .none kV22 dc22 pm22 an22 cd22 ct22), sl22⟩)
    (cd_is_letter : PySem.W.codeIn K cd22 "is_letter" = true)
    (kd_is_letter : PySem.W.keepIn K (.ref f22) = true)
    (ad_law_purse : PySem.W.nsIn K mainGlobals "_law_purse" = some (some (.ref f23)))
    (ld_law_purse : K.lookup f23 = some ⟨oc23, od23, .func (PySem.W.fnOf "_law_purse" "_law_purse" (defArgs s_law_purse) (defBody s_law_purse) (defScope s_law_purse) .none kV23 dc23 pm23 an23 cd23 ct23), sl23⟩)
    (cd_law_purse : PySem.W.codeIn K cd23 "_law_purse" = true)
    (kd_law_purse : PySem.W.keepIn K (.ref f23) = true)
    (ad_law_draw : PySem.W.nsIn K mainGlobals "_law_draw" = some (some (.ref f24)))
    (ld_law_draw : K.lookup f24 = some ⟨oc24, od24, .func (PySem.W.fnOf "_law_draw" "_law_draw" (defArgs s_law_draw) (defBody s_law_draw) (defScope s_law_draw) .none kV24 dc24 pm24 an24 cd24 ct24), sl24⟩)
    (cd_law_draw : PySem.W.codeIn K cd24 "_law_draw" = true)
    (kd_law_draw : PySem.W.keepIn K (.ref f24) = true)
    (ad_law_kind : PySem.W.nsIn K mainGlobals "_law_kind" = some (some (.ref f25)))
    (ld_law_kind : K.lookup f25 = some ⟨oc25, od25, .func (PySem.W.fnOf "_law_kind" "_law_kind" (defArgs s_law_kind) (defBody s_law_kind) (defScope s_law_kind) .none kV25 dc25 pm25 an25 cd25 ct25), sl25⟩)
    (cd_law_kind : PySem.W.codeIn K cd25 "_law_kind" = true)
    (kd_law_kind : PySem.W.keepIn K (.ref f25) = true)
    (ad_law_word : PySem.W.nsIn K mainGlobals "_law_word" = some (some (.ref f26)))
    (ld_law_word : K.lookup f26 = some ⟨oc26, od26, .func (PySem.W.fnOf "_law_word" "_law_word" (defArgs s_law_word) (defBody s_law_word) (defScope s_law_word) .none kV26 dc26 pm26 an26 cd26 ct26), sl26⟩)
    (cd_law_word : PySem.W.codeIn K cd26 "_law_word" = true)
    (kd_law_word : PySem.W.keepIn K (.ref f26) = true)
    (ad_law_fresh : PySem.W.nsIn K mainGlobals "_law_fresh" = some (some (.ref f27)))
    (ld_law_fresh : K.lookup f27 = some ⟨oc27, od27, .func (PySem.W.fnOf "_law_fresh" "_law_fresh" (defArgs s_law_fresh) (defBody s_law_fresh) (defScope s_law_fresh) .none kV27 dc27 pm27 an27 cd27 ct27), sl27⟩)
    (cd_law_fresh : PySem.W.codeIn K cd27 "_law_fresh" = true)
    (kd_law_fresh : PySem.W.keepIn K (.ref f27) = true)
    (ad_law_is_word : PySem.W.nsIn K mainGlobals "_law_is_word" = some (some (.ref f28)))
    (ld_law_is_word : K.lookup f28 = some ⟨oc28, od28, .func (PySem.W.fnOf "_law_is_word" "_law_is_word" (defArgs s_law_is_word) (defBody s_law_is_word) (defScope s_law_is_word) .none kV28 dc28 pm28 an28 cd28 ct28), sl28⟩)
    (cd_law_is_word : PySem.W.codeIn K cd28 "_law_is_word" = true)
    (kd_law_is_word : PySem.W.keepIn K (.ref f28) = true)
    (ad_law_odd_word : PySem.W.nsIn K mainGlobals "_law_odd_word" = some (some (.ref f29)))
    (ld_law_odd_word : K.lookup f29 = some ⟨oc29, od29, .func (PySem.W.fnOf "_law_odd_word" "_law_odd_word" (defArgs s_law_odd_word) (defBody s_law_odd_word) (defScope s_law_odd_word) .none kV29 dc29 pm29 an29 cd29 ct29), sl29⟩)
    (cd_law_odd_word : PySem.W.codeIn K cd29 "_law_odd_word" = true)
    (kd_law_odd_word : PySem.W.keepIn K (.ref f29) = true)
    (ad_law_pairs : PySem.W.nsIn K mainGlobals "_law_pairs" = some (some (.ref f30)))
    (ld_law_pairs : K.lookup f30 = some ⟨oc30, od30, .func (PySem.W.fnOf "_law_pairs" "_law_pairs" (defArgs s_law_pairs) (defBody s_law_pairs) (defScope s_law_pairs) .none kV30 dc30 pm30 an30 cd30 ct30), sl30⟩)
    (cd_law_pairs : PySem.W.codeIn K cd30 "_law_pairs" = true)
    (kd_law_pairs : PySem.W.keepIn K (.ref f30) = true)
    (ad_law_due : PySem.W.nsIn K mainGlobals "_law_due" = some (some (.ref f31)))
    (ld_law_due : K.lookup f31 = some ⟨oc31, od31, .func (PySem.W.fnOf "_law_due" "_law_due" (defArgs s_law_due) (defBody s_law_due) (defScope s_law_due) .none kV31 dc31 pm31 an31 cd31 ct31), sl31⟩)
    (cd_law_due : PySem.W.codeIn K cd31 "_law_due" = true)
    (kd_law_due : PySem.W.keepIn K (.ref f31) = true)
    (ad_law_line : PySem.W.nsIn K mainGlobals "_law_line" = some (some (.ref f32)))
    (ld_law_line : K.lookup f32 = some ⟨oc32, od32, .func (PySem.W.fnOf "_law_line" "_law_line" (defArgs s_law_line) (defBody s_law_line) (defScope s_law_line) .none kV32 dc32 pm32 an32 cd32 ct32), sl32⟩)
    (cd_law_line : PySem.W.codeIn K cd32 "_law_line" = true)
    (kd_law_line : PySem.W.keepIn K (.ref f32) = true)
    (ad_law_parts : PySem.W.nsIn K mainGlobals "_law_parts" = some (some (.ref f33)))
    (ld_law_parts : K.lookup f33 = some ⟨oc33, od33, .func (PySem.W.fnOf "_law_parts" "_law_parts" (defArgs s_law_parts) (defBody s_law_parts) (defScope s_law_parts) .none kV33 dc33 pm33 an33 cd33 ct33), sl33⟩)
    (cd_law_parts : PySem.W.codeIn K cd33 "_law_parts" = true)
    (kd_law_parts : PySem.W.keepIn K (.ref f33) = true)
    (ad_law_told : PySem.W.nsIn K mainGlobals "_law_told" = some (some (.ref f34)))
    (ld_law_told : K.lookup f34 = some ⟨oc34, od34, .func (PySem.W.fnOf "_law_told" "_law_told" (defArgs s_law_told) (defBody s_law_told) (defScope s_law_told) .none kV34 dc34 pm34 an34 cd34 ct34), sl34⟩)
    (cd_law_told : PySem.W.codeIn K cd34 "_law_told" = true)
    (kd_law_told : PySem.W.keepIn K (.ref f34) = true)
    (ad_law_made : PySem.W.nsIn K mainGlobals "_law_made" = some (some (.ref f35)))
    (ld_law_made : K.lookup f35 = some ⟨oc35, od35, .func (PySem.W.fnOf "_law_made" "_law_made" (defArgs s_law_made) (defBody s_law_made) (defScope s_law_made) .none kV35 dc35 pm35 an35 cd35 ct35), sl35⟩)
    (cd_law_made : PySem.W.codeIn K cd35 "_law_made" = true)
    (kd_law_made : PySem.W.keepIn K (.ref f35) = true)
    (ad_law_read : PySem.W.nsIn K mainGlobals "_law_read" = some (some (.ref f36)))
    (ld_law_read : K.lookup f36 = some ⟨oc36, od36, .func (PySem.W.fnOf "_law_read" "_law_read" (defArgs s_law_read) (defBody s_law_read) (defScope s_law_read) .none kV36 dc36 pm36 an36 cd36 ct36), sl36⟩)
    (cd_law_read : PySem.W.codeIn K cd36 "_law_read" = true)
    (kd_law_read : PySem.W.keepIn K (.ref f36) = true)
    (ad_law_glyph : PySem.W.nsIn K mainGlobals "_law_glyph" = some (some (.ref f37)))
    (ld_law_glyph : K.lookup f37 = some ⟨oc37, od37, .func (PySem.W.fnOf "_law_glyph" "_law_glyph" (defArgs s_law_glyph) (defBody s_law_glyph) (defScope s_law_glyph) .none kV37 dc37 pm37 an37 cd37 ct37), sl37⟩)
    (cd_law_glyph : PySem.W.codeIn K cd37 "_law_glyph" = true)
    (kd_law_glyph : PySem.W.keepIn K (.ref f37) = true)
    (ad_law_print : PySem.W.nsIn K mainGlobals "_law_print" = some (some (.ref f38)))
    (ld_law_print : K.lookup f38 = some ⟨oc38, od38, .func (PySem.W.fnOf "_law_print" "_law_print" (defArgs s_law_print) (defBody s_law_print) (defScope s_law_print) .none kV38 dc38 pm38 an38 cd38 ct38), sl38⟩)
    (cd_law_print : PySem.W.codeIn K cd38 "_law_print" = true)
    (kd_law_print : PySem.W.keepIn K (.ref f38) = true)
    (ad_law_shuffled : PySem.W.nsIn K mainGlobals "_law_shuffled" = some (some (.ref f39)))
    (ld_law_shuffled : K.lookup f39 = some ⟨oc39, od39, .func (PySem.W.fnOf "_law_shuffled" "_law_shuffled" (defArgs s_law_shuffled) (defBody s_law_shuffled) (defScope s_law_shuffled) .none kV39 dc39 pm39 an39 cd39 ct39), sl39⟩)
    (cd_law_shuffled : PySem.W.codeIn K cd39 "_law_shuffled" = true)
    (kd_law_shuffled : PySem.W.keepIn K (.ref f39) = true)
    (ad_law_fields : PySem.W.nsIn K mainGlobals "_law_fields" = some (some (.ref f40)))
    (ld_law_fields : K.lookup f40 = some ⟨oc40, od40, .func (PySem.W.fnOf "_law_fields" "_law_fields" (defArgs s_law_fields) (defBody s_law_fields) (defScope s_law_fields) .none kV40 dc40 pm40 an40 cd40 ct40), sl40⟩)
    (cd_law_fields : PySem.W.codeIn K cd40 "_law_fields" = true)
    (kd_law_fields : PySem.W.keepIn K (.ref f40) = true)
    (ad_law_members : PySem.W.nsIn K mainGlobals "_law_members" = some (some (.ref f41)))
    (ld_law_members : K.lookup f41 = some ⟨oc41, od41, .func (PySem.W.fnOf "_law_members" "_law_members" (defArgs s_law_members) (defBody s_law_members) (defScope s_law_members) .none kV41 dc41 pm41 an41 cd41 ct41), sl41⟩)
    (cd_law_members : PySem.W.codeIn K cd41 "_law_members" = true)
    (kd_law_members : PySem.W.keepIn K (.ref f41) = true)
    (ad_law_prints : PySem.W.nsIn K mainGlobals "_law_prints" = some (some (.ref f42)))
    (ld_law_prints : K.lookup f42 = some ⟨oc42, od42, .func (PySem.W.fnOf "_law_prints" "_law_prints" (defArgs s_law_prints) (defBody s_law_prints) (defScope s_law_prints) .none kV42 dc42 pm42 an42 cd42 ct42), sl42⟩)
    (cd_law_prints : PySem.W.codeIn K cd42 "_law_prints" = true)
    (kd_law_prints : PySem.W.keepIn K (.ref f42) = true)
    (ad_law_unlike : PySem.W.nsIn K mainGlobals "_law_unlike" = some (some (.ref f43)))
    (ld_law_unlike : K.lookup f43 = some ⟨oc43, od43, .func (PySem.W.fnOf "_law_unlike" "_law_unlike" (defArgs s_law_unlike) (defBody s_law_unlike) (defScope s_law_unlike) .none kV43 dc43 pm43 an43 cd43 ct43), sl43⟩)
    (cd_law_unlike : PySem.W.codeIn K cd43 "_law_unlike" = true)
    (kd_law_unlike : PySem.W.keepIn K (.ref f43) = true)
    (ad_law_good : PySem.W.nsIn K mainGlobals "_law_good" = some (some (.ref f44)))
    (ld_law_good : K.lookup f44 = some ⟨oc44, od44, .func (PySem.W.fnOf "_law_good" "_law_good" (defArgs s_law_good) (defBody s_law_good) (defScope s_law_good) .none kV44 dc44 pm44 an44 cd44 ct44), sl44⟩)
    (cd_law_good : PySem.W.codeIn K cd44 "_law_good" = true)
    (kd_law_good : PySem.W.keepIn K (.ref f44) = true)
    (ad_law_bent : PySem.W.nsIn K mainGlobals "_law_bent" = some (some (.ref f45)))
    (ld_law_bent : K.lookup f45 = some ⟨oc45, od45, .func (PySem.W.fnOf "_law_bent" "_law_bent" (defArgs s_law_bent) (defBody s_law_bent) (defScope s_law_bent) .none kV45 dc45 pm45 an45 cd45 ct45), sl45⟩)
    (cd_law_bent : PySem.W.codeIn K cd45 "_law_bent" = true)
    (kd_law_bent : PySem.W.keepIn K (.ref f45) = true)
    (ad_law : PySem.W.nsIn K mainGlobals "law" = some (some (.ref f46)))
    (ld_law : K.lookup f46 = some ⟨oc46, od46, .func (PySem.W.fnOf "law" "law" (defArgs s_law) (defBody s_law) (defScope s_law) .none kV46 dc46 pm46 an46 cd46 ct46), sl46⟩)
    (cd_law : PySem.W.codeIn K cd46 "law" = true)
    (kd_law : PySem.W.keepIn K (.ref f46) = true)
    (i_hn : PySem.W.specialIn K (.builtin "object.__class__") "__get__" = some (some (.builtin "getset_descriptor.__get__")))
    (i_ht : PySem.W.takesIn K (.builtin "object.__class__") = some true)
    (nn_Scheme_rows : PySem.W.findIn K (.ref CScheme) "rows" = some none)
    (nn_Scheme_colours : PySem.W.findIn K (.ref CScheme) "colours" = some none)
    (nn_Scheme_columns : PySem.W.findIn K (.ref CScheme) "columns" = some none)
    (f_Scheme_MOST : PySem.W.findIn K (.ref CScheme) "MOST" = some (some (.int 9 t_Scheme_MOST)))
    (s_Scheme_MOST : PySem.W.specialIn K (.int 9 t_Scheme_MOST) "__get__" = some none)
    (f_Scheme_BLANK : PySem.W.findIn K (.ref CScheme) "BLANK" = some (some (.str "a" t_Scheme_BLANK)))
    (s_Scheme_BLANK : PySem.W.specialIn K (.str "a" t_Scheme_BLANK) "__get__" = some none)
    (i_ha : PySem.W.findIn K (.ref CScheme) "__class__" = some (some (.builtin "object.__class__")))
    (i_hm : PySem.W.mroIn K CScheme (.type "object") = some true)
    (nf_Scheme_int : PySem.W.notFirst K CScheme (.type "int") = true)
    (nf_Scheme_str : PySem.W.notFirst K CScheme (.type "str") = true)
    (s_int_Scheme : PySem.W.subIn K (.type "int") (.ref CScheme) = some false)
    (s_str_Scheme : PySem.W.subIn K (.type "str") (.ref CScheme) = some false)
    (nn_Font_scheme : PySem.W.findIn K (.ref CFont) "scheme" = some none)
    (nn_Font_gap : PySem.W.findIn K (.ref CFont) "gap" = some none)
    (nn_Font_glyphs : PySem.W.findIn K (.ref CFont) "glyphs" = some none)
    (nn_Font__told : PySem.W.findIn K (.ref CFont) "_told" = some none)
    (f_Font_MOST : PySem.W.findIn K (.ref CFont) "MOST" = some (some (.int 6 t_Font_MOST)))
    (s_Font_MOST : PySem.W.specialIn K (.int 6 t_Font_MOST) "__get__" = some none)
    (rS_Font : PySem.W.readsIn K CFont (.type "type") = true)
    (gS_Font : PySem.W.specialIn K (.ref CFont) "__getattribute__" = some (some (.builtin "type.__getattribute__")))
    (cv_Font_MOST : PySem.W.findCls K (.ref CFont) (.type "type") "MOST" = some (.val (.int 6 tc_Font_MOST)))
    (y_ha : PySem.W.findIn K (.ref CFont) "__class__" = some (some (.builtin "object.__class__")))
    (y_hm : PySem.W.mroIn K CFont (.type "object") = some true)
    (nf_Font_int : PySem.W.notFirst K CFont (.type "int") = true)
    (nf_Font_str : PySem.W.notFirst K CFont (.type "str") = true)
    (nf_Font_list : PySem.W.notFirst K CFont (.type "list") = true)
    (s_int_Font : PySem.W.subIn K (.type "int") (.ref CFont) = some false)
    (s_str_Font : PySem.W.subIn K (.type "str") (.ref CFont) = some false)
    (s_list_Font : PySem.W.subIn K (.type "list") (.ref CFont) = some false)
    (ss_0 : PySem.W.subIn K (.ref CBadScheme) (.ref CBadScheme) = some true)
    (s_0_1 : PySem.W.subIn K (.ref CBadScheme) (.ref CBadColumn) = some false)
    (ne_0_1 : ((Value.ref CBadScheme) == Value.ref CBadColumn) = false)
    (s_0_2 : PySem.W.subIn K (.ref CBadScheme) (.ref CBadSpots) = some false)
    (ne_0_2 : ((Value.ref CBadScheme) == Value.ref CBadSpots) = false)
    (s_0_3 : PySem.W.subIn K (.ref CBadScheme) (.ref CTooMany) = some false)
    (ne_0_3 : ((Value.ref CBadScheme) == Value.ref CTooMany) = false)
    (s_0_4 : PySem.W.subIn K (.ref CBadScheme) (.ref CBadFont) = some false)
    (ne_0_4 : ((Value.ref CBadScheme) == Value.ref CBadFont) = false)
    (s_0_5 : PySem.W.subIn K (.ref CBadScheme) (.ref CBadLetter) = some false)
    (ne_0_5 : ((Value.ref CBadScheme) == Value.ref CBadLetter) = false)
    (s_0_6 : PySem.W.subIn K (.ref CBadScheme) (.ref CBadGlyph) = some false)
    (ne_0_6 : ((Value.ref CBadScheme) == Value.ref CBadGlyph) = false)
    (s_0_7 : PySem.W.subIn K (.ref CBadScheme) (.ref CDuplicateLetter) = some false)
    (ne_0_7 : ((Value.ref CBadScheme) == Value.ref CDuplicateLetter) = false)
    (s_0_8 : PySem.W.subIn K (.ref CBadScheme) (.ref CUnknownLetter) = some false)
    (ne_0_8 : ((Value.ref CBadScheme) == Value.ref CUnknownLetter) = false)
    (s_1_0 : PySem.W.subIn K (.ref CBadColumn) (.ref CBadScheme) = some false)
    (ne_1_0 : ((Value.ref CBadColumn) == Value.ref CBadScheme) = false)
    (ss_1 : PySem.W.subIn K (.ref CBadColumn) (.ref CBadColumn) = some true)
    (s_1_2 : PySem.W.subIn K (.ref CBadColumn) (.ref CBadSpots) = some false)
    (ne_1_2 : ((Value.ref CBadColumn) == Value.ref CBadSpots) = false)
    (s_1_3 : PySem.W.subIn K (.ref CBadColumn) (.ref CTooMany) = some false)
    (ne_1_3 : ((Value.ref CBadColumn) == Value.ref CTooMany) = false)
    (s_1_4 : PySem.W.subIn K (.ref CBadColumn) (.ref CBadFont) = some false)
    (ne_1_4 : ((Value.ref CBadColumn) == Value.ref CBadFont) = false)
    (s_1_5 : PySem.W.subIn K (.ref CBadColumn) (.ref CBadLetter) = some false)
    (ne_1_5 : ((Value.ref CBadColumn) == Value.ref CBadLetter) = false)
    (s_1_6 : PySem.W.subIn K (.ref CBadColumn) (.ref CBadGlyph) = some false)
    (ne_1_6 : ((Value.ref CBadColumn) == Value.ref CBadGlyph) = false)
    (s_1_7 : PySem.W.subIn K (.ref CBadColumn) (.ref CDuplicateLetter) = some false)
    (ne_1_7 : ((Value.ref CBadColumn) == Value.ref CDuplicateLetter) = false)
    (s_1_8 : PySem.W.subIn K (.ref CBadColumn) (.ref CUnknownLetter) = some false)
    (ne_1_8 : ((Value.ref CBadColumn) == Value.ref CUnknownLetter) = false)
    (s_2_0 : PySem.W.subIn K (.ref CBadSpots) (.ref CBadScheme) = some false)
    (ne_2_0 : ((Value.ref CBadSpots) == Value.ref CBadScheme) = false)
    (s_2_1 : PySem.W.subIn K (.ref CBadSpots) (.ref CBadColumn) = some false)
    (ne_2_1 : ((Value.ref CBadSpots) == Value.ref CBadColumn) = false)
    (ss_2 : PySem.W.subIn K (.ref CBadSpots) (.ref CBadSpots) = some true)
    (s_2_3 : PySem.W.subIn K (.ref CBadSpots) (.ref CTooMany) = some false)
    (ne_2_3 : ((Value.ref CBadSpots) == Value.ref CTooMany) = false)
    (s_2_4 : PySem.W.subIn K (.ref CBadSpots) (.ref CBadFont) = some false)
    (ne_2_4 : ((Value.ref CBadSpots) == Value.ref CBadFont) = false)
    (s_2_5 : PySem.W.subIn K (.ref CBadSpots) (.ref CBadLetter) = some false)
    (ne_2_5 : ((Value.ref CBadSpots) == Value.ref CBadLetter) = false)
    (s_2_6 : PySem.W.subIn K (.ref CBadSpots) (.ref CBadGlyph) = some false)
    (ne_2_6 : ((Value.ref CBadSpots) == Value.ref CBadGlyph) = false)
    (s_2_7 : PySem.W.subIn K (.ref CBadSpots) (.ref CDuplicateLetter) = some false)
    (ne_2_7 : ((Value.ref CBadSpots) == Value.ref CDuplicateLetter) = false)
    (s_2_8 : PySem.W.subIn K (.ref CBadSpots) (.ref CUnknownLetter) = some false)
    (ne_2_8 : ((Value.ref CBadSpots) == Value.ref CUnknownLetter) = false)
    (s_3_0 : PySem.W.subIn K (.ref CTooMany) (.ref CBadScheme) = some false)
    (ne_3_0 : ((Value.ref CTooMany) == Value.ref CBadScheme) = false)
    (s_3_1 : PySem.W.subIn K (.ref CTooMany) (.ref CBadColumn) = some false)
    (ne_3_1 : ((Value.ref CTooMany) == Value.ref CBadColumn) = false)
    (s_3_2 : PySem.W.subIn K (.ref CTooMany) (.ref CBadSpots) = some false)
    (ne_3_2 : ((Value.ref CTooMany) == Value.ref CBadSpots) = false)
    (ss_3 : PySem.W.subIn K (.ref CTooMany) (.ref CTooMany) = some true)
    (s_3_4 : PySem.W.subIn K (.ref CTooMany) (.ref CBadFont) = some false)
    (ne_3_4 : ((Value.ref CTooMany) == Value.ref CBadFont) = false)
    (s_3_5 : PySem.W.subIn K (.ref CTooMany) (.ref CBadLetter) = some false)
    (ne_3_5 : ((Value.ref CTooMany) == Value.ref CBadLetter) = false)
    (s_3_6 : PySem.W.subIn K (.ref CTooMany) (.ref CBadGlyph) = some false)
    (ne_3_6 : ((Value.ref CTooMany) == Value.ref CBadGlyph) = false)
    (s_3_7 : PySem.W.subIn K (.ref CTooMany) (.ref CDuplicateLetter) = some false)
    (ne_3_7 : ((Value.ref CTooMany) == Value.ref CDuplicateLetter) = false)
    (s_3_8 : PySem.W.subIn K (.ref CTooMany) (.ref CUnknownLetter) = some false)
    (ne_3_8 : ((Value.ref CTooMany) == Value.ref CUnknownLetter) = false)
    (s_4_0 : PySem.W.subIn K (.ref CBadFont) (.ref CBadScheme) = some false)
    (ne_4_0 : ((Value.ref CBadFont) == Value.ref CBadScheme) = false)
    (s_4_1 : PySem.W.subIn K (.ref CBadFont) (.ref CBadColumn) = some false)
    (ne_4_1 : ((Value.ref CBadFont) == Value.ref CBadColumn) = false)
    (s_4_2 : PySem.W.subIn K (.ref CBadFont) (.ref CBadSpots) = some false)
    (ne_4_2 : ((Value.ref CBadFont) == Value.ref CBadSpots) = false)
    (s_4_3 : PySem.W.subIn K (.ref CBadFont) (.ref CTooMany) = some false)
    (ne_4_3 : ((Value.ref CBadFont) == Value.ref CTooMany) = false)
    (ss_4 : PySem.W.subIn K (.ref CBadFont) (.ref CBadFont) = some true)
    (s_4_5 : PySem.W.subIn K (.ref CBadFont) (.ref CBadLetter) = some false)
    (ne_4_5 : ((Value.ref CBadFont) == Value.ref CBadLetter) = false)
    (s_4_6 : PySem.W.subIn K (.ref CBadFont) (.ref CBadGlyph) = some false)
    (ne_4_6 : ((Value.ref CBadFont) == Value.ref CBadGlyph) = false)
    (s_4_7 : PySem.W.subIn K (.ref CBadFont) (.ref CDuplicateLetter) = some false)
    (ne_4_7 : ((Value.ref CBadFont) == Value.ref CDuplicateLetter) = false)
    (s_4_8 : PySem.W.subIn K (.ref CBadFont) (.ref CUnknownLetter) = some false)
    (ne_4_8 : ((Value.ref CBadFont) == Value.ref CUnknownLetter) = false)
    (s_5_0 : PySem.W.subIn K (.ref CBadLetter) (.ref CBadScheme) = some false)
    (ne_5_0 : ((Value.ref CBadLetter) == Value.ref CBadScheme) = false)
    (s_5_1 : PySem.W.subIn K (.ref CBadLetter) (.ref CBadColumn) = some false)
    (ne_5_1 : ((Value.ref CBadLetter) == Value.ref CBadColumn) = false)
    (s_5_2 : PySem.W.subIn K (.ref CBadLetter) (.ref CBadSpots) = some false)
    (ne_5_2 : ((Value.ref CBadLetter) == Value.ref CBadSpots) = false)
    (s_5_3 : PySem.W.subIn K (.ref CBadLetter) (.ref CTooMany) = some false)
    (ne_5_3 : ((Value.ref CBadLetter) == Value.ref CTooMany) = false)
    (s_5_4 : PySem.W.subIn K (.ref CBadLetter) (.ref CBadFont) = some false)
    (ne_5_4 : ((Value.ref CBadLetter) == Value.ref CBadFont) = false)
    (ss_5 : PySem.W.subIn K (.ref CBadLetter) (.ref CBadLetter) = some true)
    (s_5_6 : PySem.W.subIn K (.ref CBadLetter) (.ref CBadGlyph) = some false)
    (ne_5_6 : ((Value.ref CBadLetter) == Value.ref CBadGlyph) = false)
    (s_5_7 : PySem.W.subIn K (.ref CBadLetter) (.ref CDuplicateLetter) = some false)
    (ne_5_7 : ((Value.ref CBadLetter) == Value.ref CDuplicateLetter) = false)
    (s_5_8 : PySem.W.subIn K (.ref CBadLetter) (.ref CUnknownLetter) = some false)
    (ne_5_8 : ((Value.ref CBadLetter) == Value.ref CUnknownLetter) = false)
    (s_6_0 : PySem.W.subIn K (.ref CBadGlyph) (.ref CBadScheme) = some false)
    (ne_6_0 : ((Value.ref CBadGlyph) == Value.ref CBadScheme) = false)
    (s_6_1 : PySem.W.subIn K (.ref CBadGlyph) (.ref CBadColumn) = some false)
    (ne_6_1 : ((Value.ref CBadGlyph) == Value.ref CBadColumn) = false)
    (s_6_2 : PySem.W.subIn K (.ref CBadGlyph) (.ref CBadSpots) = some false)
    (ne_6_2 : ((Value.ref CBadGlyph) == Value.ref CBadSpots) = false)
    (s_6_3 : PySem.W.subIn K (.ref CBadGlyph) (.ref CTooMany) = some false)
    (ne_6_3 : ((Value.ref CBadGlyph) == Value.ref CTooMany) = false)
    (s_6_4 : PySem.W.subIn K (.ref CBadGlyph) (.ref CBadFont) = some false)
    (ne_6_4 : ((Value.ref CBadGlyph) == Value.ref CBadFont) = false)
    (s_6_5 : PySem.W.subIn K (.ref CBadGlyph) (.ref CBadLetter) = some false)
    (ne_6_5 : ((Value.ref CBadGlyph) == Value.ref CBadLetter) = false)
    (ss_6 : PySem.W.subIn K (.ref CBadGlyph) (.ref CBadGlyph) = some true)
    (s_6_7 : PySem.W.subIn K (.ref CBadGlyph) (.ref CDuplicateLetter) = some false)
    (ne_6_7 : ((Value.ref CBadGlyph) == Value.ref CDuplicateLetter) = false)
    (s_6_8 : PySem.W.subIn K (.ref CBadGlyph) (.ref CUnknownLetter) = some false)
    (ne_6_8 : ((Value.ref CBadGlyph) == Value.ref CUnknownLetter) = false)
    (s_7_0 : PySem.W.subIn K (.ref CDuplicateLetter) (.ref CBadScheme) = some false)
    (ne_7_0 : ((Value.ref CDuplicateLetter) == Value.ref CBadScheme) = false)
    (s_7_1 : PySem.W.subIn K (.ref CDuplicateLetter) (.ref CBadColumn) = some false)
    (ne_7_1 : ((Value.ref CDuplicateLetter) == Value.ref CBadColumn) = false)
    (s_7_2 : PySem.W.subIn K (.ref CDuplicateLetter) (.ref CBadSpots) = some false)
    (ne_7_2 : ((Value.ref CDuplicateLetter) == Value.ref CBadSpots) = false)
    (s_7_3 : PySem.W.subIn K (.ref CDuplicateLetter) (.ref CTooMany) = some false)
    (ne_7_3 : ((Value.ref CDuplicateLetter) == Value.ref CTooMany) = false)
    (s_7_4 : PySem.W.subIn K (.ref CDuplicateLetter) (.ref CBadFont) = some false)
    (ne_7_4 : ((Value.ref CDuplicateLetter) == Value.ref CBadFont) = false)
    (s_7_5 : PySem.W.subIn K (.ref CDuplicateLetter) (.ref CBadLetter) = some false)
    (ne_7_5 : ((Value.ref CDuplicateLetter) == Value.ref CBadLetter) = false)
    (s_7_6 : PySem.W.subIn K (.ref CDuplicateLetter) (.ref CBadGlyph) = some false)
    (ne_7_6 : ((Value.ref CDuplicateLetter) == Value.ref CBadGlyph) = false)
    (ss_7 : PySem.W.subIn K (.ref CDuplicateLetter) (.ref CDuplicateLetter) = some true)
    (s_7_8 : PySem.W.subIn K (.ref CDuplicateLetter) (.ref CUnknownLetter) = some false)
    (ne_7_8 : ((Value.ref CDuplicateLetter) == Value.ref CUnknownLetter) = false)
    (s_8_0 : PySem.W.subIn K (.ref CUnknownLetter) (.ref CBadScheme) = some false)
    (ne_8_0 : ((Value.ref CUnknownLetter) == Value.ref CBadScheme) = false)
    (s_8_1 : PySem.W.subIn K (.ref CUnknownLetter) (.ref CBadColumn) = some false)
    (ne_8_1 : ((Value.ref CUnknownLetter) == Value.ref CBadColumn) = false)
    (s_8_2 : PySem.W.subIn K (.ref CUnknownLetter) (.ref CBadSpots) = some false)
    (ne_8_2 : ((Value.ref CUnknownLetter) == Value.ref CBadSpots) = false)
    (s_8_3 : PySem.W.subIn K (.ref CUnknownLetter) (.ref CTooMany) = some false)
    (ne_8_3 : ((Value.ref CUnknownLetter) == Value.ref CTooMany) = false)
    (s_8_4 : PySem.W.subIn K (.ref CUnknownLetter) (.ref CBadFont) = some false)
    (ne_8_4 : ((Value.ref CUnknownLetter) == Value.ref CBadFont) = false)
    (s_8_5 : PySem.W.subIn K (.ref CUnknownLetter) (.ref CBadLetter) = some false)
    (ne_8_5 : ((Value.ref CUnknownLetter) == Value.ref CBadLetter) = false)
    (s_8_6 : PySem.W.subIn K (.ref CUnknownLetter) (.ref CBadGlyph) = some false)
    (ne_8_6 : ((Value.ref CUnknownLetter) == Value.ref CBadGlyph) = false)
    (s_8_7 : PySem.W.subIn K (.ref CUnknownLetter) (.ref CDuplicateLetter) = some false)
    (ne_8_7 : ((Value.ref CUnknownLetter) == Value.ref CDuplicateLetter) = false)
    (ss_8 : PySem.W.subIn K (.ref CUnknownLetter) (.ref CUnknownLetter) = some true)
    (sv_0 : PySem.W.subIn K (.ref CBadScheme) (.type "ValueError") = some true)
    (sv_1 : PySem.W.subIn K (.ref CBadColumn) (.type "ValueError") = some true)
    (sv_2 : PySem.W.subIn K (.ref CBadSpots) (.type "ValueError") = some true)
    (sv_3 : PySem.W.subIn K (.ref CTooMany) (.type "ValueError") = some true)
    (sv_4 : PySem.W.subIn K (.ref CBadFont) (.type "ValueError") = some true)
    (sv_5 : PySem.W.subIn K (.ref CBadLetter) (.type "ValueError") = some true)
    (sv_6 : PySem.W.subIn K (.ref CBadGlyph) (.type "ValueError") = some true)
    (sv_7 : PySem.W.subIn K (.ref CDuplicateLetter) (.type "ValueError") = some true)
    (sv_8 : PySem.W.subIn K (.ref CUnknownLetter) (.type "ValueError") = some true)
    (sg_0 : PySem.W.subIn K (.ref CBadScheme) (.ref CGalloonError) = some true)
    (sg_1 : PySem.W.subIn K (.ref CBadColumn) (.ref CGalloonError) = some true)
    (sg_2 : PySem.W.subIn K (.ref CBadSpots) (.ref CGalloonError) = some true)
    (sg_3 : PySem.W.subIn K (.ref CTooMany) (.ref CGalloonError) = some true)
    (sg_4 : PySem.W.subIn K (.ref CBadFont) (.ref CGalloonError) = some true)
    (sg_5 : PySem.W.subIn K (.ref CBadLetter) (.ref CGalloonError) = some true)
    (sg_6 : PySem.W.subIn K (.ref CBadGlyph) (.ref CGalloonError) = some true)
    (sg_7 : PySem.W.subIn K (.ref CDuplicateLetter) (.ref CGalloonError) = some true)
    (sg_8 : PySem.W.subIn K (.ref CUnknownLetter) (.ref CGalloonError) = some true)
    (ne_g_0 : ((Value.ref CBadScheme) == Value.ref CGalloonError) = false)
    (ne_g_1 : ((Value.ref CBadColumn) == Value.ref CGalloonError) = false)
    (ne_g_2 : ((Value.ref CBadSpots) == Value.ref CGalloonError) = false)
    (ne_g_3 : ((Value.ref CTooMany) == Value.ref CGalloonError) = false)
    (ne_g_4 : ((Value.ref CBadFont) == Value.ref CGalloonError) = false)
    (ne_g_5 : ((Value.ref CBadLetter) == Value.ref CGalloonError) = false)
    (ne_g_6 : ((Value.ref CBadGlyph) == Value.ref CGalloonError) = false)
    (ne_g_7 : ((Value.ref CDuplicateLetter) == Value.ref CGalloonError) = false)
    (ne_g_8 : ((Value.ref CUnknownLetter) == Value.ref CGalloonError) = false) :
    Txt K mg ⟨CGalloonError, CBadScheme, CBadColumn, CBadSpots, CTooMany, CBadFont, CBadLetter, CBadGlyph, CDuplicateLetter, CUnknownLetter, CScheme, CFont⟩ :=
  { b_ValueError := PySem.W.mg_none_of X G z_ValueError
    b_all := PySem.W.mg_none_of X G z_all
    b_classmethod := PySem.W.mg_none_of X G z_classmethod
    b_enumerate := PySem.W.mg_none_of X G z_enumerate
    b_int := PySem.W.mg_none_of X G z_int
    b_isinstance := PySem.W.mg_none_of X G z_isinstance
    b_len := PySem.W.mg_none_of X G z_len
    b_list := PySem.W.mg_none_of X G z_list
    b_range := PySem.W.mg_none_of X G z_range
    b_sorted := PySem.W.mg_none_of X G z_sorted
    b_str := PySem.W.mg_none_of X G z_str
    b_tuple := PySem.W.mg_none_of X G z_tuple
    g_DIGITS := gval_of X G v_DIGITS ⟨_, rfl⟩
    g_LETTERS := gval_of X G v_LETTERS ⟨_, rfl⟩
    g_ALPHABET := gval_of X G v_ALPHABET ⟨_, rfl⟩
    g_MOST_GAP := gval_of X G v_MOST_GAP ⟨_, rfl⟩
    g_MOST_GLYPH := gval_of X G v_MOST_GLYPH ⟨_, rfl⟩
    g_GalloonError := PySem.W.mg_of X G a_GalloonError
    e_BadScheme := errT_of X G a_BadScheme x_BadScheme rf_BadScheme sa_BadScheme sB_BadScheme tc_BadScheme kc_BadScheme nb_BadScheme ai_BadScheme ti_BadScheme li_BadScheme ci_BadScheme ki_BadScheme
    x_BadScheme := errC_of ga_BadScheme gg_BadScheme sB_BadScheme hd_BadScheme ha_BadScheme i_hn i_ht hm_BadScheme ic_BadScheme
    e_BadColumn := errT_of X G a_BadColumn x_BadColumn rf_BadColumn sa_BadColumn sB_BadColumn tc_BadColumn kc_BadColumn nb_BadColumn ai_BadColumn ti_BadColumn li_BadColumn ci_BadColumn ki_BadColumn
    x_BadColumn := errC_of ga_BadColumn gg_BadColumn sB_BadColumn hd_BadColumn ha_BadColumn i_hn i_ht hm_BadColumn ic_BadColumn
    e_BadSpots := errT_of X G a_BadSpots x_BadSpots rf_BadSpots sa_BadSpots sB_BadSpots tc_BadSpots kc_BadSpots nb_BadSpots ai_BadSpots ti_BadSpots li_BadSpots ci_BadSpots ki_BadSpots
    x_BadSpots := errC_of ga_BadSpots gg_BadSpots sB_BadSpots hd_BadSpots ha_BadSpots i_hn i_ht hm_BadSpots ic_BadSpots
    e_TooMany := errT_of X G a_TooMany x_TooMany rf_TooMany sa_TooMany sB_TooMany tc_TooMany kc_TooMany nb_TooMany ai_TooMany ti_TooMany li_TooMany ci_TooMany ki_TooMany
    x_TooMany := errC_of ga_TooMany gg_TooMany sB_TooMany hd_TooMany ha_TooMany i_hn i_ht hm_TooMany ic_TooMany
    e_BadFont := errT_of X G a_BadFont x_BadFont rf_BadFont sa_BadFont sB_BadFont tc_BadFont kc_BadFont nb_BadFont ai_BadFont ti_BadFont li_BadFont ci_BadFont ki_BadFont
    x_BadFont := errC_of ga_BadFont gg_BadFont sB_BadFont hd_BadFont ha_BadFont i_hn i_ht hm_BadFont ic_BadFont
    e_BadLetter := errT_of X G a_BadLetter x_BadLetter rf_BadLetter sa_BadLetter sB_BadLetter tc_BadLetter kc_BadLetter nb_BadLetter ai_BadLetter ti_BadLetter li_BadLetter ci_BadLetter ki_BadLetter
    x_BadLetter := errC_of ga_BadLetter gg_BadLetter sB_BadLetter hd_BadLetter ha_BadLetter i_hn i_ht hm_BadLetter ic_BadLetter
    e_BadGlyph := errT_of X G a_BadGlyph x_BadGlyph rf_BadGlyph sa_BadGlyph sB_BadGlyph tc_BadGlyph kc_BadGlyph nb_BadGlyph ai_BadGlyph ti_BadGlyph li_BadGlyph ci_BadGlyph ki_BadGlyph
    x_BadGlyph := errC_of ga_BadGlyph gg_BadGlyph sB_BadGlyph hd_BadGlyph ha_BadGlyph i_hn i_ht hm_BadGlyph ic_BadGlyph
    e_DuplicateLetter := errT_of X G a_DuplicateLetter x_DuplicateLetter rf_DuplicateLetter sa_DuplicateLetter sB_DuplicateLetter tc_DuplicateLetter kc_DuplicateLetter nb_DuplicateLetter ai_DuplicateLetter ti_DuplicateLetter li_DuplicateLetter ci_DuplicateLetter ki_DuplicateLetter
    x_DuplicateLetter := errC_of ga_DuplicateLetter gg_DuplicateLetter sB_DuplicateLetter hd_DuplicateLetter ha_DuplicateLetter i_hn i_ht hm_DuplicateLetter ic_DuplicateLetter
    e_UnknownLetter := errT2_of X G a_UnknownLetter x_UnknownLetter rf_UnknownLetter sa_UnknownLetter sB_UnknownLetter tc_UnknownLetter kc_UnknownLetter nb_UnknownLetter nd_UnknownLetter ai_UnknownLetter ti_UnknownLetter li_UnknownLetter ci_UnknownLetter ki_UnknownLetter
    x_UnknownLetter := errC_of ga_UnknownLetter gg_UnknownLetter sB_UnknownLetter hd_UnknownLetter ha_UnknownLetter i_hn i_ht hm_UnknownLetter ic_UnknownLetter
    c_Scheme := clsT_of X G a_Scheme pg_Scheme hd_Scheme po_Scheme sa_Scheme mk_Scheme kc_Scheme
    m_Scheme___init__ := metT_of am_Scheme___init__ im_Scheme___init__ lm_Scheme___init__ cm_Scheme___init__ km_Scheme___init__
    m_Scheme___eq__ := metT_of am_Scheme___eq__ im_Scheme___eq__ lm_Scheme___eq__ cm_Scheme___eq__ km_Scheme___eq__
    m_Scheme_is_strip := metT_of am_Scheme_is_strip im_Scheme_is_strip lm_Scheme_is_strip cm_Scheme_is_strip km_Scheme_is_strip
    c_Font := clsT_of X G a_Font pg_Font hd_Font po_Font sa_Font mk_Font kc_Font
    m_Font___init__ := metT_of am_Font___init__ im_Font___init__ lm_Font___init__ cm_Font___init__ km_Font___init__
    m_Font_read := ⟨_, _, _, _, fun_mk (st := s_Font_read) lm_Font_read cm_Font_read km_Font_read, ⟨rS_Font, gS_Font⟩, ⟨cg_Font_read, ⟨_, cr_Font_read⟩, cf_Font_read⟩⟩
    m_Font___getitem__ := metT_of am_Font___getitem__ im_Font___getitem__ lm_Font___getitem__ cm_Font___getitem__ km_Font___getitem__
    m_Font___contains__ := metT_of am_Font___contains__ im_Font___contains__ lm_Font___contains__ cm_Font___contains__ km_Font___contains__
    m_Font___len__ := metT_of am_Font___len__ im_Font___len__ lm_Font___len__ cm_Font___len__ km_Font___len__
    m_Font___eq__ := metT_of am_Font___eq__ im_Font___eq__ lm_Font___eq__ cm_Font___eq__ km_Font___eq__
    m_Font___str__ := metT_of am_Font___str__ im_Font___str__ lm_Font___str__ cm_Font___str__ km_Font___str__
    m_Font_printed := metT_of am_Font_printed im_Font_printed lm_Font_printed cm_Font_printed km_Font_printed
    d_check_gap := defT_of X G ad_check_gap ld_check_gap cd_check_gap kd_check_gap
    d_is_letter := defT_of X G ad_is_letter ld_is_letter cd_is_letter kd_is_letter
    d_law_purse := defT_of X G ad_law_purse ld_law_purse cd_law_purse kd_law_purse
    d_law_draw := defT_of X G ad_law_draw ld_law_draw cd_law_draw kd_law_draw
    d_law_kind := defT_of X G ad_law_kind ld_law_kind cd_law_kind kd_law_kind
    d_law_word := defT_of X G ad_law_word ld_law_word cd_law_word kd_law_word
    d_law_fresh := defT_of X G ad_law_fresh ld_law_fresh cd_law_fresh kd_law_fresh
    d_law_is_word := defT_of X G ad_law_is_word ld_law_is_word cd_law_is_word kd_law_is_word
    d_law_odd_word := defT_of X G ad_law_odd_word ld_law_odd_word cd_law_odd_word kd_law_odd_word
    d_law_pairs := defT_of X G ad_law_pairs ld_law_pairs cd_law_pairs kd_law_pairs
    d_law_due := defT_of X G ad_law_due ld_law_due cd_law_due kd_law_due
    d_law_line := defT_of X G ad_law_line ld_law_line cd_law_line kd_law_line
    d_law_parts := defT_of X G ad_law_parts ld_law_parts cd_law_parts kd_law_parts
    d_law_told := defT_of X G ad_law_told ld_law_told cd_law_told kd_law_told
    d_law_made := defT_of X G ad_law_made ld_law_made cd_law_made kd_law_made
    d_law_read := defT_of X G ad_law_read ld_law_read cd_law_read kd_law_read
    d_law_glyph := defT_of X G ad_law_glyph ld_law_glyph cd_law_glyph kd_law_glyph
    d_law_print := defT_of X G ad_law_print ld_law_print cd_law_print kd_law_print
    d_law_shuffled := defT_of X G ad_law_shuffled ld_law_shuffled cd_law_shuffled kd_law_shuffled
    d_law_fields := defT_of X G ad_law_fields ld_law_fields cd_law_fields kd_law_fields
    d_law_members := defT_of X G ad_law_members ld_law_members cd_law_members kd_law_members
    d_law_prints := defT_of X G ad_law_prints ld_law_prints cd_law_prints kd_law_prints
    d_law_unlike := defT_of X G ad_law_unlike ld_law_unlike cd_law_unlike kd_law_unlike
    d_law_good := defT_of X G ad_law_good ld_law_good cd_law_good kd_law_good
    d_law_bent := defT_of X G ad_law_bent ld_law_bent cd_law_bent kd_law_bent
    d_law := defT_of X G ad_law ld_law cd_law kd_law
    i_hn := i_hn
    i_ht := i_ht
    n_rows := nn_Scheme_rows
    n_colours := nn_Scheme_colours
    n_columns := nn_Scheme_columns
    k_MOST := ⟨_, f_Scheme_MOST, ⟨_, rfl⟩, s_Scheme_MOST, by decide +kernel⟩
    k_BLANK := ⟨_, f_Scheme_BLANK, ⟨_, rfl⟩, s_Scheme_BLANK, by decide +kernel⟩
    i_ha := i_ha
    i_hm := i_hm
    i_own := kitS_of
    i_ni := nf_Scheme_int
    i_ns := nf_Scheme_str
    i_int := kitR_of ic_Scheme tc_Scheme s_int_Scheme rfl
    i_str := kitR_of ic_Scheme tc_Scheme s_str_Scheme rfl
    y_scheme := nn_Font_scheme
    y_gap := nn_Font_gap
    y_glyphs := nn_Font_glyphs
    y_told := nn_Font__told
    k_FMOST := ⟨_, f_Font_MOST, ⟨_, rfl⟩, s_Font_MOST, by decide +kernel⟩
    r_Font := ⟨_, ⟨rS_Font, gS_Font⟩, ⟨_, ⟨cv_Font_MOST, ⟨_, rfl⟩⟩⟩⟩
    y_ha := y_ha
    y_hm := y_hm
    y_own := kitS_of
    y_ni := nf_Font_int
    y_ns := nf_Font_str
    y_nl := nf_Font_list
    y_int := kitR_of ic_Font tc_Font s_int_Font rfl
    y_str := kitR_of ic_Font tc_Font s_str_Font rfl
    y_lst := kitR_of ic_Font tc_Font s_list_Font rfl
    kk_e := kk_of ic_BadScheme tc_BadScheme ic_BadColumn tc_BadColumn ic_BadSpots tc_BadSpots ic_TooMany tc_TooMany ic_BadFont tc_BadFont ic_BadLetter tc_BadLetter ic_BadGlyph tc_BadGlyph ic_DuplicateLetter tc_DuplicateLetter ic_UnknownLetter tc_UnknownLetter s_0_1 ne_0_1 s_0_2 ne_0_2 s_0_3 ne_0_3 s_0_4 ne_0_4 s_0_5 ne_0_5 s_0_6 ne_0_6 s_0_7 ne_0_7 s_0_8 ne_0_8 s_1_0 ne_1_0 s_1_2 ne_1_2 s_1_3 ne_1_3 s_1_4 ne_1_4 s_1_5 ne_1_5 s_1_6 ne_1_6 s_1_7 ne_1_7 s_1_8 ne_1_8 s_2_0 ne_2_0 s_2_1 ne_2_1 s_2_3 ne_2_3 s_2_4 ne_2_4 s_2_5 ne_2_5 s_2_6 ne_2_6 s_2_7 ne_2_7 s_2_8 ne_2_8 s_3_0 ne_3_0 s_3_1 ne_3_1 s_3_2 ne_3_2 s_3_4 ne_3_4 s_3_5 ne_3_5 s_3_6 ne_3_6 s_3_7 ne_3_7 s_3_8 ne_3_8 s_4_0 ne_4_0 s_4_1 ne_4_1 s_4_2 ne_4_2 s_4_3 ne_4_3 s_4_5 ne_4_5 s_4_6 ne_4_6 s_4_7 ne_4_7 s_4_8 ne_4_8 s_5_0 ne_5_0 s_5_1 ne_5_1 s_5_2 ne_5_2 s_5_3 ne_5_3 s_5_4 ne_5_4 s_5_6 ne_5_6 s_5_7 ne_5_7 s_5_8 ne_5_8 s_6_0 ne_6_0 s_6_1 ne_6_1 s_6_2 ne_6_2 s_6_3 ne_6_3 s_6_4 ne_6_4 s_6_5 ne_6_5 s_6_7 ne_6_7 s_6_8 ne_6_8 s_7_0 ne_7_0 s_7_1 ne_7_1 s_7_2 ne_7_2 s_7_3 ne_7_3 s_7_4 ne_7_4 s_7_5 ne_7_5 s_7_6 ne_7_6 s_7_8 ne_7_8 s_8_0 ne_8_0 s_8_1 ne_8_1 s_8_2 ne_8_2 s_8_3 ne_8_3 s_8_4 ne_8_4 s_8_5 ne_8_5 s_8_6 ne_8_6 s_8_7 ne_8_7
    kv_e := kv_of sv_0 sv_1 sv_2 sv_3 sv_4 sv_5 sv_6 sv_7 sv_8
    xm_e := xm_of sB_GalloonError ic_GalloonError tc_GalloonError sg_0 sg_1 sg_2 sg_3 sg_4 sg_5 sg_6 sg_7 sg_8
    kg_e := kg_of ic_GalloonError tc_GalloonError sg_0 sg_1 sg_2 sg_3 sg_4 sg_5 sg_6 sg_7 sg_8 ne_g_0 ne_g_1 ne_g_2 ne_g_3 ne_g_4 ne_g_5 ne_g_6 ne_g_7 ne_g_8
    xo_e := xo_of sB_BadScheme ic_BadScheme tc_BadScheme sB_BadColumn ic_BadColumn tc_BadColumn sB_BadSpots ic_BadSpots tc_BadSpots sB_TooMany ic_TooMany tc_TooMany sB_BadFont ic_BadFont tc_BadFont sB_BadLetter ic_BadLetter tc_BadLetter sB_BadGlyph ic_BadGlyph tc_BadGlyph sB_DuplicateLetter ic_DuplicateLetter tc_DuplicateLetter sB_UnknownLetter ic_UnknownLetter tc_UnknownLetter ss_0 s_0_1 s_0_2 s_0_3 s_0_4 s_0_5 s_0_6 s_0_7 s_0_8 s_1_0 ss_1 s_1_2 s_1_3 s_1_4 s_1_5 s_1_6 s_1_7 s_1_8 s_2_0 s_2_1 ss_2 s_2_3 s_2_4 s_2_5 s_2_6 s_2_7 s_2_8 s_3_0 s_3_1 s_3_2 ss_3 s_3_4 s_3_5 s_3_6 s_3_7 s_3_8 s_4_0 s_4_1 s_4_2 s_4_3 ss_4 s_4_5 s_4_6 s_4_7 s_4_8 s_5_0 s_5_1 s_5_2 s_5_3 s_5_4 ss_5 s_5_6 s_5_7 s_5_8 s_6_0 s_6_1 s_6_2 s_6_3 s_6_4 s_6_5 ss_6 s_6_7 s_6_8 s_7_0 s_7_1 s_7_2 s_7_3 s_7_4 s_7_5 s_7_6 ss_7 s_7_8 s_8_0 s_8_1 s_8_2 s_8_3 s_8_4 s_8_5 s_8_6 s_8_7 ss_8 }
end K32

end
section
set_option Elab.async false
set_option linter.all false
set_option maxRecDepth 100000
set_option maxHeartbeats 4000000
namespace K32.HF
open PySem PySem.Spec PyProof.Rows L2 Kit He Hd
def v_CGalloonError (K : PySem.W.Frag) : Addr := ga K "GalloonError"
def v_CBadScheme (K : PySem.W.Frag) : Addr := ga K "BadScheme"
def v_CBadColumn (K : PySem.W.Frag) : Addr := ga K "BadColumn"
def v_CBadSpots (K : PySem.W.Frag) : Addr := ga K "BadSpots"
def v_CTooMany (K : PySem.W.Frag) : Addr := ga K "TooMany"
def v_CBadFont (K : PySem.W.Frag) : Addr := ga K "BadFont"
def v_CBadLetter (K : PySem.W.Frag) : Addr := ga K "BadLetter"
def v_CBadGlyph (K : PySem.W.Frag) : Addr := ga K "BadGlyph"
def v_CDuplicateLetter (K : PySem.W.Frag) : Addr := ga K "DuplicateLetter"
def v_CUnknownLetter (K : PySem.W.Frag) : Addr := ga K "UnknownLetter"
def v_CScheme (K : PySem.W.Frag) : Addr := ga K "Scheme"
def v_CFont (K : PySem.W.Frag) : Addr := ga K "Font"
def v_tk_DIGITS (K : PySem.W.Frag) : Nat := tgO (PySem.W.nsIn K mainGlobals "DIGITS")
def v_tk_LETTERS (K : PySem.W.Frag) : Nat := tgO (PySem.W.nsIn K mainGlobals "LETTERS")
def v_tk_ALPHABET (K : PySem.W.Frag) : Nat := tgO (PySem.W.nsIn K mainGlobals "ALPHABET")
def v_tk_MOST_GAP (K : PySem.W.Frag) : Nat := tgO (PySem.W.nsIn K mainGlobals "MOST_GAP")
def v_tk_MOST_GLYPH (K : PySem.W.Frag) : Nat := tgO (PySem.W.nsIn K mainGlobals "MOST_GLYPH")
def v_f1 (K : PySem.W.Frag) : Addr := ma K (v_CBadScheme K) "__init__"
def v_f2 (K : PySem.W.Frag) : Addr := ma K (v_CBadColumn K) "__init__"
def v_f3 (K : PySem.W.Frag) : Addr := ma K (v_CBadSpots K) "__init__"
def v_f4 (K : PySem.W.Frag) : Addr := ma K (v_CTooMany K) "__init__"
def v_f5 (K : PySem.W.Frag) : Addr := ma K (v_CBadFont K) "__init__"
def v_f6 (K : PySem.W.Frag) : Addr := ma K (v_CBadLetter K) "__init__"
def v_f7 (K : PySem.W.Frag) : Addr := ma K (v_CBadGlyph K) "__init__"
def v_f8 (K : PySem.W.Frag) : Addr := ma K (v_CDuplicateLetter K) "__init__"
def v_f9 (K : PySem.W.Frag) : Addr := ma K (v_CUnknownLetter K) "__init__"
def v_f10 (K : PySem.W.Frag) : Addr := ma K (v_CScheme K) "__init__"
def v_f11 (K : PySem.W.Frag) : Addr := ma K (v_CScheme K) "__eq__"
def v_f12 (K : PySem.W.Frag) : Addr := ma K (v_CScheme K) "is_strip"
def v_f13 (K : PySem.W.Frag) : Addr := ma K (v_CFont K) "__init__"
def v_p14 (K : PySem.W.Frag) : Addr := cmP K (v_CFont K) "read"
def v_f14 (K : PySem.W.Frag) : Addr := cmF K (v_p14 K)
def v_rs14 (K : PySem.W.Frag) : List Value := cmR K (v_p14 K)
def v_f15 (K : PySem.W.Frag) : Addr := ma K (v_CFont K) "__getitem__"
def v_f16 (K : PySem.W.Frag) : Addr := ma K (v_CFont K) "__contains__"
def v_f17 (K : PySem.W.Frag) : Addr := ma K (v_CFont K) "__len__"
def v_f18 (K : PySem.W.Frag) : Addr := ma K (v_CFont K) "__eq__"
def v_f19 (K : PySem.W.Frag) : Addr := ma K (v_CFont K) "__str__"
def v_f20 (K : PySem.W.Frag) : Addr := ma K (v_CFont K) "printed"
def v_f21 (K : PySem.W.Frag) : Addr := ga K "check_gap"
def v_f22 (K : PySem.W.Frag) : Addr := ga K "is_letter"
def v_f23 (K : PySem.W.Frag) : Addr := ga K "_law_purse"
def v_f24 (K : PySem.W.Frag) : Addr := ga K "_law_draw"
def v_f25 (K : PySem.W.Frag) : Addr := ga K "_law_kind"
def v_f26 (K : PySem.W.Frag) : Addr := ga K "_law_word"
def v_f27 (K : PySem.W.Frag) : Addr := ga K "_law_fresh"
def v_f28 (K : PySem.W.Frag) : Addr := ga K "_law_is_word"
def v_f29 (K : PySem.W.Frag) : Addr := ga K "_law_odd_word"
def v_f30 (K : PySem.W.Frag) : Addr := ga K "_law_pairs"
def v_f31 (K : PySem.W.Frag) : Addr := ga K "_law_due"
def v_f32 (K : PySem.W.Frag) : Addr := ga K "_law_line"
def v_f33 (K : PySem.W.Frag) : Addr := ga K "_law_parts"
def v_f34 (K : PySem.W.Frag) : Addr := ga K "_law_told"
def v_f35 (K : PySem.W.Frag) : Addr := ga K "_law_made"
def v_f36 (K : PySem.W.Frag) : Addr := ga K "_law_read"
def v_f37 (K : PySem.W.Frag) : Addr := ga K "_law_glyph"
def v_f38 (K : PySem.W.Frag) : Addr := ga K "_law_print"
def v_f39 (K : PySem.W.Frag) : Addr := ga K "_law_shuffled"
def v_f40 (K : PySem.W.Frag) : Addr := ga K "_law_fields"
def v_f41 (K : PySem.W.Frag) : Addr := ga K "_law_members"
def v_f42 (K : PySem.W.Frag) : Addr := ga K "_law_prints"
def v_f43 (K : PySem.W.Frag) : Addr := ga K "_law_unlike"
def v_f44 (K : PySem.W.Frag) : Addr := ga K "_law_good"
def v_f45 (K : PySem.W.Frag) : Addr := ga K "_law_bent"
def v_f46 (K : PySem.W.Frag) : Addr := ga K "law"
def v_t_Scheme_MOST (K : PySem.W.Frag) : Nat := tgO (PySem.W.findIn K (.ref (v_CScheme K)) "MOST")
def v_t_Scheme_BLANK (K : PySem.W.Frag) : Nat := tgO (PySem.W.findIn K (.ref (v_CScheme K)) "BLANK")
def v_t_Font_MOST (K : PySem.W.Frag) : Nat := tgO (PySem.W.findIn K (.ref (v_CFont K)) "MOST")
def v_tc_Font_MOST (K : PySem.W.Frag) : Nat := tgO ((cfV (PySem.W.findCls K (.ref (v_CFont K)) (.type "type") "MOST")).map some)
def s_f1 : FnS := ⟨v_f1, "__init__", "BadScheme.__init__", defArgs s_BadScheme___init__, defBody s_BadScheme___init__, defScope s_BadScheme___init__⟩
def s_f2 : FnS := ⟨v_f2, "__init__", "BadColumn.__init__", defArgs s_BadColumn___init__, defBody s_BadColumn___init__, defScope s_BadColumn___init__⟩
def s_f3 : FnS := ⟨v_f3, "__init__", "BadSpots.__init__", defArgs s_BadSpots___init__, defBody s_BadSpots___init__, defScope s_BadSpots___init__⟩
def s_f4 : FnS := ⟨v_f4, "__init__", "TooMany.__init__", defArgs s_TooMany___init__, defBody s_TooMany___init__, defScope s_TooMany___init__⟩
def s_f5 : FnS := ⟨v_f5, "__init__", "BadFont.__init__", defArgs s_BadFont___init__, defBody s_BadFont___init__, defScope s_BadFont___init__⟩
def s_f6 : FnS := ⟨v_f6, "__init__", "BadLetter.__init__", defArgs s_BadLetter___init__, defBody s_BadLetter___init__, defScope s_BadLetter___init__⟩
def s_f7 : FnS := ⟨v_f7, "__init__", "BadGlyph.__init__", defArgs s_BadGlyph___init__, defBody s_BadGlyph___init__, defScope s_BadGlyph___init__⟩
def s_f8 : FnS := ⟨v_f8, "__init__", "DuplicateLetter.__init__", defArgs s_DuplicateLetter___init__, defBody s_DuplicateLetter___init__, defScope s_DuplicateLetter___init__⟩
def s_f9 : FnS := ⟨v_f9, "__init__", "UnknownLetter.__init__", defArgs s_UnknownLetter___init__, defBody s_UnknownLetter___init__, defScope s_UnknownLetter___init__⟩
def s_f10 : FnS := ⟨v_f10, "__init__", "Scheme.__init__", defArgs s_Scheme___init__, defBody s_Scheme___init__, defScope s_Scheme___init__⟩
def s_f11 : FnS := ⟨v_f11, "__eq__", "Scheme.__eq__", defArgs s_Scheme___eq__, defBody s_Scheme___eq__, defScope s_Scheme___eq__⟩
def s_f12 : FnS := ⟨v_f12, "is_strip", "Scheme.is_strip", defArgs s_Scheme_is_strip, defBody s_Scheme_is_strip, defScope s_Scheme_is_strip⟩
def s_f13 : FnS := ⟨v_f13, "__init__", "Font.__init__", defArgs s_Font___init__, defBody s_Font___init__, defScope s_Font___init__⟩
def s_f14 : FnS := ⟨v_f14, "read", "Font.read", defArgs s_Font_read, defBody s_Font_read, defScope s_Font_read⟩
def s_f15 : FnS := ⟨v_f15, "__getitem__", "Font.__getitem__", defArgs s_Font___getitem__, defBody s_Font___getitem__, defScope s_Font___getitem__⟩
def s_f16 : FnS := ⟨v_f16, "__contains__", "Font.__contains__", defArgs s_Font___contains__, defBody s_Font___contains__, defScope s_Font___contains__⟩
def s_f17 : FnS := ⟨v_f17, "__len__", "Font.__len__", defArgs s_Font___len__, defBody s_Font___len__, defScope s_Font___len__⟩
def s_f18 : FnS := ⟨v_f18, "__eq__", "Font.__eq__", defArgs s_Font___eq__, defBody s_Font___eq__, defScope s_Font___eq__⟩
def s_f19 : FnS := ⟨v_f19, "__str__", "Font.__str__", defArgs s_Font___str__, defBody s_Font___str__, defScope s_Font___str__⟩
def s_f20 : FnS := ⟨v_f20, "printed", "Font.printed", defArgs s_Font_printed, defBody s_Font_printed, defScope s_Font_printed⟩
def s_f21 : FnS := ⟨v_f21, "check_gap", "check_gap", defArgs s_check_gap, defBody s_check_gap, defScope s_check_gap⟩
def s_f22 : FnS := ⟨v_f22, "is_letter", "is_letter", defArgs s_is_letter, defBody s_is_letter, defScope s_is_letter⟩
def s_f23 : FnS := ⟨v_f23, "_law_purse", "_law_purse", defArgs s_law_purse, defBody s_law_purse, defScope s_law_purse⟩
def s_f24 : FnS := ⟨v_f24, "_law_draw", "_law_draw", defArgs s_law_draw, defBody s_law_draw, defScope s_law_draw⟩
def s_f25 : FnS := ⟨v_f25, "_law_kind", "_law_kind", defArgs s_law_kind, defBody s_law_kind, defScope s_law_kind⟩
def s_f26 : FnS := ⟨v_f26, "_law_word", "_law_word", defArgs s_law_word, defBody s_law_word, defScope s_law_word⟩
def s_f27 : FnS := ⟨v_f27, "_law_fresh", "_law_fresh", defArgs s_law_fresh, defBody s_law_fresh, defScope s_law_fresh⟩
def s_f28 : FnS := ⟨v_f28, "_law_is_word", "_law_is_word", defArgs s_law_is_word, defBody s_law_is_word, defScope s_law_is_word⟩
def s_f29 : FnS := ⟨v_f29, "_law_odd_word", "_law_odd_word", defArgs s_law_odd_word, defBody s_law_odd_word, defScope s_law_odd_word⟩
def s_f30 : FnS := ⟨v_f30, "_law_pairs", "_law_pairs", defArgs s_law_pairs, defBody s_law_pairs, defScope s_law_pairs⟩
def s_f31 : FnS := ⟨v_f31, "_law_due", "_law_due", defArgs s_law_due, defBody s_law_due, defScope s_law_due⟩
def s_f32 : FnS := ⟨v_f32, "_law_line", "_law_line", defArgs s_law_line, defBody s_law_line, defScope s_law_line⟩
def s_f33 : FnS := ⟨v_f33, "_law_parts", "_law_parts", defArgs s_law_parts, defBody s_law_parts, defScope s_law_parts⟩
def s_f34 : FnS := ⟨v_f34, "_law_told", "_law_told", defArgs s_law_told, defBody s_law_told, defScope s_law_told⟩
def s_f35 : FnS := ⟨v_f35, "_law_made", "_law_made", defArgs s_law_made, defBody s_law_made, defScope s_law_made⟩
def s_f36 : FnS := ⟨v_f36, "_law_read", "_law_read", defArgs s_law_read, defBody s_law_read, defScope s_law_read⟩
def s_f37 : FnS := ⟨v_f37, "_law_glyph", "_law_glyph", defArgs s_law_glyph, defBody s_law_glyph, defScope s_law_glyph⟩
def s_f38 : FnS := ⟨v_f38, "_law_print", "_law_print", defArgs s_law_print, defBody s_law_print, defScope s_law_print⟩
def s_f39 : FnS := ⟨v_f39, "_law_shuffled", "_law_shuffled", defArgs s_law_shuffled, defBody s_law_shuffled, defScope s_law_shuffled⟩
def s_f40 : FnS := ⟨v_f40, "_law_fields", "_law_fields", defArgs s_law_fields, defBody s_law_fields, defScope s_law_fields⟩
def s_f41 : FnS := ⟨v_f41, "_law_members", "_law_members", defArgs s_law_members, defBody s_law_members, defScope s_law_members⟩
def s_f42 : FnS := ⟨v_f42, "_law_prints", "_law_prints", defArgs s_law_prints, defBody s_law_prints, defScope s_law_prints⟩
def s_f43 : FnS := ⟨v_f43, "_law_unlike", "_law_unlike", defArgs s_law_unlike, defBody s_law_unlike, defScope s_law_unlike⟩
def s_f44 : FnS := ⟨v_f44, "_law_good", "_law_good", defArgs s_law_good, defBody s_law_good, defScope s_law_good⟩
def s_f45 : FnS := ⟨v_f45, "_law_bent", "_law_bent", defArgs s_law_bent, defBody s_law_bent, defScope s_law_bent⟩
def s_f46 : FnS := ⟨v_f46, "law", "law", defArgs s_law, defBody s_law, defScope s_law⟩
def fns0 : List FnS := [s_f1, s_f2, s_f3, s_f4, s_f5, s_f6, s_f7, s_f8, s_f9, s_f10, s_f11, s_f12, s_f13, s_f14, s_f15, s_f16]
def fns1 : List FnS := [s_f17, s_f18, s_f19, s_f20, s_f21, s_f22, s_f23, s_f24, s_f25, s_f26, s_f27, s_f28, s_f29, s_f30, s_f31, s_f32]
def fns2 : List FnS := [s_f33, s_f34, s_f35, s_f36, s_f37, s_f38, s_f39, s_f40, s_f41, s_f42, s_f43, s_f44, s_f45, s_f46]
def fns : List FnS := fns0 ++ (fns1 ++ (fns2))
theorem m_f1 : s_f1 ∈ fns := by
  have h : s_f1 ∈ fns0 := List.mem_of_getElem? (i := 0) rfl
  exact List.mem_append_left _ h
theorem m_f2 : s_f2 ∈ fns := by
  have h : s_f2 ∈ fns0 := List.mem_of_getElem? (i := 1) rfl
  exact List.mem_append_left _ h
theorem m_f3 : s_f3 ∈ fns := by
  have h : s_f3 ∈ fns0 := List.mem_of_getElem? (i := 2) rfl
  exact List.mem_append_left _ h
theorem m_f4 : s_f4 ∈ fns := by
  have h : s_f4 ∈ fns0 := List.mem_of_getElem? (i := 3) rfl
  exact List.mem_append_left _ h
theorem m_f5 : s_f5 ∈ fns := by
  have h : s_f5 ∈ fns0 := List.mem_of_getElem? (i := 4) rfl
  exact List.mem_append_left _ h
theorem m_f6 : s_f6 ∈ fns := by
  have h : s_f6 ∈ fns0 := List.mem_of_getElem? (i := 5) rfl
  exact List.mem_append_left _ h
theorem m_f7 : s_f7 ∈ fns := by
  have h : s_f7 ∈ fns0 := List.mem_of_getElem? (i := 6) rfl
  exact List.mem_append_left _ h
theorem m_f8 : s_f8 ∈ fns := by
  have h : s_f8 ∈ fns0 := List.mem_of_getElem? (i := 7) rfl
  exact List.mem_append_left _ h
theorem m_f9 : s_f9 ∈ fns := by
  have h : s_f9 ∈ fns0 := List.mem_of_getElem? (i := 8) rfl
  exact List.mem_append_left _ h
theorem m_f10 : s_f10 ∈ fns := by
  have h : s_f10 ∈ fns0 := List.mem_of_getElem? (i := 9) rfl
  exact List.mem_append_left _ h
theorem m_f11 : s_f11 ∈ fns := by
  have h : s_f11 ∈ fns0 := List.mem_of_getElem? (i := 10) rfl
  exact List.mem_append_left _ h
theorem m_f12 : s_f12 ∈ fns := by
  have h : s_f12 ∈ fns0 := List.mem_of_getElem? (i := 11) rfl
  exact List.mem_append_left _ h
theorem m_f13 : s_f13 ∈ fns := by
  have h : s_f13 ∈ fns0 := List.mem_of_getElem? (i := 12) rfl
  exact List.mem_append_left _ h
theorem m_f14 : s_f14 ∈ fns := by
  have h : s_f14 ∈ fns0 := List.mem_of_getElem? (i := 13) rfl
  exact List.mem_append_left _ h
theorem m_f15 : s_f15 ∈ fns := by
  have h : s_f15 ∈ fns0 := List.mem_of_getElem? (i := 14) rfl
  exact List.mem_append_left _ h
theorem m_f16 : s_f16 ∈ fns := by
  have h : s_f16 ∈ fns0 := List.mem_of_getElem? (i := 15) rfl
  exact List.mem_append_left _ h
theorem m_f17 : s_f17 ∈ fns := by
  have h : s_f17 ∈ fns1 := List.mem_of_getElem? (i := 0) rfl
  exact List.mem_append_right _ (List.mem_append_left _ h)
theorem m_f18 : s_f18 ∈ fns := by
  have h : s_f18 ∈ fns1 := List.mem_of_getElem? (i := 1) rfl
  exact List.mem_append_right _ (List.mem_append_left _ h)
theorem m_f19 : s_f19 ∈ fns := by
  have h : s_f19 ∈ fns1 := List.mem_of_getElem? (i := 2) rfl
  exact List.mem_append_right _ (List.mem_append_left _ h)
theorem m_f20 : s_f20 ∈ fns := by
  have h : s_f20 ∈ fns1 := List.mem_of_getElem? (i := 3) rfl
  exact List.mem_append_right _ (List.mem_append_left _ h)
theorem m_f21 : s_f21 ∈ fns := by
  have h : s_f21 ∈ fns1 := List.mem_of_getElem? (i := 4) rfl
  exact List.mem_append_right _ (List.mem_append_left _ h)
theorem m_f22 : s_f22 ∈ fns := by
  have h : s_f22 ∈ fns1 := List.mem_of_getElem? (i := 5) rfl
  exact List.mem_append_right _ (List.mem_append_left _ h)
theorem m_f23 : s_f23 ∈ fns := by
  have h : s_f23 ∈ fns1 := List.mem_of_getElem? (i := 6) rfl
  exact List.mem_append_right _ (List.mem_append_left _ h)
theorem m_f24 : s_f24 ∈ fns := by
  have h : s_f24 ∈ fns1 := List.mem_of_getElem? (i := 7) rfl
  exact List.mem_append_right _ (List.mem_append_left _ h)
theorem m_f25 : s_f25 ∈ fns := by
  have h : s_f25 ∈ fns1 := List.mem_of_getElem? (i := 8) rfl
  exact List.mem_append_right _ (List.mem_append_left _ h)
theorem m_f26 : s_f26 ∈ fns := by
  have h : s_f26 ∈ fns1 := List.mem_of_getElem? (i := 9) rfl
  exact List.mem_append_right _ (List.mem_append_left _ h)
theorem m_f27 : s_f27 ∈ fns := by
  have h : s_f27 ∈ fns1 := List.mem_of_getElem? (i := 10) rfl
  exact List.mem_append_right _ (List.mem_append_left _ h)
theorem m_f28 : s_f28 ∈ fns := by
  have h : s_f28 ∈ fns1 := List.mem_of_getElem? (i := 11) rfl
  exact List.mem_append_right _ (List.mem_append_left _ h)
theorem m_f29 : s_f29 ∈ fns := by
  have h : s_f29 ∈ fns1 := List.mem_of_getElem? (i := 12) rfl
  exact List.mem_append_right _ (List.mem_append_left _ h)
theorem m_f30 : s_f30 ∈ fns := by
  have h : s_f30 ∈ fns1 := List.mem_of_getElem? (i := 13) rfl
  exact List.mem_append_right _ (List.mem_append_left _ h)
theorem m_f31 : s_f31 ∈ fns := by
  have h : s_f31 ∈ fns1 := List.mem_of_getElem? (i := 14) rfl
  exact List.mem_append_right _ (List.mem_append_left _ h)
theorem m_f32 : s_f32 ∈ fns := by
  have h : s_f32 ∈ fns1 := List.mem_of_getElem? (i := 15) rfl
  exact List.mem_append_right _ (List.mem_append_left _ h)
theorem m_f33 : s_f33 ∈ fns := by
  have h : s_f33 ∈ fns2 := List.mem_of_getElem? (i := 0) rfl
  exact List.mem_append_right _ (List.mem_append_right _ (h))
theorem m_f34 : s_f34 ∈ fns := by
  have h : s_f34 ∈ fns2 := List.mem_of_getElem? (i := 1) rfl
  exact List.mem_append_right _ (List.mem_append_right _ (h))
theorem m_f35 : s_f35 ∈ fns := by
  have h : s_f35 ∈ fns2 := List.mem_of_getElem? (i := 2) rfl
  exact List.mem_append_right _ (List.mem_append_right _ (h))
theorem m_f36 : s_f36 ∈ fns := by
  have h : s_f36 ∈ fns2 := List.mem_of_getElem? (i := 3) rfl
  exact List.mem_append_right _ (List.mem_append_right _ (h))
theorem m_f37 : s_f37 ∈ fns := by
  have h : s_f37 ∈ fns2 := List.mem_of_getElem? (i := 4) rfl
  exact List.mem_append_right _ (List.mem_append_right _ (h))
theorem m_f38 : s_f38 ∈ fns := by
  have h : s_f38 ∈ fns2 := List.mem_of_getElem? (i := 5) rfl
  exact List.mem_append_right _ (List.mem_append_right _ (h))
theorem m_f39 : s_f39 ∈ fns := by
  have h : s_f39 ∈ fns2 := List.mem_of_getElem? (i := 6) rfl
  exact List.mem_append_right _ (List.mem_append_right _ (h))
theorem m_f40 : s_f40 ∈ fns := by
  have h : s_f40 ∈ fns2 := List.mem_of_getElem? (i := 7) rfl
  exact List.mem_append_right _ (List.mem_append_right _ (h))
theorem m_f41 : s_f41 ∈ fns := by
  have h : s_f41 ∈ fns2 := List.mem_of_getElem? (i := 8) rfl
  exact List.mem_append_right _ (List.mem_append_right _ (h))
theorem m_f42 : s_f42 ∈ fns := by
  have h : s_f42 ∈ fns2 := List.mem_of_getElem? (i := 9) rfl
  exact List.mem_append_right _ (List.mem_append_right _ (h))
theorem m_f43 : s_f43 ∈ fns := by
  have h : s_f43 ∈ fns2 := List.mem_of_getElem? (i := 10) rfl
  exact List.mem_append_right _ (List.mem_append_right _ (h))
theorem m_f44 : s_f44 ∈ fns := by
  have h : s_f44 ∈ fns2 := List.mem_of_getElem? (i := 11) rfl
  exact List.mem_append_right _ (List.mem_append_right _ (h))
theorem m_f45 : s_f45 ∈ fns := by
  have h : s_f45 ∈ fns2 := List.mem_of_getElem? (i := 12) rfl
  exact List.mem_append_right _ (List.mem_append_right _ (h))
theorem m_f46 : s_f46 ∈ fns := by
  have h : s_f46 ∈ fns2 := List.mem_of_getElem? (i := 13) rfl
  exact List.mem_append_right _ (List.mem_append_right _ (h))
def F0 (K : PySem.W.Frag) : Prop := (PySem.W.nsIn K mainGlobals "GalloonError" = some (some (.ref (v_CGalloonError K)))) ∧
  (PySem.W.nsIn K mainGlobals "BadScheme" = some (some (.ref (v_CBadScheme K)))) ∧
  (PySem.W.nsIn K mainGlobals "BadColumn" = some (some (.ref (v_CBadColumn K)))) ∧
  (PySem.W.nsIn K mainGlobals "BadSpots" = some (some (.ref (v_CBadSpots K)))) ∧
  (PySem.W.nsIn K mainGlobals "TooMany" = some (some (.ref (v_CTooMany K)))) ∧
  (PySem.W.nsIn K mainGlobals "BadFont" = some (some (.ref (v_CBadFont K)))) ∧
  (PySem.W.nsIn K mainGlobals "BadLetter" = some (some (.ref (v_CBadLetter K)))) ∧
  (PySem.W.nsIn K mainGlobals "BadGlyph" = some (some (.ref (v_CBadGlyph K)))) ∧
  (PySem.W.nsIn K mainGlobals "DuplicateLetter" = some (some (.ref (v_CDuplicateLetter K)))) ∧
  (PySem.W.nsIn K mainGlobals "UnknownLetter" = some (some (.ref (v_CUnknownLetter K)))) ∧
  (PySem.W.nsIn K mainGlobals "Scheme" = some (some (.ref (v_CScheme K)))) ∧
  (PySem.W.nsIn K mainGlobals "Font" = some (some (.ref (v_CFont K))))
instance (K : PySem.W.Frag) : Decidable (F0 K) := by unfold F0; infer_instance
def F1 (K : PySem.W.Frag) : Prop := (PySem.W.nsIn K mainGlobals "ValueError" = some none) ∧
  (PySem.W.nsIn K mainGlobals "all" = some none) ∧
  (PySem.W.nsIn K mainGlobals "classmethod" = some none) ∧
  (PySem.W.nsIn K mainGlobals "enumerate" = some none) ∧
  (PySem.W.nsIn K mainGlobals "int" = some none) ∧
  (PySem.W.nsIn K mainGlobals "isinstance" = some none) ∧
  (PySem.W.nsIn K mainGlobals "len" = some none) ∧
  (PySem.W.nsIn K mainGlobals "list" = some none) ∧
  (PySem.W.nsIn K mainGlobals "range" = some none) ∧
  (PySem.W.nsIn K mainGlobals "sorted" = some none) ∧
  (PySem.W.nsIn K mainGlobals "str" = some none) ∧
  (PySem.W.nsIn K mainGlobals "tuple" = some none)
instance (K : PySem.W.Frag) : Decidable (F1 K) := by unfold F1; infer_instance
def F2 (K : PySem.W.Frag) : Prop := (PySem.W.nsIn K mainGlobals "DIGITS" = some (some (.str "012" (v_tk_DIGITS K)))) ∧
  (PySem.W.nsIn K mainGlobals "LETTERS" = some (some (.str "abcdefghi" (v_tk_LETTERS K)))) ∧
  (PySem.W.nsIn K mainGlobals "ALPHABET" = some (some (.str "ABCDEFGHIJKLMNOPQRSTUVWXYZ" (v_tk_ALPHABET K)))) ∧
  (PySem.W.nsIn K mainGlobals "MOST_GAP" = some (some (.int 3 (v_tk_MOST_GAP K)))) ∧
  (PySem.W.nsIn K mainGlobals "MOST_GLYPH" = some (some (.int 4 (v_tk_MOST_GLYPH K)))) ∧
  (PySem.W.subIn K (.ref (v_CGalloonError K)) (.type "BaseException") = some true) ∧
  (PySem.W.isClsIn K (v_CGalloonError K) = true) ∧
  (PySem.W.typeIn K (.ref (v_CGalloonError K)) = some (.type "type")) ∧
  (PySem.W.subIn K (.ref (v_CBadScheme K)) (.type "BaseException") = some true) ∧
  (PySem.W.isClsIn K (v_CBadScheme K) = true) ∧
  (PySem.W.typeIn K (.ref (v_CBadScheme K)) = some (.type "type")) ∧
  (PySem.W.subIn K (.ref (v_CBadColumn K)) (.type "BaseException") = some true)
instance (K : PySem.W.Frag) : Decidable (F2 K) := by unfold F2; infer_instance
def F3 (K : PySem.W.Frag) : Prop := (PySem.W.isClsIn K (v_CBadColumn K) = true) ∧
  (PySem.W.typeIn K (.ref (v_CBadColumn K)) = some (.type "type")) ∧
  (PySem.W.subIn K (.ref (v_CBadSpots K)) (.type "BaseException") = some true) ∧
  (PySem.W.isClsIn K (v_CBadSpots K) = true) ∧
  (PySem.W.typeIn K (.ref (v_CBadSpots K)) = some (.type "type")) ∧
  (PySem.W.subIn K (.ref (v_CTooMany K)) (.type "BaseException") = some true) ∧
  (PySem.W.isClsIn K (v_CTooMany K) = true) ∧
  (PySem.W.typeIn K (.ref (v_CTooMany K)) = some (.type "type")) ∧
  (PySem.W.subIn K (.ref (v_CBadFont K)) (.type "BaseException") = some true) ∧
  (PySem.W.isClsIn K (v_CBadFont K) = true) ∧
  (PySem.W.typeIn K (.ref (v_CBadFont K)) = some (.type "type")) ∧
  (PySem.W.subIn K (.ref (v_CBadLetter K)) (.type "BaseException") = some true)
instance (K : PySem.W.Frag) : Decidable (F3 K) := by unfold F3; infer_instance
def F4 (K : PySem.W.Frag) : Prop := (PySem.W.isClsIn K (v_CBadLetter K) = true) ∧
  (PySem.W.typeIn K (.ref (v_CBadLetter K)) = some (.type "type")) ∧
  (PySem.W.subIn K (.ref (v_CBadGlyph K)) (.type "BaseException") = some true) ∧
  (PySem.W.isClsIn K (v_CBadGlyph K) = true) ∧
  (PySem.W.typeIn K (.ref (v_CBadGlyph K)) = some (.type "type")) ∧
  (PySem.W.subIn K (.ref (v_CDuplicateLetter K)) (.type "BaseException") = some true) ∧
  (PySem.W.isClsIn K (v_CDuplicateLetter K) = true) ∧
  (PySem.W.typeIn K (.ref (v_CDuplicateLetter K)) = some (.type "type")) ∧
  (PySem.W.subIn K (.ref (v_CUnknownLetter K)) (.type "BaseException") = some true) ∧
  (PySem.W.isClsIn K (v_CUnknownLetter K) = true) ∧
  (PySem.W.typeIn K (.ref (v_CUnknownLetter K)) = some (.type "type")) ∧
  (PySem.W.isClsIn K (v_CScheme K) = true)
instance (K : PySem.W.Frag) : Decidable (F4 K) := by unfold F4; infer_instance
def F5 (K : PySem.W.Frag) : Prop := (PySem.W.typeIn K (.ref (v_CScheme K)) = some (.type "type")) ∧
  (PySem.W.isClsIn K (v_CFont K) = true) ∧
  (PySem.W.typeIn K (.ref (v_CFont K)) = some (.type "type")) ∧
  (PySem.W.findIn K (.ref (v_CBadScheme K)) "__setattr__" = some (some (.builtin "object.__setattr__"))) ∧
  (PySem.W.keepIn K (.ref (v_CBadScheme K)) = true) ∧
  (PySem.W.findIn K (.ref (v_CBadScheme K)) "part" = some none) ∧
  (PySem.W.findIn K (.ref (v_CBadScheme K)) "__init__" = some (some (.ref (v_f1 K)))) ∧
  (PySem.W.typeIn K (.ref (v_f1 K)) = some (.type "function")) ∧
  (PySem.W.keepIn K (.ref (v_f1 K)) = true) ∧
  (PySem.W.findIn K (.ref (v_CBadScheme K)) "__getattribute__" = some (some (.builtin "BaseException.__getattribute__"))) ∧
  (PySem.W.findIn K (.ref (v_CBadScheme K)) "__getattr__" = some none) ∧
  (PySem.W.hasDictIn K (v_CBadScheme K) = true)
instance (K : PySem.W.Frag) : Decidable (F5 K) := by unfold F5; infer_instance
def F6 (K : PySem.W.Frag) : Prop := (PySem.W.findIn K (.ref (v_CBadScheme K)) "__class__" = some (some (.builtin "object.__class__"))) ∧
  (PySem.W.mroIn K (v_CBadScheme K) (.type "object") = some true) ∧
  (PySem.W.findIn K (.ref (v_CBadColumn K)) "__setattr__" = some (some (.builtin "object.__setattr__"))) ∧
  (PySem.W.keepIn K (.ref (v_CBadColumn K)) = true) ∧
  (PySem.W.findIn K (.ref (v_CBadColumn K)) "text" = some none) ∧
  (PySem.W.findIn K (.ref (v_CBadColumn K)) "__init__" = some (some (.ref (v_f2 K)))) ∧
  (PySem.W.typeIn K (.ref (v_f2 K)) = some (.type "function")) ∧
  (PySem.W.keepIn K (.ref (v_f2 K)) = true) ∧
  (PySem.W.findIn K (.ref (v_CBadColumn K)) "__getattribute__" = some (some (.builtin "BaseException.__getattribute__"))) ∧
  (PySem.W.findIn K (.ref (v_CBadColumn K)) "__getattr__" = some none) ∧
  (PySem.W.hasDictIn K (v_CBadColumn K) = true) ∧
  (PySem.W.findIn K (.ref (v_CBadColumn K)) "__class__" = some (some (.builtin "object.__class__")))
instance (K : PySem.W.Frag) : Decidable (F6 K) := by unfold F6; infer_instance
def F7 (K : PySem.W.Frag) : Prop := (PySem.W.mroIn K (v_CBadColumn K) (.type "object") = some true) ∧
  (PySem.W.findIn K (.ref (v_CBadSpots K)) "__setattr__" = some (some (.builtin "object.__setattr__"))) ∧
  (PySem.W.keepIn K (.ref (v_CBadSpots K)) = true) ∧
  (PySem.W.findIn K (.ref (v_CBadSpots K)) "text" = some none) ∧
  (PySem.W.findIn K (.ref (v_CBadSpots K)) "__init__" = some (some (.ref (v_f3 K)))) ∧
  (PySem.W.typeIn K (.ref (v_f3 K)) = some (.type "function")) ∧
  (PySem.W.keepIn K (.ref (v_f3 K)) = true) ∧
  (PySem.W.findIn K (.ref (v_CBadSpots K)) "__getattribute__" = some (some (.builtin "BaseException.__getattribute__"))) ∧
  (PySem.W.findIn K (.ref (v_CBadSpots K)) "__getattr__" = some none) ∧
  (PySem.W.hasDictIn K (v_CBadSpots K) = true) ∧
  (PySem.W.findIn K (.ref (v_CBadSpots K)) "__class__" = some (some (.builtin "object.__class__"))) ∧
  (PySem.W.mroIn K (v_CBadSpots K) (.type "object") = some true)
instance (K : PySem.W.Frag) : Decidable (F7 K) := by unfold F7; infer_instance
def F8 (K : PySem.W.Frag) : Prop := (PySem.W.findIn K (.ref (v_CTooMany K)) "__setattr__" = some (some (.builtin "object.__setattr__"))) ∧
  (PySem.W.keepIn K (.ref (v_CTooMany K)) = true) ∧
  (PySem.W.findIn K (.ref (v_CTooMany K)) "most" = some none) ∧
  (PySem.W.findIn K (.ref (v_CTooMany K)) "__init__" = some (some (.ref (v_f4 K)))) ∧
  (PySem.W.typeIn K (.ref (v_f4 K)) = some (.type "function")) ∧
  (PySem.W.keepIn K (.ref (v_f4 K)) = true) ∧
  (PySem.W.findIn K (.ref (v_CTooMany K)) "__getattribute__" = some (some (.builtin "BaseException.__getattribute__"))) ∧
  (PySem.W.findIn K (.ref (v_CTooMany K)) "__getattr__" = some none) ∧
  (PySem.W.hasDictIn K (v_CTooMany K) = true) ∧
  (PySem.W.findIn K (.ref (v_CTooMany K)) "__class__" = some (some (.builtin "object.__class__"))) ∧
  (PySem.W.mroIn K (v_CTooMany K) (.type "object") = some true) ∧
  (PySem.W.findIn K (.ref (v_CBadFont K)) "__setattr__" = some (some (.builtin "object.__setattr__")))
instance (K : PySem.W.Frag) : Decidable (F8 K) := by unfold F8; infer_instance
def F9 (K : PySem.W.Frag) : Prop := (PySem.W.keepIn K (.ref (v_CBadFont K)) = true) ∧
  (PySem.W.findIn K (.ref (v_CBadFont K)) "part" = some none) ∧
  (PySem.W.findIn K (.ref (v_CBadFont K)) "__init__" = some (some (.ref (v_f5 K)))) ∧
  (PySem.W.typeIn K (.ref (v_f5 K)) = some (.type "function")) ∧
  (PySem.W.keepIn K (.ref (v_f5 K)) = true) ∧
  (PySem.W.findIn K (.ref (v_CBadFont K)) "__getattribute__" = some (some (.builtin "BaseException.__getattribute__"))) ∧
  (PySem.W.findIn K (.ref (v_CBadFont K)) "__getattr__" = some none) ∧
  (PySem.W.hasDictIn K (v_CBadFont K) = true) ∧
  (PySem.W.findIn K (.ref (v_CBadFont K)) "__class__" = some (some (.builtin "object.__class__"))) ∧
  (PySem.W.mroIn K (v_CBadFont K) (.type "object") = some true) ∧
  (PySem.W.findIn K (.ref (v_CBadLetter K)) "__setattr__" = some (some (.builtin "object.__setattr__"))) ∧
  (PySem.W.keepIn K (.ref (v_CBadLetter K)) = true)
instance (K : PySem.W.Frag) : Decidable (F9 K) := by unfold F9; infer_instance
def F10 (K : PySem.W.Frag) : Prop := (PySem.W.findIn K (.ref (v_CBadLetter K)) "letter" = some none) ∧
  (PySem.W.findIn K (.ref (v_CBadLetter K)) "__init__" = some (some (.ref (v_f6 K)))) ∧
  (PySem.W.typeIn K (.ref (v_f6 K)) = some (.type "function")) ∧
  (PySem.W.keepIn K (.ref (v_f6 K)) = true) ∧
  (PySem.W.findIn K (.ref (v_CBadLetter K)) "__getattribute__" = some (some (.builtin "BaseException.__getattribute__"))) ∧
  (PySem.W.findIn K (.ref (v_CBadLetter K)) "__getattr__" = some none) ∧
  (PySem.W.hasDictIn K (v_CBadLetter K) = true) ∧
  (PySem.W.findIn K (.ref (v_CBadLetter K)) "__class__" = some (some (.builtin "object.__class__"))) ∧
  (PySem.W.mroIn K (v_CBadLetter K) (.type "object") = some true) ∧
  (PySem.W.findIn K (.ref (v_CBadGlyph K)) "__setattr__" = some (some (.builtin "object.__setattr__"))) ∧
  (PySem.W.keepIn K (.ref (v_CBadGlyph K)) = true) ∧
  (PySem.W.findIn K (.ref (v_CBadGlyph K)) "letter" = some none)
instance (K : PySem.W.Frag) : Decidable (F10 K) := by unfold F10; infer_instance
def F11 (K : PySem.W.Frag) : Prop := (PySem.W.findIn K (.ref (v_CBadGlyph K)) "__init__" = some (some (.ref (v_f7 K)))) ∧
  (PySem.W.typeIn K (.ref (v_f7 K)) = some (.type "function")) ∧
  (PySem.W.keepIn K (.ref (v_f7 K)) = true) ∧
  (PySem.W.findIn K (.ref (v_CBadGlyph K)) "__getattribute__" = some (some (.builtin "BaseException.__getattribute__"))) ∧
  (PySem.W.findIn K (.ref (v_CBadGlyph K)) "__getattr__" = some none) ∧
  (PySem.W.hasDictIn K (v_CBadGlyph K) = true) ∧
  (PySem.W.findIn K (.ref (v_CBadGlyph K)) "__class__" = some (some (.builtin "object.__class__"))) ∧
  (PySem.W.mroIn K (v_CBadGlyph K) (.type "object") = some true) ∧
  (PySem.W.findIn K (.ref (v_CDuplicateLetter K)) "__setattr__" = some (some (.builtin "object.__setattr__"))) ∧
  (PySem.W.keepIn K (.ref (v_CDuplicateLetter K)) = true) ∧
  (PySem.W.findIn K (.ref (v_CDuplicateLetter K)) "letter" = some none) ∧
  (PySem.W.findIn K (.ref (v_CDuplicateLetter K)) "__init__" = some (some (.ref (v_f8 K))))
instance (K : PySem.W.Frag) : Decidable (F11 K) := by unfold F11; infer_instance
def F12 (K : PySem.W.Frag) : Prop := (PySem.W.typeIn K (.ref (v_f8 K)) = some (.type "function")) ∧
  (PySem.W.keepIn K (.ref (v_f8 K)) = true) ∧
  (PySem.W.findIn K (.ref (v_CDuplicateLetter K)) "__getattribute__" = some (some (.builtin "BaseException.__getattribute__"))) ∧
  (PySem.W.findIn K (.ref (v_CDuplicateLetter K)) "__getattr__" = some none) ∧
  (PySem.W.hasDictIn K (v_CDuplicateLetter K) = true) ∧
  (PySem.W.findIn K (.ref (v_CDuplicateLetter K)) "__class__" = some (some (.builtin "object.__class__"))) ∧
  (PySem.W.mroIn K (v_CDuplicateLetter K) (.type "object") = some true) ∧
  (PySem.W.findIn K (.ref (v_CUnknownLetter K)) "__setattr__" = some (some (.builtin "object.__setattr__"))) ∧
  (PySem.W.keepIn K (.ref (v_CUnknownLetter K)) = true) ∧
  (PySem.W.findIn K (.ref (v_CUnknownLetter K)) "letter" = some none) ∧
  (PySem.W.findIn K (.ref (v_CUnknownLetter K)) "place" = some none) ∧
  (PySem.W.findIn K (.ref (v_CUnknownLetter K)) "__init__" = some (some (.ref (v_f9 K))))
instance (K : PySem.W.Frag) : Decidable (F12 K) := by unfold F12; infer_instance
def F13 (K : PySem.W.Frag) : Prop := (PySem.W.typeIn K (.ref (v_f9 K)) = some (.type "function")) ∧
  (PySem.W.keepIn K (.ref (v_f9 K)) = true) ∧
  (PySem.W.findIn K (.ref (v_CUnknownLetter K)) "__getattribute__" = some (some (.builtin "BaseException.__getattribute__"))) ∧
  (PySem.W.findIn K (.ref (v_CUnknownLetter K)) "__getattr__" = some none) ∧
  (PySem.W.hasDictIn K (v_CUnknownLetter K) = true) ∧
  (PySem.W.findIn K (.ref (v_CUnknownLetter K)) "__class__" = some (some (.builtin "object.__class__"))) ∧
  (PySem.W.mroIn K (v_CUnknownLetter K) (.type "object") = some true) ∧
  (PySem.W.plainGet K (v_CScheme K) Str.empty = true) ∧
  (PySem.W.hasDictIn K (v_CScheme K) = true) ∧
  (PySem.W.plainOver K (v_CScheme K) = true) ∧
  (PySem.W.findIn K (.ref (v_CScheme K)) "__setattr__" = some (some (.builtin "object.__setattr__"))) ∧
  (PySem.W.makesIn K (v_CScheme K) = true)
instance (K : PySem.W.Frag) : Decidable (F13 K) := by unfold F13; infer_instance
def F14 (K : PySem.W.Frag) : Prop := (PySem.W.keepIn K (.ref (v_CScheme K)) = true) ∧
  (PySem.W.findIn K (.ref (v_CScheme K)) "__init__" = some (some (.ref (v_f10 K)))) ∧
  (PySem.W.isFn K (.ref (v_f10 K)) = true) ∧
  (PySem.W.keepIn K (.ref (v_f10 K)) = true) ∧
  (PySem.W.findIn K (.ref (v_CScheme K)) "__eq__" = some (some (.ref (v_f11 K)))) ∧
  (PySem.W.isFn K (.ref (v_f11 K)) = true) ∧
  (PySem.W.keepIn K (.ref (v_f11 K)) = true) ∧
  (PySem.W.findIn K (.ref (v_CScheme K)) "is_strip" = some (some (.ref (v_f12 K)))) ∧
  (PySem.W.isFn K (.ref (v_f12 K)) = true) ∧
  (PySem.W.keepIn K (.ref (v_f12 K)) = true) ∧
  (PySem.W.plainGet K (v_CFont K) Str.empty = true) ∧
  (PySem.W.hasDictIn K (v_CFont K) = true)
instance (K : PySem.W.Frag) : Decidable (F14 K) := by unfold F14; infer_instance
def F15 (K : PySem.W.Frag) : Prop := (PySem.W.plainOver K (v_CFont K) = true) ∧
  (PySem.W.findIn K (.ref (v_CFont K)) "__setattr__" = some (some (.builtin "object.__setattr__"))) ∧
  (PySem.W.makesIn K (v_CFont K) = true) ∧
  (PySem.W.keepIn K (.ref (v_CFont K)) = true) ∧
  (PySem.W.findIn K (.ref (v_CFont K)) "__init__" = some (some (.ref (v_f13 K)))) ∧
  (PySem.W.isFn K (.ref (v_f13 K)) = true) ∧
  (PySem.W.keepIn K (.ref (v_f13 K)) = true) ∧
  (cfG (PySem.W.findCls K (.ref (v_CFont K)) (.type "type") "read") = some ((.builtin "classmethod.__get__"), (.ref (v_p14 K)), .none, (.ref (v_CFont K)))) ∧
  (PySem.W.recIn K (v_p14 K) "classmethod" = some (.ref (v_f14 K) :: (v_rs14 K))) ∧
  (PySem.W.fnIn K (v_f14 K) = true) ∧
  (PySem.W.keepIn K (.ref (v_f14 K)) = true) ∧
  (PySem.W.findIn K (.ref (v_CFont K)) "__getitem__" = some (some (.ref (v_f15 K))))
instance (K : PySem.W.Frag) : Decidable (F15 K) := by unfold F15; infer_instance
def F16 (K : PySem.W.Frag) : Prop := (PySem.W.isFn K (.ref (v_f15 K)) = true) ∧
  (PySem.W.keepIn K (.ref (v_f15 K)) = true) ∧
  (PySem.W.findIn K (.ref (v_CFont K)) "__contains__" = some (some (.ref (v_f16 K)))) ∧
  (PySem.W.isFn K (.ref (v_f16 K)) = true) ∧
  (PySem.W.keepIn K (.ref (v_f16 K)) = true) ∧
  (PySem.W.findIn K (.ref (v_CFont K)) "__len__" = some (some (.ref (v_f17 K)))) ∧
  (PySem.W.isFn K (.ref (v_f17 K)) = true) ∧
  (PySem.W.keepIn K (.ref (v_f17 K)) = true) ∧
  (PySem.W.findIn K (.ref (v_CFont K)) "__eq__" = some (some (.ref (v_f18 K)))) ∧
  (PySem.W.isFn K (.ref (v_f18 K)) = true) ∧
  (PySem.W.keepIn K (.ref (v_f18 K)) = true) ∧
  (PySem.W.findIn K (.ref (v_CFont K)) "__str__" = some (some (.ref (v_f19 K))))
instance (K : PySem.W.Frag) : Decidable (F16 K) := by unfold F16; infer_instance
def F17 (K : PySem.W.Frag) : Prop := (PySem.W.isFn K (.ref (v_f19 K)) = true) ∧
  (PySem.W.keepIn K (.ref (v_f19 K)) = true) ∧
  (PySem.W.findIn K (.ref (v_CFont K)) "printed" = some (some (.ref (v_f20 K)))) ∧
  (PySem.W.isFn K (.ref (v_f20 K)) = true) ∧
  (PySem.W.keepIn K (.ref (v_f20 K)) = true) ∧
  (PySem.W.nsIn K mainGlobals "check_gap" = some (some (.ref (v_f21 K)))) ∧
  (PySem.W.keepIn K (.ref (v_f21 K)) = true) ∧
  (PySem.W.nsIn K mainGlobals "is_letter" = some (some (.ref (v_f22 K)))) ∧
  (PySem.W.keepIn K (.ref (v_f22 K)) = true) ∧
  (PySem.W.nsIn K mainGlobals "_law_purse" = some (some (.ref (v_f23 K)))) ∧
  (PySem.W.keepIn K (.ref (v_f23 K)) = true) ∧
  (PySem.W.nsIn K mainGlobals "_law_draw" = some (some (.ref (v_f24 K))))
instance (K : PySem.W.Frag) : Decidable (F17 K) := by unfold F17; infer_instance
def F18 (K : PySem.W.Frag) : Prop := (PySem.W.keepIn K (.ref (v_f24 K)) = true) ∧
  (PySem.W.nsIn K mainGlobals "_law_kind" = some (some (.ref (v_f25 K)))) ∧
  (PySem.W.keepIn K (.ref (v_f25 K)) = true) ∧
  (PySem.W.nsIn K mainGlobals "_law_word" = some (some (.ref (v_f26 K)))) ∧
  (PySem.W.keepIn K (.ref (v_f26 K)) = true) ∧
  (PySem.W.nsIn K mainGlobals "_law_fresh" = some (some (.ref (v_f27 K)))) ∧
  (PySem.W.keepIn K (.ref (v_f27 K)) = true) ∧
  (PySem.W.nsIn K mainGlobals "_law_is_word" = some (some (.ref (v_f28 K)))) ∧
  (PySem.W.keepIn K (.ref (v_f28 K)) = true) ∧
  (PySem.W.nsIn K mainGlobals "_law_odd_word" = some (some (.ref (v_f29 K)))) ∧
  (PySem.W.keepIn K (.ref (v_f29 K)) = true) ∧
  (PySem.W.nsIn K mainGlobals "_law_pairs" = some (some (.ref (v_f30 K))))
instance (K : PySem.W.Frag) : Decidable (F18 K) := by unfold F18; infer_instance
def F19 (K : PySem.W.Frag) : Prop := (PySem.W.keepIn K (.ref (v_f30 K)) = true) ∧
  (PySem.W.nsIn K mainGlobals "_law_due" = some (some (.ref (v_f31 K)))) ∧
  (PySem.W.keepIn K (.ref (v_f31 K)) = true) ∧
  (PySem.W.nsIn K mainGlobals "_law_line" = some (some (.ref (v_f32 K)))) ∧
  (PySem.W.keepIn K (.ref (v_f32 K)) = true) ∧
  (PySem.W.nsIn K mainGlobals "_law_parts" = some (some (.ref (v_f33 K)))) ∧
  (PySem.W.keepIn K (.ref (v_f33 K)) = true) ∧
  (PySem.W.nsIn K mainGlobals "_law_told" = some (some (.ref (v_f34 K)))) ∧
  (PySem.W.keepIn K (.ref (v_f34 K)) = true) ∧
  (PySem.W.nsIn K mainGlobals "_law_made" = some (some (.ref (v_f35 K)))) ∧
  (PySem.W.keepIn K (.ref (v_f35 K)) = true) ∧
  (PySem.W.nsIn K mainGlobals "_law_read" = some (some (.ref (v_f36 K))))
instance (K : PySem.W.Frag) : Decidable (F19 K) := by unfold F19; infer_instance
def F20 (K : PySem.W.Frag) : Prop := (PySem.W.keepIn K (.ref (v_f36 K)) = true) ∧
  (PySem.W.nsIn K mainGlobals "_law_glyph" = some (some (.ref (v_f37 K)))) ∧
  (PySem.W.keepIn K (.ref (v_f37 K)) = true) ∧
  (PySem.W.nsIn K mainGlobals "_law_print" = some (some (.ref (v_f38 K)))) ∧
  (PySem.W.keepIn K (.ref (v_f38 K)) = true) ∧
  (PySem.W.nsIn K mainGlobals "_law_shuffled" = some (some (.ref (v_f39 K)))) ∧
  (PySem.W.keepIn K (.ref (v_f39 K)) = true) ∧
  (PySem.W.nsIn K mainGlobals "_law_fields" = some (some (.ref (v_f40 K)))) ∧
  (PySem.W.keepIn K (.ref (v_f40 K)) = true) ∧
  (PySem.W.nsIn K mainGlobals "_law_members" = some (some (.ref (v_f41 K)))) ∧
  (PySem.W.keepIn K (.ref (v_f41 K)) = true) ∧
  (PySem.W.nsIn K mainGlobals "_law_prints" = some (some (.ref (v_f42 K))))
instance (K : PySem.W.Frag) : Decidable (F20 K) := by unfold F20; infer_instance
def F21 (K : PySem.W.Frag) : Prop := (PySem.W.keepIn K (.ref (v_f42 K)) = true) ∧
  (PySem.W.nsIn K mainGlobals "_law_unlike" = some (some (.ref (v_f43 K)))) ∧
  (PySem.W.keepIn K (.ref (v_f43 K)) = true) ∧
  (PySem.W.nsIn K mainGlobals "_law_good" = some (some (.ref (v_f44 K)))) ∧
  (PySem.W.keepIn K (.ref (v_f44 K)) = true) ∧
  (PySem.W.nsIn K mainGlobals "_law_bent" = some (some (.ref (v_f45 K)))) ∧
  (PySem.W.keepIn K (.ref (v_f45 K)) = true) ∧
  (PySem.W.nsIn K mainGlobals "law" = some (some (.ref (v_f46 K)))) ∧
  (PySem.W.keepIn K (.ref (v_f46 K)) = true) ∧
  (PySem.W.specialIn K (.builtin "object.__class__") "__get__" = some (some (.builtin "getset_descriptor.__get__"))) ∧
  (PySem.W.takesIn K (.builtin "object.__class__") = some true) ∧
  (PySem.W.findIn K (.ref (v_CScheme K)) "rows" = some none)
instance (K : PySem.W.Frag) : Decidable (F21 K) := by unfold F21; infer_instance
def F22 (K : PySem.W.Frag) : Prop := (PySem.W.findIn K (.ref (v_CScheme K)) "colours" = some none) ∧
  (PySem.W.findIn K (.ref (v_CScheme K)) "columns" = some none) ∧
  (PySem.W.findIn K (.ref (v_CScheme K)) "MOST" = some (some (.int 9 (v_t_Scheme_MOST K)))) ∧
  (PySem.W.specialIn K (.int 9 (v_t_Scheme_MOST K)) "__get__" = some none) ∧
  (PySem.W.findIn K (.ref (v_CScheme K)) "BLANK" = some (some (.str "a" (v_t_Scheme_BLANK K)))) ∧
  (PySem.W.specialIn K (.str "a" (v_t_Scheme_BLANK K)) "__get__" = some none) ∧
  (PySem.W.findIn K (.ref (v_CScheme K)) "__class__" = some (some (.builtin "object.__class__"))) ∧
  (PySem.W.mroIn K (v_CScheme K) (.type "object") = some true) ∧
  (PySem.W.notFirst K (v_CScheme K) (.type "int") = true) ∧
  (PySem.W.notFirst K (v_CScheme K) (.type "str") = true) ∧
  (PySem.W.subIn K (.type "int") (.ref (v_CScheme K)) = some false) ∧
  (PySem.W.subIn K (.type "str") (.ref (v_CScheme K)) = some false)
instance (K : PySem.W.Frag) : Decidable (F22 K) := by unfold F22; infer_instance
def F23 (K : PySem.W.Frag) : Prop := (PySem.W.findIn K (.ref (v_CFont K)) "scheme" = some none) ∧
  (PySem.W.findIn K (.ref (v_CFont K)) "gap" = some none) ∧
  (PySem.W.findIn K (.ref (v_CFont K)) "glyphs" = some none) ∧
  (PySem.W.findIn K (.ref (v_CFont K)) "_told" = some none) ∧
  (PySem.W.findIn K (.ref (v_CFont K)) "MOST" = some (some (.int 6 (v_t_Font_MOST K)))) ∧
  (PySem.W.specialIn K (.int 6 (v_t_Font_MOST K)) "__get__" = some none) ∧
  (PySem.W.readsIn K (v_CFont K) (.type "type") = true) ∧
  (PySem.W.specialIn K (.ref (v_CFont K)) "__getattribute__" = some (some (.builtin "type.__getattribute__"))) ∧
  (cfV (PySem.W.findCls K (.ref (v_CFont K)) (.type "type") "MOST") = some (.int 6 (v_tc_Font_MOST K))) ∧
  (PySem.W.findIn K (.ref (v_CFont K)) "__class__" = some (some (.builtin "object.__class__"))) ∧
  (PySem.W.mroIn K (v_CFont K) (.type "object") = some true) ∧
  (PySem.W.notFirst K (v_CFont K) (.type "int") = true)
instance (K : PySem.W.Frag) : Decidable (F23 K) := by unfold F23; infer_instance
def F24 (K : PySem.W.Frag) : Prop := (PySem.W.notFirst K (v_CFont K) (.type "str") = true) ∧
  (PySem.W.notFirst K (v_CFont K) (.type "list") = true) ∧
  (PySem.W.subIn K (.type "int") (.ref (v_CFont K)) = some false) ∧
  (PySem.W.subIn K (.type "str") (.ref (v_CFont K)) = some false) ∧
  (PySem.W.subIn K (.type "list") (.ref (v_CFont K)) = some false) ∧
  (PySem.W.subIn K (.ref (v_CBadScheme K)) (.ref (v_CBadScheme K)) = some true) ∧
  (PySem.W.subIn K (.ref (v_CBadScheme K)) (.ref (v_CBadColumn K)) = some false) ∧
  (((Value.ref (v_CBadScheme K)) == Value.ref (v_CBadColumn K)) = false) ∧
  (PySem.W.subIn K (.ref (v_CBadScheme K)) (.ref (v_CBadSpots K)) = some false) ∧
  (((Value.ref (v_CBadScheme K)) == Value.ref (v_CBadSpots K)) = false) ∧
  (PySem.W.subIn K (.ref (v_CBadScheme K)) (.ref (v_CTooMany K)) = some false) ∧
  (((Value.ref (v_CBadScheme K)) == Value.ref (v_CTooMany K)) = false)
instance (K : PySem.W.Frag) : Decidable (F24 K) := by unfold F24; infer_instance
def F25 (K : PySem.W.Frag) : Prop := (PySem.W.subIn K (.ref (v_CBadScheme K)) (.ref (v_CBadFont K)) = some false) ∧
  (((Value.ref (v_CBadScheme K)) == Value.ref (v_CBadFont K)) = false) ∧
  (PySem.W.subIn K (.ref (v_CBadScheme K)) (.ref (v_CBadLetter K)) = some false) ∧
  (((Value.ref (v_CBadScheme K)) == Value.ref (v_CBadLetter K)) = false) ∧
  (PySem.W.subIn K (.ref (v_CBadScheme K)) (.ref (v_CBadGlyph K)) = some false) ∧
  (((Value.ref (v_CBadScheme K)) == Value.ref (v_CBadGlyph K)) = false) ∧
  (PySem.W.subIn K (.ref (v_CBadScheme K)) (.ref (v_CDuplicateLetter K)) = some false) ∧
  (((Value.ref (v_CBadScheme K)) == Value.ref (v_CDuplicateLetter K)) = false) ∧
  (PySem.W.subIn K (.ref (v_CBadScheme K)) (.ref (v_CUnknownLetter K)) = some false) ∧
  (((Value.ref (v_CBadScheme K)) == Value.ref (v_CUnknownLetter K)) = false) ∧
  (PySem.W.subIn K (.ref (v_CBadColumn K)) (.ref (v_CBadScheme K)) = some false) ∧
  (((Value.ref (v_CBadColumn K)) == Value.ref (v_CBadScheme K)) = false)
instance (K : PySem.W.Frag) : Decidable (F25 K) := by unfold F25; infer_instance
def F26 (K : PySem.W.Frag) : Prop := (PySem.W.subIn K (.ref (v_CBadColumn K)) (.ref (v_CBadColumn K)) = some true) ∧
  (PySem.W.subIn K (.ref (v_CBadColumn K)) (.ref (v_CBadSpots K)) = some false) ∧
  (((Value.ref (v_CBadColumn K)) == Value.ref (v_CBadSpots K)) = false) ∧
  (PySem.W.subIn K (.ref (v_CBadColumn K)) (.ref (v_CTooMany K)) = some false) ∧
  (((Value.ref (v_CBadColumn K)) == Value.ref (v_CTooMany K)) = false) ∧
  (PySem.W.subIn K (.ref (v_CBadColumn K)) (.ref (v_CBadFont K)) = some false) ∧
  (((Value.ref (v_CBadColumn K)) == Value.ref (v_CBadFont K)) = false) ∧
  (PySem.W.subIn K (.ref (v_CBadColumn K)) (.ref (v_CBadLetter K)) = some false) ∧
  (((Value.ref (v_CBadColumn K)) == Value.ref (v_CBadLetter K)) = false) ∧
  (PySem.W.subIn K (.ref (v_CBadColumn K)) (.ref (v_CBadGlyph K)) = some false) ∧
  (((Value.ref (v_CBadColumn K)) == Value.ref (v_CBadGlyph K)) = false) ∧
  (PySem.W.subIn K (.ref (v_CBadColumn K)) (.ref (v_CDuplicateLetter K)) = some false)
instance (K : PySem.W.Frag) : Decidable (F26 K) := by unfold F26; infer_instance
def F27 (K : PySem.W.Frag) : Prop := (((Value.ref (v_CBadColumn K)) == Value.ref (v_CDuplicateLetter K)) = false) ∧
  (PySem.W.subIn K (.ref (v_CBadColumn K)) (.ref (v_CUnknownLetter K)) = some false) ∧
  (((Value.ref (v_CBadColumn K)) == Value.ref (v_CUnknownLetter K)) = false) ∧
  (PySem.W.subIn K (.ref (v_CBadSpots K)) (.ref (v_CBadScheme K)) = some false) ∧
  (((Value.ref (v_CBadSpots K)) == Value.ref (v_CBadScheme K)) = false) ∧
  (PySem.W.subIn K (.ref (v_CBadSpots K)) (.ref (v_CBadColumn K)) = some false) ∧
  (((Value.ref (v_CBadSpots K)) == Value.ref (v_CBadColumn K)) = false) ∧
  (PySem.W.subIn K (.ref (v_CBadSpots K)) (.ref (v_CBadSpots K)) = some true) ∧
  (PySem.W.subIn K (.ref (v_CBadSpots K)) (.ref (v_CTooMany K)) = some false) ∧
  (((Value.ref (v_CBadSpots K)) == Value.ref (v_CTooMany K)) = false) ∧
  (PySem.W.subIn K (.ref (v_CBadSpots K)) (.ref (v_CBadFont K)) = some false) ∧
  (((Value.ref (v_CBadSpots K)) == Value.ref (v_CBadFont K)) = false)
instance (K : PySem.W.Frag) : Decidable (F27 K) := by unfold F27; infer_instance
def F28 (K : PySem.W.Frag) : Prop := (PySem.W.subIn K (.ref (v_CBadSpots K)) (.ref (v_CBadLetter K)) = some false) ∧
  (((Value.ref (v_CBadSpots K)) == Value.ref (v_CBadLetter K)) = false) ∧
  (PySem.W.subIn K (.ref (v_CBadSpots K)) (.ref (v_CBadGlyph K)) = some false) ∧
  (((Value.ref (v_CBadSpots K)) == Value.ref (v_CBadGlyph K)) = false) ∧
  (PySem.W.subIn K (.ref (v_CBadSpots K)) (.ref (v_CDuplicateLetter K)) = some false) ∧
  (((Value.ref (v_CBadSpots K)) == Value.ref (v_CDuplicateLetter K)) = false) ∧
  (PySem.W.subIn K (.ref (v_CBadSpots K)) (.ref (v_CUnknownLetter K)) = some false) ∧
  (((Value.ref (v_CBadSpots K)) == Value.ref (v_CUnknownLetter K)) = false) ∧
  (PySem.W.subIn K (.ref (v_CTooMany K)) (.ref (v_CBadScheme K)) = some false) ∧
  (((Value.ref (v_CTooMany K)) == Value.ref (v_CBadScheme K)) = false) ∧
  (PySem.W.subIn K (.ref (v_CTooMany K)) (.ref (v_CBadColumn K)) = some false) ∧
  (((Value.ref (v_CTooMany K)) == Value.ref (v_CBadColumn K)) = false)
instance (K : PySem.W.Frag) : Decidable (F28 K) := by unfold F28; infer_instance
def F29 (K : PySem.W.Frag) : Prop := (PySem.W.subIn K (.ref (v_CTooMany K)) (.ref (v_CBadSpots K)) = some false) ∧
  (((Value.ref (v_CTooMany K)) == Value.ref (v_CBadSpots K)) = false) ∧
  (PySem.W.subIn K (.ref (v_CTooMany K)) (.ref (v_CTooMany K)) = some true) ∧
  (PySem.W.subIn K (.ref (v_CTooMany K)) (.ref (v_CBadFont K)) = some false) ∧
  (((Value.ref (v_CTooMany K)) == Value.ref (v_CBadFont K)) = false) ∧
  (PySem.W.subIn K (.ref (v_CTooMany K)) (.ref (v_CBadLetter K)) = some false) ∧
  (((Value.ref (v_CTooMany K)) == Value.ref (v_CBadLetter K)) = false) ∧
  (PySem.W.subIn K (.ref (v_CTooMany K)) (.ref (v_CBadGlyph K)) = some false) ∧
  (((Value.ref (v_CTooMany K)) == Value.ref (v_CBadGlyph K)) = false) ∧
  (PySem.W.subIn K (.ref (v_CTooMany K)) (.ref (v_CDuplicateLetter K)) = some false) ∧
  (((Value.ref (v_CTooMany K)) == Value.ref (v_CDuplicateLetter K)) = false) ∧
  (PySem.W.subIn K (.ref (v_CTooMany K)) (.ref (v_CUnknownLetter K)) = some false)
instance (K : PySem.W.Frag) : Decidable (F29 K) := by unfold F29; infer_instance
def F30 (K : PySem.W.Frag) : Prop := (((Value.ref (v_CTooMany K)) == Value.ref (v_CUnknownLetter K)) = false) ∧
  (PySem.W.subIn K (.ref (v_CBadFont K)) (.ref (v_CBadScheme K)) = some false) ∧
  (((Value.ref (v_CBadFont K)) == Value.ref (v_CBadScheme K)) = false) ∧
  (PySem.W.subIn K (.ref (v_CBadFont K)) (.ref (v_CBadColumn K)) = some false) ∧
  (((Value.ref (v_CBadFont K)) == Value.ref (v_CBadColumn K)) = false) ∧
  (PySem.W.subIn K (.ref (v_CBadFont K)) (.ref (v_CBadSpots K)) = some false) ∧
  (((Value.ref (v_CBadFont K)) == Value.ref (v_CBadSpots K)) = false) ∧
  (PySem.W.subIn K (.ref (v_CBadFont K)) (.ref (v_CTooMany K)) = some false) ∧
  (((Value.ref (v_CBadFont K)) == Value.ref (v_CTooMany K)) = false) ∧
  (PySem.W.subIn K (.ref (v_CBadFont K)) (.ref (v_CBadFont K)) = some true) ∧
  (PySem.W.subIn K (.ref (v_CBadFont K)) (.ref (v_CBadLetter K)) = some false) ∧
  (((Value.ref (v_CBadFont K)) == Value.ref (v_CBadLetter K)) = false)
instance (K : PySem.W.Frag) : Decidable (F30 K) := by unfold F30; infer_instance
def F31 (K : PySem.W.Frag) : Prop := (PySem.W.subIn K (.ref (v_CBadFont K)) (.ref (v_CBadGlyph K)) = some false) ∧
  (((Value.ref (v_CBadFont K)) == Value.ref (v_CBadGlyph K)) = false) ∧
  (PySem.W.subIn K (.ref (v_CBadFont K)) (.ref (v_CDuplicateLetter K)) = some false) ∧
  (((Value.ref (v_CBadFont K)) == Value.ref (v_CDuplicateLetter K)) = false) ∧
  (PySem.W.subIn K (.ref (v_CBadFont K)) (.ref (v_CUnknownLetter K)) = some false) ∧
  (((Value.ref (v_CBadFont K)) == Value.ref (v_CUnknownLetter K)) = false) ∧
  (PySem.W.subIn K (.ref (v_CBadLetter K)) (.ref (v_CBadScheme K)) = some false) ∧
  (((Value.ref (v_CBadLetter K)) == Value.ref (v_CBadScheme K)) = false) ∧
  (PySem.W.subIn K (.ref (v_CBadLetter K)) (.ref (v_CBadColumn K)) = some false) ∧
  (((Value.ref (v_CBadLetter K)) == Value.ref (v_CBadColumn K)) = false) ∧
  (PySem.W.subIn K (.ref (v_CBadLetter K)) (.ref (v_CBadSpots K)) = some false) ∧
  (((Value.ref (v_CBadLetter K)) == Value.ref (v_CBadSpots K)) = false)
instance (K : PySem.W.Frag) : Decidable (F31 K) := by unfold F31; infer_instance
def F32 (K : PySem.W.Frag) : Prop := (PySem.W.subIn K (.ref (v_CBadLetter K)) (.ref (v_CTooMany K)) = some false) ∧
  (((Value.ref (v_CBadLetter K)) == Value.ref (v_CTooMany K)) = false) ∧
  (PySem.W.subIn K (.ref (v_CBadLetter K)) (.ref (v_CBadFont K)) = some false) ∧
  (((Value.ref (v_CBadLetter K)) == Value.ref (v_CBadFont K)) = false) ∧
  (PySem.W.subIn K (.ref (v_CBadLetter K)) (.ref (v_CBadLetter K)) = some true) ∧
  (PySem.W.subIn K (.ref (v_CBadLetter K)) (.ref (v_CBadGlyph K)) = some false) ∧
  (((Value.ref (v_CBadLetter K)) == Value.ref (v_CBadGlyph K)) = false) ∧
  (PySem.W.subIn K (.ref (v_CBadLetter K)) (.ref (v_CDuplicateLetter K)) = some false) ∧
  (((Value.ref (v_CBadLetter K)) == Value.ref (v_CDuplicateLetter K)) = false) ∧
  (PySem.W.subIn K (.ref (v_CBadLetter K)) (.ref (v_CUnknownLetter K)) = some false) ∧
  (((Value.ref (v_CBadLetter K)) == Value.ref (v_CUnknownLetter K)) = false) ∧
  (PySem.W.subIn K (.ref (v_CBadGlyph K)) (.ref (v_CBadScheme K)) = some false)
instance (K : PySem.W.Frag) : Decidable (F32 K) := by unfold F32; infer_instance
def F33 (K : PySem.W.Frag) : Prop := (((Value.ref (v_CBadGlyph K)) == Value.ref (v_CBadScheme K)) = false) ∧
  (PySem.W.subIn K (.ref (v_CBadGlyph K)) (.ref (v_CBadColumn K)) = some false) ∧
  (((Value.ref (v_CBadGlyph K)) == Value.ref (v_CBadColumn K)) = false) ∧
  (PySem.W.subIn K (.ref (v_CBadGlyph K)) (.ref (v_CBadSpots K)) = some false) ∧
  (((Value.ref (v_CBadGlyph K)) == Value.ref (v_CBadSpots K)) = false) ∧
  (PySem.W.subIn K (.ref (v_CBadGlyph K)) (.ref (v_CTooMany K)) = some false) ∧
  (((Value.ref (v_CBadGlyph K)) == Value.ref (v_CTooMany K)) = false) ∧
  (PySem.W.subIn K (.ref (v_CBadGlyph K)) (.ref (v_CBadFont K)) = some false) ∧
  (((Value.ref (v_CBadGlyph K)) == Value.ref (v_CBadFont K)) = false) ∧
  (PySem.W.subIn K (.ref (v_CBadGlyph K)) (.ref (v_CBadLetter K)) = some false) ∧
  (((Value.ref (v_CBadGlyph K)) == Value.ref (v_CBadLetter K)) = false) ∧
  (PySem.W.subIn K (.ref (v_CBadGlyph K)) (.ref (v_CBadGlyph K)) = some true)
instance (K : PySem.W.Frag) : Decidable (F33 K) := by unfold F33; infer_instance
def F34 (K : PySem.W.Frag) : Prop := (PySem.W.subIn K (.ref (v_CBadGlyph K)) (.ref (v_CDuplicateLetter K)) = some false) ∧
  (((Value.ref (v_CBadGlyph K)) == Value.ref (v_CDuplicateLetter K)) = false) ∧
  (PySem.W.subIn K (.ref (v_CBadGlyph K)) (.ref (v_CUnknownLetter K)) = some false) ∧
  (((Value.ref (v_CBadGlyph K)) == Value.ref (v_CUnknownLetter K)) = false) ∧
  (PySem.W.subIn K (.ref (v_CDuplicateLetter K)) (.ref (v_CBadScheme K)) = some false) ∧
  (((Value.ref (v_CDuplicateLetter K)) == Value.ref (v_CBadScheme K)) = false) ∧
  (PySem.W.subIn K (.ref (v_CDuplicateLetter K)) (.ref (v_CBadColumn K)) = some false) ∧
  (((Value.ref (v_CDuplicateLetter K)) == Value.ref (v_CBadColumn K)) = false) ∧
  (PySem.W.subIn K (.ref (v_CDuplicateLetter K)) (.ref (v_CBadSpots K)) = some false) ∧
  (((Value.ref (v_CDuplicateLetter K)) == Value.ref (v_CBadSpots K)) = false) ∧
  (PySem.W.subIn K (.ref (v_CDuplicateLetter K)) (.ref (v_CTooMany K)) = some false) ∧
  (((Value.ref (v_CDuplicateLetter K)) == Value.ref (v_CTooMany K)) = false)
instance (K : PySem.W.Frag) : Decidable (F34 K) := by unfold F34; infer_instance
def F35 (K : PySem.W.Frag) : Prop := (PySem.W.subIn K (.ref (v_CDuplicateLetter K)) (.ref (v_CBadFont K)) = some false) ∧
  (((Value.ref (v_CDuplicateLetter K)) == Value.ref (v_CBadFont K)) = false) ∧
  (PySem.W.subIn K (.ref (v_CDuplicateLetter K)) (.ref (v_CBadLetter K)) = some false) ∧
  (((Value.ref (v_CDuplicateLetter K)) == Value.ref (v_CBadLetter K)) = false) ∧
  (PySem.W.subIn K (.ref (v_CDuplicateLetter K)) (.ref (v_CBadGlyph K)) = some false) ∧
  (((Value.ref (v_CDuplicateLetter K)) == Value.ref (v_CBadGlyph K)) = false) ∧
  (PySem.W.subIn K (.ref (v_CDuplicateLetter K)) (.ref (v_CDuplicateLetter K)) = some true) ∧
  (PySem.W.subIn K (.ref (v_CDuplicateLetter K)) (.ref (v_CUnknownLetter K)) = some false) ∧
  (((Value.ref (v_CDuplicateLetter K)) == Value.ref (v_CUnknownLetter K)) = false) ∧
  (PySem.W.subIn K (.ref (v_CUnknownLetter K)) (.ref (v_CBadScheme K)) = some false) ∧
  (((Value.ref (v_CUnknownLetter K)) == Value.ref (v_CBadScheme K)) = false) ∧
  (PySem.W.subIn K (.ref (v_CUnknownLetter K)) (.ref (v_CBadColumn K)) = some false)
instance (K : PySem.W.Frag) : Decidable (F35 K) := by unfold F35; infer_instance
def F36 (K : PySem.W.Frag) : Prop := (((Value.ref (v_CUnknownLetter K)) == Value.ref (v_CBadColumn K)) = false) ∧
  (PySem.W.subIn K (.ref (v_CUnknownLetter K)) (.ref (v_CBadSpots K)) = some false) ∧
  (((Value.ref (v_CUnknownLetter K)) == Value.ref (v_CBadSpots K)) = false) ∧
  (PySem.W.subIn K (.ref (v_CUnknownLetter K)) (.ref (v_CTooMany K)) = some false) ∧
  (((Value.ref (v_CUnknownLetter K)) == Value.ref (v_CTooMany K)) = false) ∧
  (PySem.W.subIn K (.ref (v_CUnknownLetter K)) (.ref (v_CBadFont K)) = some false) ∧
  (((Value.ref (v_CUnknownLetter K)) == Value.ref (v_CBadFont K)) = false) ∧
  (PySem.W.subIn K (.ref (v_CUnknownLetter K)) (.ref (v_CBadLetter K)) = some false) ∧
  (((Value.ref (v_CUnknownLetter K)) == Value.ref (v_CBadLetter K)) = false) ∧
  (PySem.W.subIn K (.ref (v_CUnknownLetter K)) (.ref (v_CBadGlyph K)) = some false) ∧
  (((Value.ref (v_CUnknownLetter K)) == Value.ref (v_CBadGlyph K)) = false) ∧
  (PySem.W.subIn K (.ref (v_CUnknownLetter K)) (.ref (v_CDuplicateLetter K)) = some false)
instance (K : PySem.W.Frag) : Decidable (F36 K) := by unfold F36; infer_instance
def F37 (K : PySem.W.Frag) : Prop := (((Value.ref (v_CUnknownLetter K)) == Value.ref (v_CDuplicateLetter K)) = false) ∧
  (PySem.W.subIn K (.ref (v_CUnknownLetter K)) (.ref (v_CUnknownLetter K)) = some true) ∧
  (PySem.W.subIn K (.ref (v_CBadScheme K)) (.type "ValueError") = some true) ∧
  (PySem.W.subIn K (.ref (v_CBadColumn K)) (.type "ValueError") = some true) ∧
  (PySem.W.subIn K (.ref (v_CBadSpots K)) (.type "ValueError") = some true) ∧
  (PySem.W.subIn K (.ref (v_CTooMany K)) (.type "ValueError") = some true) ∧
  (PySem.W.subIn K (.ref (v_CBadFont K)) (.type "ValueError") = some true) ∧
  (PySem.W.subIn K (.ref (v_CBadLetter K)) (.type "ValueError") = some true) ∧
  (PySem.W.subIn K (.ref (v_CBadGlyph K)) (.type "ValueError") = some true) ∧
  (PySem.W.subIn K (.ref (v_CDuplicateLetter K)) (.type "ValueError") = some true) ∧
  (PySem.W.subIn K (.ref (v_CUnknownLetter K)) (.type "ValueError") = some true) ∧
  (PySem.W.subIn K (.ref (v_CBadScheme K)) (.ref (v_CGalloonError K)) = some true)
instance (K : PySem.W.Frag) : Decidable (F37 K) := by unfold F37; infer_instance
def F38 (K : PySem.W.Frag) : Prop := (PySem.W.subIn K (.ref (v_CBadColumn K)) (.ref (v_CGalloonError K)) = some true) ∧
  (PySem.W.subIn K (.ref (v_CBadSpots K)) (.ref (v_CGalloonError K)) = some true) ∧
  (PySem.W.subIn K (.ref (v_CTooMany K)) (.ref (v_CGalloonError K)) = some true) ∧
  (PySem.W.subIn K (.ref (v_CBadFont K)) (.ref (v_CGalloonError K)) = some true) ∧
  (PySem.W.subIn K (.ref (v_CBadLetter K)) (.ref (v_CGalloonError K)) = some true) ∧
  (PySem.W.subIn K (.ref (v_CBadGlyph K)) (.ref (v_CGalloonError K)) = some true) ∧
  (PySem.W.subIn K (.ref (v_CDuplicateLetter K)) (.ref (v_CGalloonError K)) = some true) ∧
  (PySem.W.subIn K (.ref (v_CUnknownLetter K)) (.ref (v_CGalloonError K)) = some true) ∧
  (((Value.ref (v_CBadScheme K)) == Value.ref (v_CGalloonError K)) = false) ∧
  (((Value.ref (v_CBadColumn K)) == Value.ref (v_CGalloonError K)) = false) ∧
  (((Value.ref (v_CBadSpots K)) == Value.ref (v_CGalloonError K)) = false) ∧
  (((Value.ref (v_CTooMany K)) == Value.ref (v_CGalloonError K)) = false)
instance (K : PySem.W.Frag) : Decidable (F38 K) := by unfold F38; infer_instance
def F39 (K : PySem.W.Frag) : Prop := (((Value.ref (v_CBadFont K)) == Value.ref (v_CGalloonError K)) = false) ∧
  (((Value.ref (v_CBadLetter K)) == Value.ref (v_CGalloonError K)) = false) ∧
  (((Value.ref (v_CBadGlyph K)) == Value.ref (v_CGalloonError K)) = false) ∧
  (((Value.ref (v_CDuplicateLetter K)) == Value.ref (v_CGalloonError K)) = false) ∧
  (((Value.ref (v_CUnknownLetter K)) == Value.ref (v_CGalloonError K)) = false) ∧
  (excB K (v_CBadScheme K) = true) ∧
  (excB K (v_CBadColumn K) = true) ∧
  (excB K (v_CBadSpots K) = true) ∧
  (excB K (v_CTooMany K) = true) ∧
  (excB K (v_CBadFont K) = true) ∧
  (excB K (v_CBadLetter K) = true) ∧
  (excB K (v_CBadGlyph K) = true)
instance (K : PySem.W.Frag) : Decidable (F39 K) := by unfold F39; infer_instance
def F40 (K : PySem.W.Frag) : Prop := (excB K (v_CDuplicateLetter K) = true) ∧
  (excB K (v_CUnknownLetter K) = true)
instance (K : PySem.W.Frag) : Decidable (F40 K) := by unfold F40; infer_instance
def fb (K : PySem.W.Frag) : Bool := decide (F0 K) && (decide (F1 K) && (decide (F2 K) && (decide (F3 K) && (decide (F4 K) && (decide (F5 K) && (decide (F6 K) && (decide (F7 K) && (decide (F8 K) && (decide (F9 K) && (decide (F10 K) && (decide (F11 K) && (decide (F12 K) && (decide (F13 K) && (decide (F14 K) && (decide (F15 K) && (decide (F16 K) && (decide (F17 K) && (decide (F18 K) && (decide (F19 K) && (decide (F20 K) && (decide (F21 K) && (decide (F22 K) && (decide (F23 K) && (decide (F24 K) && (decide (F25 K) && (decide (F26 K) && (decide (F27 K) && (decide (F28 K) && (decide (F29 K) && (decide (F30 K) && (decide (F31 K) && (decide (F32 K) && (decide (F33 K) && (decide (F34 K) && (decide (F35 K) && (decide (F36 K) && (decide (F37 K) && (decide (F38 K) && (decide (F39 K) && (decide (F40 K) && (true)))))))))))))))))))))))))))))))))))))))))
theorem facts {K : PySem.W.Frag} {h : Heap} {mg : Str → Option Value} (X : K.In h) (G : h.Ns mainGlobals mg) (c : Says fb fns K) : ∃ a, Txt K mg a := by
  have z := c.b
  unfold fb at z
  obtain ⟨z0, z⟩ := ba z
  obtain ⟨h_a_GalloonError, h_a_BadScheme, h_a_BadColumn, h_a_BadSpots, h_a_TooMany, h_a_BadFont, h_a_BadLetter, h_a_BadGlyph, h_a_DuplicateLetter, h_a_UnknownLetter, h_a_Scheme, h_a_Font⟩ := (of_decide_eq_true z0 : F0 K)
  obtain ⟨z1, z⟩ := ba z
  obtain ⟨h_z_ValueError, h_z_all, h_z_classmethod, h_z_enumerate, h_z_int, h_z_isinstance, h_z_len, h_z_list, h_z_range, h_z_sorted, h_z_str, h_z_tuple⟩ := (of_decide_eq_true z1 : F1 K)
  obtain ⟨z2, z⟩ := ba z
  obtain ⟨h_v_DIGITS, h_v_LETTERS, h_v_ALPHABET, h_v_MOST_GAP, h_v_MOST_GLYPH, h_sB_GalloonError, h_ic_GalloonError, h_tc_GalloonError, h_sB_BadScheme, h_ic_BadScheme, h_tc_BadScheme, h_sB_BadColumn⟩ := (of_decide_eq_true z2 : F2 K)
  obtain ⟨z3, z⟩ := ba z
  obtain ⟨h_ic_BadColumn, h_tc_BadColumn, h_sB_BadSpots, h_ic_BadSpots, h_tc_BadSpots, h_sB_TooMany, h_ic_TooMany, h_tc_TooMany, h_sB_BadFont, h_ic_BadFont, h_tc_BadFont, h_sB_BadLetter⟩ := (of_decide_eq_true z3 : F3 K)
  obtain ⟨z4, z⟩ := ba z
  obtain ⟨h_ic_BadLetter, h_tc_BadLetter, h_sB_BadGlyph, h_ic_BadGlyph, h_tc_BadGlyph, h_sB_DuplicateLetter, h_ic_DuplicateLetter, h_tc_DuplicateLetter, h_sB_UnknownLetter, h_ic_UnknownLetter, h_tc_UnknownLetter, h_ic_Scheme⟩ := (of_decide_eq_true z4 : F4 K)
  obtain ⟨z5, z⟩ := ba z
  obtain ⟨h_tc_Scheme, h_ic_Font, h_tc_Font, h_sa_BadScheme, h_kc_BadScheme, h_nb_BadScheme, h_ai_BadScheme, h_ti_BadScheme, h_ki_BadScheme, h_ga_BadScheme, h_gg_BadScheme, h_hd_BadScheme⟩ := (of_decide_eq_true z5 : F5 K)
  obtain ⟨z6, z⟩ := ba z
  obtain ⟨h_ha_BadScheme, h_hm_BadScheme, h_sa_BadColumn, h_kc_BadColumn, h_nb_BadColumn, h_ai_BadColumn, h_ti_BadColumn, h_ki_BadColumn, h_ga_BadColumn, h_gg_BadColumn, h_hd_BadColumn, h_ha_BadColumn⟩ := (of_decide_eq_true z6 : F6 K)
  obtain ⟨z7, z⟩ := ba z
  obtain ⟨h_hm_BadColumn, h_sa_BadSpots, h_kc_BadSpots, h_nb_BadSpots, h_ai_BadSpots, h_ti_BadSpots, h_ki_BadSpots, h_ga_BadSpots, h_gg_BadSpots, h_hd_BadSpots, h_ha_BadSpots, h_hm_BadSpots⟩ := (of_decide_eq_true z7 : F7 K)
  obtain ⟨z8, z⟩ := ba z
  obtain ⟨h_sa_TooMany, h_kc_TooMany, h_nb_TooMany, h_ai_TooMany, h_ti_TooMany, h_ki_TooMany, h_ga_TooMany, h_gg_TooMany, h_hd_TooMany, h_ha_TooMany, h_hm_TooMany, h_sa_BadFont⟩ := (of_decide_eq_true z8 : F8 K)
  obtain ⟨z9, z⟩ := ba z
  obtain ⟨h_kc_BadFont, h_nb_BadFont, h_ai_BadFont, h_ti_BadFont, h_ki_BadFont, h_ga_BadFont, h_gg_BadFont, h_hd_BadFont, h_ha_BadFont, h_hm_BadFont, h_sa_BadLetter, h_kc_BadLetter⟩ := (of_decide_eq_true z9 : F9 K)
  obtain ⟨z10, z⟩ := ba z
  obtain ⟨h_nb_BadLetter, h_ai_BadLetter, h_ti_BadLetter, h_ki_BadLetter, h_ga_BadLetter, h_gg_BadLetter, h_hd_BadLetter, h_ha_BadLetter, h_hm_BadLetter, h_sa_BadGlyph, h_kc_BadGlyph, h_nb_BadGlyph⟩ := (of_decide_eq_true z10 : F10 K)
  obtain ⟨z11, z⟩ := ba z
  obtain ⟨h_ai_BadGlyph, h_ti_BadGlyph, h_ki_BadGlyph, h_ga_BadGlyph, h_gg_BadGlyph, h_hd_BadGlyph, h_ha_BadGlyph, h_hm_BadGlyph, h_sa_DuplicateLetter, h_kc_DuplicateLetter, h_nb_DuplicateLetter, h_ai_DuplicateLetter⟩ := (of_decide_eq_true z11 : F11 K)
  obtain ⟨z12, z⟩ := ba z
  obtain ⟨h_ti_DuplicateLetter, h_ki_DuplicateLetter, h_ga_DuplicateLetter, h_gg_DuplicateLetter, h_hd_DuplicateLetter, h_ha_DuplicateLetter, h_hm_DuplicateLetter, h_sa_UnknownLetter, h_kc_UnknownLetter, h_nb_UnknownLetter, h_nd_UnknownLetter, h_ai_UnknownLetter⟩ := (of_decide_eq_true z12 : F12 K)
  obtain ⟨z13, z⟩ := ba z
  obtain ⟨h_ti_UnknownLetter, h_ki_UnknownLetter, h_ga_UnknownLetter, h_gg_UnknownLetter, h_hd_UnknownLetter, h_ha_UnknownLetter, h_hm_UnknownLetter, h_pg_Scheme, h_hd_Scheme, h_po_Scheme, h_sa_Scheme, h_mk_Scheme⟩ := (of_decide_eq_true z13 : F13 K)
  obtain ⟨z14, z⟩ := ba z
  obtain ⟨h_kc_Scheme, h_am_Scheme___init__, h_im_Scheme___init__, h_km_Scheme___init__, h_am_Scheme___eq__, h_im_Scheme___eq__, h_km_Scheme___eq__, h_am_Scheme_is_strip, h_im_Scheme_is_strip, h_km_Scheme_is_strip, h_pg_Font, h_hd_Font⟩ := (of_decide_eq_true z14 : F14 K)
  obtain ⟨z15, z⟩ := ba z
  obtain ⟨h_po_Font, h_sa_Font, h_mk_Font, h_kc_Font, h_am_Font___init__, h_im_Font___init__, h_km_Font___init__, h_cg_Font_read, h_cr_Font_read, h_cf_Font_read, h_km_Font_read, h_am_Font___getitem__⟩ := (of_decide_eq_true z15 : F15 K)
  obtain ⟨z16, z⟩ := ba z
  obtain ⟨h_im_Font___getitem__, h_km_Font___getitem__, h_am_Font___contains__, h_im_Font___contains__, h_km_Font___contains__, h_am_Font___len__, h_im_Font___len__, h_km_Font___len__, h_am_Font___eq__, h_im_Font___eq__, h_km_Font___eq__, h_am_Font___str__⟩ := (of_decide_eq_true z16 : F16 K)
  obtain ⟨z17, z⟩ := ba z
  obtain ⟨h_im_Font___str__, h_km_Font___str__, h_am_Font_printed, h_im_Font_printed, h_km_Font_printed, h_ad_check_gap, h_kd_check_gap, h_ad_is_letter, h_kd_is_letter, h_ad_law_purse, h_kd_law_purse, h_ad_law_draw⟩ := (of_decide_eq_true z17 : F17 K)
  obtain ⟨z18, z⟩ := ba z
  obtain ⟨h_kd_law_draw, h_ad_law_kind, h_kd_law_kind, h_ad_law_word, h_kd_law_word, h_ad_law_fresh, h_kd_law_fresh, h_ad_law_is_word, h_kd_law_is_word, h_ad_law_odd_word, h_kd_law_odd_word, h_ad_law_pairs⟩ := (of_decide_eq_true z18 : F18 K)
  obtain ⟨z19, z⟩ := ba z
  obtain ⟨h_kd_law_pairs, h_ad_law_due, h_kd_law_due, h_ad_law_line, h_kd_law_line, h_ad_law_parts, h_kd_law_parts, h_ad_law_told, h_kd_law_told, h_ad_law_made, h_kd_law_made, h_ad_law_read⟩ := (of_decide_eq_true z19 : F19 K)
  obtain ⟨z20, z⟩ := ba z
  obtain ⟨h_kd_law_read, h_ad_law_glyph, h_kd_law_glyph, h_ad_law_print, h_kd_law_print, h_ad_law_shuffled, h_kd_law_shuffled, h_ad_law_fields, h_kd_law_fields, h_ad_law_members, h_kd_law_members, h_ad_law_prints⟩ := (of_decide_eq_true z20 : F20 K)
  obtain ⟨z21, z⟩ := ba z
  obtain ⟨h_kd_law_prints, h_ad_law_unlike, h_kd_law_unlike, h_ad_law_good, h_kd_law_good, h_ad_law_bent, h_kd_law_bent, h_ad_law, h_kd_law, h_i_hn, h_i_ht, h_nn_Scheme_rows⟩ := (of_decide_eq_true z21 : F21 K)
  obtain ⟨z22, z⟩ := ba z
  obtain ⟨h_nn_Scheme_colours, h_nn_Scheme_columns, h_f_Scheme_MOST, h_s_Scheme_MOST, h_f_Scheme_BLANK, h_s_Scheme_BLANK, h_i_ha, h_i_hm, h_nf_Scheme_int, h_nf_Scheme_str, h_s_int_Scheme, h_s_str_Scheme⟩ := (of_decide_eq_true z22 : F22 K)
  obtain ⟨z23, z⟩ := ba z
  obtain ⟨h_nn_Font_scheme, h_nn_Font_gap, h_nn_Font_glyphs, h_nn_Font__told, h_f_Font_MOST, h_s_Font_MOST, h_rS_Font, h_gS_Font, h_cv_Font_MOST, h_y_ha, h_y_hm, h_nf_Font_int⟩ := (of_decide_eq_true z23 : F23 K)
  obtain ⟨z24, z⟩ := ba z
  obtain ⟨h_nf_Font_str, h_nf_Font_list, h_s_int_Font, h_s_str_Font, h_s_list_Font, h_ss_0, h_s_0_1, h_ne_0_1, h_s_0_2, h_ne_0_2, h_s_0_3, h_ne_0_3⟩ := (of_decide_eq_true z24 : F24 K)
  obtain ⟨z25, z⟩ := ba z
  obtain ⟨h_s_0_4, h_ne_0_4, h_s_0_5, h_ne_0_5, h_s_0_6, h_ne_0_6, h_s_0_7, h_ne_0_7, h_s_0_8, h_ne_0_8, h_s_1_0, h_ne_1_0⟩ := (of_decide_eq_true z25 : F25 K)
  obtain ⟨z26, z⟩ := ba z
  obtain ⟨h_ss_1, h_s_1_2, h_ne_1_2, h_s_1_3, h_ne_1_3, h_s_1_4, h_ne_1_4, h_s_1_5, h_ne_1_5, h_s_1_6, h_ne_1_6, h_s_1_7⟩ := (of_decide_eq_true z26 : F26 K)
  obtain ⟨z27, z⟩ := ba z
  obtain ⟨h_ne_1_7, h_s_1_8, h_ne_1_8, h_s_2_0, h_ne_2_0, h_s_2_1, h_ne_2_1, h_ss_2, h_s_2_3, h_ne_2_3, h_s_2_4, h_ne_2_4⟩ := (of_decide_eq_true z27 : F27 K)
  obtain ⟨z28, z⟩ := ba z
  obtain ⟨h_s_2_5, h_ne_2_5, h_s_2_6, h_ne_2_6, h_s_2_7, h_ne_2_7, h_s_2_8, h_ne_2_8, h_s_3_0, h_ne_3_0, h_s_3_1, h_ne_3_1⟩ := (of_decide_eq_true z28 : F28 K)
  obtain ⟨z29, z⟩ := ba z
  obtain ⟨h_s_3_2, h_ne_3_2, h_ss_3, h_s_3_4, h_ne_3_4, h_s_3_5, h_ne_3_5, h_s_3_6, h_ne_3_6, h_s_3_7, h_ne_3_7, h_s_3_8⟩ := (of_decide_eq_true z29 : F29 K)
  obtain ⟨z30, z⟩ := ba z
  obtain ⟨h_ne_3_8, h_s_4_0, h_ne_4_0, h_s_4_1, h_ne_4_1, h_s_4_2, h_ne_4_2, h_s_4_3, h_ne_4_3, h_ss_4, h_s_4_5, h_ne_4_5⟩ := (of_decide_eq_true z30 : F30 K)
  obtain ⟨z31, z⟩ := ba z
  obtain ⟨h_s_4_6, h_ne_4_6, h_s_4_7, h_ne_4_7, h_s_4_8, h_ne_4_8, h_s_5_0, h_ne_5_0, h_s_5_1, h_ne_5_1, h_s_5_2, h_ne_5_2⟩ := (of_decide_eq_true z31 : F31 K)
  obtain ⟨z32, z⟩ := ba z
  obtain ⟨h_s_5_3, h_ne_5_3, h_s_5_4, h_ne_5_4, h_ss_5, h_s_5_6, h_ne_5_6, h_s_5_7, h_ne_5_7, h_s_5_8, h_ne_5_8, h_s_6_0⟩ := (of_decide_eq_true z32 : F32 K)
  obtain ⟨z33, z⟩ := ba z
  obtain ⟨h_ne_6_0, h_s_6_1, h_ne_6_1, h_s_6_2, h_ne_6_2, h_s_6_3, h_ne_6_3, h_s_6_4, h_ne_6_4, h_s_6_5, h_ne_6_5, h_ss_6⟩ := (of_decide_eq_true z33 : F33 K)
  obtain ⟨z34, z⟩ := ba z
  obtain ⟨h_s_6_7, h_ne_6_7, h_s_6_8, h_ne_6_8, h_s_7_0, h_ne_7_0, h_s_7_1, h_ne_7_1, h_s_7_2, h_ne_7_2, h_s_7_3, h_ne_7_3⟩ := (of_decide_eq_true z34 : F34 K)
  obtain ⟨z35, z⟩ := ba z
  obtain ⟨h_s_7_4, h_ne_7_4, h_s_7_5, h_ne_7_5, h_s_7_6, h_ne_7_6, h_ss_7, h_s_7_8, h_ne_7_8, h_s_8_0, h_ne_8_0, h_s_8_1⟩ := (of_decide_eq_true z35 : F35 K)
  obtain ⟨z36, z⟩ := ba z
  obtain ⟨h_ne_8_1, h_s_8_2, h_ne_8_2, h_s_8_3, h_ne_8_3, h_s_8_4, h_ne_8_4, h_s_8_5, h_ne_8_5, h_s_8_6, h_ne_8_6, h_s_8_7⟩ := (of_decide_eq_true z36 : F36 K)
  obtain ⟨z37, z⟩ := ba z
  obtain ⟨h_ne_8_7, h_ss_8, h_sv_0, h_sv_1, h_sv_2, h_sv_3, h_sv_4, h_sv_5, h_sv_6, h_sv_7, h_sv_8, h_sg_0⟩ := (of_decide_eq_true z37 : F37 K)
  obtain ⟨z38, z⟩ := ba z
  obtain ⟨h_sg_1, h_sg_2, h_sg_3, h_sg_4, h_sg_5, h_sg_6, h_sg_7, h_sg_8, h_ne_g_0, h_ne_g_1, h_ne_g_2, h_ne_g_3⟩ := (of_decide_eq_true z38 : F38 K)
  obtain ⟨z39, z⟩ := ba z
  obtain ⟨h_ne_g_4, h_ne_g_5, h_ne_g_6, h_ne_g_7, h_ne_g_8, h_xb_CBadScheme, h_xb_CBadColumn, h_xb_CBadSpots, h_xb_CTooMany, h_xb_CBadFont, h_xb_CBadLetter, h_xb_CBadGlyph⟩ := (of_decide_eq_true z39 : F39 K)
  obtain ⟨z40, z⟩ := ba z
  obtain ⟨h_xb_CDuplicateLetter, h_xb_CUnknownLetter⟩ := (of_decide_eq_true z40 : F40 K)
  obtain ⟨_, _, _, _, _, _, _, _, _, _, _, _, _, _, _, x_CBadScheme, r_CBadScheme⟩ := excB_ok h_xb_CBadScheme
  obtain ⟨_, _, _, _, _, _, _, _, _, _, _, _, _, _, _, x_CBadColumn, r_CBadColumn⟩ := excB_ok h_xb_CBadColumn
  obtain ⟨_, _, _, _, _, _, _, _, _, _, _, _, _, _, _, x_CBadSpots, r_CBadSpots⟩ := excB_ok h_xb_CBadSpots
  obtain ⟨_, _, _, _, _, _, _, _, _, _, _, _, _, _, _, x_CTooMany, r_CTooMany⟩ := excB_ok h_xb_CTooMany
  obtain ⟨_, _, _, _, _, _, _, _, _, _, _, _, _, _, _, x_CBadFont, r_CBadFont⟩ := excB_ok h_xb_CBadFont
  obtain ⟨_, _, _, _, _, _, _, _, _, _, _, _, _, _, _, x_CBadLetter, r_CBadLetter⟩ := excB_ok h_xb_CBadLetter
  obtain ⟨_, _, _, _, _, _, _, _, _, _, _, _, _, _, _, x_CBadGlyph, r_CBadGlyph⟩ := excB_ok h_xb_CBadGlyph
  obtain ⟨_, _, _, _, _, _, _, _, _, _, _, _, _, _, _, x_CDuplicateLetter, r_CDuplicateLetter⟩ := excB_ok h_xb_CDuplicateLetter
  obtain ⟨_, _, _, _, _, _, _, _, _, _, _, _, _, _, _, x_CUnknownLetter, r_CUnknownLetter⟩ := excB_ok h_xb_CUnknownLetter
  obtain ⟨_, _, _, _, _, _, _, _, _, l_f1, c_f1⟩ := c.fnA m_f1
  obtain ⟨_, _, _, _, _, _, _, _, _, l_f2, c_f2⟩ := c.fnA m_f2
  obtain ⟨_, _, _, _, _, _, _, _, _, l_f3, c_f3⟩ := c.fnA m_f3
  obtain ⟨_, _, _, _, _, _, _, _, _, l_f4, c_f4⟩ := c.fnA m_f4
  obtain ⟨_, _, _, _, _, _, _, _, _, l_f5, c_f5⟩ := c.fnA m_f5
  obtain ⟨_, _, _, _, _, _, _, _, _, l_f6, c_f6⟩ := c.fnA m_f6
  obtain ⟨_, _, _, _, _, _, _, _, _, l_f7, c_f7⟩ := c.fnA m_f7
  obtain ⟨_, _, _, _, _, _, _, _, _, l_f8, c_f8⟩ := c.fnA m_f8
  obtain ⟨_, _, _, _, _, _, _, _, _, l_f9, c_f9⟩ := c.fnA m_f9
  obtain ⟨_, _, _, _, _, _, _, _, _, l_f10, c_f10⟩ := c.fnA m_f10
  obtain ⟨_, _, _, _, _, _, _, _, _, l_f11, c_f11⟩ := c.fnA m_f11
  obtain ⟨_, _, _, _, _, _, _, _, _, l_f12, c_f12⟩ := c.fnA m_f12
  obtain ⟨_, _, _, _, _, _, _, _, _, l_f13, c_f13⟩ := c.fnA m_f13
  obtain ⟨_, _, _, _, _, _, _, _, _, l_f14, c_f14⟩ := c.fnA m_f14
  obtain ⟨_, _, _, _, _, _, _, _, _, l_f15, c_f15⟩ := c.fnA m_f15
  obtain ⟨_, _, _, _, _, _, _, _, _, l_f16, c_f16⟩ := c.fnA m_f16
  obtain ⟨_, _, _, _, _, _, _, _, _, l_f17, c_f17⟩ := c.fnA m_f17
  obtain ⟨_, _, _, _, _, _, _, _, _, l_f18, c_f18⟩ := c.fnA m_f18
  obtain ⟨_, _, _, _, _, _, _, _, _, l_f19, c_f19⟩ := c.fnA m_f19
  obtain ⟨_, _, _, _, _, _, _, _, _, l_f20, c_f20⟩ := c.fnA m_f20
  obtain ⟨_, _, _, _, _, _, _, _, _, l_f21, c_f21⟩ := c.fnA m_f21
  obtain ⟨_, _, _, _, _, _, _, _, _, l_f22, c_f22⟩ := c.fnA m_f22
  obtain ⟨_, _, _, _, _, _, _, _, _, l_f23, c_f23⟩ := c.fnA m_f23
  obtain ⟨_, _, _, _, _, _, _, _, _, l_f24, c_f24⟩ := c.fnA m_f24
  obtain ⟨_, _, _, _, _, _, _, _, _, l_f25, c_f25⟩ := c.fnA m_f25
  obtain ⟨_, _, _, _, _, _, _, _, _, l_f26, c_f26⟩ := c.fnA m_f26
  obtain ⟨_, _, _, _, _, _, _, _, _, l_f27, c_f27⟩ := c.fnA m_f27
  obtain ⟨_, _, _, _, _, _, _, _, _, l_f28, c_f28⟩ := c.fnA m_f28
  obtain ⟨_, _, _, _, _, _, _, _, _, l_f29, c_f29⟩ := c.fnA m_f29
  obtain ⟨_, _, _, _, _, _, _, _, _, l_f30, c_f30⟩ := c.fnA m_f30
  obtain ⟨_, _, _, _, _, _, _, _, _, l_f31, c_f31⟩ := c.fnA m_f31
  obtain ⟨_, _, _, _, _, _, _, _, _, l_f32, c_f32⟩ := c.fnA m_f32
  obtain ⟨_, _, _, _, _, _, _, _, _, l_f33, c_f33⟩ := c.fnA m_f33
  obtain ⟨_, _, _, _, _, _, _, _, _, l_f34, c_f34⟩ := c.fnA m_f34
  obtain ⟨_, _, _, _, _, _, _, _, _, l_f35, c_f35⟩ := c.fnA m_f35
  obtain ⟨_, _, _, _, _, _, _, _, _, l_f36, c_f36⟩ := c.fnA m_f36
  obtain ⟨_, _, _, _, _, _, _, _, _, l_f37, c_f37⟩ := c.fnA m_f37
  obtain ⟨_, _, _, _, _, _, _, _, _, l_f38, c_f38⟩ := c.fnA m_f38
  obtain ⟨_, _, _, _, _, _, _, _, _, l_f39, c_f39⟩ := c.fnA m_f39
  obtain ⟨_, _, _, _, _, _, _, _, _, l_f40, c_f40⟩ := c.fnA m_f40
  obtain ⟨_, _, _, _, _, _, _, _, _, l_f41, c_f41⟩ := c.fnA m_f41
  obtain ⟨_, _, _, _, _, _, _, _, _, l_f42, c_f42⟩ := c.fnA m_f42
  obtain ⟨_, _, _, _, _, _, _, _, _, l_f43, c_f43⟩ := c.fnA m_f43
  obtain ⟨_, _, _, _, _, _, _, _, _, l_f44, c_f44⟩ := c.fnA m_f44
  obtain ⟨_, _, _, _, _, _, _, _, _, l_f45, c_f45⟩ := c.fnA m_f45
  obtain ⟨_, _, _, _, _, _, _, _, _, l_f46, c_f46⟩ := c.fnA m_f46
  exact ⟨_, mkTxt X G h_a_GalloonError h_a_BadScheme h_a_BadColumn h_a_BadSpots h_a_TooMany h_a_BadFont h_a_BadLetter h_a_BadGlyph h_a_DuplicateLetter h_a_UnknownLetter h_a_Scheme h_a_Font h_z_ValueError h_z_all h_z_classmethod h_z_enumerate h_z_int h_z_isinstance h_z_len h_z_list h_z_range h_z_sorted h_z_str h_z_tuple h_v_DIGITS h_v_LETTERS h_v_ALPHABET h_v_MOST_GAP h_v_MOST_GLYPH h_sB_GalloonError h_ic_GalloonError h_tc_GalloonError h_sB_BadScheme h_ic_BadScheme h_tc_BadScheme h_sB_BadColumn h_ic_BadColumn h_tc_BadColumn h_sB_BadSpots h_ic_BadSpots h_tc_BadSpots h_sB_TooMany h_ic_TooMany h_tc_TooMany h_sB_BadFont h_ic_BadFont h_tc_BadFont h_sB_BadLetter h_ic_BadLetter h_tc_BadLetter h_sB_BadGlyph h_ic_BadGlyph h_tc_BadGlyph h_sB_DuplicateLetter h_ic_DuplicateLetter h_tc_DuplicateLetter h_sB_UnknownLetter h_ic_UnknownLetter h_tc_UnknownLetter h_ic_Scheme h_tc_Scheme h_ic_Font h_tc_Font x_CBadScheme r_CBadScheme h_sa_BadScheme h_kc_BadScheme h_nb_BadScheme h_ai_BadScheme h_ti_BadScheme l_f1 c_f1 h_ki_BadScheme h_ga_BadScheme h_gg_BadScheme h_hd_BadScheme h_ha_BadScheme h_hm_BadScheme x_CBadColumn r_CBadColumn h_sa_BadColumn h_kc_BadColumn h_nb_BadColumn h_ai_BadColumn h_ti_BadColumn l_f2 c_f2 h_ki_BadColumn h_ga_BadColumn h_gg_BadColumn h_hd_BadColumn h_ha_BadColumn h_hm_BadColumn x_CBadSpots r_CBadSpots h_sa_BadSpots h_kc_BadSpots h_nb_BadSpots h_ai_BadSpots h_ti_BadSpots l_f3 c_f3 h_ki_BadSpots h_ga_BadSpots h_gg_BadSpots h_hd_BadSpots h_ha_BadSpots h_hm_BadSpots x_CTooMany r_CTooMany h_sa_TooMany h_kc_TooMany h_nb_TooMany h_ai_TooMany h_ti_TooMany l_f4 c_f4 h_ki_TooMany h_ga_TooMany h_gg_TooMany h_hd_TooMany h_ha_TooMany h_hm_TooMany x_CBadFont r_CBadFont h_sa_BadFont h_kc_BadFont h_nb_BadFont h_ai_BadFont h_ti_BadFont l_f5 c_f5 h_ki_BadFont h_ga_BadFont h_gg_BadFont h_hd_BadFont h_ha_BadFont h_hm_BadFont x_CBadLetter r_CBadLetter h_sa_BadLetter h_kc_BadLetter h_nb_BadLetter h_ai_BadLetter h_ti_BadLetter l_f6 c_f6 h_ki_BadLetter h_ga_BadLetter h_gg_BadLetter h_hd_BadLetter h_ha_BadLetter h_hm_BadLetter x_CBadGlyph r_CBadGlyph h_sa_BadGlyph h_kc_BadGlyph h_nb_BadGlyph h_ai_BadGlyph h_ti_BadGlyph l_f7 c_f7 h_ki_BadGlyph h_ga_BadGlyph h_gg_BadGlyph h_hd_BadGlyph h_ha_BadGlyph h_hm_BadGlyph x_CDuplicateLetter r_CDuplicateLetter h_sa_DuplicateLetter h_kc_DuplicateLetter h_nb_DuplicateLetter h_ai_DuplicateLetter h_ti_DuplicateLetter l_f8 c_f8 h_ki_DuplicateLetter h_ga_DuplicateLetter h_gg_DuplicateLetter h_hd_DuplicateLetter h_ha_DuplicateLetter h_hm_DuplicateLetter x_CUnknownLetter r_CUnknownLetter h_sa_UnknownLetter h_kc_UnknownLetter h_nb_UnknownLetter h_nd_UnknownLetter h_ai_UnknownLetter h_ti_UnknownLetter l_f9 c_f9 h_ki_UnknownLetter h_ga_UnknownLetter h_gg_UnknownLetter h_hd_UnknownLetter h_ha_UnknownLetter h_hm_UnknownLetter h_pg_Scheme h_hd_Scheme h_po_Scheme h_sa_Scheme h_mk_Scheme h_kc_Scheme h_am_Scheme___init__ h_im_Scheme___init__ l_f10 c_f10 h_km_Scheme___init__ h_am_Scheme___eq__ h_im_Scheme___eq__ l_f11 c_f11 h_km_Scheme___eq__ h_am_Scheme_is_strip h_im_Scheme_is_strip l_f12 c_f12 h_km_Scheme_is_strip h_pg_Font h_hd_Font h_po_Font h_sa_Font h_mk_Font h_kc_Font h_am_Font___init__ h_im_Font___init__ l_f13 c_f13 h_km_Font___init__ (cfG_ok h_cg_Font_read) h_cr_Font_read h_cf_Font_read l_f14 c_f14 h_km_Font_read h_am_Font___getitem__ h_im_Font___getitem__ l_f15 c_f15 h_km_Font___getitem__ h_am_Font___contains__ h_im_Font___contains__ l_f16 c_f16 h_km_Font___contains__ h_am_Font___len__ h_im_Font___len__ l_f17 c_f17 h_km_Font___len__ h_am_Font___eq__ h_im_Font___eq__ l_f18 c_f18 h_km_Font___eq__ h_am_Font___str__ h_im_Font___str__ l_f19 c_f19 h_km_Font___str__ h_am_Font_printed h_im_Font_printed l_f20 c_f20 h_km_Font_printed h_ad_check_gap l_f21 c_f21 h_kd_check_gap h_ad_is_letter l_f22 c_f22 h_kd_is_letter h_ad_law_purse l_f23 c_f23 h_kd_law_purse h_ad_law_draw l_f24 c_f24 h_kd_law_draw h_ad_law_kind l_f25 c_f25 h_kd_law_kind h_ad_law_word l_f26 c_f26 h_kd_law_word h_ad_law_fresh l_f27 c_f27 h_kd_law_fresh h_ad_law_is_word l_f28 c_f28 h_kd_law_is_word h_ad_law_odd_word l_f29 c_f29 h_kd_law_odd_word h_ad_law_pairs l_f30 c_f30 h_kd_law_pairs h_ad_law_due l_f31 c_f31 h_kd_law_due h_ad_law_line l_f32 c_f32 h_kd_law_line h_ad_law_parts l_f33 c_f33 h_kd_law_parts h_ad_law_told l_f34 c_f34 h_kd_law_told h_ad_law_made l_f35 c_f35 h_kd_law_made h_ad_law_read l_f36 c_f36 h_kd_law_read h_ad_law_glyph l_f37 c_f37 h_kd_law_glyph h_ad_law_print l_f38 c_f38 h_kd_law_print h_ad_law_shuffled l_f39 c_f39 h_kd_law_shuffled h_ad_law_fields l_f40 c_f40 h_kd_law_fields h_ad_law_members l_f41 c_f41 h_kd_law_members h_ad_law_prints l_f42 c_f42 h_kd_law_prints h_ad_law_unlike l_f43 c_f43 h_kd_law_unlike h_ad_law_good l_f44 c_f44 h_kd_law_good h_ad_law_bent l_f45 c_f45 h_kd_law_bent h_ad_law l_f46 c_f46 h_kd_law h_i_hn h_i_ht h_nn_Scheme_rows h_nn_Scheme_colours h_nn_Scheme_columns h_f_Scheme_MOST h_s_Scheme_MOST h_f_Scheme_BLANK h_s_Scheme_BLANK h_i_ha h_i_hm h_nf_Scheme_int h_nf_Scheme_str h_s_int_Scheme h_s_str_Scheme h_nn_Font_scheme h_nn_Font_gap h_nn_Font_glyphs h_nn_Font__told h_f_Font_MOST h_s_Font_MOST h_rS_Font h_gS_Font (cfV_ok h_cv_Font_MOST) h_y_ha h_y_hm h_nf_Font_int h_nf_Font_str h_nf_Font_list h_s_int_Font h_s_str_Font h_s_list_Font h_ss_0 h_s_0_1 h_ne_0_1 h_s_0_2 h_ne_0_2 h_s_0_3 h_ne_0_3 h_s_0_4 h_ne_0_4 h_s_0_5 h_ne_0_5 h_s_0_6 h_ne_0_6 h_s_0_7 h_ne_0_7 h_s_0_8 h_ne_0_8 h_s_1_0 h_ne_1_0 h_ss_1 h_s_1_2 h_ne_1_2 h_s_1_3 h_ne_1_3 h_s_1_4 h_ne_1_4 h_s_1_5 h_ne_1_5 h_s_1_6 h_ne_1_6 h_s_1_7 h_ne_1_7 h_s_1_8 h_ne_1_8 h_s_2_0 h_ne_2_0 h_s_2_1 h_ne_2_1 h_ss_2 h_s_2_3 h_ne_2_3 h_s_2_4 h_ne_2_4 h_s_2_5 h_ne_2_5 h_s_2_6 h_ne_2_6 h_s_2_7 h_ne_2_7 h_s_2_8 h_ne_2_8 h_s_3_0 h_ne_3_0 h_s_3_1 h_ne_3_1 h_s_3_2 h_ne_3_2 h_ss_3 h_s_3_4 h_ne_3_4 h_s_3_5 h_ne_3_5 h_s_3_6 h_ne_3_6 h_s_3_7 h_ne_3_7 h_s_3_8 h_ne_3_8 h_s_4_0 h_ne_4_0 h_s_4_1 h_ne_4_1 h_s_4_2 h_ne_4_2 h_s_4_3 h_ne_4_3 h_ss_4 h_s_4_5 h_ne_4_5 h_s_4_6 h_ne_4_6 h_s_4_7 h_ne_4_7 h_s_4_8 h_ne_4_8 h_s_5_0 h_ne_5_0 h_s_5_1 h_ne_5_1 h_s_5_2 h_ne_5_2 h_s_5_3 h_ne_5_3 h_s_5_4 h_ne_5_4 h_ss_5 h_s_5_6 h_ne_5_6 h_s_5_7 h_ne_5_7 h_s_5_8 h_ne_5_8 h_s_6_0 h_ne_6_0 h_s_6_1 h_ne_6_1 h_s_6_2 h_ne_6_2 h_s_6_3 h_ne_6_3 h_s_6_4 h_ne_6_4 h_s_6_5 h_ne_6_5 h_ss_6 h_s_6_7 h_ne_6_7 h_s_6_8 h_ne_6_8 h_s_7_0 h_ne_7_0 h_s_7_1 h_ne_7_1 h_s_7_2 h_ne_7_2 h_s_7_3 h_ne_7_3 h_s_7_4 h_ne_7_4 h_s_7_5 h_ne_7_5 h_s_7_6 h_ne_7_6 h_ss_7 h_s_7_8 h_ne_7_8 h_s_8_0 h_ne_8_0 h_s_8_1 h_ne_8_1 h_s_8_2 h_ne_8_2 h_s_8_3 h_ne_8_3 h_s_8_4 h_ne_8_4 h_s_8_5 h_ne_8_5 h_s_8_6 h_ne_8_6 h_s_8_7 h_ne_8_7 h_ss_8 h_sv_0 h_sv_1 h_sv_2 h_sv_3 h_sv_4 h_sv_5 h_sv_6 h_sv_7 h_sv_8 h_sg_0 h_sg_1 h_sg_2 h_sg_3 h_sg_4 h_sg_5 h_sg_6 h_sg_7 h_sg_8 h_ne_g_0 h_ne_g_1 h_ne_g_2 h_ne_g_3 h_ne_g_4 h_ne_g_5 h_ne_g_6 h_ne_g_7 h_ne_g_8⟩
end K32.HF

end
set_option Elab.async false
set_option linter.all false
set_option maxRecDepth 100000
set_option maxHeartbeats 0
namespace K32
open PySem PySem.W PySem.Calls PyProof.Rows
abbrev R : OpenRow := OpenLaw.row PySem.Challenge.rw_galloon_k32_fonts_and_prints
abbrev qv : Program := view R.prog [47]
def names0 : List PySem.Str := [("_wall" : PySem.Str), "GalloonError", "BadScheme", "BadColumn", "BadSpots", "TooMany", "BadFont", "BadLetter", "BadGlyph", "DuplicateLetter", "UnknownLetter", "DIGITS", "LETTERS", "Scheme", "ALPHABET"]
def names1 : List PySem.Str := [("MOST_GAP" : PySem.Str), "MOST_GLYPH", "Font", "check_gap", "is_letter", "_law_purse", "_law_draw", "_law_kind", "_law_word", "_law_fresh", "_law_is_word", "_law_odd_word", "_law_pairs", "_law_due", "_law_line"]
def names2 : List PySem.Str := [("_law_parts" : PySem.Str), "_law_told", "_law_made", "_law_read", "_law_glyph", "_law_print", "_law_shuffled", "_law_fields", "_law_members", "_law_prints", "_law_unlike", "_law_good", "_law_bent"]
def names : List PySem.Str := names0 ++ (names1 ++ (names2))
abbrev hk : Hook := Hd.hook 5 HF.fb HF.fns
def ob (s : SharedT) : Hd.Al := Hd.obsH 5 HF.fb HF.fns (HandSHeadRun.getT s)
theorem ob_eq (s : SharedT) : ob s = hk.obs s.abs := Hd.obsH_eq (HandSHeadRun.getT_eq s)
theorem run (w : World) : HandSHeadRun.RunEq R qv hk ob 30000 names w := by
  intro os
  kernel_rfl
open PySem.Spec L2 in
theorem walkX {q : Program} {loose : List Str} {XP : (Str → Option Value) → Heap → Prop} {d : DefRec} (hdf : d.params.defaults = []) (hd : d.name = "law") :
    PySem.W.WalkO q loose XP hk.says (PySem.Challenge.rw_galloon_k32_fonts_and_prints).row.toRowW d [] (fun f vs => PySem.call f vs) :=
  LamX.walk_ofTsE (l := PySem.Challenge.rw_galloon_k32_fonts_and_prints) (n := 63) (k := 12) (x := "script") (CX := fun w => L2.CX (PySem.Challenge.rw_galloon_k32_fonts_and_prints).prog w) rfl (by decide) hdf ⟨rfl, by decide, by decide⟩
    (fun w mg fa h Y G hmg => by
      obtain ⟨K, KX, c⟩ := Y
      obtain ⟨a, T⟩ := HF.facts KX G c
      obtain ⟨fd, hb, F⟩ := law_F (l := PySem.Challenge.rw_galloon_k32_fonts_and_prints) (w := w) T (hd ▸ hmg)
      exact ⟨K, KX, fd, [], spLaw K, nofun, nofun, nofun, hb, fun _ a ns hl _ _ hS => ⟨a, ns, rfl, hS, hl, fun _ => rfl⟩, fun base h1 h2 _ => F base h1 h2⟩)
    fun _ _ _ _ _ z => by
      obtain ⟨_, _, _, _, _, _, _, _, _, _, _, _, x⟩ := z
      exact x
end K32
open PySem PySem.W PySem.Calls PyProof.Rows
theorem PySem.Challenge.cw_galloon_k32_fonts_and_prints_holds : PySem.Challenge.rw_galloon_k32_fonts_and_prints.Holds := by
  w_on; o_law
  refine HandSHeadRun.head_any (r := OpenLaw.row PySem.Challenge.rw_galloon_k32_fonts_and_prints) (q := K32.qv) (H := K32.hk) (ob := K32.ob) (M := 30000) (loose := K32.names) (kwd := []) K32.ob_eq (by kernel_rfl) (fun s => by kernel_rfl) K32.run (by rfl) (by rfl) (by rfl) (by rfl) (by first | assumption | decide +kernel) (by decide +kernel) ⟨rfl, rfl, rfl, rfl, rfl, by decide +kernel⟩ ?hw ?hc
  case hw => w_witness2
  case hc => exact K32.walkX rfl rfl

