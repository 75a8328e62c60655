import PyProof.Rows.All
import Wide.All
import OpenK.AllK
import Wide.FinOn
import KE.KStateDown
import HandS.Base
import HandS.Call
import HandS.Ends
import HandS.Exc
import HandS.HeadHook1
import HandS.HeadHook2
import HandS.HeadHook3
import HandS.Head0
import HandS.Head1
import HandS.Head2
import HandS.ForMost
import HandS.TryOnly
import HandS.ExcOwn
import HandS.WordsExc
import HandS.ExcInit
import HandS.ExcField
import HandS.ExcIs
import HandS.HotCalls
import HandS.IsInst
import HandS.ClsMeth
import HandS.More
import KE.KExcIs
import HandS.StrMore
import HandS.Walk
import HandS.Codes
import KE.GoesEnumKw
import KE.GoesMore
import PyProof.ListStr
import KE.DataEq
import KE.KCallOwn
import HandS.Star
import PyProof.CollectStr
import HandS.Strs
import KE.GoesZip
import HandS.Zip
import HandS.Small
import HandS.DictComp
import PyProof.Rows.StrCountLaw
import KE.KDictZip
import KE.GoesEnum
import HandS.MakeKwOnly
import KE.KRevSl
import HandS.Style
import HandS.Sort
import PyProof.StrBlock2
import HandS.Gcd
import KE.KOpsOwn
import HandS.Property
import HandS.Iter
import HandS.Conv
import PyProof.DictFindH
import PyProof.EqAt
import PyProof.EqKinds
import KE.KEqDict
import HandS.List
import HandS.Dict
import HandS.Set
import HandS.SetFor
import HandS.FStr
import PySem.Challenge.RW_galloon_k23_rule_values_and_texts
import HandS.HeadWalk
set_option Elab.async false
set_option linter.all false
set_option maxRecDepth 100000
section
set_option Elab.async false
set_option linter.all false
set_option maxRecDepth 100000
set_option maxHeartbeats 2000000
/-! The head by one run: my own Hook. -/
namespace Hd
open PySem PySem.Spec PyProof.Rows L2 He
/-! ### what stands where -/
abbrev FnV : Type := Option (Str × Str × Arguments × FuncBody × Scope × Addr × List (Str × Addr) × Addr)
def fnV (K : PySem.W.Frag) (a : Addr) : FnV := match K.lookup a with
  | some ⟨_, _, .func fd, _⟩ => some (fd.name, fd.qualname, fd.params, fd.body, fd.scope, fd.globals, fd.closure, fd.builtins)
  | _ => none
structure FnS where
  at_ : PySem.W.Frag → Addr
  name : Str
  qual : Str
  params : Arguments
  body : List Stmt
  scope : Scope
def FnS.val (d : FnS) : FnV := some (d.name, d.qual, d.params, .stmts d.body, d.scope, mainGlobals, [], builtinsNs)
def FnS.okB (K : PySem.W.Frag) (d : FnS) : Bool := match K.lookup (d.at_ K) with
  | some ⟨_, _, .func fd, _⟩ => decide (fd.defaults = .none) && PySem.W.codeIn K fd.code d.qual
  | _ => false
/-- the dict of a def's keyword defaults -/
def kwD (K : PySem.W.Frag) (f : Addr) : Addr := match K.lookup f with
  | some ⟨_, _, .func fd, _⟩ => (match fd.kwdefaults with
    | .ref D => D
    | _ => 0)
  | _ => 0
def kwR (K : PySem.W.Frag) (f : Addr) : Bool := match K.lookup f with
  | some ⟨_, _, .func fd, _⟩ => (match fd.kwdefaults with
    | .ref _ => true
    | _ => false)
  | _ => false
theorem fn_at {K : PySem.W.Frag} {d : FnS} (e : fnV K (d.at_ K) = d.val) (c : d.okB K = true) :
    ∃ oc od osl kV doc pm an cdv ct, K.lookup (d.at_ K) = some ⟨oc, od, .func (PySem.W.fnOf d.name d.qual d.params d.body d.scope .none kV doc pm an cdv ct), osl⟩ ∧ PySem.W.codeIn K cdv d.qual = true := by
  unfold FnS.okB at c
  unfold fnV at e
  cases q : K.lookup (d.at_ K) with
  | none =>
    rw [q] at c
    cases c
  | some o =>
    obtain ⟨oc, od, dt, osl⟩ := o
    rw [q] at c e
    cases dt with
    | func fd =>
      obtain ⟨n1, n2, n3, n4, n5, n6, n7, n8, n9, n10, n11, n12, n13, n14, n15⟩ := fd
      have e2 : (some (n1, n2, n3, n4, n5, n6, n7, n15) : FnV) = some (d.name, d.qual, d.params, .stmts d.body, d.scope, mainGlobals, [], builtinsNs) := e
      simp only [Option.some.injEq, Prod.mk.injEq] at e2
      obtain ⟨h1, h2, h3, h4, h5, h6, h7, h8⟩ := e2
      subst h1 h2 h3 h4 h5 h6 h7 h8
      obtain ⟨c1, c2⟩ := ba (show (decide (n8 = .none) && PySem.W.codeIn K n13 d.qual) = true from c)
      have c3 : n8 = .none := of_decide_eq_true c1
      subst c3
      exact ⟨oc, od, osl, n9, n10, n11, n12, n13, n14, rfl, c2⟩
    | _ => cases c
theorem fn_kw {K : PySem.W.Frag} {d : FnS} (e : fnV K (d.at_ K) = d.val) (c : d.okB K = true) (r : kwR K (d.at_ K) = true) :
    ∃ oc od osl doc pm an cdv ct, K.lookup (d.at_ K) = some ⟨oc, od, .func (PySem.W.fnOf d.name d.qual d.params d.body d.scope .none (.ref (kwD K (d.at_ K))) doc pm an cdv ct), osl⟩ ∧ PySem.W.codeIn K cdv d.qual = true := by
  obtain ⟨oc, od, osl, kV, doc, pm, an, cdv, ct, lk, hc⟩ := fn_at e c
  unfold kwR at r
  rw [lk] at r
  cases kV with
  | ref D =>
    refine ⟨oc, od, osl, doc, pm, an, cdv, ct, ?_, hc⟩
    have : kwD K (d.at_ K) = D := by
      unfold kwD
      rw [lk]
    rw [this]
    exact lk
  | _ => cases r
/-- an exception class of the program -/
def excB (K : PySem.W.Frag) (C : Addr) : Bool := match K.lookup C with
  | some ⟨c, _, .cls ⟨_, _, m, _, _, hd, _, _, _, _, dl⟩, ⟨sl⟩⟩ => decide (c = .type "type") && (decide (hd = true) && (decide (dl = false) && ((match m with
    | c :: r => decide (c = .ref C) && PySem.HandSPX.refsVE r
    | [] => false) && (match sl with
    | [_, _, _, _, k, _] => decide (k = some (.builtin "ValueError.__new__"))
    | _ => false))))
  | _ => false
theorem excB_ok {K : PySem.W.Frag} {C : Addr} (h : excB K C = true) : ∃ nm qn N bs bm sn sub ab col dd m0 m1 m2 m3 m5, K.lookup C = some (excClassObj nm qn C N bs bm true sn sub ab col dd m0 m1 m2 m3 m5 "ValueError.__new__") ∧ PySem.HandSPX.refsVE bm = true := by
  unfold excB at h
  cases q : K.lookup C with
  | none =>
    rw [q] at h
    cases h
  | some o =>
    obtain ⟨oc, od, dt, ⟨sl⟩⟩ := o
    rw [q] at h
    cases dt with
    | cls cd =>
      obtain ⟨nm, bs, m, N, qn, hd, sn, sub, ab, col, dl⟩ := cd
      obtain ⟨h1, h⟩ := ba h
      obtain ⟨h2, h⟩ := ba h
      obtain ⟨h3, h⟩ := ba h
      obtain ⟨h4, h5⟩ := ba h
      have e1 : oc = .type "type" := of_decide_eq_true h1
      have e2 : hd = true := of_decide_eq_true h2
      have e3 : dl = false := of_decide_eq_true h3
      subst e1 e2 e3
      match m, sl, h4, h5 with
      | c :: r, [k0, k1, k2, k3, k4, k5], h4, h5 =>
        obtain ⟨g1, g2⟩ := ba h4
        have e4 : c = .ref C := of_decide_eq_true g1
        have e5 : k4 = some (.builtin "ValueError.__new__") := of_decide_eq_true h5
        subst e4 e5
        exact ⟨_, _, _, _, _, _, _, _, _, _, _, _, _, _, _, rfl, g2⟩
    | _ => cases h
def tgV : Value → Nat
  | .str _ t => t
  | .int _ t => t
  | _ => 0
def tgO : Option (Option Value) → Nat
  | some (some v) => tgV v
  | _ => 0
def cfV : Option PySem.W.CFound → Option Value
  | some (.val v) => some v
  | _ => none
theorem cfV_ok {o : Option PySem.W.CFound} {v : Value} (h : cfV o = some v) : o = some (.val v) := by
  cases o with
  | none => cases h
  | some c =>
    cases c with
    | val w =>
      have e : w = v := Option.some.inj h
      rw [e]
    | get g a o t => cases h
def cfG : Option PySem.W.CFound → Option (Value × Value × Value × Value)
  | some (.get g a o t) => some (g, a, o, t)
  | _ => none
theorem cfG_ok {o : Option PySem.W.CFound} {g a b t : Value} (h : cfG o = some (g, a, b, t)) : o = some (.get g a b t) := by
  cases o with
  | none => cases h
  | some c =>
    cases c with
    | val w => cases h
    | get g' a' b' t' =>
      have e : (g', a', b', t') = (g, a, b, t) := Option.some.inj h
      obtain ⟨e1, e2⟩ := Prod.mk.inj e
      obtain ⟨e2, e3⟩ := Prod.mk.inj e2
      obtain ⟨e3, e4⟩ := Prod.mk.inj e3
      rw [e1, e2, e3, e4]
def cmP (K : PySem.W.Frag) (C : Addr) (m : Str) : Addr := match PySem.W.findCls K (.ref C) (.type "type") m with
  | some (.get _ (.ref p) _ _) => p
  | _ => 0
def cmF (K : PySem.W.Frag) (p : Addr) : Addr := match PySem.W.recIn K p "classmethod" with
  | some (.ref f :: _) => f
  | _ => 0
def cmR (K : PySem.W.Frag) (p : Addr) : List Value := match PySem.W.recIn K p "classmethod" with
  | some (_ :: r) => r
  | _ => []
def prF (K : PySem.W.Frag) (p : Addr) : Addr := match PySem.W.recIn K p "property" with
  | some (.ref f :: _) => f
  | _ => 0
def prR (K : PySem.W.Frag) (p : Addr) : List Value := match PySem.W.recIn K p "property" with
  | some (_ :: r) => r
  | _ => []
/-! ### the Hook -/
def asR (g : Addr → Option Obj) : Nat → List Addr
  | 0 => [mainGlobals, cStatics]
  | n + 1 => growD g (asR g n)
abbrev Al : Type := Bool × List FnV
def obsK (fb : PySem.W.Frag → Bool) (fn : List FnS) (K : PySem.W.Frag) : Al := (fb K && fn.all fun d => d.okB K, fn.map fun d => fnV K (d.at_ K))
def valH (fn : List FnS) : Al := (true, fn.map FnS.val)
def Says (fb : PySem.W.Frag → Bool) (fn : List FnS) (K : PySem.W.Frag) : Prop := obsK fb fn K = valH fn
def obsH (n : Nat) (fb : PySem.W.Frag → Bool) (fn : List FnS) (g : Addr → Option Obj) : Al := obsK fb fn (frG g (asR g n))
def hook (n : Nat) (fb : PySem.W.Frag → Bool) (fn : List FnS) : PySem.W.Hook where
  α := Al
  obs := fun s => obsH n fb fn s.heap.get?
  val := fun _ => valH fn
  says := fun _ h => ∃ K : PySem.W.Frag, K.In h ∧ Says fb fn K
  of := fun _ _ e => ⟨_, frG_in, e⟩
  keeps := fun _ _ _ ⟨K, hK, c⟩ k => ⟨K, PySem.W.Frag.In.keeps hK k, c⟩
theorem obsH_eq {n : Nat} {fb : PySem.W.Frag → Bool} {fn : List FnS} {g : Addr → Option Obj} {s : Shared} (h : ∀ a, g a = s.heap.get? a) : obsH n fb fn g = (hook n fb fn).obs s := by
  have e : g = s.heap.get? := funext h
  rw [e] <;> rfl
section
variable {fb : PySem.W.Frag → Bool} {fn : List FnS} {K : PySem.W.Frag}
theorem Says.b (c : Says fb fn K) : fb K = true := (ba (show (fb K && fn.all fun d => d.okB K) = true from congrArg (fun z : Al => z.1) c)).1
theorem Says.v (c : Says fb fn K) {d : FnS} (h : d ∈ fn) : fnV K (d.at_ K) = d.val ∧ d.okB K = true := by
  have c2 := (ba (show (fb K && fn.all fun d => d.okB K) = true from congrArg (fun z : Al => z.1) c)).2
  have e : fn.map (fun d => fnV K (d.at_ K)) = fn.map FnS.val := congrArg (fun z : Al => z.2) c
  exact ⟨List.map_inj_left.mp e d h, List.all_eq_true.mp c2 d h⟩
theorem Says.fnA (c : Says fb fn K) {d : FnS} (h : d ∈ fn) :
    ∃ oc od osl kV doc pm an cdv ct, K.lookup (d.at_ K) = some ⟨oc, od, .func (PySem.W.fnOf d.name d.qual d.params d.body d.scope .none kV doc pm an cdv ct), osl⟩ ∧ PySem.W.codeIn K cdv d.qual = true := fn_at (c.v h).1 (c.v h).2
theorem Says.fnk (c : Says fb fn K) {d : FnS} (h : d ∈ fn) (r : kwR K (d.at_ K) = true) :
    ∃ oc od osl doc pm an cdv ct, K.lookup (d.at_ K) = some ⟨oc, od, .func (PySem.W.fnOf d.name d.qual d.params d.body d.scope .none (.ref (kwD K (d.at_ K))) doc pm an cdv ct), osl⟩ ∧ PySem.W.codeIn K cdv d.qual = true := fn_kw (c.v h).1 (c.v h).2 r
end
end Hd

end
section
set_option Elab.async false
set_option maxRecDepth 100000
set_option maxHeartbeats 4000000
namespace Kit
open PySem PySem.Spec PyProof.Rows L2
abbrev St := L2.St

/-! ### defs as they stand in the text, and what they promise -/
structure DefT (K : PySem.W.Frag) (mg : Str → Option Value) (x : Str) (st : Stmt) : Prop where
  ex : ∃ (f : Addr) (fd : FuncData), Fun K x x st f fd ∧ mg x = some (.ref f)
structure MetT (K : PySem.W.Frag) (C : Addr) (m q : Str) (st : Stmt) : Prop where
  ex : ∃ (f : Addr) (fd : FuncData), Fun K m q st f fd ∧ Meth K C m f
structure ClsT (K : PySem.W.Frag) (mg : Str → Option Value) (C : Addr) (x : Str) : Prop where
  cl : Cls K C
  gC : mg x = some (.ref C)
  mak : PySem.W.makesIn K C = true
  kp : PySem.W.keepIn K (.ref C) = true
section
variable (P : Program) (w : World) (K : PySem.W.Frag) (mg : Str → Option Value) (base : Heap)
structure Can (k : Nat) (x : Str) (sp : Sp) : Prop where
  ex : ∃ (f : Addr) (fd : FuncData) (ps : List Str), FnOk P w K mg base (L2.CX P w) k f fd ps sp ∧ mg x = some (.ref f) ∧ PySem.W.keepIn K (.ref f) = true ∧ Binds K fd ps []
structure CanM (k : Nat) (C : Addr) (m : Str) (sp : Sp) : Prop where
  ex : ∃ (f : Addr) (fd : FuncData) (ps : List Str), FnOk P w K mg base (L2.CX P w) k f fd ps sp ∧ Cls K C ∧ Meth K C m f ∧ Binds K fd ps []
structure CanN (k : Nat) (C : Addr) (x : Str) (sp : Sp) : Prop where
  ex : ∃ (f : Addr) (fd : FuncData) (ps : List Str), FnOk P w K mg base (L2.CX P w) k f fd ps sp ∧ Mk K C f ∧ mg x = some (.ref C) ∧ Binds K fd ps []
end
/-- how n plain parameters bind -/
def BindsPlain (st : Stmt) (x q : Str) (ps : List Str) : Prop := ∀ (kV doc pm : Value) (an : Option Addr) (cdv ct : Value) (us : List Value), us.length = ps.length →
  bindArgs (PySem.W.fnOf x q (defArgs st) (defBody st) (defScope st) .none kV doc pm an cdv ct) ⟨us, []⟩ = pure (ps.zip us)
section
variable {P : Program} {w : World} {K : PySem.W.Frag} {mg : Str → Option Value} {base : Heap}
theorem can_of {x : Str} {st : Stmt} {N ps : List Str} {k : Nat} {sp : Sp} (D : DefT K mg x st) (S : FnScope N ps (defScope st)) (hb : BindsPlain st x x ps) (len : ∀ vs H Q E, sp vs H Q E → vs.length = ps.length)
    (body : ∀ (f : Addr) (cdv : Value) (A : Around) (outer : List Env) (s : Shared) (H : Hp) (vs : List V) (Q : VK) (E : XK), Room k (A.deeper (envOfC x (defScope st) s.heap.objs.size f cdv)) → sp vs H Q E →
      ∃ t, PSs (cxOf (L2.CX P w) P w K mg base N x (defScope st) f cdv A outer s H E) (defBody st) t ∧ t { nx := fun _ H' => Q .non H', rt := Q } (start N vs) H) : Can P w K mg base (k + 1) x sp := by
  obtain ⟨f, fd, F, g⟩ := D.ex
  exact ⟨f, fd, ps, F.okX S len (body f), g, F.kp, F.binds hb⟩
theorem canM_of {m q : Str} {C : Addr} {st : Stmt} {N ps : List Str} {k : Nat} {sp : Sp} (c : Cls K C) (D : MetT K C m q st) (S : FnScope N ps (defScope st)) (hb : BindsPlain st m q ps) (len : ∀ vs H Q E, sp vs H Q E → vs.length = ps.length)
    (body : ∀ (f : Addr) (cdv : Value) (A : Around) (outer : List Env) (s : Shared) (H : Hp) (vs : List V) (Q : VK) (E : XK), Room k (A.deeper (envOfC q (defScope st) s.heap.objs.size f cdv)) → sp vs H Q E →
      ∃ t, PSs (cxOf (L2.CX P w) P w K mg base N q (defScope st) f cdv A outer s H E) (defBody st) t ∧ t { nx := fun _ H' => Q .non H', rt := Q } (start N vs) H) : CanM P w K mg base (k + 1) C m sp := by
  obtain ⟨f, fd, F, g⟩ := D.ex
  exact ⟨f, fd, ps, F.okX S len (body f), c, g, F.binds hb⟩
theorem canN_of {x q : Str} {C : Addr} {st : Stmt} {N ps : List Str} {k : Nat} {sp : Sp} (c : ClsT K mg C x) (D : MetT K C "__init__" q st) (S : FnScope N ps (defScope st)) (hb : BindsPlain st "__init__" q ps) (len : ∀ vs H Q E, sp vs H Q E → vs.length = ps.length)
    (body : ∀ (f : Addr) (cdv : Value) (A : Around) (outer : List Env) (s : Shared) (H : Hp) (vs : List V) (Q : VK) (E : XK), Room k (A.deeper (envOfC q (defScope st) s.heap.objs.size f cdv)) → sp vs H Q E →
      ∃ t, PSs (cxOf (L2.CX P w) P w K mg base N q (defScope st) f cdv A outer s H E) (defBody st) t ∧ t { nx := fun _ H' => Q .non H', rt := Q } (start N vs) H) : CanN P w K mg base (k + 1) C x sp := by
  obtain ⟨f, fd, F, g⟩ := D.ex
  exact ⟨f, fd, ps, F.okX S len (body f), ⟨c.mak, g.at_, g.fn, c.kp⟩, c.gC, F.binds hb⟩
end

/-! ### calls: E0 where nothing is raised; a wish at the slots where something may be -/
section
variable {X : Cx} {k j : Nat} {C : Addr} {x m : Str} {sp : Sp} {W : WX} {p pos apos : Pos} {e o : Expr} {es : List Expr} {ta : TE} {t : TA}
theorem pc_f (c : Can X.prog X.w X.K X.mg X.base k x sp) (hr : Room j X.A) (hk : k ≤ j) (hg : Gl X x) (ha : PA X (e :: es) t)
    (hdb : (x == ("__debug__" : Str)) = false := by decide) (he : starEach (e :: es) X.env = (false, eval e X.env) :: starEach es X.env := by rfl) (hpl : (backTo pos (starEach es X.env)).any (·.1) = false := by rfl) :
    PE X (.Call (.Name x p) (e :: es) [] pos) (tCall sp [] E0 t) := by
  obtain ⟨f, fd, ps, F, hm, kp, b⟩ := c.ex
  exact pe_call F (hr.mono hk) hg hm kp b .nil passL ha hdb he hpl
theorem pc_f0 (c : Can X.prog X.w X.K X.mg X.base k x sp) (hr : Room j X.A) (hk : k ≤ j) (hg : Gl X x)
    (hdb : (x == ("__debug__" : Str)) = false := by decide) : PE X (.Call (.Name x p) [] [] pos) (tCall sp [] E0 tNil) := by
  obtain ⟨f, fd, ps, F, hm, kp, b⟩ := c.ex
  exact pe_call0 F (hr.mono hk) hg hm kp b .nil passL hdb
theorem pc_fS (c : Can X.prog X.w X.K X.mg X.base k x sp) (tk : Takes X W) (hr : Room j X.A) (hk : k ≤ j) (hg : Gl X x) (ha : PA X (e :: es) t)
    (hdb : (x == ("__debug__" : Str)) = false := by decide) (he : starEach (e :: es) X.env = (false, eval e X.env) :: starEach es X.env := by rfl) (hpl : (backTo pos (starEach es X.env)).any (·.1) = false := by rfl) :
    PE X (.Call (.Name x p) (e :: es) [] pos) (tCallS sp (WE W) t) := by
  obtain ⟨f, fd, ps, F, hm, kp, b⟩ := c.ex
  exact pe_callS F (hr.mono hk) hg hm kp b (passAt tk) ha hdb he hpl
theorem pc_m {pl : Sem Bool} (c : CanM X.prog X.w X.K X.mg X.base k C m sp) (hr : Room j X.A) (hk : k ≤ j) (he : PE X o ta) (ha : PA X (e :: es) t)
    (hst : starEach (e :: es) X.env = (false, eval e X.env) :: starEach es X.env := by rfl) (hpl : (backTo pos (starEach es X.env)).any (·.1) = false := by rfl)
    (ht : eval (.Call (.Attribute o m apos) (e :: es) [] pos) X.env = (do
      let v ← eval o X.env
      standAt apos.atName
      let (f, first) ← holding [v] (getMethod v m pl)
      callWith pos f first (backTo pos (starEach (e :: es) X.env)) (backToKw pos (keywordEach [] X.env))) := by rfl) :
    PE X (.Call (.Attribute o m apos) (e :: es) [] pos) (tMeth C m sp [] E0 ta t) := by
  obtain ⟨f, fd, ps, F, hc, hm, b⟩ := c.ex
  exact pe_meth (pl := pl) he hc hm F (hr.mono hk) b .nil passL ha hst hpl ht
/-- o.m(e, ..) that may raise, the wish at the slots -/
def tMethS (C : Addr) (m : Str) (sp : Sp) (W : WX) (ta : TE) (t : TA) : TE := fun σ H Q => ta σ H fun y G => ∃ a dx fs, y = .ref a ∧ G a = some (.ins C dx fs) ∧ fs.lookup m = none ∧ t σ G fun vs G' => sp (y :: vs) G' Q (WE W σ)
theorem pc_mS {pl : Sem Bool} (c : CanM X.prog X.w X.K X.mg X.base k C m sp) (tk : Takes X W) (hr : Room j X.A) (hk : k ≤ j) (he : PE X o ta) (ha : PA X (e :: es) t)
    (hst : starEach (e :: es) X.env = (false, eval e X.env) :: starEach es X.env := by rfl) (hpl : (backTo pos (starEach es X.env)).any (·.1) = false := by rfl)
    (ht : eval (.Call (.Attribute o m apos) (e :: es) [] pos) X.env = (do
      let v ← eval o X.env
      standAt apos.atName
      let (f, first) ← holding [v] (getMethod v m pl)
      callWith pos f first (backTo pos (starEach (e :: es) X.env)) (backToKw pos (keywordEach [] X.env))) := by rfl) :
    PE X (.Call (.Attribute o m apos) (e :: es) [] pos) (tMethS C m sp W ta t) := by
  obtain ⟨f, fd, ps, F, hc, hm, b⟩ := c.ex
  constructor
  intro pins s σ H Q I h
  refine PySem.W.methodCall_KW (pl := pl) (thn (he.run pins s σ H _ I h) ?_) ht
  rintro u s1 ⟨y, G, I1, ry, a, dx, fs, rfl, ga, l, q⟩
  cases ry
  refine getmeth_ok I1 ga hc hm l ?_
  refine PySem.W.callWith_K (first := [.ref a]) (h₀ := X.base) I.ok.mod.kin hm.kp (thn (ha.run pos pins s1 σ G _ I1 q) ?_) hst hpl
  rintro us s2 ⟨vs, G', I2, r, q2⟩
  exact ⟨I2.kIn, run_fnS (us := .ref a :: us) (vs := .ref a :: vs) F (hr.mono hk) b (passAt tk σ) I2 (.cons rfl r) q2⟩
theorem pc_n (c : CanN X.prog X.w X.K X.mg X.base k C x sp) (hr : Room j X.A) (hk : k + 1 ≤ j) (hg : Gl X x) (ha : PA X (e :: es) t)
    (hdb : (x == ("__debug__" : Str)) = false := by decide) (he : starEach (e :: es) X.env = (false, eval e X.env) :: starEach es X.env := by rfl) (hpl : (backTo pos (starEach es X.env)).any (·.1) = false := by rfl) :
    PE X (.Call (.Name x p) (e :: es) [] pos) (tMake C sp [] E0 t) := by
  obtain ⟨f, fd, ps, F, M, hm, b⟩ := c.ex
  exact pe_make M F (hr.mono hk) hg hm b .nil passL ha hdb he hpl
def tMakeS (C : Addr) (sp : Sp) (W : WX) (t : TA) : TE := fun σ H Q => t σ H fun vs G => ∀ y dx, G y = none → G dx = none → dx ≠ y →
  sp (.ref y :: vs) (upd (upd G dx (.own y)) y (.ins C dx [])) (fun v G' => v = .non ∧ Q (.ref y) G') (WE W σ)
end
end Kit

end
section
set_option Elab.async false
set_option maxRecDepth 100000
set_option maxHeartbeats 4000000
namespace Kit
open PySem PySem.Spec PyProof.Rows L2

/-! ### a class made, whose __init__ may raise -/
section
variable {X : Cx} {k j : Nat} {C : Addr} {x : Str} {sp : Sp} {W : WX} {p pos : Pos} {e : Expr} {es : List Expr} {t : TA}
theorem pc_nS (c : CanN X.prog X.w X.K X.mg X.base k C x sp) (tk : Takes X W) (hr : Room j X.A) (hk : k + 1 ≤ j) (hg : Gl X x) (ha : PA X (e :: es) t)
    (hdb : (x == ("__debug__" : Str)) = false := by decide) (he : starEach (e :: es) X.env = (false, eval e X.env) :: starEach es X.env := by rfl) (hpl : (backTo pos (starEach es X.env)).any (·.1) = false := by rfl) :
    PE X (.Call (.Name x p) (e :: es) [] pos) (tMakeS C sp W t) := by
  obtain ⟨f, fd, ps, F, M, hm, b⟩ := c.ex
  have hr := hr.mono hk
  constructor
  intro pins s σ H Q I h
  refine wpAny_Call_Name_kw (ld_glob I hg hm ?_ hdb)
  refine PySem.W.callWith_K (h₀ := X.base) I.ok.mod.kin M.kp (thn (ha.run pos pins s σ H _ I h) ?_) he hpl
  rintro us s1 ⟨vs, G, I1, r, q⟩
  refine ⟨I1.kIn, ?_⟩
  have hq := q (s1.heap.objs.size + 1) s1.heap.objs.size (I1.hok.fresh (Nat.le_succ _)) (I1.hok.fresh (Nat.le_refl _)) (Nat.ne_of_lt (Nat.lt_succ_self _))
  have J := Inv.made (C := C) I1
  have r2 : Vals (V.ref (s1.heap.objs.size + 1) :: vs) (Value.ref (s1.heap.objs.size + 1) :: us) := .cons rfl r
  have hl : (Value.ref (s1.heap.objs.size + 1) :: us ++ []).length = ps.length := by
    have z := r2.length
    rw [F.len _ _ _ _ hq] at z
    rw [List.append_nil]
    exact z.symm
  have bb := b _ (Value.ref (s1.heap.objs.size + 1) :: us) J.kIn hl
  rw [List.append_nil] at bb
  refine wpAny_call (make_map (f := f) I1.kIn M.makes M.init (beq_iff_eq.mp M.fn) (codeAny_mono (F.run _ X.stack _ _ ⟨Value.ref (s1.heap.objs.size + 1) :: us, []⟩ (Value.ref (s1.heap.objs.size + 1) :: us) _ _ (WE W σ) (hr.make C us []) (J.env0.make C us []) bb r2 hq) ?_))
  intro r s' z
  cases r with
  | error er => exact passAt tk σ pins _ _ er s' J z
  | ok fl =>
    cases fl with
    | ret u =>
      obtain ⟨v, H', I3, rv, ev, q3⟩ := J.after z
      subst ev
      exact ⟨rv, V.ref (s1.heap.objs.size + 1), H', I3, rfl, q3⟩
    | next => exact z.elim
    | brk => exact z.elim
    | cont => exact z.elim
end

/-! ### own errors with one field -/
structure ErrT (K : PySem.W.Frag) (mg : Str → Option Value) (C : Addr) (x q fld : Str) (st : Stmt) : Prop where
  gC : mg x = some (.ref C)
  oex : OexC K C
  noF : PySem.W.findIn K (.ref C) fld = some none
  ini : ∃ (f : Addr) (fd : FuncData), Fun K "__init__" q st f fd ∧ PySem.W.findIn K (.ref C) "__init__" = some (some (.ref f)) ∧ PySem.W.typeIn K (.ref f) = some (.type "function")
/-- what isinstance and the reading of a field ask of an error's class -/
structure ErrC (K : PySem.W.Frag) (C : Addr) : Prop where
  xf : XfC K C
  ha : PySem.W.findIn K (.ref C) "__class__" = some (some (.builtin "object.__class__"))
  hn : PySem.W.specialIn K (.builtin "object.__class__") "__get__" = some (some (.builtin "getset_descriptor.__get__"))
  ht : PySem.W.takesIn K (.builtin "object.__class__") = some true
  hm : PySem.W.mroIn K C (.type "object") = some true
  hc : (PySem.W.clsIn K C).isSome = true
def spErr (C : Addr) (fld : Str) : Sp := fun vs H Q _ => ∃ (a : Addr) (y : V), vs = [.ref a, y] ∧ H a = some (exo a C none) ∧ ∀ dx, H dx = none → dx ≠ a → Q .non (upd (upd H dx (exd dx [(fld, y)])) a (exo a C (some dx)))
section
variable (P : Program) (w : World) (K : PySem.W.Frag) (mg : Str → Option Value) (base : Heap)
structure CanE (C : Addr) (x fld : Str) : Prop where
  gC : mg x = some (.ref C)
  oex : OexC K C
  ex : ∃ (f : Addr) (fd : FuncData) (ps : List Str), FnOk P w K mg base (L2.CX P w) 1 f fd ps (spErr C fld) ∧ PySem.W.findIn K (.ref C) "__init__" = some (some (.ref f)) ∧ PySem.W.typeIn K (.ref f) = some (.type "function") ∧ Binds K fd ps []
end
section
variable {P : Program} {w : World} {K : PySem.W.Frag} {mg : Str → Option Value} {base : Heap}
theorem canE_of {C : Addr} {x q fld : Str} {st : Stmt} {N ps : List Str} (D : ErrT K mg C x q fld st) (S : FnScope N ps (defScope st)) (hb : BindsPlain st "__init__" q ps) (hl : ps.length = 2)
    (body : ∀ (f : Addr) (cdv : Value) (A : Around) (outer : List Env) (s : Shared) (H : Hp) (E : XK),
      PSs (cxOf (L2.CX P w) P w K mg base N q (defScope st) f cdv A outer s H E) (defBody st) (tOst K fld (tVar 0) (tVar 1))) (hN : N.length = 2) : CanE P w K mg base C x fld := by
  obtain ⟨f, fd, F, g, ty⟩ := D.ini
  refine ⟨D.gC, D.oex, f, fd, ps, F.okX S (fun vs H Q E h => ?_) (fun cdv A outer s H vs Q E _ h => ?_), g, ty, F.binds hb⟩
  · obtain ⟨a, y, rfl, _⟩ := h
    rw [hl]
    rfl
  · obtain ⟨a, y, rfl, ha, z⟩ := h
    refine ⟨_, body f cdv A outer s H E, ?_⟩
    match N, hN with
    | [n0, n1], _ => exact ⟨y, rfl, .ref a, rfl, a, C, rfl, D.oex, D.noF, .inl ⟨ha, fun dx n ne => z dx n ne⟩⟩
end
section
variable {X : Cx} {C : Addr} {x fld : Str} {W : WX} {p pos pos2 : Pos} {e : Expr} {te : TE} {j : Nat}
/-- raise X(e) -/
theorem pr_err (c : CanE X.prog X.w X.K X.mg X.base C x fld) (tk : Takes X W) (hcalm : X.calm = true) (hr : Room j X.A) (hk : 2 ≤ j) (hg : Gl X x) (ha : PE X e te)
    (he : starEach [e] X.env = (false, eval e X.env) :: starEach [] X.env := by rfl) (hpl : (backTo pos (starEach [] X.env)).any (·.1) = false := by rfl) (hdb : (x == ("__debug__" : Str)) = false := by decide) :
    PS X (.Raise (some (.Call (.Name x p) [e] [] pos)) none pos2) (fun _ σ H => tMkO C (spErr C fld) [] (tCons te tNil) σ H fun cls d H' => W cls d σ H') := by
  obtain ⟨f, fd, ps, F, g, ty, b⟩ := c.ex
  exact L2.ps_raise hcalm tk (pmk_oex c.oex g ty F (hr.mono hk) b .nil passL hg c.gC (pa_cons ha pa_nil (hs := he)) hdb he hpl)
/-- the reading behind the value of e -/
theorem mkE {H : Hp} {y : V} {Q : XK} (h : ∀ d, H d = none → Q (.ref C) (some d) (upd H d (.xd [(fld, y)]))) : [y].length ≤ 1000 ∧ ∀ a, H a = none → spErr C fld (.ref a :: ([y] ++ [])) (upd H a (exo a C none))
    (fun v G => v = .non ∧ ∃ (d : Addr) (fs : List (Str × V)), G a = some (exo a C (some d)) ∧ G d = some (exd d fs) ∧ H d = none ∧ Q (.ref C) (some d) (upd (L2.del G a) d (.xd fs))) (fun _ _ _ => False) := by
  refine ⟨by show 1 ≤ 1000; decide, fun a na => ⟨a, y, rfl, upd_same, fun dx n ne => ⟨rfl, dx, [(fld, y)], upd_same, ?_, ?_, ?_⟩⟩⟩
  · rw [upd_ne ne, upd_same]
  · rw [upd_ne ne] at n
    exact n
  · rw [upd_ne ne] at n
    have z : upd (L2.del (upd (upd (upd H a (exo a C none)) dx (exd dx [(fld, y)])) a (exo a C (some dx))) a) dx (.xd [(fld, y)]) = upd H dx (.xd [(fld, y)]) := by
      funext b
      by_cases hb : b = dx
      · rw [hb, upd_same, upd_same]
      · rw [upd_ne hb, upd_ne hb]
        by_cases hc : b = a
        · rw [hc, L2.del_same, na]
        · rw [L2.del_ne hc, upd_ne hc, upd_ne hb, upd_ne hc]
    rw [z]
    exact h dx n
end

/-! ### a def called in an except suite, the caught error handed to it -/
abbrev SpE := Addr → Value → Option Addr → Sp
structure FnE (P : Program) (w : World) (K : PySem.W.Frag) (mg : Str → Option Value) (base : Heap) (k : Nat) (f : Addr) (fd : FuncData) (ps : List Str) (sp : SpE) : Prop where
  len : ∀ a cls d vs H Q E, sp a cls d vs H Q E → vs.length = ps.length
  run : ∀ (A : Around) (outer : List Env) (s : Shared) (H : Hp) (args : Args) (us : List Value) (vs : List V) (Q : VK) (E : XK) (p : Addr × Obj) (cls : Value) (d : Option Addr), L2H.RoomH k A → L2H.PinOk outer H s p → Zc cls d p.2 → (∃ z, p.2.data = .fields z) →
    Env0 P w K mg base A outer s H → BindsTo s fd args (ps.zip us) → Vals vs us → sp p.1 cls d vs H Q E → codeAny (model P w) A (.call (.ref f) args) (CR (L2.CX P w) outer P w H s Q E) s
abbrev cxE (P : Program) (w : World) (K : PySem.W.Frag) (mg : Str → Option Value) (base : Heap) (N : List Str) (x : Str) (st : Stmt) (f : Addr) (cdv : Value) (A : Around) (outer : List Env) (s : Shared) (H : Hp) (E : XK) (p : Addr × Obj) : Cx :=
  L2H.cxH (L2.CX P w) P w K mg base N x (defScope st) f cdv A outer s H E p
structure CanS (P : Program) (w : World) (K : PySem.W.Frag) (mg : Str → Option Value) (base : Heap) (k : Nat) (x : Str) (sp : SpE) : Prop where
  ex : ∃ (f : Addr) (fd : FuncData) (ps : List Str), FnE P w K mg base k f fd ps sp ∧ mg x = some (.ref f) ∧ PySem.W.keepIn K (.ref f) = true ∧ Binds K fd ps []
section
variable {P : Program} {w : World} {K : PySem.W.Frag} {mg : Str → Option Value} {base : Heap}
theorem canS_of {x : Str} {st : Stmt} {N ps : List Str} {k : Nat} {sp : SpE} (D : DefT K mg x st) (S : FnScope N ps (defScope st)) (hb : BindsPlain st x x ps) (len : ∀ a cls d vs H Q E, sp a cls d vs H Q E → vs.length = ps.length)
    (body : ∀ (f : Addr) (cdv : Value) (A : Around) (outer : List Env) (s : Shared) (H : Hp) (vs : List V) (Q : VK) (E : XK) (p : Addr × Obj) (cls : Value) (d : Option Addr), L2H.RoomH k (A.deeper (envOfC x (defScope st) s.heap.objs.size f cdv)) → Zc cls d p.2 → (∃ z, p.2.data = .fields z) → sp p.1 cls d vs H Q E →
      ∃ t, PSs (cxE P w K mg base N x st f cdv A outer s H E p) (defBody st) t ∧ t { nx := fun _ H' => Q .non H', rt := Q } (start N vs) H) : CanS P w K mg base (k + 1) x sp := by
  obtain ⟨f, fd, F, g⟩ := D.ex
  refine ⟨f, fd, ps, ⟨len, ?_⟩, g, F.kp, F.binds hb⟩
  obtain ⟨oc, od, kV, doc, pm, an, cdv, ct, osl, rfl, lk, hcd⟩ := F.ex
  intro A outer s H args us vs Q E p cls d hr hpin hz hf e0 hbt r hsp
  have hl := len _ _ _ _ _ _ _ hsp
  have KX : K.In s.heap := e0.mod.kin.keeps fun b o e => (e0.bs b o e).1
  have lim : s.heap.NoLimit := e0.mod.nolimit.keeps fun b o e => (e0.bs b o e).1
  have hkind : ∀ y ∈ ps.zip us, (defScope st).names.lookup y.1 = some .local ∨ ((defScope st).names.lookup y.1 = some .cell ∧ ((cellsFrom (s.heap.objs.size + 1) (defScope st).names []).lookup y.1).isSome = true) := by
    rintro ⟨n, v⟩ hy
    rcases S.par n (List.of_mem_zip hy).1 with q | q
    · exact .inl q
    · exact .inr ⟨q, PySem.W.cellsFrom_some _ _ _ (.inl q)⟩
  refine codeAny_call_function hr.depth (KX _ _ lk) rfl S.co S.gen rfl (PySem.W.codeRec_of KX hcd) (hbt _ _ _ _ ?_)
  refine wpAny_newFunctionEnv_cells S.kind hkind ?_
  intro env he s1 y
  subst he
  refine ⟨lim.keeps y.toInCall.keep, codeAny_func ?_⟩
  obtain ⟨t, ht, hq⟩ := body f cdv A outer s H vs Q E p cls d (hr.deeper _) hz hf hsp
  have I : Inv (cxE P w K mg base N x st f cdv A outer s H E p) [] (start N vs) H s1 := L2H.inv_startH S hpin e0 hl r y
  refine wpAny_mono (ht.run [] s1 (start N vs) H _ I hq) ?_ fun e s' hs => hs
  intro fl s' hs
  cases fl with
  | ret u =>
    obtain ⟨v, σ', H', J, rv, q⟩ := hs
    exact ⟨v, H', J.os, J.bare, J.base, J.hok, rv, q⟩
  | next =>
    obtain ⟨σ', H', J, q⟩ := hs
    exact ⟨V.non, H', J.os, J.bare, J.base, J.hok, rfl, q⟩
  | brk =>
    obtain ⟨_, _, _, q⟩ := hs
    exact q.elim
  | cont =>
    obtain ⟨_, _, _, q⟩ := hs
    exact q.elim
end
/-- f(e, ..) in a suite that holds the error at a -/
def tCallE (sp : SpE) (a : Addr) (cls : Value) (d : Option Addr) (t : TA) : TE := fun σ H Q => t σ H fun vs G => sp a cls d vs G Q E0
section
variable {X : Cx} {k j : Nat} {x : Str} {sp : SpE} {a : Addr} {oe : Obj} {pn : List (Addr × Obj)} {cls : Value} {d : Option Addr} {p pos : Pos} {e : Expr} {es : List Expr} {t : TA}
theorem pc_E (c : CanS X.prog X.w X.K X.mg X.base k x sp) (hz : Zc cls d oe) (hf : ∃ z, oe.data = .fields z) (hr : Room j X.A) (hk : k ≤ j) (hg : Gl X x) (ha : PA (X.suite a ((a, oe) :: pn)) (e :: es) t)
    (hdb : (x == ("__debug__" : Str)) = false := by decide) (he : starEach (e :: es) X.env = (false, eval e X.env) :: starEach es X.env := by rfl) (hpl : (backTo pos (starEach es X.env)).any (·.1) = false := by rfl) :
    PE (X.suite a ((a, oe) :: pn)) (.Call (.Name x p) (e :: es) [] pos) (tCallE sp a cls d t) := by
  obtain ⟨f, fd, ps, F, hm, kp, hb⟩ := c.ex
  constructor
  intro pins s σ H Q I h
  refine wpAny_Call_Name_kw (ld_glob I hg hm ?_ hdb)
  refine PySem.W.callWith_K (h₀ := X.base) I.ok.mod.kin kp (thn (ha.run pos pins s σ H _ I h) ?_) he hpl
  rintro us s1 ⟨vs, G, I1, r, q⟩
  refine ⟨I1.kIn, ?_⟩
  have hl : us.length = ps.length := by
    rw [← r.length]
    exact F.len _ _ _ _ _ _ _ q
  have b := hb s1 us I1.kIn (by rw [List.append_nil]; exact hl)
  rw [List.append_nil] at b
  have P1 := I1.pin (a, oe) (List.mem_append_left _ List.mem_cons_self)
  have hpin : L2H.PinOk (X.suite a ((a, oe) :: pn)).stack G s1 (a, oe) := ⟨P1.1, P1.2.1, fun hm => (List.mem_cons.mp (I1.stkSub a hm)).elim P1.2.2.1 P1.2.2.2.1, P1.2.2.2.2⟩
  refine wpAny_call (codeAny_mono (F.run _ _ s1 G ⟨us, []⟩ us vs Q E0 (a, oe) cls d ?_ hpin hz hf I1.env0 b r q) ?_)
  · exact ⟨(hr.mono hk).dp, (hr.mono hk).un⟩
  · intro z s' hq
    cases z with
    | error er =>
      obtain ⟨_, _, _, _, _, _, _, _, _, _, _, _, y⟩ := hq
      exact y.elim
    | ok fl =>
      cases fl with
      | ret u => exact I1.after hq
      | next => exact hq.elim
      | brk => exact hq.elim
      | cont => exact hq.elim
end
/-! ### what such a def asks of the error: isinstance, a field -/
/-- the error's own dict, where it has one, is tracked -/
def XdOk (d : Option Addr) (H : Hp) : Prop := ∀ dd, d = some dd → ∃ fs, H dd = some (.xd fs)
section
variable {X : Cx} {a : Addr} {oe : Obj} {cls : Value} {d : Option Addr} {e : Expr} {te : TE} {fld : Str} {pos : Pos}
theorem pin_at (hp : (a, oe) ∈ X.pn) (hz : Zc cls d oe) (hf : ∃ z, oe.data = .fields z) {pins : List (Addr × Obj)} {σ : St} {H : Hp} {s : Shared} (I : Inv X pins σ H s) (hd : XdOk d H) {D : Addr} (hD : cls = .ref D) : ∃ od, PySem.W.InstAt s.heap a oe D od := by
  obtain ⟨hget, _⟩ := I.pin (a, oe) (List.mem_append_left _ hp)
  obtain ⟨vs, hv⟩ := hf
  subst hD
  cases hd0 : d with
  | none => exact ⟨none, hget, hz.1, by unfold PySem.W.notCls; rw [hv] <;> rfl, by rw [hz.2, hd0] <;> trivial⟩
  | some dd =>
    obtain ⟨fs, hfs⟩ := hd dd hd0
    have z : ObjOk X.prog X.w H s.heap dd (.xd fs) := I.hok dd _ hfs
    obtain ⟨mA, ⟨od, es, ep, ho, _⟩, _⟩ := z
    exact ⟨some od, hget, hz.1, by unfold PySem.W.notCls; rw [hv] <;> rfl, by rw [hz.2, hd0]; exact ho⟩
/-- isinstance(e, c), e the pinned error at a -/
def rIsP (K : PySem.W.Frag) (a : Addr) (cls : Value) (d : Option Addr) : List V → Hp → VK → Prop := fun xs H Q => ∃ (D : Addr) (c : V) (cv : Value) (b : Bool), cls = .ref D ∧ ErrC K D ∧ XdOk d H ∧ xs = [.ref a, c] ∧ (∀ u, RelV c u → u = cv) ∧ PySem.W.kitOne K (.ref D) cv = some b ∧ Q (.bl b) H
theorem call_isP (hp : (a, oe) ∈ X.pn) (hz : Zc cls d oe) (hf : ∃ z, oe.data = .fields z) : CallR X (.builtin "isinstance") (rIsP X.K a cls d) := by
  intro pins s σ H xs us Q I r h
  obtain ⟨D, c, cv, b, hD, C, hdd, rfl, hcv, e, q⟩ := h
  cases r with
  | cons rx rr =>
    cases rr with
    | cons rt rr =>
      cases rr
      cases rx
      have ec := hcv _ rt
      subst ec
      obtain ⟨od, J⟩ := pin_at hp hz hf I hdd hD
      exact PySem.W.kia_one (PySem.W.kitx_exc C.hc C.xf.ga C.xf.gg C.xf.exC C.ha C.hn C.ht C.hm) I.kIn J e (fun z => nomatch z) fun tk => ⟨.bl b, H, I.kept (t' := tk) fun _ _ z => z, rfl, q⟩
/-- e.fld, e the pinned error at a -/
def tXP (K : PySem.W.Frag) (a : Addr) (cls : Value) (d : Option Addr) (fld : Str) (te : TE) : TE := fun σ H Q => te σ H fun x G => ∃ (D dd : Addr) (fs : List (Str × V)) (v : V), x = .ref a ∧ cls = .ref D ∧ XfC K D ∧ PySem.W.findIn K (.ref D) fld = some none ∧ d = some dd ∧ G dd = some (.xd fs) ∧ fs.lookup fld = some v ∧ Q v G
theorem pe_xp (hp : (a, oe) ∈ X.pn) (hz : Zc cls d oe) (hf : ∃ z, oe.data = .fields z) (he : PE X e te) (hb : attributeBase e fld X.env (eval e X.env) = eval e X.env := by rfl) : PE X (.Attribute e fld pos) (tXP X.K a cls d fld te) := by
  constructor
  intro pins s σ H Q I h
  refine attr_of hb (thn (he.run pins s σ H _ I h) ?_)
  rintro u s1 ⟨x, G, I1, rx, D, dd, fs, v, rfl, hD, T, hno, ed, ea, l, q⟩
  cases rx
  subst ed
  obtain ⟨hget, _⟩ := I1.pin (a, oe) (List.mem_append_left _ hp)
  obtain ⟨vs, hv⟩ := hf
  have hx : ObjOk X.prog X.w G s1.heap dd (.xd fs) := I1.hok dd _ ea
  obtain ⟨mA, hns, hrel⟩ := hx
  obtain ⟨od, ho, hl⟩ := lookIn_ns hns
  obtain ⟨u, hu, ru⟩ := RelO.some_of (v := v) (o := mA fld) (by rw [← l]; exact hrel fld)
  have J : PySem.W.InstAt s1.heap a oe D (some od) := ⟨hget, hz.1.trans hD, by unfold PySem.W.notCls; rw [hv] <;> rfl, by rw [hz.2]; exact ho⟩
  exact HandSPX.exc_get I1.kIn J T.ga T.gg T.exC (PySem.W.findObj_own T.hdC hno rfl (by rw [hl, hu])) (handed_of ru) ⟨v, G, I1.tok _, ru, q⟩
/-- list.count of flat items -/
def rCntF (K : PySem.W.Frag) : V → List V → Hp → VK → Prop := fun x xs H Q => ∃ (p : Addr) (ys : List V) (y : V), x = .ref p ∧ xs = [y] ∧ SqL K H p ys ∧ flatV y = true ∧ ys.all flatV = true ∧ Q (.int (ys.countP fun z => eqV z y : Nat)) H
theorem countU {y : V} : ∀ {ys : List V} {us : List Value}, Vals ys us → ys.all flatV = true → us.countP (eqU y) = ys.countP fun z => eqV z y
  | _, _, .nil, _ => rfl
  | z :: zs, u :: us, .cons r t, f => by
    rw [List.all_cons, Bool.and_eq_true] at f
    rw [List.countP_cons, List.countP_cons, countU t f.2, eqU_of r f.1]
theorem mt_countF : MtR X "list.count" (rCntF X.K) := by
  intro pins s σ H x xs v us Q I rx rxs h
  obtain ⟨p, ys, y, rfl, rfl, hs, fy, fys, q⟩ := h
  cases rx
  cases rxs with
  | cons ry rt =>
    rename_i uy ut
    cases rt
    obtain ⟨its, rv, ⟨⟨cls, dd, data, sl⟩, n, ho, hc, hdn, hd⟩, hlen⟩ := I.list hs
    simp only at hc hd
    subst hc hd
    refine call_meets PySem.F.slot_list_count ⟨_, ho, rfl⟩ PySem.F.entry_list_count (PySem.F.args_list_count_2 _ _)
      (SeqAt.list_countAt p its.toArray n dd sl uy (eqU y)) ⟨ho, fun u hu => mem_eqAt ry fy rv fys u (by simpa using hu), ?_⟩
    have ec : its.toArray.toList.countP (eqU y) = ys.countP fun z => eqV z y := countU rv fys
    refine ⟨.int (ys.countP fun z => eqV z y : Nat), H, I.tok _, ⟨s.toks, ?_⟩, q⟩
    show Value.int ((its.toArray.toList.countP (eqU y) : Nat) : Int) s.toks = _
    rw [ec]
end
end Kit

end
section
set_option Elab.async false
set_option maxRecDepth 100000
set_option maxHeartbeats 4000000
namespace Kit
open PySem PySem.Spec PyProof.Rows L2

/-! ### texts as lists of codes -/
def S (l : List Nat) : Str := ⟨l.toArray⟩
abbrev tx (l : List Nat) : V := .str (S l)
theorem S_len (l : List Nat) : (S l).length = l.length := by
  show l.toArray.size = l.length
  exact List.size_toArray
theorem S_cps (l : List Nat) : (S l).cps.toList = l := rfl
theorem S_app (l m : List Nat) : S l ++ S m = S (l ++ m) := by
  show (⟨l.toArray ++ m.toArray⟩ : Str) = ⟨(l ++ m).toArray⟩
  rw [List.append_toArray]
theorem S_inj {l m : List Nat} (h : S l = S m) : l = m := by
  have z := congrArg (fun s => s.cps.toList) h
  exact z
theorem S_eq {l m : List Nat} : S l = S m ↔ l = m := ⟨S_inj, fun h => by rw [h]⟩
theorem S_of (s : Str) : ∃ l, s = S l := ⟨s.cps.toList, by cases s; rfl⟩
theorem S_one (c : Nat) : (⟨#[c]⟩ : Str) = S [c] := rfl
theorem cut_S (l : List Nat) (lo hi : Option Int) : cutS (S l) lo hi = S ((l.drop (HT.sIx l.length 0 lo)).take (HT.sIx l.length l.length hi - HT.sIx l.length 0 lo)) := by
  unfold cutS
  rw [S_len]
  rfl
/-- what was tracked stays -/
abbrev Ex := @Same
theorem ex_new {H : Hp} {p : Addr} {o : HO} (h : H p = none) : Same H (upd H p o) := fun b u e => by
  rw [upd_ne (ne_of_none e h)]
  exact e
/-- an object that H does not know may change -/
theorem ex_mut {H G : Hp} {p : Addr} {o : HO} (e : Same H G) (h : H p = none) : Same H (upd G p o) := fun b u hb => by
  rw [upd_ne (ne_of_none hb h)]
  exact e b u hb
theorem szl {n : Nat} (h : n ≤ 100000) : n ≤ sizeLine := Nat.le_trans h (by decide)
theorem szlt {n : Nat} (h : n < 100000) : n < sizeLine := Nat.lt_of_lt_of_le h (by decide)
theorem seqL_of {K : PySem.W.Frag} {H : Hp} {a : Addr} {xs : List V} (h : H a = some (.lst xs)) : SqL K H a xs := .inl (.inl h)
theorem seqT_of {K : PySem.W.Frag} {H : Hp} {a : Addr} {xs : List V} (h : H a = some (.tup xs)) : SqT K H a xs := .inl (.inl h)

/-! ### data: what laws compare -/
inductive D where
  | non | bl (b : Bool) | int (i : Int) | txt (l : List Nat) | lst (xs : List D) | tup (xs : List D)
mutual
def Rp (H : Hp) : D → V → Prop
  | .non, v => v = .non
  | .bl b, v => v = .bl b
  | .int i, v => v = .int i
  | .txt l, v => v = tx l
  | .lst ds, v => ∃ p vs, v = .ref p ∧ H p = some (.lst vs) ∧ Rps H ds vs
  | .tup ds, v => ∃ p vs, v = .ref p ∧ H p = some (.tup vs) ∧ Rps H ds vs
def Rps (H : Hp) : List D → List V → Prop
  | [], vs => vs = []
  | d :: ds, vs => ∃ v r, vs = v :: r ∧ Rp H d v ∧ Rps H ds r
end
mutual
theorem Rp.mono {H G : Hp} (e : Same H G) : ∀ (d : D) (v : V), Rp H d v → Rp G d v
  | .non, _, h => h
  | .bl _, _, h => h
  | .int _, _, h => h
  | .txt _, _, h => h
  | .lst ds, _, ⟨p, vs, hv, hp, r⟩ => ⟨p, vs, hv, e _ _ hp, Rps.mono e ds vs r⟩
  | .tup ds, _, ⟨p, vs, hv, hp, r⟩ => ⟨p, vs, hv, e _ _ hp, Rps.mono e ds vs r⟩
theorem Rps.mono {H G : Hp} (e : Same H G) : ∀ (ds : List D) (vs : List V), Rps H ds vs → Rps G ds vs
  | [], _, h => h
  | d :: ds, _, ⟨v, r, hv, h1, h2⟩ => ⟨v, r, hv, Rp.mono e d v h1, Rps.mono e ds r h2⟩
end
theorem Rps.len {H : Hp} : ∀ {ds : List D} {vs : List V}, Rps H ds vs → vs.length = ds.length
  | [], _, h => by
    cases h
    rfl
  | d :: ds, _, ⟨v, r, hv, _, h2⟩ => by
    rw [hv, List.length_cons, List.length_cons, Rps.len h2]
theorem Rps.at {H : Hp} : ∀ {ds : List D} {vs : List V} (i : Nat) (d : D), Rps H ds vs → ds[i]? = some d → ∃ v, vs[i]? = some v ∧ Rp H d v
  | [], _, _, _, _, e => by simp at e
  | d :: ds, _, 0, d', ⟨v, r, hv, h1, _⟩, e => by
    rw [hv]
    simp at e
    subst e
    exact ⟨v, rfl, h1⟩
  | d :: ds, _, i + 1, d', ⟨v, r, hv, _, h2⟩, e => by
    rw [hv]
    exact Rps.at i d' h2 (by simpa using e)
theorem Rps.txts {H : Hp} : ∀ (ls : List (List Nat)), Rps H (ls.map .txt) (ls.map tx)
  | [] => rfl
  | l :: ls => ⟨tx l, ls.map tx, rfl, rfl, Rps.txts ls⟩
theorem Rps.txts_eq {H : Hp} : ∀ {ls : List (List Nat)} {vs : List V}, Rps H (ls.map .txt) vs → vs = ls.map tx
  | [], _, h => h
  | l :: ls, _, ⟨v, r, hv, h1, h2⟩ => by
    rw [hv, Rps.txts_eq h2, show v = tx l from h1]
    rfl

/-! ### purses -/
def PurseAt (H : Hp) (p : Addr) : Prop := ∃ x y z : Int, H p = some (.lst [.int x, .int y, .int z]) ∧ 0 ≤ x
def spDraw : Sp := fun vs H Q _ => ∃ (p : Addr) (n : Int), vs = [.ref p, .int n] ∧ PurseAt H p ∧ 0 < n ∧ n < 1000000000 ∧ ∀ (d : Int) (o : HO), 0 ≤ d → d < n → PurseAt (upd H p o) p → Q (.int d) (upd H p o)
def spPurse (K : PySem.W.Frag) : Sp := fun vs H Q _ => ∃ (a : Addr) (ns : List Int) (k s : Int), vs = [.ref a, .int k, .int s] ∧ SqL K H a (ns.map V.int) ∧ ns.length ≤ 63 ∧ 0 ≤ k ∧ k ≤ 63 ∧ ∀ (q : Addr) (o : HO), H q = none → PurseAt (upd H q o) q → Q (.ref q) (upd H q o)
end Kit

end
section
set_option Elab.async false
set_option maxRecDepth 100000
set_option maxHeartbeats 4000000
namespace Kit
open PySem PySem.Spec PyProof.Rows L2

/-! ### comprehensions without a test, one name -/
section
variable {J : It} {n : Nat} {G : Hp → Prop} {Y : Nat → Hp → V → Hp → Prop} {te : TE} {σ : St} {H1 : Hp} {D : Addr} {Qd : Hp → Prop}
theorem wipe1 (j : Nat) (x : Option V) : wipe ((wipe σ [j]).set j x) [j] = wipe σ [j] := by
  show ((wipe σ [j]).set j x).set j none = σ.set j none
  rw [List.set_set]
  show (σ.set j none).set j none = σ.set j none
  rw [List.set_set]
theorem set1 (j : Nat) (x : Option V) : (wipe σ [j]).set j x = σ.set j x := by
  show (σ.set j none).set j x = _
  rw [List.set_set]
theorem lc_one (w : Walk J n G Y) {j : Nat} (out : List V) (hn : out.length = n) (hsz : n ≤ 100000) (hD : H1 D = none) (hG : ∀ H, Same H1 H → G H)
    (hs : ∀ i x H H' v, i < n → Same H1 H → Y i H x H' → out[i]? = some v → Same H H' ∧ ∀ Q : VK, (∀ M, Same H' M → Q v M) → te (σ.set j (some x)) H' Q)
    (hd : ∀ H, Same H1 H → H D = some (.lst out) → Qd H) :
    ∃ W : Nat → Nat → Hp → Prop, (∃ m, W 0 m (upd H1 D (.lst []))) ∧ ∀ i m H, W i m H →
      (J.stop i H ∧ Qd H) ∨ (J.go i H ∧ ∃ Nx : Hp → Prop, (∀ H', Nx H' → ∃ m', m' < m ∧ W (i + 1) m' H') ∧ ∀ x H', J.yld i H x H' → gName j x (wipe σ [j]) H' fun σ2 H2 => wipe σ2 [j] = wipe σ [j] ∧ tYes σ2 H2 fun b H3 =>
        if b = true then te σ2 H3 fun y H4 => ∃ acc, H4 D = some (.lst acc) ∧ acc.length < sizeLine ∧ Nx (upd H4 D (.lst (acc ++ [y]))) else Nx H3) := by
  refine lc_it w (fun i H => Same H1 H ∧ H D = some (.lst (out.take i))) ⟨ex_new hD, upd_same⟩ (fun i H _ h => hG H h.1) ?_ ?_
  · rintro i x H H' hi ⟨s1, hHD⟩ y
    have hv : out[i]? = some (out[i]'(by omega)) := List.getElem?_eq_getElem _
    obtain ⟨s2, ht⟩ := hs i x H H' _ hi s1 y hv
    show wipe ((wipe σ [j]).set j (some x)) [j] = _ ∧ _
    refine ⟨wipe1 j _, ?_⟩
    unfold tYes
    dsimp only
    rw [if_pos rfl]
    rw [set1]
    refine ht _ fun M s3 => ⟨out.take i, s3 _ _ (s2 _ _ hHD), by rw [List.length_take]; exact szlt (by omega), ?_⟩
    refine ⟨ex_mut ((s1.trans s2).trans s3) hD, ?_⟩
    rw [upd_same, List.take_add_one, hv]
    rfl
  · rintro H ⟨s1, hHD⟩
    refine hd H s1 ?_
    rw [hHD, List.take_of_length_le (by omega)]
end

/-! ### what a def may let out -/
def Ra (E : XK) (C : Addr) (fld : Str) (y : V) (H : Hp) : Prop := ∀ d M, Same H M → M d = some (.xd [(fld, y)]) → E (.ref C) (some d) M
theorem Ra.mono {E : XK} {C : Addr} {fld : Str} {y : V} {H G : Hp} (h : Ra E C fld y H) (e : Same H G) : Ra E C fld y G := fun d M s => h d M (e.trans s)
theorem Ra.now {E : XK} {C : Addr} {fld : Str} {y : V} {H : Hp} (h : Ra E C fld y H) : [y].length ≤ 1000 ∧ ∀ a, H a = none → spErr C fld (.ref a :: ([y] ++ [])) (upd H a (exo a C none))
    (fun v G => v = .non ∧ ∃ (d : Addr) (fs : List (Str × V)), G a = some (exo a C (some d)) ∧ G d = some (exd d fs) ∧ H d = none ∧ E (.ref C) (some d) (upd (L2.del G a) d (.xd fs))) (fun _ _ _ => False) :=
  mkE fun d hd => h d _ (ex_new hd) upd_same

/-! ### columns of a scheme: plain facts -/
def cols (n : Nat) : List Nat := (List.range n).map (97 + ·)
def inCol (n x : Nat) : Bool := decide (97 ≤ x ∧ x < 97 + n)
def inDig (c x : Nat) : Bool := decide (48 ≤ x ∧ x < 48 + c)
def isCol (n : Nat) (l : List Nat) : Bool := decide (l.length = 1) && l.all (inCol n)
def isStrip (n : Nat) (l : List Nat) : Bool := l.all (inCol n)
def isColour (c : Nat) (l : List Nat) : Bool := decide (l.length = 1) && l.all (inDig c)
def isDigs (r c : Nat) (l : List Nat) : Bool := decide (l.length = r) && l.all (inDig c)
def dig : Nat → Nat → Nat → List Nat
  | 0, _, _ => []
  | r + 1, c, k => (48 + (k / c ^ r) % c) :: dig r c k
def num (c : Nat) (l : List Nat) : Nat := l.foldl (fun acc d => acc * c + (d - 48)) 0
def Good (r c n : Nat) : Prop := (r, c, n) ∈ [(1, 2, 2), (1, 3, 3), (2, 2, 4), (2, 3, 9), (3, 2, 8)]
instance : Decidable (Good r c n) := by unfold Good; infer_instance
theorem mem_cols {n x : Nat} : x ∈ cols n ↔ inCol n x = true := by
  unfold cols inCol
  rw [List.mem_map, decide_eq_true_iff]
  constructor
  · rintro ⟨k, hk, rfl⟩
    have := List.mem_range.mp hk
    omega
  · intro h
    exact ⟨x - 97, List.mem_range.mpr (by omega), by omega⟩
theorem Good.cases {r c n : Nat} (h : Good r c n) : (r = 1 ∧ c = 2 ∧ n = 2) ∨ (r = 1 ∧ c = 3 ∧ n = 3) ∨ (r = 2 ∧ c = 2 ∧ n = 4) ∨ (r = 2 ∧ c = 3 ∧ n = 9) ∨ (r = 3 ∧ c = 2 ∧ n = 8) := by
  simpa [Good] using h
theorem cols_len (n : Nat) : (cols n).length = n := by simp [cols]
theorem dig_len (r c k : Nat) : (dig r c k).length = r := by
  induction r with
  | zero => rfl
  | succ r ih => rw [dig, List.length_cons, ih]
theorem dig_in {r c k : Nat} (hc : 0 < c) : (dig r c k).all (inDig c) = true := by
  induction r with
  | zero => rfl
  | succ r ih =>
    rw [dig, List.all_cons, ih, Bool.and_true]
    unfold inDig
    have := Nat.mod_lt (k / c ^ r) hc
    rw [decide_eq_true_iff]
    omega
theorem dig_digs {r c k : Nat} (hc : 0 < c) : isDigs r c (dig r c k) = true := by
  unfold isDigs
  rw [dig_len, dig_in hc]
  simp
/-- a list of digits is one of finitely many -/
def digLists : Nat → Nat → List (List Nat)
  | 0, _ => [[]]
  | r + 1, c => (List.range c).flatMap fun d => (digLists r c).map ((48 + d) :: ·)
theorem mem_digLists {r c : Nat} : ∀ {l : List Nat}, isDigs r c l = true → l ∈ digLists r c := by
  induction r with
  | zero =>
    intro l h
    unfold isDigs at h
    rw [Bool.and_eq_true, decide_eq_true_iff] at h
    rw [List.length_eq_zero_iff.mp h.1]
    exact List.mem_singleton.mpr rfl
  | succ r ih =>
    intro l h
    unfold isDigs at h
    rw [Bool.and_eq_true, decide_eq_true_iff] at h
    match l, h with
    | x :: l, ⟨h1, h2⟩ =>
      rw [List.all_cons, Bool.and_eq_true] at h2
      have hx := h2.1
      unfold inDig at hx
      rw [decide_eq_true_iff] at hx
      rw [digLists, List.mem_flatMap]
      refine ⟨x - 48, List.mem_range.mpr (by omega), List.mem_map.mpr ⟨l, ih ?_, ?_⟩⟩
      · unfold isDigs
        rw [Bool.and_eq_true, decide_eq_true_iff]
        exact ⟨by simpa using h1, h2.2⟩
      · rw [show 48 + (x - 48) = x by omega]
theorem num_lt {r c n : Nat} (h : Good r c n) {l : List Nat} (hl : isDigs r c l = true) : num c l < n := by
  suffices z : ∀ l ∈ digLists r c, num c l < n from z l (mem_digLists hl)
  clear hl
  rcases h.cases with ⟨rfl, rfl, rfl⟩ | ⟨rfl, rfl, rfl⟩ | ⟨rfl, rfl, rfl⟩ | ⟨rfl, rfl, rfl⟩ | ⟨rfl, rfl, rfl⟩ <;> decide +kernel
theorem dig_num {r c n : Nat} (h : Good r c n) {l : List Nat} (hl : isDigs r c l = true) : dig r c (num c l) = l := by
  suffices z : ∀ l ∈ digLists r c, dig r c (num c l) = l from z l (mem_digLists hl)
  clear hl
  rcases h.cases with ⟨rfl, rfl, rfl⟩ | ⟨rfl, rfl, rfl⟩ | ⟨rfl, rfl, rfl⟩ | ⟨rfl, rfl, rfl⟩ | ⟨rfl, rfl, rfl⟩ <;> decide +kernel
theorem num_dig {r c n k : Nat} (h : Good r c n) (hk : k < n) : num c (dig r c k) = k := by
  suffices z : ∀ k < n, num c (dig r c k) = k from z k hk
  clear hk
  rcases h.cases with ⟨rfl, rfl, rfl⟩ | ⟨rfl, rfl, rfl⟩ | ⟨rfl, rfl, rfl⟩ | ⟨rfl, rfl, rfl⟩ | ⟨rfl, rfl, rfl⟩ <;> decide +kernel
end Kit

end
section
set_option Elab.async false
set_option maxRecDepth 100000
set_option maxHeartbeats 4000000
namespace Kit
open PySem PySem.Spec PyProof.Rows L2
/-! ### rules whose reading names the written part: it is given -/
section
variable {X : Cx} {e e2 : Expr} {es : List Expr} {ta tb : TE} {t : TA} {f : Str} {pos p apos cpos : Pos} {tg : Expr}
theorem kfld (K : PySem.W.Frag) (he : PE X e ta) (hK : X.K = K := by rfl) (hb : attributeBase e f X.env (eval e X.env) = eval e X.env := by rfl) : PE X (.Attribute e f pos) (tFld K ta f) := hK ▸ pe_fld he hb
theorem kcon (K : PySem.W.Frag) (he : PE X e ta) (hK : X.K = K := by rfl) (hb : attributeBase e f X.env (eval e X.env) = eval e X.env := by rfl) : PE X (.Attribute e f pos) (tCon K ta f) := hK ▸ pe_con he hb
theorem kix_list (K : PySem.W.Frag) (hK : X.K = K := by rfl) : IxR X (rIxL K) := hK ▸ ix_list
theorem kix_tup (K : PySem.W.Frag) (hK : X.K = K := by rfl) : IxR X (rIxT K) := hK ▸ ix_tup
theorem kix_seq (K : PySem.W.Frag) (hK : X.K = K := by rfl) : IxR X (rIx K) := hK ▸ ix_seq
theorem kpi_list (K : PySem.W.Frag) (hl : PE X e ta) (hK : X.K = K := by rfl) : PI X tg e (iList K ta) := hK ▸ pi_list hl
theorem kpi_tup (K : PySem.W.Frag) (hl : PE X e ta) (hK : X.K = K := by rfl) : PI X tg e (iTup K ta) := hK ▸ pi_tup hl
theorem kisi (K : PySem.W.Frag) (hK : X.K = K := by rfl) : CallR X (.builtin "isinstance") (rIsi K) := hK ▸ call_isi
theorem klen_seq (K : PySem.W.Frag) (hK : X.K = K := by rfl) : CallR X (.builtin "len") (fun xs H Q => ∃ p ys, xs = [.ref p] ∧ (SqL K H p ys ∨ SqT K H p ys) ∧ Q (.int ys.length) H) := hK ▸ call_len_seq
theorem klen (K : PySem.W.Frag) (hK : X.K = K := by rfl) : CallR X (.builtin "len") (fun xs H Q => ∃ x n, xs = [x] ∧ LenV K x H n ∧ Q (.int n) H) := hK ▸ call_len
theorem ksum (K : PySem.W.Frag) (hc : X.calm = true) (hK : X.K = K := by rfl) : CallR X (.builtin "sum") (rSum K) := hK ▸ cr_sum hc
theorem kall (K : PySem.W.Frag) (hc : X.calm = true) (hK : X.K = K := by rfl) : CallR X (.builtin "all") (rAll K) := hK ▸ cr_all hc
theorem kin (K : PySem.W.Frag) (hK : X.K = K := by rfl) : OpR X (compareOp .In) (rIn K false) := hK ▸ op_in_seq
theorem knotin (K : PySem.W.Frag) (hK : X.K = K := by rfl) : OpR X (compareOp .NotIn) (rIn K true) := hK ▸ op_notIn_seq
theorem keqD (K : PySem.W.Frag) (hu : X.A.units + 64 < cLine) (hK : X.K = K := by rfl) : OpR X (compareOp .Eq) (rEqD K) := hK ▸ op_eqD hu
theorem kneD (K : PySem.W.Frag) (hu : X.A.units + 64 < cLine) (hK : X.K = K := by rfl) : OpR X (compareOp .NotEq) (rNeD K) := hK ▸ op_neD hu
theorem klist_of (K : PySem.W.Frag) (hK : X.K = K := by rfl) : CallR X (.type "list") (fun xs H Q => ∃ p ys, xs = [.ref p] ∧ (SqL K H p ys ∨ SqT K H p ys) ∧ ∀ l, H l = none → Q (.ref l) (upd H l (.lst ys))) := hK ▸ call_list_of
theorem ksl_list (K : PySem.W.Frag) (hK : X.K = K := by rfl) : SlR X (rSlL K) := hK ▸ sl_list
theorem kjoin (K : PySem.W.Frag) {o : Expr} {to te : TE} (ho : PE X o to) (he : PE X e te) (hK : X.K = K := by rfl) (hs : starEach [e] X.env = [(false, eval e X.env)] := by rfl) (hbase : attributeBase o "join" X.env (eval o X.env) = eval o X.env := by rfl) (hline : (apos.endLine == cpos.line) = true := by rfl) :
    PE X (.Call (.Attribute o "join" apos) [e] [] cpos) (tM1 (fun x xs H Q => ∃ a p, ∃ ys : List Str, x = .str a ∧ xs = [.ref p] ∧ (SqL K H p (ys.map V.str) ∨ SqT K H p (ys.map V.str)) ∧ (ys.map (·.length)).sum + ys.length * a.length ≤ 16777216 ∧ Q (.str (Txt.join a ys)) H) to te) := hK ▸ pe_join ho he hs hbase hline
end
end Kit

end
section
set_option Elab.async false
set_option linter.all false
set_option maxRecDepth 100000
set_option maxHeartbeats 4000000
namespace Kit
open PySem PySem.Spec PyProof.Rows L2
/-! ### an own == : what its def promises, of any other thing whose type does not come first -/
section
variable {X : Cx} {C : Addr} {k j : Nat} {sp : Sp}
/-- what the type of the other thing must be -/
def OtherOk (K : PySem.W.Frag) (C : Addr) (H : Hp) (y : V) : Prop := (∃ i, y = .int i) ∨ (∃ z, y = .str z) ∨ ∃ b dx fs, y = .ref b ∧ H b = some (.ins C dx fs)
def rEqO (K : PySem.W.Frag) (C : Addr) (sp : Sp) : R2 := fun x y H Q => ∃ a dx fs, x = .ref a ∧ H a = some (.ins C dx fs) ∧ OtherOk K C H y ∧ sp [x, y] H (fun v G => ∃ b, v = .bl b ∧ Q (.bl b) G) E0
theorem eqO (K : PySem.W.Frag) (c : CanM X.prog X.w X.K X.mg X.base k C "__eq__" sp) (hr : Room j X.A) (hk : k ≤ j) (hni : PySem.W.notFirst K C (.type "int") = true) (hns : PySem.W.notFirst K C (.type "str") = true) (hK : X.K = K := by rfl) : OpR X (compareOp .Eq) (rEqO K C sp) := by
  subst hK
  obtain ⟨f, fd, ps, F, hc, hm, b⟩ := c.ex
  intro pins s σ H x y v u Q I rx ry hq
  obtain ⟨a, dx, fs, rfl, ha, ho, h⟩ := hq
  cases rx
  show wpAny (model X.prog X.w) X.A (richCompare .Eq (.ref a) u) (EP X pins σ Q) X.xe s
  obtain ⟨mA, J, _⟩ := ins_get I.hok ha
  obtain ⟨od, J, _⟩ := J.look
  obtain ⟨m, hF⟩ := I.fr
  have tb : ∃ tb, PySem.W.Looks (model X.prog X.w) s.heap (typeOf u) tb ∧ PySem.W.notFirst X.K C tb = true := by
    rcases ho with ⟨i, rfl⟩ | ⟨z, rfl⟩ | ⟨b', dy, gs, rfl, hb'⟩
    · obtain ⟨t, rfl⟩ := ry
      exact ⟨.type "int", .now, hni⟩
    · obtain ⟨t, rfl⟩ := ry
      exact ⟨.type "str", .now, hns⟩
    · cases ry
      obtain ⟨mB, J', _⟩ := ins_get I.hok hb'
      obtain ⟨od', J', _⟩ := J'.look
      exact ⟨.ref C, J'.type, by simp [PySem.W.notFirst]⟩
  obtain ⟨tb, htb, hnf⟩ := tb
  refine PySem.W.cmp_K (op := .Eq) (tb := tb) (hr.mono hk).units0 hF I.ok.mod.kin J htb hnf hm.at_ hm.fn ?_
  refine wpAny_mono (run_fn (us := [.ref a, u]) (vs := [.ref a, y]) (dvs := []) (ds := []) F (hr.mono hk) b .nil passL I (.cons rfl (.cons ry .nil)) h) (fun r s' z => ?_) fun _ _ x => x
  obtain ⟨v, H', I', rv, bb, rfl, q⟩ := z
  cases rv
  exact ⟨.bl bb, H', I', rfl, q⟩
/-- len(o) by an own __len__ -/
def rLenO (C : Addr) (sp : Sp) : List V → Hp → VK → Prop := fun xs H Q => ∃ a dx fs, xs = [.ref a] ∧ H a = some (.ins C dx fs) ∧ sp [.ref a] H (fun v G => ∃ n : Int, v = .int n ∧ 0 ≤ n ∧ n < 2 ^ 63 ∧ Q (.int n) G) E0
theorem lenO (c : CanM X.prog X.w X.K X.mg X.base k C "__len__" sp) (hr : Room j X.A) (hk : k + 1 ≤ j) : CallR X (.builtin "len") (rLenO C sp) := by
  obtain ⟨f, fd, ps, F, hc, hm, b⟩ := c.ex
  intro pins s σ H xs us Q I r h
  obtain ⟨a, dx, fs, rfl, ha, h⟩ := h
  rw [Vals.ref1 r]
  obtain ⟨mA, J, _⟩ := ins_get I.hok ha
  obtain ⟨od, J, _⟩ := J.look
  obtain ⟨m, hF⟩ := I.fr
  refine PySem.W.len_K hF I.ok.mod.kin J hm.at_ hm.fn ?_
  have hr1 : Room k X.A.in1 := (hr.mono hk).in1
  have e0 : Env0 X.prog X.w X.K X.mg X.base X.A.in1 X.stack s H := by
    have e := I.env0
    exact ⟨e.frames, e.mod, e.bs, e.bsz, e.funs, e.frf, e.hok, e.bare⟩
  have hl := F.len _ _ _ _ h
  have bb := b s [.ref a] I.kIn (by simpa using hl)
  refine wpAny_call (codeAny_mono (F.run X.A.in1 X.stack s H ⟨[.ref a], []⟩ [.ref a] [.ref a] _ E0 hr1 e0 (by simpa using bb) (.cons rfl .nil) h) ?_)
  intro z s' hq
  cases z with
  | error e =>
    obtain ⟨_, _, _, _, _, _, _, _, _, _, _, _, y⟩ := hq
    exact y.elim
  | ok fl =>
    cases fl with
    | ret w =>
      obtain ⟨v, H', I', rz, n, rfl, h0, h1, q⟩ := I.after hq
      obtain ⟨t, rfl⟩ := rz
      exact ⟨⟨h0, h1⟩, .int n, H', I'.tok _, ⟨_, rfl⟩, q⟩
    | next => exact hq.elim
    | brk => exact hq.elim
    | cont => exact hq.elim
theorem vals_get : ∀ {xs : List V} {us : List Value}, xs.length = us.length → (∀ (i : Nat) x u, xs[i]? = some x → us[i]? = some u → RelV x u) → Vals xs us
  | [], [], _, _ => .nil
  | x :: xs, u :: us, h, f => .cons (f 0 x u rfl rfl) (vals_get (by simpa using h) fun i y v h1 h2 => f (i + 1) y v (by simpa using h1) (by simpa using h2))
/-- list(text) -/
theorem listS (hc : X.calm = true) : CallR X (.type "list") (fun xs H Q => ∃ l : List Nat, xs = [tx l] ∧ l.length ≤ 100000 ∧ ∀ p, H p = none → Q (.ref p) (upd H p (.lst (l.map fun x => tx [x])))) := by
  intro pins s σ H xs us Q I r h
  obtain ⟨l, rfl, hl, q⟩ := h
  cases r with
  | cons rx rr =>
    cases rr
    obtain ⟨t, rfl⟩ := rx
    refine call_list_str (I.ok.hd hc) (S l) t (hn := by show (S l).length ≤ _; rw [S_len]; exact szl hl) ?_
    intro h' tk acc c' hk hS hit
    refine ⟨.ref s.heap.objs.size, _, I.laid (t' := tk) (o := .lst (l.map fun x => tx [x])) hk (Nat.le_refl _) ?_, rfl, q _ (I.hok.fresh (Nat.le_refl _))⟩
    have hn : acc.toList.length = l.length := by
      rw [Array.length_toList, hit.1]
      exact S_len l
    refine ⟨szl (by rw [List.length_map]; exact hl), acc.toList, c', vals_get (by rw [List.length_map, hn]) ?_, hS⟩
    intro i v u hv hu
    obtain ⟨ch, t', h1, rfl⟩ := hit.2 i u (by rw [← Array.getElem?_toList]; exact hu)
    have h1 : l[i]? = some ch := by
      have z : (S l).cps[i]? = l[i]? := List.getElem?_toArray ..
      rw [← z]
      exact h1
    rw [List.getElem?_map, h1] at hv
    cases hv
    exact ⟨t', rfl⟩
end

/-! ### enumerate(xs, start=k) -/
def ItS (a : Addr) (k : Int) : It :=
  ⟨fun i G => ∃ (xs : List V) (x : V), G a = some (.lst xs) ∧ xs[i]? = some x, fun i G v G' => ∃ T x, v = .ref T ∧ G T = none ∧ G' = upd G T (.tup [.int (k + (i : Nat)), x]) ∧ ∀ xs, G a = some (.lst xs) → xs[i]? = some x, fun i G => ∃ xs : List V, G a = some (.lst xs) ∧ xs.length = i⟩
theorem turn_S {P : Program} {w : World} {K : PySem.W.Frag} {elts : List Expr} {kk : Nat} {tpos : Pos} (a e it : Addr) (k : Int) :
    Turn P w K (.Tuple elts kk tpos) (ItS a k) [e, it] e (fun i h => (∃ old, IsEnum h e it (k + ((i : Nat) : Int)) old) ∧ h.IsListIter it a i ∧ e ≠ it) where
  mem := by simp
  obj := by
    rintro i h ⟨⟨old, he⟩, ⟨o, ho, hc, hd⟩, _⟩ b hb
    have z : b = e ∨ b = it := by simpa using hb
    rcases z with rfl | rfl
    · exact ⟨_, he, fun v q => nomatch q⟩
    · exact ⟨o, ho, fun v q => by rw [hd] at q; cases q⟩
  keep := by
    rintro i h h' ⟨⟨old, he⟩, hi, hne⟩ k
    exact ⟨⟨old, k e (by simp) _ he⟩, hi.at fun o q => k it (by simp) o q, hne⟩
  item := by
    intro X hP hw hK hc i pins s σ H E I hf st hg
    subst hP hw hK
    obtain ⟨⟨old, he⟩, hit, hne⟩ := st
    obtain ⟨xs, x, hq, hx⟩ := hg
    obtain ⟨hzz, its, nn, rv, hl0⟩ := (show ObjOk X.prog X.w H s.heap a (.lst xs) from I.hok a _ hq)
    have hL : s.heap.IsList a its.toArray := ⟨_, hl0, rfl, nn, rfl⟩
    obtain ⟨u, hu, ru⟩ := rv.get hx
    have nai : a ≠ it := fun z => by
      have := (hf it (by simp)).1
      rw [← z, hq] at this
      cases this
    have nae : a ≠ e := fun z => by
      have := (hf e (by simp)).1
      rw [← z, hq] at this
      cases this
    have hlen : i < its.toArray.size := by
      have z := (List.getElem?_eq_some_iff.mp hx).1
      have y := rv.length
      rw [List.size_toArray]
      omega
    have le : e < s.heap.objs.size := Heap.lt_size he
    have li : it < s.heap.objs.size := by
      obtain ⟨_, q, _⟩ := hit
      exact Heap.lt_size q
    refine wpAny_pyNext_enum_itemC (Draws.list (A := X.A.in1) (show X.A.in1.handled = none from I.ok.hd hc) it a nai its.toArray) he ⟨hit, hL⟩ hlen hne (by simp [hne, Ne.symm nae]) ?_
    intro u' h' tk hu' ho hit' hT hsz hk
    obtain rfl : u' = u := by
      have z : its[i]? = some u' := by simpa using hu'
      rw [hu] at z
      exact (Option.some.inj z).symm
    refine ⟨_, rfl, wpAny_letOwnedTupleGo_enum (s := { s with heap := h', toks := tk + 1 }) ho ?_⟩
    intro h'' he' sb
    have hT2 : h''.get? s.heap.objs.size = some { cls := .type "tuple", data := .seq #[.int (k + (i : Nat)) tk, u'] } := (sb.2 _ (Nat.ne_of_gt le)).trans hT
    have new : ObjOk X.prog X.w (upd H s.heap.objs.size (.tup [.int (k + (i : Nat)), x])) h'' s.heap.objs.size (.tup [.int (k + (i : Nat)), x]) :=
      ⟨by show 2 ≤ sizeLine; decide, [.int (k + (i : Nat)) tk, u'], .cons ⟨_, rfl⟩ (.cons ru .nil), ⟨_, hT2, rfl, _, rfl⟩⟩
    have J : Inv X pins σ (upd H s.heap.objs.size (.tup [.int (k + (i : Nat)), x])) { s with heap := h'', toks := tk + 1 } :=
      I.turnedNew (ch := [e, it]) (fun b ob hb q => (sb.2 b (fun z => hb (by simp [z]))).trans (hk b ob (fun z => hb (by simp [z])) (fun z => hb (by simp [z])) q)) hf (Nat.le_refl _) new
    refine ⟨.ref s.heap.objs.size, _, J, rfl, ⟨_, x, rfl, I.hok.fresh (Nat.le_refl _), rfl, fun ys hy => by rw [hq] at hy; cases hy; exact hx⟩, ⟨⟨u', ?_⟩, hit'.1.at fun o q => (sb.2 it (Ne.symm hne)).trans q, hne⟩, ?_⟩
    · rw [show k + ((i + 1 : Nat) : Int) = k + (i : Int) + 1 by omega]
      exact he'
    · intro b hb
      have hb' : b < s.heap.objs.size := by
        have z : b = e ∨ b = it := by simpa using hb
        rcases z with rfl | rfl
        · exact le
        · exact li
      rw [upd_ne (Nat.ne_of_lt hb')]
      exact (hf b hb).1
  done := by
    intro X hP hw hK hc i pins s σ H E I hf st hg
    subst hP hw hK
    obtain ⟨⟨old, he⟩, hit, hne⟩ := st
    obtain ⟨xs, hq, hx⟩ := hg
    obtain ⟨hzz, its, nn, rv, hl0⟩ := (show ObjOk X.prog X.w H s.heap a (.lst xs) from I.hok a _ hq)
    have hL : s.heap.IsList a its.toArray := ⟨_, hl0, rfl, nn, rfl⟩
    obtain ⟨f0, f1, f2, f3, f4, f5⟩ := hf it (by simp)
    have hl := rv.length
    have nai : a ≠ it := fun z => by
      rw [← z, hq] at f0
      cases f0
    have nae : a ≠ e := fun z => by
      have := (hf e (by simp)).1
      rw [← z, hq] at this
      cases this
    have hz : its.toArray.size = i := by
      rw [List.size_toArray]
      omega
    subst hz
    exact wpAny_pyNext_enum_endD (Draws.list (A := X.A.in1) (show X.A.in1.handled = none from I.ok.hd hc) it a nai its.toArray) he ⟨hit, hL⟩ fun h' eb => ⟨rfl, I.turned (t' := s.toks) (fun b o hb q => eb b o hb q) f0 f1 f3 f4 f5⟩
  self := by
    rintro A i s Q E ⟨⟨_, he⟩, _⟩ h
    exact wpAny_pyIter_enum he h
theorem walk_S {a : Addr} {k : Int} {xs : List V} : Walk (ItS a k) xs.length (fun G => G a = some (.lst xs)) (YPair (fun i => some (.int (k + (i : Nat)))) (fun i => xs[i]?)) := by
  refine ⟨fun i G hi q => ⟨xs, xs[i], q, List.getElem?_eq_getElem hi⟩, fun G q => ⟨xs, q, rfl⟩, ?_⟩
  rintro i G v G' hi q ⟨T, x, rfl, hT, rfl, hx⟩
  exact ⟨T, _, x, rfl, hT, rfl, rfl, hx xs q⟩
def iEnumS (K : PySem.W.Frag) (t tk : TA) : TI := fun σ H R => t σ H fun vs G => tk σ G fun zs G' => ∃ a xs k, vs = [.ref a] ∧ zs = [.int k] ∧ -(2 ^ 63) ≤ k ∧ k < 2 ^ 63 ∧ G' a = some (.lst xs) ∧ R (ItS a k) G'
theorem kws_type {M : Model} {A : Around} {E : Value → Shared → Prop} {s : Shared} {pos : Pos} {T : String} {args : List (Bool × Sem Value)} {keywords : List (Option Str × Sem Value)} {Q : Value → Shared → Prop}
    (hplain : args.any (·.1) = false) (hkw : keywords.any (·.1.isNone) = false) (h : wpAny M A (evalArgs (.type T) true args keywords) (fun a s₁ => wpAny M A (call (.type T) a.pos a.kw) Q E s₁) E s) : wpAny M A (callWith pos (.type T) [] args keywords) Q E s := by
  unfold callWith
  refine wpAny_bind (wpAny_holding (wpAny_mono h ?_ fun _ _ x => x))
  intro a s₁ h₁
  refine wpAny_bind (wpAny_standAt ?_)
  simp only [hplain, hkw, Bool.or_false]
  refine wpAny_bind (wpAny_pure ?_)
  exact wpAny_bind (wpAny_mono h₁ (fun r s₂ hr => wpAny_bind (wpAny_holding (wpAny_point (wpAny_pure hr)))) fun _ _ x => x)
theorem pi_enumS {X : Cx} {e : Expr} {t tk : TA} {p pos tpos kp : Pos} {elts : List Expr} {kk : Nat} {kv : Expr} (hg : Gl X "enumerate") (hm : X.mg "enumerate" = none) (ha : PA X [e] t) (hk : PK X [⟨some "start", kv, kp⟩] tk)
    (he : backTo pos (starEach [e] X.env) = (false, eval e X.env) :: backTo pos (starEach [] X.env) := by rfl) (hpl : (backTo pos (starEach [e] X.env)).any (·.1) = false := by rfl)
    (hall : (backToKw pos (keywordEach [⟨some "start", kv, kp⟩] X.env)).all (·.1.isSome) = true := by rfl) (hnone : (backToKw pos (keywordEach [⟨some "start", kv, kp⟩] X.env)).any (·.1.isNone) = false := by rfl)
    (hks : (backToKw pos (keywordEach [⟨some "start", kv, kp⟩] X.env)).filterMap (·.1) = [("start" : Str)] := by rfl) :
    PI X (.Tuple elts kk tpos) (.Call (.Name "enumerate" p) [e] [⟨some "start", kv, kp⟩] pos) (iEnumS X.K t tk) := by
  constructor
  intro pins s σ H R I h
  refine wpAny_Call_Name_kw (ld_blt I hg hm boot_enumerate ?_ (by decide) (by decide))
  refine kws_type hpl hnone ?_
  have run := thn (ha.run pos pins s σ H _ I h) fun us s1 (z : AP X pins σ _ us s1) => (show wpAny (model X.prog X.w) X.A (evalAll ((backToKw pos (keywordEach [⟨some "start", kv, kp⟩] X.env)).map (·.2))) (fun ws s2 => wpAny (model X.prog X.w) X.A (call (.type "enumerate") us ([("start" : Str)].zip ws))
      (fun v s1 => wpAny (model X.prog X.w) X.A (pyIter v) (PIE X pins σ (.Tuple elts kk tpos) R) X.xe s1) X.xe s2) X.xe s1 from by
    obtain ⟨vs, G, I1, r1, q1⟩ := z
    refine thn (hk.run pos pins s1 σ G _ I1 q1) ?_
    rintro ws s2 ⟨zs, G', I2, r2, a, xs, k, rfl, rfl, hk0, hk1, hq, q⟩
    cases r1 with
    | cons ra rr =>
      cases rr
      cases ra
      cases r2 with
      | cons rk rr =>
        cases rr
        obtain ⟨tk', rfl⟩ := rk
        obtain ⟨hzz, its, nn, rv, hl0⟩ := (show ObjOk X.prog X.w G' s2.heap a (.lst xs) from I2.hok a _ hq)
        have hL : s2.heap.IsList a its.toArray := ⟨_, hl0, rfl, nn, rfl⟩
        refine enum_begins_start (begins_list a its.toArray) hL hk0 hk1 ?_
        intro h' hen hit hsz hkeep
        refine wpAny_pyIter_enum hen ?_
        have J : Inv X pins σ G' { s2 with heap := h' } := I2.kept (t' := s2.toks) hkeep
        refine ⟨s2.heap.objs.size + 1, [s2.heap.objs.size + 1, s2.heap.objs.size], _, _, G', rfl, J, turn_S a (s2.heap.objs.size + 1) s2.heap.objs.size k, ⟨⟨.none, by simpa using hen⟩, ⟨_, hit, rfl, rfl⟩, Nat.succ_ne_self _⟩, ?_, q⟩
        intro b hb
        have z : b = s2.heap.objs.size + 1 ∨ b = s2.heap.objs.size := by simpa using hb
        have hle : s2.heap.objs.size ≤ b := by
          rcases z with z | z
          · rw [z]
            exact Nat.le_succ _
          · rw [z]
            exact Nat.le_refl _
        exact I2.fpOk hle (I2.hok.fresh hle))
  rw [he] at run ⊢
  refine PyProof.Rows.evalArgs_kwB hall ?_
  rw [hks]
  exact run
end Kit

end
section
set_option Elab.async false
set_option linter.all false
set_option maxRecDepth 100000
set_option maxHeartbeats 4000000
namespace Kit
open PySem PySem.Spec PyProof.Rows L2
/-! ### == and != of data without dicts, any texts -/
section
variable {X : Cx}
def rEqP (K : PySem.W.Frag) : R2 := fun x y H Q => ∃ d e, Dp K H x d ∧ Dp K H y e ∧ d.plain = true ∧ e.plain = true ∧ d.depth ≤ 64 ∧ Q (.bl (PyData.eqv d e)) H
def rNeP (K : PySem.W.Frag) : R2 := fun x y H Q => ∃ d e, Dp K H x d ∧ Dp K H y e ∧ d.plain = true ∧ e.plain = true ∧ d.depth ≤ 64 ∧ Q (.bl (!PyData.eqv d e)) H
theorem keqP (K : PySem.W.Frag) (hu : X.A.units + 64 < cLine) (hK : X.K = K := by rfl) : OpR X (compareOp .Eq) (rEqP K) := by
  subst hK
  intro pins s σ H x y v u Q I rx ry h
  obtain ⟨d, e, hd, he, sd, se, dd, q⟩ := h
  obtain ⟨as, r1⟩ := Dp.reads I d x v hd rx
  obtain ⟨bs, r2⟩ := Dp.reads I e y u he ry
  exact SeqAt.eq_plain r1 r2 sd se (by omega) ⟨.bl _, H, I, rfl, q⟩
theorem kneP (K : PySem.W.Frag) (hu : X.A.units + 64 < cLine) (hK : X.K = K := by rfl) : OpR X (compareOp .NotEq) (rNeP K) := by
  subst hK
  intro pins s σ H x y v u Q I rx ry h
  obtain ⟨d, e, hd, he, sd, se, dd, q⟩ := h
  obtain ⟨as, r1⟩ := Dp.reads I d x v hd rx
  obtain ⟨bs, r2⟩ := Dp.reads I e y u he ry
  exact SeqAt.ne_plain r1 r2 sd se (by omega) ⟨.bl _, H, I, rfl, q⟩
end
/-- lists of texts as such data -/
def pdL (ls : List (List Nat)) : PyData := .list (ls.map fun l => .str (S l))
theorem dpAll_txt {K : PySem.W.Frag} {H : Hp} : ∀ ls : List (List Nat), DpAll K H (ls.map tx) (ls.map fun l => .str (S l))
  | [] => .nil
  | l :: ls => .cons (.str _) (dpAll_txt ls)
theorem dp_txt {K : PySem.W.Frag} {H : Hp} {p : Addr} {ls : List (List Nat)} (h : H p = some (.lst (ls.map tx))) : Dp K H (.ref p) (pdL ls) := .lst (seqL_of h) (dpAll_txt ls)
theorem plainL (ls : List (List Nat)) : (pdL ls).plain = true := by
  unfold pdL PyData.plain
  induction ls with
  | nil => rfl
  | cons l ls ih =>
    rw [List.map_cons]
    unfold PyData.plainAll
    rw [ih]
    rfl
theorem depthAllL (ls : List (List Nat)) : PyData.depthAll (ls.map fun l => .str (S l)) ≤ 1 := by
  induction ls with
  | nil => simp [PyData.depthAll]
  | cons l ls ih =>
    rw [List.map_cons]
    unfold PyData.depthAll
    unfold PyData.depth
    omega
theorem depthL (ls : List (List Nat)) : (pdL ls).depth ≤ 64 := by
  unfold pdL PyData.depth
  have := depthAllL ls
  omega
end Kit

end
section
set_option Elab.async false
set_option linter.all false
set_option maxRecDepth 100000
set_option maxHeartbeats 4000000
namespace Kit
open PySem PySem.Spec PyProof.Rows L2
/-! ### own two-place operators, str(o), o(..), classmethods, a class in a name -/
section
variable {X : Cx} {C : Addr} {k j : Nat} {sp : Sp} {m : Str}
def rOpO (C : Addr) (sp : Sp) : R2 := fun x y H Q => ∃ a dx fs b dy gs, x = .ref a ∧ H a = some (.ins C dx fs) ∧ y = .ref b ∧ H b = some (.ins C dy gs) ∧ sp [x, y] H (fun v G => (∃ p, v = .ref p) ∧ Q v G) E0
theorem opO {op : Operator} (c : CanM X.prog X.w X.K X.mg X.base k C m sp) (hr : Room j X.A) (hk : k ≤ j) (hc : PySem.W.selfFirst X.K C = true) (hd : PySem.dunder op.info.2 = m := by decide +kernel) : OpR X (binaryOp op) (rOpO C sp) := by
  obtain ⟨f, fd, ps, F, hcl, hm, b⟩ := c.ex
  subst hd
  intro pins s σ H x y v u Q I rx ry hq
  obtain ⟨a, dx, fs, b', dy, gs, rfl, ha, rfl, hb, h⟩ := hq
  cases rx
  cases ry
  obtain ⟨mA, J, _⟩ := ins_get I.hok ha
  obtain ⟨od, J, _⟩ := J.look
  obtain ⟨mB, J', _⟩ := ins_get I.hok hb
  obtain ⟨od', J', _⟩ := J'.look
  obtain ⟨mm, hF⟩ := I.fr
  refine PySem.W.binop_K hF I.ok.mod.kin J J'.type hc hm.at_ hm.fn ?_
  refine wpAny_mono (run_fn (us := [.ref a, .ref b']) (vs := [.ref a, .ref b']) (dvs := []) (ds := []) F (hr.mono hk) b .nil passL I (.cons rfl (.cons rfl .nil)) h) (fun r s' z => ?_) fun _ _ x => x
  obtain ⟨v, H', I', rv, ⟨p, rfl⟩, q⟩ := z
  cases rv
  exact ⟨.ref p, H', I', rfl, q⟩
/-- .. that may raise, the wish at the slots -/
def tOpS (C : Addr) (sp : Sp) (W : WX) (ta tb : TE) : TE := fun σ H Q => ta σ H fun x H1 => tb σ H1 fun y H2 => ∃ a dx fs b dy gs, x = .ref a ∧ H2 a = some (.ins C dx fs) ∧ y = .ref b ∧ H2 b = some (.ins C dy gs) ∧ sp [x, y] H2 (fun v G => (∃ p, v = .ref p) ∧ Q v G) (WE W σ)
theorem pe_opS {op : Operator} {W : WX} {a b : Expr} {ta tb : TE} {pos : Pos} (c : CanM X.prog X.w X.K X.mg X.base k C m sp) (tk : Takes X W) (hr : Room j X.A) (hk : k ≤ j) (hc : PySem.W.selfFirst X.K C = true) (ha : PE X a ta) (hb : PE X b tb)
    (hd : PySem.dunder op.info.2 = m := by decide +kernel) : PE X (.BinOp a op b pos) (tOpS C sp W ta tb) := by
  obtain ⟨f, fd, ps, F, hcl, hm, b⟩ := c.ex
  subst hd
  refine ⟨fun pins s σ H Q I h => ?_⟩
  refine wpAny_BinOp (binT ha hb I h fun v u s2 x y H2 I2 rx ry q => ?_)
  obtain ⟨a, dx, fs, b', dy, gs, rfl, ha, rfl, hb, h⟩ := q
  cases rx
  cases ry
  obtain ⟨mA, J, _⟩ := ins_get I2.hok ha
  obtain ⟨od, J, _⟩ := J.look
  obtain ⟨mB, J', _⟩ := ins_get I2.hok hb
  obtain ⟨od', J', _⟩ := J'.look
  obtain ⟨mm, hF⟩ := I2.fr
  refine PySem.W.binop_K hF I2.ok.mod.kin J J'.type hc hm.at_ hm.fn ?_
  refine wpAny_mono (run_fnS (us := [.ref a, .ref b']) (vs := [.ref a, .ref b']) F (hr.mono hk) b (passAt tk σ) I2 (.cons rfl (.cons rfl .nil)) h) (fun r s' z => ?_) fun _ _ x => x
  obtain ⟨v, H', I', rv, ⟨p, rfl⟩, q⟩ := z
  cases rv
  exact ⟨.ref p, H', I', rfl, q⟩
/-- str(o) by an own __str__ -/
def rStrO (C : Addr) (sp : Sp) : List V → Hp → VK → Prop := fun xs H Q => ∃ a dx fs, xs = [.ref a] ∧ H a = some (.ins C dx fs) ∧ sp [.ref a] H (fun v G => ∃ z : Str, v = .str z ∧ Q (.str z) G) E0
theorem strO (c : CanM X.prog X.w X.K X.mg X.base k C "__str__" sp) (hr : Room j X.A) (hk : k + 2 ≤ j) : CallR X (.type "str") (rStrO C sp) := by
  obtain ⟨f, fd, ps, F, hc, hm, b⟩ := c.ex
  intro pins s σ H xs us Q I r h
  obtain ⟨a, dx, fs, rfl, ha, h⟩ := h
  rw [Vals.ref1 r]
  obtain ⟨mA, J, _⟩ := ins_get I.hok ha
  obtain ⟨od, J, _⟩ := J.look
  have hr1 : Room k X.A.in1.in1 := (hr.mono hk).in1.in1
  refine PySem.W.kso_call hr1.units0 I.kIn J hm.at_ hm.fn ?_
  have e0 : Env0 X.prog X.w X.K X.mg X.base X.A.in1.in1 X.stack s H := by
    have e := I.env0
    exact ⟨e.frames, e.mod, e.bs, e.bsz, e.funs, e.frf, e.hok, e.bare⟩
  have hl := F.len _ _ _ _ h
  have bb := b s [.ref a] I.kIn (by simpa using hl)
  refine wpAny_call (codeAny_mono (F.run X.A.in1.in1 X.stack s H ⟨[.ref a], []⟩ [.ref a] [.ref a] _ E0 hr1 e0 (by simpa using bb) (.cons rfl .nil) h) ?_)
  intro z s' hq
  cases z with
  | error e =>
    obtain ⟨_, _, _, _, _, _, _, _, _, _, _, _, y⟩ := hq
    exact y.elim
  | ok fl =>
    cases fl with
    | ret w =>
      obtain ⟨v, H', I', rz, z, rfl, q⟩ := I.after hq
      obtain ⟨t, rfl⟩ := rz
      exact ⟨.str z, H', I', ⟨_, rfl⟩, q⟩
    | next => exact hq.elim
    | brk => exact hq.elim
    | cont => exact hq.elim
end
section
variable (P : Program) (w : World) (K : PySem.W.Frag) (mg : Str → Option Value) (base : Heap)
structure CanF (k : Nat) (C : Addr) (m : Str) (sp : Sp) : Prop where
  ex : ∃ (f : Addr) (fd : FuncData) (ps : List Str), FnOk P w K mg base (L2.CX P w) k f fd ps sp ∧ Cls K C ∧ Meth K C m f ∧ Binds K fd ps [] ∧ PySem.W.fnIn K f = true
structure CanC (k : Nat) (C : Addr) (m : Str) (sp : Sp) : Prop where
  ex : ∃ (mc : Value) (p g : Addr) (fd : FuncData) (ps : List Str), FnOk P w K mg base (L2.CX P w) k g fd ps sp ∧ ClX.CRead K C mc ∧ ClX.CMet K C mc m p g ∧ Binds K fd ps []
end
/-- a classmethod as it stands in the text -/
structure CmT (K : PySem.W.Frag) (C : Addr) (m q : Str) (st : Stmt) : Prop where
  ex : ∃ (mc : Value) (p g : Addr) (fd : FuncData), Fun K m q st g fd ∧ ClX.CRead K C mc ∧ ClX.CMet K C mc m p g
section
variable {P : Program} {w : World} {K : PySem.W.Frag} {mg : Str → Option Value} {base : Heap}
theorem fnIn_of {x q : Str} {st : Stmt} {f : Addr} {fd : FuncData} (F : Fun K x q st f fd) : PySem.W.fnIn K f = true := by
  obtain ⟨oc, od, kV, doc, pm, an, cdv, ct, osl, rfl, lk, hcd⟩ := F.ex
  unfold PySem.W.fnIn
  rw [lk]
theorem canF_of {m q : Str} {C : Addr} {st : Stmt} {N ps : List Str} {k : Nat} {sp : Sp} (c : Cls K C) (D : MetT K C m q st) (S : FnScope N ps (defScope st)) (hb : BindsPlain st m q ps) (len : ∀ vs H Q E, sp vs H Q E → vs.length = ps.length)
    (body : ∀ (f : Addr) (cdv : Value) (A : Around) (outer : List Env) (s : Shared) (H : Hp) (vs : List V) (Q : VK) (E : XK), Room k (A.deeper (envOfC q (defScope st) s.heap.objs.size f cdv)) → sp vs H Q E →
      ∃ t, PSs (cxOf (L2.CX P w) P w K mg base N q (defScope st) f cdv A outer s H E) (defBody st) t ∧ t { nx := fun _ H' => Q .non H', rt := Q } (start N vs) H) : CanF P w K mg base (k + 1) C m sp := by
  obtain ⟨f, fd, F, g⟩ := D.ex
  exact ⟨f, fd, ps, F.okX S len (body f), c, g, F.binds hb, fnIn_of F⟩
theorem canC_of {m q : Str} {C : Addr} {st : Stmt} {N ps : List Str} {k : Nat} {sp : Sp} (D : CmT K C m q st) (S : FnScope N ps (defScope st)) (hb : BindsPlain st m q ps) (len : ∀ vs H Q E, sp vs H Q E → vs.length = ps.length)
    (body : ∀ (f : Addr) (cdv : Value) (A : Around) (outer : List Env) (s : Shared) (H : Hp) (vs : List V) (Q : VK) (E : XK), Room k (A.deeper (envOfC q (defScope st) s.heap.objs.size f cdv)) → sp vs H Q E →
      ∃ t, PSs (cxOf (L2.CX P w) P w K mg base N q (defScope st) f cdv A outer s H E) (defBody st) t ∧ t { nx := fun _ H' => Q .non H', rt := Q } (start N vs) H) : CanC P w K mg base (k + 1) C m sp := by
  obtain ⟨mc, p, g, fd, F, r, c⟩ := D.ex
  exact ⟨mc, p, g, fd, ps, F.okX S len (body g), r, c, F.binds hb⟩
end
section
variable {X : Cx} {k j i : Nat} {C : Addr} {x m : Str} {sp : Sp} {W : WX} {p pos apos : Pos} {e o fe : Expr} {es : List Expr} {ta tf : TE} {t : TA}
theorem codeS {f : Addr} {fd : FuncData} {ps : List Str} {pins : List (Addr × Obj)} {σ : St} {H : Hp} {s : Shared} {Q : VK} {us : List Value} {vs : List V} (F : FnOk X.prog X.w X.K X.mg X.base (L2.CX X.prog X.w) k f fd ps sp) (hr : Room k X.A) (hb : Binds X.K fd ps []) (tk : Takes X W)
    (I : Inv X pins σ H s) (r : Vals vs us) (h : sp vs H Q (WE W σ)) : codeAny (model X.prog X.w) X.A (.call (.ref f) ⟨us, []⟩) (fun r s' => match r with | .ok (.ret v) => EP X pins σ Q v s' | .ok _ => False | .error e => X.xe e s') s := by
  have hl : us.length = ps.length := by rw [← r.length]; exact F.len _ _ _ _ h
  have b := hb s us I.kIn (by rw [List.append_nil]; exact hl)
  rw [List.append_nil] at b
  refine codeAny_mono (F.run X.A X.stack s H ⟨us, []⟩ us vs Q (WE W σ) hr I.env0 b r h) fun r s' hq => ?_
  cases r with
  | error e => exact passAt tk σ pins H s e s' I hq
  | ok fl =>
    cases fl with
    | ret v => exact I.after hq
    | next => exact hq.elim
    | brk => exact hq.elim
    | cont => exact hq.elim
/-- o(e, ..) by an own __call__ -/
def tCallOS (X : Cx) (C : Addr) (sp : Sp) (W : WX) (tf : TE) (t : TA) : TE := fun σ H Q => tf σ H fun y H1 => ∃ a, y = V.ref a ∧ t σ H1 fun vs H2 => (∃ dx fs, H2 a = some (.ins C dx fs)) ∧ sp (V.ref a :: vs) H2 Q (WE W σ)
theorem pc_cS (c : CanF X.prog X.w X.K X.mg X.base k C "__call__" sp) (tk : Takes X W) (hr : Room j X.A) (hk : k ≤ j) (hf : PE X fe tf) (ha : PA X (e :: es) t)
    (ht : eval (.Call fe (e :: es) [] pos) X.env = (do callWith pos (← eval fe X.env) [] (backTo pos (starEach (e :: es) X.env)) (backToKw pos (keywordEach [] X.env))) := by rfl)
    (he : starEach (e :: es) X.env = (false, eval e X.env) :: starEach es X.env := by rfl) (hpl : (backTo pos (starEach es X.env)).any (·.1) = false := by rfl) : PE X (.Call fe (e :: es) [] pos) (tCallOS X C sp W tf t) := by
  obtain ⟨f, fd, ps, F, hcl, hm, b, hfn⟩ := c.ex
  refine ⟨fun pins s σ H Q I h => ?_⟩
  refine Call_ (thn (hf.run pins s σ H _ I h) fun u s1 ⟨y, H1, I1, ry, a, ey, q⟩ => ?_) ht
  subst ey
  obtain rfl : u = Value.ref a := ry
  refine StX.callO_with (thn (ha.run pos pins s1 σ H1 _ I1 q) fun us s2 ⟨vs, H2, I2, r, hi, q2⟩ => ?_) he hpl
  have hi2 : StX.InsC X H2 a C := .inr hi
  obtain ⟨ox, od, J, hd⟩ := StX.insC_at I2 hi2
  exact ⟨⟨C, ox, od, J, hd⟩, wpAny_call (PySem.W.kco_code I2.kIn J hd hm.at_ hm.fn hfn (codeS (us := .ref a :: us) (vs := .ref a :: vs) F (hr.mono hk) b tk I2 (.cons rfl r) q2))⟩
def tCallO0 (X : Cx) (C : Addr) (sp : Sp) (tf : TE) (t : TA) : TE := fun σ H Q => tf σ H fun y H1 => ∃ a, y = V.ref a ∧ t σ H1 fun vs H2 => (∃ dx fs, H2 a = some (.ins C dx fs)) ∧ sp (V.ref a :: vs) H2 Q E0
theorem pc_c (c : CanF X.prog X.w X.K X.mg X.base k C "__call__" sp) (hr : Room j X.A) (hk : k ≤ j) (hf : PE X fe tf) (ha : PA X (e :: es) t)
    (ht : eval (.Call fe (e :: es) [] pos) X.env = (do callWith pos (← eval fe X.env) [] (backTo pos (starEach (e :: es) X.env)) (backToKw pos (keywordEach [] X.env))) := by rfl)
    (he : starEach (e :: es) X.env = (false, eval e X.env) :: starEach es X.env := by rfl) (hpl : (backTo pos (starEach es X.env)).any (·.1) = false := by rfl) : PE X (.Call fe (e :: es) [] pos) (tCallO0 X C sp tf t) := by
  obtain ⟨f, fd, ps, F, hcl, hm, b, hfn⟩ := c.ex
  refine ⟨fun pins s σ H Q I h => ?_⟩
  refine Call_ (thn (hf.run pins s σ H _ I h) fun u s1 ⟨y, H1, I1, ry, a, ey, q⟩ => ?_) ht
  subst ey
  obtain rfl : u = Value.ref a := ry
  refine StX.callO_with (thn (ha.run pos pins s1 σ H1 _ I1 q) fun us s2 ⟨vs, H2, I2, r, hi, q2⟩ => ?_) he hpl
  have hi2 : StX.InsC X H2 a C := .inr hi
  obtain ⟨ox, od, J, hd⟩ := StX.insC_at I2 hi2
  have F' : FnR X.prog X.w X.K X.mg X.base (L2.CX X.prog X.w) k f (fun vs H Q E => sp (vs ++ []) H Q E) := F.raw b .nil
  exact ⟨⟨C, ox, od, J, hd⟩, wpAny_call (PySem.W.kco_code I2.kIn J hd hm.at_ hm.fn hfn (run_fnR (us := .ref a :: us) (vs := .ref a :: vs) F' (hr.mono hk) passL I2 (.cons rfl r) (by rw [List.append_nil]; exact q2)))⟩
/-- C.m(e, ..), m a classmethod -/
def tCmS (C : Addr) (sp : Sp) (W : WX) (ta : TE) (t : TA) : TE := fun σ H Q => ta σ H fun x H1 => x = .ref C ∧ t σ H1 fun vs H2 => sp (.ref C :: vs) H2 Q (WE W σ)
theorem pc_cmS {pl : Sem Bool} (c : CanC X.prog X.w X.K X.mg X.base k C m sp) (tk : Takes X W) (hr : Room j X.A) (hk : k ≤ j) (he : PE X o ta) (ha : PA X (e :: es) t)
    (hst : starEach (e :: es) X.env = (false, eval e X.env) :: starEach es X.env := by rfl) (hpl : (backTo pos (starEach es X.env)).any (·.1) = false := by rfl)
    (ht : eval (.Call (.Attribute o m apos) (e :: es) [] pos) X.env = (do
      let ov ← eval o X.env
      standAt apos.atName
      let (f, first) ← holding [ov] (getMethod ov m pl)
      callWith pos f first (backTo pos (starEach (e :: es) X.env)) (backToKw pos (keywordEach [] X.env))) := by rfl) :
    PE X (.Call (.Attribute o m apos) (e :: es) [] pos) (tCmS C sp W ta t) := by
  obtain ⟨mc, pp, g, fd, ps, F, r, cm, b⟩ := c.ex
  refine ⟨fun pins s σ H Q I h => ?_⟩
  refine PySem.W.methodCall_KW (pl := pl) (thn (he.run pins s σ H _ I h) fun u s1 ⟨x, H1, I1, rx, ex, q⟩ => ?_) ht
  subst ex
  obtain rfl : u = Value.ref C := rx
  refine ClX.getmethcm_ok I1 r cm fun s2 I2 => ?_
  refine ClX.callwith_cm I2 (ClX.base_none I1 (Nat.le_refl _)) cm.fi (thn (ha.run pos _ s2 σ H1 _ I2 q) fun us s3 ⟨vs, H3, I3, r3, q3⟩ => ?_) hst hpl
  refine ⟨⟨ClX.pin_at I3, I3.kIn⟩, ?_⟩
  have z : wpAny (model X.prog X.w) X.A (call (.ref s1.heap.objs.size) us) (EP X ((s1.heap.objs.size, PySem.W.methodObj (.ref g) (.ref C)) :: pins) σ Q) X.xe s3 :=
    wpAny_call (PySem.W.method_call (ClX.pin_at I3) (codeS (us := .ref C :: us) (vs := .ref C :: vs) F (hr.mono hk) b tk I3 (.cons rfl r3) q3))
  exact thn z fun _ _ y => ClX.unpinE y
def tCm0 (C : Addr) (sp : Sp) (ta : TE) (t : TA) : TE := ClX.tCMeth C (fun vs H Q E => sp (vs ++ []) H Q E) E0 ta t
theorem pc_cm {pl : Sem Bool} (c : CanC X.prog X.w X.K X.mg X.base k C m sp) (hr : Room j X.A) (hk : k ≤ j) (he : PE X o ta) (ha : PA X (e :: es) t)
    (hst : starEach (e :: es) X.env = (false, eval e X.env) :: starEach es X.env := by rfl) (hpl : (backTo pos (starEach es X.env)).any (·.1) = false := by rfl)
    (ht : eval (.Call (.Attribute o m apos) (e :: es) [] pos) X.env = (do
      let ov ← eval o X.env
      standAt apos.atName
      let (f, first) ← holding [ov] (getMethod ov m pl)
      callWith pos f first (backTo pos (starEach (e :: es) X.env)) (backToKw pos (keywordEach [] X.env))) := by rfl) :
    PE X (.Call (.Attribute o m apos) (e :: es) [] pos) (tCm0 C sp ta t) := by
  obtain ⟨mc, pp, g, fd, ps, F, r, cm, b⟩ := c.ex
  exact ClX.pe_cmeth (pl := pl) he r cm (F.raw b .nil) (hr.mono hk) passL ha hst hpl ht
/-- cls(e, ..), the class at C in the slot i -/
def tMakeV (i : Nat) (C : Addr) (sp : Sp) (W : WX) (t : TA) : TE := fun σ H Q => σ[i]? = some (some (.ref C)) ∧ tMakeS C sp W t σ H Q
theorem pc_nV {n : Str} (c : CanN X.prog X.w X.K X.mg X.base k C n sp) (tk : Takes X W) (hr : Room j X.A) (hk : k + 1 ≤ j) (hN : X.N[i]? = some x) (hv : Vis X.env.scope x) (ha : PA X (e :: es) t)
    (hdb : (x == ("__debug__" : Str)) = false := by decide) (hcd : (x == ("__classdict__" : Str)) = false := by decide) (he : starEach (e :: es) X.env = (false, eval e X.env) :: starEach es X.env := by rfl) (hpl : (backTo pos (starEach es X.env)).any (·.1) = false := by rfl) :
    PE X (.Call (.Name x p) (e :: es) [] pos) (tMakeV i C sp W t) := by
  obtain ⟨f, fd, ps, F, M, hm, b⟩ := c.ex
  have hr := hr.mono hk
  constructor
  intro pins s σ H Q I h
  obtain ⟨hs, h⟩ := h
  refine wpAny_Call_Name_kw (thn ((pe_var (pos := p) hN hv hdb hcd).run pins s σ H (fun v H1 => v = .ref C ∧ H1 = H) I ⟨.ref C, hs, rfl, rfl⟩) fun u s0 ⟨v, H1, I0, r1, q1⟩ => ?_)
  obtain ⟨rfl, rfl⟩ := q1
  cases r1
  refine PySem.W.callWith_K (h₀ := X.base) I0.ok.mod.kin M.kp (thn (ha.run pos pins s0 σ _ _ I0 h) ?_) he hpl
  rintro us s1 ⟨vs, G, I1, r, q⟩
  refine ⟨I1.kIn, ?_⟩
  have hq := q (s1.heap.objs.size + 1) s1.heap.objs.size (I1.hok.fresh (Nat.le_succ _)) (I1.hok.fresh (Nat.le_refl _)) (Nat.ne_of_lt (Nat.lt_succ_self _))
  have J := Inv.made (C := C) I1
  have r2 : Vals (V.ref (s1.heap.objs.size + 1) :: vs) (Value.ref (s1.heap.objs.size + 1) :: us) := .cons rfl r
  have hl : (Value.ref (s1.heap.objs.size + 1) :: us ++ []).length = ps.length := by
    have z := r2.length
    rw [F.len _ _ _ _ hq] at z
    rw [List.append_nil]
    exact z.symm
  have bb := b _ (Value.ref (s1.heap.objs.size + 1) :: us) J.kIn hl
  rw [List.append_nil] at bb
  refine wpAny_call (make_map (f := f) I1.kIn M.makes M.init (beq_iff_eq.mp M.fn) (codeAny_mono (F.run _ X.stack _ _ ⟨Value.ref (s1.heap.objs.size + 1) :: us, []⟩ (Value.ref (s1.heap.objs.size + 1) :: us) _ _ (WE W σ) (hr.make C us []) (J.env0.make C us []) bb r2 hq) ?_))
  intro r s' z
  cases r with
  | error er => exact passAt tk σ pins _ _ er s' J z
  | ok fl =>
    cases fl with
    | ret u =>
      obtain ⟨v, H', I3, rv, ev, q3⟩ := J.after z
      subst ev
      exact ⟨rv, V.ref (s1.heap.objs.size + 1), H', I3, rfl, q3⟩
    | next => exact z.elim
    | brk => exact z.elim
    | cont => exact z.elim
end
end Kit

end
section
set_option Elab.async false
set_option linter.all false
set_option maxRecDepth 100000
set_option maxHeartbeats 4000000
namespace Kit
open PySem PySem.Spec PyProof.Rows L2
/-! ### sorted(text) -/
section
variable {X : Cx}
theorem sortT (hcalm : X.calm = true) : CallR X (.builtin "sorted") (fun xs H Q => ∃ l : List Nat, xs = [tx l] ∧ l.length < 64 ∧ ∀ (ys : List Str) (p : Addr), ys.Perm (l.map fun x => S [x]) → sortedS ys = true → H p = none → Q (.ref p) (upd H p (.lst (ys.map V.str)))) := by
  intro pins s σ H xs us Q I r q
  obtain ⟨l, rfl, h64, q⟩ := q
  obtain ⟨u, rfl, t, rfl⟩ := vals1 r
  refine Calls.call_function_entry PyProof.Rows.kind_sorted PyProof.Rows.plain_sorted PyProof.Rows.entry_sorted (PyProof.Rows.args_sorted1 _) ?_
  unfold Builtin.«sorted»
  refine wpAny_bind (m := checkCount "sorted" 1 1 _) (wpAny_pure ?_)
  have hsz : (S l).cps.size = l.length := S_len l
  refine wpAny_bind (wpAny_collect_str (A := X.A.in1) (I.ok.hd hcalm) (S l) t (hn := by rw [hsz, sizeLine_eq]; omega) fun s' acc hk hg hdr hos hacc => ?_)
  have hal : acc.toList.length = l.length := by rw [Array.length_toList, hacc.1, hsz]
  have hS : StrsAre acc.toList (l.map fun x => S [x]) := strs_at (by rw [hal, List.length_map]) fun j v e => by
    obtain ⟨c, tk, e1, rfl⟩ := hacc.2 j v (by rw [← Array.getElem?_toList]; exact e)
    refine ⟨S [c], tk, ?_, rfl⟩
    have e1' : l[j]? = some c := by
      rw [← Array.getElem?_toList] at e1
      exact e1
    rw [List.getElem?_map, e1']
    rfl
  obtain ⟨h', g', d', tk', os'⟩ := s'
  have eg : g' = s.gens := hg
  have ed : d' = s.drawn := hdr
  have eo : os' = s.os := hos
  subst eg; subst ed; subst eo
  have I1 : Inv X pins σ H { s with heap := h', toks := tk' } := I.kept hk
  refine wpAny_bind (wpAny_newList ?_ (by rw [hal, sizeLine_eq]; omega))
  have hoL : (h'.push (seqObj "list" acc.toList.toArray 0)).get? h'.objs.size = some (seqObj "list" acc.toList.toArray 0) := Heap.get?_push_size _ rfl
  show wpAny _ _ _ _ _ { s with heap := h'.push (seqObj "list" acc.toList.toArray 0), toks := tk' }
  refine wpAny_bind (wpAny_holding (wpAny_call_entry PyProof.Rows.slot_list_sort ⟨_, hoL, rfl⟩ PyProof.Rows.entry_list_sort
    (list_sort_treeK strKind_oneLt (s := { s with heap := h'.push (seqObj "list" acc.toList.toArray 0), toks := tk' }) hoL hS.keysOf (fun v₁ v₂ rest e => keyKind_strs (by rw [← e]; exact hS)) (by rw [hal]; exact h64) fun st' hp hs => ⟨_, rfl, ?_⟩)
    (PyProof.Rows.args_list_sort _)))
  obtain ⟨ys, g1, g2, g3⟩ := sorted_out_str hS hp hs
  obtain ⟨e', he'⟩ := PyProof.Rows.sortedHeap_at (vs := acc.toList) (out := (arrOf st').map (·.2)) hoL
  have hlen : (ys.map V.str).length ≤ sizeLine := by
    rw [List.length_map, g2.length_eq, List.length_map]
    exact Nat.le_trans (Nat.le_of_lt h64) (by decide)
  refine wpAny_pure ⟨_, rfl, .ref h'.objs.size, upd H h'.objs.size (.lst (ys.map V.str)), I1.laid (t' := tk') (fun b u e => ?_) (Nat.le_refl _)
    (show ObjOk X.prog X.w _ _ _ (.lst (ys.map V.str)) from ⟨hlen, ((arrOf st').map (·.2)).toList, e', vals_of_strs g1, by rw [Array.toArray_toList]; exact he'⟩), rfl, q ys _ g2 g3 (I1.hok.fresh (Nat.le_refl _))⟩
  have hb : b < h'.objs.size := Heap.lt_size e
  rw [PyProof.Rows.sortedHeap_old (Nat.ne_of_lt hb) (by rw [size_push']; exact Nat.lt_succ_of_lt hb)]
  exact Heap.get?_push_of_some _ e
end
/-! ### len(set(text)) -/
section
variable {prog : Program} {w : World} {A : Around} {R : Result → Shared → Prop} {I : Addr} {fp wr : List Addr} {G : Array GenState → Array GenState → Prop} {n : Nat} {x : Str} {St : Nat → Shared → Prop}
def one1 (c : Nat) : Str := ⟨#[c]⟩
theorem one1_inj {c d : Nat} (h : one1 c = one1 d) : c = d := by
  have q : [c] = [d] := congrArg (fun y : Str => y.cps.toList) h
  exact (List.cons.inj q).1
theorem mem_one1 {acc : List Nat} {c : Nat} : decide (one1 c ∈ acc.map one1) = decide (c ∈ acc) := by
  by_cases h : c ∈ acc
  · rw [decide_eq_true h, decide_eq_true (List.mem_map_of_mem h)]
  · rw [decide_eq_false h, decide_eq_false]
    intro q
    obtain ⟨d, hd, e⟩ := List.mem_map.mp q
    exact h (one1_inj e ▸ hd)
theorem loopTx (W : WalksS prog w A.in1 I fp wr G n (SignAt x) St) (P : Addr) (hPf : P ∉ fp) (hsz : x.cps.size = n) (hn1 : n ≤ 1000) :
    ∀ (k i : Nat) (s : Shared) (acc : List Nat), n - i = k → i ≤ n → St i s → acc.Nodup → (∀ c, c ∈ acc ↔ c ∈ x.cps.toList.take i) → acc.length ≤ i →
      s.heap.SetOf (PySem.strKind prog w) P (fun k' => decide (k' ∈ acc.map one1)) acc.length →
      (∀ (s' : Shared) (acc' : List Nat), Moved (P :: wr) G s s' → acc'.Nodup → (∀ c, c ∈ acc' ↔ c ∈ x.cps.toList) → acc'.length ≤ n → s'.heap.SetOf (PySem.strKind prog w) P (fun k' => decide (k' ∈ acc'.map one1)) acc'.length → R (.ok (.ret .none)) s') →
      codeAny (model prog w) A (.builtin "set.update.loop" ⟨[.ref P, .ref I], []⟩) R s := by
  have hPw : P ∉ wr := fun h => hPf (W.sub _ h)
  have hsub : ∀ b ∈ wr, b ∈ P :: wr := fun b hb => List.mem_cons_of_mem _ hb
  intro k
  induction k with
  | zero =>
    intro i s acc hk hi hst hnd hmem hle hS hR
    have hin : i = n := by omega
    subst hin
    refine codeAny_builtin PyProof.Rows.F.entry_set_update_loop ?_
    rw [Around.under_plainId PyProof.Rows.F.plain_set_update_loop _]
    show wpAny _ A.in1 (pyNext (.ref I) >>= _) _ _ s
    refine wpAny_bind (W.done s _ _ hst fun s' hm => ?_)
    show wpAny _ A.in1 (ret Value.none) _ _ s'
    refine wpAny_pure (hR s' acc (hm.mono hsub) hnd (fun c => ?_) hle (by
      obtain ⟨o, es, ep, t, ho, rest⟩ := hS
      exact ⟨o, es, ep, t, hm.heap P _ hPw ho, rest⟩))
    rw [hmem c, List.take_of_length_le (by rw [Array.length_toList]; omega)]
  | succ k ih =>
    intro i s acc hk hi hst hnd hmem hle hS hR
    have hlt : i < n := by omega
    refine codeAny_builtin PyProof.Rows.F.entry_set_update_loop ?_
    rw [Around.under_plainId PyProof.Rows.F.plain_set_update_loop _]
    show wpAny _ A.in1 (pyNext (.ref I) >>= _) _ _ s
    refine wpAny_bind (W.item i s _ _ hlt hst fun v s' hP hst' hm => ?_)
    obtain ⟨c, t, hc, rfl⟩ := hP
    have hS' : s'.heap.SetOf (PySem.strKind prog w) P (fun k' => decide (k' ∈ acc.map one1)) acc.length := by
      obtain ⟨o, es, ep, tb, ho, rest⟩ := hS
      exact ⟨o, es, ep, tb, hm.heap P _ hPw ho, rest⟩
    have htk : x.cps.toList.take (i + 1) = x.cps.toList.take i ++ [c] := by
      rw [List.take_add_one, Array.getElem?_toList, hc]
      rfl
    show wpAny _ A.in1 (holding [Value.str (one1 c) t] (setAdd P (.str (one1 c) t)) >>= _) _ _ s'
    refine wpAny_bind (wpAny_holding ?_)
    unfold setAdd
    refine wpAny_holding ?_
    refine wpAny_bind ((PySem.strKind prog w).pyHash (k := one1 c) (strKind_is _ _ _ _) ?_)
    refine wpAny_setAddHashed_of (knd := PySem.strKind prog w) (s := { s' with toks := s'.toks + 1 }) (strKind_is _ _ _ _) rfl hS' (by unfold scanBound; omega) fun h' hsb hS2 => ?_
    have step : ∃ acc2 : List Nat, acc2.Nodup ∧ (∀ d, d ∈ acc2 ↔ d ∈ x.cps.toList.take (i + 1)) ∧ acc2.length ≤ i + 1 ∧ h'.SetOf (PySem.strKind prog w) P (fun k' => decide (k' ∈ acc2.map one1)) acc2.length := by
      by_cases hin : c ∈ acc
      · refine ⟨acc, hnd, fun d => ?_, by omega, SetOf_congr hS2 (fun k' => ?_) ?_⟩
        · rw [htk, List.mem_append, ← hmem d, List.mem_singleton]
          exact ⟨.inl, fun q => q.elim id fun e => e ▸ hin⟩
        · show (decide (k' ∈ acc.map one1) || decide (k' = one1 c)) = decide (k' ∈ acc.map one1)
          by_cases e : k' = one1 c
          · subst e
            rw [mem_one1, decide_eq_true hin, Bool.true_or]
          · rw [decide_eq_false e, Bool.or_false]
        · rw [mem_one1, if_pos (decide_eq_true hin)]
      · refine ⟨c :: acc, List.nodup_cons.mpr ⟨hin, hnd⟩, fun d => ?_, by simp; omega, SetOf_congr hS2 (fun k' => ?_) ?_⟩
        · rw [htk, List.mem_append, ← hmem d, List.mem_singleton, List.mem_cons]
          exact Or.comm
        · show (decide (k' ∈ acc.map one1) || decide (k' = one1 c)) = decide (k' ∈ (c :: acc).map one1)
          rw [List.map_cons]
          by_cases e : k' = one1 c
          · subst e
            rw [decide_eq_true (List.mem_cons_self ..), decide_eq_true rfl, Bool.or_true]
          · rw [decide_eq_false e, Bool.or_false]
            by_cases q : k' ∈ acc.map one1
            · rw [decide_eq_true q, decide_eq_true (List.mem_cons_of_mem _ q)]
            · rw [decide_eq_false q, decide_eq_false (fun z => (List.mem_cons.mp z).elim e q)]
        · rw [mem_one1, if_neg (by rw [decide_eq_false hin]; exact Bool.false_ne_true)]
          rfl
    obtain ⟨acc2, n2, m2, l2, S2⟩ := step
    refine wpAny_pure ⟨plainId_quiet PyProof.Rows.F.plain_set_update_loop _, ih (i + 1) _ acc2 (by omega) hlt (W.frame _ s' _ _ hst' (Nat.le_succ _) fun b hb o e => ?_) n2 m2 l2 S2 fun s'' acc' hm'' a1 a2 a3 a4 => ?_⟩
    · rw [hsb.2 b (fun h : b = P => hPf (by rw [← h]; exact hb))]; exact e
    · refine hR s'' acc' (Moved.trans W.gtrans ((hm.mono hsub).then_heap (Nat.le_succ _) fun b o hb e => ?_) hm'') a1 a2 a3 a4
      rw [hsb.2 b (fun h : b = P => hb (by rw [h]; exact List.mem_cons_self))]; exact e
end
theorem sub_str_set : isSubtype (.type "str") (.type "set") = pure false := by rw [isSubtype_type]; kernel_rfl
theorem sub_str_frozenset : isSubtype (.type "str") (.type "frozenset") = pure false := by rw [isSubtype_type]; kernel_rfl
section
variable {prog : Program} {w : World} {A : Around} {E : Value → Shared → Prop} {s : Shared}
set_option maxHeartbeats 3200000 in
theorem call_set_tx {x : Str} {u : Tok} {Q : Value → Shared → Prop} (hh : A.handled = none) (hn1 : x.cps.size ≤ 1000)
    (h : ∀ (h' : Heap) (tk : Nat) (acc : List Nat), acc.Nodup → (∀ c, c ∈ acc ↔ c ∈ x.cps.toList) → acc.length ≤ x.cps.size → h'.SetOf (PySem.strKind prog w) s.heap.objs.size (fun k' => decide (k' ∈ acc.map one1)) acc.length →
      (∀ b o, b < s.heap.objs.size → s.heap.get? b = some o → h'.get? b = some o) → Q (.ref s.heap.objs.size) { s with heap := h', toks := tk }) :
    wpAny (model prog w) A (call (.type "set") [.str x u]) Q E s := by
  obtain ⟨c, tl, hmro⟩ := PySem.F.called_set.mro
  have hmade := PySem.F.called_set.made
  have hsub := PySem.F.called_set.sub
  refine wpAny_call (codeAny_of_tree ?_)
  show wpAny _ _ (callAny (.type "set") _) _ _ _
  refine wpAny_pure ⟨Code.quiet_builtin _ (by decide +kernel), codeAny_builtin PySem.F.entry_type_call ?_⟩
  rw [Around.under_plain (weight_type_call_type "set" [.str x u] []) rfl]
  have h1 := PySem.F.called_set.notType
  have h2 := PySem.F.called_set.canCreate
  have hct := PySem.F.typeCall_set_1 (.str x u)
  repeat (any_goals (first | assumption | wp_step))

  refine codeAny_mono (code_set_new_1 (.str x u) (E := E) (Q₁ := fun obj s₁ => ∃ led : Bool, obj = .ref s.heap.objs.size ∧ s₁ = { s with heap := s.heap.push { cls := .type "set", dict := none, data := .set #[] 0 (.fresh 0 0 led) } }) fun led => ⟨led, rfl, rfl⟩) fun r s₁ hr => ?_
  cases r with
  | error e => exact hr
  | ok fl =>
    cases fl with
    | ret obj =>
      obtain ⟨led, rfl, rfl⟩ := hr
      have hS : (s.heap.push { cls := .type "set", dict := none, data := .set #[] 0 (.fresh 0 0 led) }).get? s.heap.objs.size = some { cls := .type "set", dict := none, data := .set #[] 0 (.fresh 0 0 led) } := Heap.get?_push_size _ rfl
      have hT : Shared.TypeIs { s with heap := s.heap.push { cls := .type "set", dict := none, data := .set #[] 0 (.fresh 0 0 led) } } (.ref s.heap.objs.size) "set" := ⟨_, hS, rfl⟩
      have hli := PySem.F.called_set.init.lookup
      have hbi := PySem.F.called_set.init.bind (.ref s.heap.objs.size)
      repeat (any_goals (first | assumption | wp_step))

      refine codeAny_mono (codeAny_call_builtin (R := wants (fun r s₂ => r = .none ∧ ∃ (h' : Heap) (tk : Nat) (acc : List Nat), s₂ = { s with heap := h', toks := tk } ∧ acc.Nodup ∧ (∀ c, c ∈ acc ↔ c ∈ x.cps.toList) ∧ acc.length ≤ x.cps.size ∧
          h'.SetOf (PySem.strKind prog w) s.heap.objs.size (fun k' => decide (k' ∈ acc.map one1)) acc.length ∧
          (∀ b o, b < s.heap.objs.size → s.heap.get? b = some o → h'.get? b = some o)) E) PySem.F.called_set.init.plain PySem.F.entry_set_init (check_set_init_1 hT ?_)) fun r₂ s₂ hr₂ => ?_
      · have hty : typeOf (.str x u) = pure (.type "str") := rfl
        have hsls := sub_str_set
        have hslf := sub_str_frozenset
        have hne : (Value.type "str" == Value.type "dict") = false := by decide
        unfold Builtin.«set.__init__» noKeywords Builtin.Frozenset.updateFrom
        generalize hPI : pyIter = PI
        wp_walk
        subst hPI
        refine wpAny_pyIter_str fun o St W hst => ?_
        refine wpAny_bind (wpAny_runValue ?_)
        have hh3 : A.in1.in1.in1.handled = none := by simp [hh]
        have hSf : s.heap.objs.size ∉ [(s.heap.push { cls := .type "set", dict := none, data := .set #[] 0 (.fresh 0 0 led) }).objs.size] := by
          rw [Heap.size_push]
          intro q
          exact Nat.ne_of_lt (Nat.lt_succ_self _) (List.mem_singleton.mp q)
        refine loopTx ((W _ hh3).toS) s.heap.objs.size hSf rfl hn1 (x.cps.size - 0) 0 _ [] (by omega) (Nat.zero_le _) hst List.nodup_nil (fun c => by simp) (Nat.le_refl _) ?hS0 ?hR
        case hS0 =>
          have hget : ((s.heap.push { cls := .type "set", dict := none, data := .set #[] 0 (.fresh 0 0 led) }).push o).get? s.heap.objs.size
              = some { cls := .type "set", dict := none, data := .set #[] 0 (.fresh 0 0 led) } := Heap.get?_push_of_some _ hS
          exact PyProof.Rows.SetOf_congr ((PyProof.Rows.setObjOf_fresh (knd := PySem.strKind prog w) led).setOf hget (by unfold scanBound; omega)) (fun _ => by simp) rfl
        case hR =>
          intro s' acc' hm a1 a2 a3 hS'
          obtain ⟨h', g', d', tk', os'⟩ := s'
          have eg : g' = s.gens := hm.gens
          have ed : d' = s.drawn := hm.drawn
          have eo : os' = s.os := hm.os
          subst eg; subst ed; subst eo
          show wpAny _ _ _ _ _ _
          refine wpAny_pure ?_
          show wpAny _ _ (ret Value.none) _ _ _
          refine wpAny_pure ⟨rfl, h', tk', acc', rfl, a1, a2, a3, hS', fun b o hb e => ?_⟩
          have hb1 : b ≠ s.heap.objs.size := Nat.ne_of_lt hb
          have hb2 : b ≠ (s.heap.push { cls := .type "set", dict := none, data := .set #[] 0 (.fresh 0 0 led) }).objs.size := by
            rw [Heap.size_push]; exact Nat.ne_of_lt (Nat.lt_succ_of_lt hb)
          exact hm.heap b o (by simp only [List.mem_cons, List.mem_singleton, List.not_mem_nil, or_false, not_or]; exact ⟨hb1, hb2⟩) (Heap.get?_push_of_some _ (Heap.get?_push_of_some _ e))
      · cases r₂ with
        | error e => exact hr₂
        | ok fl₂ =>
          cases fl₂ with
          | ret r =>
            obtain ⟨rfl, h', tk, acc, rfl, a1, a2, a3, hS', hk'⟩ := hr₂
            repeat (any_goals (first | assumption | wp_step))
            exact h _ _ acc a1 a2 a3 hS' hk'
          | _ => exact hr₂.elim
    | _ => exact hr.elim
end
/-- len(set(text)) -/
def tLenSetT (ta : TE) : TE := fun σ H Q => ta σ H fun x H1 => ∃ l : List Nat, x = tx l ∧ l.length ≤ 1000 ∧ ∀ acc : List Nat, acc.Nodup → (∀ c, c ∈ acc ↔ c ∈ l) → Q (.int acc.length) H1
section
variable {X : Cx}
theorem pe_lenSetT {a : Expr} {ta : TE} {p p2 q pos : Pos} (hc : X.calm = true) (hg : Gl X "len") (hm : X.mg "len" = none) (hg2 : Gl X "set") (hm2 : X.mg "set" = none) (ha : PE X a ta)
    (na : starEach [a] X.env = (false, eval a X.env) :: starEach [] X.env := by rfl) : PE X (.Call (.Name "len" p) [.Call (.Name "set" p2) [a] [] q] [] pos) (tLenSetT ta) := by
  refine ⟨fun pins s σ H Q I h => ?_⟩
  refine Call_ (ld_blt I hg hm boot_len ?_)
  refine PyProof.Rows.callWith_builtin1 (PyProof.Rows.args_cons ?_ rfl) rfl rfl
  refine Call_ (ld_blt I hg2 hm2 boot_set ?_)
  refine PyProof.Rows.callWith_type1 (PyProof.Rows.args_cons (thn (ha.run pins s σ H _ I h) fun v s1 ⟨x, H1, I1, r1, q1⟩ => PyProof.Rows.args_nil ?_) na) na rfl
  obtain ⟨l, rfl, hl, q1⟩ := q1
  obtain ⟨t, rfl⟩ := r1
  refine call_set_tx (I1.ok.hd hc) (by show (S l).length ≤ 1000; rw [S_len]; exact hl) fun h' tk acc a1 a2 a3 hS hk => PyProof.Rows.args_nil ?_
  have a3' : acc.length ≤ 1000 := by
    have e : (S l).cps.size = l.length := S_len l
    rw [e] at a3
    omega
  obtain ⟨o, es, ep, t2, ho, hex, hd, _, _, _, hf, hn⟩ := hS
  have I2 : Inv X pins σ H1 { s1 with heap := h', toks := tk } := I1.kept fun b o e => hk b o (Heap.lt_size e) e
  refine call_len_set ho hex hd hf (by rw [hn] <;> omega) ⟨.int acc.length, H1, I2.tok _, ⟨_, by rw [hn]⟩, q1 acc a1 fun c => ?_⟩
  rw [a2 c, S_cps]
end
end Kit

end
section
set_option Elab.async false
set_option linter.all false
set_option maxRecDepth 100000
set_option maxHeartbeats 4000000
namespace Kit
open PySem PySem.Spec PyProof.Rows L2
/-! ### zip over lists and texts -/
inductive Sd where
  | L (a : Addr)
  | T (x : Str)
def signs (x : Str) : List V := x.cps.toList.map fun c => .str ⟨#[c]⟩
def Sd.at (H : Hp) : Sd → List V → Prop
  | .L a, xs => H a = some (.lst xs)
  | .T x, xs => xs = signs x
def Sd.st (h : Heap) (it : Addr) (i : Nat) : Sd → Prop
  | .L a => h.IsListIter it a i
  | .T x => ∃ t, h.IsStrIter it (strIterType x) x t i
theorem Sd.live {h : Heap} {it : Addr} {i : Nat} {sd : Sd} (st : sd.st h it i) : ∃ o, h.get? it = some o ∧ ∀ v, o.data ≠ .cell v := by
  cases sd with
  | L a =>
    obtain ⟨o, ho, hc, hd⟩ := st
    exact ⟨o, ho, fun v q => by rw [hd] at q; cases q⟩
  | T x =>
    obtain ⟨t, o, ho, hc, hd⟩ := st
    exact ⟨o, ho, fun v q => by rw [hd] at q; cases q⟩
theorem Sd.keep {h h' : Heap} {it : Addr} {i : Nat} {sd : Sd} (st : sd.st h it i) (k : ∀ o, h.get? it = some o → h'.get? it = some o) : sd.st h' it i := by
  cases sd with
  | L a =>
    obtain ⟨o, ho, r⟩ := st
    exact ⟨o, k _ ho, r⟩
  | T x =>
    obtain ⟨t, o, ho, r⟩ := st
    exact ⟨t, o, k _ ho, r⟩
structure Dr (X : Cx) (H : Hp) (h : Heap) (sd : Sd) (it : Addr) (i : Nat) (xs : List V) : Prop where
  ex : ∃ (fp : List Addr) (P : Nat → Value → Prop) (St : Nat → Heap → Prop), Draws X.prog X.w X.A.in1 it fp xs.length P St ∧ St i h ∧ it ∈ fp ∧ (∀ c ∈ fp, c = it ∨ H c ≠ none) ∧ (∀ j h', St j h' → sd.st h' it j) ∧ (∀ x u, P i u → xs[i]? = some x → RelV x u)
theorem dr_of {X : Cx} {pins : List (Addr × Obj)} {σ : St} {H : Hp} {s : Shared} {sd : Sd} {it : Addr} {i : Nat} {xs : List V} (hc : X.calm = true) (I : Inv X pins σ H s) (hn : H it = none) (hat : sd.at H xs) (st : sd.st s.heap it i) : Dr X H s.heap sd it i xs := by
  cases sd with
  | L a =>
    have hat : H a = some (.lst xs) := hat
    obtain ⟨hzz, its, nn, rv, hl0⟩ := (show ObjOk X.prog X.w H s.heap a (.lst xs) from I.hok a _ hat)
    have hL : s.heap.IsList a its.toArray := ⟨_, hl0, rfl, nn, rfl⟩
    have hne : a ≠ it := fun q => by rw [q, hn] at hat; cases hat
    have hl : its.toArray.size = xs.length := by rw [List.size_toArray, rv.length]
    refine ⟨[it, a], _, _, hl ▸ Draws.list (A := X.A.in1) (show X.A.in1.handled = none from I.ok.hd hc) it a hne its.toArray, ⟨st, hL⟩, by simp, fun c hcm => ?_, fun j h' q => q.1, fun x u hu hx => ?_⟩
    · have e : c = it ∨ c = a := by simpa using hcm
      rcases e with e | e
      · exact .inl e
      · refine .inr ?_
        rw [e, hat]
        simp
    · obtain ⟨u', hu', ru⟩ := rv.get hx
      have z : its[i]? = some u := by simpa using hu
      rw [hu'] at z
      cases z
      exact ru
  | T x =>
    obtain ⟨t, st⟩ := st
    have hat : xs = signs x := hat
    have hl : x.cps.size = xs.length := by rw [hat, signs, List.length_map, Array.length_toList]
    refine ⟨[it], _, _, hl ▸ Draws.text (A := X.A.in1) (show X.A.in1.handled = none from I.ok.hd hc) it x t, st, by simp, fun c hcm => .inl (by simpa using hcm), fun j h' q => ⟨t, q⟩, fun y u hu hx => ?_⟩
    obtain ⟨c, tk, hc', rfl⟩ := hu
    rw [hat, signs, List.getElem?_map, Array.getElem?_toList, hc'] at hx
    cases hx
    exact ⟨tk, rfl⟩
structure Cells (z TI TO i1 i2 : Addr) : Prop where
  a1 : TI ≠ z
  a2 : TO ≠ z
  a3 : TI ≠ TO
  a4 : TI ≠ i1
  a5 : TI ≠ i2
  a6 : TO ≠ i1
  a7 : TO ≠ i2
  a8 : z ≠ i1
  a9 : z ≠ i2
  a10 : i1 ≠ i2
theorem sep_of {H : Hp} {z TI TO i1 i2 : Addr} {f1 f2 : List Addr} (C : Cells z TI TO i1 i2) (hn : ∀ b ∈ [z, TI, TO, i1, i2], H b = none) (m1 : i1 ∈ f1) (m2 : i2 ∈ f2) (h1 : ∀ c ∈ f1, c = i1 ∨ H c ≠ none) (h2 : ∀ c ∈ f2, c = i2 ∨ H c ≠ none) :
    ZipSep2 z TI TO i1 i2 f1 f2 where
  TIz := C.a1
  TOz := C.a2
  TITO := C.a3
  TIi1 := C.a4
  mem1 := m1
  zf1 := fun q => (h1 _ q).elim C.a8 fun k => k (hn _ (by simp))
  Tf1 := fun q => (h1 _ q).elim C.a6 fun k => k (hn _ (by simp))
  TIi2 := C.a5
  mem2 := m2
  zf2 := fun q => (h2 _ q).elim C.a9 fun k => k (hn _ (by simp))
  Tf2 := fun q => (h2 _ q).elim C.a7 fun k => k (hn _ (by simp))
  sep1_2 := fun q => (h2 _ q).elim C.a10 fun k => k (hn _ (by simp))
  sep2_1 := fun q => (h1 _ q).elim (Ne.symm C.a10) fun k => k (hn _ (by simp))
def ItZ (d1 d2 : Sd) : It :=
  ⟨fun i G => ∃ (xs ys : List V) (x y : V), d1.at G xs ∧ d2.at G ys ∧ xs[i]? = some x ∧ ys[i]? = some y,
    fun i G v G' => ∃ T x y, v = .ref T ∧ G T = none ∧ G' = upd G T (.tup [x, y]) ∧ (∀ xs, d1.at G xs → xs[i]? = some x) ∧ ∀ ys, d2.at G ys → ys[i]? = some y,
    fun i G => ∃ xs ys : List V, d1.at G xs ∧ d2.at G ys ∧ i ≤ xs.length ∧ i ≤ ys.length ∧ (i = xs.length ∨ i = ys.length)⟩
theorem Sd.inj {H : Hp} {sd : Sd} {xs ys : List V} (h1 : sd.at H xs) (h2 : sd.at H ys) : xs = ys := by
  cases sd with
  | L a =>
    have h1 : H a = some (.lst xs) := h1
    have h2 : H a = some (.lst ys) := h2
    rw [h1] at h2
    cases h2
    rfl
  | T x => exact Eq.trans h1 (Eq.symm h2)
theorem turn_Z {P : Program} {w : World} {K : PySem.W.Frag} {elts : List Expr} {kk : Nat} {tpos : Pos} (d1 d2 : Sd) {z TI TO i1 i2 : Addr} (C : Cells z TI TO i1 i2) :
    Turn P w K (.Tuple elts kk tpos) (ItZ d1 d2) [z, TI, TO, i1, i2] z (fun i h => IsZip h z TI TO .none ∧ IsTupOf2 h TI (.ref i1) (.ref i2) ∧ (∃ x y, IsTupOf2 h TO x y) ∧ d1.st h i1 i ∧ d2.st h i2 i) where
  mem := by simp
  obj := fun i h st c hc => by
    obtain ⟨hz, hTI, ⟨x, y, hTO⟩, s1, s2⟩ := st
    have e' : c = z ∨ c = TI ∨ c = TO ∨ c = i1 ∨ c = i2 := by simpa using hc
    rcases e' with q | q | q | q | q
    · rw [q]; exact ⟨_, hz, fun v q => nomatch q⟩
    · rw [q]; exact ⟨_, hTI, fun v q => nomatch q⟩
    · rw [q]; exact ⟨_, hTO, fun v q => nomatch q⟩
    · rw [q]; exact Sd.live s1
    · rw [q]; exact Sd.live s2
  keep := fun i h h' st k => by
    obtain ⟨hz, hTI, ⟨x, y, hTO⟩, s1, s2⟩ := st
    exact ⟨k z (by simp) _ hz, k TI (by simp) _ hTI, ⟨x, y, k TO (by simp) _ hTO⟩, Sd.keep s1 fun o q => k i1 (by simp) o q, Sd.keep s2 fun o q => k i2 (by simp) o q⟩
  item := by
    intro X hP hw hK hc i pins s σ H E I hf st hg
    subst hP hw hK
    obtain ⟨hz, hTI, ⟨x0, y0, hTO⟩, s1, s2⟩ := st
    obtain ⟨xs, ys, x, y, hqx, hqy, hx, hy⟩ := hg
    obtain ⟨f1, P1, St1, D1, t1, m1, u1, b1, r1⟩ := (dr_of hc I (hf i1 (by simp)).1 hqx s1).ex
    obtain ⟨f2, P2, St2, D2, t2, m2, u2, b2, r2⟩ := (dr_of hc I (hf i2 (by simp)).1 hqy s2).ex
    have SS := sep_of C (fun b hb => (hf b hb).1) m1 m2 u1 u2
    have hl1 := (List.getElem?_eq_some_iff.mp hx).1
    have hl2 := (List.getElem?_eq_some_iff.mp hy).1
    have hzl : z < s.heap.objs.size := Heap.lt_size hz
    refine wpAny_pyNext_zipD2_item SS D1 D2 hz hTI hTO t1 t2 hl1 hl2 fun v1 v2 h' tk p1 p2 z' TO' t1' t2' hT hsz hk => ?_
    refine ⟨_, rfl, wpAny_letOwnedTupleGo_zip (s := { s with heap := h', toks := tk }) z' fun h'' z'' sb => ?_⟩
    have ru := r1 x v1 p1 hx
    have ru2 := r2 y v2 p2 hy
    have hT2 : h''.get? s.heap.objs.size = some { cls := .type "tuple", data := .seq #[v1, v2] } := (sb.2 _ (Nat.ne_of_gt hzl)).trans hT
    have new : ObjOk X.prog X.w (upd H s.heap.objs.size (.tup [x, y])) h'' s.heap.objs.size (.tup [x, y]) :=
      ⟨by show 2 ≤ sizeLine; decide, [v1, v2], .cons ru (.cons ru2 .nil), ⟨_, hT2, rfl, _, rfl⟩⟩
    have I1 : Inv X pins σ (upd H s.heap.objs.size (.tup [x, y])) { s with heap := h'', toks := tk } :=
      I.turnedNew (ch := [z, TI, TO, i1, i2]) (fun c o hb q => (sb.2 c (fun q' => hb (by simp [q']))).trans (hk c o (fun q' => hb (by simp [q'])) (fun q' => hb (by simp [q'])) (fun q' => hb (by simp [q'])) (fun q' => hb (by simp [q'])) q)) hf (Nat.le_refl _) new
    refine ⟨.ref s.heap.objs.size, _, I1, rfl, ⟨_, x, y, rfl, I.hok.fresh (Nat.le_refl _), rfl, fun l hl => by rw [Sd.inj hl hqx]; exact hx, fun l hl => by rw [Sd.inj hl hqy]; exact hy⟩, ⟨z'', ?_, ⟨v1, v2, ?_⟩, ?_, ?_⟩, fun c hcm => ?_⟩
    · exact (sb.2 _ C.a1).trans (hk _ _ C.a1 C.a3 C.a4 C.a5 hTI)
    · exact (sb.2 _ C.a2).trans TO'
    · exact Sd.keep (b1 _ _ t1') fun o q => (sb.2 _ (Ne.symm C.a8)).trans q
    · exact Sd.keep (b2 _ _ t2') fun o q => (sb.2 _ (Ne.symm C.a9)).trans q
    · have hlt : c < s.heap.objs.size := by
        have e' : c = z ∨ c = TI ∨ c = TO ∨ c = i1 ∨ c = i2 := by simpa using hcm
        rcases e' with q | q | q | q | q
        · rw [q]; exact hzl
        · rw [q]; exact Heap.lt_size hTI
        · rw [q]; exact Heap.lt_size hTO
        · rw [q]; obtain ⟨_, e1, _⟩ := Sd.live s1; exact Heap.lt_size e1
        · rw [q]; obtain ⟨_, e2, _⟩ := Sd.live s2; exact Heap.lt_size e2
      rw [upd_ne (Nat.ne_of_lt hlt)]
      exact (hf c hcm).1
  done := by
    intro X hP hw hK hc i pins s σ H E I hf st hg
    subst hP hw hK
    obtain ⟨hz, hTI, ⟨x0, y0, hTO⟩, s1, s2⟩ := st
    obtain ⟨xs, ys, hqx, hqy, hi1, hi2, hend⟩ := hg
    obtain ⟨f1, P1, St1, D1, t1, m1, u1, b1, r1⟩ := (dr_of hc I (hf i1 (by simp)).1 hqx s1).ex
    obtain ⟨f2, P2, St2, D2, t2, m2, u2, b2, r2⟩ := (dr_of hc I (hf i2 (by simp)).1 hqy s2).ex
    have SS := sep_of C (fun b hb => (hf b hb).1) m1 m2 u1 u2
    exact wpAny_pyNext_zipD2_end SS D1 D2 hz hTI hTO t1 t2 hi1 hi2 hend fun h' tk hk => ⟨rfl, I.turnedL (t' := tk) (ch := [z, TI, TO, i1, i2]) (fun c o hb q =>
      hk c o (fun q' => hb (by simp [q'])) (fun q' => hb (by simp [q'])) (fun q' => hb (by simp [q'])) (fun q' => hb (by simp [q'])) q) hf⟩
  self := fun A i s Q E st h => wpAny_pyIter_zip st.1 h
theorem walk_Z {d1 d2 : Sd} {xs ys : List V} {n : Nat} (hn : n = min xs.length ys.length) : Walk (ItZ d1 d2) n (fun G => d1.at G xs ∧ d2.at G ys) (YPair (fun i => xs[i]?) (fun i => ys[i]?)) := by
  subst hn
  refine ⟨fun i G hi q => ⟨xs, ys, xs[i], ys[i], q.1, q.2, List.getElem?_eq_getElem (by omega), List.getElem?_eq_getElem (by omega)⟩, fun G q => ⟨xs, ys, q.1, q.2, by omega, by omega, by omega⟩, ?_⟩
  rintro i G v G' hi q ⟨T, x, y, rfl, hT, rfl, hx, hy⟩
  exact ⟨T, x, y, rfl, hT, rfl, hx xs q.1, hy ys q.2⟩
def Sd.v : Sd → V
  | .L a => .ref a
  | .T x => .str x
def iZipZ (ta : TA) : TI := fun σ H R => ta σ H fun vs H1 => ∃ d1 d2 xs ys, vs = [Sd.v d1, Sd.v d2] ∧ d1.at H1 xs ∧ d2.at H1 ys ∧ R (ItZ d1 d2) H1
theorem bg_of {X : Cx} {pins : List (Addr × Obj)} {σ : St} {H : Hp} {s : Shared} {sd : Sd} {u : Value} {xs : List V} (I : Inv X pins σ H s) (r : RelV sd.v u) (hat : sd.at H xs) :
    ∃ (o : Obj) (HH : Heap → Prop), Begins u o HH ∧ HH s.heap ∧ ∀ (h' : Heap) (it : Addr), h'.get? it = some o → sd.st h' it 0 := by
  cases sd with
  | L a =>
    cases r
    obtain ⟨hzz, its, nn, rv, hl0⟩ := (show ObjOk X.prog X.w H s.heap a (.lst xs) from I.hok a _ hat)
    have hL : s.heap.IsList a its.toArray := ⟨_, hl0, rfl, nn, rfl⟩
    exact ⟨_, _, begins_list a its.toArray, hL, fun h' it e => ⟨_, e, rfl, rfl⟩⟩
  | T x =>
    obtain ⟨t, rfl⟩ := r
    exact ⟨_, _, begins_text x t, True.intro, fun h' it e => ⟨t, _, e, rfl, rfl⟩⟩
theorem cells_of (n : Nat) : Cells (n + 4) (n + 2) (n + 3) n (n + 1) where
  a1 := fun e : n + 2 = n + 4 => by omega
  a2 := fun e : n + 3 = n + 4 => by omega
  a3 := fun e : n + 2 = n + 3 => by omega
  a4 := fun e : n + 2 = n => by omega
  a5 := fun e : n + 2 = n + 1 => by omega
  a6 := fun e : n + 3 = n => by omega
  a7 := fun e : n + 3 = n + 1 => by omega
  a8 := fun e : n + 4 = n => by omega
  a9 := fun e : n + 4 = n + 1 => by omega
  a10 := fun e : n = n + 1 => by omega
theorem pi_zipZ {X : Cx} {e e2 : Expr} {ta : TA} {p pos tpos : Pos} {elts : List Expr} {kk : Nat} (hg : Gl X "zip") (hm : X.mg "zip" = none) (ha : PA X [e, e2] ta)
    (hs : starEach [e, e2] X.env = (false, eval e X.env) :: starEach [e2] X.env := by rfl) (hpl : (backTo pos (starEach [e2] X.env)).any (·.1) = false := by rfl) :
    PI X (.Tuple elts kk tpos) (.Call (.Name "zip" p) [e, e2] [] pos) (iZipZ ta) := by
  refine ⟨fun pins s σ H R I h => ?_⟩
  refine Call_ (ld_blt I hg hm PyProof.Rows.boot_zip (PyProof.Rows.callWith_type1 (thn (ha.run pos pins s σ H _ I h) fun us s1 ⟨vs, H1, I1, r1, q1⟩ => ?_) hs hpl))
  obtain ⟨d1, d2, xs, ys, ex, hqx, hqy, q⟩ := q1
  subst ex
  cases r1 with
  | cons r rr =>
    cases rr with
    | cons r' rr =>
      cases rr
      obtain ⟨o1, H1', B1, k1, c1⟩ := bg_of I1 r hqx
      obtain ⟨o2, H2', B2, k2, c2⟩ := bg_of I1 r' hqy
      refine zip_begins2 B1 B2 k1 k2 fun h' hz hTI hTO h1 h2 hsz hk => wpAny_pyIter_zip hz ?_
      have I2 : Inv X pins σ H1 { s1 with heap := h' } := I1.kept (t' := s1.toks) hk
      refine ⟨s1.heap.objs.size + 4, [s1.heap.objs.size + 4, s1.heap.objs.size + 2, s1.heap.objs.size + 3, s1.heap.objs.size, s1.heap.objs.size + 1], _, _, H1, rfl, I2, turn_Z d1 d2 (cells_of _), ⟨hz, hTI, ⟨_, _, hTO⟩, c1 _ _ h1, c2 _ _ h2⟩, fun c hcm => ?_, q⟩
      have e' : c = s1.heap.objs.size + 4 ∨ c = s1.heap.objs.size + 2 ∨ c = s1.heap.objs.size + 3 ∨ c = s1.heap.objs.size ∨ c = s1.heap.objs.size + 1 := by simpa using hcm
      have hle : s1.heap.objs.size ≤ c := by
        rcases e' with z | z | z | z | z
        · rw [z]; exact Nat.le_add_right _ _
        · rw [z]; exact Nat.le_add_right _ _
        · rw [z]; exact Nat.le_add_right _ _
        · rw [z]; exact Nat.le_refl _
        · rw [z]; exact Nat.le_add_right _ _
      exact I1.fpOk hle (I1.hok.fresh hle)
end Kit

end
section
set_option Elab.async false
set_option linter.all false
set_option maxRecDepth 100000
set_option maxHeartbeats 4000000
namespace Kit
open PySem PySem.Spec PyProof.Rows L2
/-! ### raise X(), X an own error without __init__ -/
abbrev veB : List Value := [.type "ValueError", .type "Exception", .type "BaseException", .type "object"]
structure ErrZ (K : PySem.W.Frag) (mg : Str → Option Value) (C : Addr) (x : Str) : Prop where
  gC : mg x = some (.ref C)
  ex : PySem.W.excIn K C veB "ValueError.__new__" = true
  kC : PySem.W.keepIn K (.ref C) = true
  sB : PySem.W.subIn K (.ref C) (.type "BaseException") = some true
  tC : PySem.W.typeIn K (.ref C) = some (.type "type")
section
variable {X : Cx} {C : Addr} {x : Str} {W : WX} {p pos pos2 : Pos}
theorem pr_own0 (c : ErrZ X.K X.mg C x) (tk : Takes X W) (hcalm : X.calm = true) (hg : Gl X x) (hdb : (x == ("__debug__" : Str)) = false := by decide) :
    PS X (.Raise (some (.Call (.Name x p) [] [] pos)) none pos2) (fun _ σ H => W (.ref C) none σ H) := by
  refine L2.ps_raise hcalm tk (t := fun σ H Q => Q (.ref C) none H) ?_
  intro pins s σ H Q I h
  refine wpAny_Call_Name_kw (ld_glob I hg c.gC ?_ hdb)
  refine PySem.W.callWith_K0 I.kIn c.kC ?_
  show wpAny _ _ (call (.ref C) []) _ _ _
  obtain ⟨bm, N, nm, qn, bs, hdct, sn, sub, ab, col, dd, k0, k1, k2, k3, k5, mN, hC, hN, hni, T⟩ := exc_obj I.kIn c.ex
  obtain ⟨hp, g, dr, tk', os⟩ := s
  refine wpAny_call_exc_subT PySem.F.excBase_ValueError T hC hN hni (fun h' e hm => ?_) (by show 0 ≤ sizeLine; exact Nat.zero_le _)
  exact mk_of I hm (raises_own c.sB c.tC) h (I.hok.gone hm.new)
end
/-! ### own == with any thing whose type does not come first -/
section
variable {X : Cx} {C : Addr} {k j : Nat} {sp : Sp}
def OtherOk2 (K : PySem.W.Frag) (C : Addr) (H : Hp) (y : V) : Prop := (∃ i, y = .int i) ∨ (∃ z, y = .str z) ∨ (∃ b dx fs, y = .ref b ∧ H b = some (.ins C dx fs)) ∨ ∃ b xs, y = .ref b ∧ H b = some (.lst xs)
def rEqO2 (K : PySem.W.Frag) (C : Addr) (sp : Sp) : R2 := fun x y H Q => ∃ a dx fs, x = .ref a ∧ H a = some (.ins C dx fs) ∧ OtherOk2 K C H y ∧ sp [x, y] H (fun v G => ∃ b, v = .bl b ∧ Q (.bl b) G) E0
theorem eqO2 (K : PySem.W.Frag) (c : CanM X.prog X.w X.K X.mg X.base k C "__eq__" sp) (hr : Room j X.A) (hk : k ≤ j) (hni : PySem.W.notFirst K C (.type "int") = true) (hns : PySem.W.notFirst K C (.type "str") = true) (hnl : PySem.W.notFirst K C (.type "list") = true) (hK : X.K = K := by rfl) : OpR X (compareOp .Eq) (rEqO2 K C sp) := by
  subst hK
  obtain ⟨f, fd, ps, F, hc, hm, b⟩ := c.ex
  intro pins s σ H x y v u Q I rx ry hq
  obtain ⟨a, dx, fs, rfl, ha, ho, h⟩ := hq
  cases rx
  show wpAny (model X.prog X.w) X.A (richCompare .Eq (.ref a) u) (EP X pins σ Q) X.xe s
  obtain ⟨mA, J, _⟩ := ins_get I.hok ha
  obtain ⟨od, J, _⟩ := J.look
  obtain ⟨m, hF⟩ := I.fr
  have tb : ∃ tb, PySem.W.Looks (model X.prog X.w) s.heap (typeOf u) tb ∧ PySem.W.notFirst X.K C tb = true := by
    rcases ho with ⟨i, rfl⟩ | ⟨z, rfl⟩ | ⟨b', dy, gs, rfl, hb'⟩ | ⟨b', xs, rfl, hb'⟩
    · obtain ⟨t, rfl⟩ := ry
      exact ⟨.type "int", .now, hni⟩
    · obtain ⟨t, rfl⟩ := ry
      exact ⟨.type "str", .now, hns⟩
    · cases ry
      obtain ⟨mB, J', _⟩ := ins_get I.hok hb'
      obtain ⟨od', J', _⟩ := J'.look
      exact ⟨.ref C, J'.type, by simp [PySem.W.notFirst]⟩
    · cases ry
      obtain ⟨hzz, its, nn, rv, hl0⟩ := (show ObjOk X.prog X.w H s.heap b' (.lst xs) from I.hok b' _ hb')
      exact ⟨.type "list", PySem.W.Looks.ld hl0 |>.andThen .now, hnl⟩
  obtain ⟨tb, htb, hnf⟩ := tb
  refine PySem.W.cmp_K (op := .Eq) (tb := tb) (hr.mono hk).units0 hF I.ok.mod.kin J htb hnf hm.at_ hm.fn ?_
  refine wpAny_mono (run_fn (us := [.ref a, u]) (vs := [.ref a, y]) (dvs := []) (ds := []) F (hr.mono hk) b .nil passL I (.cons rfl (.cons ry .nil)) h) (fun r s' z => ?_) fun _ _ x => x
  obtain ⟨v, H', I', rv, bb, rfl, q⟩ := z
  cases rv
  exact ⟨.bl bb, H', I', rfl, q⟩
end
end Kit
namespace Kit
open PySem PySem.Spec PyProof.Rows L2
/-! ### own != by an own == -/
section
variable {M : Model} {A : Around} {E : Value → Shared → Prop} {s : Shared} {K : PySem.W.Frag} {x C : Addr} {ox : Obj} {od : Option Obj} {b : Value}
theorem ifNe {Q : Option Value → Shared → Prop} (X : K.In s.heap) (I : PySem.W.InstAt s.heap x ox C od) (hs : PySem.W.findIn K (.ref C) "__ne__" = some (some (.builtin "object.__ne__")))
    (h : wpAny M A (call (.builtin "object.__ne__") [.ref x, b]) (fun v => Q (some v)) E s) : wpAny M A (callSpecialIfBound? (.ref x) "__ne__" [b]) Q E s := by
  have hb : bindSpecial (.builtin "object.__ne__") (.ref x) = pure (.builtin "object.__ne__", [.ref x]) := PySem.F.slot_object_ne.bind (.ref x)
  simp only [callSpecialIfBound?, bindSpecialIfBound?]
  refine wpAny_holding (wpAny_bind (wpAny_bind (wpAny_bind (I.type.here ((PySem.W.looks_findIn X hs).here ?_)))))
  refine wpAny_bind (wpAny_askSetting (wpAny_ite ?_))
  have fin : wpAny M A (call (.builtin "object.__ne__") ([.ref x] ++ [b]) >>= fun v => pure (some v)) Q E s := wpAny_bind (wpAny_mono h (fun v s' h' => wpAny_pure h') fun _ _ h' => h')
  split
  · rw [hb]
    exact wpAny_bind (wpAny_pure (wpAny_pure fin))
  · rw [hb]
    exact wpAny_tryCatch (wpAny_bind (wpAny_pure (wpAny_pure fin)))
theorem objNe {prog : Program} {w : World} {f : Addr} {Q : Value → Shared → Prop} (hu : A.in1.units < cLine) (X : K.In s.heap) (I : PySem.W.InstAt s.heap x ox C od) (hm : PySem.W.mroIn K C (.type "object") = some true)
    (he : PySem.W.findIn K (.ref C) "__eq__" = some (some (.ref f))) (hf : PySem.W.isFn K (.ref f) = true) (h : wpAny (model prog w) A.in1 (call (.ref f) [.ref x, b]) (fun v s' => ∃ c, v = .bool c ∧ Q (.bool (!c)) s') E s) :
    wpAny (model prog w) A (call (.builtin "object.__ne__") [.ref x, b]) Q E s := by
  refine wpAny_call (codeAny_call_builtin PySem.F.slot_object_ne.plain PySem.F.cmpEntry_ne (PySem.W.check_slot PySem.F.cmpKind_ne PySem.F.cmpSplit_ne (I.type.andThen (PySem.W.looks_mroIn X hm)) (PySem.F.cmpArgs_ne _ _) ?_))
  unfold Builtin.«object.__ne__»
  refine wpAny_bind (wpAny_pure ?_)
  refine wpAny_bind (wpAny_cRoomFor hu ?_)
  refine wpAny_bind (PySem.W.ifBound_K X I he hf (wpAny_mono h (fun v s' hv => ?_) fun _ _ e => e))
  obtain ⟨c, rfl, q⟩ := hv
  refine wpAny_bind (m := truthy (.bool c)) (wpAny_truthy_bool ?_)
  exact wpAny_pure q
end
section
variable {X : Cx} {C : Addr} {k j : Nat} {sp : Sp}
/-- what a class has that takes != from its == -/
structure NeT (K : PySem.W.Frag) (C : Addr) : Prop where
  ne : PySem.W.findIn K (.ref C) "__ne__" = some (some (.builtin "object.__ne__"))
  hm : PySem.W.mroIn K C (.type "object") = some true
def rNeO (C : Addr) (sp : Sp) : R2 := fun x y H Q => ∃ a dx fs b dy gs, x = .ref a ∧ H a = some (.ins C dx fs) ∧ y = .ref b ∧ H b = some (.ins C dy gs) ∧ sp [x, y] H (fun v G => ∃ c, v = .bl c ∧ Q (.bl (!c)) G) E0
theorem neO (K : PySem.W.Frag) (c : CanM X.prog X.w X.K X.mg X.base k C "__eq__" sp) (hr : Room j X.A) (hk : k + 1 ≤ j) (N : NeT K C) (hK : X.K = K := by rfl) : OpR X (compareOp .NotEq) (rNeO C sp) := by
  subst hK
  obtain ⟨f, fd, ps, F, hc, hm, b⟩ := c.ex
  intro pins s σ H x y v u Q I rx ry hq
  obtain ⟨a, dx, fs, b', dy, gs, rfl, ha, rfl, hb', h⟩ := hq
  cases rx
  cases ry
  show wpAny (model X.prog X.w) X.A (richCompare .NotEq (.ref a) (.ref b')) (EP X pins σ Q) X.xe s
  obtain ⟨mA, J, _⟩ := ins_get I.hok ha
  obtain ⟨od, J, _⟩ := J.look
  obtain ⟨mB, J', _⟩ := ins_get I.hok hb'
  obtain ⟨od', J', _⟩ := J'.look
  have hr1 : Room k X.A.in1 := (hr.mono hk).in1
  have e0 : Env0 X.prog X.w X.K X.mg X.base X.A.in1 X.stack s H := by
    have e := I.env0
    exact ⟨e.frames, e.mod, e.bs, e.bsz, e.funs, e.frf, e.hok, e.bare⟩
  have hl := F.len _ _ _ _ h
  have bb := b s [.ref a, .ref b'] I.kIn (by simpa using hl)
  unfold richCompare
  simp only [oneThing_ref]
  refine wpAny_holding (wpAny_bind (wpAny_cRoomFor (hr.mono hk).units0 ?_))
  refine wpAny_bind (J.type.here (wpAny_bind (J'.type.here ?_)))
  rw [show (Value.ref C != Value.ref C) = false from by simp]
  simp only [Bool.false_eq_true, if_false]
  refine wpAny_bind (wpAny_pure ?_)
  simp only [Bool.false_eq_true, if_false]
  have one : wpAny (model X.prog X.w) X.A (tryCompare (.ref a) "__ne__" (.ref b')) (fun r s' => ∃ v, r = some v ∧ EP X pins σ Q v s') X.xe s := by
    unfold tryCompare
    refine wpAny_bind (ifNe I.kIn J N.ne (objNe hr1.units0 I.kIn J N.hm hm.at_ hm.fn (wpAny_call (codeAny_mono (F.run X.A.in1 X.stack s H ⟨[.ref a, .ref b'], []⟩ [.ref a, .ref b'] [.ref a, .ref b'] _ E0 hr1 e0 (by simpa using bb) (.cons rfl (.cons rfl .nil)) h) ?_))))
    intro z s' hq
    cases z with
    | error e =>
      obtain ⟨_, _, _, _, _, _, _, _, _, _, _, _, y⟩ := hq
      exact y.elim
    | ok fl =>
      cases fl with
      | ret w =>
        obtain ⟨v, H', I', rz, c, rfl, q⟩ := I.after hq
        cases rz
        exact ⟨c, rfl, wpAny_pure ⟨_, rfl, .bl (!c), H', I', rfl, q⟩⟩
      | next => exact hq.elim
      | brk => exact hq.elim
      | cont => exact hq.elim
  refine wpAny_bind (wpAny_mono one (fun r s' z => ?_) fun _ _ e => e)
  obtain ⟨v, rfl, hq⟩ := z
  exact wpAny_pure hq
end
end Kit
namespace Kit
open PySem PySem.Spec PyProof.Rows L2
theorem units1 {k : Nat} {A : Around} (r : Room k A) : A.units + 1 < cLine := by
  have := r.un
  omega
end Kit

end
section
set_option Elab.async false
set_option linter.all false
set_option maxRecDepth 100000
set_option maxHeartbeats 4000000
namespace Kit
open PySem PySem.Spec PyProof.Rows L2
/-! ### comprehensions over pairs; dict comprehensions -/
section
variable {J : It} {n : Nat} {G : Hp → Prop} {Y : Nat → Hp → V → Hp → Prop} {te tk tv : TE} {σ : St} {H1 : Hp} {D : Addr} {Qd : Hp → Prop} {K : PySem.W.Frag} {xs ys : Nat → Option V}
theorem lc_two (w : Walk J n G (YPair xs ys)) {i j : Nat} (out : List V) (hn : out.length = n) (hsz : n ≤ 100000) (hD : H1 D = none) (hG : ∀ H, Same H1 H → G H) (hw : ∀ x y, wipe (((wipe σ [i, j]).set i (some x)).set j (some y)) [i, j] = wipe σ [i, j])
    (hs : ∀ k x y H v, k < n → Same H1 H → xs k = some x → ys k = some y → out[k]? = some v → ∀ Q : VK, (∀ M, Same H M → Q v M) → te (((wipe σ [i, j]).set i (some x)).set j (some y)) H Q)
    (hd : ∀ H, Same H1 H → H D = some (.lst out) → Qd H) :
    ∃ W : Nat → Nat → Hp → Prop, (∃ m, W 0 m (upd H1 D (.lst []))) ∧ ∀ k m H, W k m H →
      (J.stop k H ∧ Qd H) ∨ (J.go k H ∧ ∃ Nx : Hp → Prop, (∀ H', Nx H' → ∃ m', m' < m ∧ W (k + 1) m' H') ∧ ∀ x H', J.yld k H x H' → gTup K 2 (gCons (gName i) (gCons (gName j) gNil)) x (wipe σ [i, j]) H' fun σ2 H2 => wipe σ2 [i, j] = wipe σ [i, j] ∧ tYes σ2 H2 fun b H3 =>
        if b = true then te σ2 H3 fun y H4 => ∃ acc, H4 D = some (.lst acc) ∧ acc.length < sizeLine ∧ Nx (upd H4 D (.lst (acc ++ [y]))) else Nx H3) := by
  refine lc_it w (fun i H => Same H1 H ∧ H D = some (.lst (out.take i))) ⟨ex_new hD, upd_same⟩ (fun i H _ h => hG H h.1) ?_ ?_
  · rintro k v H H' hi ⟨s1, hHD⟩ ⟨T, x, y, rfl, hT, rfl, hx, hy⟩
    have hv : out[k]? = some (out[k]'(by omega)) := List.getElem?_eq_getElem _
    have s2 := s1.trans (ex_new (o := .tup [x, y]) hT)
    refine ⟨T, [x, y], rfl, seqT_of upd_same, rfl, x, [y], rfl, y, [], rfl, rfl, hw x y, ?_⟩
    unfold tYes
    dsimp only
    rw [if_pos rfl]
    refine hs k x y _ _ hi s2 hx hy hv _ fun M s3 => ⟨out.take k, s3 _ _ (ex_new hT _ _ hHD), by rw [List.length_take]; exact szlt (by omega), ?_⟩
    refine ⟨ex_mut (s2.trans s3) hD, ?_⟩
    rw [upd_same, List.take_add_one, hv]
    rfl
  · rintro H ⟨s1, hHD⟩
    refine hd H s1 ?_
    rw [hHD, List.take_of_length_le (by omega)]
/-- the dict's reading, as lc_it -/
theorem dc_it (w : Walk J n G Y) {g : TG} {tt : TT} {vs : List Nat} (Pv : Nat → Hp → Prop) (h0 : Pv 0 (upd H1 D (.dK []))) (hG : ∀ i H, i ≤ n → Pv i H → G H)
    (hs : ∀ i x H H', i < n → Pv i H → Y i H x H' → g x (wipe σ vs) H' fun σ2 H2 => wipe σ2 vs = wipe σ vs ∧ tt σ2 H2 fun b H3 =>
      if b = true then tk σ2 H3 fun y H4 => tv σ2 H4 fun z H5 => ∃ kvs k, y = kV k ∧ H5 D = some (.dK kvs) ∧ kvs.length < sizeLine ∧ Pv (i + 1) (upd H5 D (.dK (putK kvs k z))) else Pv (i + 1) H3) (hd : ∀ H, Pv n H → Qd H) :
    ∃ W : Nat → Nat → Hp → Prop, (∃ m, W 0 m (upd H1 D (.dK []))) ∧ ∀ i m H, W i m H →
      (J.stop i H ∧ Qd H) ∨ (J.go i H ∧ ∃ Nx : Hp → Prop, (∀ H', Nx H' → ∃ m', m' < m ∧ W (i + 1) m' H') ∧ ∀ x H', J.yld i H x H' → g x (wipe σ vs) H' fun σ2 H2 => wipe σ2 vs = wipe σ vs ∧ tt σ2 H2 fun b H3 =>
        if b = true then tk σ2 H3 fun y H4 => tv σ2 H4 fun z H5 => ∃ kvs k, y = kV k ∧ H5 D = some (.dK kvs) ∧ kvs.length < sizeLine ∧ Nx (upd H5 D (.dK (putK kvs k z))) else Nx H3) := by
  refine ⟨fun i m H => m = n - i ∧ i ≤ n ∧ Pv i H, ⟨n, by simp, Nat.zero_le _, h0⟩, ?_⟩
  rintro i m H ⟨rfl, hi, p⟩
  have q := hG i H hi p
  by_cases hlt : i < n
  · refine .inr ⟨w.goes i H hlt q, Pv (i + 1), fun H' p' => ⟨n - (i + 1), by omega, rfl, hlt, p'⟩, fun x H' y => hs i x H H' hlt p (w.yields i H x H' hlt q y)⟩
  · have e : i = n := by omega
    subst e
    exact .inl ⟨w.stops H q, hd H p⟩
theorem put_take {ks : List Key} {out : List V} (hle : ks.length ≤ out.length) (hnd : ks.Nodup) {i : Nat} {k : Key} {v : V} (hk : ks[i]? = some k) (hv : out[i]? = some v) : putK ((ks.zip out).take i) k v = (ks.zip out).take (i + 1) := by
  have hz : (ks.zip out)[i]? = some (k, v) := by
    rw [List.getElem?_zip_eq_some]
    exact ⟨hk, hv⟩
  rw [putK_new, List.take_add_one, hz]
  · rfl
  · cases e : valV ((ks.zip out).take i) k with
    | none => rfl
    | some u =>
      exfalso
      have h1 := valV_in e
      rw [List.map_take, List.map_fst_zip hle] at h1
      obtain ⟨j, hj⟩ := List.mem_iff_getElem?.mp h1
      rw [List.getElem?_take] at hj
      split at hj
      · rename_i hlt
        have hlt2 : j < i := by omega
        have hjl := (List.getElem?_eq_some_iff.mp hj).1
        have := (List.getElem?_inj hjl hnd).mp (hj.trans hk.symm)
        omega
      · cases hj
theorem dc_one (w : Walk J n G Y) {j : Nat} (ks : List Key) (out : List V) (hk : ks.length = n) (hn : out.length = n) (hnd : ks.Nodup) (hsz : n ≤ 100000) (hD : H1 D = none) (hG : ∀ H, Same H1 H → G H)
    (hs : ∀ i x H H' k v, i < n → Same H1 H → Y i H x H' → ks[i]? = some k → out[i]? = some v → Same H H' ∧ ∀ Q : V → V → Hp → Prop, (∀ M, Same H' M → Q (kV k) v M) → tk (σ.set j (some x)) H' fun y H4 => tv (σ.set j (some x)) H4 fun z H5 => Q y z H5)
    (hd : ∀ H, Same H1 H → H D = some (.dK (ks.zip out)) → Qd H) :
    ∃ W : Nat → Nat → Hp → Prop, (∃ m, W 0 m (upd H1 D (.dK []))) ∧ ∀ i m H, W i m H →
      (J.stop i H ∧ Qd H) ∨ (J.go i H ∧ ∃ Nx : Hp → Prop, (∀ H', Nx H' → ∃ m', m' < m ∧ W (i + 1) m' H') ∧ ∀ x H', J.yld i H x H' → gName j x (wipe σ [j]) H' fun σ2 H2 => wipe σ2 [j] = wipe σ [j] ∧ tYes σ2 H2 fun b H3 =>
        if b = true then tk σ2 H3 fun y H4 => tv σ2 H4 fun z H5 => ∃ kvs k, y = kV k ∧ H5 D = some (.dK kvs) ∧ kvs.length < sizeLine ∧ Nx (upd H5 D (.dK (putK kvs k z))) else Nx H3) := by
  refine dc_it w (fun i H => Same H1 H ∧ H D = some (.dK ((ks.zip out).take i))) ⟨ex_new hD, upd_same⟩ (fun i H _ h => hG H h.1) ?_ ?_
  · rintro i x H H' hi ⟨s1, hHD⟩ y
    have hv : out[i]? = some (out[i]'(by omega)) := List.getElem?_eq_getElem _
    have hkk : ks[i]? = some (ks[i]'(by omega)) := List.getElem?_eq_getElem _
    obtain ⟨s2, ht⟩ := hs i x H H' _ _ hi s1 y hkk hv
    refine ⟨wipe1 j _, ?_⟩
    unfold tYes
    dsimp only
    rw [if_pos rfl, set1]
    refine ht _ fun M s3 => ⟨(ks.zip out).take i, _, rfl, s3 _ _ (s2 _ _ hHD), by rw [List.length_take]; exact szlt (by omega), ?_⟩
    refine ⟨ex_mut ((s1.trans s2).trans s3) hD, ?_⟩
    rw [upd_same, put_take (by omega) hnd hkk hv]
  · rintro H ⟨s1, hHD⟩
    refine hd H s1 ?_
    rw [hHD, List.take_of_length_le (by rw [List.length_zip]; omega)]
theorem dc_two (w : Walk J n G (YPair xs ys)) {i j : Nat} (ks : List Key) (out : List V) (hk : ks.length = n) (hn : out.length = n) (hnd : ks.Nodup) (hsz : n ≤ 100000) (hD : H1 D = none) (hG : ∀ H, Same H1 H → G H) (hw : ∀ x y, wipe (((wipe σ [i, j]).set i (some x)).set j (some y)) [i, j] = wipe σ [i, j])
    (hs : ∀ l x y H k v, l < n → Same H1 H → xs l = some x → ys l = some y → ks[l]? = some k → out[l]? = some v → ∀ Q : V → V → Hp → Prop, (∀ M, Same H M → Q (kV k) v M) → tk (((wipe σ [i, j]).set i (some x)).set j (some y)) H fun y' H4 => tv (((wipe σ [i, j]).set i (some x)).set j (some y)) H4 fun z H5 => Q y' z H5)
    (hd : ∀ H, Same H1 H → H D = some (.dK (ks.zip out)) → Qd H) :
    ∃ W : Nat → Nat → Hp → Prop, (∃ m, W 0 m (upd H1 D (.dK []))) ∧ ∀ l m H, W l m H →
      (J.stop l H ∧ Qd H) ∨ (J.go l H ∧ ∃ Nx : Hp → Prop, (∀ H', Nx H' → ∃ m', m' < m ∧ W (l + 1) m' H') ∧ ∀ x H', J.yld l H x H' → gTup K 2 (gCons (gName i) (gCons (gName j) gNil)) x (wipe σ [i, j]) H' fun σ2 H2 => wipe σ2 [i, j] = wipe σ [i, j] ∧ tYes σ2 H2 fun b H3 =>
        if b = true then tk σ2 H3 fun y H4 => tv σ2 H4 fun z H5 => ∃ kvs k, y = kV k ∧ H5 D = some (.dK kvs) ∧ kvs.length < sizeLine ∧ Nx (upd H5 D (.dK (putK kvs k z))) else Nx H3) := by
  refine dc_it w (fun i H => Same H1 H ∧ H D = some (.dK ((ks.zip out).take i))) ⟨ex_new hD, upd_same⟩ (fun i H _ h => hG H h.1) ?_ ?_
  · rintro l v H H' hi ⟨s1, hHD⟩ ⟨T, x, y, rfl, hT, rfl, hx, hy⟩
    have hv : out[l]? = some (out[l]'(by omega)) := List.getElem?_eq_getElem _
    have hkk : ks[l]? = some (ks[l]'(by omega)) := List.getElem?_eq_getElem _
    have s2 := s1.trans (ex_new (o := .tup [x, y]) hT)
    refine ⟨T, [x, y], rfl, seqT_of upd_same, rfl, x, [y], rfl, y, [], rfl, rfl, hw x y, ?_⟩
    unfold tYes
    dsimp only
    rw [if_pos rfl]
    refine hs l x y _ _ _ hi s2 hx hy hkk hv _ fun M s3 => ⟨(ks.zip out).take l, _, rfl, s3 _ _ (ex_new hT _ _ hHD), by rw [List.length_take]; exact szlt (by omega), ?_⟩
    refine ⟨ex_mut (s2.trans s3) hD, ?_⟩
    rw [upd_same, put_take (by omega) hnd hkk hv]
  · rintro H ⟨s1, hHD⟩
    refine hd H s1 ?_
    rw [hHD, List.take_of_length_le (by rw [List.length_zip]; omega)]
theorem zip_get {ks : List Key} {out : List V} (hle : ks.length ≤ out.length) (hnd : ks.Nodup) {i : Nat} {k : Key} {v : V} (hk : ks[i]? = some k) (hv : out[i]? = some v) : valV (ks.zip out) k = some v := by
  have hz : (ks.zip out)[i]? = some (k, v) := by
    rw [List.getElem?_zip_eq_some]
    exact ⟨hk, hv⟩
  have hm : (k, v) ∈ ks.zip out := List.mem_of_getElem? hz
  have hn : ((ks.zip out).map (·.1)).Nodup := by
    rw [List.map_fst_zip hle]
    exact hnd
  exact val_nodup hn _ hm
end
/-! ### an error without fields -/
def RaZ (E : XK) (C : Addr) (H : Hp) : Prop := ∀ M, Same H M → E (.ref C) none M
theorem RaZ.mono {E : XK} {C : Addr} {H G : Hp} (h : RaZ E C H) (e : Same H G) : RaZ E C G := fun M s => h M (e.trans s)
end Kit
namespace Kit
open PySem PySem.Spec PyProof.Rows L2
/-! ### the caught error in its own suite -/
section
variable {X : Cx} {a : Addr} {oe : Obj} {pn : List (Addr × Obj)} {cls : Value} {d : Option Addr} {e : Expr} {te : TE} {fld : Str} {pos : Pos}
theorem call_isU (hz : Zc cls d oe) (hf : ∃ z, oe.data = .fields z) : CallR (X.suite a ((a, oe) :: pn)) (.builtin "isinstance") (rIsP X.K a cls d) := call_isP (X := X.suite a ((a, oe) :: pn)) (List.mem_cons_self ..) hz hf
theorem pe_xu (hz : Zc cls d oe) (hf : ∃ z, oe.data = .fields z) (he : PE (X.suite a ((a, oe) :: pn)) e te) (hb : attributeBase e fld (X.suite a ((a, oe) :: pn)).env (eval e (X.suite a ((a, oe) :: pn)).env) = eval e (X.suite a ((a, oe) :: pn)).env := by rfl) : PE (X.suite a ((a, oe) :: pn)) (.Attribute e fld pos) (tXP X.K a cls d fld te) := pe_xp (List.mem_cons_self ..) hz hf he hb
end
end Kit
namespace Kit
open PySem PySem.Spec PyProof.Rows L2
section
variable {X : Cx} {k j : Nat} {C : Addr} {m : Str} {sp : Sp} {pos apos : Pos} {o : Expr} {ta : TE}
theorem pc_m0 {pl : Sem Bool} (c : CanM X.prog X.w X.K X.mg X.base k C m sp) (hr : Room j X.A) (hk : k ≤ j) (he : PE X o ta)
    (ht : eval (.Call (.Attribute o m apos) [] [] pos) X.env = (do
      let v ← eval o X.env
      standAt apos.atName
      let (f, first) ← holding [v] (getMethod v m pl)
      callWith pos f first (backTo pos (starEach [] X.env)) (backToKw pos (keywordEach [] X.env))) := by rfl) :
    PE X (.Call (.Attribute o m apos) [] [] pos) (tMeth C m sp [] E0 ta tNil) := by
  obtain ⟨f, fd, ps, F, hc, hm, b⟩ := c.ex
  exact pe_meth0 (pl := pl) he hc hm F (hr.mono hk) b .nil passL ht
end
end Kit

end
section
set_option Elab.async false
set_option linter.all false
set_option maxRecDepth 100000
set_option maxHeartbeats 4000000
namespace Kit
open PySem PySem.Spec PyProof.Rows L2
/-! ### [.. for .. for ..]: the two walks -/
section
variable {J J1 : It} {n n1 : Nat} {G G1 : Hp → Prop} {Y Y1 : Nat → Hp → V → Hp → Prop} {g1 : TG} {tt1 : TT} {te : TE} {vs1 : List Nat} {σ2 : St} {H4 : Hp} {D : Addr}
/-- the inner walk -/
theorem lc_in (w : Walk J1 n1 G1 Y1) (Pw : Nat → Hp → Prop) {Nx : Hp → Prop} (h0 : Pw 0 H4) (hG : ∀ i H, i ≤ n1 → Pw i H → G1 H)
    (hs : ∀ i x H H', i < n1 → Pw i H → Y1 i H x H' → g1 x (wipe σ2 vs1) H' fun σ3 H5 => wipe σ3 vs1 = wipe σ2 vs1 ∧ tt1 σ3 H5 fun b H6 =>
      if b = true then te σ3 H6 fun y H7 => ∃ acc, H7 D = some (.lst acc) ∧ acc.length < sizeLine ∧ Pw (i + 1) (upd H7 D (.lst (acc ++ [y]))) else Pw (i + 1) H6) (hd : ∀ H, Pw n1 H → Nx H) :
    ∃ W1 : Nat → Nat → Hp → Prop, (∃ m, W1 0 m H4) ∧ ∀ j k H, W1 j k H →
      (J1.stop j H ∧ Nx H) ∨ (J1.go j H ∧ ∃ Nx1 : Hp → Prop, (∀ H', Nx1 H' → ∃ k', k' < k ∧ W1 (j + 1) k' H') ∧ ∀ x H', J1.yld j H x H' → g1 x (wipe σ2 vs1) H' fun σ3 H5 => wipe σ3 vs1 = wipe σ2 vs1 ∧ tt1 σ3 H5 fun b H6 =>
        if b = true then te σ3 H6 fun y H7 => ∃ acc, H7 D = some (.lst acc) ∧ acc.length < sizeLine ∧ Nx1 (upd H7 D (.lst (acc ++ [y]))) else Nx1 H6) := by
  refine ⟨fun i m H => m = n1 - i ∧ i ≤ n1 ∧ Pw i H, ⟨n1, by simp, Nat.zero_le _, h0⟩, ?_⟩
  rintro i m H ⟨rfl, hi, p⟩
  have q := hG i H hi p
  by_cases hlt : i < n1
  · refine .inr ⟨w.goes i H hlt q, Pw (i + 1), fun H' p' => ⟨n1 - (i + 1), by omega, rfl, hlt, p'⟩, fun x H' y => hs i x H H' hlt p (w.yields i H x H' hlt q y)⟩
  · have e : i = n1 := by omega
    subst e
    exact .inl ⟨w.stops H q, hd H p⟩
/-- the outer one: A asks of an item what its own loop does, up to what comes next -/
theorem lc_out {H1 : Hp} {Qd : Hp → Prop} (w : Walk J n G Y) (A : V → Hp → (Hp → Prop) → Prop) (Pv : Nat → Hp → Prop) (h0 : Pv 0 (upd H1 D (.lst []))) (hG : ∀ i H, i ≤ n → Pv i H → G H)
    (hs : ∀ i x H H', i < n → Pv i H → Y i H x H' → A x H' (Pv (i + 1))) (hd : ∀ H, Pv n H → Qd H) :
    ∃ W : Nat → Nat → Hp → Prop, (∃ m, W 0 m (upd H1 D (.lst []))) ∧ ∀ i m H, W i m H →
      (J.stop i H ∧ Qd H) ∨ (J.go i H ∧ ∃ Nx : Hp → Prop, (∀ H', Nx H' → ∃ m', m' < m ∧ W (i + 1) m' H') ∧ ∀ x H', J.yld i H x H' → A x H' Nx) := by
  refine ⟨fun i m H => m = n - i ∧ i ≤ n ∧ Pv i H, ⟨n, by simp, Nat.zero_le _, h0⟩, ?_⟩
  rintro i m H ⟨rfl, hi, p⟩
  have q := hG i H hi p
  by_cases hlt : i < n
  · refine .inr ⟨w.goes i H hlt q, Pv (i + 1), fun H' p' => ⟨n - (i + 1), by omega, rfl, hlt, p'⟩, fun x H' y => hs i x H H' hlt p (w.yields i H x H' hlt q y)⟩
  · have e : i = n := by omega
    subst e
    exact .inl ⟨w.stops H q, hd H p⟩
end
theorem yesT {σ : St} {H : Hp} {A : Bool → Hp → Prop} (h : A true H) : tYes σ H A := h
end Kit

end
section
set_option Elab.async false
set_option linter.all false
set_option maxRecDepth 100000
set_option maxHeartbeats 4000000
namespace Kit
open PySem PySem.Spec PyProof.Rows L2
theorem itP {c : Prop} [Decidable c] {A B : Prop} (h : c) (x : A) : if c then A else B := by
  rw [if_pos h]
  exact x
/-! ### texts cut at one sign -/
/-- the pieces of l between the signs c -/
def cutc (c : Nat) : List Nat → List Nat → List (List Nat)
  | acc, [] => [acc]
  | acc, d :: r => if d = c then acc :: cutc c [] r else cutc c (acc ++ [d]) r
theorem spl_cutc (c : Nat) : ∀ l acc, TL.spl [c] 0 acc l = cutc c acc l
  | [], acc => TL.spl_nil _ _ _
  | d :: r, acc => by
    have e : TL.pre [c] (d :: r) = decide (d = c) := by
      unfold TL.pre
      show ([d] == [c]) = _
      by_cases h : d = c
      · rw [h, decide_eq_true rfl]; exact beq_self_eq_true _
      · rw [decide_eq_false h]
        exact beq_eq_false_iff_ne.mpr fun q => h (List.head_eq_of_cons_eq q)
    by_cases h : d = c
    · rw [TL.spl_hit (by rw [e, decide_eq_true h])]
      show acc :: TL.spl [c] 0 [] r = _
      rw [spl_cutc c r []]
      show _ = if d = c then _ else _
      rw [if_pos h]
    · rw [TL.spl_miss (by rw [e, decide_eq_false h]), spl_cutc c r _]
      show _ = if d = c then _ else _
      rw [if_neg h]
theorem split1 (l : List Nat) {c : Nat} (hc : c < 256) : Txt.split (S l) (S [c]) = (cutc c [] l).map S := by
  refine TL.map_tl_inj ?_
  rw [TL.split_spl _ _ (show [c] ≠ [] from nofun) (TL.kind_ok (by show (#[c]).all (· < 256) = true; simp [hc])), List.map_map]
  show TL.spl [c] 0 [] l = _
  rw [spl_cutc]
  have : (TL.tl ∘ S) = id := funext fun x => rfl
  rw [this, List.map_id]
theorem cutc_none {c : Nat} : ∀ {l acc : List Nat}, c ∉ l → cutc c acc l = [acc ++ l]
  | [], acc, _ => by rw [List.append_nil]; rfl
  | d :: r, acc, h => by
    have h1 : d ≠ c := fun e => h (by rw [e]; exact List.mem_cons_self)
    show (if d = c then _ else _) = _
    rw [if_neg h1, cutc_none fun m => h (List.mem_cons_of_mem _ m), List.append_assoc]
    rfl
theorem cutc_at {c : Nat} : ∀ {u acc v : List Nat}, c ∉ u → cutc c acc (u ++ c :: v) = (acc ++ u) :: cutc c [] v
  | [], acc, v, _ => by
    show (if c = c then _ else _) = _
    rw [if_pos rfl, List.append_nil]
  | d :: r, acc, v, h => by
    have h1 : d ≠ c := fun e => h (by rw [e]; exact List.mem_cons_self)
    show (if d = c then _ else _) = _
    rw [if_neg h1]
    show cutc c (acc ++ [d]) (r ++ c :: v) = _
    rw [cutc_at fun m => h (List.mem_cons_of_mem _ m), List.append_assoc]
    rfl
theorem cutc_len {c : Nat} : ∀ (l acc : List Nat), (cutc c acc l).length = l.count c + 1
  | [], acc => rfl
  | d :: r, acc => by
    show (if d = c then acc :: cutc c [] r else cutc c (acc ++ [d]) r).length = _
    by_cases h : d = c
    · rw [if_pos h, List.length_cons, cutc_len r, h, List.count_cons_self]
    · rw [if_neg h, cutc_len r, List.count_cons_of_ne (Ne.symm (Ne.symm h))]
theorem count1 (l : List Nat) (c : Nat) : Txt.count (S l) (S [c]) = (l.count c : Int) := by
  have e : Txt.count (S l) (S [c]) = cnt c l := count_is (S l) c
  rw [e]
  induction l with
  | nil => rfl
  | cons d r ih =>
    rw [cnt_cons, ih (by exact count_is (S r) c)]
    by_cases h : d = c
    · rw [if_pos h, h, List.count_cons_self]; omega
    · rw [if_neg h, List.count_cons_of_ne (Ne.symm (Ne.symm h))]; omega
/-- a list with c in it, cut at the first one -/
theorem first_cut {c : Nat} : ∀ {l : List Nat}, c ∈ l → ∃ u v, l = u ++ c :: v ∧ c ∉ u
  | d :: r, h => by
    by_cases e : d = c
    · exact ⟨[], r, by rw [e]; rfl, nofun⟩
    · rcases List.mem_cons.mp h with q | q
      · exact absurd q.symm e
      · obtain ⟨u, v, rfl, hu⟩ := first_cut q
        exact ⟨d :: u, v, rfl, fun m => (List.mem_cons.mp m).elim (fun z => e z.symm) hu⟩
theorem count_zero {c : Nat} {l : List Nat} : l.count c = 0 ↔ c ∉ l := List.count_eq_zero
/-- just one c -/
theorem one_cut {c : Nat} {l : List Nat} (h : l.count c = 1) : ∃ u v, l = u ++ c :: v ∧ c ∉ u ∧ c ∉ v := by
  obtain ⟨u, v, rfl, hu⟩ := first_cut (show c ∈ l from List.count_pos_iff.mp (by omega))
  refine ⟨u, v, rfl, hu, ?_⟩
  rw [List.count_append, List.count_cons_self, count_zero.mpr hu] at h
  exact count_zero.mp (by omega)
theorem ends1 (l : List Nat) (c : Nat) : Txt.endswith (S l) (S [c]) = decide (l.drop (l.length - 1) = [c]) := by
  unfold Txt.endswith
  rw [S_len, S_len]
  show (decide (0 + 1 ≤ l.length) && PySem.Builtin.Str.subAt (S l) (S [c]) (l.length - 1)) = _
  by_cases z : 1 ≤ l.length
  · rw [decide_eq_true (by omega), Bool.true_and]
    have e := StrLaws.subAt_one (S l) c (l.length - 1)
    have k : ((S l).cps.toList[l.length - 1]? = some c) ↔ l.drop (l.length - 1) = [c] := by
      show l[l.length - 1]? = some c ↔ _
      have dl : (l.drop (l.length - 1)).length = 1 := by rw [List.length_drop]; omega
      have d0 : (l.drop (l.length - 1))[0]? = l[l.length - 1]? := by rw [List.getElem?_drop, Nat.add_zero]
      rw [← d0]
      match l.drop (l.length - 1), dl with
      | [x], _ =>
        constructor
        · intro h; cases h; rfl
        · intro h; cases h; rfl
    have g : (PySem.Builtin.Str.subAt (S l) (S [c]) (l.length - 1) = true) ↔ l.drop (l.length - 1) = [c] :=
      ⟨fun h => k.mp (e.mp ⟨by rw [S_len]; show l.length - 1 + 1 ≤ _; omega, h⟩), fun h => (e.mpr (k.mpr h)).2⟩
    by_cases q : l.drop (l.length - 1) = [c]
    · rw [decide_eq_true q]
      exact g.mpr q
    · rw [decide_eq_false q]
      exact Bool.eq_false_iff.mpr fun h => q (g.mp h)
  · rw [decide_eq_false (by omega), Bool.false_and, decide_eq_false]
    intro q
    have := congrArg List.length q
    rw [List.length_drop] at this
    simp at this
    omega
theorem sIx_m1 (n d : Nat) : HT.sIx n d (some (-1)) = n - 1 := by
  show (if (-1 : Int) < 0 then ((-1 : Int) + (n : Int)).toNat else min (-1 : Int).toNat n) = n - 1
  rw [if_pos (by decide)]
  omega
/-- l[-1:] -/
theorem cut_end (l : List Nat) : cutS (S l) (some (-1)) none = S (l.drop (l.length - 1)) := by
  rw [cut_S, sIx_m1]
  show S ((l.drop (l.length - 1)).take (l.length - (l.length - 1))) = _
  rw [List.take_of_length_le (by rw [List.length_drop]; omega)]
/-- l[:-1] -/
theorem cut_init (l : List Nat) : cutS (S l) none (some (-1)) = S (l.take (l.length - 1)) := by
  rw [cut_S, sIx_m1]
  show S ((l.drop 0).take (l.length - 1 - 0)) = _
  rw [List.drop_zero, Nat.sub_zero]
/-- l[i:-1] -/
theorem cut_in (l : List Nat) (i : Nat) : cutS (S l) (some (i : Int)) (some (-1)) = S ((l.take (l.length - 1)).drop i) := by
  rw [cut_S, sIx_m1, HT.sIx_nat, List.drop_take]
  by_cases h : i ≤ l.length
  · rw [Nat.min_eq_left h]
  · rw [Nat.min_eq_right (by omega), List.drop_eq_nil_of_le (Nat.le_refl _), List.drop_eq_nil_of_le (by omega)]
    simp
end Kit

end
section
set_option Elab.async false
set_option linter.all false
set_option maxRecDepth 100000
set_option maxHeartbeats 4000000
namespace Kit
open PySem PySem.Spec PyProof.Rows L2
section
variable {X : Cx} {k j : Nat} {C : Addr} {m : Str} {sp : Sp} {o : Expr} {pos apos : Pos} {ta : TE}
/-- C.m(), m a classmethod -/
theorem pc_cm0 {pl : Sem Bool} (c : CanC X.prog X.w X.K X.mg X.base k C m sp) (hr : Room j X.A) (hk : k ≤ j) (he : PE X o ta)
    (ht : eval (.Call (.Attribute o m apos) [] [] pos) X.env = (do
      let ov ← eval o X.env
      standAt apos.atName
      let (f, first) ← holding [ov] (getMethod ov m pl)
      callWith pos f first (backTo pos (starEach [] X.env)) (backToKw pos (keywordEach [] X.env))) := by rfl) :
    PE X (.Call (.Attribute o m apos) [] [] pos) (tCm0 C sp ta tNil) := by
  obtain ⟨mc, pp, g, fd, ps, F, r, cm, b⟩ := c.ex
  refine ⟨fun pins s σ H Q I h => ?_⟩
  refine PySem.W.methodCall_KW (pl := pl) (thn (he.run pins s σ H _ I h) fun u s1 ⟨x, H1, I1, rx, ex, q⟩ => ?_) ht
  subst ex
  obtain rfl : u = Value.ref C := rx
  refine ClX.getmethcm_ok I1 r cm fun s2 I2 => ?_
  exact PySem.W.callWith_M0 (first := []) ⟨ClX.pin_at I2, I2.kIn⟩ cm.fi (ClX.run_cm (us := []) (vs := []) (F.raw b .nil) (hr.mono hk) passL I2 .nil q)
end
end Kit

end
section
set_option Elab.async false
set_option linter.all false
set_option maxRecDepth 100000
set_option maxHeartbeats 4000000
namespace Kit
open PySem PySem.Spec PyProof.Rows L2
/-! ### enumerate(zip(..)): the zip's own tuple may be out, alive or not -/
abbrev IsZ (h : Heap) (z TI TO : Addr) (v : Value) (f : Bool) : Prop := h.get? z = some { cls := .type "zip", dict := none, data := .fields #[v, .bool f, .bool false, .ref TI, .ref TO], slots := #[] }
def OutV (v : Value) : Prop := v = .none ∨ ∃ T : Addr, v = rawInt T
section
variable {prog : Program} {w : World} {A : Around} {E : Value → Shared → Prop} {s : Shared} {z TI TO i1 i2 : Addr} {fp1 fp2 : List Addr} {n1 n2 i : Nat} {P1 P2 : Nat → Value → Prop} {St1 St2 : Nat → Heap → Prop} {v : Value} {f : Bool}
theorem alive_any {a : Addr} {Q : Option Obj → Shared → Prop} (h : Q (s.heap.get? a) s) : wpAny (model prog w) A (loadIfAlive a) Q E s := fun _ _ _ => h
theorem free_zip {Q : Bool → Shared → Prop} (hz : IsZ s.heap z TI TO v f) (hv : OutV v) (h : ∀ b h' f', IsZ h' z TI TO v f' → Heap.SameBut z s.heap h' → Q b { s with heap := h' }) :
    wpAny (model prog w) A (Builtin.SmallTypes.ownedTupleIsFree (.ref z)) Q E s := by
  unfold Builtin.SmallTypes.ownedTupleIsFree
  refine wpAny_bind (wpAny_field hz rfl (x := v) rfl ?_)
  rcases hv with rfl | ⟨T, rfl⟩
  · exact wpAny_pure (h true s.heap f hz (Heap.SameBut.refl _ _))
  · refine wpAny_bind (show wpAny _ _ (loadIfAlive ((T : Int).toNat)) _ _ _ from alive_any ?_)
    generalize s.heap.get? (T : Int).toNat = o?
    cases o? with
    | none => exact wpAny_pure (h true s.heap f hz (Heap.SameBut.refl _ _))
    | some o =>
      simp only [Option.isNone_some, Bool.false_eq_true, if_false]
      refine wpAny_bind (wpAny_field hz rfl (x := .bool f) rfl ?_)
      cases f with
      | true =>
        rw [if_neg (show ¬ ((Value.bool true != Value.bool true) = true) from Bool.false_ne_true)]
        exact wpAny_pure (h false s.heap true hz (Heap.SameBut.refl _ _))
      | false =>
        rw [if_pos (show (Value.bool false != Value.bool true) = true from rfl)]
        exact wpAny_bind (wpAny_setField_rec hz (by simp) fun h₁ hz₁ hs₁ => wpAny_pure (h false h₁ true hz₁ hs₁))
/-- the record after one of its writes -/
theorem set0 {Q : Unit → Shared → Prop} {v2 : Value} (hz : IsZ s.heap z TI TO v f) (h : ∀ h', IsZ h' z TI TO v2 f → Heap.SameBut z s.heap h' → Q () { s with heap := h' }) : wpAny (model prog w) A (setField (.ref z) 0 v2) Q E s :=
  wpAny_setField_rec hz (by simp) fun h' hz' hs' => h h' hz' hs'
theorem zipZ_item {Q : Value → Shared → Prop} (S : ZipSep2 z TI TO i1 i2 fp1 fp2) (D1 : Draws prog w A i1 fp1 n1 P1 St1) (D2 : Draws prog w A i2 fp2 n2 P2 St2)
    (hz : IsZ s.heap z TI TO v f) (hv : OutV v) (hTI : IsTupOf2 s.heap TI (.ref i1) (.ref i2)) (hTO : ∃ a1 a2, IsTupOf2 s.heap TO a1 a2) (st1 : St1 i s.heap) (st2 : St2 i s.heap) (l1 : i < n1) (l2 : i < n2)
    (hQ : ∀ x1 x2 h' tk, P1 i x1 → P2 i x2 → (∃ v' f', IsZ h' z TI TO v' f' ∧ OutV v') → (∃ a1 a2, IsTupOf2 h' TO a1 a2) → St1 (i + 1) h' → St2 (i + 1) h' → IsTupOf2 h' s.heap.objs.size x1 x2 → h'.objs.size = s.heap.objs.size + 1 →
      (∀ c o, c ≠ z → c ≠ TO → c ≠ i1 → c ≠ i2 → s.heap.get? c = some o → h'.get? c = some o) → Q (.ref s.heap.objs.size) { s with heap := h', toks := tk }) :
    wpAny (model prog w) A (Builtin.«zip.__next__» ⟨[.ref z], []⟩) (fun fin s' => ∃ v, fin = .done (.ret v) ∧ Q v s') E s := by
  obtain ⟨hp, g, d, tk0, os⟩ := s
  obtain ⟨a1, a2, hTO⟩ := hTO
  show wpAny _ _ (field (.ref z) 2 >>= _) _ _ _
  refine wpAny_bind (wpAny_field hz rfl (x := .bool false) rfl ?_)
  show wpAny _ _ (field (.ref z) 3 >>= _) _ _ _
  refine wpAny_bind (wpAny_field hz rfl (x := .ref TI) rfl (wpAny_bind (wpAny_seqItems hTI rfl ?_)))
  show wpAny _ _ (Builtin.SmallTypes.ownedTupleIsFree (.ref z) >>= _) _ _ _
  refine wpAny_bind (free_zip hz hv fun b g0 f0 hz0 hs0 => ?_)
  replace hs0 : Heap.SameBut z hp g0 := hs0
  cases b with
  | true =>
    simp only [if_true]
    refine wpAny_bind (wpAny_rule (wpAny_bind (wpAny_field hz0 rfl (x := .ref TO) rfl (wpAny_bind (set0 hz0 fun g1 hz1 hs1 => ?_)))))
    replace hs1 : Heap.SameBut z g0 g1 := hs1
    have k01 : ∀ c o, c ≠ z → hp.get? c = some o → g1.get? c = some o := fun c o n e => hs1.extBut _ _ n (hs0.extBut _ _ n e)
    refine wpAny_bind ?_
    simp only [List.zipIdx_cons, List.zipIdx_nil, List.forIn_cons, List.forIn_nil]
    refine wpAny_bind (wpAny_bind (wpAny_onRaise ?_))
    show wpAny _ _ (Builtin.SmallTypes.nextOf (.ref i1) >>= _) _ _ ⟨g1, g, d, tk0, os⟩
    refine wpAny_bind (D1.item i _ _ _ l1 (D1.over (D1.over st1 hs0 S.zf1) hs1 S.zf1) fun x1 p1 tk1 hx1 sn1 hp1 => wpAny_pure ?_)
    replace hp1 : Heap.SameBut i1 g1 p1 := hp1
    have hU1 : IsTupOf2 p1 TO a1 a2 := hp1.extBut _ _ S.Ti1 (k01 _ _ S.TOz hTO)
    refine wpAny_bind (wpAny_seqItems (s := ⟨p1, g, d, tk1, os⟩) hU1 rfl (wpAny_bind (updateSeq_IsTupOf2 (s := ⟨p1, g, d, tk1, os⟩) hU1 fun q1 hT1 hs2 => ?_)))
    replace hT1 : IsTupOf2 q1 TO x1 a2 := hT1
    replace hs2 : Heap.SameBut TO p1 q1 := hs2
    refine wpAny_bind (wpAny_letGo (wpAny_pure (wpAny_bind (wpAny_bind (wpAny_onRaise ?_)))))
    show wpAny _ _ (Builtin.SmallTypes.nextOf (.ref i2) >>= _) _ _ ⟨q1, g, d, tk1, os⟩
    refine wpAny_bind (D2.item i _ _ _ l2 (D2.over (D2.over (D2.over (D2.over st2 hs0 S.zf2) hs1 S.zf2) hp1 S.sep1_2) hs2 S.Tf2) fun x2 p2 tk2 hx2 sn2 hp2 => wpAny_pure ?_)
    replace hp2 : Heap.SameBut i2 q1 p2 := hp2
    have hU2 : IsTupOf2 p2 TO x1 a2 := hp2.extBut _ _ S.Ti2 hT1
    refine wpAny_bind (wpAny_seqItems (s := ⟨p2, g, d, tk2, os⟩) hU2 rfl (wpAny_bind (updateSeq_IsTupOf2 (s := ⟨p2, g, d, tk2, os⟩) hU2 fun q2 hT2 hs3 => ?_)))
    replace hT2 : IsTupOf2 q2 TO x1 x2 := hT2
    replace hs3 : Heap.SameBut TO p2 q2 := hs3
    refine wpAny_bind (wpAny_letGo (wpAny_pure (wpAny_pure ?_)))
    refine wpAny_bind (wpAny_seqItems (s := ⟨q2, g, d, tk2, os⟩) hT2 rfl (wpAny_bind (wpAny_newTuple ?_)))
    have hsz : q2.objs.size = hp.objs.size := by rw [hs3.1, hp2.1, hs2.1, hp1.1, hs1.1, hs0.1]
    have hzz : IsZ q2 z TI TO .ellipsis f0 := hs3.extBut _ _ S.TOz.symm (hp2.extBut _ _ S.zi2 (hs2.extBut _ _ S.TOz.symm (hp1.extBut _ _ S.zi1 hz1)))
    have hkk : ∀ c o, c ≠ z → c ≠ TO → c ≠ i1 → c ≠ i2 → hp.get? c = some o → q2.get? c = some o := fun c o cz cT c1 c2 e =>
      hs3.extBut _ _ cT (hp2.extBut _ _ c2 (hs2.extBut _ _ cT (hp1.extBut _ _ c1 (k01 _ _ cz e))))
    have hj1 : St1 (i + 1) q2 := D1.over (D1.over (D1.over sn1 hs2 S.Tf1) hp2 S.sep2_1) hs3 S.Tf1
    have hj2 : St2 (i + 1) q2 := D2.over sn2 hs3 S.Tf2
    have hzlt : z < q2.objs.size := Heap.lt_size hzz
    show wpAny _ _ (Builtin.SmallTypes.ownedTupleHandOut (.ref z) (.ref q2.objs.size) >>= _) _ _ ⟨q2.push { cls := .type "tuple", data := .seq #[x1, x2] }, g, d, tk2, os⟩
    refine wpAny_bind ?_
    unfold Builtin.SmallTypes.ownedTupleHandOut
    refine wpAny_bind (set0 (f := f0) (Heap.get?_push_of_some _ hzz) fun h₇ hz₇ hs₇ => ?_)
    replace hz₇ : IsZ h₇ z TI TO (rawInt q2.objs.size) f0 := hz₇
    refine wpAny_setField_rec hz₇ (by simp) fun h₈ hz₈ hs₈ => ?_
    replace hz₈ : IsZ h₈ z TI TO (rawInt q2.objs.size) false := hz₈
    replace hs₇ : Heap.SameBut z (q2.push { cls := .type "tuple", data := .seq #[x1, x2] }) h₇ := hs₇
    replace hs₈ : Heap.SameBut z h₇ h₈ := hs₈
    have up : ∀ c o, c ≠ z → q2.get? c = some o → h₈.get? c = some o := fun c o c1 e => hs₈.extBut _ _ c1 (hs₇.extBut _ _ c1 (Heap.get?_push_of_some _ e))
    have hT₈ : IsTupOf2 h₈ q2.objs.size x1 x2 := hs₈.extBut _ _ (Nat.ne_of_gt hzlt) (hs₇.extBut _ _ (Nat.ne_of_gt hzlt) (Heap.get?_push_size _ rfl))
    have hz8 : h₈.objs.size = q2.objs.size + 1 := by rw [hs₈.1, hs₇.1, Heap.size_push]
    rw [hsz] at hz₈ hT₈ hz8
    refine wpAny_pure ⟨_, rfl, ?_⟩
    show Q (.ref q2.objs.size) ⟨h₈, g, d, tk2, os⟩
    rw [hsz]
    exact hQ x1 x2 h₈ tk2 hx1 hx2 ⟨_, _, hz₈, .inr ⟨_, rfl⟩⟩ ⟨_, _, up _ _ S.TOz hT2⟩ (D1.frame _ _ _ hj1 fun b hb o e => up b o (fun q => S.zf1 (q ▸ hb)) e) (D2.frame _ _ _ hj2 fun b hb o e => up b o (fun q => S.zf2 (q ▸ hb)) e) hT₈ hz8
      fun c o cz cT c1 c2 e => up c o cz (hkk c o cz cT c1 c2 e)
  | false =>
    simp only [Bool.false_eq_true, if_false]
    refine wpAny_bind ?_
    rw [← Array.forIn_toList]
    simp only [List.forIn_cons, List.forIn_nil]
    refine wpAny_bind (wpAny_bind (wpAny_holding ?_))
    show wpAny _ _ (Builtin.SmallTypes.nextOf (.ref i1) >>= _) _ _ ⟨g0, g, d, tk0, os⟩
    refine wpAny_bind (D1.item i _ _ _ l1 (D1.over st1 hs0 S.zf1) fun x1 p1 tk1 hx1 sn1 hp1 => wpAny_pure (wpAny_pure ?_))
    replace hp1 : Heap.SameBut i1 g0 p1 := hp1
    refine wpAny_bind (wpAny_bind (wpAny_holding ?_))
    show wpAny _ _ (Builtin.SmallTypes.nextOf (.ref i2) >>= _) _ _ ⟨p1, g, d, tk1, os⟩
    refine wpAny_bind (D2.item i _ _ _ l2 (D2.over (D2.over st2 hs0 S.zf2) hp1 S.sep1_2) fun x2 p2 tk2 hx2 sn2 hp2 => wpAny_pure (wpAny_pure (wpAny_pure ?_)))
    replace hp2 : Heap.SameBut i2 p1 p2 := hp2
    show wpAny _ _ (newTuple [x1, x2] >>= _) _ _ ⟨p2, g, d, tk2, os⟩
    refine wpAny_bind (wpAny_newTuple ?_)
    have hsz : p2.objs.size = hp.objs.size := by rw [hp2.1, hp1.1, hs0.1]
    have hk : ∀ c o, c ≠ z → c ≠ i1 → c ≠ i2 → hp.get? c = some o → p2.get? c = some o := fun c o c1 c2 c3 e => hp2.extBut _ _ c3 (hp1.extBut _ _ c2 (hs0.extBut _ _ c1 e))
    have hz3 : IsZ p2 z TI TO v f0 := hp2.extBut _ _ S.zi2 (hp1.extBut _ _ S.zi1 hz0)
    have hp3 : IsTupOf2 (p2.push { cls := .type "tuple", data := .seq #[x1, x2] }) p2.objs.size x1 x2 := Heap.get?_push_size _ rfl
    have hz4 : (p2.push { cls := .type "tuple", data := .seq #[x1, x2] }).objs.size = p2.objs.size + 1 := Heap.size_push ..
    refine wpAny_pure ⟨_, rfl, ?_⟩
    show Q (.ref p2.objs.size) _
    rw [hsz] at hp3 hz4 ⊢
    exact hQ x1 x2 _ tk2 hx1 hx2 ⟨_, _, Heap.get?_push_of_some _ hz3, hv⟩ ⟨_, _, Heap.get?_push_of_some _ (hk _ _ S.TOz S.Ti1 S.Ti2 hTO)⟩ (D1.frame _ _ _ (D1.over sn1 hp2 S.sep2_1) fun b hb o e => Heap.get?_push_of_some _ e) (D2.frame _ _ _ sn2 fun b hb o e => Heap.get?_push_of_some _ e) hp3 hz4
      fun c o cz cT c1 c2 e => Heap.get?_push_of_some _ (hk c o cz c1 c2 e)
theorem zipZ_end {Q : Fin → Shared → Prop} (S : ZipSep2 z TI TO i1 i2 fp1 fp2) (D1 : Draws prog w A i1 fp1 n1 P1 St1) (D2 : Draws prog w A i2 fp2 n2 P2 St2)
    (hz : IsZ s.heap z TI TO v f) (hv : OutV v) (hTI : IsTupOf2 s.heap TI (.ref i1) (.ref i2)) (hTO : ∃ a1 a2, IsTupOf2 s.heap TO a1 a2) (st1 : St1 i s.heap) (st2 : St2 i s.heap) (l1 : i ≤ n1) (l2 : i ≤ n2) (hend : i = n1 ∨ i = n2)
    (hE : ∀ h' tk e, (∀ c o, c ≠ z → c ≠ TO → c ≠ i1 → c ≠ i2 → s.heap.get? c = some o → h'.get? c = some o) → (∃ o, h'.get? e = some o ∧ o.cls = .type "StopIteration") → E (.ref e) { s with heap := h', toks := tk }) :
    wpAny (model prog w) A (Builtin.«zip.__next__» ⟨[.ref z], []⟩) Q E s := by
  obtain ⟨hp, g, d, tk0, os⟩ := s
  obtain ⟨a1, a2, hTO⟩ := hTO
  show wpAny _ _ (field (.ref z) 2 >>= _) _ _ _
  refine wpAny_bind (wpAny_field hz rfl (x := .bool false) rfl ?_)
  show wpAny _ _ (field (.ref z) 3 >>= _) _ _ _
  refine wpAny_bind (wpAny_field hz rfl (x := .ref TI) rfl (wpAny_bind (wpAny_seqItems hTI rfl ?_)))
  show wpAny _ _ (Builtin.SmallTypes.ownedTupleIsFree (.ref z) >>= _) _ _ _
  refine wpAny_bind (free_zip hz hv fun b g0 f0 hz0 hs0 => ?_)
  replace hs0 : Heap.SameBut z hp g0 := hs0
  cases b with
  | true =>
    simp only [if_true]
    refine wpAny_bind (wpAny_rule (wpAny_bind (wpAny_field hz0 rfl (x := .ref TO) rfl (wpAny_bind (set0 hz0 fun g1 hz1 hs1 => ?_)))))
    replace hs1 : Heap.SameBut z g0 g1 := hs1
    replace hz1 : IsZ g1 z TI TO .ellipsis f0 := hz1
    have k01 : ∀ c o, c ≠ z → hp.get? c = some o → g1.get? c = some o := fun c o n e => hs1.extBut _ _ n (hs0.extBut _ _ n e)
    have fin : ∀ (q : Heap) (tk : Tok) (e : Addr), IsZ q z TI TO .ellipsis f0 → (∀ c o, c ≠ z → c ≠ TO → c ≠ i1 → c ≠ i2 → hp.get? c = some o → q.get? c = some o) → (∃ o, q.get? e = some o ∧ o.cls = .type "StopIteration") →
        wpAny (model prog w) A (setField (.ref z) 0 .none) (fun _ s' => E (.ref e) s') E ⟨q, g, d, tk, os⟩ := fun q tk e hzq hk he => by
      obtain ⟨oe, hoe, hce⟩ := he
      have hez : e ≠ z := fun x => by subst x; rw [hzq] at hoe; cases hoe; simp at hce
      refine set0 (s := ⟨q, g, d, tk, os⟩) hzq fun q' _ hq' => ?_
      replace hq' : Heap.SameBut z q q' := hq'
      exact hE q' tk e (fun c o cz cT c1 c2 x => hq'.extBut _ _ cz (hk c o cz cT c1 c2 x)) ⟨oe, hq'.extBut _ _ hez hoe, hce⟩
    refine wpAny_bind ?_
    simp only [List.zipIdx_cons, List.zipIdx_nil, List.forIn_cons, List.forIn_nil]
    refine wpAny_bind (wpAny_bind (wpAny_onRaise ?_))
    show wpAny _ _ (Builtin.SmallTypes.nextOf (.ref i1) >>= _) _ _ ⟨g1, g, d, tk0, os⟩
    by_cases hlt1 : i < n1
    · refine wpAny_bind (D1.item i _ _ _ hlt1 (D1.over (D1.over st1 hs0 S.zf1) hs1 S.zf1) fun x1 p1 tk1 hx1 sn1 hp1 => wpAny_pure ?_)
      replace hp1 : Heap.SameBut i1 g1 p1 := hp1
      have hU1 : IsTupOf2 p1 TO a1 a2 := hp1.extBut _ _ S.Ti1 (k01 _ _ S.TOz hTO)
      refine wpAny_bind (wpAny_seqItems (s := ⟨p1, g, d, tk1, os⟩) hU1 rfl (wpAny_bind (updateSeq_IsTupOf2 (s := ⟨p1, g, d, tk1, os⟩) hU1 fun q1 hT1 hs2 => ?_)))
      replace hs2 : Heap.SameBut TO p1 q1 := hs2
      refine wpAny_bind (wpAny_letGo (wpAny_pure (wpAny_bind (wpAny_bind (wpAny_onRaise ?_)))))
      show wpAny _ _ (Builtin.SmallTypes.nextOf (.ref i2) >>= _) _ _ ⟨q1, g, d, tk1, os⟩
      have hi2 : i = n2 := by omega
      refine wpAny_bind (D2.done ⟨q1, g, d, tk1, os⟩ _ _ (by rw [← hi2]; exact D2.over (D2.over (D2.over (D2.over st2 hs0 S.zf2) hs1 S.zf2) hp1 S.sep1_2) hs2 S.Tf2) fun q e hq he => ?_)
      replace hq : Heap.ExtBut i2 q1 q := hq
      exact fin q tk1 e (hq _ _ S.zi2 (hs2.extBut _ _ S.TOz.symm (hp1.extBut _ _ S.zi1 hz1))) (fun c o cz cT c1 c2 x => hq _ _ c2 (hs2.extBut _ _ cT (hp1.extBut _ _ c1 (k01 _ _ cz x)))) he
    · have hi1 : i = n1 := by omega
      refine wpAny_bind (D1.done ⟨g1, g, d, tk0, os⟩ _ _ (by rw [← hi1]; exact D1.over (D1.over st1 hs0 S.zf1) hs1 S.zf1) fun q e hq he => ?_)
      replace hq : Heap.ExtBut i1 g1 q := hq
      exact fin q tk0 e (hq _ _ S.zi1 hz1) (fun c o cz cT c1 c2 x => hq _ _ c1 (k01 _ _ cz x)) he
  | false =>
    simp only [Bool.false_eq_true, if_false]
    refine wpAny_bind ?_
    rw [← Array.forIn_toList]
    simp only [List.forIn_cons, List.forIn_nil]
    refine wpAny_bind (wpAny_bind (wpAny_holding ?_))
    show wpAny _ _ (Builtin.SmallTypes.nextOf (.ref i1) >>= _) _ _ ⟨g0, g, d, tk0, os⟩
    by_cases hlt1 : i < n1
    · refine wpAny_bind (D1.item i _ _ _ hlt1 (D1.over st1 hs0 S.zf1) fun x1 p1 tk1 hx1 sn1 hp1 => wpAny_pure (wpAny_pure ?_))
      replace hp1 : Heap.SameBut i1 g0 p1 := hp1
      refine wpAny_bind (wpAny_bind (wpAny_holding ?_))
      show wpAny _ _ (Builtin.SmallTypes.nextOf (.ref i2) >>= _) _ _ ⟨p1, g, d, tk1, os⟩
      have hi2 : i = n2 := by omega
      refine wpAny_bind (D2.done ⟨p1, g, d, tk1, os⟩ _ _ (by rw [← hi2]; exact D2.over (D2.over st2 hs0 S.zf2) hp1 S.sep1_2) fun q e hq he => ?_)
      replace hq : Heap.ExtBut i2 p1 q := hq
      exact hE q tk1 e (fun c o cz _ c1 c2 x => hq _ _ c2 (hp1.extBut _ _ c1 (hs0.extBut _ _ cz x))) he
    · have hi1 : i = n1 := by omega
      refine wpAny_bind (D1.done ⟨g0, g, d, tk0, os⟩ _ _ (by rw [← hi1]; exact D1.over st1 hs0 S.zf1) fun q e hq he => ?_)
      replace hq : Heap.ExtBut i1 g0 q := hq
      exact hE q tk0 e (fun c o cz _ c1 _ x => hq _ _ c1 (hs0.extBut _ _ cz x)) he
/-- as an iterator within another one asks it -/
theorem nextZ_item {Q : Value → Shared → Prop} (S : ZipSep2 z TI TO i1 i2 fp1 fp2) (D1 : Draws prog w A.in1 i1 fp1 n1 P1 St1) (D2 : Draws prog w A.in1 i2 fp2 n2 P2 St2)
    (hz : IsZ s.heap z TI TO v f) (hv : OutV v) (hTI : IsTupOf2 s.heap TI (.ref i1) (.ref i2)) (hTO : ∃ a1 a2, IsTupOf2 s.heap TO a1 a2) (st1 : St1 i s.heap) (st2 : St2 i s.heap) (l1 : i < n1) (l2 : i < n2)
    (hQ : ∀ x1 x2 h' tk, P1 i x1 → P2 i x2 → (∃ v' f', IsZ h' z TI TO v' f' ∧ OutV v') → (∃ a1 a2, IsTupOf2 h' TO a1 a2) → St1 (i + 1) h' → St2 (i + 1) h' → IsTupOf2 h' s.heap.objs.size x1 x2 → h'.objs.size = s.heap.objs.size + 1 →
      (∀ c o, c ≠ z → c ≠ TO → c ≠ i1 → c ≠ i2 → s.heap.get? c = some o → h'.get? c = some o) → Q (.ref s.heap.objs.size) { s with heap := h', toks := tk }) :
    wpAny (model prog w) A (Builtin.SmallTypes.nextOf (.ref z)) Q E s := by
  have hT : s.TypeIs (.ref z) "zip" := ⟨_, hz, rfl⟩
  unfold Builtin.SmallTypes.nextOf
  exact wpAny_bind (wpAny_callSpecial?_slot (name := Str.ofString "__next__") hT F.slot_zip_next (wpAny_call_entry F.slot_zip_next hT F.entry_zip_next
    (zipZ_item S D1 D2 hz hv hTI hTO st1 st2 l1 l2 fun x1 x2 h' tk b1 b2 b3 b4 b5 b6 b7 b8 b9 => wpAny_pure (hQ x1 x2 h' tk b1 b2 b3 b4 b5 b6 b7 b8 b9)) (F.args_zip_next_1 _)))
theorem nextZ_end {Q : Value → Shared → Prop} (S : ZipSep2 z TI TO i1 i2 fp1 fp2) (D1 : Draws prog w A.in1 i1 fp1 n1 P1 St1) (D2 : Draws prog w A.in1 i2 fp2 n2 P2 St2)
    (hz : IsZ s.heap z TI TO v f) (hv : OutV v) (hTI : IsTupOf2 s.heap TI (.ref i1) (.ref i2)) (hTO : ∃ a1 a2, IsTupOf2 s.heap TO a1 a2) (st1 : St1 i s.heap) (st2 : St2 i s.heap) (l1 : i ≤ n1) (l2 : i ≤ n2) (hend : i = n1 ∨ i = n2)
    (hE : ∀ h' tk e, (∀ c o, c ≠ z → c ≠ TO → c ≠ i1 → c ≠ i2 → s.heap.get? c = some o → h'.get? c = some o) → (∃ o, h'.get? e = some o ∧ o.cls = .type "StopIteration") → E (.ref e) { s with heap := h', toks := tk }) :
    wpAny (model prog w) A (Builtin.SmallTypes.nextOf (.ref z)) Q E s := by
  have hT : s.TypeIs (.ref z) "zip" := ⟨_, hz, rfl⟩
  unfold Builtin.SmallTypes.nextOf
  exact wpAny_bind (wpAny_callSpecial?_slot (name := Str.ofString "__next__") hT F.slot_zip_next (wpAny_call_entry F.slot_zip_next hT F.entry_zip_next
    (zipZ_end S D1 D2 hz hv hTI hTO st1 st2 l1 l2 hend hE) (F.args_zip_next_1 _)))
structure EnumSep (e z TI TO i1 i2 : Addr) (fp1 fp2 : List Addr) : Prop extends ZipSep2 z TI TO i1 i2 fp1 fp2 where
  ez : e ≠ z
  eTI : e ≠ TI
  eTO : e ≠ TO
  e1 : e ∉ fp1
  e2 : e ∉ fp2
theorem EnumSep.ei1 {e : Addr} (S : EnumSep e z TI TO i1 i2 fp1 fp2) : e ≠ i1 := fun q => S.e1 (q ▸ S.mem1)
theorem EnumSep.ei2 {e : Addr} (S : EnumSep e z TI TO i1 i2 fp1 fp2) : e ≠ i2 := fun q => S.e2 (q ▸ S.mem2)
theorem enumZ_item {e : Addr} {c : Int} {old : Value} {Q : Value → Shared → Prop} (S : EnumSep e z TI TO i1 i2 fp1 fp2) (D1 : Draws prog w A.in1 i1 fp1 n1 P1 St1) (D2 : Draws prog w A.in1 i2 fp2 n2 P2 St2) (he : IsEnum s.heap e z c old)
    (hz : IsZ s.heap z TI TO v f) (hv : OutV v) (hTI : IsTupOf2 s.heap TI (.ref i1) (.ref i2)) (hTO : ∃ a1 a2, IsTupOf2 s.heap TO a1 a2) (st1 : St1 i s.heap) (st2 : St2 i s.heap) (l1 : i < n1) (l2 : i < n2)
    (hQ : ∀ x1 x2 h' tk, P1 i x1 → P2 i x2 → IsEnumOut h' e z (c + 1) (.ref s.heap.objs.size) (s.heap.objs.size + 1) → (∃ v' f', IsZ h' z TI TO v' f' ∧ OutV v') → (∃ a1 a2, IsTupOf2 h' TO a1 a2) → St1 (i + 1) h' → St2 (i + 1) h' →
      IsTupOf2 h' s.heap.objs.size x1 x2 → IsTupOf2 h' (s.heap.objs.size + 1) (.int c tk) (.ref s.heap.objs.size) → h'.objs.size = s.heap.objs.size + 2 →
      (∀ b o, b ≠ e → b ≠ z → b ≠ TO → b ≠ i1 → b ≠ i2 → s.heap.get? b = some o → h'.get? b = some o) → Q (.ref (s.heap.objs.size + 1)) { s with heap := h', toks := tk + 1 }) :
    wpAny (model prog w) A (Builtin.«enumerate.__next__» ⟨[.ref e], []⟩) (fun fin s' => ∃ v, fin = .done (.ret v) ∧ Q v s') E s := by
  obtain ⟨hp, g, d, tk₀, os⟩ := s
  show wpAny _ _ (field (.ref e) 2 >>= _) _ _ _
  refine wpAny_bind (wpAny_field he rfl (x := .ref z) rfl (wpAny_bind (nextZ_item S.toZipSep2 D1 D2 hz hv hTI hTO st1 st2 l1 l2 fun x1 x2 h₁ tk p1 p2 hz1 hO1 q1 q2 hP hsz hk => ?_)))
  have hel : e < hp.objs.size := Heap.lt_size he
  have he₁ : IsEnum h₁ e z c old := hk _ _ S.ez S.eTO S.ei1 S.ei2 he
  show wpAny _ _ (field (.ref e) 3 >>= _) _ _ ⟨h₁, g, d, tk, os⟩
  refine wpAny_bind (wpAny_field he₁ rfl (x := rawInt c) rfl ?_)
  show wpAny _ _ (field (.ref e) 4 >>= _) _ _ ⟨h₁, g, d, tk, os⟩
  refine wpAny_bind (wpAny_field he₁ rfl (x := .none) rfl ?_)
  show wpAny _ _ (mkInt c >>= _) _ _ ⟨h₁, g, d, tk, os⟩
  refine wpAny_bind (wpAny_mkInt ?_)
  show wpAny _ _ (setField (.ref e) 3 (rawInt (c + 1)) >>= _) _ _ ⟨h₁, g, d, tk + 1, os⟩
  refine wpAny_bind (wpAny_setField_rec he₁ (by simp) fun h₂ he₂ hs₂ => ?_)
  replace hs₂ : Heap.SameBut e h₁ h₂ := hs₂
  replace he₂ : IsEnum h₂ e z (c + 1) old := he₂
  show wpAny _ _ (setField (.ref e) 4 .none >>= _) _ _ ⟨h₂, g, d, tk + 1, os⟩
  refine wpAny_bind (wpAny_setField_rec he₂ (by simp) fun h₃ he₃ hs₃ => ?_)
  replace hs₃ : Heap.SameBut e h₂ h₃ := hs₃
  replace he₃ : IsEnum h₃ e z (c + 1) old := he₃
  show wpAny _ _ (newTuple [.int c tk, .ref hp.objs.size] >>= _) _ _ ⟨h₃, g, d, tk + 1, os⟩
  refine wpAny_bind (wpAny_newTuple ?_)
  have n₃ : h₃.objs.size = hp.objs.size + 1 := by rw [hs₃.1, hs₂.1, hsz]
  have up₃ : ∀ b o, b ≠ e → h₁.get? b = some o → h₃.get? b = some o := fun b o n x => hs₃.extBut _ _ n (hs₂.extBut _ _ n x)
  have he₄ : IsEnum (h₃.push { cls := .type "tuple", data := .seq #[.int c tk, .ref hp.objs.size] }) e z (c + 1) old := Heap.get?_push_of_some _ he₃
  have hT₄ : IsTupOf2 (h₃.push { cls := .type "tuple", data := .seq #[.int c tk, .ref hp.objs.size] }) (hp.objs.size + 1) (.int c tk) (.ref hp.objs.size) := by rw [← n₃]; exact Heap.get?_push_size _ rfl
  have n₄ : (h₃.push { cls := .type "tuple", data := .seq #[.int c tk, .ref hp.objs.size] }).objs.size = hp.objs.size + 2 := by rw [Heap.size_push, n₃]
  have up₄ : ∀ b o, b ≠ e → h₁.get? b = some o → (h₃.push { cls := .type "tuple", data := .seq #[.int c tk, .ref hp.objs.size] }).get? b = some o := fun b o n x => Heap.get?_push_of_some _ (up₃ b o n x)
  generalize h₃.push { cls := .type "tuple", data := .seq #[.int c tk, .ref hp.objs.size] } = h₄ at he₄ hT₄ n₄ up₄ ⊢
  show wpAny _ _ (Builtin.SmallTypes.ownedTupleIsFree (.ref e) >>= _) _ _ ⟨h₄, g, d, tk + 1, os⟩
  rw [n₃]
  refine wpAny_bind ?_
  unfold Builtin.SmallTypes.ownedTupleIsFree
  refine wpAny_bind (wpAny_field he₄ rfl (x := .none) rfl (wpAny_pure ?_))
  simp only [if_true]
  refine wpAny_bind (wpAny_rule (wpAny_bind (wpAny_field he₄ rfl (x := old) rfl (wpAny_bind (wpAny_setField_rec he₄ (by simp) fun h₅ he₅ hs₅ => ?_)))))
  replace hs₅ : Heap.SameBut e h₄ h₅ := hs₅
  replace he₅ : IsEnum h₅ e z (c + 1) (.ref hp.objs.size) := he₅
  show wpAny _ _ (Builtin.SmallTypes.ownedTupleHandOut (.ref e) (.ref (hp.objs.size + 1)) >>= _) _ _ ⟨h₅, g, d, tk + 1, os⟩
  refine wpAny_bind ?_
  unfold Builtin.SmallTypes.ownedTupleHandOut
  refine wpAny_bind (wpAny_setField_rec he₅ (by simp) fun h₆ he₆ hs₆ => ?_)
  replace hs₆ : Heap.SameBut e h₅ h₆ := hs₆
  replace he₆ : IsEnumOut h₆ e z (c + 1) (.ref hp.objs.size) (hp.objs.size + 1) := he₆
  refine wpAny_setField_rec he₆ (by simp) fun h₇ he₇ hs₇ => ?_
  replace hs₇ : Heap.SameBut e h₆ h₇ := hs₇
  replace he₇ : IsEnumOut h₇ e z (c + 1) (.ref hp.objs.size) (hp.objs.size + 1) := he₇
  have n₇ : h₇.objs.size = hp.objs.size + 2 := by rw [hs₇.1, hs₆.1, hs₅.1, n₄]
  have up : ∀ b o, b ≠ e → h₄.get? b = some o → h₇.get? b = some o := fun b o n x => hs₇.extBut _ _ n (hs₆.extBut _ _ n (hs₅.extBut _ _ n x))
  have all : ∀ b o, b ≠ e → h₁.get? b = some o → h₇.get? b = some o := fun b o n x => up b o n (up₄ b o n x)
  obtain ⟨v', f', hz1, hv1⟩ := hz1
  obtain ⟨a1, a2, hO1⟩ := hO1
  exact wpAny_bind (wpAny_letGo (wpAny_pure ⟨_, rfl, hQ x1 x2 h₇ tk p1 p2 he₇ ⟨v', f', all _ _ (Ne.symm S.ez) hz1, hv1⟩ ⟨a1, a2, all _ _ (Ne.symm S.eTO) hO1⟩
    (D1.frame _ _ _ q1 fun b hb o x => all b o (fun q => S.e1 (q ▸ hb)) x) (D2.frame _ _ _ q2 fun b hb o x => all b o (fun q => S.e2 (q ▸ hb)) x) (all _ _ (Nat.ne_of_gt hel) hP) (up _ _ (Nat.ne_of_gt (Nat.lt_succ_of_lt hel)) hT₄) n₇
    fun b o n1 n2 n3 n4 n5 x => all b o n1 (hk b o n2 n3 n4 n5 x)⟩))
theorem enumZ_end {e : Addr} {c : Int} {old : Value} {Q : Option Value → Shared → Prop} (S : EnumSep e z TI TO i1 i2 fp1 fp2) (D1 : Draws prog w A.in1.in1 i1 fp1 n1 P1 St1) (D2 : Draws prog w A.in1.in1 i2 fp2 n2 P2 St2) (he : IsEnum s.heap e z c old)
    (hz : IsZ s.heap z TI TO v f) (hv : OutV v) (hTI : IsTupOf2 s.heap TI (.ref i1) (.ref i2)) (hTO : ∃ a1 a2, IsTupOf2 s.heap TO a1 a2) (st1 : St1 i s.heap) (st2 : St2 i s.heap) (l1 : i ≤ n1) (l2 : i ≤ n2) (hend : i = n1 ∨ i = n2)
    (hQ : ∀ h' tk, (∀ c o, c ≠ z → c ≠ TO → c ≠ i1 → c ≠ i2 → s.heap.get? c = some o → h'.get? c = some o) → Q none { s with heap := h', toks := tk }) : wpAny (model prog w) A (pyNext (.ref e)) Q E s := by
  have hT : s.TypeIs (.ref e) "enumerate" := ⟨_, he, rfl⟩
  unfold pyNext
  refine wpAny_bind (wpAny_attempt (wpAny_callSpecial?_slot (name := Str.ofString "__next__") hT F.slot_enumerate_next (wpAny_call_entry F.slot_enumerate_next hT F.entry_enumerate_next ?_ (F.args_enumerate_next_1 _))))
  show wpAny _ _ (field (.ref e) 2 >>= _) _ _ _
  refine wpAny_bind (wpAny_field he rfl (x := .ref z) rfl (wpAny_bind (nextZ_end S.toZipSep2 D1 D2 hz hv hTI hTO st1 st2 l1 l2 hend fun h' tk x hk hx => ?_)))
  obtain ⟨o, ho, hc⟩ := hx
  exact wpAny_bind (wpAny_isInstance (T := "StopIteration") (b := true) ⟨o, ho, hc⟩ isSubtype_stop (wpAny_pure (hQ _ _ hk)))
theorem enumZ_next {e : Addr} {c : Int} {old : Value} {Q : Option Value → Shared → Prop} (S : EnumSep e z TI TO i1 i2 fp1 fp2) (D1 : Draws prog w A.in1.in1 i1 fp1 n1 P1 St1) (D2 : Draws prog w A.in1.in1 i2 fp2 n2 P2 St2) (he : IsEnum s.heap e z c old)
    (hz : IsZ s.heap z TI TO v f) (hv : OutV v) (hTI : IsTupOf2 s.heap TI (.ref i1) (.ref i2)) (hTO : ∃ a1 a2, IsTupOf2 s.heap TO a1 a2) (st1 : St1 i s.heap) (st2 : St2 i s.heap) (l1 : i < n1) (l2 : i < n2)
    (hQ : ∀ x1 x2 h' tk, P1 i x1 → P2 i x2 → IsEnumOut h' e z (c + 1) (.ref s.heap.objs.size) (s.heap.objs.size + 1) → (∃ v' f', IsZ h' z TI TO v' f' ∧ OutV v') → (∃ a1 a2, IsTupOf2 h' TO a1 a2) → St1 (i + 1) h' → St2 (i + 1) h' →
      IsTupOf2 h' s.heap.objs.size x1 x2 → IsTupOf2 h' (s.heap.objs.size + 1) (.int c tk) (.ref s.heap.objs.size) → h'.objs.size = s.heap.objs.size + 2 →
      (∀ b o, b ≠ e → b ≠ z → b ≠ TO → b ≠ i1 → b ≠ i2 → s.heap.get? b = some o → h'.get? b = some o) → Q (some (.ref (s.heap.objs.size + 1))) { s with heap := h', toks := tk + 1 }) :
    wpAny (model prog w) A (pyNext (.ref e)) Q E s := by
  have hT : s.TypeIs (.ref e) "enumerate" := ⟨_, he, rfl⟩
  unfold pyNext
  exact wpAny_bind (wpAny_attempt (wpAny_callSpecial?_slot (name := Str.ofString "__next__") hT F.slot_enumerate_next (wpAny_call_entry F.slot_enumerate_next hT F.entry_enumerate_next
    (enumZ_item S D1 D2 he hz hv hTI hTO st1 st2 l1 l2 fun x1 x2 h' tk b1 b2 b3 b4 b5 b6 b7 b8 b9 b10 b11 => wpAny_pure (hQ x1 x2 h' tk b1 b2 b3 b4 b5 b6 b7 b8 b9 b10 b11)) (F.args_enumerate_next_1 _))))
end
set_option maxHeartbeats 1000000 in
theorem meets_enumZ (z TI TO : Addr) :
    Meets (Builtin.«enumerate.__new__» ⟨[.type "enumerate", .ref z], []⟩) (fun _ R s => IsZip s.heap z TI TO .none ∧
      R (.ok (.ret (.ref s.heap.objs.size))) { s with heap := s.heap.push { cls := .type "enumerate", data := .fields #[.none, .bool false, .ref z, rawInt 0, .none, .none] } }) :=
  .of_wp fun prog w A R s h => by
    obtain ⟨hp, g, d, tk, os⟩ := s
    obtain ⟨h1, h⟩ := h
    have hsub := sub_enumerate
    have q1 : ∀ {A' : Around} {E : Value → Shared → Prop} {Q : Value → Shared → Prop}, Q (.ref z) ⟨hp, g, d, tk, os⟩ → wpAny (model prog w) A' (pyIter (.ref z)) Q E ⟨hp, g, d, tk, os⟩ :=
      fun q => wpAny_pyIter_zip (s := ⟨hp, g, d, tk, os⟩) h1 q
    wp_walk using q1
    refine wpAny_stack_any fun st => wpAny_pure ?_
    split
    · rename_i c _ _ _ _ _
      cases (c == Value.type "enumerate")
      · wp_walk using q1
        exact ⟨_, rfl, h⟩
      · wp_walk using q1
        exact ⟨_, rfl, h⟩
    · wp_walk using q1
      exact ⟨_, rfl, h⟩
theorem call_enumZ {prog : Program} {w : World} {A : Around} {E : Value → Shared → Prop} {s : Shared} {z TI TO : Addr} {Q : Value → Shared → Prop} (hz : IsZip s.heap z TI TO .none)
    (h : ∀ h', IsEnum h' s.heap.objs.size z 0 .none → h'.objs.size = s.heap.objs.size + 1 → (∀ b o, s.heap.get? b = some o → h'.get? b = some o) → Q (.ref s.heap.objs.size) { s with heap := h' }) :
    wpAny (model prog w) A (call (.type "enumerate") [.ref z]) Q E s := by
  refine callType_new F.called_enumerate (by decide) (F.typeCall_enumerate_1 _) (F.newCall_enumerate_1 _) (fun obj => F.args_object_init_2 obj _) F.entry_enumerate_new (meets_enumZ z TI TO) ⟨hz, ?_⟩
  have he : IsEnum (s.heap.push { cls := .type "enumerate", data := .fields #[.none, .bool false, .ref z, rawInt 0, .none, .none] }) s.heap.objs.size z 0 .none := Heap.get?_push_size _ rfl
  exact ⟨⟨_, he, rfl⟩, h _ he (Heap.size_push ..) fun b o x => Heap.get?_push_of_some _ x⟩
end Kit

end
section
set_option Elab.async false
set_option linter.all false
set_option maxRecDepth 100000
set_option maxHeartbeats 4000000
namespace Kit
open PySem PySem.Spec PyProof.Rows L2
/-! ### for i, (a, b) in enumerate(zip(x, y)) -/
structure Dq (X : Cx) (H : Hp) (h : Heap) (sd : Sd) (it : Addr) (i : Nat) (xs : List V) : Prop where
  ex : ∃ (fp : List Addr) (P : Nat → Value → Prop) (St : Nat → Heap → Prop), Draws X.prog X.w X.A.in1.in1 it fp xs.length P St ∧ St i h ∧ it ∈ fp ∧ (∀ c ∈ fp, c = it ∨ H c ≠ none) ∧ (∀ j h', St j h' → sd.st h' it j) ∧ (∀ x u, P i u → xs[i]? = some x → RelV x u)
theorem dq_of {X : Cx} {pins : List (Addr × Obj)} {σ : St} {H : Hp} {s : Shared} {sd : Sd} {it : Addr} {i : Nat} {xs : List V} (hc : X.calm = true) (I : Inv X pins σ H s) (hn : H it = none) (hat : sd.at H xs) (st : sd.st s.heap it i) : Dq X H s.heap sd it i xs := by
  constructor
  cases sd with
  | L a =>
    have hat : H a = some (.lst xs) := hat
    obtain ⟨hzz, its, nn, rv, hl0⟩ := (show ObjOk X.prog X.w H s.heap a (.lst xs) from I.hok a _ hat)
    have hL : s.heap.IsList a its.toArray := ⟨_, hl0, rfl, nn, rfl⟩
    have hne : a ≠ it := fun q => by rw [q, hn] at hat; cases hat
    have hl : its.toArray.size = xs.length := by rw [List.size_toArray, rv.length]
    refine ⟨[it, a], _, _, hl ▸ Draws.list (A := X.A.in1.in1) (show X.A.in1.in1.handled = none from I.ok.hd hc) it a hne its.toArray, ⟨st, hL⟩, by simp, fun c hcm => ?_, fun j h' q => q.1, fun x u hu hx => ?_⟩
    · have e : c = it ∨ c = a := by simpa using hcm
      rcases e with e | e
      · exact .inl e
      · refine .inr ?_
        rw [e, hat]
        simp
    · obtain ⟨u', hu', ru⟩ := rv.get hx
      have z : its[i]? = some u := by simpa using hu
      rw [hu'] at z
      cases z
      exact ru
  | T x =>
    obtain ⟨t, st⟩ := st
    have hat : xs = signs x := hat
    have hl : x.cps.size = xs.length := by rw [hat, signs, List.length_map, Array.length_toList]
    refine ⟨[it], _, _, hl ▸ Draws.text (A := X.A.in1.in1) (show X.A.in1.in1.handled = none from I.ok.hd hc) it x t, st, by simp, fun c hcm => .inl (by simpa using hcm), fun j h' q => ⟨t, q⟩, fun y u hu hx => ?_⟩
    obtain ⟨c, tk, hc', rfl⟩ := hu
    rw [hat, signs, List.getElem?_map, Array.getElem?_toList, hc'] at hx
    cases hx
    exact ⟨tk, rfl⟩
structure Cells6 (e z TI TO i1 i2 : Addr) : Prop extends Cells z TI TO i1 i2 where
  ez : e ≠ z
  eTI : e ≠ TI
  eTO : e ≠ TO
  ei1 : e ≠ i1
  ei2 : e ≠ i2
theorem sep6 {H : Hp} {e z TI TO i1 i2 : Addr} {f1 f2 : List Addr} (C : Cells6 e z TI TO i1 i2) (hn : ∀ b ∈ [e, z, TI, TO, i1, i2], H b = none) (m1 : i1 ∈ f1) (m2 : i2 ∈ f2) (h1 : ∀ c ∈ f1, c = i1 ∨ H c ≠ none) (h2 : ∀ c ∈ f2, c = i2 ∨ H c ≠ none) :
    EnumSep e z TI TO i1 i2 f1 f2 where
  toZipSep2 := sep_of C.toCells (fun b hb => hn b (List.mem_cons_of_mem _ hb)) m1 m2 h1 h2
  ez := C.ez
  eTI := C.eTI
  eTO := C.eTO
  e1 := fun q => (h1 _ q).elim C.ei1 fun k => k (hn _ (by simp))
  e2 := fun q => (h2 _ q).elim C.ei2 fun k => k (hn _ (by simp))
/-- the pairs of both sides, each with its number, in two new tuples -/
def ItEZ (d1 d2 : Sd) : It :=
  ⟨fun i G => ∃ (xs ys : List V) (x y : V), d1.at G xs ∧ d2.at G ys ∧ xs[i]? = some x ∧ ys[i]? = some y,
    fun i G v G' => ∃ T U x y, v = .ref U ∧ G T = none ∧ G U = none ∧ T ≠ U ∧ G' = upd (upd G T (.tup [x, y])) U (.tup [.int (i : Nat), .ref T]) ∧ (∀ xs, d1.at G xs → xs[i]? = some x) ∧ ∀ ys, d2.at G ys → ys[i]? = some y,
    fun i G => ∃ xs ys : List V, d1.at G xs ∧ d2.at G ys ∧ i ≤ xs.length ∧ i ≤ ys.length ∧ (i = xs.length ∨ i = ys.length)⟩
theorem turn_EZ {P : Program} {w : World} {K : PySem.W.Frag} {elts : List Expr} {kk : Nat} {tpos : Pos} (d1 d2 : Sd) {e z TI TO i1 i2 : Addr} (C : Cells6 e z TI TO i1 i2) :
    Turn P w K (.Tuple elts kk tpos) (ItEZ d1 d2) [e, z, TI, TO, i1, i2] e (fun i h => (∃ old, IsEnum h e z ((i : Nat) : Int) old) ∧ (∃ v f, IsZ h z TI TO v f ∧ OutV v) ∧ IsTupOf2 h TI (.ref i1) (.ref i2) ∧ (∃ x y, IsTupOf2 h TO x y) ∧ d1.st h i1 i ∧ d2.st h i2 i) where
  mem := by simp
  obj := fun i h st c hc => by
    obtain ⟨⟨old, he⟩, ⟨v, f, hz, _⟩, hTI, ⟨x, y, hTO⟩, s1, s2⟩ := st
    have e' : c = e ∨ c = z ∨ c = TI ∨ c = TO ∨ c = i1 ∨ c = i2 := by simpa using hc
    rcases e' with q | q | q | q | q | q
    · rw [q]; exact ⟨_, he, fun v q => nomatch q⟩
    · rw [q]; exact ⟨_, hz, fun v q => nomatch q⟩
    · rw [q]; exact ⟨_, hTI, fun v q => nomatch q⟩
    · rw [q]; exact ⟨_, hTO, fun v q => nomatch q⟩
    · rw [q]; exact Sd.live s1
    · rw [q]; exact Sd.live s2
  keep := fun i h h' st k => by
    obtain ⟨⟨old, he⟩, ⟨v, f, hz, hv⟩, hTI, ⟨x, y, hTO⟩, s1, s2⟩ := st
    exact ⟨⟨old, k e (by simp) _ he⟩, ⟨v, f, k z (by simp) _ hz, hv⟩, k TI (by simp) _ hTI, ⟨x, y, k TO (by simp) _ hTO⟩, Sd.keep s1 fun o q => k i1 (by simp) o q, Sd.keep s2 fun o q => k i2 (by simp) o q⟩
  item := by
    intro X hP hw hK hc i pins s σ H E I hf st hg
    subst hP hw hK
    obtain ⟨⟨old, he⟩, ⟨v, f, hz, hv⟩, hTI, hTO, s1, s2⟩ := st
    obtain ⟨xs, ys, x, y, hqx, hqy, hx, hy⟩ := hg
    obtain ⟨f1, P1, St1, D1, t1, m1, u1, b1, r1⟩ := (dq_of hc I (hf i1 (by simp)).1 hqx s1).ex
    obtain ⟨f2, P2, St2, D2, t2, m2, u2, b2, r2⟩ := (dq_of hc I (hf i2 (by simp)).1 hqy s2).ex
    have SS := sep6 C (fun b hb => (hf b hb).1) m1 m2 u1 u2
    have hl1 := (List.getElem?_eq_some_iff.mp hx).1
    have hl2 := (List.getElem?_eq_some_iff.mp hy).1
    have lt : ∀ c ∈ [e, z, TI, TO, i1, i2], c < s.heap.objs.size := fun c hcm => by
      have e' : c = e ∨ c = z ∨ c = TI ∨ c = TO ∨ c = i1 ∨ c = i2 := by simpa using hcm
      obtain ⟨a1, a2, hTO⟩ := hTO
      rcases e' with q | q | q | q | q | q
      · rw [q]; exact Heap.lt_size he
      · rw [q]; exact Heap.lt_size hz
      · rw [q]; exact Heap.lt_size hTI
      · rw [q]; exact Heap.lt_size hTO
      · rw [q]; obtain ⟨_, e1, _⟩ := Sd.live s1; exact Heap.lt_size e1
      · rw [q]; obtain ⟨_, e2, _⟩ := Sd.live s2; exact Heap.lt_size e2
    refine enumZ_next SS D1 D2 he hz hv hTI hTO t1 t2 hl1 hl2 fun v1 v2 h' tk p1 p2 eo z' TO' t1' t2' hT hU hsz hk => ?_
    refine ⟨_, rfl, wpAny_letOwnedTupleGo_enum (s := { s with heap := h', toks := tk + 1 }) eo fun h'' e'' sb => ?_⟩
    have hel : e < s.heap.objs.size := lt e (by simp)
    have k2 : ∀ c o, c ∉ [e, z, TI, TO, i1, i2] → s.heap.get? c = some o → h''.get? c = some o := fun c o hb q =>
      (sb.2 c (fun q' => hb (by simp [q']))).trans (hk c o (fun q' => hb (by simp [q'])) (fun q' => hb (by simp [q'])) (fun q' => hb (by simp [q'])) (fun q' => hb (by simp [q'])) (fun q' => hb (by simp [q'])) q)
    have ru := r1 x v1 p1 hx
    have ru2 := r2 y v2 p2 hy
    have hT2 : IsTupOf2 h'' s.heap.objs.size v1 v2 := (sb.2 _ (Nat.ne_of_gt hel)).trans hT
    have hU2 : IsTupOf2 h'' (s.heap.objs.size + 1) (.int ((i : Nat) : Int) tk) (.ref s.heap.objs.size) := (sb.2 _ (Nat.ne_of_gt (Nat.lt_succ_of_lt hel))).trans hU
    have fT : H s.heap.objs.size = none := I.hok.fresh (Nat.le_refl _)
    have fU : H (s.heap.objs.size + 1) = none := I.hok.fresh (Nat.le_succ _)
    have nTU : s.heap.objs.size ≠ s.heap.objs.size + 1 := Nat.ne_of_lt (Nat.lt_succ_self _)
    -- the inner tuple first, in a heap of its own
    have hp1 : (s.heap.push { cls := .type "tuple", data := .seq #[v1, v2] }).get? s.heap.objs.size = some { cls := .type "tuple", data := .seq #[v1, v2] } := Heap.get?_push_size _ rfl
    have I1 : Inv X pins σ (upd H s.heap.objs.size (.tup [x, y])) { s with heap := s.heap.push { cls := .type "tuple", data := .seq #[v1, v2] }, toks := tk + 1 } :=
      I.laid (t' := tk + 1) (fun b o q => Heap.get?_push_of_some _ q) (Nat.le_refl _) ⟨by show 2 ≤ sizeLine; decide, [v1, v2], .cons ru (.cons ru2 .nil), ⟨_, hp1, rfl, _, rfl⟩⟩
    have hf1 : ∀ b ∈ [e, z, TI, TO, i1, i2], FpOk X pins (upd H s.heap.objs.size (.tup [x, y])) b := fun b hb => by
      obtain ⟨q0, q1, q2, q3, q4, q5⟩ := hf b hb
      exact ⟨by rw [upd_ne (Nat.ne_of_lt (lt b hb))]; exact q0, q1, q2, q3, q4, q5⟩
    have I2 : Inv X pins σ (upd (upd H s.heap.objs.size (.tup [x, y])) (s.heap.objs.size + 1) (.tup [.int (i : Nat), .ref s.heap.objs.size])) { s with heap := h'', toks := tk + 1 } := by
      refine I1.turnedNew (ch := [e, z, TI, TO, i1, i2]) (fun c o hb q => ?_) hf1 (by show (s.heap.push _).objs.size ≤ _; rw [Heap.size_push]; exact Nat.le_refl _) ⟨by show 2 ≤ sizeLine; decide, [.int ((i : Nat) : Int) tk, .ref s.heap.objs.size], .cons ⟨_, rfl⟩ (.cons rfl .nil), ⟨_, hU2, rfl, _, rfl⟩⟩
      by_cases hcT : c = s.heap.objs.size
      · subst hcT
        have q : (s.heap.push { cls := .type "tuple", data := .seq #[v1, v2] }).get? s.heap.objs.size = some o := q
        rw [hp1] at q
        cases q
        exact hT2
      · refine k2 c o hb ?_
        have q : (s.heap.push { cls := .type "tuple", data := .seq #[v1, v2] }).get? c = some o := q
        rw [Heap.get?_push_ne _ _ _ hcT] at q
        exact q
    refine ⟨.ref (s.heap.objs.size + 1), _, I2, rfl, ⟨_, _, x, y, rfl, fT, fU, nTU, rfl, fun l hl => by rw [Sd.inj hl hqx]; exact hx, fun l hl => by rw [Sd.inj hl hqy]; exact hy⟩, ⟨⟨.ref s.heap.objs.size, ?_⟩, ?_, ?_, ?_, ?_, ?_⟩, fun c hcm => ?_⟩
    · have e1 : ((i + 1 : Nat) : Int) = (i : Int) + 1 := by omega
      rw [e1]
      exact e''
    · obtain ⟨v', f', hz', hv'⟩ := z'
      exact ⟨v', f', (sb.2 _ (Ne.symm C.ez)).trans hz', hv'⟩
    · exact (sb.2 _ (Ne.symm C.eTI)).trans (hk _ _ (Ne.symm C.eTI) C.a1 C.a3 C.a4 C.a5 hTI)
    · obtain ⟨a1, a2, hO⟩ := TO'
      exact ⟨a1, a2, (sb.2 _ (Ne.symm C.eTO)).trans hO⟩
    · exact Sd.keep (b1 _ _ t1') fun o q => (sb.2 _ (Ne.symm C.ei1)).trans q
    · exact Sd.keep (b2 _ _ t2') fun o q => (sb.2 _ (Ne.symm C.ei2)).trans q
    · have := lt c hcm
      rw [upd_ne (Nat.ne_of_lt (Nat.lt_succ_of_lt this)), upd_ne (Nat.ne_of_lt this)]
      exact (hf c hcm).1
  done := by
    intro X hP hw hK hc i pins s σ H E I hf st hg
    subst hP hw hK
    obtain ⟨⟨old, he⟩, ⟨v, f, hz, hv⟩, hTI, hTO, s1, s2⟩ := st
    obtain ⟨xs, ys, hqx, hqy, hi1, hi2, hend⟩ := hg
    obtain ⟨f1, P1, St1, D1, t1, m1, u1, b1, r1⟩ := (dq_of hc I (hf i1 (by simp)).1 hqx s1).ex
    obtain ⟨f2, P2, St2, D2, t2, m2, u2, b2, r2⟩ := (dq_of hc I (hf i2 (by simp)).1 hqy s2).ex
    have SS := sep6 C (fun b hb => (hf b hb).1) m1 m2 u1 u2
    exact enumZ_end SS D1 D2 he hz hv hTI hTO t1 t2 hi1 hi2 hend fun h' tk hk => ⟨rfl, I.turnedL (t' := tk) (ch := [e, z, TI, TO, i1, i2]) (fun c o hb q =>
      hk c o (fun q' => hb (by simp [q'])) (fun q' => hb (by simp [q'])) (fun q' => hb (by simp [q'])) (fun q' => hb (by simp [q'])) q) hf⟩
  self := fun A i s Q E st h => let ⟨⟨_, he⟩, _⟩ := st; wpAny_pyIter_enum he h
/-- what such a turn gives -/
def YEZ (xs ys : List V) (i : Nat) (G : Hp) (v : V) (G' : Hp) : Prop := ∃ T U x y, v = .ref U ∧ G T = none ∧ G U = none ∧ T ≠ U ∧ G' = upd (upd G T (.tup [x, y])) U (.tup [.int (i : Nat), .ref T]) ∧ xs[i]? = some x ∧ ys[i]? = some y
theorem walk_EZ {d1 d2 : Sd} {xs ys : List V} {n : Nat} (hn : n = min xs.length ys.length) : Walk (ItEZ d1 d2) n (fun G => d1.at G xs ∧ d2.at G ys) (YEZ xs ys) := by
  subst hn
  refine ⟨fun i G hi q => ⟨xs, ys, xs[i], ys[i], q.1, q.2, List.getElem?_eq_getElem (by omega), List.getElem?_eq_getElem (by omega)⟩, fun G q => ⟨xs, ys, q.1, q.2, by omega, by omega, by omega⟩, ?_⟩
  rintro i G v G' hi q ⟨T, U, x, y, rfl, hT, hU, ne, rfl, hx, hy⟩
  exact ⟨T, U, x, y, rfl, hT, hU, ne, rfl, hx xs q.1, hy ys q.2⟩
theorem cells6_of (n : Nat) : Cells6 (n + 5) (n + 4) (n + 2) (n + 3) n (n + 1) where
  toCells := cells_of n
  ez := fun e : n + 5 = n + 4 => by omega
  eTI := fun e : n + 5 = n + 2 => by omega
  eTO := fun e : n + 5 = n + 3 => by omega
  ei1 := fun e : n + 5 = n => by omega
  ei2 := fun e : n + 5 = n + 1 => by omega
def iEnumZ (ta : TA) : TI := fun σ H R => ta σ H fun vs H1 => ∃ d1 d2 xs ys, vs = [Sd.v d1, Sd.v d2] ∧ d1.at H1 xs ∧ d2.at H1 ys ∧ R (ItEZ d1 d2) H1
theorem pi_enumZ {X : Cx} {e e2 : Expr} {ta : TA} {p pos p2 pos2 tpos : Pos} {elts : List Expr} {kk : Nat} (hg : Gl X "enumerate") (hm : X.mg "enumerate" = none) (hg2 : Gl X "zip") (hm2 : X.mg "zip" = none) (ha : PA X [e, e2] ta)
    (hs : starEach [e, e2] X.env = (false, eval e X.env) :: starEach [e2] X.env := by rfl) (hpl : (backTo pos2 (starEach [e2] X.env)).any (·.1) = false := by rfl)
    (hs0 : starEach [.Call (.Name "zip" p2) [e, e2] [] pos2] X.env = [(false, eval (.Call (.Name "zip" p2) [e, e2] [] pos2) X.env)] := by rfl) :
    PI X (.Tuple elts kk tpos) (.Call (.Name "enumerate" p) [.Call (.Name "zip" p2) [e, e2] [] pos2] [] pos) (iEnumZ ta) := by
  refine ⟨fun pins s σ H R I h => ?_⟩
  refine Call_ (ld_blt I hg hm boot_enumerate (PyProof.Rows.callWith_type1 ?_ (by rw [hs0]; rfl) rfl))
  rw [hs0]
  show wpAny _ _ (spliced [(false, eval (.Call (.Name "zip" p2) [e, e2] [] pos2) X.env)]) _ _ _
  refine Calls.spliced_cons ?_
  refine Call_ (ld_blt I hg2 hm2 PyProof.Rows.boot_zip (PyProof.Rows.callWith_type1 (thn (ha.run pos2 pins s σ H _ I h) fun us s1 ⟨vs, H1, I1, r1, q1⟩ => ?_) hs hpl))
  obtain ⟨d1, d2, xs, ys, ex, hqx, hqy, q⟩ := q1
  subst ex
  cases r1 with
  | cons r rr =>
    cases rr with
    | cons r' rr =>
      cases rr
      obtain ⟨o1, H1', B1, k1, c1⟩ := bg_of I1 r hqx
      obtain ⟨o2, H2', B2, k2, c2⟩ := bg_of I1 r' hqy
      refine zip_begins2 B1 B2 k1 k2 fun h' hz hTI hTO h1 h2 hsz hk => Calls.spliced_nil ?_
      refine call_enumZ (s := { s1 with heap := h' }) hz fun h3 he hsz3 hk3 => wpAny_pyIter_enum he ?_
      have I2 : Inv X pins σ H1 { s1 with heap := h3 } := I1.kept (t' := s1.toks) fun b o x => hk3 _ _ (hk _ _ x)
      have he : IsEnum h3 (s1.heap.objs.size + 5) (s1.heap.objs.size + 4) 0 .none := by rw [← hsz]; exact he
      have k3 : ∀ b o, h'.get? b = some o → h3.get? b = some o := hk3
      show PIE X pins σ _ R (.ref h'.objs.size) { s1 with heap := h3 }
      rw [hsz]
      refine ⟨s1.heap.objs.size + 5, [s1.heap.objs.size + 5, s1.heap.objs.size + 4, s1.heap.objs.size + 2, s1.heap.objs.size + 3, s1.heap.objs.size, s1.heap.objs.size + 1], _, _, H1, rfl, I2, turn_EZ d1 d2 (cells6_of _), ⟨⟨_, he⟩, ⟨_, _, k3 _ _ hz, .inl rfl⟩, k3 _ _ hTI, ⟨_, _, k3 _ _ hTO⟩, c1 _ _ (k3 _ _ h1), c2 _ _ (k3 _ _ h2)⟩, fun c hcm => ?_, q⟩
      have e' : c = s1.heap.objs.size + 5 ∨ c = s1.heap.objs.size + 4 ∨ c = s1.heap.objs.size + 2 ∨ c = s1.heap.objs.size + 3 ∨ c = s1.heap.objs.size ∨ c = s1.heap.objs.size + 1 := by simpa using hcm
      have hle : s1.heap.objs.size ≤ c := by
        rcases e' with z | z | z | z | z | z
        · rw [z]; exact Nat.le_add_right _ _
        · rw [z]; exact Nat.le_add_right _ _
        · rw [z]; exact Nat.le_add_right _ _
        · rw [z]; exact Nat.le_add_right _ _
        · rw [z]; exact Nat.le_refl _
        · rw [z]; exact Nat.le_add_right _ _
      exact I1.fpOk hle (I1.hok.fresh hle)
end Kit

end
section
set_option Elab.async false
set_option linter.all false
set_option maxRecDepth 100000
set_option maxHeartbeats 4000000
namespace Kit
open PySem PySem.Spec PyProof.Rows L2
/-! ### a class whose __init__ has keyword-only parameters with defaults: C(e, ..) and C(e, .., k = v, ..), all of them given -/
structure InitK (K : PySem.W.Frag) (C : Addr) (q : Str) (st : Stmt) (kws : List (Str × V)) : Prop where
  ex : ∃ (f : Addr) (fd : FuncData), FunD K "__init__" q (defArgs st) (defBody st) (defScope st) [] kws f fd ∧ Meth K C "__init__" f
section
variable (P : Program) (w : World) (K : PySem.W.Frag) (mg : Str → Option Value) (base : Heap)
structure CanNK (k : Nat) (C : Addr) (x : Str) (n : Nat) (kws : List (Str × V)) (sp : Sp) : Prop where
  ex : ∃ (f : Addr) (fd : FuncData) (ps : List Str) (ds : List Value) (g : List Value → List Value → List Value), FnOk P w K mg base (L2.CX P w) k f fd ps sp ∧ Mk K C f ∧ mg x = some (.ref C) ∧ Vals (kws.map (·.2)) ds ∧ Binds K fd ps ds ∧ KBn K fd ps (n + 1) (kws.map (·.1)) g (fun vs zs => vs ++ zs)
end
/-- how n plain parameters and the keyword-only ones bind -/
structure BindsKw (st : Stmt) (q : Str) (ps : List Str) (n : Nat) (kws : List (Str × V)) : Prop where
  off : ∀ (D : Addr) (doc pm : Value) (an : Option Addr) (cdv ct : Value) (us ks : List Value), us.length = n → ks.length = kws.length → KwChain D ((kws.map (·.1)).zip ks) (bindArgs (PySem.W.fnOf "__init__" q (defArgs st) (defBody st) (defScope st) .none (.ref D) doc pm an cdv ct) ⟨us, []⟩) (ps.zip (us ++ ks))
  on : ∀ (D : Addr) (doc pm : Value) (an : Option Addr) (cdv ct : Value) (us ws : List Value), us.length = n → ws.length = (kws.map (·.1)).length → bindArgs (PySem.W.fnOf "__init__" q (defArgs st) (defBody st) (defScope st) .none (.ref D) doc pm an cdv ct) ⟨us, (kws.map (·.1)).zip ws⟩ = pure (ps.zip (us ++ ws))
section
variable {P : Program} {w : World} {K : PySem.W.Frag} {mg : Str → Option Value} {base : Heap}
theorem canNK_of {x q : Str} {C : Addr} {st : Stmt} {N ps : List Str} {k n : Nat} {kws : List (Str × V)} {sp : Sp} (c : ClsT K mg C x) (D : InitK K C q st kws) (S : FnScope N ps (defScope st)) (hk : kws ≠ []) (hn : n + 1 + kws.length = ps.length) (hb : BindsKw st q ps (n + 1) kws) (len : ∀ vs H Q E, sp vs H Q E → vs.length = ps.length)
    (body : ∀ (f : Addr) (cdv : Value) (A : Around) (outer : List Env) (s : Shared) (H : Hp) (vs : List V) (Q : VK) (E : XK), Room k (A.deeper (envOfC q (defScope st) s.heap.objs.size f cdv)) → sp vs H Q E →
      ∃ t, PSs (cxOf (L2.CX P w) P w K mg base N q (defScope st) f cdv A outer s H E) (defBody st) t ∧ t { nx := fun _ H' => Q .non H', rt := Q } (start N vs) H) : CanNK P w K mg base (k + 1) C x n kws sp := by
  obtain ⟨f, fd, F, g⟩ := D.ex
  obtain ⟨ds, vd, bd⟩ := F.binds0 (ps := ps) (n + 1) hk hn hb.off
  obtain ⟨mv, kb⟩ := F.kbinds0 (ps := ps) (n + 1) (kws.map (·.1)) [] (fun us _ ws => us ++ ws) hk (fun q hq => by cases hq) (fun r1 _ r2 => r1.append r2) fun D doc pm an cdv ct us mv ws l1 _ l3 => hb.on D doc pm an cdv ct us ws l1 l3
  exact ⟨f, fd, ps, ds, _, F.ok S len fun cdv A outer s H vs Q E hr h => body f cdv A outer s H vs Q E hr h, ⟨c.mak, g.at_, g.fn, c.kp⟩, c.gC, vd, bd, kb⟩
end
section
variable {X : Cx} {k j n : Nat} {C : Addr} {x : Str} {kws : List (Str × V)} {sp : Sp} {W : WX} {p pos : Pos} {e : Expr} {es : List Expr} {kk : List Keyword} {t tk : TA}
theorem pc_nD (c : CanNK X.prog X.w X.K X.mg X.base k C x n kws sp) (hr : Room j X.A) (hk : k + 1 ≤ j) (hg : Gl X x) (ha : PA X (e :: es) t)
    (hdb : (x == ("__debug__" : Str)) = false := by decide) (he : starEach (e :: es) X.env = (false, eval e X.env) :: starEach es X.env := by rfl) (hpl : (backTo pos (starEach es X.env)).any (·.1) = false := by rfl) :
    PE X (.Call (.Name x p) (e :: es) [] pos) (tMake C sp (kws.map (·.2)) E0 t) := by
  obtain ⟨f, fd, ps, ds, g, F, M, hm, vd, b, _⟩ := c.ex
  exact pe_make M F (hr.mono hk) hg hm b vd passL ha hdb he hpl
theorem pc_nK (c : CanNK X.prog X.w X.K X.mg X.base k C x n kws sp) (hr : Room j X.A) (hk : k + 1 ≤ j) (hg : Gl X x) (ha : PA X (e :: es) t) (hkw : PK X kk tk)
    (hall : (backToKw pos (keywordEach kk X.env)).all (·.1.isSome) = true := by rfl) (hks : (backToKw pos (keywordEach kk X.env)).filterMap (·.1) = kws.map (·.1) := by rfl) (hdb : (x == ("__debug__" : Str)) = false := by decide)
    (he : starEach (e :: es) X.env = (false, eval e X.env) :: starEach es X.env := by rfl) (hpl : ((backTo pos (starEach (e :: es) X.env)).any (·.1) || (backToKw pos (keywordEach kk X.env)).any (·.1.isNone)) = false := by rfl) :
    PE X (.Call (.Name x p) (e :: es) kk pos) (tMakeK C n (kws.map (·.1)).length sp (fun vs zs => vs ++ zs) E0 t tk) := by
  obtain ⟨f, fd, ps, ds, g, F, M, hm, _, _, kb⟩ := c.ex
  exact pe_makeK M F (hr.mono hk) hg hm kb passL ha hkw hall hks hdb he hpl
/-- .. where it may raise -/
def tMakeKS (C : Addr) (n m : Nat) (sp : Sp) (W : WX) (t tk : TA) : TE := fun σ H Q => t σ H fun vs H1 => tk σ H1 fun zs H2 => vs.length = n ∧ zs.length = m ∧ ∀ y dx, H2 y = none → H2 dx = none → dx ≠ y →
  sp (.ref y :: vs ++ zs) (upd (upd H2 dx (.own y)) y (.ins C dx [])) (fun v H3 => v = .non ∧ Q (.ref y) H3) (WE W σ)
theorem pc_nKS (c : CanNK X.prog X.w X.K X.mg X.base k C x n kws sp) (tk' : Takes X W) (hr : Room j X.A) (hk : k + 1 ≤ j) (hg : Gl X x) (ha : PA X (e :: es) t) (hkw : PK X kk tk)
    (hall : (backToKw pos (keywordEach kk X.env)).all (·.1.isSome) = true := by rfl) (hks : (backToKw pos (keywordEach kk X.env)).filterMap (·.1) = kws.map (·.1) := by rfl) (hdb : (x == ("__debug__" : Str)) = false := by decide)
    (he : starEach (e :: es) X.env = (false, eval e X.env) :: starEach es X.env := by rfl) (hpl : ((backTo pos (starEach (e :: es) X.env)).any (·.1) || (backToKw pos (keywordEach kk X.env)).any (·.1.isNone)) = false := by rfl) :
    PE X (.Call (.Name x p) (e :: es) kk pos) (tMakeKS C n (kws.map (·.1)).length sp W t tk) := by
  obtain ⟨f, fd, ps, ds, g, F, M, hm, _, _, kb⟩ := c.ex
  have hr := hr.mono hk
  refine ⟨fun pins s σ H Q I h => ?_⟩
  refine wpAny_Call_Name_kw (ld_glob I hg hm ?_ hdb)
  refine PySem.W.callWith_KW (h₀ := X.base) I.ok.mod.kin M.kp hall (thn (ha.run pos pins s σ H _ I h) fun us s1 ⟨vs, H1, I1, r, q⟩ => ?_) hpl he
  refine thn (hkw.run pos pins s1 σ H1 _ I1 q) fun ws s2 ⟨zs, H2, I2, rz, l1, l2, q2⟩ => ⟨I2.kIn, ?_⟩
  rw [hks]
  have hq := q2 (s2.heap.objs.size + 1) s2.heap.objs.size (I2.hok.fresh (Nat.le_succ _)) (I2.hok.fresh (Nat.le_refl _)) (Nat.ne_of_lt (Nat.lt_succ_self _))
  have J := Inv.made (C := C) I2
  have r1 : Vals (V.ref (s2.heap.objs.size + 1) :: vs) (Value.ref (s2.heap.objs.size + 1) :: us) := .cons rfl r
  have n1 : (Value.ref (s2.heap.objs.size + 1) :: us).length = n + 1 := by rw [List.length_cons, ← r.length, l1]
  refine wpAny_call (make_map (f := f) I2.kIn M.makes M.init (beq_iff_eq.mp M.fn) (codeAny_mono (F.run _ X.stack _ _ ⟨Value.ref (s2.heap.objs.size + 1) :: us, (kws.map (·.1)).zip ws⟩ (g (Value.ref (s2.heap.objs.size + 1) :: us) ws) _ _ (WE W σ)
    (hr.make C us ((kws.map (·.1)).zip ws)) (J.env0.make C us ((kws.map (·.1)).zip ws)) (kb.to _ (Value.ref (s2.heap.objs.size + 1) :: us) ws J.kIn n1 (rz.length.symm.trans l2)) (kb.rel r1 rz) hq) fun a s' hq' => ?_))
  cases a with
  | error e => exact passAt tk' σ pins _ _ e s' J hq'
  | ok fl =>
    cases fl with
    | ret u =>
      obtain ⟨v, H', I3, rv, ev, q3⟩ := J.after hq'
      subst ev
      exact ⟨rv, ⟨V.ref (s2.heap.objs.size + 1), H', I3, rfl, q3⟩⟩
    | next => exact hq'.elim
    | brk => exact hq'.elim
    | cont => exact hq'.elim
end
section
variable {K : PySem.W.Frag}
theorem ks_nil {D : Addr} : ∀ q ∈ ([] : List (Str × V)), ∃ u, PySem.W.nsIn K D q.1 = some (some u) ∧ RelV q.2 u := fun q hq => by cases hq
theorem ks_cons {D : Addr} {x : Str} {v : V} {u : Value} {kws : List (Str × V)} (h : PySem.W.nsIn K D x = some (some u)) (r : RelV v u) (t : ∀ q ∈ kws, ∃ u, PySem.W.nsIn K D q.1 = some (some u) ∧ RelV q.2 u) : ∀ q ∈ (x, v) :: kws, ∃ u, PySem.W.nsIn K D q.1 = some (some u) ∧ RelV q.2 u := fun q hq => by
  rcases List.mem_cons.mp hq with rfl | hq
  · exact ⟨u, h, r⟩
  · exact t q hq
theorem initK_of {C D : Addr} {q : Str} {st : Stmt} {kws : List (Str × V)} {f : Addr} {od an : Option Addr} {sl : Array (Option Value)} {oc dc pm cd ct : Value} (a1 : PySem.W.findIn K (.ref C) "__init__" = some (some (.ref f))) (i1 : PySem.W.isFn K (.ref f) = true)
    (l1 : K.lookup f = some ⟨oc, od, .func (PySem.W.fnOf "__init__" q (defArgs st) (defBody st) (defScope st) .none (.ref D) dc pm an cd ct), sl⟩) (c1 : PySem.W.codeIn K cd q = true) (k1 : PySem.W.keepIn K (.ref f) = true)
    (ks : ∀ q ∈ kws, ∃ u, PySem.W.nsIn K D q.1 = some (some u) ∧ RelV q.2 u) : InitK K C q st kws := ⟨f, _, ⟨⟨_, _, _, _, _, _, _, _, _, _, rfl, l1, c1, .inl ⟨rfl, rfl⟩, .inr ⟨D, rfl, ks⟩⟩, k1⟩, ⟨a1, i1, k1⟩⟩
end
end Kit

end
section
set_option Elab.async false
set_option linter.all false
set_option maxRecDepth 100000
set_option maxHeartbeats 4000000
namespace Kit
open PySem PySem.Spec PyProof.Rows L2
/-! ### from what the head wrote down to the text's facts -/
section
variable {K : PySem.W.Frag} {h : Heap} {mg : Str → Option Value}
theorem defT_of {x : Str} {st : Stmt} {f : Addr} {od an : Option Addr} {sl : Array (Option Value)} {oc kV dc pm cd ct : Value} (X : K.In h) (G : h.Ns mainGlobals mg) (a1 : PySem.W.nsIn K mainGlobals x = some (some (.ref f)))
    (l1 : K.lookup f = some ⟨oc, od, .func (PySem.W.fnOf x x (defArgs st) (defBody st) (defScope st) .none kV dc pm an cd ct), sl⟩) (c1 : PySem.W.codeIn K cd x = true) (k1 : PySem.W.keepIn K (.ref f) = true) : DefT K mg x st :=
  ⟨f, _, fun_mk (st := st) l1 c1 k1, PySem.W.mg_of X G a1⟩
theorem metT_of {C : Addr} {m q : Str} {st : Stmt} {f : Addr} {od an : Option Addr} {sl : Array (Option Value)} {oc kV dc pm cd ct : Value} (a1 : PySem.W.findIn K (.ref C) m = some (some (.ref f))) (i1 : PySem.W.isFn K (.ref f) = true)
    (l1 : K.lookup f = some ⟨oc, od, .func (PySem.W.fnOf m q (defArgs st) (defBody st) (defScope st) .none kV dc pm an cd ct), sl⟩) (c1 : PySem.W.codeIn K cd q = true) (k1 : PySem.W.keepIn K (.ref f) = true) : MetT K C m q st :=
  ⟨f, _, fun_mk (st := st) l1 c1 k1, ⟨a1, i1, k1⟩⟩
theorem clsT_of {C : Addr} {x : Str} (X : K.In h) (G : h.Ns mainGlobals mg) (aC : PySem.W.nsIn K mainGlobals x = some (some (.ref C))) (pg : PySem.W.plainGet K C Str.empty = true) (hd : PySem.W.hasDictIn K C = true) (po : PySem.W.plainOver K C = true)
    (sa : PySem.W.findIn K (.ref C) "__setattr__" = some (some (.builtin "object.__setattr__"))) (mk : PySem.W.makesIn K C = true) (kc : PySem.W.keepIn K (.ref C) = true) : ClsT K mg C x := ⟨⟨pg, hd, po, sa⟩, PySem.W.mg_of X G aC, mk, kc⟩
theorem errT_of {C : Addr} {x q fld : Str} {st : Stmt} {f : Addr} {od an : Option Addr} {sl : Array (Option Value)} {oc kV dc pm cd ct : Value}
    {nm qn : Str} {N : Addr} {bs bm : List Value} {sn : List Str} {sub : List Value} {ab : Bool} {col : Option Bool} {dd : Option Addr} {m0 m1 m2 m3 m5 : Option Value}
    (X : K.In h) (G : h.Ns mainGlobals mg) (aC : PySem.W.nsIn K mainGlobals x = some (some (.ref C)))
    (xL : K.lookup C = some (excClassObj nm qn C N bs bm true sn sub ab col dd m0 m1 m2 m3 m5 "ValueError.__new__")) (rf : PySem.HandSPX.refsVE bm = true)
    (sa : PySem.W.findIn K (.ref C) "__setattr__" = some (some (.builtin "object.__setattr__"))) (eC : PySem.W.subIn K (.ref C) (.type "BaseException") = some true) (tC : PySem.W.typeIn K (.ref C) = some (.type "type")) (kC : PySem.W.keepIn K (.ref C) = true)
    (nb : PySem.W.findIn K (.ref C) fld = some none)
    (a1 : PySem.W.findIn K (.ref C) "__init__" = some (some (.ref f))) (t1 : PySem.W.typeIn K (.ref f) = some (.type "function"))
    (l1 : K.lookup f = some ⟨oc, od, .func (PySem.W.fnOf "__init__" q (defArgs st) (defBody st) (defScope st) .none kV dc pm an cd ct), sl⟩) (c1 : PySem.W.codeIn K cd q = true) (k1 : PySem.W.keepIn K (.ref f) = true) : ErrT K mg C x q fld st :=
  ⟨PySem.W.mg_of X G aC, ⟨⟨nm, qn, N, bs, bm, sn, sub, ab, col, dd, m0, m1, m2, m3, m5, xL, rf⟩, sa, eC, tC, kC⟩, nb, f, _, fun_mk (st := st) l1 c1 k1, a1, t1⟩
theorem errC_of {C : Addr} (ga : PySem.W.findIn K (.ref C) "__getattribute__" = some (some (.builtin "BaseException.__getattribute__"))) (gg : PySem.W.findIn K (.ref C) "__getattr__" = some none) (eC : PySem.W.subIn K (.ref C) (.type "BaseException") = some true) (hd : PySem.W.hasDictIn K C = true)
    (ha : PySem.W.findIn K (.ref C) "__class__" = some (some (.builtin "object.__class__"))) (hn : PySem.W.specialIn K (.builtin "object.__class__") "__get__" = some (some (.builtin "getset_descriptor.__get__")))
    (ht : PySem.W.takesIn K (.builtin "object.__class__") = some true) (hm : PySem.W.mroIn K C (.type "object") = some true) (hc : PySem.W.isClsIn K C = true) : ErrC K C := ⟨⟨ga, gg, eC, hd⟩, ha, hn, ht, hm, hc⟩
theorem gval_of {x : Str} {v : V} {u : Value} (X : K.In h) (G : h.Ns mainGlobals mg) (a1 : PySem.W.nsIn K mainGlobals x = some (some u)) (r : RelV v u) : ∃ u, mg x = some u ∧ RelV v u := ⟨u, PySem.W.mg_of X G a1, r⟩
theorem kitR_of {t : Value} {C : Addr} {b : Bool} (hc : PySem.W.isClsIn K C = true) (tC : PySem.W.typeIn K (.ref C) = some (.type "type")) (s : PySem.W.subIn K t (.ref C) = some b) (ne : (t == .ref C) = false) : PySem.W.kitOne K t (.ref C) = some b := by
  have hc : (PySem.W.clsIn K C).isSome = true := hc
  show (if (t == .ref C) = true then some true else if ((PySem.W.clsIn K C).isSome && PySem.W.typeIn K (.ref C) == some (.type "type")) = true then PySem.W.subIn K t (.ref C) else none) = some b
  rw [ne, if_neg (by decide), hc, tC, if_pos (by rfl)]
  exact s
theorem kitS_of {C : Addr} : PySem.W.kitOne K (.ref C) (.ref C) = some true := by
  show (if ((Value.ref C) == .ref C) = true then some true else _) = some true
  rw [if_pos (by simp)]
theorem kitT_of {C : Addr} {n : String} {b : Bool} (m : PySem.W.kitMeta n = true) (s : PySem.W.subIn K (.ref C) (.type n) = some b) : PySem.W.kitOne K (.ref C) (.type n) = some b := by
  show (if ((Value.ref C) == .type n) = true then some true else if PySem.W.kitMeta n = true then PySem.W.subIn K (.ref C) (.type n) else none) = some b
  rw [if_neg (fun q => by cases q), if_pos m]
  exact s
theorem exm_of {cls : Value} {S : Addr} {b : Bool} (h1 : PySem.W.subIn K (.ref S) (.type "BaseException") = some true) (h2 : PySem.W.isClsIn K S = true) (h3 : PySem.W.typeIn K (.ref S) = some (.type "type")) (h4 : PySem.W.subIn K cls (.ref S) = some b) : PySem.W.exmOne K cls (.ref S) = some b := by
  have e1 : (PySem.W.subIn K (.ref S) (.type "BaseException") == some true) = true := by rw [h1] <;> rfl
  have e2 : ((PySem.W.clsIn K S).isSome && PySem.W.typeIn K (.ref S) == some (.type "type")) = true := by
    have h2' : (PySem.W.clsIn K S).isSome = true := h2
    rw [h2', h3] <;> rfl
  show (if (PySem.W.subIn K (.ref S) (.type "BaseException") == some true) = true then (if ((PySem.W.clsIn K S).isSome && PySem.W.typeIn K (.ref S) == some (.type "type")) = true then PySem.W.subIn K cls (.ref S) else none) else none) = some b
  rw [if_pos e1, if_pos e2]
  exact h4
end
end Kit

end
section
set_option Elab.async false
set_option linter.all false
set_option maxRecDepth 100000
set_option maxHeartbeats 4000000
namespace Kit
open PySem PySem.Spec PyProof.Rows L2
/-! ### text[::k] -/
def every (l : List Nat) (k : Nat) : List Nat := (List.range ((l.length + k - 1) / k)).map fun i => l.getD (k * i) 0
theorem fm_map {α β : Type} {f : α → Option β} {g : α → β} : ∀ l : List α, (∀ x ∈ l, f x = some (g x)) → l.filterMap f = l.map g
  | [], _ => rfl
  | a :: l, h => by
    rw [List.filterMap_cons, h a (.head _), List.map_cons, fm_map l fun x hx => h x (.tail _ hx)]
theorem every_at (l : List Nat) {k : Nat} (hk : 2 ≤ k) : (Builtin.Str.strSliceIndices none none (k : Int) (S l).length).filterMap ((S l).cps[·]?) = every l k := by
  rw [S_len]
  have e : Builtin.Str.strSliceIndices none none (k : Int) l.length = (List.range ((l.length + k - 1) / k)).map fun i => k * i := by
    unfold Builtin.Str.strSliceIndices
    dsimp only
    rw [if_pos (by omega), if_pos (by omega)]
    unfold sliceRange
    dsimp only
    rw [if_pos (by omega)]
    have c : (if (0 : Int) < (l.length : Int) then ((l.length : Int) - 0 + k - 1) / k else 0).toNat = (l.length + k - 1) / k := by
      by_cases h : (0 : Int) < (l.length : Int)
      · rw [if_pos h, show ((l.length : Int) - 0 + k - 1) = ((l.length + k - 1 : Nat) : Int) by omega, ← Int.natCast_ediv]
        rfl
      · rw [if_neg h]
        have : l.length = 0 := by omega
        rw [this, Nat.div_eq_of_lt (by omega)]
        rfl
    rw [c]
    refine List.map_congr_left fun i _ => ?_
    rw [Int.zero_add, ← Int.natCast_mul]
    rfl
  rw [e, List.filterMap_map]
  unfold every
  refine fm_map _ fun i hi => ?_
  have hi := List.mem_range.mp hi
  have h2 : k * i < l.length := by
    have h3 : i + 1 ≤ (l.length + k - 1) / k := hi
    have h4 := (Nat.le_div_iff_mul_le (by omega : 0 < k)).mp h3
    rw [Nat.add_mul, Nat.mul_comm] at h4
    omega
  show (S l).cps[k * i]? = some (l.getD (k * i) 0)
  have h5 : (S l).cps[k * i]? = l[k * i]? := by
    show l.toArray[k * i]? = l[k * i]?
    rw [List.getElem?_toArray]
  rw [h5, List.getD_eq_getElem?_getD, List.getElem?_eq_getElem h2]
  rfl
theorem every_len (l : List Nat) (k : Nat) : (every l k).length = (l.length + k - 1) / k := by unfold every; rw [List.length_map, List.length_range]
def tStepS (te ts : TE) : TE := fun σ H Q => te σ H fun x H1 => ∃ l : List Nat, x = tx l ∧ l.length ≤ 100000 ∧ tPart ts σ H1 fun o H2 => ∃ k : Nat, o = some (k : Int) ∧ 2 ≤ k ∧ Q (tx (every l k)) H2
theorem pe_stepS {X : Cx} {e st : Expr} {te ts : TE} {p3 pos : Pos} (he : PE X e te) (hs : PE X st ts) : PE X (.Subscript e (.Slice none none (some st) p3) pos) (tStepS te ts) := by
  refine ⟨fun pins s σ H Q I h => ?_⟩
  refine Subscript_ (thn (he.run pins s σ H _ I h) fun v s1 ⟨x, H1, I1, r1, q1⟩ => ?_)
  obtain ⟨l, ex, hz, q⟩ := q1
  subst ex
  obtain ⟨t, rfl⟩ := r1
  have hst : PO X (some st) (tPart ts) := po_some hs
  refine wpAny_Slice (thn (po_none.run pins s1 σ H1 (fun o H2 => o = none ∧ H2 = H1) I1 ⟨rfl, rfl⟩) fun vl s2 ⟨lo, H2, I2, pl, el, e2⟩ => ?_)
  subst el e2
  refine thn (po_none.run pins s2 σ H2 (fun o H3 => o = none ∧ H3 = H2) I2 ⟨rfl, rfl⟩) fun vu s3 ⟨u, H3, I3, pu, eu, e3⟩ => ?_
  subst eu e3
  refine thn (hst.run pins s3 σ H3 (fun o H4 => ∃ k : Nat, o = some (k : Int) ∧ 2 ≤ k ∧ Q (tx (every l k)) H4) I3 q) fun vs s4 ⟨o, H4, I4, ps, k, eo, hk, q4⟩ => ?_
  · subst eo
    have I5 : Inv X pins σ H4 { s4 with heap := s4.heap.push { cls := .type "slice", data := .fields #[vl, vu, vs] } } := I4.kept (t' := s4.toks) fun b ob q => Heap.get?_push_of_some _ q
    cases pl
    cases pu
    cases ps with
    | int _ t2 =>
      show wpAny (model X.prog X.w) X.A (subscriptTail e (.Slice none none (some st) p3) (.str (S l) t) (.ref s4.heap.objs.size)) (EP X pins σ Q) X.xe { s4 with heap := s4.heap.push { cls := .type "slice", data := .fields #[.none, .none, .int (k : Int) t2] } }
      refine tail_any (ops := [.str (S l) t, .ref s4.heap.objs.size]) (typeIs_str _ _ _) F.slot_str_getitem.lookup ?_ (by with_unfolding_all rfl)
      refine wpAny_getItem_str_slice (l := none) (u := none) (st := some ((k : Int), t2)) ⟨_, Heap.get?_push_size _ rfl, rfl, rfl⟩ (show ((k : Int) == 0) = false from beq_false_of_ne (by omega)) ?_
      show Made.post (if ((k : Int) == 1 && _) = true then _ else Made.str ⟨((Builtin.Str.strSliceIndices none none (k : Int) (S l).length).filterMap ((S l).cps[·]?)).toArray⟩) (EP X pins σ Q) _
      rw [if_neg (by rw [show ((k : Int) == 1) = false from beq_false_of_ne (by omega)]; simp), every_at l hk]
      refine ⟨?_, .str _, H4, I5.tok _, ⟨_, rfl⟩, q4⟩
      show (S (every l k)).length ≤ _
      rw [S_len, every_len]
      refine szl (Nat.div_le_of_le_mul ?_)
      obtain ⟨j, rfl⟩ : ∃ j, k = j + 2 := ⟨k - 2, by omega⟩
      rw [Nat.add_mul]
      omega
end Kit

end
section
set_option Elab.async false
set_option linter.all false
set_option maxRecDepth 100000
set_option maxHeartbeats 4000000
namespace Kit
open PySem PySem.Spec PyProof.Rows L2
/-! ### a kept range, walked -/
def iRngV (te : TE) : TI := fun σ H R => te σ H fun x H1 => ∃ (a : Addr) (lo hi : Int), x = .ref a ∧ H1 a = some (.rng lo hi) ∧ (-(2 ^ 62) ≤ lo ∧ lo < 2 ^ 62 ∧ -(2 ^ 62) ≤ hi ∧ hi < 2 ^ 62) ∧ R (Itr lo (hi - lo).toNat) H1
theorem pi_rngV {X : Cx} {tg e : Expr} {te : TE} (he : PE X e te) : PI X tg e (iRngV te) := by
  refine ⟨fun pins s σ H R I h => ?_⟩
  refine thn (he.run pins s σ H _ I h) fun v s1 ⟨x, H1, I1, r1, q1⟩ => ?_
  obtain ⟨a, lo, hi, ex, ha, ⟨h1, h2, h3, h4⟩, q⟩ := q1
  subst ex
  cases r1
  obtain ⟨t, u, v, ho⟩ := I1.hok a _ ha
  refine wpAny_pyIter_range (show IsRange s1.heap a lo hi 1 t u v from ho) (small_one h1 h2 h3 h4) ?_
  refine ⟨s1.heap.objs.size, [s1.heap.objs.size], _, _, H1, rfl, I1.kept (t' := s1.toks) fun b o e => Heap.get?_push_of_some _ e, turn_range _ lo (hi - lo).toNat, ?_, fun b hb => ?_, q⟩
  · have e1 : lo + ((0 : Nat) : Int) * 1 = lo := by simp
    have e2 : (((hi - lo).toNat : Nat) : Int) - ((0 : Nat) : Int) = Builtin.Range.rangeSize lo hi 1 := by rw [rangeSize_one]; split <;> omega
    show IsRangeIter _ _ (lo + ((0 : Nat) : Int) * 1) ((((hi - lo).toNat : Nat) : Int) - ((0 : Nat) : Int)) 1
    rw [e1, e2]
    exact Heap.get?_push_size _ rfl
  · have e : b = s1.heap.objs.size := by simpa using hb
    subst e
    exact I1.fpOk (Nat.le_refl _) (I1.hok.fresh (Nat.le_refl _))
end Kit

end
section
set_option Elab.async false
set_option linter.all false
set_option maxRecDepth 100000
set_option maxHeartbeats 4000000
namespace Kit
open PySem PySem.Spec PyProof.Rows L2
/-! ### text * whole number -/
section
variable {X : Cx}
theorem op_repS : OpR X (binaryOp .Mult) (fun x y H Q => ∃ z n, x = .str z ∧ y = .int n ∧ MulOk z n ∧ Q (.str (Txt.mul z n)) H) := by
  intro pins s σ H x y v u Q I rx ry h
  obtain ⟨z, n, rfl, rfl, hz, q⟩ := h
  obtain ⟨t, rfl⟩ := rx
  obtain ⟨t', rfl⟩ := ry
  exact SB.mul hz fun t' k => ⟨.str (Txt.mul z n), H, I.tok _, ⟨_, rfl⟩, q⟩
end
theorem foldl_repN (its : List Nat) : ∀ (k : Nat) (acc : List Nat),
    List.foldl (fun x1 x2 => x1 ++ x2) acc.toArray (List.replicate k its.toArray) = (acc ++ (List.replicate k its).flatten).toArray
  | 0, acc => by simp
  | k + 1, acc => by
    have e : acc.toArray ++ its.toArray = (acc ++ its).toArray := by simp
    have e2 : (acc ++ its) ++ (List.replicate k its).flatten = acc ++ (List.replicate (k + 1) its).flatten := by
      rw [List.replicate_succ, List.flatten_cons, List.append_assoc]
    rw [List.replicate_succ, List.foldl_cons, e, foldl_repN its k (acc ++ its), e2]
theorem mul_S (l : List Nat) (k : Nat) : Txt.mul (S l) (k : Int) = S (List.replicate k l).flatten := by
  have f0 : List.foldl (fun x1 x2 => x1 ++ x2) #[] (List.replicate k l.toArray) = (List.replicate k l).flatten.toArray := by
    have := foldl_repN l k []
    rw [List.nil_append] at this
    exact this
  unfold Txt.mul
  by_cases h1 : (k : Int) < 1
  · have : k = 0 := by omega
    subst this
    rw [if_pos h1]
    rfl
  · rw [if_neg h1]
    by_cases h2 : ((k : Int) == 1 || (S l).length == 0) = true
    · rw [if_pos h2]
      rw [Bool.or_eq_true, beq_iff_eq, beq_iff_eq] at h2
      rcases h2 with h2 | h2
      · have : k = 1 := by omega
        subst this
        rw [List.replicate_one, List.flatten_cons, List.flatten_nil, List.append_nil]
      · rw [S_len] at h2
        have : l = [] := List.length_eq_zero_iff.mp h2
        subst this
        congr 1
        induction k with
        | zero => rfl
        | succ k ih => rw [List.replicate_succ, List.flatten_cons, List.nil_append]; exact (by simp : [] = (List.replicate k ([] : List Nat)).flatten)
    · rw [if_neg h2]
      show (⟨_⟩ : Str) = ⟨_⟩
      congr 1
end Kit

end
section
set_option Elab.async false
set_option linter.all false
set_option maxRecDepth 100000
set_option maxHeartbeats 4000000
namespace Kit
open PySem PySem.Spec PyProof.Rows L2
/-! ### math.lcm; ~ of an own class -/
section
variable {X : Cx}
def rLcm : List V → Hp → VK → Prop := fun vs H Q => ∃ a b : Nat, vs = [.int a, .int b] ∧ a ≤ 1000000 ∧ b ≤ 1000000 ∧ Q (.int ((Nat.lcm a b : Nat) : Int)) H
theorem cr_lcm : CallR X (.builtin "math.lcm") rLcm := by
  intro pins s σ H vs us Q I r h
  obtain ⟨a, b, rfl, ha, hb, q⟩ := h
  obtain ⟨t, u, rfl⟩ := Vals.int2 r
  have e : (((Nat.lcm 1 (a : Int).natAbs).lcm (b : Int).natAbs : Nat) : Int) = ((Nat.lcm a b : Nat) : Int) := by
    rw [Int.natAbs_natCast, Int.natAbs_natCast, Nat.lcm_one_left]
  have le : Nat.lcm a b ≤ 1000000 * 1000000 := Nat.le_trans (by rw [Nat.lcm]; exact Nat.div_le_self _ _) (Nat.mul_le_mul ha hb)
  refine PySem.W.mg_lcm_v (by rw [Int.natAbs_natCast]; omega) (by rw [Int.natAbs_natCast]; omega) e ?_ ⟨.int _, H, I.tok _, ⟨_, rfl⟩, q⟩
  rw [Int.natAbs_natCast]
  by_cases z : Nat.lcm a b = 0
  · rw [z]
    decide
  · have := (Nat.log2_lt z (k := 41)).mpr (by omega)
    exact Nat.lt_trans this (by decide)
variable {C : Addr} {k j : Nat} {sp : Sp}
def rInvO (C : Addr) (sp : Sp) : V → Hp → VK → Prop := fun x H Q => ∃ a dx fs, x = .ref a ∧ H a = some (.ins C dx fs) ∧ sp [x] H (fun v G => (∃ p, v = .ref p) ∧ Q v G) E0
theorem invO (c : CanM X.prog X.w X.K X.mg X.base k C "__invert__" sp) (hr : Room j X.A) (hk : k ≤ j) : UnR X (unaryOp .Invert) (rInvO C sp) := by
  obtain ⟨f, fd, ps, F, hcl, hm, b⟩ := c.ex
  intro pins s σ H x v Q I rx hq
  obtain ⟨a, dx, fs, rfl, ha, h⟩ := hq
  cases rx
  obtain ⟨mA, J, _⟩ := ins_get I.hok ha
  obtain ⟨od, J, _⟩ := J.look
  obtain ⟨mm, hF⟩ := I.fr
  refine PySem.W.ksp_inv hF I.ok.mod.kin J hm.at_ hm.fn ?_
  refine wpAny_mono (run_fn (us := [.ref a]) (vs := [.ref a]) (dvs := []) (ds := []) F (hr.mono hk) b .nil passL I (.cons rfl .nil) h) (fun r s' z => ?_) fun _ _ x => x
  obtain ⟨v, H', I', rv, ⟨p, rfl⟩, q⟩ := z
  cases rv
  exact ⟨.ref p, H', I', rfl, q⟩
end
end Kit

end
section
set_option Elab.async false
set_option linter.all false
set_option maxRecDepth 100000
set_option maxHeartbeats 4000000
namespace Kit
open PySem PySem.Spec PyProof.Rows L2
/-! ### what a promise never reaches -/
variable {X : Cx}
theorem ps_dead {s : Stmt} : PS X s (fun _ _ _ => False) := ⟨fun _ _ _ _ _ _ h => h.elim⟩
theorem pss_dead {s : List Stmt} : PSs X s (fun _ _ _ => False) := ⟨fun _ _ _ _ _ _ h => h.elim⟩
theorem pe_dead {e : Expr} : PE X e (fun _ _ _ => False) := ⟨fun _ _ _ _ _ _ h => h.elim⟩
theorem pt_dead {e : Expr} : PT X e (fun _ _ _ => False) := ⟨fun _ _ _ _ _ _ h => h.elim⟩
end Kit

end
section
set_option Elab.async false
set_option linter.all false
set_option maxRecDepth 100000
set_option maxHeartbeats 4000000
/-! A property of an own class, by its promise. -/
namespace Kit
open PySem PySem.Spec PyProof.Rows L2
structure PropT (K : PySem.W.Frag) (C : Addr) (m q : Str) (st : Stmt) : Prop where
  ex : ∃ (p f : Addr) (fd : FuncData), Fun K m q st f fd ∧ PropOf K C m p f
section
variable (P : Program) (w : World) (K : PySem.W.Frag) (mg : Str → Option Value) (base : Heap)
structure CanP (k : Nat) (C : Addr) (m : Str) (sp : Sp) : Prop where
  ex : ∃ (p f : Addr) (fd : FuncData) (ps : List Str), FnOk P w K mg base (L2.CX P w) k f fd ps sp ∧ Cls K C ∧ PropOf K C m p f ∧ Binds K fd ps []
end
section
variable {P : Program} {w : World} {K : PySem.W.Frag} {mg : Str → Option Value} {base : Heap}
theorem canP_of {m q : Str} {C : Addr} {st : Stmt} {N ps : List Str} {k : Nat} {sp : Sp} (c : Cls K C) (D : PropT K C m q st) (S : FnScope N ps (defScope st)) (hb : BindsPlain st m q ps) (len : ∀ vs H Q E, sp vs H Q E → vs.length = ps.length)
    (body : ∀ (f : Addr) (cdv : Value) (A : Around) (outer : List Env) (s : Shared) (H : Hp) (vs : List V) (Q : VK) (E : XK), Room k (A.deeper (envOfC q (defScope st) s.heap.objs.size f cdv)) → sp vs H Q E →
      ∃ t, PSs (cxOf (L2.CX P w) P w K mg base N q (defScope st) f cdv A outer s H E) (defBody st) t ∧ t { nx := fun _ H' => Q .non H', rt := Q } (start N vs) H) : CanP P w K mg base (k + 1) C m sp := by
  obtain ⟨p, f, fd, F, g⟩ := D.ex
  exact ⟨p, f, fd, ps, F.okX S len (body f), c, g, F.binds hb⟩
theorem propT_of {C : Addr} {m q : Str} {st : Stmt} {p f : Addr} {od an : Option Addr} {sl : Array (Option Value)} {oc kV dc pm cd ct : Value} {rs : List Value} (a1 : PySem.W.findIn K (.ref C) m = some (some (.ref p)))
    (g1 : PySem.W.specialIn K (.ref p) "__get__" = some (some (.builtin "property.__get__"))) (t1 : PySem.W.takesIn K (.ref p) = some true) (r1 : PySem.W.recIn K p "property" = some (.ref f :: rs))
    (l1 : K.lookup f = some ⟨oc, od, .func (PySem.W.fnOf m q (defArgs st) (defBody st) (defScope st) .none kV dc pm an cd ct), sl⟩) (c1 : PySem.W.codeIn K cd q = true) (k1 : PySem.W.keepIn K (.ref f) = true) : PropT K C m q st :=
  ⟨p, f, _, fun_mk (st := st) l1 c1 k1, ⟨a1, g1, t1, rs, r1⟩⟩
end
section
variable {X : Cx} {k j : Nat} {C : Addr} {m : Str} {sp : Sp} {o : Expr} {ta : TE} {pos : Pos}
theorem pc_p (c : CanP X.prog X.w X.K X.mg X.base k C m sp) (hr : Room j X.A) (hk : k + 1 ≤ j) (he : PE X o ta) (hab : attributeBase o m X.env (eval o X.env) = eval o X.env := by rfl) : PE X (.Attribute o m pos) (tProp C sp [] E0 ta) := by
  obtain ⟨p, f, fd, ps, F, hc, hp, b⟩ := c.ex
  exact pe_prop he hc hp F (hr.mono hk) b .nil passL hab
end
section
variable {X : Cx}
theorem kany (K : PySem.W.Frag) (hc : X.calm = true) (hK : X.K = K := by rfl) : CallR X (.builtin "any") (rAny K) := hK ▸ cr_any hc
theorem ktup_of (K : PySem.W.Frag) (hK : X.K = K := by rfl) : CallR X (.type "tuple") (fun xs H Q => ∃ p ys, xs = [.ref p] ∧ ((SqL K H p ys ∧ ∀ l, H l = none → Q (.ref l) (upd H l (.tup ys))) ∨ (SqT K H p ys ∧ Q (.ref p) H))) := hK ▸ call_tuple_of
end
end Kit

end
section
set_option Elab.async false
set_option linter.all false
set_option maxRecDepth 100000
/-! == of two dicts of one's own, both answers: keys ints and texts, or tuples of them; values flat. -/
namespace PySem.W
open PySem PySem.Calls PyProof.Rows PyProof.V PySem.Spec
section
variable {prog : Program} {w : World} {K : Type} [DecidableEq K] {knd : HeapKind prog w K} {A : Around} {E : Value → Shared → Prop} {s : Shared}
inductive HitsT {K : Type} [DecidableEq K] (A : Around) (s : Shared) (kb : List (K × Addr × Value)) : List (K × Addr × Value) → Bool → Prop
  | nil : HitsT A s kb [] true
  | miss {k : K} {c : Addr} {v : Value} {r : List (K × Addr × Value)} : atKey kb k = none → HitsT A s kb ((k, c, v) :: r) false
  | hit {k : K} {c d : Addr} {v y : Value} {r : List (K × Addr × Value)} {e b : Bool} : atKey kb k = some (d, y) → SeqAt.EqAt A s v y e → HitsT A s kb r b → HitsT A s kb ((k, c, v) :: r) (e && b)
theorem HitsT.inv {kb : List (K × Addr × Value)} {k : K} {c : Addr} {v : Value} {r : List (K × Addr × Value)} {b : Bool} (h : HitsT A s kb ((k, c, v) :: r) b) :
    (atKey kb k = none ∧ b = false) ∨ ∃ d y e b', atKey kb k = some (d, y) ∧ SeqAt.EqAt A s v y e ∧ HitsT A s kb r b' ∧ b = (e && b') := by
  cases h with
  | miss hn => exact .inl ⟨hn, rfl⟩
  | hit hy he hr => exact .inr ⟨_, _, _, _, hy, he, hr, rfl⟩
theorem samePairsT {nm : String} {a b : Addr} {ka kb : List (K × Addr × Value)} {r : Bool} {Q : Bool → Shared → Prop} (hu : knd.room A) (ha : (a == sysModules) = false) (hb : (b == sysModules) = false)
    (da : s.heap.DictOfH knd a ka) (db : s.heap.DictOfH knd b kb) (hits : ka.length = kb.length → HitsT A s kb ka r) (h : Q (ka.length == kb.length && r) s) :
    wpAny (model prog w) A (Builtin.Dict.samePairs nm a b) Q E s := by
  obtain ⟨oa, es, ep, hoa, _, hda, hea, hia, hna⟩ := da
  obtain ⟨ob, es', ep', hob, _, hdb, heb, hib, hnb⟩ := db
  have hla : ka.length = es.size := (size_of_entries hea).symm
  have hlb : kb.length = es'.size := (size_of_entries heb).symm
  rw [hla, hlb] at h
  unfold Builtin.Dict.samePairs Builtin.Dict.showsAll
  rw [if_neg (show ¬ (a == sysModules) = true by rw [ha]; exact Bool.false_ne_true), if_neg (show ¬ (b == sysModules) = true by rw [hb]; exact Bool.false_ne_true)]
  refine wpAny_bind (wpAny_pure (wpAny_bind (wpAny_pure ?_)))
  refine wpAny_bind (wpAny_dictEntries hoa hda ?_)
  dsimp only
  refine wpAny_bind (wpAny_dictEntries hob hdb ?_)
  by_cases hsz : es.size = es'.size
  case neg =>
    rw [if_pos (by simpa using hsz)]
    have hbf : (es.size == es'.size) = false := by simpa using hsz
    rw [hbf, Bool.false_and] at h
    exact wpAny_bind (wpAny_rule (wpAny_pure h))
  case pos =>
    have h' : Q r s := by simpa [hsz] using h
    have hits' := hits (by rw [hla, hlb]; exact hsz)
    rw [if_neg (by rw [hsz]; simp)]
    refine wpAny_bind (wpAny_dictEpoch hoa hda ?_)
    refine wpAny_bind ?_
    rw [Std.Legacy.Range.forIn_eq_forIn_range']
    simp only [Std.Legacy.Range.size, Nat.sub_zero, Nat.add_sub_cancel, Nat.div_one]
    refine wpAny_forIn_list _
      (fun rest q s' => s' = s ∧ q = (none, ()) ∧ ∃ i, rest = List.range' i (es.size - i) ∧ i ≤ es.size ∧ HitsT A s kb (ka.drop i) r)
      _ ?_ ?_ _ _ ⟨rfl, rfl, 0, by simp, Nat.zero_le _, hits'⟩
    · rintro x rest q s' ⟨rfl, rfl, i, hr, hi, hpre⟩
      have hlt : i < es.size := by
        rcases Nat.lt_or_ge i es.size with h | h
        · exact h
        · rw [Nat.sub_eq_zero_of_le h] at hr; simp at hr
      obtain ⟨rfl, hrest⟩ : x = i ∧ rest = List.range' (i + 1) (es.size - (i + 1)) := by
        have e : es.size - i = (es.size - (i + 1)) + 1 := by omega
        rw [e, List.range'_succ] at hr
        injection hr with h1 h2
        exact ⟨h1, h2⟩
      refine wpAny_bind (wpAny_dictEntries hoa hda ?_)
      have hlt' : x < ka.length := by rw [hla]; exact hlt
      obtain ⟨k, c, v, hkv⟩ : ∃ k c v, ka[x] = (k, c, v) := ⟨_, _, _, rfl⟩
      have hget : ka[x]? = some (k, c, v) := by rw [List.getElem?_eq_getElem hlt', hkv]
      have hdrop : ka.drop x = (k, c, v) :: ka.drop (x + 1) := by rw [← hkv]; exact List.drop_eq_getElem_cons hlt'
      have een : es[x]? = some (entryOfKey knd (k, c, v)) := by rw [entry_at hea x, hget]; rfl
      have hkey : knd.is s'.heap k c := hia (k, c, v) (List.mem_of_getElem? hget)
      rw [een]
      rw [hdrop] at hpre
      show wpAny _ _ (holding [Value.ref c, v] _ >>= _) _ _ _
      refine wpAny_bind (wpAny_holding (wpAny_bind (wpAny_dictFind_heap hu hkey hob hdb heb hib hnb (fun hnone => ?_) (fun j p hj => ?_))))
      · have hn : atKey kb k = none := atKey_none_of_get hnone
        rcases hpre.inv with ⟨_, er⟩ | ⟨d, y, _, _, hy, _⟩
        · rw [er] at h'
          refine wpAny_pure ?_
          show wpAny _ _ (if (!false) = true then _ else _) _ _ _
          rw [if_pos (by decide)]
          exact wpAny_pure (wpAny_pure h')
        · rw [hn] at hy; exact nomatch hy
      · obtain ⟨d, y⟩ := p
        have hv' : atKey kb k = some (d, y) := atKey_of_get hnb hj
        refine wpAny_bind (wpAny_dictEntries hob hdb ?_)
        rw [entry_at heb j, hj]
        rcases hpre.inv with ⟨hn, _⟩ | ⟨d2, y2, e, b', hy, he, hrr, er⟩
        · rw [hv'] at hn; exact nomatch hn
        · obtain ⟨e1, e2⟩ := Prod.mk.inj (Option.some.inj (hv'.symm.trans hy))
          rw [← e2] at he
          refine wpAny_holding (he _ _ _ _ ?_)
          cases e with
          | false =>
            rw [er, Bool.false_and] at h'
            show wpAny _ _ (if (!false) = true then _ else _) _ _ _
            rw [if_pos (by decide)]
            exact wpAny_pure (wpAny_pure h')
          | true =>
            rw [Bool.true_and] at er
            rw [← er] at hrr
            show wpAny _ _ (if (!true) = true then _ else _) _ _ _
            rw [if_neg (by decide)]
            refine wpAny_bind (wpAny_dictEpoch hoa hda ?_)
            rw [if_neg (by simp)]
            exact wpAny_pure ⟨rfl, rfl, x + 1, hrest, hlt, hrr⟩
    · rintro q s' ⟨rfl, rfl, i, hr, hi, hpre⟩
      have hin : i = es.size := by
        rcases Nat.lt_or_ge i es.size with h | h
        · have e : es.size - i = (es.size - (i + 1)) + 1 := by omega
          rw [e, List.range'_succ] at hr; exact nomatch hr
        · exact Nat.le_antisymm hi h
      refine wpAny_pure ?_
      rw [hin, ← hla, List.drop_length] at hpre
      cases hpre
      exact h'
theorem rcT_dicts {a b : Addr} {ka kb : List (K × Addr × Value)} {r : Bool} (hk : knd.room A.in1) (ha : (a == sysModules) = false) (hb : (b == sysModules) = false)
    (da : s.heap.DictOfH knd a ka) (db : s.heap.DictOfH knd b kb) (hu : A.units < cLine) (hits : ka.length = kb.length → HitsT A.in1 s kb ka r) (Q : Value → Shared → Prop) (h : Q (.bool (ka.length == kb.length && r)) s) : wpAny (model prog w) A (compareOp .Eq (.ref a) (.ref b)) Q E s := by
  refine wpAny_richCompare_same_room (op := .Eq) da.typeIs db.typeIs PySem.F.slot_dict_eq (wpAny_call_entry PySem.F.slot_dict_eq da.typeIs PySem.F.entry_dict_eq ?_ (PySem.F.args_dict_eq_2 _ _)) hu
  show wpAny _ _ (Builtin.Dict.dictSlotArgs "__eq__" ⟨[.ref a, .ref b], []⟩ >>= _) _ _ s
  refine wpAny_bind ?_
  unfold Builtin.Dict.dictSlotArgs
  refine wpAny_bind (wpAny_notOrdered_dict da.typeIs ?_)
  show wpAny _ _ (pure (Value.ref a, Value.ref b)) _ _ s
  refine wpAny_pure ?_
  refine wpAny_bind (wpAny_isInstance (T := "dict") db.typeIs PySem.F.sub_dict_dict ?_)
  simp only [Bool.not_true, Bool.false_eq_true, if_false]
  refine wpAny_bind (wpAny_pure (wpAny_bind (wpAny_pure ?_)))
  refine wpAny_bind (samePairsT hk ha hb da db hits ?_)
  refine wpAny_pure ⟨_, rfl, ?_, ?_⟩
  · exact fun x => nomatch x
  · simpa using h
end
end PySem.W
namespace Kit
open PySem PySem.Spec PyProof.Rows L2
/-- all of ks stand in ls with the same value -/
def subV {κ : Type} [DecidableEq κ] (ks ls : List (κ × V)) : Bool := ks.all fun p => match valV ls p.1 with
  | some y => eqV p.2 y
  | none => false
def flatVs {κ : Type} (ks : List (κ × V)) : Bool := ks.all fun p => flatV p.2
theorem valV_mem {κ : Type} [DecidableEq κ] {ks : List (κ × V)} {k : κ} {y : V} (h : valV ks k = some y) : (k, y) ∈ ks := by
  unfold valV at h
  obtain ⟨p, hp, e⟩ := Option.map_eq_some_iff.mp h
  have m := List.mem_of_find?_eq_some hp
  have q := List.find?_some hp
  have e1 : p.1 = k := of_decide_eq_true q
  rw [← e, ← e1]
  exact m
theorem hitsT_of {A : Around} {s : Shared} {H : Hp} {ls : List (List Key × V)} {vb : List (List Key × Addr × Value)} (rb : KT H ls vb) (fl : flatVs ls = true) {ks : List (List Key × V)} {va : List (List Key × Addr × Value)} (ra : KT H ks va) :
    flatVs ks = true → PySem.W.HitsT A s vb va (subV ks ls) := by
  unfold KT at ra
  induction ra with
  | nil => intro _; exact .nil
  | @cons p q ps qs h t ih =>
    intro hf
    obtain ⟨h1, _, h2⟩ := h
    obtain ⟨k, c, v⟩ := q
    obtain ⟨k', x⟩ := p
    have h1' : k' = k := h1
    subst h1'
    unfold flatVs at hf
    rw [List.all_cons, Bool.and_eq_true] at hf
    have rr := rb.val k'
    unfold subV
    rw [List.all_cons]
    cases hv : valV ls k' with
    | none =>
      rw [hv] at rr
      have ha : atKey vb k' = none := by
        cases e : atKey vb k' with
        | none => rfl
        | some z => rw [e] at rr; exact (show False from rr).elim
      rw [Bool.false_and]
      exact .miss ha
    | some y =>
      rw [hv] at rr
      obtain ⟨u, hu, ry⟩ := rr.some_of
      obtain ⟨⟨d, u'⟩, hz, e2⟩ := Option.map_eq_some_iff.mp hu
      have e3 : u' = u := e2
      subst e3
      have fy : flatV y = true := by
        have m := valV_mem hv
        exact List.all_eq_true.mp fl _ m
      exact .hit hz (eqAt_V h2 ry hf.1 fy) (ih hf.2)
theorem hitsK_of {A : Around} {s : Shared} {ls : List (Key × V)} {vb : List (Key × Value)} (rb : KV ls vb) (fl : flatVs ls = true) {ks : List (Key × V)} {va : List (Key × Value)} (ra : KV ks va) :
    flatVs ks = true → PySem.W.KeqHits A s vb va (subV ks ls) := by
  unfold KV at ra
  induction ra with
  | nil => intro _; exact .nil
  | @cons p q ps qs h t ih =>
    intro hf
    obtain ⟨h1, h2⟩ := h
    obtain ⟨k, v⟩ := q
    obtain ⟨k', x⟩ := p
    have h1' : k' = k := h1
    subst h1'
    unfold flatVs at hf
    rw [List.all_cons, Bool.and_eq_true] at hf
    have rr := rb.val k'
    unfold subV
    rw [List.all_cons]
    cases hv : valV ls k' with
    | none =>
      rw [hv] at rr
      have ha : valueAt vb k' = none := by
        cases e : valueAt vb k' with
        | none => rfl
        | some z => rw [e] at rr; exact (show False from rr).elim
      rw [Bool.false_and]
      exact .miss ha
    | some y =>
      rw [hv] at rr
      obtain ⟨u, hu, ry⟩ := rr.some_of
      have fy : flatV y = true := by
        have m := valV_mem hv
        exact List.all_eq_true.mp fl _ m
      exact .hit hu (eqAt_V h2 ry hf.1 fy) (ih hf.2)
section
variable {X : Cx}
/-- == of dicts whose keys are tuples of ints and texts; of dicts whose keys are ints and texts -/
def rEqDT : R2 := fun x y H Q => ∃ a b ks ls, x = .ref a ∧ y = .ref b ∧ H a = some (.dT ks) ∧ H b = some (.dT ls) ∧ flatVs ks = true ∧ flatVs ls = true ∧ Q (.bl (decide (ks.length = ls.length) && subV ks ls)) H
def rEqDK : R2 := fun x y H Q => ∃ a b ks ls, x = .ref a ∧ y = .ref b ∧ H a = some (.dK ks) ∧ H b = some (.dK ls) ∧ flatVs ks = true ∧ flatVs ls = true ∧ Q (.bl (decide (ks.length = ls.length) && subV ks ls)) H
theorem op_eq_dT (hu : X.A.units + 1 < cLine) : OpR X (compareOp .Eq) rEqDT := by
  intro pins s σ H x y v u Q I rx ry h
  obtain ⟨a, b, ks, ls, rfl, rfl, ea, eb, fk, fl, q⟩ := h
  obtain rfl : v = Value.ref a := rx
  obtain rfl : u = Value.ref b := ry
  obtain ⟨_, ya, va, ra, da⟩ := dt_of I.hok ea
  obtain ⟨_, yb, vb, rb, db⟩ := dt_of I.hok eb
  have la : ks.length = va.length := ra.length
  have lb : ls.length = vb.length := rb.length
  refine PySem.W.rcT_dicts (tupleKind_room_in1 hu) ya yb da db (by omega) (r := subV ks ls) (fun _ => hitsT_of rb fl ra fk) _ (fin_bl I q ?_)
  rw [← la, ← lb]
  by_cases e : ks.length = ls.length <;> simp [e]
theorem op_eq_dK (hu : X.A.units < cLine) : OpR X (compareOp .Eq) rEqDK := by
  intro pins s σ H x y v u Q I rx ry h
  obtain ⟨a, b, ks, ls, rfl, rfl, ea, eb, fk, fl, q⟩ := h
  obtain rfl : v = Value.ref a := rx
  obtain rfl : u = Value.ref b := ry
  obtain ⟨_, ya, va, ra, da⟩ := dk_of I.hok ea
  obtain ⟨_, yb, vb, rb, db⟩ := dk_of I.hok eb
  have la : ks.length = va.length := ra.length
  have lb : ls.length = vb.length := rb.length
  refine PySem.W.keq_eq (knd := mixKind X.prog X.w) (r := subV ks ls) ya yb da db hu (fun _ => hitsK_of rb fl ra fk) (fin_bl I q ?_)
  rw [← la, ← lb]
  by_cases e : ks.length = ls.length <;> simp [e]
end
end Kit

end
section
set_option Elab.async false
set_option linter.all false
set_option maxRecDepth 100000
set_option maxHeartbeats 4000000
/-! sorted(set(text)): a set of signs that can be walked. -/
namespace Kit
open PySem PySem.Spec PyProof.Rows L2
/-- an entry: a sign and its hash -/
def GoodC (P : Program) (w : World) (e : Int × Value) : Prop := ∃ c tk, e.2 = Value.str (one1 c) tk ∧ e.1 = (PySem.strKind P w).hash (one1 c)
def codeOf (e : Int × Value) : Nat := match e.2 with
  | .str x _ => x.cps.getD 0 0
  | _ => 0
/-- the set at a holds the signs l -/
def SetC (P : Program) (w : World) (h : Heap) (a : Addr) (l : List Nat) : Prop :=
  ∃ o es ep t, h.get? a = some o ∧ o.ExactSet ∧ o.data = .set es ep t ∧ (∀ e ∈ es.toList, GoodC P w e) ∧ (es.toList.map codeOf).Nodup ∧ (∀ c, c ∈ l ↔ c ∈ es.toList.map codeOf) ∧
    es.size < 2000 ∧ t.fits es.size = true ∧ es.size ≤ l.length ∧ Ris t.place.toList ∧ (w.params.followText "set-order" = true ∨ t.led = true)
section
variable {P : Program} {w : World} {A : Around} {E : Value → Shared → Prop} {s : Shared} {a : Addr} {l : List Nat}
theorem SetC.at {h h' : Heap} (R : SetC P w h a l) (k : ∀ o, h.get? a = some o → h'.get? a = some o) : SetC P w h' a l := by
  obtain ⟨o, es, ep, t, ho, r⟩ := R
  exact ⟨o, es, ep, t, k o ho, r⟩
theorem goodC_el {es : List (Int × Value)} (g : ∀ e ∈ es, GoodC P w e) : ElemsOf (PySem.strKind P w) es := fun e he => by
  obtain ⟨c, tk, h1, h2⟩ := g e he
  rw [h1]
  exact ⟨⟨one1 c, strKind_is _ _ _ _, h2⟩, rfl⟩
theorem goodC_mem {es : List (Int × Value)} (g : ∀ e ∈ es, GoodC P w e) (c : Nat) : c ∈ es.map codeOf ↔ ∃ e ∈ es, (PySem.strKind P w).is (one1 c) e.2 = true := by
  constructor
  · intro h
    obtain ⟨e, he, q⟩ := List.mem_map.mp h
    obtain ⟨d, tk, h1, _⟩ := g e he
    have q2 : codeOf e = d := by unfold codeOf; rw [h1]; rfl
    refine ⟨e, he, ?_⟩
    rw [h1, ← q, q2]
    exact strKind_is _ _ _ _
  · rintro ⟨e, he, q⟩
    obtain ⟨d, tk, h1, _⟩ := g e he
    rw [h1] at q
    have q2 : one1 c = one1 d := (PySem.strKind P w).inj (.str (one1 d) tk) _ _ q (strKind_is _ _ _ _)
    refine List.mem_map.mpr ⟨e, he, ?_⟩
    unfold codeOf
    rw [h1, one1_inj q2]
    rfl
theorem SetC.fresh {h : Heap} (ho : h.get? a = some { cls := .type "set", dict := none, data := .set #[] 0 (.fresh 0 0 (!w.params.followText "set-order")) }) : SetC P w h a [] :=
  ⟨_, #[], 0, _, ho, ⟨rfl, rfl, rfl⟩, rfl, (fun e he => by simp at he), (by simp), (fun k => by simp), (by decide), (by rfl), Nat.le_refl _, List.Pairwise.nil, by
    show _ ∨ (!w.params.followText "set-order") = true
    cases w.params.followText "set-order"
    · exact .inr rfl
    · exact .inl rfl⟩
theorem setC_tail {g : Bool → Sem Unit} (hg : ∀ (b : Bool) (s₁ : Shared) (Q' : Unit → Shared → Prop), Q' () s₁ → wpAny (model P w) A (g b) Q' E s₁)
    {o : Obj} {es : Array (Int × Value)} {ep : Nat} {t : SetTable} (ho : s.heap.get? a = some o) (hex : o.ExactSet) (hd : o.data = .set es ep t)
    {es1 : Array (Int × Value)} {t2 : SetTable} {l' : List Nat} (g1 : ∀ e ∈ es1.toList, GoodC P w e) (nd1 : (es1.toList.map codeOf).Nodup) (m1 : ∀ c, c ∈ l' ↔ c ∈ es1.toList.map codeOf)
    (hb1 : es1.size < 2000) (hf2 : t2.fits es1.size = true) (hn1 : es1.size ≤ l'.length) (hr : Ris t2.place.toList) (hl : w.params.followText "set-order" = true ∨ t2.led = true) {wasDummy : Bool} {R : Option Bool → Shared → Prop}
    (hR : ∀ h', Heap.SameBut a s.heap h' → SetC P w h' a l' → R (some true) { s with heap := h' }) :
    wpAny (model P w) A (do
        storeSet a es1 t2
        if (!wasDummy && t2.tooFull) = true then do
            g (relayAll t2 es1 (SetTable.grown es1.size)).2.2
            storeSet a (relayAll t2 es1 (SetTable.grown es1.size)).1 (relayAll t2 es1 (SetTable.grown es1.size)).2.1
            pure (some true)
          else pure (some true)) R E s := by
  have sb : es1.size < scanBound := by unfold scanBound; omega
  refine wpAny_bind (wpAny_storeSet_of ho hd ?_ (fits_of_scanBound sb))
  have ho1 := store_at (es' := es1) (t' := t2) ho hd
  have sb1 := Heap.SameBut.update s.heap a (Obj.putSet es1 t2)
  split
  · have pm := relayAll_perm t2 es1 (SetTable.grown es1.size)
    have hf3 := relayAll_fits t2 es1 (SetTable.grown es1.size)
    have hr3 := relayAll_ris t2 es1 (SetTable.grown es1.size)
    have hl3 := relayAll_led t2 es1 (SetTable.grown es1.size)
    generalize relayAll t2 es1 (SetTable.grown es1.size) = Z at pm hf3 hr3 hl3 ⊢
    obtain ⟨es2, t3, gave⟩ := Z
    dsimp only at pm hf3 hr3 hl3 ⊢
    have hsz : es2.size = es1.size := by rw [← Array.length_toList, pm.length_eq, Array.length_toList]
    refine wpAny_bind (hg _ _ _ ?_)
    refine wpAny_bind (wpAny_storeSet_of ho1 rfl ?_ (fits_of_scanBound (by rw [hsz]; exact sb)))
    have ho2 := store_at (es' := es2) (t' := t3) ho1 rfl
    refine wpAny_pure (hR _ (sb1.trans (Heap.SameBut.update _ a _)) ?_)
    exact ⟨_, es2, _, t3, ho2, hex, rfl, fun e he => g1 e (pm.mem_iff.mp he), (pm.map codeOf).nodup_iff.mpr nd1, fun k => (m1 k).trans (pm.map codeOf).mem_iff.symm, by omega, hf3, by omega, hr3,
      hl.imp id fun z => by rw [hl3]; exact z⟩
  · exact wpAny_pure (hR _ sb1 ⟨_, es1, _, t2, ho1, hex, rfl, g1, nd1, m1, hb1, hf2, hn1, hr, hl⟩)
theorem setC_add {c : Nat} {tk : Tok} {Q : Bool → Shared → Prop} (R : SetC P w s.heap a l) (room : l.length < 1500)
    (hQ : ∀ (b : Bool) h', Heap.SameBut a s.heap h' → SetC P w h' a (l ++ [c]) → Q b { s with heap := h' }) :
    wpAny (model P w) A (setAddHashed a (.str (one1 c) tk) ((PySem.strKind P w).hash (one1 c))) Q E s := by
  obtain ⟨o, es, ep, t, ho, hex, hd, g, nd, hm, hb, hf, hn, hr, hl⟩ := R
  have hkey : (PySem.strKind P w).is (one1 c) (.str (one1 c) tk) = true := strKind_is _ _ _ _
  have hsc : (Value.str (one1 c) tk).scannable = true := rfl
  have hel : ElemsOf (PySem.strKind P w) es.toList := goodC_el g
  have hsb : es.size < scanBound := by unfold scanBound; omega
  unfold setAddHashed setAddHashedIn
  refine wpAny_holding (wpAny_bind (wpAny_setState_of ho hd hf ?_))
  dsimp only
  rw [byScan_of hsc hsb hel]
  simp only [↓reduceIte]
  unfold setAddByScan
  refine wpAny_bind ?_
  refine wpAny_bind (wpAny_rule ?_)
  refine wpAny_bind (wpAny_setScan_of hkey ho hd hf hel ?_)
  cases hfi : List.findIdx? (fun e => (PySem.strKind P w).is (one1 c) e.2) es.toList with
  | some j =>
    dsimp only
    obtain ⟨hj, pj, _⟩ := List.findIdx?_eq_some_iff_getElem.mp hfi
    have hc : c ∈ l := (hm c).2 ((goodC_mem g c).2 ⟨es.toList[j], List.getElem_mem hj, pj⟩)
    refine wpAny_pure (wpAny_pure ?_)
    exact hQ false s.heap (Heap.SameBut.refl a s.heap) ⟨o, es, ep, t, ho, hex, hd, g, nd, fun i => by
      rw [List.mem_append, List.mem_singleton, ← hm i]
      exact ⟨fun z => z.elim id (fun e => e ▸ hc), .inl⟩, hb, hf, by rw [List.length_append]; omega, hr, hl⟩
  | none =>
    dsimp only
    have hnk : c ∉ es.toList.map codeOf := fun z => by
      obtain ⟨e, he, q⟩ := (goodC_mem (P := P) (w := w) g c).1 z
      have cc := List.findIdx?_eq_none_iff.mp hfi e he
      rw [q] at cc
      cases cc
    have hgw : ∀ (b : Bool) {s₁ : Shared} {Q' : Unit → Shared → Prop}, Q' () s₁ → wpAny (model P w) A (match b with | true => rule "set.scan.the-table-gave-way" | false => pure ()) Q' E s₁ :=
      fun b s₁ Q' q => by cases b <;> first | exact wpAny_pure q | exact wpAny_rule q
    have pm := layNew_perm t es ((PySem.strKind P w).hash (one1 c)) (.str (one1 c) tk)
    have hf1 := layNew_fits t es ((PySem.strKind P w).hash (one1 c)) (.str (one1 c) tk)
    have hr1 := layNew_ris t es ((PySem.strKind P w).hash (one1 c)) (.str (one1 c) tk) hr
    have hl1 := layNew_led t es ((PySem.strKind P w).hash (one1 c)) (.str (one1 c) tk)
    generalize layNew t es ((PySem.strKind P w).hash (one1 c)) (.str (one1 c) tk) = Z at pm hf1 hr1 hl1 ⊢
    obtain ⟨es1, t1, wasDummy, gave⟩ := Z
    dsimp only at pm hf1 hr1 hl1 ⊢
    rw [Array.toList_push] at pm
    have pc : es1.toList.Perm (((PySem.strKind P w).hash (one1 c), Value.str (one1 c) tk) :: es.toList) := pm.trans (List.perm_append_singleton _ _)
    have pk : (es1.toList.map codeOf).Perm (c :: es.toList.map codeOf) := pc.map codeOf
    have g1 : ∀ e ∈ es1.toList, GoodC P w e := fun e he => by
      rcases List.mem_cons.mp (pc.mem_iff.mp he) with z | z
      · rw [z]; exact ⟨c, tk, rfl, rfl⟩
      · exact g e z
    have nd1 : (es1.toList.map codeOf).Nodup := pk.nodup_iff.mpr (List.nodup_cons.mpr ⟨hnk, nd⟩)
    have m1 : ∀ i, i ∈ l ++ [c] ↔ i ∈ es1.toList.map codeOf := fun i => by
      rw [List.mem_append, List.mem_singleton, hm i, pk.mem_iff, List.mem_cons]
      exact Or.comm
    have hsz : es1.size = es.size + 1 := by rw [← Array.length_toList, pc.length_eq, List.length_cons, Array.length_toList]
    have hb1 : es1.size < 2000 := by omega
    have hn1 : es1.size ≤ (l ++ [c]).length := by rw [List.length_append, hsz]; show es.size + 1 ≤ l.length + 1; omega
    have hled : w.params.followText "set-order" = true ∨ t1.led = true := hl.imp id fun z => by rw [hl1]; exact z
    have fin : ∀ h', Heap.SameBut a s.heap h' → SetC P w h' a (l ++ [c]) → Q true { s with heap := h' } := fun h' sb r => hQ true h' sb r
    refine wpAny_bind (hgw _ ?_)
    split
    · refine wpAny_bind ?_
      rw [hashByValue_scannable 8 hsc]
      refine wpAny_pure ?_
      refine setC_tail ?_ ho hex hd g1 nd1 m1 hb1 ?_ hn1 ?_ ?_ ?_
      · intro b s₁ Q' q; cases b <;> first | exact wpAny_pure q | exact wpAny_rule q
      · first | (split <;> first | exact hf1 | exact SetTable.fits_plain_off hf1) | exact hf1
      · first | (split <;> exact hr1) | exact hr1
      · first | (split <;> exact hled) | exact hled
      · intro h' sb r; dsimp only; exact wpAny_pure (fin h' sb r)
    · refine wpAny_bind (wpAny_pure ?_)
      simp only [↓reduceIte]
      refine setC_tail ?_ ho hex hd g1 nd1 m1 hb1 hf1 hn1 hr1 hled ?_
      · intro b s₁ Q' q; cases b <;> first | exact wpAny_pure q | exact wpAny_rule q
      · intro h' sb r; dsimp only; exact wpAny_pure (fin h' sb r)
end
section
variable {prog : Program} {w : World} {A : Around} {R : Result → Shared → Prop} {I : Addr} {fp wr : List Addr} {G : Array GenState → Array GenState → Prop} {n : Nat} {x : Str} {St : Nat → Shared → Prop}
theorem loopC (W : WalksS prog w A.in1 I fp wr G n (SignAt x) St) (P : Addr) (hPf : P ∉ fp) (hsz : x.cps.size = n) (hn1 : n ≤ 1000) :
    ∀ (k i : Nat) (s : Shared), n - i = k → i ≤ n → St i s → SetC prog w s.heap P (x.cps.toList.take i) →
      (∀ s' : Shared, Moved (P :: wr) G s s' → SetC prog w s'.heap P x.cps.toList → R (.ok (.ret .none)) s') →
      codeAny (model prog w) A (.builtin "set.update.loop" ⟨[.ref P, .ref I], []⟩) R s := by
  have hPw : P ∉ wr := fun h => hPf (W.sub _ h)
  have hsub : ∀ b ∈ wr, b ∈ P :: wr := fun b hb => List.mem_cons_of_mem _ hb
  intro k
  induction k with
  | zero =>
    intro i s hk hi hst hS hR
    have hin : i = n := by omega
    subst hin
    refine codeAny_builtin PyProof.Rows.F.entry_set_update_loop ?_
    rw [Around.under_plainId PyProof.Rows.F.plain_set_update_loop _]
    show wpAny _ A.in1 (pyNext (.ref I) >>= _) _ _ s
    refine wpAny_bind (W.done s _ _ hst fun s' hm => ?_)
    show wpAny _ A.in1 (ret Value.none) _ _ s'
    rw [List.take_of_length_le (by rw [Array.length_toList]; omega)] at hS
    exact wpAny_pure (hR s' (hm.mono hsub) (hS.at fun o ho => hm.heap P _ hPw ho))
  | succ k ih =>
    intro i s hk hi hst hS hR
    have hlt : i < n := by omega
    refine codeAny_builtin PyProof.Rows.F.entry_set_update_loop ?_
    rw [Around.under_plainId PyProof.Rows.F.plain_set_update_loop _]
    show wpAny _ A.in1 (pyNext (.ref I) >>= _) _ _ s
    refine wpAny_bind (W.item i s _ _ hlt hst fun v s' hP hst' hm => ?_)
    obtain ⟨c, t, hc, rfl⟩ := hP
    have hS' : SetC prog w s'.heap P (x.cps.toList.take i) := hS.at fun o ho => hm.heap P _ hPw ho
    have htk : x.cps.toList.take (i + 1) = x.cps.toList.take i ++ [c] := by
      rw [List.take_add_one, Array.getElem?_toList, hc]
      rfl
    show wpAny _ A.in1 (holding [Value.str (one1 c) t] (setAdd P (.str (one1 c) t)) >>= _) _ _ s'
    refine wpAny_bind (wpAny_holding ?_)
    unfold setAdd
    refine wpAny_holding ?_
    refine wpAny_bind ((PySem.strKind prog w).pyHash (k := one1 c) (strKind_is _ _ _ _) ?_)
    refine setC_add (s := { s' with toks := s'.toks + 1 }) hS' (by rw [List.length_take, Array.length_toList]; omega) fun b h' hsb hS2 => ?_
    rw [← htk] at hS2
    refine wpAny_pure ⟨plainId_quiet PyProof.Rows.F.plain_set_update_loop _, ih (i + 1) _ (by omega) hlt (W.frame _ s' _ _ hst' (Nat.le_succ _) fun b hb o e => ?_) hS2 fun s'' hm'' a4 => ?_⟩
    · rw [hsb.2 b (fun h : b = P => hPf (by rw [← h]; exact hb))]; exact e
    · refine hR s'' (Moved.trans W.gtrans ((hm.mono hsub).then_heap (Nat.le_succ _) fun b o hb e => ?_) hm'') a4
      rw [hsb.2 b (fun h : b = P => hb (by rw [h]; exact List.mem_cons_self))]; exact e
end
section
variable {prog : Program} {w : World} {A : Around} {E : Value → Shared → Prop} {s : Shared}
set_option maxHeartbeats 3200000 in
theorem call_setC {x : Str} {u : Tok} {Q : Value → Shared → Prop} (hh : A.handled = none) (hn1 : x.cps.size ≤ 1000)
    (h : ∀ (h' : Heap) (tk : Nat), SetC prog w h' s.heap.objs.size x.cps.toList → (∀ b o, b < s.heap.objs.size → s.heap.get? b = some o → h'.get? b = some o) → Q (.ref s.heap.objs.size) { s with heap := h', toks := tk }) :
    wpAny (model prog w) A (call (.type "set") [.str x u]) Q E s := by
  obtain ⟨c, tl, hmro⟩ := PySem.F.called_set.mro
  have hmade := PySem.F.called_set.made
  have hsub := PySem.F.called_set.sub
  refine wpAny_call (codeAny_of_tree ?_)
  show wpAny _ _ (callAny (.type "set") _) _ _ _
  refine wpAny_pure ⟨Code.quiet_builtin _ (by decide +kernel), codeAny_builtin PySem.F.entry_type_call ?_⟩
  rw [Around.under_plain (weight_type_call_type "set" [.str x u] []) rfl]
  have h1 := PySem.F.called_set.notType
  have h2 := PySem.F.called_set.canCreate
  have hct := PySem.F.typeCall_set_1 (.str x u)
  repeat (any_goals (first | assumption | wp_step))

  refine codeAny_mono (code_set_led1 (.str x u) (E := E) (Q₁ := fun obj s₁ => obj = .ref s.heap.objs.size ∧ s₁ = { s with heap := s.heap.push { cls := .type "set", dict := none, data := .set #[] 0 (.fresh 0 0 (!w.params.followText "set-order")) } }) ⟨rfl, rfl⟩) fun r s₁ hr => ?_
  cases r with
  | error e => exact hr
  | ok fl =>
    cases fl with
    | ret obj =>
      obtain ⟨rfl, rfl⟩ := hr
      generalize hLd : (!w.params.followText "set-order") = led at *
      have hS : (s.heap.push { cls := .type "set", dict := none, data := .set #[] 0 (.fresh 0 0 led) }).get? s.heap.objs.size = some { cls := .type "set", dict := none, data := .set #[] 0 (.fresh 0 0 led) } := Heap.get?_push_size _ rfl
      have hT : Shared.TypeIs { s with heap := s.heap.push { cls := .type "set", dict := none, data := .set #[] 0 (.fresh 0 0 led) } } (.ref s.heap.objs.size) "set" := ⟨_, hS, rfl⟩
      have hli := PySem.F.called_set.init.lookup
      have hbi := PySem.F.called_set.init.bind (.ref s.heap.objs.size)
      repeat (any_goals (first | assumption | wp_step))

      refine codeAny_mono (codeAny_call_builtin (R := wants (fun r s₂ => r = .none ∧ ∃ (h' : Heap) (tk : Nat), s₂ = { s with heap := h', toks := tk } ∧ SetC prog w h' s.heap.objs.size x.cps.toList ∧
          (∀ b o, b < s.heap.objs.size → s.heap.get? b = some o → h'.get? b = some o)) E) PySem.F.called_set.init.plain PySem.F.entry_set_init (check_set_init_1 hT ?_)) fun r₂ s₂ hr₂ => ?_
      · have hty : typeOf (.str x u) = pure (.type "str") := rfl
        have hsls := sub_str_set
        have hslf := sub_str_frozenset
        have hne : (Value.type "str" == Value.type "dict") = false := by decide
        unfold Builtin.«set.__init__» noKeywords Builtin.Frozenset.updateFrom
        generalize hPI : pyIter = PI
        wp_walk
        subst hPI
        refine wpAny_pyIter_str fun o St W hst => ?_
        refine wpAny_bind (wpAny_runValue ?_)
        have hh3 : A.in1.in1.in1.handled = none := by simp [hh]
        have hSf : s.heap.objs.size ∉ [(s.heap.push { cls := .type "set", dict := none, data := .set #[] 0 (.fresh 0 0 led) }).objs.size] := by
          rw [Heap.size_push]
          intro q
          exact Nat.ne_of_lt (Nat.lt_succ_self _) (List.mem_singleton.mp q)
        refine loopC ((W _ hh3).toS) s.heap.objs.size hSf rfl hn1 (x.cps.size - 0) 0 _ (by omega) (Nat.zero_le _) hst ?hS0 ?hR
        case hS0 =>
          rw [List.take_zero]
          refine SetC.fresh ?_
          rw [hLd]
          exact Heap.get?_push_of_some _ hS
        case hR =>
          intro s' hm hS'
          obtain ⟨h', g', d', tk', os'⟩ := s'
          have eg : g' = s.gens := hm.gens
          have ed : d' = s.drawn := hm.drawn
          have eo : os' = s.os := hm.os
          subst eg; subst ed; subst eo
          show wpAny _ _ _ _ _ _
          refine wpAny_pure ?_
          show wpAny _ _ (ret Value.none) _ _ _
          refine wpAny_pure ⟨rfl, h', tk', rfl, hS', fun b o hb e => ?_⟩
          have hb1 : b ≠ s.heap.objs.size := Nat.ne_of_lt hb
          have hb2 : b ≠ (s.heap.push { cls := .type "set", dict := none, data := .set #[] 0 (.fresh 0 0 led) }).objs.size := by
            rw [Heap.size_push]; exact Nat.ne_of_lt (Nat.lt_succ_of_lt hb)
          exact hm.heap b o (by simp only [List.mem_cons, List.mem_singleton, List.not_mem_nil, or_false, not_or]; exact ⟨hb1, hb2⟩) (Heap.get?_push_of_some _ (Heap.get?_push_of_some _ e))
      · cases r₂ with
        | error e => exact hr₂
        | ok fl₂ =>
          cases fl₂ with
          | ret r =>
            obtain ⟨rfl, h', tk, rfl, hS', hk'⟩ := hr₂
            repeat (any_goals (first | assumption | wp_step))
            exact h _ _ hS' hk'
          | _ => exact hr₂.elim
    | _ => exact hr.elim
end
/-- the members, sorted -/
theorem sort_setC {prog : Program} {w : World} {A : Around} {E : Value → Shared → Prop} {s : Shared} {a : Addr} {l : List Nat} {Q : Value → Shared → Prop} (R : SetC prog w s.heap a l) (hh : A.handled = none) (h64 : l.length < 64)
    (hQ : ∀ s' p (out : List Value) (c : Nat) (acc : List Nat) (ys : List Str), (∀ b o, s.heap.get? b = some o → s'.heap.get? b = some o) → s'.gens = s.gens → s'.os = s.os → s.heap.objs.size ≤ p → s'.heap.get? p = some (seqObj "list" out.toArray c) → StrsAre out ys →
      acc.Nodup → (∀ c, c ∈ acc ↔ c ∈ l) → ys.Perm (acc.map one1) → PyProof.Rows.sortedS ys = true → ys.length ≤ l.length → Q (.ref p) s') :
    wpAny (model prog w) A (call (.builtin "sorted") [.ref a]) Q E s := by
  obtain ⟨o, es, ep, t, ho, hex, hd, g, nd, hm, hb, hf, hn, hr, hl⟩ := R
  refine Calls.call_function_entry PyProof.Rows.kind_sorted PyProof.Rows.plain_sorted PyProof.Rows.entry_sorted (PyProof.Rows.args_sorted1 _) ?_
  unfold Builtin.«sorted»
  refine wpAny_bind (m := checkCount "sorted" 1 1 _) (wpAny_pure ?_)
  refine wpAny_bind (collect_set (A := A.in1) hh ⟨o, ho, hex.1, hd⟩ hf (by unfold scanBound; omega) hr hl fun s1 vs k1 hz g1 o1 pm => ?_)
  have hvl : vs.length = es.size := by rw [pm.length_eq, List.length_map, Array.length_toList]
  have ap : ∃ acc : List Nat, acc.Perm (es.toList.map codeOf) ∧ acc.length = vs.length ∧ ∀ (j : Nat) (v : Value), vs[j]? = some v → ∃ c tk, acc[j]? = some c ∧ v = Value.str (one1 c) tk := by
    refine ⟨vs.map fun v => codeOf (0, v), ?_, List.length_map .., fun j v hj => ?_⟩
    · have q := pm.map fun v => codeOf (0, v)
      rw [List.map_map] at q
      exact q
    · obtain ⟨e, he, q⟩ := List.mem_map.mp (pm.mem_iff.mp (List.mem_of_getElem? hj))
      obtain ⟨c, tk, h1, _⟩ := g e he
      have hv : v = Value.str (one1 c) tk := by rw [← q]; exact h1
      refine ⟨c, tk, ?_, hv⟩
      rw [List.getElem?_map, hj, hv]
      rfl
  obtain ⟨acc, pa, la, ha⟩ := ap
  have hS : StrsAre vs (acc.map one1) := strs_at (by rw [List.length_map, la]) fun j v e => by
    obtain ⟨c, tk, e1, rfl⟩ := ha j v e
    exact ⟨one1 c, tk, by rw [List.getElem?_map, e1]; rfl, rfl⟩
  have hv64 : vs.length < 64 := by omega
  refine wpAny_bind (wpAny_newList ?_ (by rw [hvl, sizeLine_eq]; omega))
  have hoL : (s1.heap.push (seqObj "list" vs.toArray 0)).get? s1.heap.objs.size = some (seqObj "list" vs.toArray 0) := Heap.get?_push_size _ rfl
  refine wpAny_bind (wpAny_holding (wpAny_call_entry PyProof.Rows.slot_list_sort ⟨_, hoL, rfl⟩ PyProof.Rows.entry_list_sort
    (list_sort_treeK strKind_oneLt (s := { s1 with heap := s1.heap.push (seqObj "list" vs.toArray 0) }) hoL hS.keysOf (fun v₁ v₂ rest e => keyKind_strs (by rw [← e]; exact hS)) hv64 fun st' hp hs => ⟨_, rfl, ?_⟩)
    (PyProof.Rows.args_list_sort _)))
  obtain ⟨ys, g1', g2, g3⟩ := sorted_out_str hS hp hs
  obtain ⟨c', he'⟩ := PyProof.Rows.sortedHeap_at (vs := vs) (out := (arrOf st').map (·.2)) hoL
  refine wpAny_pure ⟨_, rfl, hQ _ s1.heap.objs.size ((arrOf st').map (·.2)).toList c' acc ys (fun b u e => ?_) g1 o1 hz (by rw [Array.toArray_toList]; exact he') g1' (pa.nodup_iff.mpr nd) (fun c => by rw [pa.mem_iff]; exact (hm c).symm) g2 g3 (by rw [g2.length_eq, List.length_map, la, hvl]; exact hn)⟩
  have q := k1 b u e
  have hlt := Heap.lt_size q
  rw [PyProof.Rows.sortedHeap_old (Nat.ne_of_lt hlt) (by rw [size_push']; exact Nat.lt_succ_of_lt hlt)]
  exact Heap.get?_push_of_some _ q
/-- sorted(set(text)) -/
def tSortSetT (ta : TE) : TE := fun σ H Q => ta σ H fun x H1 => ∃ l : List Nat, x = tx l ∧ l.length < 64 ∧ ∀ (acc : List Nat) (ys : List Str) (p : Addr), acc.Nodup → (∀ c, c ∈ acc ↔ c ∈ l) → ys.Perm (acc.map fun c => S [c]) → PyProof.Rows.sortedS ys = true → H1 p = none → Q (.ref p) (upd H1 p (.lst (ys.map V.str)))
section
variable {X : Cx}
theorem sort_setE {pins : List (Addr × Obj)} {σ : St} {H : Hp} {s : Shared} {l : List Nat} {b : Addr} {Q : VK} {E : Value → Shared → Prop} (hc : X.calm = true) (I : Inv X pins σ H s) (hS : SetC X.prog X.w s.heap b l) (hl : l.length < 64)
    (q1 : ∀ (acc : List Nat) (ys : List Str) (p : Addr), acc.Nodup → (∀ c, c ∈ acc ↔ c ∈ l) → ys.Perm (acc.map fun c => S [c]) → PyProof.Rows.sortedS ys = true → H p = none → Q (.ref p) (upd H p (.lst (ys.map V.str)))) :
    wpAny (model X.prog X.w) X.A (call (.builtin "sorted") [.ref b]) (EP X pins σ Q) E s := by
  refine sort_setC hS (I.ok.hd hc) hl fun s' pp out c acc ys k g o hz hg1 hi a1 a2 a3 a4 a5 => ?_
  have hlen : (ys.map V.str).length ≤ sizeLine := by
    rw [List.length_map, sizeLine_eq]
    omega
  have hn : H pp = none := I.hok.fresh hz
  have J : Inv X pins σ (upd H pp (.lst (ys.map V.str))) { s with heap := s'.heap, gens := s'.gens, drawn := s'.drawn, toks := s'.toks } :=
    I.call (ch := []) (Un.laid k hz hn) (I.hok.laid k hz ⟨hlen, out, c, vals_of_strs hi, hg1⟩) (by rw [g]; exact I.bare) (fun _ z => nomatch z)
  have e : s' = { s with heap := s'.heap, gens := s'.gens, drawn := s'.drawn, toks := s'.toks } := by
    cases s'
    cases s
    cases o
    rfl
  rw [e]
  exact ⟨.ref pp, _, J, rfl, q1 acc ys pp a1 a2 a3 a4 hn⟩
theorem pe_sortSetT {a : Expr} {ta : TE} {p p2 q pos : Pos} (hc : X.calm = true) (hg : Gl X "sorted") (hm : X.mg "sorted" = none) (hg2 : Gl X "set") (hm2 : X.mg "set" = none) (ha : PE X a ta)
    (na : starEach [a] X.env = (false, eval a X.env) :: starEach [] X.env := by rfl) : PE X (.Call (.Name "sorted" p) [.Call (.Name "set" p2) [a] [] q] [] pos) (tSortSetT ta) := by
  refine ⟨fun pins s σ H Q I h => ?_⟩
  refine Call_ (ld_blt I hg hm (show bootBuiltins "sorted" = some (.builtin "sorted") by decide +kernel) ?_)
  refine PyProof.Rows.callWith_builtin1 (PyProof.Rows.args_cons ?_ rfl) rfl rfl
  refine Call_ (ld_blt I hg2 hm2 boot_set ?_)
  refine PyProof.Rows.callWith_type1 (PyProof.Rows.args_cons (thn (ha.run pins s σ H _ I h) fun v s1 ⟨x, H1, I1, r1, q1⟩ => PyProof.Rows.args_nil ?_) na) na rfl
  obtain ⟨l, rfl, hl, q1⟩ := q1
  obtain ⟨t, rfl⟩ := r1
  refine call_setC (I1.ok.hd hc) (by show (S l).length ≤ 1000; rw [S_len]; omega) fun h' tk hS hk => PyProof.Rows.args_nil ?_
  have I2 : Inv X pins σ H1 { s1 with heap := h', toks := tk } := I1.kept fun b o e => hk b o (Heap.lt_size e) e
  exact sort_setE hc I2 hS (by rw [S_cps]; exact hl) fun acc ys p a1 a2 a3 a4 hn => q1 acc ys p a1 (fun c => by rw [a2 c, S_cps]) a3 a4 hn
end
end Kit

end
section
set_option Elab.async false
set_option linter.all false
set_option maxRecDepth 100000
set_option maxHeartbeats 4000000
/-! ### own errors with two fields -/
namespace Kit
open PySem PySem.Spec PyProof.Rows L2
structure ErrT2 (K : PySem.W.Frag) (mg : Str → Option Value) (C : Addr) (x q f1 f2 : Str) (st : Stmt) : Prop where
  gC : mg x = some (.ref C)
  oex : OexC K C
  noF : PySem.W.findIn K (.ref C) f1 = some none
  noG : PySem.W.findIn K (.ref C) f2 = some none
  ini : ∃ (f : Addr) (fd : FuncData), Fun K "__init__" q st f fd ∧ PySem.W.findIn K (.ref C) "__init__" = some (some (.ref f)) ∧ PySem.W.typeIn K (.ref f) = some (.type "function")
def spErr2 (C : Addr) (f1 f2 : Str) : Sp := fun vs H Q _ => ∃ (a : Addr) (y z : V), vs = [.ref a, y, z] ∧ H a = some (exo a C none) ∧ ∀ dx, H dx = none → dx ≠ a → Q .non (upd (upd H dx (exd dx [(f2, z), (f1, y)])) a (exo a C (some dx)))
section
variable (P : Program) (w : World) (K : PySem.W.Frag) (mg : Str → Option Value) (base : Heap)
structure CanE2 (C : Addr) (x f1 f2 : Str) : Prop where
  gC : mg x = some (.ref C)
  oex : OexC K C
  ex : ∃ (f : Addr) (fd : FuncData) (ps : List Str), FnOk P w K mg base (L2.CX P w) 1 f fd ps (spErr2 C f1 f2) ∧ PySem.W.findIn K (.ref C) "__init__" = some (some (.ref f)) ∧ PySem.W.typeIn K (.ref f) = some (.type "function") ∧ Binds K fd ps []
end
section
variable {P : Program} {w : World} {K : PySem.W.Frag} {mg : Str → Option Value} {base : Heap}
theorem upd3 {H : Hp} {dx a : Addr} {o1 o2 o3 : HO} (ne : dx ≠ a) : upd (upd (upd H dx o1) a o2) dx o3 = upd (upd H dx o3) a o2 := by
  funext b
  by_cases h1 : b = dx
  · rw [h1, upd_same, upd_ne ne, upd_same]
  · rw [upd_ne h1]
    by_cases h2 : b = a
    · rw [h2, upd_same, upd_same]
    · rw [upd_ne h2, upd_ne h2, upd_ne h1, upd_ne h1]
theorem canE2_of {C : Addr} {x q f1 f2 : Str} {st : Stmt} {N ps : List Str} (D : ErrT2 K mg C x q f1 f2 st) (S : FnScope N ps (defScope st)) (hb : BindsPlain st "__init__" q ps) (hl : ps.length = 3)
    (body : ∀ (f : Addr) (cdv : Value) (A : Around) (outer : List Env) (s : Shared) (H : Hp) (E : XK),
      PSs (cxOf (L2.CX P w) P w K mg base N q (defScope st) f cdv A outer s H E) (defBody st) (tSeq (tOst K f1 (tVar 0) (tVar 1)) (tOst K f2 (tVar 0) (tVar 2)))) (hN : N.length = 3) : CanE2 P w K mg base C x f1 f2 := by
  obtain ⟨f, fd, F, g, ty⟩ := D.ini
  refine ⟨D.gC, D.oex, f, fd, ps, F.okX S (fun vs H Q E h => ?_) (fun cdv A outer s H vs Q E _ h => ?_), g, ty, F.binds hb⟩
  · obtain ⟨a, y, z, rfl, _⟩ := h
    rw [hl]
    rfl
  · obtain ⟨a, y, z, rfl, ha, k⟩ := h
    refine ⟨_, body f cdv A outer s H E, ?_⟩
    match N, hN with
    | [n0, n1, n2], _ =>
      refine ⟨y, rfl, .ref a, rfl, a, C, rfl, D.oex, D.noF, .inl ⟨ha, fun dx n ne => ?_⟩⟩
      refine ⟨z, rfl, .ref a, rfl, a, C, rfl, D.oex, D.noG, .inr ⟨dx, [(f1, y)], upd_same, by rw [upd_ne ne, upd_same], by show 1 ≤ 900; decide, ?_⟩⟩
      rw [upd3 ne]
      exact k dx n ne
end
section
variable {X : Cx} {C : Addr} {x f1 f2 : Str} {W : WX} {p pos pos2 : Pos} {e e2 : Expr} {te te2 : TE} {j : Nat}
/-- raise X(e, e2) -/
theorem pr_err2 (c : CanE2 X.prog X.w X.K X.mg X.base C x f1 f2) (tk : Takes X W) (hcalm : X.calm = true) (hr : Room j X.A) (hk : 2 ≤ j) (hg : Gl X x) (ha : PE X e te) (hb : PE X e2 te2)
    (he : starEach [e, e2] X.env = (false, eval e X.env) :: starEach [e2] X.env := by rfl) (he2 : starEach [e2] X.env = (false, eval e2 X.env) :: starEach [] X.env := by rfl) (hpl : (backTo pos (starEach [e2] X.env)).any (·.1) = false := by rfl) (hdb : (x == ("__debug__" : Str)) = false := by decide) :
    PS X (.Raise (some (.Call (.Name x p) [e, e2] [] pos)) none pos2) (fun _ σ H => tMkO C (spErr2 C f1 f2) [] (tCons te (tCons te2 tNil)) σ H fun cls d H' => W cls d σ H') := by
  obtain ⟨f, fd, ps, F, g, ty, b⟩ := c.ex
  exact L2.ps_raise hcalm tk (pmk_oex c.oex g ty F (hr.mono hk) b .nil passL hg c.gC (pa_cons ha (pa_cons hb pa_nil (hs := he2)) (hs := he)) hdb he hpl)
end
def Ra2 (E : XK) (C : Addr) (f1 f2 : Str) (y z : V) (H : Hp) : Prop := ∀ d M, Same H M → M d = some (.xd [(f2, z), (f1, y)]) → E (.ref C) (some d) M
theorem Ra2.mono {E : XK} {C : Addr} {f1 f2 : Str} {y z : V} {H G : Hp} (h : Ra2 E C f1 f2 y z H) (e : Same H G) : Ra2 E C f1 f2 y z G := fun d M s => h d M (e.trans s)
theorem Ra2.now {E : XK} {C : Addr} {f1 f2 : Str} {y z : V} {H : Hp} (h : Ra2 E C f1 f2 y z H) : [y, z].length ≤ 1000 ∧ ∀ a, H a = none → spErr2 C f1 f2 (.ref a :: ([y, z] ++ [])) (upd H a (exo a C none))
    (fun v G => v = .non ∧ ∃ (d : Addr) (fs : List (Str × V)), G a = some (exo a C (some d)) ∧ G d = some (exd d fs) ∧ H d = none ∧ E (.ref C) (some d) (upd (L2.del G a) d (.xd fs))) (fun _ _ _ => False) := by
  refine ⟨by show 2 ≤ 1000; decide, fun a na => ⟨a, y, z, rfl, upd_same, fun dx n ne => ⟨rfl, dx, [(f2, z), (f1, y)], upd_same, ?_, ?_, ?_⟩⟩⟩
  · rw [upd_ne ne, upd_same]
  · rw [upd_ne ne] at n
    exact n
  · rw [upd_ne ne] at n
    have k : upd (L2.del (upd (upd (upd H a (exo a C none)) dx (exd dx [(f2, z), (f1, y)])) a (exo a C (some dx))) a) dx (.xd [(f2, z), (f1, y)]) = upd H dx (.xd [(f2, z), (f1, y)]) := by
      funext b
      by_cases hb : b = dx
      · rw [hb, upd_same, upd_same]
      · rw [upd_ne hb, upd_ne hb]
        by_cases hc : b = a
        · rw [hc, L2.del_same, na]
        · rw [L2.del_ne hc, upd_ne hc, upd_ne hb, upd_ne hc]
    rw [k]
    exact h dx _ (ex_new n) upd_same
section
variable {K : PySem.W.Frag} {h : Heap} {mg : Str → Option Value}
theorem errT2_of {C : Addr} {x q f1 f2 : Str} {st : Stmt} {f : Addr} {od an : Option Addr} {sl : Array (Option Value)} {oc kV dc pm cd ct : Value}
    {nm qn : Str} {N : Addr} {bs bm : List Value} {sn : List Str} {sub : List Value} {ab : Bool} {col : Option Bool} {dd : Option Addr} {m0 m1 m2 m3 m5 : Option Value}
    (X : K.In h) (G : h.Ns mainGlobals mg) (aC : PySem.W.nsIn K mainGlobals x = some (some (.ref C)))
    (xL : K.lookup C = some (excClassObj nm qn C N bs bm true sn sub ab col dd m0 m1 m2 m3 m5 "ValueError.__new__")) (rf : PySem.HandSPX.refsVE bm = true)
    (sa : PySem.W.findIn K (.ref C) "__setattr__" = some (some (.builtin "object.__setattr__"))) (eC : PySem.W.subIn K (.ref C) (.type "BaseException") = some true) (tC : PySem.W.typeIn K (.ref C) = some (.type "type")) (kC : PySem.W.keepIn K (.ref C) = true)
    (nb : PySem.W.findIn K (.ref C) f1 = some none) (nb2 : PySem.W.findIn K (.ref C) f2 = some none)
    (a1 : PySem.W.findIn K (.ref C) "__init__" = some (some (.ref f))) (t1 : PySem.W.typeIn K (.ref f) = some (.type "function"))
    (l1 : K.lookup f = some ⟨oc, od, .func (PySem.W.fnOf "__init__" q (defArgs st) (defBody st) (defScope st) .none kV dc pm an cd ct), sl⟩) (c1 : PySem.W.codeIn K cd q = true) (k1 : PySem.W.keepIn K (.ref f) = true) : ErrT2 K mg C x q f1 f2 st :=
  ⟨PySem.W.mg_of X G aC, ⟨⟨nm, qn, N, bs, bm, sn, sub, ab, col, dd, m0, m1, m2, m3, m5, xL, rf⟩, sa, eC, tC, kC⟩, nb, nb2, f, _, fun_mk (st := st) l1 c1 k1, a1, t1⟩
end
end Kit

end
section
set_option Elab.async false
set_option maxRecDepth 100000
set_option maxHeartbeats 4000000
namespace K23
open PySem PySem.Spec PyProof.Rows L2 Kit
def top (i : Nat) : Stmt := PySem.Challenge.pw_galloon_k23_rule_values_and_texts.main.body.getD i (.Pass ⟨0, 0, 0, 0⟩)
abbrev s_BadScheme___init__ : Stmt := (inClass (top 3) 0)
abbrev N_BadScheme___init__ : List Str := ["self", "part"]
abbrev P_BadScheme___init__ : List Str := ["self", "part"]
theorem sc_BadScheme___init__ : FnScope N_BadScheme___init__ P_BadScheme___init__ (defScope s_BadScheme___init__) := ⟨rfl, rfl, rfl, by decide +kernel, rfl, by decide +kernel, by decide +kernel⟩
theorem bd_BadScheme___init__ : BindsPlain s_BadScheme___init__ "__init__" "BadScheme.__init__" P_BadScheme___init__ := fun _ _ _ _ _ _ us hl => match us, hl with | [_, _], _ => rfl
abbrev s_BadColumn___init__ : Stmt := (inClass (top 4) 0)
abbrev N_BadColumn___init__ : List Str := ["self", "text"]
abbrev P_BadColumn___init__ : List Str := ["self", "text"]
theorem sc_BadColumn___init__ : FnScope N_BadColumn___init__ P_BadColumn___init__ (defScope s_BadColumn___init__) := ⟨rfl, rfl, rfl, by decide +kernel, rfl, by decide +kernel, by decide +kernel⟩
theorem bd_BadColumn___init__ : BindsPlain s_BadColumn___init__ "__init__" "BadColumn.__init__" P_BadColumn___init__ := fun _ _ _ _ _ _ us hl => match us, hl with | [_, _], _ => rfl
abbrev s_BadSpots___init__ : Stmt := (inClass (top 5) 0)
abbrev N_BadSpots___init__ : List Str := ["self", "text"]
abbrev P_BadSpots___init__ : List Str := ["self", "text"]
theorem sc_BadSpots___init__ : FnScope N_BadSpots___init__ P_BadSpots___init__ (defScope s_BadSpots___init__) := ⟨rfl, rfl, rfl, by decide +kernel, rfl, by decide +kernel, by decide +kernel⟩
theorem bd_BadSpots___init__ : BindsPlain s_BadSpots___init__ "__init__" "BadSpots.__init__" P_BadSpots___init__ := fun _ _ _ _ _ _ us hl => match us, hl with | [_, _], _ => rfl
abbrev s_BadRow___init__ : Stmt := (inClass (top 6) 0)
abbrev N_BadRow___init__ : List Str := ["self", "row"]
abbrev P_BadRow___init__ : List Str := ["self", "row"]
theorem sc_BadRow___init__ : FnScope N_BadRow___init__ P_BadRow___init__ (defScope s_BadRow___init__) := ⟨rfl, rfl, rfl, by decide +kernel, rfl, by decide +kernel, by decide +kernel⟩
theorem bd_BadRow___init__ : BindsPlain s_BadRow___init__ "__init__" "BadRow.__init__" P_BadRow___init__ := fun _ _ _ _ _ _ us hl => match us, hl with | [_, _], _ => rfl
abbrev s_BadColour___init__ : Stmt := (inClass (top 7) 0)
abbrev N_BadColour___init__ : List Str := ["self", "colour"]
abbrev P_BadColour___init__ : List Str := ["self", "colour"]
theorem sc_BadColour___init__ : FnScope N_BadColour___init__ P_BadColour___init__ (defScope s_BadColour___init__) := ⟨rfl, rfl, rfl, by decide +kernel, rfl, by decide +kernel, by decide +kernel⟩
theorem bd_BadColour___init__ : BindsPlain s_BadColour___init__ "__init__" "BadColour.__init__" P_BadColour___init__ := fun _ _ _ _ _ _ us hl => match us, hl with | [_, _], _ => rfl
abbrev s_TooMany___init__ : Stmt := (inClass (top 8) 0)
abbrev N_TooMany___init__ : List Str := ["self", "most"]
abbrev P_TooMany___init__ : List Str := ["self", "most"]
theorem sc_TooMany___init__ : FnScope N_TooMany___init__ P_TooMany___init__ (defScope s_TooMany___init__) := ⟨rfl, rfl, rfl, by decide +kernel, rfl, by decide +kernel, by decide +kernel⟩
theorem bd_TooMany___init__ : BindsPlain s_TooMany___init__ "__init__" "TooMany.__init__" P_TooMany___init__ := fun _ _ _ _ _ _ us hl => match us, hl with | [_, _], _ => rfl
abbrev s_BadClause___init__ : Stmt := (inClass (top 9) 0)
abbrev N_BadClause___init__ : List Str := ["self", "index", "part"]
abbrev P_BadClause___init__ : List Str := ["self", "index", "part"]
theorem sc_BadClause___init__ : FnScope N_BadClause___init__ P_BadClause___init__ (defScope s_BadClause___init__) := ⟨rfl, rfl, rfl, by decide +kernel, rfl, by decide +kernel, by decide +kernel⟩
theorem bd_BadClause___init__ : BindsPlain s_BadClause___init__ "__init__" "BadClause.__init__" P_BadClause___init__ := fun _ _ _ _ _ _ us hl => match us, hl with | [_, _, _], _ => rfl
abbrev s_Scheme___init__ : Stmt := (inClass (top 14) 2)
abbrev N_Scheme___init__ : List Str := ["self", "rows", "colours", "many", "_"]
abbrev P_Scheme___init__ : List Str := ["self", "rows", "colours"]
theorem sc_Scheme___init__ : FnScope N_Scheme___init__ P_Scheme___init__ (defScope s_Scheme___init__) := ⟨rfl, rfl, rfl, by decide +kernel, rfl, by decide +kernel, by decide +kernel⟩
theorem bd_Scheme___init__ : BindsPlain s_Scheme___init__ "__init__" "Scheme.__init__" P_Scheme___init__ := fun _ _ _ _ _ _ us hl => match us, hl with | [_, _, _], _ => rfl
abbrev s_Scheme___eq__ : Stmt := (inClass (top 14) 3)
abbrev N_Scheme___eq__ : List Str := ["self", "other"]
abbrev P_Scheme___eq__ : List Str := ["self", "other"]
theorem sc_Scheme___eq__ : FnScope N_Scheme___eq__ P_Scheme___eq__ (defScope s_Scheme___eq__) := ⟨rfl, rfl, rfl, by decide +kernel, rfl, by decide +kernel, by decide +kernel⟩
theorem bd_Scheme___eq__ : BindsPlain s_Scheme___eq__ "__eq__" "Scheme.__eq__" P_Scheme___eq__ := fun _ _ _ _ _ _ us hl => match us, hl with | [_, _], _ => rfl
abbrev s_Scheme_is_column : Stmt := (inClass (top 14) 5)
abbrev N_Scheme_is_column : List Str := ["self", "text"]
abbrev P_Scheme_is_column : List Str := ["self", "text"]
theorem sc_Scheme_is_column : FnScope N_Scheme_is_column P_Scheme_is_column (defScope s_Scheme_is_column) := ⟨rfl, rfl, rfl, by decide +kernel, rfl, by decide +kernel, by decide +kernel⟩
theorem bd_Scheme_is_column : BindsPlain s_Scheme_is_column "is_column" "Scheme.is_column" P_Scheme_is_column := fun _ _ _ _ _ _ us hl => match us, hl with | [_, _], _ => rfl
abbrev s_Scheme_is_colour : Stmt := (inClass (top 14) 6)
abbrev N_Scheme_is_colour : List Str := ["self", "text"]
abbrev P_Scheme_is_colour : List Str := ["self", "text"]
theorem sc_Scheme_is_colour : FnScope N_Scheme_is_colour P_Scheme_is_colour (defScope s_Scheme_is_colour) := ⟨rfl, rfl, rfl, by decide +kernel, rfl, by decide +kernel, by decide +kernel⟩
theorem bd_Scheme_is_colour : BindsPlain s_Scheme_is_colour "is_colour" "Scheme.is_colour" P_Scheme_is_colour := fun _ _ _ _ _ _ us hl => match us, hl with | [_, _], _ => rfl
abbrev s_Scheme_spots : Stmt := (inClass (top 14) 9)
abbrev N_Scheme_spots : List Str := ["self", "column", "number", "spots", "_"]
abbrev P_Scheme_spots : List Str := ["self", "column"]
theorem sc_Scheme_spots : FnScope N_Scheme_spots P_Scheme_spots (defScope s_Scheme_spots) := ⟨rfl, rfl, rfl, by decide +kernel, rfl, by decide +kernel, by decide +kernel⟩
theorem bd_Scheme_spots : BindsPlain s_Scheme_spots "spots" "Scheme.spots" P_Scheme_spots := fun _ _ _ _ _ _ us hl => match us, hl with | [_, _], _ => rfl
abbrev s_Scheme_column : Stmt := (inClass (top 14) 10)
abbrev N_Scheme_column : List Str := ["self", "spots", "spot", "number"]
abbrev P_Scheme_column : List Str := ["self", "spots"]
theorem sc_Scheme_column : FnScope N_Scheme_column P_Scheme_column (defScope s_Scheme_column) := ⟨rfl, rfl, rfl, by decide +kernel, rfl, by decide +kernel, by decide +kernel⟩
theorem bd_Scheme_column : BindsPlain s_Scheme_column "column" "Scheme.column" P_Scheme_column := fun _ _ _ _ _ _ us hl => match us, hl with | [_, _], _ => rfl
abbrev s_Rule___init__ : Stmt := (inClass (top 19) 0)
abbrev N_Rule___init__ : List Str := ["self", "scheme", "row", "clauses", "index", "clause", "part"]
abbrev P_Rule___init__ : List Str := ["self", "scheme", "row", "clauses"]
theorem sc_Rule___init__ : FnScope N_Rule___init__ P_Rule___init__ (defScope s_Rule___init__) := ⟨rfl, rfl, rfl, by decide +kernel, rfl, by decide +kernel, by decide +kernel⟩
theorem bd_Rule___init__ : BindsPlain s_Rule___init__ "__init__" "Rule.__init__" P_Rule___init__ := fun _ _ _ _ _ _ us hl => match us, hl with | [_, _, _, _], _ => rfl
abbrev s_Rule_read : Stmt := (inClass (top 19) 1)
abbrev N_Rule_read : List Str := ["cls", "scheme", "text", "row", "colon", "rest", "clauses", "piece", "parts", "ends"]
abbrev P_Rule_read : List Str := ["cls", "scheme", "text"]
theorem sc_Rule_read : FnScope N_Rule_read P_Rule_read (defScope s_Rule_read) := ⟨rfl, rfl, rfl, by decide +kernel, rfl, by decide +kernel, by decide +kernel⟩
theorem bd_Rule_read : BindsPlain s_Rule_read "read" "Rule.read" P_Rule_read := fun _ _ _ _ _ _ us hl => match us, hl with | [_, _, _], _ => rfl
abbrev s_Rule___eq__ : Stmt := (inClass (top 19) 2)
abbrev N_Rule___eq__ : List Str := ["self", "other"]
abbrev P_Rule___eq__ : List Str := ["self", "other"]
theorem sc_Rule___eq__ : FnScope N_Rule___eq__ P_Rule___eq__ (defScope s_Rule___eq__) := ⟨rfl, rfl, rfl, by decide +kernel, rfl, by decide +kernel, by decide +kernel⟩
theorem bd_Rule___eq__ : BindsPlain s_Rule___eq__ "__eq__" "Rule.__eq__" P_Rule___eq__ := fun _ _ _ _ _ _ us hl => match us, hl with | [_, _], _ => rfl
abbrev s_Rule___str__ : Stmt := (inClass (top 19) 3)
abbrev N_Rule___str__ : List Str := ["self", "pieces", "left", "here", "right", "new"]
abbrev P_Rule___str__ : List Str := ["self"]
theorem sc_Rule___str__ : FnScope N_Rule___str__ P_Rule___str__ (defScope s_Rule___str__) := ⟨rfl, rfl, rfl, by decide +kernel, rfl, by decide +kernel, by decide +kernel⟩
theorem bd_Rule___str__ : BindsPlain s_Rule___str__ "__str__" "Rule.__str__" P_Rule___str__ := fun _ _ _ _ _ _ us hl => match us, hl with | [_], _ => rfl
abbrev s_Rule_value : Stmt := (inClass (top 19) 6)
abbrev N_Rule_value : List Str := ["self", "left", "column", "right"]
abbrev P_Rule_value : List Str := ["self", "left", "column", "right"]
theorem sc_Rule_value : FnScope N_Rule_value P_Rule_value (defScope s_Rule_value) := ⟨rfl, rfl, rfl, by decide +kernel, rfl, by decide +kernel, by decide +kernel⟩
theorem bd_Rule_value : BindsPlain s_Rule_value "value" "Rule.value" P_Rule_value := fun _ _ _ _ _ _ us hl => match us, hl with | [_, _, _, _], _ => rfl
abbrev s_signs : Stmt := (top 20)
abbrev N_signs : List Str := ["scheme"]
abbrev P_signs : List Str := ["scheme"]
theorem sc_signs : FnScope N_signs P_signs (defScope s_signs) := ⟨rfl, rfl, rfl, by decide +kernel, rfl, by decide +kernel, by decide +kernel⟩
theorem bd_signs : BindsPlain s_signs "_signs" "_signs" P_signs := fun _ _ _ _ _ _ us hl => match us, hl with | [_], _ => rfl
abbrev s_wrong_part : Stmt := (top 21)
abbrev N_wrong_part : List Str := ["scheme", "clause", "left", "here", "right", "new", "spot"]
abbrev P_wrong_part : List Str := ["scheme", "clause"]
theorem sc_wrong_part : FnScope N_wrong_part P_wrong_part (defScope s_wrong_part) := ⟨rfl, rfl, rfl, by decide +kernel, rfl, by decide +kernel, by decide +kernel⟩
theorem bd_wrong_part : BindsPlain s_wrong_part "_wrong_part" "_wrong_part" P_wrong_part := fun _ _ _ _ _ _ us hl => match us, hl with | [_, _], _ => rfl
abbrev s_are_signs : Stmt := (top 22)
abbrev N_are_signs : List Str := ["scheme", "text", "sign"]
abbrev P_are_signs : List Str := ["scheme", "text"]
theorem sc_are_signs : FnScope N_are_signs P_are_signs (defScope s_are_signs) := ⟨rfl, rfl, rfl, by decide +kernel, rfl, by decide +kernel, by decide +kernel⟩
theorem bd_are_signs : BindsPlain s_are_signs "_are_signs" "_are_signs" P_are_signs := fun _ _ _ _ _ _ us hl => match us, hl with | [_, _], _ => rfl
abbrev s_all_values : Stmt := (top 23)
abbrev N_all_values : List Str := ["scheme", "row", "clauses", "signs", "found", "column", "spots", "fitting", "clause", "left", "beside", "right", "news"]
abbrev P_all_values : List Str := ["scheme", "row", "clauses"]
theorem sc_all_values : FnScope N_all_values P_all_values (defScope s_all_values) := ⟨rfl, rfl, rfl, by decide +kernel, rfl, by decide +kernel, by decide +kernel⟩
theorem bd_all_values : BindsPlain s_all_values "_all_values" "_all_values" P_all_values := fun _ _ _ _ _ _ us hl => match us, hl with | [_, _, _], _ => rfl
abbrev s_fits : Stmt := (top 24)
abbrev N_fits : List Str := ["here", "spots", "wanted", "spot"]
abbrev P_fits : List Str := ["here", "spots"]
theorem sc_fits : FnScope N_fits P_fits (defScope s_fits) := ⟨rfl, rfl, rfl, by decide +kernel, rfl, by decide +kernel, by decide +kernel⟩
theorem bd_fits : BindsPlain s_fits "_fits" "_fits" P_fits := fun _ _ _ _ _ _ us hl => match us, hl with | [_, _], _ => rfl
abbrev s_law_same : Stmt := (top 26)
abbrev N_law_same : List Str := ["actual", "due", "k"]
abbrev P_law_same : List Str := ["actual", "due"]
theorem sc_law_same : FnScope N_law_same P_law_same (defScope s_law_same) := ⟨rfl, rfl, rfl, by decide +kernel, rfl, by decide +kernel, by decide +kernel⟩
theorem bd_law_same : BindsPlain s_law_same "_law_same" "_law_same" P_law_same := fun _ _ _ _ _ _ us hl => match us, hl with | [_, _], _ => rfl
abbrev s_law_bag : Stmt := (top 27)
abbrev N_law_bag : List Str := ["script"]
abbrev P_law_bag : List Str := ["script"]
theorem sc_law_bag : FnScope N_law_bag P_law_bag (defScope s_law_bag) := ⟨rfl, rfl, rfl, by decide +kernel, rfl, by decide +kernel, by decide +kernel⟩
theorem bd_law_bag : BindsPlain s_law_bag "_law_bag" "_law_bag" P_law_bag := fun _ _ _ _ _ _ us hl => match us, hl with | [_], _ => rfl
abbrev s_law_take : Stmt := (top 28)
abbrev N_law_take : List Str := ["bag", "size", "cell", "digit"]
abbrev P_law_take : List Str := ["bag", "size"]
theorem sc_law_take : FnScope N_law_take P_law_take (defScope s_law_take) := ⟨rfl, rfl, rfl, by decide +kernel, rfl, by decide +kernel, by decide +kernel⟩
theorem bd_law_take : BindsPlain s_law_take "_law_take" "_law_take" P_law_take := fun _ _ _ _ _ _ us hl => match us, hl with | [_, _], _ => rfl
abbrev s_law_many : Stmt := (top 29)
abbrev N_law_many : List Str := ["rows", "colours", "many", "k"]
abbrev P_law_many : List Str := ["rows", "colours"]
theorem sc_law_many : FnScope N_law_many P_law_many (defScope s_law_many) := ⟨rfl, rfl, rfl, by decide +kernel, rfl, by decide +kernel, by decide +kernel⟩
theorem bd_law_many : BindsPlain s_law_many "_law_many" "_law_many" P_law_many := fun _ _ _ _ _ _ us hl => match us, hl with | [_, _], _ => rfl
abbrev s_law_spots : Stmt := (top 30)
abbrev N_law_spots : List Str := ["rows", "colours", "column", "number", "text", "k"]
abbrev P_law_spots : List Str := ["rows", "colours", "column"]
theorem sc_law_spots : FnScope N_law_spots P_law_spots (defScope s_law_spots) := ⟨rfl, rfl, rfl, by decide +kernel, rfl, by decide +kernel, by decide +kernel⟩
theorem bd_law_spots : BindsPlain s_law_spots "_law_spots" "_law_spots" P_law_spots := fun _ _ _ _ _ _ us hl => match us, hl with | [_, _, _], _ => rfl
abbrev s_law_new : Stmt := (top 31)
abbrev N_law_new : List Str := ["clauses", "left", "spots", "right", "row", "clause", "fits", "k"]
abbrev P_law_new : List Str := ["clauses", "left", "spots", "right", "row"]
theorem sc_law_new : FnScope N_law_new P_law_new (defScope s_law_new) := ⟨rfl, rfl, rfl, by decide +kernel, rfl, by decide +kernel, by decide +kernel⟩
theorem bd_law_new : BindsPlain s_law_new "_law_new" "_law_new" P_law_new := fun _ _ _ _ _ _ us hl => match us, hl with | [_, _, _, _, _], _ => rfl
abbrev s_law_marks : Stmt := (top 32)
abbrev N_law_marks : List Str := ["bag", "colours", "way", "number", "text", "k", "least", "edge"]
abbrev P_law_marks : List Str := ["bag", "colours", "way"]
theorem sc_law_marks : FnScope N_law_marks P_law_marks (defScope s_law_marks) := ⟨rfl, rfl, rfl, by decide +kernel, rfl, by decide +kernel, by decide +kernel⟩
theorem bd_law_marks : BindsPlain s_law_marks "_law_marks" "_law_marks" P_law_marks := fun _ _ _ _ _ _ us hl => match us, hl with | [_, _, _], _ => rfl
abbrev s_law_clause : Stmt := (top 33)
abbrev N_law_clause : List Str := ["bag", "rows", "colours", "row", "way", "left", "here", "k", "right", "top", "old"]
abbrev P_law_clause : List Str := ["bag", "rows", "colours", "row", "way"]
theorem sc_law_clause : FnScope N_law_clause P_law_clause (defScope s_law_clause) := ⟨rfl, rfl, rfl, by decide +kernel, rfl, by decide +kernel, by decide +kernel⟩
theorem bd_law_clause : BindsPlain s_law_clause "_law_clause" "_law_clause" P_law_clause := fun _ _ _ _ _ _ us hl => match us, hl with | [_, _, _, _, _], _ => rfl
abbrev s_law_clauses : Stmt := (top 34)
abbrev N_law_clauses : List Str := ["bag", "rows", "colours", "row", "way", "count", "k"]
abbrev P_law_clauses : List Str := ["bag", "rows", "colours", "row", "way"]
theorem sc_law_clauses : FnScope N_law_clauses P_law_clauses (defScope s_law_clauses) := ⟨rfl, rfl, rfl, by decide +kernel, rfl, by decide +kernel, by decide +kernel⟩
theorem bd_law_clauses : BindsPlain s_law_clauses "_law_clauses" "_law_clauses" P_law_clauses := fun _ _ _ _ _ _ us hl => match us, hl with | [_, _, _, _, _], _ => rfl
abbrev s_law_piece : Stmt := (top 35)
abbrev N_law_piece : List Str := ["clause"]
abbrev P_law_piece : List Str := ["clause"]
theorem sc_law_piece : FnScope N_law_piece P_law_piece (defScope s_law_piece) := ⟨rfl, rfl, rfl, by decide +kernel, rfl, by decide +kernel, by decide +kernel⟩
theorem bd_law_piece : BindsPlain s_law_piece "_law_piece" "_law_piece" P_law_piece := fun _ _ _ _ _ _ us hl => match us, hl with | [_], _ => rfl
abbrev s_law_text : Stmt := (top 36)
abbrev N_law_text : List Str := ["row", "clauses", "clause"]
abbrev P_law_text : List Str := ["row", "clauses"]
theorem sc_law_text : FnScope N_law_text P_law_text (defScope s_law_text) := ⟨rfl, rfl, rfl, by decide +kernel, rfl, by decide +kernel, by decide +kernel⟩
theorem bd_law_text : BindsPlain s_law_text "_law_text" "_law_text" P_law_text := fun _ _ _ _ _ _ us hl => match us, hl with | [_, _], _ => rfl
abbrev s_law_scheme : Stmt := (top 37)
abbrev N_law_scheme : List Str := ["bag"]
abbrev P_law_scheme : List Str := ["bag"]
theorem sc_law_scheme : FnScope N_law_scheme P_law_scheme (defScope s_law_scheme) := ⟨rfl, rfl, rfl, by decide +kernel, rfl, by decide +kernel, by decide +kernel⟩
theorem bd_law_scheme : BindsPlain s_law_scheme "_law_scheme" "_law_scheme" P_law_scheme := fun _ _ _ _ _ _ us hl => match us, hl with | [_], _ => rfl
abbrev s_law_values : Stmt := (top 38)
abbrev N_law_values : List Str := ["rows", "colours", "row", "clauses", "values", "column", "spots", "left", "right"]
abbrev P_law_values : List Str := ["rows", "colours", "row", "clauses"]
theorem sc_law_values : FnScope N_law_values P_law_values (defScope s_law_values) := ⟨rfl, rfl, rfl, by decide +kernel, rfl, by decide +kernel, by decide +kernel⟩
theorem bd_law_values : BindsPlain s_law_values "_law_values" "_law_values" P_law_values := fun _ _ _ _ _ _ us hl => match us, hl with | [_, _, _, _], _ => rfl
abbrev s_law_holds : Stmt := (top 39)
abbrev N_law_holds : List Str := ["rule", "scheme", "rows", "colours", "row", "clauses", "values", "at", "column", "left", "right"]
abbrev P_law_holds : List Str := ["rule", "scheme", "rows", "colours", "row", "clauses"]
theorem sc_law_holds : FnScope N_law_holds P_law_holds (defScope s_law_holds) := ⟨rfl, rfl, rfl, by decide +kernel, rfl, by decide +kernel, by decide +kernel⟩
theorem bd_law_holds : BindsPlain s_law_holds "_law_holds" "_law_holds" P_law_holds := fun _ _ _ _ _ _ us hl => match us, hl with | [_, _, _, _, _, _], _ => rfl
abbrev s_law_other : Stmt := (top 40)
abbrev N_law_other : List Str := ["bag", "rows", "colours", "row", "clauses", "way", "at", "left", "here", "right", "new", "cut", "halves"]
abbrev P_law_other : List Str := ["bag", "rows", "colours", "row", "clauses"]
theorem sc_law_other : FnScope N_law_other P_law_other (defScope s_law_other) := ⟨rfl, rfl, rfl, by decide +kernel, rfl, by decide +kernel, by decide +kernel⟩
theorem bd_law_other : BindsPlain s_law_other "_law_other" "_law_other" P_law_other := fun _ _ _ _ _ _ us hl => match us, hl with | [_, _, _, _, _], _ => rfl
abbrev s_law_compares : Stmt := (top 41)
abbrev N_law_compares : List Str := ["bag", "rule", "scheme", "rows", "colours", "row", "clauses", "bent", "other", "due", "lower", "stranger"]
abbrev P_law_compares : List Str := ["bag", "rule", "scheme", "rows", "colours", "row", "clauses"]
theorem sc_law_compares : FnScope N_law_compares P_law_compares (defScope s_law_compares) := ⟨rfl, rfl, rfl, by decide +kernel, rfl, by decide +kernel, by decide +kernel⟩
theorem bd_law_compares : BindsPlain s_law_compares "_law_compares" "_law_compares" P_law_compares := fun _ _ _ _ _ _ us hl => match us, hl with | [_, _, _, _, _, _, _], _ => rfl
abbrev s_law_told : Stmt := (top 42)
abbrev N_law_told : List Str := ["e", "found"]
abbrev P_law_told : List Str := ["e"]
theorem sc_law_told : FnScope N_law_told P_law_told (defScope s_law_told) := ⟨rfl, rfl, rfl, by decide +kernel, rfl, by decide +kernel, by decide +kernel⟩
theorem bd_law_told : BindsPlain s_law_told "_law_told" "_law_told" P_law_told := fun _ _ _ _ _ _ us hl => match us, hl with | [_], _ => rfl
abbrev s_law_refuses_values : Stmt := (top 43)
abbrev N_law_refuses_values : List Str := ["bag", "rule", "many", "colours", "wrong", "left", "column", "right", "bad", "due", "told", "e"]
abbrev P_law_refuses_values : List Str := ["bag", "rule", "many", "colours"]
theorem sc_law_refuses_values : FnScope N_law_refuses_values P_law_refuses_values (defScope s_law_refuses_values) := ⟨rfl, rfl, rfl, by decide +kernel, rfl, by decide +kernel, by decide +kernel⟩
theorem bd_law_refuses_values : BindsPlain s_law_refuses_values "_law_refuses_values" "_law_refuses_values" P_law_refuses_values := fun _ _ _ _ _ _ us hl => match us, hl with | [_, _, _, _], _ => rfl
abbrev s_law_bad_side : Stmt := (top 44)
abbrev N_law_bad_side : List Str := ["bag", "colours"]
abbrev P_law_bad_side : List Str := ["bag", "colours"]
theorem sc_law_bad_side : FnScope N_law_bad_side P_law_bad_side (defScope s_law_bad_side) := ⟨rfl, rfl, rfl, by decide +kernel, rfl, by decide +kernel, by decide +kernel⟩
theorem bd_law_bad_side : BindsPlain s_law_bad_side "_law_bad_side" "_law_bad_side" P_law_bad_side := fun _ _ _ _ _ _ us hl => match us, hl with | [_, _], _ => rfl
abbrev s_law_bad_here : Stmt := (top 45)
abbrev N_law_bad_here : List Str := ["bag", "rows", "colours", "near"]
abbrev P_law_bad_here : List Str := ["bag", "rows", "colours"]
theorem sc_law_bad_here : FnScope N_law_bad_here P_law_bad_here (defScope s_law_bad_here) := ⟨rfl, rfl, rfl, by decide +kernel, rfl, by decide +kernel, by decide +kernel⟩
theorem bd_law_bad_here : BindsPlain s_law_bad_here "_law_bad_here" "_law_bad_here" P_law_bad_here := fun _ _ _ _ _ _ us hl => match us, hl with | [_, _, _], _ => rfl
abbrev s_law_bent : Stmt := (top 46)
abbrev N_law_bent : List Str := ["bag", "clause", "rows", "colours", "wrong", "left", "here", "right", "new", "part"]
abbrev P_law_bent : List Str := ["bag", "clause", "rows", "colours"]
theorem sc_law_bent : FnScope N_law_bent P_law_bent (defScope s_law_bent) := ⟨rfl, rfl, rfl, by decide +kernel, rfl, by decide +kernel, by decide +kernel⟩
theorem bd_law_bent : BindsPlain s_law_bent "_law_bent" "_law_bent" P_law_bent := fun _ _ _ _ _ _ us hl => match us, hl with | [_, _, _, _], _ => rfl
abbrev s_law_faulty : Stmt := (top 47)
abbrev N_law_faulty : List Str := ["bag", "rows", "colours", "row", "clauses", "digits", "wrong", "spare", "listed", "due", "at", "later", "bent"]
abbrev P_law_faulty : List Str := ["bag", "rows", "colours", "row", "clauses", "digits"]
theorem sc_law_faulty : FnScope N_law_faulty P_law_faulty (defScope s_law_faulty) := ⟨rfl, rfl, rfl, by decide +kernel, rfl, by decide +kernel, by decide +kernel⟩
theorem bd_law_faulty : BindsPlain s_law_faulty "_law_faulty" "_law_faulty" P_law_faulty := fun _ _ _ _ _ _ us hl => match us, hl with | [_, _, _, _, _, _], _ => rfl
abbrev s_law_refuses_made : Stmt := (top 48)
abbrev N_law_refuses_made : List Str := ["bag", "scheme", "rows", "colours", "row", "clauses", "bad", "listed", "due", "told", "e"]
abbrev P_law_refuses_made : List Str := ["bag", "scheme", "rows", "colours", "row", "clauses"]
theorem sc_law_refuses_made : FnScope N_law_refuses_made P_law_refuses_made (defScope s_law_refuses_made) := ⟨rfl, rfl, rfl, by decide +kernel, rfl, by decide +kernel, by decide +kernel⟩
theorem bd_law_refuses_made : BindsPlain s_law_refuses_made "_law_refuses_made" "_law_refuses_made" P_law_refuses_made := fun _ _ _ _ _ _ us hl => match us, hl with | [_, _, _, _, _, _], _ => rfl
abbrev s_law_malformed : Stmt := (top 49)
abbrev N_law_malformed : List Str := ["bag", "row", "clauses", "pieces", "clause", "way", "bad", "place", "body", "head", "good"]
abbrev P_law_malformed : List Str := ["bag", "row", "clauses"]
theorem sc_law_malformed : FnScope N_law_malformed P_law_malformed (defScope s_law_malformed) := ⟨rfl, rfl, rfl, by decide +kernel, rfl, by decide +kernel, by decide +kernel⟩
theorem bd_law_malformed : BindsPlain s_law_malformed "_law_malformed" "_law_malformed" P_law_malformed := fun _ _ _ _ _ _ us hl => match us, hl with | [_, _, _], _ => rfl
abbrev s_law_refuses_read : Stmt := (top 50)
abbrev N_law_refuses_read : List Str := ["bag", "scheme", "rows", "colours", "row", "clauses", "bad", "listed", "due", "text", "told", "e"]
abbrev P_law_refuses_read : List Str := ["bag", "scheme", "rows", "colours", "row", "clauses"]
theorem sc_law_refuses_read : FnScope N_law_refuses_read P_law_refuses_read (defScope s_law_refuses_read) := ⟨rfl, rfl, rfl, by decide +kernel, rfl, by decide +kernel, by decide +kernel⟩
theorem bd_law_refuses_read : BindsPlain s_law_refuses_read "_law_refuses_read" "_law_refuses_read" P_law_refuses_read := fun _ _ _ _ _ _ us hl => match us, hl with | [_, _, _, _, _, _], _ => rfl
abbrev s_law : Stmt := (top 51)
abbrev N_law : List Str := ["script", "bag", "rows", "colours", "scheme", "row", "way", "clauses", "given", "rule", "sides", "again"]
abbrev P_law : List Str := ["script"]
theorem sc_law : FnScope N_law P_law (defScope s_law) := ⟨rfl, rfl, rfl, by decide +kernel, rfl, by decide +kernel, by decide +kernel⟩
theorem bd_law : BindsPlain s_law "law" "law" P_law := fun _ _ _ _ _ _ us hl => match us, hl with | [_], _ => rfl
structure Ad where
  GalloonError : Addr
  BadScheme : Addr
  BadColumn : Addr
  BadSpots : Addr
  BadRow : Addr
  BadColour : Addr
  TooMany : Addr
  BadClause : Addr
  BadRule : Addr
  Scheme : Addr
  Rule : Addr
def eAd (a : Ad) : Nat → Addr
  | 0 => a.BadScheme
  | 1 => a.BadColumn
  | 2 => a.BadSpots
  | 3 => a.BadRow
  | 4 => a.BadColour
  | 5 => a.TooMany
  | 6 => a.BadClause
  | _ => a.BadRule
structure Txt (K : PySem.W.Frag) (mg : Str → Option Value) (a : Ad) : Prop where
  b_ValueError : mg "ValueError" = none
  b_abs : mg "abs" = none
  b_all : mg "all" = none
  b_bool : mg "bool" = none
  b_classmethod : mg "classmethod" = none
  b_enumerate : mg "enumerate" = none
  b_int : mg "int" = none
  b_isinstance : mg "isinstance" = none
  b_len : mg "len" = none
  b_list : mg "list" = none
  b_ord : mg "ord" = none
  b_range : mg "range" = none
  b_set : mg "set" = none
  b_sorted : mg "sorted" = none
  b_str : mg "str" = none
  b_tuple : mg "tuple" = none
  b_zip : mg "zip" = none
  g_DIGITS : ∃ u, mg "DIGITS" = some u ∧ RelV (.str "012") u
  g_LETTERS : ∃ u, mg "LETTERS" = some u ∧ RelV (.str "abcdefghi") u
  g_MOST_CLAUSES : ∃ u, mg "MOST_CLAUSES" = some u ∧ RelV (.int 6) u
  g_END : ∃ u, mg "END" = some u ∧ RelV (.str "#") u
  g_ANY : ∃ u, mg "ANY" = some u ∧ RelV (.str ".") u
  g_GalloonError : mg "GalloonError" = some (.ref a.GalloonError)
  e_BadScheme : ErrT K mg a.BadScheme "BadScheme" "BadScheme.__init__" "part" s_BadScheme___init__
  x_BadScheme : ErrC K a.BadScheme
  e_BadColumn : ErrT K mg a.BadColumn "BadColumn" "BadColumn.__init__" "text" s_BadColumn___init__
  x_BadColumn : ErrC K a.BadColumn
  e_BadSpots : ErrT K mg a.BadSpots "BadSpots" "BadSpots.__init__" "text" s_BadSpots___init__
  x_BadSpots : ErrC K a.BadSpots
  e_BadRow : ErrT K mg a.BadRow "BadRow" "BadRow.__init__" "row" s_BadRow___init__
  x_BadRow : ErrC K a.BadRow
  e_BadColour : ErrT K mg a.BadColour "BadColour" "BadColour.__init__" "colour" s_BadColour___init__
  x_BadColour : ErrC K a.BadColour
  e_TooMany : ErrT K mg a.TooMany "TooMany" "TooMany.__init__" "most" s_TooMany___init__
  x_TooMany : ErrC K a.TooMany
  e_BadClause : ErrT2 K mg a.BadClause "BadClause" "BadClause.__init__" "index" "part" s_BadClause___init__
  x_BadClause : ErrC K a.BadClause
  z_BadRule : ErrZ K mg a.BadRule "BadRule"
  x_BadRule : ErrC K a.BadRule
  c_Scheme : ClsT K mg a.Scheme "Scheme"
  m_Scheme___init__ : MetT K a.Scheme "__init__" "Scheme.__init__" s_Scheme___init__
  m_Scheme___eq__ : MetT K a.Scheme "__eq__" "Scheme.__eq__" s_Scheme___eq__
  m_Scheme_is_column : MetT K a.Scheme "is_column" "Scheme.is_column" s_Scheme_is_column
  m_Scheme_is_colour : MetT K a.Scheme "is_colour" "Scheme.is_colour" s_Scheme_is_colour
  m_Scheme_spots : MetT K a.Scheme "spots" "Scheme.spots" s_Scheme_spots
  m_Scheme_column : MetT K a.Scheme "column" "Scheme.column" s_Scheme_column
  c_Rule : ClsT K mg a.Rule "Rule"
  m_Rule___init__ : MetT K a.Rule "__init__" "Rule.__init__" s_Rule___init__
  m_Rule_read : CmT K a.Rule "read" "Rule.read" s_Rule_read
  m_Rule___eq__ : MetT K a.Rule "__eq__" "Rule.__eq__" s_Rule___eq__
  m_Rule___str__ : MetT K a.Rule "__str__" "Rule.__str__" s_Rule___str__
  m_Rule_value : MetT K a.Rule "value" "Rule.value" s_Rule_value
  d_signs : DefT K mg "_signs" s_signs
  d_wrong_part : DefT K mg "_wrong_part" s_wrong_part
  d_are_signs : DefT K mg "_are_signs" s_are_signs
  d_all_values : DefT K mg "_all_values" s_all_values
  d_fits : DefT K mg "_fits" s_fits
  d_law_same : DefT K mg "_law_same" s_law_same
  d_law_bag : DefT K mg "_law_bag" s_law_bag
  d_law_take : DefT K mg "_law_take" s_law_take
  d_law_many : DefT K mg "_law_many" s_law_many
  d_law_spots : DefT K mg "_law_spots" s_law_spots
  d_law_new : DefT K mg "_law_new" s_law_new
  d_law_marks : DefT K mg "_law_marks" s_law_marks
  d_law_clause : DefT K mg "_law_clause" s_law_clause
  d_law_clauses : DefT K mg "_law_clauses" s_law_clauses
  d_law_piece : DefT K mg "_law_piece" s_law_piece
  d_law_text : DefT K mg "_law_text" s_law_text
  d_law_scheme : DefT K mg "_law_scheme" s_law_scheme
  d_law_values : DefT K mg "_law_values" s_law_values
  d_law_holds : DefT K mg "_law_holds" s_law_holds
  d_law_other : DefT K mg "_law_other" s_law_other
  d_law_compares : DefT K mg "_law_compares" s_law_compares
  d_law_told : DefT K mg "_law_told" s_law_told
  d_law_refuses_values : DefT K mg "_law_refuses_values" s_law_refuses_values
  d_law_bad_side : DefT K mg "_law_bad_side" s_law_bad_side
  d_law_bad_here : DefT K mg "_law_bad_here" s_law_bad_here
  d_law_bent : DefT K mg "_law_bent" s_law_bent
  d_law_faulty : DefT K mg "_law_faulty" s_law_faulty
  d_law_refuses_made : DefT K mg "_law_refuses_made" s_law_refuses_made
  d_law_malformed : DefT K mg "_law_malformed" s_law_malformed
  d_law_refuses_read : DefT K mg "_law_refuses_read" s_law_refuses_read
  d_law : DefT K mg "law" s_law
  n_rows : NoAttr K a.Scheme "rows"
  n_colours : NoAttr K a.Scheme "colours"
  n_columns : NoAttr K a.Scheme "columns"
  k_MOST : ∃ u, Con K a.Scheme "MOST" (.int 9) u
  k_BLANK : ∃ u, Con K a.Scheme "BLANK" (.str "a") u
  i_ha : PySem.W.findIn K (.ref a.Scheme) "__class__" = some (some (.builtin "object.__class__"))
  i_hn : PySem.W.specialIn K (.builtin "object.__class__") "__get__" = some (some (.builtin "getset_descriptor.__get__"))
  i_ht : PySem.W.takesIn K (.builtin "object.__class__") = some true
  i_hm : PySem.W.mroIn K a.Scheme (.type "object") = some true
  i_own : PySem.W.kitOne K (.ref a.Scheme) (.ref a.Scheme) = some true
  i_int : PySem.W.kitOne K (.type "int") (.ref a.Scheme) = some false
  i_str : PySem.W.kitOne K (.type "str") (.ref a.Scheme) = some false
  i_ni : PySem.W.notFirst K a.Scheme (.type "int") = true
  i_ns : PySem.W.notFirst K a.Scheme (.type "str") = true
  y_scheme : NoAttr K a.Rule "scheme"
  y_row : NoAttr K a.Rule "row"
  y_clauses : NoAttr K a.Rule "clauses"
  y_news : NoAttr K a.Rule "_news"
  y_ha : PySem.W.findIn K (.ref a.Rule) "__class__" = some (some (.builtin "object.__class__"))
  y_hm : PySem.W.mroIn K a.Rule (.type "object") = some true
  y_own : PySem.W.kitOne K (.ref a.Rule) (.ref a.Rule) = some true
  y_int : PySem.W.kitOne K (.type "int") (.ref a.Rule) = some false
  y_str : PySem.W.kitOne K (.type "str") (.ref a.Rule) = some false
  y_ni : PySem.W.notFirst K a.Rule (.type "int") = true
  y_ns : PySem.W.notFirst K a.Rule (.type "str") = true
  kk_e : ∀ i < 8, ∀ j < 8, PySem.W.kitOne K (.ref (eAd a i)) (.ref (eAd a j)) = some (decide (i = j))
  kg_e : ∀ i < 8, PySem.W.kitOne K (.ref (eAd a i)) (.ref a.GalloonError) = some true
  kv_e : ∀ i < 8, PySem.W.kitOne K (.ref (eAd a i)) (.type "ValueError") = some true
  xm_e : ∀ i < 8, PySem.W.exmOne K (.ref (eAd a i)) (.ref a.GalloonError) = some true
  xo_e : ∀ i < 8, ∀ j < 8, PySem.W.exmOne K (.ref (eAd a i)) (.ref (eAd a j)) = some (decide (i = j))
section
variable {P : Program} {w : World} {K : PySem.W.Frag} {mg : Str → Option Value} {base : Heap} {a : Ad}
theorem c_BadScheme (T : Txt K mg a) : CanE P w K mg base a.BadScheme "BadScheme" "part" := canE_of T.e_BadScheme sc_BadScheme___init__ bd_BadScheme___init__ rfl (fun _ _ _ _ _ _ _ => pss_one (ps_ost (pv 0) (pv 1))) rfl
theorem c_BadColumn (T : Txt K mg a) : CanE P w K mg base a.BadColumn "BadColumn" "text" := canE_of T.e_BadColumn sc_BadColumn___init__ bd_BadColumn___init__ rfl (fun _ _ _ _ _ _ _ => pss_one (ps_ost (pv 0) (pv 1))) rfl
theorem c_BadSpots (T : Txt K mg a) : CanE P w K mg base a.BadSpots "BadSpots" "text" := canE_of T.e_BadSpots sc_BadSpots___init__ bd_BadSpots___init__ rfl (fun _ _ _ _ _ _ _ => pss_one (ps_ost (pv 0) (pv 1))) rfl
theorem c_BadRow (T : Txt K mg a) : CanE P w K mg base a.BadRow "BadRow" "row" := canE_of T.e_BadRow sc_BadRow___init__ bd_BadRow___init__ rfl (fun _ _ _ _ _ _ _ => pss_one (ps_ost (pv 0) (pv 1))) rfl
theorem c_BadColour (T : Txt K mg a) : CanE P w K mg base a.BadColour "BadColour" "colour" := canE_of T.e_BadColour sc_BadColour___init__ bd_BadColour___init__ rfl (fun _ _ _ _ _ _ _ => pss_one (ps_ost (pv 0) (pv 1))) rfl
theorem c_TooMany (T : Txt K mg a) : CanE P w K mg base a.TooMany "TooMany" "most" := canE_of T.e_TooMany sc_TooMany___init__ bd_TooMany___init__ rfl (fun _ _ _ _ _ _ _ => pss_one (ps_ost (pv 0) (pv 1))) rfl
theorem c_BadClause (T : Txt K mg a) : CanE2 P w K mg base a.BadClause "BadClause" "index" "part" := canE2_of T.e_BadClause sc_BadClause___init__ bd_BadClause___init__ rfl (fun _ _ _ _ _ _ _ => pss_cons (ps_ost (pv 0) (pv 1)) (pss_one (ps_ost (pv 0) (pv 2)))) rfl
end
end K23

end
section
set_option Elab.async false
set_option linter.all false
set_option maxRecDepth 100000
set_option maxHeartbeats 4000000
namespace K23
open PySem PySem.Spec PyProof.Rows L2 Kit
section
variable {P : Program} {w : World} {K : PySem.W.Frag} {mg : Str → Option Value} {base : Heap} {a : Ad}
def fl (r c n : Nat) : List (Str × V) := [("rows", .int r), ("colours", .int c), ("columns", tx (cols n))]
def SchemeAt (C : Addr) (H : Hp) (p : Addr) (r c n : Nat) : Prop := (∃ dx, H p = some (.ins C dx (fl r c n))) ∧ Good r c n
theorem SchemeAt.mono {C p : Addr} {H G : Hp} {r c n : Nat} (h : SchemeAt C H p r c n) (e : Same H G) : SchemeAt C G p r c n := ⟨let ⟨dx, z⟩ := h.1; ⟨dx, e _ _ z⟩, h.2⟩
theorem fm (x c : Nat) : ((x : Nat) : Int).fmod ((c : Nat) : Int) = ((x % c : Nat) : Int) := by
  rw [Int.fmod_eq_emod_of_nonneg _ (by omega)]
  exact (Int.natCast_emod x c).symm
theorem fd (x c : Nat) : ((x : Nat) : Int).fdiv ((c : Nat) : Int) = ((x / c : Nat) : Int) := by
  rw [Int.fdiv_eq_ediv_of_nonneg _ (by omega)]
  exact (Int.natCast_ediv x c).symm
theorem k1 : (("colours" : Str) == ("rows" : Str)) = false := by decide +kernel
theorem k2 : (("columns" : Str) == ("rows" : Str)) = false := by decide +kernel
theorem k3 : (("columns" : Str) == ("colours" : Str)) = false := by decide +kernel
theorem fl_rows (r c n : Nat) : (fl r c n).lookup ("rows" : Str) = some (.int r) := by
  unfold fl
  rw [List.lookup_cons, beq_self_eq_true]
theorem fl_colours (r c n : Nat) : (fl r c n).lookup ("colours" : Str) = some (.int c) := by
  unfold fl
  rw [List.lookup_cons, k1, List.lookup_cons, beq_self_eq_true]
theorem fl_columns (r c n : Nat) : (fl r c n).lookup ("columns" : Str) = some (tx (cols n)) := by
  unfold fl
  rw [List.lookup_cons, k2, List.lookup_cons, k3, List.lookup_cons, beq_self_eq_true]
theorem fl_no (r c n : Nat) {m : Str} (h1 : (m == ("rows" : Str)) = false) (h2 : (m == ("colours" : Str)) = false) (h3 : (m == ("columns" : Str)) = false) : (fl r c n).lookup m = none := by
  unfold fl
  rw [List.lookup_cons, h1, List.lookup_cons, h2, List.lookup_cons, h3, List.lookup_nil]
theorem lit_dig : (Str.ofString "012") = S [48, 49, 50] := by decide +kernel
theorem lit_e : (Str.ofString "") = S [] := by decide +kernel
def spIsCol (C : Addr) : Sp := fun vs H Q _ => ∃ (p : Addr) (r c n : Nat) (l : List Nat), vs = [.ref p, tx l] ∧ SchemeAt C H p r c n ∧ l.length ≤ 100000 ∧ Q (.bl (isCol n l)) H
theorem one_in {l : List Nat} (h : l.length = 1) : ∃ x, l = [x] := by
  match l, h with
  | [x], _ => exact ⟨x, rfl⟩
theorem c_Scheme_is_column (T : Txt K mg a) : CanM P w K mg base 1 a.Scheme "is_column" (spIsCol a.Scheme) := by
  refine canM_of T.c_Scheme.cl T.m_Scheme_is_column sc_Scheme_is_column bd_Scheme_is_column (fun vs H Q E h => ?_) (fun f cdv A outer s H vs Q E hr h => ?_)
  · obtain ⟨p, r, c, n, l, rfl, _⟩ := h
    rfl
  · obtain ⟨p, r, c, n, l, rfl, ⟨⟨dx, hp⟩, gd⟩, hl, z⟩ := h
    refine ⟨_, (pss_one (ps_ret (pe_and (pe_cmpR op_eq (pe_callB call_len_str (by rfl) T.b_len (by decide +kernel) (pa_cons (pv 1) pa_nil)) pe_int (nomark _)) (pe_one (pe_cmpR op_in_sign (pv 1) (kfld K (pv 0)) (by rfl)))))), ?_⟩
    refine ⟨_, rfl, _, rfl, szl (by rw [S_len]; exact hl), rfl, _, rfl, ?_⟩
    rw [S_len]
    refine ite2 (fun h1 => ?_) (fun h1 => ?_)
    · have h1 : l.length = 1 := by
        have := V.int.inj (of_decide_eq_true h1)
        omega
      obtain ⟨x, rfl⟩ := one_in h1
      refine ⟨_, rfl, _, rfl, p, _, dx, _, _, rfl, hp, T.c_Scheme.cl, T.n_columns, fl_columns r c n, x, _, rfl, rfl, ?_⟩
      have e : isCol n [x] = decide (x ∈ (S (cols n)).cps.toList) := by
        rw [S_cps, isCol, List.all_cons, List.all_nil, Bool.and_true]
        by_cases hx : inCol n x = true
        · rw [hx, decide_eq_true (mem_cols.mpr hx)]
          rfl
        · rw [decide_eq_false (fun q => hx (mem_cols.mp q)), Bool.eq_false_iff.mpr hx]
          rfl
      rw [← e]
      exact z
    · have h1 : ¬ l.length = 1 := fun q => h1 (decide_eq_true (by rw [q]; rfl))
      have e : isCol n l = false := by
        rw [isCol, decide_eq_false h1]
        rfl
      rw [e] at z
      exact z
def spIsColour (C : Addr) : Sp := fun vs H Q _ => ∃ (p : Addr) (r c n : Nat) (l : List Nat), vs = [.ref p, tx l] ∧ SchemeAt C H p r c n ∧ l.length ≤ 100000 ∧ Q (.bl (isColour c l)) H
theorem cut_dig {c : Nat} (h : c = 2 ∨ c = 3) : cutS (Str.ofString "012") none (some (c : Int)) = S ((List.range c).map (48 + ·)) := by
  rcases h with rfl | rfl <;> decide +kernel
theorem mem_digs {c x : Nat} : x ∈ (List.range c).map (48 + ·) ↔ inDig c x = true := by
  unfold inDig
  rw [List.mem_map, decide_eq_true_iff]
  constructor
  · rintro ⟨k, hk, rfl⟩
    have := List.mem_range.mp hk
    omega
  · intro h
    exact ⟨x - 48, List.mem_range.mpr (by omega), by omega⟩
theorem good_c {r c n : Nat} (h : Good r c n) : c = 2 ∨ c = 3 := by
  rcases h.cases with h | h | h | h | h <;> omega
theorem c_Scheme_is_colour (T : Txt K mg a) : CanM P w K mg base 1 a.Scheme "is_colour" (spIsColour a.Scheme) := by
  refine canM_of T.c_Scheme.cl T.m_Scheme_is_colour sc_Scheme_is_colour bd_Scheme_is_colour (fun vs H Q E h => ?_) (fun f cdv A outer s H vs Q E hr h => ?_)
  · obtain ⟨p, r, c, n, l, rfl, _⟩ := h
    rfl
  · obtain ⟨p, r, c, n, l, rfl, ⟨⟨dx, hp⟩, gd⟩, hl, z⟩ := h
    refine ⟨_, (pss_one (ps_ret (pe_and (pe_cmpR op_eq (pe_callB call_len_str (by rfl) T.b_len (by decide +kernel) (pa_cons (pv 1) pa_nil)) pe_int (nomark _)) (pe_one (pe_cmpR op_in_sign (pv 1) (pe_slice sl_str (C8.pe_gc (by rfl) T.g_DIGITS) po_none (po_some (kfld K (pv 0)))) (by rfl)))))), ?_⟩
    refine ⟨_, rfl, _, rfl, szl (by rw [S_len]; exact hl), rfl, _, rfl, ?_⟩
    rw [S_len]
    refine ite2 (fun h1 => ?_) (fun h1 => ?_)
    · have h1 : l.length = 1 := by
        have := V.int.inj (of_decide_eq_true h1)
        omega
      obtain ⟨x, rfl⟩ := one_in h1
      refine ⟨_, rfl, _, rfl, p, _, dx, _, _, rfl, hp, T.c_Scheme.cl, T.n_colours, fl_colours r c n, _, rfl, _, rfl, (by decide +kernel), x, _, rfl, rfl, ?_⟩
      rw [cut_dig (good_c gd)]
      have e : isColour c [x] = decide (x ∈ (S ((List.range c).map (48 + ·))).cps.toList) := by
        rw [S_cps, isColour, List.all_cons, List.all_nil, Bool.and_true]
        by_cases hx : inDig c x = true
        · rw [hx, decide_eq_true (mem_digs.mpr hx)]
          rfl
        · rw [decide_eq_false (fun q => hx (mem_digs.mp q)), Bool.eq_false_iff.mpr hx]
          rfl
      rw [← e]
      exact z
    · have h1 : ¬ l.length = 1 := fun q => h1 (decide_eq_true (by rw [q]; rfl))
      have e : isColour c l = false := by
        rw [isColour, decide_eq_false h1]
        rfl
      rw [e] at z
      exact z
theorem at_S {l : List Nat} {i c : Nat} (h : (S l).cps[i]? = some c) : l[i]? = some c := by
  have z : (S l).cps[i]? = l[i]? := List.getElem?_toArray ..
  rw [← z]
  exact h
theorem beq_col (n x : Nat) : decide (x ∈ (S (cols n)).cps.toList) = inCol n x := by
  rw [S_cps]
  by_cases h : inCol n x = true
  · rw [h, decide_eq_true (mem_cols.mpr h)]
  · rw [decide_eq_false (fun q => h (mem_cols.mp q)), Bool.eq_false_iff.mpr h]
theorem all_map {l : List Nat} {f : Nat → Bool} : (l.map f).all id = l.all f := by
  rw [List.all_map]
  rfl
def col0 (l : List Nat) : Nat := l.headD 0 - 97
theorem good_n {r c n : Nat} (h : Good r c n) : n ≤ 9 ∧ 0 < r ∧ r ≤ 3 ∧ 0 < n ∧ 2 ≤ n := by
  rcases h.cases with h | h | h | h | h <;> omega
theorem atI_S {l : List Nat} {i x : Nat} (h : l[i]? = some x) : atI (S l).cps.toList ((i : Nat) : Int) = some x := by
  rw [S_cps]
  exact atI_nat h
theorem lit_at {k : Nat} (h : k < 3) : atI (Str.ofString "012").cps.toList ((k : Nat) : Int) = some (48 + k) := by
  rw [lit_dig]
  refine atI_S ?_
  have z : ∀ k < 3, [48, 49, 50][k]? = some (48 + k) := by decide
  exact z k h
def spSpots (a : Ad) : Sp := fun vs H Q E => ∃ (p : Addr) (r c n : Nat) (l : List Nat), vs = [.ref p, tx l] ∧ SchemeAt a.Scheme H p r c n ∧ l.length ≤ 100000 ∧ (isCol n l = true → Q (tx (dig r c (col0 l))) H) ∧ (isCol n l = false → Ra E a.BadColumn "text" (tx l) H)
theorem isCol_one {n : Nat} {l : List Nat} (h : isCol n l = true) : ∃ x, l = [x] ∧ inCol n x = true := by
  unfold isCol at h
  rw [Bool.and_eq_true, decide_eq_true_iff] at h
  obtain ⟨x, rfl⟩ := one_in h.1
  exact ⟨x, rfl, by simpa using h.2⟩
theorem ord_ab {n x : Nat} (h : inCol n x = true) : (((S [x]).cps.getD 0 0 : Nat) : Int) - (((Str.ofString "a").cps.getD 0 0 : Nat) : Int) = ((x - 97 : Nat) : Int) := by
  have e1 : (S [x]).cps.getD 0 0 = x := rfl
  have e2 : (Str.ofString "a").cps.getD 0 0 = 97 := by decide +kernel
  rw [e1, e2]
  unfold inCol at h
  rw [decide_eq_true_iff] at h
  omega
theorem int_dig {x : Nat} (h : inDig 3 x = true) : PySem.intText? (S [x]) = some ((x - 48 : Nat) : Int) := by
  unfold inDig at h
  rw [decide_eq_true_iff] at h
  have z : ∀ k < 3, PySem.intText? (S [48 + k]) = some ((k : Nat) : Int) := by decide +kernel
  have y := z (x - 48) (by omega)
  rw [show 48 + (x - 48) = x by omega] at y
  exact y
theorem inDig3 {c x : Nat} (hc : c ≤ 3) (h : inDig c x = true) : inDig 3 x = true := by
  unfold inDig at h ⊢
  rw [decide_eq_true_iff] at h ⊢
  omega
theorem isColour_one (c x : Nat) : isColour c [x] = inDig c x := by
  rw [isColour, List.all_cons, List.all_nil, Bool.and_true]
  rfl
theorem num_take {c : Nat} {l : List Nat} {i x : Nat} (h : l[i]? = some x) : num c (l.take (i + 1)) = num c (l.take i) * c + (x - 48) := by
  unfold num
  rw [List.take_add_one, h, List.foldl_append]
  rfl
theorem all_at {l : List Nat} {f : Nat → Bool} (h : l.all f = true) {i x : Nat} (hx : l[i]? = some x) : f x = true := List.all_eq_true.mp h x (List.mem_of_getElem? hx)
theorem cols_at {n k : Nat} (h : k < n) : atI (S (cols n)).cps.toList ((k : Nat) : Int) = some (97 + k) := by
  refine atI_S ?_
  unfold cols
  rw [List.getElem?_map, List.getElem?_range h]
  rfl
def spCol (a : Ad) : Sp := fun vs H Q E => ∃ (p : Addr) (r c n : Nat) (l : List Nat), vs = [.ref p, tx l] ∧ SchemeAt a.Scheme H p r c n ∧ l.length ≤ 100000 ∧ (isDigs r c l = true → ∀ G, Same H G → Q (tx [97 + num c l]) G) ∧ (isDigs r c l = false → Ra E a.BadSpots "text" (tx l) H)
theorem put_fl (x y : V) (n : Nat) (r c : Nat) : putF "columns" (tx (cols n)) (putF "colours" (.int c) (putF "rows" (.int r) [])) = fl r c n := by
  have e1 : ¬ (("rows" : Str) = "colours") := by decide +kernel
  have e2 : ¬ (("rows" : Str) = "columns") := by decide +kernel
  have e3 : ¬ (("colours" : Str) = "columns") := by decide +kernel
  show putF "columns" _ (if ("rows" : Str) = "colours" then _ else _) = _
  rw [if_neg e1]
  show (if ("rows" : Str) = "columns" then _ else (("rows" : Str), V.int r) :: (if ("colours" : Str) = "columns" then _ else _)) = _
  rw [if_neg e2, if_neg e3]
  rfl
def badPart (r c : Int) : Option (List Nat) := if ¬ (r = 1 ∨ r = 2 ∨ r = 3) then some [114, 111, 119, 115] else if ¬ (c = 2 ∨ c = 3) then some [99, 111, 108, 111, 117, 114, 115] else if r = 3 ∧ c = 3 then some [115, 105, 122, 101] else none
def spInit (a : Ad) : Sp := fun vs H Q E => ∃ (p dx : Addr) (r c : Int), vs = [.ref p, .int r, .int c] ∧ H p = some (.ins a.Scheme dx []) ∧ (∀ l, badPart r c = some l → Ra E a.BadScheme "part" (tx l) H) ∧
  (badPart r c = none → ∀ G, (∀ b o, H b = some o → b ≠ p → G b = some o) → (∃ r' c' n : Nat, (r' : Int) = r ∧ (c' : Int) = c ∧ SchemeAt a.Scheme G p r' c' n) → Q .non G)
theorem c_Scheme_init (T : Txt K mg a) : CanN P w K mg base 3 a.Scheme "Scheme" (spInit a) := by
  refine canN_of T.c_Scheme T.m_Scheme___init__ sc_Scheme___init__ bd_Scheme___init__ (fun vs H Q E h => ?_) (fun f cdv A outer s H vs Q E hr h => ?_)
  · obtain ⟨p, dx, r, c, rfl, _⟩ := h
    rfl
  · obtain ⟨p, dx, r, c, rfl, hp, y, z⟩ := h
    refine ⟨_, (pss_cons (ps_if (pt_cmpR (knotin K) (pv 1) (pe_tup (pa_cons pe_int (pa_cons pe_int (pa_cons pe_int pa_nil)))) (by rfl)) (pss_one (pr_err (c_BadScheme T) (takes_of rfl rfl rfl rfl) (by rfl) hr (by decide) (by rfl) pe_str)) pss_nil)
      (pss_cons (ps_if (pt_cmpR (knotin K) (pv 2) (pe_tup (pa_cons pe_int (pa_cons pe_int pa_nil))) (by rfl)) (pss_one (pr_err (c_BadScheme T) (takes_of rfl rfl rfl rfl) (by rfl) hr (by decide) (by rfl) pe_str)) pss_nil)
      (pss_cons (ps_set (i := 3) sc_Scheme___init__.nd rfl (.inl rfl) pe_int)
      (pss_cons (ps_for (passes_of rfl) (by rfl) (pi_range1 (by rfl) T.b_range (pa_cons (pv 1) pa_nil)) (pg_name (i := 4) sc_Scheme___init__.nd rfl (.inl rfl)) (pss_one (ps_set (i := 3) sc_Scheme___init__.nd rfl (.inl rfl) (pe_op op_mul (pv 3) (pv 2)))))
      (pss_cons (ps_if (pt_cmpR op_gt (pv 3) (kcon K (pv 0)) (nomark _)) (pss_one (pr_err (c_BadScheme T) (takes_of rfl rfl rfl rfl) (by rfl) hr (by decide) (by rfl) pe_str)) pss_nil)
      (pss_cons (ps_fld (pv 0) (pv 1) rfl)
      (pss_cons (ps_fld (pv 0) (pv 2) rfl)
      (pss_one (ps_fld (pv 0) (pe_slice sl_str (C8.pe_gc (by rfl) T.g_LETTERS) po_none (po_some (pv 3))) rfl))))))))), ?_⟩
    have nlit : ∀ s : String, (V.str (Str.ofString s)) = tx (Str.ofString s).cps.toList := fun s => rfl
    have bad : ∀ (l : List Nat) (G : Hp), Same H G → badPart r c = some l → Ra E a.BadScheme "part" (tx l) G := fun l G s e => (y l e).mono s
    refine ⟨_, rfl, by show 3 ≤ sizeLine; decide, fun t ht => ⟨t, _, rfl, .inr (seqT_of upd_same), rfl, rfl, _, rfl, ?_⟩⟩
    have s1 : Same H (upd H t (.tup [.int 1, .int 2, .int 3])) := ex_new ht
    have inr3 : inV (.int r) [.int 1, .int 2, .int 3] = decide (r = 1 ∨ r = 2 ∨ r = 3) := by
      show ((1 : Int) == r || ((2 : Int) == r || ((3 : Int) == r || false))) = _
      by_cases h1 : r = 1
      · subst h1; rfl
      · by_cases h2 : r = 2
        · subst h2; rfl
        · by_cases h3 : r = 3
          · subst h3; rfl
          · simp [h1, h2, h3, Ne.symm h1, Ne.symm h2, Ne.symm h3]
    have inc2 : inV (.int c) [.int 2, .int 3] = decide (c = 2 ∨ c = 3) := by
      show ((2 : Int) == c || ((3 : Int) == c || false)) = _
      by_cases h2 : c = 2
      · subst h2; rfl
      · by_cases h3 : c = 3
        · subst h3; rfl
        · simp [h2, h3, Ne.symm h2, Ne.symm h3]
    rw [inr3]
    by_cases hr3 : r = 1 ∨ r = 2 ∨ r = 3
    · rw [decide_eq_true hr3]
      refine iteF ⟨_, rfl, by show 2 ≤ sizeLine; decide, fun u hu => ⟨u, _, rfl, .inr (seqT_of upd_same), rfl, rfl, _, rfl, ?_⟩⟩
      have s2 := s1.trans (ex_new (o := .tup [.int 2, .int 3]) hu)
      rw [inc2]
      by_cases hc2 : c = 2 ∨ c = 3
      · rw [decide_eq_true hc2]
        obtain ⟨r', rfl⟩ : ∃ r' : Nat, (r' : Int) = r := ⟨r.toNat, by omega⟩
        obtain ⟨c', rfl⟩ : ∃ c' : Nat, (c' : Int) = c := ⟨c.toNat, by omega⟩
        have hr' : r' = 1 ∨ r' = 2 ∨ r' = 3 := by omega
        have hc' : c' = 2 ∨ c' = 3 := by omega
        have pw : ∀ i ≤ 3, (-(2 ^ 64) : Int) < ((c' ^ i : Nat) : Int) ∧ ((c' ^ i : Nat) : Int) < 2 ^ 64 := by
          rcases hc' with rfl | rfl <;> decide
        refine iteF ⟨_, rfl, r', rfl, by omega, by omega, ?_⟩
        refine for_it (walk_range (lo := 0) (n := ((r' : Nat) : Int).toNat)) (fun i σ M => M = upd (upd H t _) u _ ∧ ∃ v : Option V, σ = [some (.ref p), some (.int r'), some (.int c'), some (.int ((c' ^ i : Nat) : Int)), v]) ⟨rfl, none, rfl⟩ (fun _ _ _ _ _ => True.intro) ?_ ?_
        · rintro i x σ M M' hi ⟨rfl, v, rfl⟩ ⟨rfl, rfl⟩
          refine ⟨_, rfl, _, rfl, _, _, rfl, rfl, .inl (pw i (by omega)), rfl, some (.int (0 + (i : Nat))), ?_⟩
          show [_, _, _, some (V.int (((c' ^ i : Nat) : Int) * (c' : Int))), _] = [_, _, _, some (V.int ((c' ^ (i + 1) : Nat) : Int)), _]
          rw [Nat.pow_succ, Int.natCast_mul]
        · rintro σ M ⟨rfl, v, rfl⟩
          have hpM := s2 _ _ hp
          obtain ⟨u9, k9⟩ := T.k_MOST
          refine ⟨_, rfl, _, rfl, p, _, dx, _, _, _, rfl, hpM, T.c_Scheme.cl, k9, rfl, _, _, rfl, rfl, _, rfl, ?_⟩
          rw [show ((r' : Nat) : Int).toNat = r' from rfl]
          by_cases h33 : r' = 3 ∧ c' = 3
          · obtain ⟨rfl, rfl⟩ := h33
            refine iteT (Ra.now ?_)
            rw [show V.str (Str.ofString "size") = tx [115, 105, 122, 101] from congrArg V.str (by decide +kernel)]
            exact bad _ _ s2 rfl
          · have hn : ¬ ((9 : Int) < ((c' ^ r' : Nat) : Int)) := by
              rcases hr' with rfl | rfl | rfl <;> rcases hc' with rfl | rfl <;> first | decide | exact absurd ⟨rfl, rfl⟩ h33
            rw [decide_eq_false hn]
            refine iteF ?_
            refine ⟨_, rfl, _, rfl, p, _, dx, [], rfl, hpM, T.c_Scheme.cl, T.n_rows, by show 0 < 1000; decide, _, rfl, _, rfl, p, _, dx, _, rfl, upd_same, T.c_Scheme.cl, T.n_colours, by show 1 < 1000; decide, _, rfl, _, rfl, _, rfl, by decide +kernel, _, rfl, p, _, dx, _, rfl, upd_same, T.c_Scheme.cl, T.n_columns, by show 2 < 1000; decide, ?_⟩
            have gd : Kit.Good r' c' (c' ^ r') := by
              rcases hr' with rfl | rfl | rfl <;> rcases hc' with rfl | rfl <;> first | decide | exact absurd ⟨rfl, rfl⟩ h33
            have ecut : cutS (Str.ofString "abcdefghi") none (some ((c' ^ r' : Nat) : Int)) = S (cols (c' ^ r')) := by
              rcases hr' with rfl | rfl | rfl <;> rcases hc' with rfl | rfl <;> first | decide +kernel | exact absurd ⟨rfl, rfl⟩ h33
            rw [ecut]
            refine z ?_ _ (fun b o e hb => ?_) ⟨r', c', c' ^ r', rfl, rfl, ⟨dx, ?_⟩, gd⟩
            · unfold badPart
              rw [if_neg (fun q => q hr3), if_neg (fun q => q hc2), if_neg (by omega)]
            · rw [upd_ne hb, upd_ne hb, upd_ne hb]
              exact s2 _ _ e
            · exact upd_same.trans (congrArg (fun l => some (HO.ins a.Scheme dx l)) (put_fl .non .non _ _ _))
      · rw [decide_eq_false hc2]
        refine iteT (Ra.now ?_)
        rw [show V.str (Str.ofString "colours") = tx [99, 111, 108, 111, 117, 114, 115] from congrArg V.str (by decide +kernel)]
        refine bad _ _ s2 ?_
        unfold badPart
        rw [if_neg (fun q => q hr3), if_pos hc2]
    · rw [decide_eq_false hr3]
      refine iteT (Ra.now ?_)
      rw [show V.str (Str.ofString "rows") = tx [114, 111, 119, 115] from congrArg V.str (by decide +kernel)]
      refine bad _ _ s1 ?_
      unfold badPart
      rw [if_pos hr3]
def rowsOf (r c : Nat) (l : List Nat) : List (List Nat) := (List.range r).map fun j => l.map fun x => (dig r c (x - 97)).getD j 0
theorem rowsOf_len (r c : Nat) (l : List Nat) : (rowsOf r c l).length = r := by simp [rowsOf]
theorem isCol_mk {n x : Nat} (h : inCol n x = true) : isCol n [x] = true := by
  rw [isCol, List.all_cons, h]
  rfl
theorem join_eq (s : Str) (l : List Str) : Txt.join s l = Str.join s l := StrLaws.glued_eq_join s l
theorem join_ones : ∀ l : List Nat, Txt.join (S []) (l.map fun x => S [x]) = S l
  | [] => rfl
  | [x] => rfl
  | x :: y :: l => by
    have e := join_ones (y :: l)
    have z : Txt.join (S []) ((x :: y :: l).map fun x => S [x]) = S [x] ++ S [] ++ Txt.join (S []) ((y :: l).map fun x => S [x]) := by
      rw [join_eq, join_eq]
      rfl
    rw [z, e, S_app, S_app]
    rfl
theorem sum_ones (l : List Nat) : ((l.map fun x => S [x]).map (·.length)).sum = l.length := by
  induction l with
  | nil => rfl
  | cons x l ih =>
    rw [List.map_cons, List.map_cons, List.sum_cons, ih, List.length_cons]
    show 1 + l.length = _
    omega
theorem sIx_some (n d k : Nat) : HT.sIx n d (some (k : Int)) = min k n := by
  show (if (k : Int) < 0 then ((k : Int) + (n : Int)).toNat else min (k : Int).toNat n) = _
  rw [if_neg (by omega)]
  rfl
theorem sIx_none (n d : Nat) : HT.sIx n d none = d := rfl
theorem cut_take (l : List Nat) (k : Nat) : cutS (S l) none (some (k : Int)) = S (l.take k) := by
  rw [cut_S, sIx_some, sIx_none, List.drop_zero, Nat.sub_zero]
  congr 1
  by_cases h : k ≤ l.length
  · rw [Nat.min_eq_left h]
  · rw [Nat.min_eq_right (by omega), List.take_length, List.take_of_length_le (by omega)]
theorem cut_drop (l : List Nat) (k : Nat) : cutS (S l) (some (k : Int)) none = S (l.drop k) := by
  rw [cut_S, sIx_some, sIx_none]
  congr 1
  by_cases h : k ≤ l.length
  · rw [Nat.min_eq_left h, List.take_of_length_le (by simp)]
  · rw [Nat.min_eq_right (by omega), List.drop_length, List.drop_of_length_le (by omega), List.take_nil]
theorem getD_at {l : List Nat} {i : Nat} (h : i < l.length) : l[i]? = some (l.getD i 0) := by
  rw [List.getD_eq_getElem?_getD, List.getElem?_eq_getElem h]
  rfl
def spEqS (C : Addr) : Sp := fun vs H Q _ => ∃ (p : Addr) (r c n : Nat) (y : V), vs = [.ref p, y] ∧ SchemeAt C H p r c n ∧
  ((∃ i, y = .int i ∧ Q (.bl false) H) ∨ (∃ t, y = .str t ∧ Q (.bl false) H) ∨ ∃ q r2 c2 n2, y = .ref q ∧ SchemeAt C H q r2 c2 n2 ∧ Q (.bl (decide (r = r2) && decide (c = c2))) H)
theorem c_Scheme_eq (T : Txt K mg a) : CanM P w K mg base 1 a.Scheme "__eq__" (spEqS a.Scheme) := by
  refine canM_of T.c_Scheme.cl T.m_Scheme___eq__ sc_Scheme___eq__ bd_Scheme___eq__ (fun vs H Q E h => ?_) (fun f cdv A outer s H vs Q E hr h => ?_)
  · obtain ⟨p, r, c, n, y, rfl, _⟩ := h
    rfl
  · obtain ⟨p, r, c, n, y, rfl, ⟨⟨dx, hp⟩, gd⟩, z⟩ := h
    refine ⟨_, (pss_one (ps_ret (pe_and (pe_callB (kisi K) (by rfl) T.b_isinstance (by decide +kernel) (pa_cons (pv 1) (pa_cons (pe_glob (v := .ref a.Scheme) (by rfl) T.c_Scheme.gC rfl) pa_nil))) (pe_and (pe_cmpR op_eq (kfld K (pv 0)) (kfld K (pv 1)) (nomark _)) (pe_one (pe_cmpR op_eq (kfld K (pv 0)) (kfld K (pv 1)) (nomark _))))))), ?_⟩
    rcases z with ⟨i, rfl, z⟩ | ⟨t, rfl, z⟩ | ⟨q, r2, c2, n2, rfl, ⟨⟨dy, hq⟩, gd2⟩, z⟩
    · exact ⟨_, rfl, _, _, _, _, false, rfl, .own _, .base (.int i), T.i_int, _, rfl, iteF z⟩
    · exact ⟨_, rfl, _, _, _, _, false, rfl, .own _, .base (.str t), T.i_str, _, rfl, iteF z⟩
    · refine ⟨_, rfl, _, _, _, _, true, rfl, .own _, .base (.ins hq T.c_Scheme.cl T.i_ha T.i_hn T.i_ht T.i_hm), T.i_own, _, rfl, iteT ?_⟩
      refine ⟨_, rfl, p, _, dx, _, _, rfl, hp, T.c_Scheme.cl, T.n_rows, fl_rows r c n, _, rfl, q, _, dy, _, _, rfl, hq, T.c_Scheme.cl, T.n_rows, fl_rows r2 c2 n2, rfl, _, rfl, ?_⟩
      refine ite2 (fun h1 => ?_) (fun h1 => ?_)
      · have h1 : r = r2 := by
          have := V.int.inj (of_decide_eq_true h1)
          omega
        subst h1
        refine ⟨_, rfl, p, _, dx, _, _, rfl, hp, T.c_Scheme.cl, T.n_colours, fl_colours r c n, _, rfl, q, _, dy, _, _, rfl, hq, T.c_Scheme.cl, T.n_colours, fl_colours r c2 n2, rfl, ?_⟩
        have e : decide ((V.int (c : Int)) = V.int (c2 : Int)) = (decide (r = r) && decide (c = c2)) := by
          rw [decide_eq_true (rfl : r = r), Bool.true_and]
          by_cases h : c = c2
          · subst h
            rw [decide_eq_true rfl, decide_eq_true rfl]
          · rw [decide_eq_false h, decide_eq_false fun q => h (by have := V.int.inj q; omega)]
        rw [e]
        exact z
      · have h1 : ¬ r = r2 := fun q => h1 (decide_eq_true (by rw [q]))
        rw [decide_eq_false h1] at z
        exact z
theorem at_of_lt {l : List Nat} {d : Int} (h0 : 0 ≤ d) (h1 : d < l.length) : ∃ x, atI (S l).cps.toList d = some x := by
  have e := atI_S (getD_at (l := l) (i := d.toNat) (by omega))
  rw [show ((d.toNat : Nat) : Int) = d by omega] at e
  exact ⟨_, e⟩
theorem str_at {s : String} {n : Nat} (hs : (Str.ofString s).length = n) {d : Int} (h0 : 0 ≤ d) (h1 : d < n) : ∃ x, atI (Str.ofString s).cps.toList d = some x := by
  obtain ⟨l, hl⟩ := S_of (Str.ofString s)
  rw [hl] at hs ⊢
  rw [S_len] at hs
  exact at_of_lt h0 (by omega)
theorem itN {c : Prop} [Decidable c] {A B : Prop} (h : ¬ c) (x : B) : if c then A else B := by
  rw [if_neg h]
  exact x
theorem neT {x : V} {A B : Prop} (h : B) : if (!decide (x = x)) = true then A else B := itN (by rw [decide_eq_true rfl]; decide) h
theorem free_same {H G : Hp} {q : Addr} (s : Same H G) (h : G q = none) : H q = none := by
  cases e : H q with
  | none => rfl
  | some o =>
    rw [s _ _ e] at h
    cases h
theorem lit_c2 : Str.ofString "ab" = S (cols 2) := by decide +kernel
theorem lit_c3 : Str.ofString "abc" = S (cols 3) := by decide +kernel
theorem lit_c4 : Str.ofString "abcd" = S (cols 4) := by decide +kernel
theorem lit_c8 : Str.ofString "abcdefgh" = S (cols 8) := by decide +kernel
theorem lit_c9 : Str.ofString "abcdefghi" = S (cols 9) := by decide +kernel
theorem cols_in {n k : Nat} (h : k < n) : inCol n (97 + k) = true := by
  rw [← beq_col]
  refine decide_eq_true (List.mem_map.mpr ⟨k, List.mem_range.mpr h, rfl⟩)
theorem cols_ln (n : Nat) : (S (cols n)).length = n := by rw [S_len, cols_len]
theorem c_Scheme_spots (T : Txt K mg a) : CanM P w K mg base 3 a.Scheme "spots" (spSpots a) := by
  refine canM_of T.c_Scheme.cl T.m_Scheme_spots sc_Scheme_spots bd_Scheme_spots (fun vs H Q E h => ?_) (fun f cdv A outer s H vs Q E hr h => ?_)
  · obtain ⟨p, r, c, n, l, rfl, _⟩ := h
    rfl
  · obtain ⟨p, r, c, n, l, rfl, sch, hl, z, y⟩ := h
    refine ⟨_, (pss_cons (ps_if (pt_not (pt_val (pc_m (c_Scheme_is_column T) hr (by decide) (pv 0) (pa_cons (pv 1) pa_nil)))) (pss_one (pr_err (c_BadColumn T) (takes_of rfl rfl rfl rfl) (by rfl) hr (by decide) (by rfl) (pv 1))) pss_nil)
      (pss_cons (ps_set (i := 2) sc_Scheme_spots.nd rfl (.inl rfl) (pe_op op_sub (pe_callB call_ord (by rfl) T.b_ord (by decide +kernel) (pa_cons (pv 1) pa_nil)) (pe_callB call_ord (by rfl) T.b_ord (by decide +kernel) (pa_cons (kcon K (pv 0)) pa_nil))))
      (pss_cons (ps_set (i := 3) sc_Scheme_spots.nd rfl (.inl rfl) pe_str)
      (pss_cons (ps_for (passes_of rfl) (by rfl) (pi_range1 (by rfl) T.b_range (pa_cons (kfld K (pv 0)) pa_nil)) (pg_name (i := 4) sc_Scheme_spots.nd rfl (.inl rfl)) (pss_cons (ps_set (i := 3) sc_Scheme_spots.nd rfl (.inl rfl) (pe_op op_add_str (pe_ix ix_str (C8.pe_gc (by rfl) T.g_DIGITS) (pe_op op_modN (pv 2) (kfld K (pv 0))) (fun _ _ => rfl)) (pv 3)))
      (pss_one (ps_set (i := 2) sc_Scheme_spots.nd rfl (.inl rfl) (pe_op op_fdivN (pv 2) (kfld K (pv 0)))))))
      (pss_one (ps_ret (pv 3))))))), ?_⟩
    obtain ⟨dx, hp⟩ := sch.1
    have gn := good_n sch.2
    have gc := good_c sch.2
    refine ⟨_, rfl, p, dx, _, rfl, hp, fl_no _ _ _ (by decide +kernel) (by decide +kernel) (by decide +kernel), _, rfl, p, r, c, n, l, rfl, sch, hl, _, rfl, ?_⟩
    cases e : isCol n l with
    | false => exact iteT ⟨_, rfl, (y e).now⟩
    | true =>
      refine iteF ?_
      obtain ⟨x, rfl, hx⟩ := isCol_one e
      obtain ⟨u9, k9⟩ := T.k_BLANK
      refine ⟨_, rfl, S [x], rfl, rfl, _, rfl, p, _, dx, _, _, _, rfl, hp, T.c_Scheme.cl, k9, rfl, Str.ofString "a", rfl, rfl, _, _, rfl, rfl, ?_⟩
      · have e9 := ord_ab hx
        dsimp only
        rw [e9]
        refine ⟨_, rfl, p, _, dx, _, _, rfl, hp, T.c_Scheme.cl, T.n_rows, fl_rows r c n, r, rfl, by omega, by omega, ?_⟩
        refine for_it (walk_range (lo := 0) (n := ((r : Nat) : Int).toNat)) (fun i σ G => G = H ∧ ∃ v : Option V, σ = [some (.ref p), some (tx [x]), some (.int (((x - 97) / c ^ i : Nat) : Int)), some (tx (dig i c (x - 97))), v]) ⟨rfl, none, ?_⟩ (fun _ _ _ _ _ => True.intro) ?_ ?_
        · show [_, _, some (V.int ((x - 97 : Nat) : Int)), some (V.str (Str.ofString "")), none] = [_, _, some (V.int (((x - 97) / c ^ 0 : Nat) : Int)), some (tx []), _]
          rw [Nat.pow_zero, Nat.div_one, lit_e]
        · rintro i u σ G G' hi ⟨rfl, v, rfl⟩ ⟨rfl, rfl⟩
          have g2 := gc
          have hm : (x - 97) / c ^ i % c < 3 := by
            have := Nat.mod_lt ((x - 97) / c ^ i) (show 0 < c by omega)
            omega
          refine ⟨_, rfl, _, rfl, p, _, dx, _, _, rfl, hp, T.c_Scheme.cl, T.n_colours, fl_colours r c n, _, _, rfl, rfl, by show (c : Int) ≠ 0; omega, _, _, 48 + (x - 97) / c ^ i % c, rfl, rfl, by decide +kernel, by rw [fm]; exact lit_at hm, _, rfl, S [48 + (x - 97) / c ^ i % c], _, rfl, rfl, ?_, ?_⟩
          · rw [S_len, S_len, dig_len]
            exact szl (by show 1 + i ≤ 100000; omega)
          · refine ⟨_, rfl, _, rfl, p, _, dx, _, _, rfl, hp, T.c_Scheme.cl, T.n_colours, fl_colours r c n, _, _, rfl, rfl, ⟨by omega, by omega⟩, rfl, some (.int (0 + (i : Nat))), ?_⟩
            show [some (V.ref p), some (tx [x]), some (V.int (Int.fdiv (((x - 97) / c ^ i : Nat) : Int) (c : Int))), some (V.str (S [48 + (x - 97) / c ^ i % c] ++ S (dig i c (x - 97)))), _] = _
            rw [fd, S_app, Nat.div_div_eq_div_mul, ← Nat.pow_succ]
            rfl
        · rintro σ G ⟨rfl, v, rfl⟩
          exact ⟨_, rfl, z e⟩
theorem c_Scheme_column (T : Txt K mg a) : CanM P w K mg base 3 a.Scheme "column" (spCol a) := by
  refine canM_of T.c_Scheme.cl T.m_Scheme_column sc_Scheme_column bd_Scheme_column (fun vs H Q E h => ?_) (fun f cdv A outer s H vs Q E hr h => ?_)
  · obtain ⟨p, r, c, n, l, rfl, _⟩ := h
    rfl
  · obtain ⟨p, r, c, n, l, rfl, sch, hl, z, y⟩ := h
    refine ⟨_, (pss_cons (ps_if (PW.pt (pw_or (pt_cmpR op_ne (pe_callB call_len_str (by rfl) T.b_len (by decide +kernel) (pa_cons (pv 1) pa_nil)) (kfld K (pv 0)) (nomark _)) (pw_or1 (pt_not (pt_val (pe_callB (kall K (by rfl)) (by rfl) T.b_all (by decide +kernel) (pa_cons (pe_lc (own := [("spot", 2)]) (g := gName 2) (tt := tYes) (by rfl) sc_Scheme_column.nd (pi_str (pv 1)) (blkOk_by (N := N_Scheme_column) (sc := defScope s_Scheme_column) (by decide +kernel)) (fun _ _ _ _ _ => (pg_name (i := 2) sc_Scheme_column.nd rfl (.inl rfl))) (fun _ _ _ _ _ => pts_nil) (fun _ _ _ _ _ => (pc_m (c_Scheme_is_colour T) hr (by decide) (pv 0) (pa_cons (pv 2) pa_nil)))) pa_nil))))))) (pss_one (pr_err (c_BadSpots T) (takes_of rfl rfl rfl rfl) (by rfl) hr (by decide) (by rfl) (pv 1))) pss_nil)
      (pss_cons (ps_set (i := 3) sc_Scheme_column.nd rfl (.inl rfl) pe_int)
      (pss_cons (ps_for (passes_of rfl) (by rfl) (pi_str (pv 1)) (pg_name (i := 2) sc_Scheme_column.nd rfl (.inl rfl)) (pss_one (ps_set (i := 3) sc_Scheme_column.nd rfl (.inl rfl) (pe_op op_add (pe_op op_mul (pv 3) (kfld K (pv 0))) (pe_callTy call_int_str (by rfl) T.b_int (by decide +kernel) (pa_cons (pv 2) pa_nil))))))
      (pss_one (ps_ret (pe_ix ix_str (kfld K (pv 0)) (pv 3) (fun _ _ => rfl))))))), ?_⟩
    obtain ⟨dx, hp⟩ := sch.1
    have gn := good_n sch.2
    have gc := good_c sch.2
    refine ⟨_, rfl, _, rfl, szl (by rw [S_len]; exact hl), _, rfl, p, _, dx, _, _, rfl, hp, T.c_Scheme.cl, T.n_rows, fl_rows r c n, rfl, _, rfl, ?_⟩
    rw [S_len]
    refine ite2 (fun h1 => ?_) (fun h1 => ?_)
    · refine iteT ⟨_, rfl, (y ?_).now⟩
      unfold isDigs
      rw [Bool.and_eq_false_iff]
      refine .inl (decide_eq_false fun q => ?_)
      rw [q] at h1
      exact absurd h1 (by simp)
    · refine ⟨_, rfl, _, rfl, fun D hD => lc_one walk_str (l.map fun x => V.bl (inDig c x)) (by rw [List.length_map]; exact (S_len l).symm) (by show (S l).length ≤ _; rw [S_len]; exact hl) hD (fun _ _ => True.intro) ?_ ?_⟩
      · rintro i x G G' v hi s1 ⟨rfl, c', hc, rfl⟩ hv
        have hc := at_S hc
        rw [List.getElem?_map, hc] at hv
        cases hv
        obtain ⟨dx, hp⟩ := (sch.mono s1).1
        refine ⟨.refl _, fun Q' q => ⟨_, rfl, p, dx, _, rfl, hp, fl_no _ _ _ (by decide +kernel) (by decide +kernel) (by decide +kernel), _, rfl, p, r, c, n, [c'], rfl, sch.mono s1, by show 1 ≤ 100000; decide, ?_⟩⟩
        rw [isColour_one]
        exact q _ (.refl _)
      · intro G s1 hG
        refine ⟨D, l.map (inDig c), rfl, seqL_of (by rw [List.map_map]; exact hG), ?_⟩
        rw [all_map]
        have hlr : l.length = r := by
          by_cases q : (l.length : Int) = (r : Int)
          · omega
          · exact absurd (by simpa using q) h1
        refine ⟨_, rfl, ?_⟩
        cases e : l.all (inDig c) with
        | false =>
          refine iteT ⟨_, rfl, ((y ?_).mono s1).now⟩
          unfold isDigs
          rw [e, Bool.and_false]
        | true =>
          have hd : isDigs r c l = true := by
            unfold isDigs
            rw [e, Bool.and_true, decide_eq_true hlr]
          refine iteF ?_
          refine ⟨_, rfl, _, rfl, for_it walk_str (fun i σ M => M = G ∧ ∃ v : Option V, σ = [some (.ref p), some (tx l), v, some (.int ((num c (l.take i) : Nat) : Int))]) ⟨rfl, none, rfl⟩ (fun _ _ _ _ _ => True.intro) ?_ ?_⟩
          · rintro i u σ M M' hi ⟨rfl, v, rfl⟩ ⟨rfl, x, hx, rfl⟩
            have hx := at_S hx
            have dx3 := inDig3 (by omega) (all_at e hx)
            obtain ⟨dx, hp⟩ := (sch.mono s1).1
            refine ⟨_, rfl, _, rfl, p, _, dx, _, _, rfl, hp, T.c_Scheme.cl, T.n_colours, fl_colours r c n, _, _, rfl, rfl, .inr ⟨by omega, by omega⟩, _, rfl, S [x], ((x - 48 : Nat) : Int), by rw [S_one], int_dig dx3, by show 1 ≤ 640; decide, ?_⟩
            refine ⟨_, _, rfl, rfl, rfl, some (tx [x]), ?_⟩
            rw [num_take hx]
            show [some (V.ref p), some (tx l), _, some (V.int (((num c (l.take i) : Nat) : Int) * (c : Int) + ((x - 48 : Nat) : Int)))] = [some (V.ref p), some (tx l), _, some (V.int ((num c (l.take i) * c + (x - 48) : Nat) : Int))]
            rw [Int.natCast_add, Int.natCast_mul]
            rfl
          · rintro σ M ⟨rfl, v, rfl⟩
            obtain ⟨dx, hp⟩ := (sch.mono s1).1
            rw [show (S l).cps.size = l.length from S_len l, List.take_of_length_le (Nat.le_refl _)]
            refine ⟨_, rfl, p, _, dx, _, _, rfl, hp, T.c_Scheme.cl, T.n_columns, fl_columns r c n, _, rfl, _, _, 97 + num c l, rfl, rfl, ?_, ?_, z hd _ s1⟩
            · rw [S_len, cols_len]
              exact szl (by omega)
            · exact cols_at (num_lt sch.2 hd)

theorem digs_len {r c : Nat} {l : List Nat} (h : isDigs r c l = true) : l.length = r := by
  unfold isDigs at h
  rw [Bool.and_eq_true, decide_eq_true_iff] at h
  exact h.1
end
end K23


end
section
set_option Elab.async false
set_option linter.all false
set_option maxRecDepth 100000
set_option maxHeartbeats 4000000
/-! Rules: their clauses, values, drift, what grows. Plain facts. -/
namespace K23
open Kit
/-- a clause: its signs to the left, its spots, its signs to the right, its new spot -/
structure Cl where
  l : List Nat
  h : List Nat
  r : List Nat
  new : Nat
/-- the signs: # and the digits -/
def sg (i : Nat) : Nat := if i = 0 then 35 else 47 + i
def sgs (s : Nat) : List Nat := (List.range s).map sg
theorem sg_inj {i j : Nat} (h : sg i = sg j) : i = j := by
  unfold sg at h
  by_cases h1 : i = 0 <;> by_cases h2 : j = 0 <;> simp [h1, h2] at h <;> omega
theorem sg_lt {i j : Nat} (h : i < j) : sg i < sg j := by
  unfold sg
  by_cases h1 : i = 0 <;> by_cases h2 : j = 0 <;> simp [h1, h2] <;> omega
theorem sg_big {i : Nat} (h : 1 ≤ i) : sg i = 47 + i := if_neg (by omega)
theorem sgs_len (s : Nat) : (sgs s).length = s := by unfold sgs; rw [List.length_map, List.length_range]
theorem sgs_at {s i : Nat} (h : i < s) : (sgs s)[i]? = some (sg i) := by unfold sgs; rw [List.getElem?_map, List.getElem?_range h]; rfl
theorem sgs_mem {s x : Nat} : x ∈ sgs s ↔ ∃ i, i < s ∧ x = sg i := by
  unfold sgs
  constructor
  · intro h
    obtain ⟨i, hi, e⟩ := List.mem_map.mp h
    exact ⟨i, List.mem_range.mp hi, e.symm⟩
  · rintro ⟨i, hi, rfl⟩
    exact List.mem_map.mpr ⟨i, List.mem_range.mpr hi, rfl⟩
theorem sgs_pw (s : Nat) : (sgs s).Pairwise (· < ·) := by
  unfold sgs
  rw [List.pairwise_map]
  exact List.pairwise_lt_range.imp fun h => sg_lt h
def okSide (c : Nat) (l : List Nat) : Prop := l ≠ [] ∧ l.Sublist (sgs (c + 1))
structure okCl (r c : Nat) (k : Cl) : Prop where
  l : okSide c k.l
  hl : k.h.length = r
  h : ∀ x ∈ k.h, x = 46 ∨ inDig c x = true
  r : okSide c k.r
  new : inDig c k.new = true
def okCls (r c : Nat) (cs : List Cl) : Prop := ∀ k ∈ cs, okCl r c k
theorem okSide.pw {c : Nat} {l : List Nat} (h : okSide c l) : l.Pairwise (· < ·) := (sgs_pw (c + 1)).sublist h.2
theorem okSide.len {c : Nat} {l : List Nat} (h : okSide c l) : l.length ≤ c + 1 := by have := h.2.length_le; rwa [sgs_len] at this
theorem okSide.pos {c : Nat} {l : List Nat} (h : okSide c l) : 0 < l.length := by
  have := h.1
  cases l with
  | nil => exact absurd rfl this
  | cons _ _ => exact Nat.succ_pos _
theorem okSide.mem {c : Nat} {l : List Nat} (h : okSide c l) {x : Nat} (hx : x ∈ l) : ∃ i, i < c + 1 ∧ x = sg i := sgs_mem.mp (h.2.subset hx)
def fitsC (h sp : List Nat) : Bool := (h.zip sp).all fun p => decide (p.1 = 46) || decide (p.1 = p.2)
def hit (l : Nat) (sp : List Nat) (q : Nat) (k : Cl) : Bool := (decide (q ∈ k.r) && decide (l ∈ k.l)) && fitsC k.h sp
def valOf (row : Nat) (cs : List Cl) (l : Nat) (sp : List Nat) (q : Nat) : Nat := match cs.find? (hit l sp q) with
  | some k => k.new
  | none => sp.getD row 0
/-- as the program looks for it -/
def news (cs : List Cl) (l : Nat) (sp : List Nat) (q : Nat) : List Cl := ((cs.filter fun k => fitsC k.h sp).filter fun k => decide (l ∈ k.l)).filter fun k => decide (q ∈ k.r)
theorem news_eq (cs : List Cl) (l : Nat) (sp : List Nat) (q : Nat) : news cs l sp q = cs.filter (hit l sp q) := by
  unfold news
  rw [List.filter_filter, List.filter_filter]
  refine List.filter_congr fun k _ => ?_
  unfold hit
  cases fitsC k.h sp <;> cases decide (l ∈ k.l) <;> cases decide (q ∈ k.r) <;> rfl
theorem val_nil {row : Nat} {cs : List Cl} {l : Nat} {sp : List Nat} {q : Nat} (h : news cs l sp q = []) : valOf row cs l sp q = sp.getD row 0 := by
  unfold valOf
  rw [← List.head?_filter, ← news_eq, h]
  rfl
theorem val_cons {row : Nat} {cs : List Cl} {l : Nat} {sp : List Nat} {q : Nat} {k : Cl} {r : List Cl} (h : news cs l sp q = k :: r) : valOf row cs l sp q = k.new := by
  unfold valOf
  rw [← List.head?_filter, ← news_eq, h]
  rfl
theorem val_in {R C row : Nat} {cs : List Cl} {l : Nat} {sp : List Nat} {q : Nat} (ok : okCls R C cs) (hs : isDigs R C sp = true) (hr : row < R) : inDig C (valOf row cs l sp q) = true := by
  unfold valOf
  cases h : cs.find? (hit l sp q) with
  | some k => exact (ok k (List.mem_of_find?_eq_some h)).new
  | none =>
    show inDig C (sp.getD row 0) = true
    unfold isDigs at hs
    rw [Bool.and_eq_true, decide_eq_true_iff] at hs
    have e : sp[row]? = some (sp.getD row 0) := by rw [List.getD_eq_getElem?_getD, List.getElem?_eq_getElem (by omega)]; rfl
    exact List.all_eq_true.mp hs.2 _ (List.mem_of_getElem? e)
/-! ### looks by their number: a column, a left sign, a right sign -/
def idx (s x i j : Nat) : Nat := (x * s + i) * s + j
def lx (s m : Nat) : Nat := m / s / s
def li (s m : Nat) : Nat := m / s % s
def lj (s m : Nat) : Nat := m % s
theorem idx_parts {s x i j : Nat} (hi : i < s) (hj : j < s) : lx s (idx s x i j) = x ∧ li s (idx s x i j) = i ∧ lj s (idx s x i j) = j := by
  have hs : 0 < s := by omega
  have e : idx s x i j / s = x * s + i := by
    unfold idx
    rw [Nat.mul_comm, Nat.mul_add_div hs, Nat.div_eq_of_lt hj, Nat.add_zero]
  have e2 : (x * s + i) / s = x := by rw [Nat.mul_comm, Nat.mul_add_div hs, Nat.div_eq_of_lt hi, Nat.add_zero]
  refine ⟨?_, ?_, ?_⟩
  · unfold lx; rw [e, e2]
  · unfold li; rw [e, Nat.mul_comm, Nat.mul_add_mod, Nat.mod_eq_of_lt hi]
  · unfold lj idx; rw [Nat.mul_comm, Nat.mul_add_mod, Nat.mod_eq_of_lt hj]
theorem idx_of {s m : Nat} : idx s (lx s m) (li s m) (lj s m) = m := by
  unfold idx lx li lj
  rw [Nat.mul_comm (m / s / s), Nat.div_add_mod, Nat.mul_comm, Nat.div_add_mod]
theorem li_lt {s m : Nat} (h : 0 < s) : li s m < s := Nat.mod_lt _ h
theorem lj_lt {s m : Nat} (h : 0 < s) : lj s m < s := Nat.mod_lt _ h
theorem idx_lt {s n x i j : Nat} (hx : x < n) (hi : i < s) (hj : j < s) : idx s x i j < n * s * s := by
  unfold idx
  have h1 : x * s + i < n * s := by
    have : (x + 1) * s ≤ n * s := Nat.mul_le_mul_right s hx
    rw [Nat.add_mul] at this
    omega
  have : (x * s + i + 1) * s ≤ n * s * s := Nat.mul_le_mul_right s h1
  rw [Nat.add_mul] at this
  omega
theorem lx_lt {s n m : Nat} (h : m < n * s * s) : lx s m < n := by
  unfold lx
  rw [Nat.div_div_eq_div_mul]
  exact Nat.div_lt_of_lt_mul (by rw [Nat.mul_comm, ← Nat.mul_assoc]; exact h)
/-- the value of the look m -/
def W (R C row : Nat) (cs : List Cl) (m : Nat) : Nat := valOf row cs (sg (li (C + 1) m)) (dig R C (lx (C + 1) m)) (sg (lj (C + 1) m))
def old (R C row m : Nat) : Nat := (dig R C (lx (C + 1) m)).getD row 0
def total (n C : Nat) : Nat := n * (C + 1) * (C + 1)
theorem W_in {R C n row : Nat} {cs : List Cl} (g : Good R C n) (ok : okCls R C cs) (hr : row < R) (m : Nat) : inDig C (W R C row cs m) = true := by
  have hc : 0 < C := by
    unfold Good at g
    simp at g
    omega
  exact val_in ok (dig_digs hc) hr
/-! ### drift -/
def ups (R C n row : Nat) (cs : List Cl) : Bool := (List.range (total n C)).any fun m => decide (old R C row m < W R C row cs m)
def downs (R C n row : Nat) (cs : List Cl) : Bool := (List.range (total n C)).any fun m => decide (W R C row cs m < old R C row m)
def driftT (u d : Bool) : String := if u && d then "mixed" else if u then "up" else if d then "down" else "still"
/-! ### what grows -/
/-- the column whose spot in the row is one greater -/
def upX (R C row x : Nat) : Nat := num C ((dig R C x).set row ((dig R C x).getD row 0 + 1))
def grown (R C row m : Nat) : List Nat :=
  (if 1 ≤ li (C + 1) m ∧ li (C + 1) m < C then [idx (C + 1) (lx (C + 1) m) (li (C + 1) m + 1) (lj (C + 1) m)] else []) ++
  (if old R C row m + 1 < 48 + C then [idx (C + 1) (upX R C row (lx (C + 1) m)) (li (C + 1) m) (lj (C + 1) m)] else []) ++
  (if 1 ≤ lj (C + 1) m ∧ lj (C + 1) m < C then [idx (C + 1) (lx (C + 1) m) (li (C + 1) m) (lj (C + 1) m + 1)] else [])
def monoB (R C n row : Nat) (cs : List Cl) : Bool := (List.range (total n C)).all fun m => (grown R C row m).all fun g => !decide (W R C row cs g < W R C row cs m)
/-- pairs of signs, the first not above the second -/
def leS (C i j : Nat) : Prop := (i = 0 ∧ j = 0) ∨ (1 ≤ i ∧ i ≤ j ∧ j ≤ C)
/-- columns that differ in the row alone, the first not above the second -/
def leX (R C row p q : Nat) : Prop := (dig R C p).take row ++ (dig R C p).drop (row + 1) = (dig R C q).take row ++ (dig R C q).drop (row + 1) ∧ (dig R C p).getD row 0 ≤ (dig R C q).getD row 0
def monoP (R C n row : Nat) (cs : List Cl) : Prop := ∀ p < n, ∀ q < n, leX R C row p q → ∀ i j, leS C i j → ∀ k l, leS C k l → W R C row cs (idx (C + 1) p i k) ≤ W R C row cs (idx (C + 1) q j l)
theorem chain_le (f : Nat → Nat) : ∀ (k a : Nat), (∀ t, a ≤ t → t < a + k → f t ≤ f (t + 1)) → f a ≤ f (a + k)
  | 0, a, _ => Nat.le_refl _
  | k + 1, a, h => by
    have h1 := chain_le f k a fun t h1 h2 => h t h1 (by omega)
    exact Nat.le_trans h1 (h (a + k) (by omega) (by omega))
theorem chain_to (f : Nat → Nat) {a b : Nat} (hab : a ≤ b) (h : ∀ t, a ≤ t → t < b → f t ≤ f (t + 1)) : f a ≤ f b := by
  have := chain_le f (b - a) a fun t h1 h2 => h t h1 (by omega)
  rwa [show a + (b - a) = b by omega] at this
/-- the column x with the digit d in the row -/
def setX (R C row x d : Nat) : Nat := num C ((dig R C x).set row d)
theorem dig_set {R C n row x d : Nat} (g : Good R C n) (hr : row < R) (hd : inDig C d = true) : isDigs R C ((dig R C x).set row d) = true := by
  have hc : 0 < C := by
    unfold Good at g
    simp at g
    omega
  have h0 := dig_digs (r := R) (c := C) (k := x) hc
  unfold isDigs at h0 ⊢
  rw [Bool.and_eq_true, decide_eq_true_iff] at h0 ⊢
  refine ⟨by rw [List.length_set]; exact h0.1, List.all_eq_true.mpr fun y hy => ?_⟩
  rcases List.mem_or_eq_of_mem_set hy with h | h
  · exact List.all_eq_true.mp h0.2 y h
  · rw [h]; exact hd
theorem setX_dig {R C n row x d : Nat} (g : Good R C n) (hr : row < R) (hd : inDig C d = true) : dig R C (setX R C row x d) = (dig R C x).set row d := dig_num g (dig_set g hr hd)
theorem setX_lt {R C n row x d : Nat} (g : Good R C n) (hr : row < R) (hd : inDig C d = true) : setX R C row x d < n := num_lt g (dig_set g hr hd)
theorem good_pos {R C n : Nat} (g : Good R C n) : 0 < C ∧ C ≤ 3 ∧ 0 < R ∧ R ≤ 3 ∧ 2 ≤ C := by
  unfold Good at g
  simp at g
  omega
theorem mono_iff {R C n row : Nat} {cs : List Cl} (g : Good R C n) (hr : row < R) : monoB R C n row cs = true ↔ monoP R C n row cs := by
  obtain ⟨c0, c3, r0, r3, c2⟩ := good_pos g
  have hs : 0 < C + 1 := by omega
  have dl : ∀ x, (dig R C x).length = R := fun x => dig_len R C x
  have inr : ∀ x, inDig C ((dig R C x).getD row 0) = true := fun x => by
    have h0 := dig_digs (r := R) (c := C) (k := x) c0
    unfold isDigs at h0
    rw [Bool.and_eq_true] at h0
    have e : (dig R C x)[row]? = some ((dig R C x).getD row 0) := by rw [List.getD_eq_getElem?_getD, List.getElem?_eq_getElem (by rw [dl]; exact hr)]; rfl
    exact List.all_eq_true.mp h0.2 _ (List.mem_of_getElem? e)
  have dg : ∀ d, inDig C d = true ↔ 48 ≤ d ∧ d < 48 + C := fun d => by unfold inDig; rw [decide_eq_true_iff]
  constructor
  · intro h p hp q hq ⟨e, hpq⟩ i j hij k l hkl
    have st : ∀ m, m < total n C → ∀ y ∈ grown R C row m, W R C row cs m ≤ W R C row cs y := fun m hm y hy => by
      have a := List.all_eq_true.mp (List.all_eq_true.mp h m (List.mem_range.mpr hm)) y hy
      simp at a
      exact a
    have hil : i < C + 1 ∧ j < C + 1 := by rcases hij with ⟨rfl, rfl⟩ | ⟨_, _, _⟩ <;> omega
    have hkl' : k < C + 1 ∧ l < C + 1 := by rcases hkl with ⟨rfl, rfl⟩ | ⟨_, _, _⟩ <;> omega
    -- the left sign
    have s1 : W R C row cs (idx (C + 1) p i k) ≤ W R C row cs (idx (C + 1) p j k) := by
      rcases hij with ⟨rfl, rfl⟩ | ⟨h1, h2, h3⟩
      · exact Nat.le_refl _
      · refine chain_to (fun t => W R C row cs (idx (C + 1) p t k)) h2 fun t t1 t2 => ?_
        have ip := idx_parts (s := C + 1) (x := p) (i := t) (j := k) (by omega) hkl'.1
        refine st _ (idx_lt hp (by omega) hkl'.1) _ ?_
        unfold grown
        rw [ip.1, ip.2.1, ip.2.2, if_pos ⟨by omega, by omega⟩]
        exact List.mem_append_left _ (List.mem_append_left _ (List.mem_singleton.mpr rfl))
    -- the column
    have s2 : W R C row cs (idx (C + 1) p j k) ≤ W R C row cs (idx (C + 1) q j k) := by
      have eq : q = setX R C row p ((dig R C q).getD row 0) := by
        have e2 : (dig R C p).set row ((dig R C q).getD row 0) = dig R C q := by
          have ep : (dig R C p).set row ((dig R C q).getD row 0) = (dig R C p).take row ++ (dig R C q).getD row 0 :: (dig R C p).drop (row + 1) := List.set_eq_take_append_cons_drop .. |>.trans (if_pos (by rw [dl]; exact hr))
          have lt : ((dig R C p).take row).length = ((dig R C q).take row).length := by rw [List.length_take, List.length_take, dl, dl]
          obtain ⟨e3, e4⟩ := List.append_inj e lt
          rw [ep, e3, e4]
          have e5 : (dig R C q).take row ++ (dig R C q).getD row 0 :: (dig R C q).drop (row + 1) = dig R C q := by
            have e6 : (dig R C q).getD row 0 = (dig R C q)[row]'(by rw [dl]; exact hr) := by rw [List.getD_eq_getElem?_getD, List.getElem?_eq_getElem (by rw [dl]; exact hr)]; rfl
            rw [e6, ← List.drop_eq_getElem_cons, List.take_append_drop]
          exact e5
        unfold setX
        rw [e2, num_dig g hq]
      have hself : p = setX R C row p ((dig R C p).getD row 0) := by
        have e6 : (dig R C p).set row ((dig R C p).getD row 0) = dig R C p := by
          have e7 : (dig R C p).getD row 0 = (dig R C p)[row]'(by rw [dl]; exact hr) := by rw [List.getD_eq_getElem?_getD, List.getElem?_eq_getElem (by rw [dl]; exact hr)]; rfl
          rw [e7, List.set_getElem_self]
        unfold setX
        rw [e6, num_dig g hp]
      have ch := chain_to (fun d => W R C row cs (idx (C + 1) (setX R C row p d) j k)) hpq fun d d1 d2 => ?_
      · have a1 : W R C row cs (idx (C + 1) p j k) = W R C row cs (idx (C + 1) (setX R C row p ((dig R C p).getD row 0)) j k) := by rw [← hself]
        have a2 : W R C row cs (idx (C + 1) q j k) = W R C row cs (idx (C + 1) (setX R C row p ((dig R C q).getD row 0)) j k) := by rw [← eq]
        rw [a1, a2]
        exact ch
      · have b1 := (dg _).mp (inr p)
        have b2 := (dg _).mp (inr q)
        have hd : inDig C d = true := (dg d).mpr (by omega)
        have hd1 : inDig C (d + 1) = true := (dg _).mpr (by omega)
        have ip := idx_parts (s := C + 1) (x := setX R C row p d) (i := j) (j := k) hil.2 hkl'.1
        refine st _ (idx_lt (setX_lt g hr hd) hil.2 hkl'.1) _ ?_
        have o : old R C row (idx (C + 1) (setX R C row p d) j k) = d := by
          unfold old
          rw [ip.1, setX_dig g hr hd, List.getD_eq_getElem?_getD, List.getElem?_set_self (by rw [dl]; exact hr)]
          rfl
        have u : upX R C row (setX R C row p d) = setX R C row p (d + 1) := by
          unfold upX
          rw [setX_dig g hr hd, List.getD_eq_getElem?_getD, List.getElem?_set_self (by rw [dl]; exact hr), List.set_set]
          rfl
        unfold grown
        rw [o, ip.1, ip.2.1, ip.2.2, u, if_pos (show d + 1 < 48 + C by omega)]
        exact List.mem_append_left _ (List.mem_append_right _ (List.mem_singleton.mpr rfl))
    -- the right sign
    have s3 : W R C row cs (idx (C + 1) q j k) ≤ W R C row cs (idx (C + 1) q j l) := by
      rcases hkl with ⟨rfl, rfl⟩ | ⟨h1, h2, h3⟩
      · exact Nat.le_refl _
      · refine chain_to (fun t => W R C row cs (idx (C + 1) q j t)) h2 fun t t1 t2 => ?_
        have ip := idx_parts (s := C + 1) (x := q) (i := j) (j := t) hil.2 (by omega)
        refine st _ (idx_lt hq hil.2 (by omega)) _ ?_
        unfold grown
        rw [ip.1, ip.2.1, ip.2.2, if_pos (show 1 ≤ t ∧ t < C by omega)]
        exact List.mem_append_right _ (List.mem_singleton.mpr rfl)
    exact Nat.le_trans s1 (Nat.le_trans s2 s3)
  · intro h
    refine List.all_eq_true.mpr fun m hm => List.all_eq_true.mpr fun y hy => ?_
    have hm := List.mem_range.mp hm
    have hx : lx (C + 1) m < n := lx_lt hm
    have hi := li_lt (m := m) hs
    have hj := lj_lt (m := m) hs
    have em := idx_of (s := C + 1) (m := m)
    have sameX : ∀ x, leX R C row x x := fun x => ⟨rfl, Nat.le_refl _⟩
    have sameS : ∀ i, i < C + 1 → leS C i i := fun i hi => by
      unfold leS
      by_cases h0 : i = 0
      · exact .inl ⟨h0, h0⟩
      · exact .inr ⟨by omega, Nat.le_refl _, by omega⟩
    have key : W R C row cs m ≤ W R C row cs y := by
      unfold grown at hy
      rcases List.mem_append.mp hy with hy | hy
      · rcases List.mem_append.mp hy with hy | hy
        · by_cases c : 1 ≤ li (C + 1) m ∧ li (C + 1) m < C
          · rw [if_pos c, List.mem_singleton] at hy
            have := h _ hx _ hx (sameX _) (li (C + 1) m) (li (C + 1) m + 1) (.inr ⟨c.1, by omega, by omega⟩) _ _ (sameS _ hj)
            rw [em] at this
            rw [hy]
            exact this
          · rw [if_neg c] at hy
            cases hy
        · by_cases c : old R C row m + 1 < 48 + C
          · rw [if_pos c, List.mem_singleton] at hy
            have hd1 : inDig C ((dig R C (lx (C + 1) m)).getD row 0 + 1) = true := (dg _).mpr ⟨by have := (dg _).mp (inr (lx (C + 1) m)); omega, c⟩
            have up : dig R C (upX R C row (lx (C + 1) m)) = (dig R C (lx (C + 1) m)).set row ((dig R C (lx (C + 1) m)).getD row 0 + 1) := setX_dig g hr hd1
            have := h _ hx _ (setX_lt (x := lx (C + 1) m) g hr hd1) ⟨?_, ?_⟩ _ _ (sameS _ hi) _ _ (sameS _ hj)
            · rw [em] at this
              rw [hy]
              exact this
            · rw [setX_dig g hr hd1, List.take_set_of_le (Nat.le_refl _), List.drop_set_of_lt (by omega)]
            · rw [setX_dig g hr hd1]
              rw [show ((dig R C (lx (C + 1) m)).set row ((dig R C (lx (C + 1) m)).getD row 0 + 1)).getD row 0 = (dig R C (lx (C + 1) m)).getD row 0 + 1 by
                rw [List.getD_eq_getElem?_getD, List.getElem?_set_self (by rw [dl]; exact hr)]; rfl]
              omega
          · rw [if_neg c] at hy
            cases hy
      · by_cases c : 1 ≤ lj (C + 1) m ∧ lj (C + 1) m < C
        · rw [if_pos c, List.mem_singleton] at hy
          have := h _ hx _ hx (sameX _) _ _ (sameS _ hi) (lj (C + 1) m) (lj (C + 1) m + 1) (.inr ⟨c.1, by omega, by omega⟩)
          rw [em] at this
          rw [hy]
          exact this
        · rw [if_neg c] at hy
          cases hy
    simp
    exact key
/-! ### spare clauses -/
def sameW (R C n row : Nat) (cs ds : List Cl) : Bool := (List.range (total n C)).all fun m => decide (W R C row cs m = W R C row ds m)
def spare (R C n row : Nat) (cs : List Cl) : List Nat := (List.range cs.length).filter fun k => sameW R C n row (cs.eraseIdx k) cs
end K23

end
section
set_option Elab.async false
set_option linter.all false
set_option maxRecDepth 100000
set_option maxHeartbeats 4000000
namespace K23
open PySem PySem.Spec PyProof.Rows L2 Kit
section
variable {P : Program} {w : World} {K : PySem.W.Frag} {mg : Str → Option Value} {base : Heap} {a : Ad}
theorem lit_any : (Str.ofString ".") = S [46] := by decide +kernel
theorem lit_end : (Str.ofString "#") = S [35] := by decide +kernel
theorem str1 {x y : Nat} : decide (V.str (S [x]) = V.str (S [y])) = decide (x = y) := by
  by_cases h : x = y
  · rw [h, decide_eq_true rfl, decide_eq_true rfl]
  · rw [decide_eq_false h, decide_eq_false]
    intro e
    exact h (List.cons.inj (S_inj (V.str.inj e))).1
theorem signs_S (l : List Nat) : Kit.signs (S l) = l.map fun x => tx [x] := rfl
def spFits : Sp := fun vs H Q _ => ∃ h sp : List Nat, vs = [tx h, tx sp] ∧ h.length = sp.length ∧ sp.length ≤ 10 ∧ ∀ G, Same H G → Q (.bl (fitsC h sp)) G
theorem c_fits (T : Txt K mg a) : Can P w K mg base 1 "_fits" spFits := by
  refine can_of T.d_fits sc_fits bd_fits (fun vs H Q E h => ?_) (fun f cdv A outer s0 H vs Q E hr h => ?_)
  · obtain ⟨h, sp, rfl, _⟩ := h
    rfl
  · obtain ⟨h, sp, rfl, hl, hn, z⟩ := h
    refine ⟨_, (pss_one (ps_ret (pe_callB (kall K (by rfl)) (by rfl) T.b_all (by decide +kernel) (pa_cons (pe_lc (own := [("wanted", 2), ("spot", 3)]) (g := (gTup _ 2 (gCons (gName 2) (gCons (gName 3) gNil)))) (tt := tYes) (by rfl) sc_fits.nd (pi_zipZ (by rfl) T.b_zip (pa_cons (pv 0) (pa_cons (pv 1) pa_nil))) (blkOk_by (N := N_fits) (sc := defScope s_fits) (by decide +kernel)) (fun _ _ _ _ _ => (pg_tup rfl (pgs_cons (pg_name (i := 2) sc_fits.nd rfl (.inl rfl)) (pgs_cons (pg_name (i := 3) sc_fits.nd rfl (.inl rfl)) pgs_nil)))) (fun _ _ _ _ _ => pts_nil) (fun _ _ _ _ _ => (pe_or (pe_cmpR op_eq (pv 2) (C8.pe_gc (by rfl) T.g_ANY) (nomark _)) (pe_one (pe_cmpR op_eq (pv 2) (pv 3) (nomark _)))))) pa_nil)))), ?_⟩
    refine ⟨_, rfl, _, rfl, .T (S h), .T (S sp), _, _, rfl, rfl, rfl, fun D hD => lc_two (walk_Z (n := sp.length) (by rw [signs_S, signs_S, List.length_map, List.length_map, hl, Nat.min_self])) ((h.zip sp).map fun p => .bl (decide (p.1 = 46) || decide (p.1 = p.2))) (by rw [List.length_map, List.length_zip, hl, Nat.min_self]) (by omega) hD (fun M s1 => ⟨rfl, rfl⟩) (fun _ _ => rfl) ?_ ?_⟩
    · intro k u v M o hk s1 hu hv ho Q' q'
      obtain ⟨x, hx⟩ : ∃ x, h[k]? = some x := ⟨_, List.getElem?_eq_getElem (by omega)⟩
      obtain ⟨y, hy⟩ : ∃ y, sp[k]? = some y := ⟨_, List.getElem?_eq_getElem (by omega)⟩
      rw [signs_S, List.getElem?_map, hx] at hu
      rw [signs_S, List.getElem?_map, hy] at hv
      have hz : (h.zip sp)[k]? = some (x, y) := by rw [List.getElem?_zip_eq_some]; exact ⟨hx, hy⟩
      rw [List.getElem?_map, hz] at ho
      cases hu
      cases hv
      cases ho
      refine ⟨_, rfl, rfl, _, rfl, ?_⟩
      rw [show V.str (Str.ofString ".") = tx [46] from congrArg V.str lit_any, str1]
      by_cases e : x = 46
      · rw [decide_eq_true e]
        refine iteT ?_
        have g := q' M (.refl _)
        dsimp only at g
        rw [decide_eq_true e, Bool.true_or] at g
        exact g
      · rw [decide_eq_false e]
        refine iteF ?_
        have g := q' M (.refl _)
        dsimp only at g
        rw [decide_eq_false e, Bool.false_or] at g
        refine ⟨_, rfl, _, rfl, rfl, ?_⟩
        rw [str1]
        exact g
    · intro M s1 hM
      refine ⟨D, (h.zip sp).map fun p => decide (p.1 = 46) || decide (p.1 = p.2), rfl, seqL_of (by rw [List.map_map]; exact hM), ?_⟩
      rw [List.all_map]
      exact z M s1
theorem asc_eq : ∀ {l m : List Nat}, l.Pairwise (· < ·) → m.Pairwise (· < ·) → (∀ x, x ∈ l ↔ x ∈ m) → l = m
  | [], [], _, _, _ => rfl
  | [], y :: m, _, _, h => absurd ((h y).mpr (List.mem_cons_self ..)) (by simp)
  | x :: l, [], _, _, h => absurd ((h x).mp (List.mem_cons_self ..)) (by simp)
  | x :: l, y :: m, hl, hm, h => by
    obtain ⟨l1, l2⟩ := List.pairwise_cons.mp hl
    obtain ⟨m1, m2⟩ := List.pairwise_cons.mp hm
    have e : x = y := by
      rcases List.mem_cons.mp ((h x).mp (List.mem_cons_self ..)) with q | q
      · exact q
      · rcases List.mem_cons.mp ((h y).mpr (List.mem_cons_self ..)) with k | k
        · exact k.symm
        · have := m1 x q
          have := l1 y k
          omega
    subst e
    rw [asc_eq l2 m2 fun z => ?_]
    constructor
    · intro hz
      rcases List.mem_cons.mp ((h z).mp (List.mem_cons_of_mem _ hz)) with q | q
      · have := l1 z hz
        omega
      · exact q
    · intro hz
      rcases List.mem_cons.mp ((h z).mpr (List.mem_cons_of_mem _ hz)) with q | q
      · have := m1 z hz
        omega
      · exact q
theorem lt1 (x y : Nat) : ltCps (S [x]).cps.toList (S [y]).cps.toList = decide (x < y) := by
  show (decide (x < y) || (x == y && ltCps [] [])) = _
  rw [show ltCps [] [] = false from rfl, Bool.and_false, Bool.or_false]
theorem rising_pw : ∀ {zs : List Nat} {x : Nat}, risingS (S [x]) (zs.map fun x => S [x]) = true → (x :: zs).Pairwise (· ≤ ·)
  | [], x, _ => List.pairwise_singleton _ _
  | z :: zs, x, h => by
    have h' : (!ltCps (S [z]).cps.toList (S [x]).cps.toList && risingS (S [z]) (zs.map fun x => S [x])) = true := h
    rw [lt1, Bool.and_eq_true] at h'
    have ih := rising_pw h'.2
    have hx : x ≤ z := by
      have := h'.1
      simp at this
      exact this
    obtain ⟨i1, i2⟩ := List.pairwise_cons.mp ih
    refine List.pairwise_cons.mpr ⟨fun y hy => ?_, ih⟩
    rcases List.mem_cons.mp hy with e | e
    · rw [e]
      exact hx
    · have := i1 y e
      omega
theorem sorted_any {l acc : List Nat} {ys : List Str} (nd : acc.Nodup) (hm : ∀ c, c ∈ acc ↔ c ∈ l) (hp : ys.Perm (acc.map fun x => S [x])) (hs : sortedS ys = true) : ∃ zs : List Nat, ys = (zs.map fun x => S [x]) ∧ zs.Pairwise (· < ·) ∧ ∀ x, x ∈ zs ↔ x ∈ l := by
  obtain ⟨zs, rfl⟩ : ∃ zs : List Nat, ys = zs.map fun x => S [x] := by
    refine ⟨ys.map fun y => y.cps.toList.headD 0, ?_⟩
    rw [List.map_map]
    refine (List.map_congr_left fun y hy => ?_).trans (List.map_id _) |>.symm
    obtain ⟨x, hx, rfl⟩ := List.mem_map.mp (hp.mem_iff.mp hy)
    rfl
  have inj : ∀ x y : Nat, S [x] = S [y] → x = y := fun x y e => (List.cons.inj (S_inj e)).1
  have mem : ∀ x, x ∈ zs ↔ x ∈ acc := fun x => by
    have := hp.mem_iff (a := S [x])
    constructor
    · intro h
      obtain ⟨y, hy, e⟩ := List.mem_map.mp (this.mp (List.mem_map_of_mem h))
      exact inj _ _ e ▸ hy
    · intro h
      obtain ⟨y, hy, e⟩ := List.mem_map.mp (this.mpr (List.mem_map_of_mem h))
      exact inj _ _ e ▸ hy
  have ndS : (acc.map fun x => S [x]).Nodup := by
    unfold List.Nodup
    rw [List.pairwise_map]
    exact nd.imp fun h e => h (inj _ _ e)
  have ndz : zs.Nodup := by
    have := hp.nodup_iff.mpr ndS
    unfold List.Nodup at this
    rw [List.pairwise_map] at this
    exact this.imp fun h e => h (by rw [e])
  have pw : zs.Pairwise (· ≤ ·) := by
    cases zs with
    | nil => exact List.Pairwise.nil
    | cons z zs => exact rising_pw hs
  have pw2 : zs.Pairwise (· < ·) := (pw.and ndz).imp fun h => Nat.lt_of_le_of_ne h.1 h.2
  exact ⟨zs, rfl, pw2, fun x => (mem x).trans (hm x)⟩
theorem pw_sub : ∀ {l m : List Nat}, l.Pairwise (· < ·) → m.Pairwise (· < ·) → (∀ x ∈ l, x ∈ m) → l.Sublist m
  | [], m, _, _, _ => List.nil_sublist m
  | x :: l, [], _, _, h => absurd (h x List.mem_cons_self) (by simp)
  | x :: l, y :: m, hl, hm, h => by
    obtain ⟨l1, l2⟩ := List.pairwise_cons.mp hl
    obtain ⟨m1, m2⟩ := List.pairwise_cons.mp hm
    by_cases e : x = y
    · subst e
      refine .cons₂ _ (pw_sub l2 m2 fun z hz => ?_)
      rcases List.mem_cons.mp (h z (List.mem_cons_of_mem _ hz)) with q | q
      · have := l1 z hz
        omega
      · exact q
    · have hx : x ∈ m := by
        rcases List.mem_cons.mp (h x List.mem_cons_self) with q | q
        · exact absurd q e
        · exact q
      have hyx := m1 x hx
      refine .cons _ (pw_sub hl m2 fun z hz => ?_)
      rcases List.mem_cons.mp (h z hz) with q | q
      · rcases List.mem_cons.mp hz with k | k
        · omega
        · have := l1 z k
          omega
      · exact q
def sideB (c : Nat) (l : List Nat) : Bool := !l.isEmpty && (decide (l.Pairwise (· < ·)) && l.all fun x => decide (x ∈ sgs (c + 1)))
theorem sideB_iff {c : Nat} {l : List Nat} : sideB c l = true ↔ okSide c l := by
  unfold sideB
  rw [Bool.and_eq_true, Bool.and_eq_true, decide_eq_true_iff, List.all_eq_true]
  constructor
  · rintro ⟨h1, h2, h3⟩
    exact ⟨fun e => by rw [e] at h1; exact absurd h1 (by decide), pw_sub h2 (sgs_pw _) fun x hx => of_decide_eq_true (h3 x hx)⟩
  · intro h
    refine ⟨?_, h.pw, fun x hx => decide_eq_true (h.2.subset hx)⟩
    have := h.1
    cases l with
    | nil => exact absurd rfl this
    | cons _ _ => rfl
theorem eqv_ones : ∀ {l m : List Nat}, PyData.eqvAll (l.map fun x => .str (S [x])) (m.map fun x => .str (S [x])) = decide (l = m)
  | [], [] => rfl
  | [], _ :: _ => rfl
  | _ :: _, [] => rfl
  | x :: l, y :: m => by
    show ((S [x] == S [y]) && PyData.eqvAll (l.map fun x => .str (S [x])) (m.map fun x => .str (S [x]))) = _
    rw [eqv_ones (l := l) (m := m), Bool.eq_iff_iff, Bool.and_eq_true, decide_eq_true_iff, decide_eq_true_iff, List.cons.injEq]
    refine and_congr ⟨fun h => (List.cons.inj (S_inj (eq_of_beq h))).1, fun h => by rw [h]; exact beq_self_eq_true _⟩ Iff.rfl
theorem eqv_pd {l m : List Nat} : PyData.eqv (pdL (l.map fun x => [x])) (pdL (m.map fun x => [x])) = decide (l = m) := by
  unfold pdL
  rw [List.map_map, List.map_map]
  exact eqv_ones
theorem cut_sgs {C : Nat} (h : C = 2 ∨ C = 3) : S [35] ++ S ((List.range C).map (48 + ·)) = S (sgs (C + 1)) := by
  rcases h with rfl | rfl <;> decide +kernel
def spSigns (C : Addr) : Sp := fun vs H Q _ => ∃ (p : Addr) (r c n : Nat), vs = [.ref p] ∧ SchemeAt C H p r c n ∧ Q (tx (sgs (c + 1))) H
theorem c_signs (T : Txt K mg a) : Can P w K mg base 1 "_signs" (spSigns a.Scheme) := by
  refine can_of T.d_signs sc_signs bd_signs (fun vs H Q E h => ?_) (fun f cdv A outer s H vs Q E hr h => ?_)
  · obtain ⟨p, r, c, n, rfl, _⟩ := h
    rfl
  · obtain ⟨p, r, c, n, rfl, ⟨⟨dx, hp⟩, gd⟩, z⟩ := h
    refine ⟨_, (pss_one (ps_ret (pe_op op_add_str (C8.pe_gc (by rfl) T.g_END) (pe_slice sl_str (C8.pe_gc (by rfl) T.g_DIGITS) po_none (po_some (kfld K (pv 0))))))), ?_⟩
    refine ⟨_, rfl, p, _, dx, _, _, rfl, hp, T.c_Scheme.cl, T.n_colours, fl_colours r c n, _, rfl, _, rfl, (by decide +kernel), ?_⟩
    rw [cut_dig (good_c gd)]
    refine ⟨S [35], _, congrArg V.str lit_end, rfl, ?_, ?_⟩
    · rw [S_len, S_len, List.length_map, List.length_range]
      have := good_c gd
      exact szl (by show 1 + c ≤ 100000; omega)
    · rw [cut_sgs (good_c gd)]
      exact z
def oldX (r c row x : Nat) : Nat := (dig r c (x - 97)).getD row 0
def rowK (r c n row : Nat) : List (Key × V) := ((cols n).map fun x => (Sum.inr (S [x]) : Key)).zip ((cols n).map fun x => tx [oldX r c row x])
theorem keys_nd {n : Nat} (h : n ≤ 9) : ((cols n).map fun x => (Sum.inr (S [x]) : Key)).Nodup := by
  have z : ∀ n ≤ 9, ((cols n).map fun x => (Sum.inr (S [x]) : Key)).Nodup := by decide +kernel
  exact z n h
def spRow (C : Addr) : Sp := fun vs H Q _ => ∃ (p : Addr) (r c n row : Nat), vs = [.ref p, .int row] ∧ SchemeAt C H p r c n ∧ row < r ∧ ∀ G d, Same H G → H d = none → G d = some (.dK (rowK r c n row)) → Q (.ref d) G
theorem row_at {r c n row : Nat} (g : Good r c n) (hr : row < r) (x : Nat) : atI (S (dig r c x)).cps.toList ((row : Nat) : Int) = some ((dig r c x).getD row 0) := by
  refine atI_S ?_
  rw [List.getD_eq_getElem?_getD, List.getElem?_eq_getElem (by rw [dig_len]; exact hr)]
  rfl
theorem tru_S {H : Hp} {l : List Nat} (h : 0 < l.length) (h2 : l.length ≤ 100000) : TruV K (tx l) H true := by
  refine ⟨by rw [S_len]; exact szl h2, ?_⟩
  rw [S_len]
  have e : ((l.length : Nat) : Int) ≠ 0 := by omega
  exact (bne_iff_ne.mpr e).symm
theorem tru_S0 {H : Hp} : TruV K (tx []) H false := ⟨by show (S []).length ≤ _; rw [S_len]; exact szl (by decide), rfl⟩
theorem dp_ones {H : Hp} {b : Addr} {l : List Nat} (h : H b = some (.lst (l.map fun x => tx [x]))) : Dp K H (.ref b) (pdL (l.map fun x => [x])) := dp_txt (by rw [List.map_map]; exact h)
def spAre (C : Addr) : Sp := fun vs H Q _ => ∃ (p : Addr) (r c n : Nat) (l : List Nat), vs = [.ref p, tx l] ∧ SchemeAt C H p r c n ∧ l.length < 64 ∧ ∀ G, Same H G → Q (.bl (sideB c l)) G
theorem c_are_signs (T : Txt K mg a) : Can P w K mg base 2 "_are_signs" (spAre a.Scheme) := by
  refine can_of T.d_are_signs sc_are_signs bd_are_signs (fun vs H Q E h => ?_) (fun f cdv A outer s H vs Q E hr h => ?_)
  · obtain ⟨p, r, c, n, l, rfl, _⟩ := h
    rfl
  · obtain ⟨p, r, c, n, l, rfl, sch, ln, z⟩ := h
    refine ⟨_, (pss_cons (ps_if (PW.pt (pw_or (pt_not (pt_truth (pv 1) (by intro _; rfl))) (pw_or1 (pt_cmpR (kneP K hr.units) (pe_callTy (listS (by rfl)) (by rfl) T.b_list (by decide +kernel) (pa_cons (pv 1) pa_nil)) (pe_sortSetT (by rfl) (by rfl) T.b_sorted (by rfl) T.b_set (pv 1)) (nomark _))))) (pss_one (ps_ret pe_bl)) pss_nil)
      (pss_one (ps_ret (pe_callB (kall K (by rfl)) (by rfl) T.b_all (by decide +kernel) (pa_cons (pe_lc (own := [("sign", 2)]) (g := gName 2) (tt := tYes) (by rfl) sc_are_signs.nd (pi_str (pv 1)) (blkOk_by (N := N_are_signs) (sc := defScope s_are_signs) (by decide +kernel)) (fun _ _ _ _ _ => (pg_name (i := 2) sc_are_signs.nd rfl (.inl rfl))) (fun _ _ _ _ _ => pts_nil) (fun _ _ _ _ _ => (pe_cmpR op_in_sign (pv 2) (pc_f (c_signs T) hr (by decide) (by rfl) (pa_cons (pv 0) pa_nil)) (by rfl)))) pa_nil))))), ?_⟩
    have gc := good_c sch.2
    by_cases hl0 : l = []
    · subst hl0
      exact ⟨_, rfl, false, tru_S0, iteT (z H (.refl _))⟩
    have lp : 0 < l.length := List.length_pos_iff.mpr hl0
    have he : l.isEmpty = false := by
      cases l with
      | nil => exact absurd rfl hl0
      | cons _ _ => rfl
    refine ⟨_, rfl, true, ?_, iteF ?_⟩
    · exact tru_S lp (by omega)
    · refine ⟨_, rfl, l, rfl, by omega, fun b hb => ⟨_, rfl, l, rfl, by omega, fun acc ys q nd hm hp hs hq => ?_⟩⟩
      obtain ⟨zs, rfl, zpw, zm⟩ := sorted_any nd hm hp hs
      have s1 := ex_new (o := .lst (l.map fun x => tx [x])) hb
      have hb2 : (upd (upd H b (.lst (l.map fun x => tx [x]))) q (.lst ((zs.map fun x => S [x]).map V.str))) b = some (.lst (l.map fun x => tx [x])) := ex_new hq _ _ upd_same
      refine ⟨pdL (l.map fun x => [x]), pdL (zs.map fun x => [x]), dp_ones hb2, dp_ones (by rw [upd_same, List.map_map]; rfl), plainL _, plainL _, depthL _, _, rfl, ?_⟩
      have s2 : Same H (upd (upd H b (.lst (l.map fun x => tx [x]))) q (.lst ((zs.map fun x => S [x]).map V.str))) := s1.trans (ex_new hq)
      rw [eqv_pd]
      by_cases elz : l = zs
      · rw [decide_eq_true elz]
        refine iteF ?_
        refine ⟨_, rfl, _, rfl, fun D hD => lc_one walk_str (l.map fun x => V.bl (decide (x ∈ sgs (c + 1)))) (by rw [List.length_map]; exact (S_len l).symm) (by show (S l).length ≤ _; rw [S_len]; omega) hD (fun _ _ => True.intro) ?_ ?_⟩
        · rintro i x G G' v hi s3 ⟨rfl, c', hc, rfl⟩ hv
          have hc := at_S hc
          rw [List.getElem?_map, hc] at hv
          cases hv
          refine ⟨.refl _, fun Q' q' => ⟨_, rfl, _, rfl, p, r, c, n, rfl, sch.mono (s2.trans s3), c', _, rfl, rfl, ?_⟩⟩
          rw [S_cps]
          exact q' _ (.refl _)
        · intro G s3 hG
          refine ⟨D, l.map fun x => decide (x ∈ sgs (c + 1)), rfl, seqL_of (by rw [List.map_map]; exact hG), ?_⟩
          have e : (l.map fun x => decide (x ∈ sgs (c + 1))).all id = sideB c l := by
            unfold sideB
            rw [he, decide_eq_true (by rw [elz]; exact zpw), List.all_map]
            rfl
          rw [e]
          exact z G (s2.trans s3)
      · rw [decide_eq_false elz]
        refine iteT ?_
        have e : sideB c l = false := by
          unfold sideB
          rw [decide_eq_false (fun h => elz (asc_eq h zpw fun x => (zm x).symm))]
          simp
        have := z _ s2
        rw [e] at this
        exact this
end
end K23

end
section
set_option Elab.async false
set_option linter.all false
set_option maxRecDepth 100000
set_option maxHeartbeats 4000000
/-! A comprehension with a test. -/
namespace Kit
open PySem PySem.Spec PyProof.Rows L2
def pickV {α : Type} (ks : List Bool) (vs : List α) : List α := (ks.zip vs).filterMap fun p => if p.1 = true then some p.2 else none
theorem pick_take {α : Type} {ks : List Bool} {vs : List α} {i : Nat} {b : Bool} {v : α} (hb : ks[i]? = some b) (hv : vs[i]? = some v) : pickV (ks.take (i + 1)) (vs.take (i + 1)) = pickV (ks.take i) (vs.take i) ++ if b = true then [v] else [] := by
  unfold pickV
  have l1 : i < ks.length := (List.getElem?_eq_some_iff.mp hb).1
  have l2 : i < vs.length := (List.getElem?_eq_some_iff.mp hv).1
  rw [List.take_add_one, List.take_add_one, hb, hv]
  show ((ks.take i ++ [b]).zip (vs.take i ++ [v])).filterMap _ = _
  rw [List.zip_append (by rw [List.length_take, List.length_take]; omega), List.filterMap_append]
  congr 1
  cases b <;> rfl
theorem pick_len {α : Type} (ks : List Bool) (vs : List α) : (pickV ks vs).length ≤ vs.length := by
  unfold pickV
  refine Nat.le_trans (List.length_filterMap_le ..) ?_
  rw [List.length_zip]
  omega
theorem pick_map {α β : Type} (p : α → Bool) (f : α → β) : ∀ l : List α, pickV (l.map p) (l.map f) = (l.filter p).map f
  | [] => rfl
  | x :: l => by
    have ih := pick_map p f l
    unfold pickV at ih ⊢
    rw [List.map_cons, List.map_cons, List.zip_cons_cons, List.filterMap_cons, List.filter_cons]
    by_cases h : p x = true
    · rw [if_pos h]
      dsimp only
      rw [if_pos h, ih]
      rfl
    · rw [if_neg h]
      dsimp only
      rw [if_neg h, ih]
variable {J : It} {n : Nat} {G : Hp → Prop} {Y : Nat → Hp → V → Hp → Prop} {σ : L2.St} {H1 : Hp} {D : Addr} {Qd : Hp → Prop} {te : TE}
theorem lc_flt (w : Walk J n G Y) {j : Nat} {tt : TT} (keep : List Bool) (out : List V) (hk : keep.length = n) (hn : out.length = n) (hsz : n ≤ 100000) (hD : H1 D = none) (hG : ∀ H, Same H1 H → G H)
    (hs : ∀ i x H H' b v, i < n → Same H1 H → Y i H x H' → keep[i]? = some b → out[i]? = some v → Same H H' ∧ (∀ Q : Bool → Hp → Prop, (∀ M, Same H' M → Q b M) → tt (σ.set j (some x)) H' Q) ∧ ∀ M, Same H' M → b = true → ∀ Q : VK, (∀ M2, Same M M2 → Q v M2) → te (σ.set j (some x)) M Q)
    (hd : ∀ H, Same H1 H → H D = some (.lst (pickV keep out)) → Qd H) :
    ∃ W : Nat → Nat → Hp → Prop, (∃ m, W 0 m (upd H1 D (.lst []))) ∧ ∀ i m H, W i m H →
      (J.stop i H ∧ Qd H) ∨ (J.go i H ∧ ∃ Nx : Hp → Prop, (∀ H', Nx H' → ∃ m', m' < m ∧ W (i + 1) m' H') ∧ ∀ x H', J.yld i H x H' → gName j x (wipe σ [j]) H' fun σ2 H2 => wipe σ2 [j] = wipe σ [j] ∧ tt σ2 H2 fun b H3 =>
        if b = true then te σ2 H3 fun y H4 => ∃ acc, H4 D = some (.lst acc) ∧ acc.length < sizeLine ∧ Nx (upd H4 D (.lst (acc ++ [y]))) else Nx H3) := by
  refine lc_it w (fun i H => Same H1 H ∧ H D = some (.lst (pickV (keep.take i) (out.take i)))) ⟨ex_new hD, by rw [List.take_zero, List.take_zero]; exact upd_same⟩ (fun i H _ h => hG H h.1) ?_ ?_
  · rintro i x H H' hi ⟨s1, hHD⟩ y
    have hv : out[i]? = some (out[i]'(by omega)) := List.getElem?_eq_getElem _
    have hb : keep[i]? = some (keep[i]'(by omega)) := List.getElem?_eq_getElem _
    obtain ⟨s2, ht, hte⟩ := hs i x H H' _ _ hi s1 y hb hv
    show wipe ((wipe σ [j]).set j (some x)) [j] = _ ∧ _
    refine ⟨wipe1 j _, ?_⟩
    rw [set1]
    refine ht _ fun M s3 => ?_
    have sM := (s1.trans s2).trans s3
    have hMD : M D = some (.lst (pickV (keep.take i) (out.take i))) := s3 _ _ (s2 _ _ hHD)
    cases e : keep[i]'(by omega) with
    | true =>
      rw [if_pos rfl]
      refine hte M s3 e _ fun M2 s4 => ⟨_, s4 _ _ hMD, ?_, ?_⟩
      · have := pick_len (keep.take i) (out.take i)
        rw [List.length_take] at this
        exact szlt (by omega)
      · refine ⟨ex_mut (sM.trans s4) hD, ?_⟩
        rw [upd_same, pick_take hb hv, e, if_pos rfl]
    | false =>
      rw [if_neg (by decide)]
      refine ⟨sM, ?_⟩
      rw [hMD, pick_take hb hv, e, if_neg (by decide), List.append_nil]
  · rintro H ⟨s1, hHD⟩
    refine hd H s1 ?_
    rw [hHD, List.take_of_length_le (by omega), List.take_of_length_le (by omega)]
end Kit

end
section
set_option Elab.async false
set_option linter.all false
set_option maxRecDepth 100000
set_option maxHeartbeats 4000000
namespace K23
open PySem PySem.Spec PyProof.Rows L2 Kit
section
variable {P : Program} {w : World} {K : PySem.W.Frag} {mg : Str → Option Value} {base : Heap} {a : Ad}
def ClAt (H : Hp) (p : Addr) (k : Cl) : Prop := H p = some (.tup [tx k.l, tx k.h, tx k.r, tx [k.new]])
def ClsL (H : Hp) (vs : List V) (cs : List Cl) : Prop := vs.length = cs.length ∧ ∀ (i : Nat) (k : Cl), cs[i]? = some k → ∃ p, vs[i]? = some (.ref p) ∧ ClAt H p k
theorem ClsL.mono {H G : Hp} {vs : List V} {cs : List Cl} (h : ClsL H vs cs) (e : Same H G) : ClsL G vs cs := ⟨h.1, fun i k hk => let ⟨p, h1, h2⟩ := h.2 i k hk; ⟨p, h1, e _ _ h2⟩⟩
theorem digs_of {r c : Nat} {h : List Nat} (hl : h.length = r) : h.length = r := hl
/-- a clause as it is given: four texts -/
structure RC where
  l : List Nat
  h : List Nat
  r : List Nat
  x : List Nat
def RcAt (H : Hp) (p : Addr) (k : RC) : Prop := H p = some (.tup [tx k.l, tx k.h, tx k.r, tx k.x])
def RcSmall (k : RC) : Prop := k.l.length < 64 ∧ k.h.length ≤ 1000 ∧ k.r.length < 64 ∧ k.x.length ≤ 1000
def hereB (r c : Nat) (h : List Nat) : Bool := decide (h.length = r) && h.all fun x => decide (x = 46) || inDig c x
def wrongP (r c : Nat) (k : RC) : Option String :=
  if sideB c k.l = true then (if hereB r c k.h = true then (if sideB c k.r = true then (if isColour c k.x = true then none else some "new") else some "right") else some "here") else some "left"
def wrongV : Option String → V
  | none => .non
  | some s => .str (Str.ofString s)
def spWrong (C : Addr) : Sp := fun vs H Q _ => ∃ (p q : Addr) (r c n : Nat) (k : RC), vs = [.ref p, .ref q] ∧ SchemeAt C H p r c n ∧ RcAt H q k ∧ RcSmall k ∧ ∀ G, Same H G → Q (wrongV (wrongP r c k)) G
theorem c_wrong_part (T : Txt K mg a) : Can P w K mg base 3 "_wrong_part" (spWrong a.Scheme) := by
  refine can_of T.d_wrong_part sc_wrong_part bd_wrong_part (fun vs H Q E h => ?_) (fun f cdv A outer s H vs Q E hr h => ?_)
  · obtain ⟨p, q, r, c, n, k, rfl, _⟩ := h
    rfl
  · obtain ⟨p, q, r, c, n, k, rfl, sch, hq, ⟨n1, n2, n3, n4⟩, z⟩ := h
    refine ⟨_, (pss_cons (ps_asg (pv 1) (pg_tup rfl (pgs_cons (pg_name (i := 2) sc_wrong_part.nd rfl (.inl rfl)) (pgs_cons (pg_name (i := 3) sc_wrong_part.nd rfl (.inl rfl)) (pgs_cons (pg_name (i := 4) sc_wrong_part.nd rfl (.inl rfl)) (pgs_cons (pg_name (i := 5) sc_wrong_part.nd rfl (.inl rfl)) pgs_nil))))))
      (pss_cons (ps_if (pt_not (pt_val (pc_f (c_are_signs T) hr (by decide) (by rfl) (pa_cons (pv 0) (pa_cons (pv 2) pa_nil))))) (pss_one (ps_ret pe_str)) pss_nil)
      (pss_cons (ps_if (PW.pt (pw_or (pt_cmpR op_ne (pe_callB call_len_str (by rfl) T.b_len (by decide +kernel) (pa_cons (pv 3) pa_nil)) (kfld K (pv 0)) (nomark _)) (pw_or1 (pt_not (pt_val (pe_callB (kall K (by rfl)) (by rfl) T.b_all (by decide +kernel) (pa_cons (pe_lc (own := [("spot", 6)]) (g := gName 6) (tt := tYes) (by rfl) sc_wrong_part.nd (pi_str (pv 3)) (blkOk_by (N := N_wrong_part) (sc := defScope s_wrong_part) (by decide +kernel)) (fun _ _ _ _ _ => (pg_name (i := 6) sc_wrong_part.nd rfl (.inl rfl))) (fun _ _ _ _ _ => pts_nil) (fun _ _ _ _ _ => (pe_or (pe_cmpR op_eq (pv 6) (C8.pe_gc (by rfl) T.g_ANY) (nomark _)) (pe_one (pc_m (c_Scheme_is_colour T) hr (by decide) (pv 0) (pa_cons (pv 6) pa_nil)))))) pa_nil))))))) (pss_one (ps_ret pe_str)) pss_nil)
      (pss_cons (ps_if (pt_not (pt_val (pc_f (c_are_signs T) hr (by decide) (by rfl) (pa_cons (pv 0) (pa_cons (pv 4) pa_nil))))) (pss_one (ps_ret pe_str)) pss_nil)
      (pss_one (ps_ret (pe_ifExp (pt_val (pc_m (c_Scheme_is_colour T) hr (by decide) (pv 0) (pa_cons (pv 5) pa_nil))) pe_non pe_str))))))), ?_⟩
    have gn := good_n sch.2
    unfold RcAt at hq
    obtain ⟨dx, hp⟩ := sch.1
    refine ⟨_, rfl, q, _, rfl, seqT_of hq, rfl, _, _, rfl, _, _, rfl, _, _, rfl, _, _, rfl, rfl, ?_⟩
    refine ⟨_, rfl, _, rfl, p, r, c, n, k.l, rfl, sch, n1, fun G1 s1 => ⟨_, rfl, ?_⟩⟩
    unfold wrongP at z
    cases e1 : sideB c k.l with
    | false =>
      rw [e1, if_neg (by decide)] at z
      exact iteT (z _ s1)
    | true =>
      rw [e1, if_pos rfl] at z
      refine iteF ?_
      refine ⟨_, rfl, _, rfl, szl (by rw [S_len]; omega), _, rfl, p, _, dx, _, _, rfl, s1 _ _ hp, T.c_Scheme.cl, T.n_rows, fl_rows r c n, rfl, _, rfl, ?_⟩
      rw [S_len]
      by_cases hlen : k.h.length = r
      · rw [show decide (V.int (k.h.length : Nat) = V.int (r : Nat)) = true from decide_eq_true (by rw [hlen])]
        refine iteF ?_
        refine ⟨_, rfl, _, rfl, fun D hD => lc_one walk_str (k.h.map fun x => V.bl (decide (x = 46) || inDig c x)) (by rw [List.length_map]; exact (S_len _).symm) (by show (S _).length ≤ _; rw [S_len]; omega) hD (fun _ _ => True.intro) ?_ ?_⟩
        · rintro i x G G' v hi s3 ⟨rfl, c', hc, rfl⟩ hv
          have hc := at_S hc
          rw [List.getElem?_map, hc] at hv
          cases hv
          refine ⟨.refl _, fun Q' q' => ⟨_, rfl, rfl, _, rfl, ?_⟩⟩
          rw [show V.str (Str.ofString ".") = tx [46] from congrArg V.str lit_any, show V.str ⟨#[c']⟩ = tx [c'] from rfl, str1]
          have s4 := s1.trans s3
          by_cases e : c' = 46
          · have e2 : Q' (V.bl (decide (c' = 46) || inDig c c')) G' := q' _ (.refl _)
            rw [decide_eq_true e, Bool.true_or] at e2
            rw [decide_eq_true e]
            exact iteT e2
          · rw [decide_eq_false e]
            refine iteF ?_
            refine ⟨_, rfl, p, dx, _, rfl, s4 _ _ hp, fl_no _ _ _ (by decide +kernel) (by decide +kernel) (by decide +kernel), _, rfl, p, r, c, n, [c'], rfl, sch.mono s4, by show 1 ≤ 100000; decide, ?_⟩
            have e2 : Q' (V.bl (decide (c' = 46) || inDig c c')) G' := q' _ (.refl _)
            rw [decide_eq_false e, Bool.false_or] at e2
            rw [isColour_one]
            exact e2
        · intro G s3 hG
          have s4 := s1.trans s3
          refine ⟨D, k.h.map fun x => decide (x = 46) || inDig c x, rfl, seqL_of (by rw [List.map_map]; exact hG), ?_⟩
          have eh : (k.h.map fun x => decide (x = 46) || inDig c x).all id = hereB r c k.h := by
            unfold hereB
            rw [decide_eq_true hlen, List.all_map]
            rfl
          rw [eh]
          refine ⟨_, rfl, ?_⟩
          cases e2 : hereB r c k.h with
          | false =>
            rw [e2, if_neg (by decide)] at z
            exact iteT (z _ s4)
          | true =>
            rw [e2, if_pos rfl] at z
            refine iteF ⟨_, rfl, _, rfl, p, r, c, n, k.r, rfl, sch.mono s4, n3, fun G2 s5 => ⟨_, rfl, ?_⟩⟩
            have s6 := s4.trans s5
            cases e3 : sideB c k.r with
            | false =>
              rw [e3, if_neg (by decide)] at z
              exact iteT (z _ s6)
            | true =>
              rw [e3, if_pos rfl] at z
              refine iteF ⟨_, rfl, p, dx, _, rfl, s6 _ _ hp, fl_no _ _ _ (by decide +kernel) (by decide +kernel) (by decide +kernel), _, rfl, p, r, c, n, k.x, rfl, sch.mono s6, by omega, _, rfl, ?_⟩
              cases e4 : isColour c k.x with
              | true =>
                rw [e4, if_pos rfl] at z
                exact iteT (z _ s6)
              | false =>
                rw [e4, if_neg (by decide)] at z
                exact iteF (z _ s6)
      · rw [show decide (V.int (k.h.length : Nat) = V.int (r : Nat)) = false from decide_eq_false (fun h => hlen (by injection h with h; omega))]
        have e2 : hereB r c k.h = false := by
          unfold hereB
          rw [decide_eq_false hlen]
          rfl
        rw [e2, if_neg (by decide)] at z
        exact iteT (iteT (z _ s1))
/-! ### all values -/
def keyT (C m : Nat) : List Key := [.inr (S [sg (li (C + 1) m)]), .inr (S [97 + lx (C + 1) m]), .inr (S [sg (lj (C + 1) m)])]
def newsM (R C row : Nat) (cs : List Cl) (m : Nat) : List (List Key × V) := (List.range m).map fun m => (keyT C m, tx [W R C row cs m])
def newsT (R C n row : Nat) (cs : List Cl) : List (List Key × V) := newsM R C row cs (total n C)
theorem key1 {x y : Nat} (h : (Sum.inr (S [x]) : Key) = Sum.inr (S [y])) : x = y := (List.cons.inj (S_inj (Sum.inr.inj h))).1
theorem keyT_inj {C m m' : Nat} (h : keyT C m = keyT C m') : m = m' := by
  unfold keyT at h
  obtain ⟨h2, h⟩ := List.cons.inj h
  obtain ⟨h1, h⟩ := List.cons.inj h
  obtain ⟨h3, _⟩ := List.cons.inj h
  have e1 := key1 h1
  have e2 := sg_inj (key1 h2)
  have e3 := sg_inj (key1 h3)
  rw [← idx_of (s := C + 1) (m := m), ← idx_of (s := C + 1) (m := m'), e2, e3, show lx (C + 1) m = lx (C + 1) m' by omega]
theorem valV_range {κ : Type} [DecidableEq κ] (f : Nat → κ) (v : Nat → V) (inj : ∀ i j, f i = f j → i = j) (k : Nat) : ∀ m, valV ((List.range m).map fun i => (f i, v i)) (f k) = if k < m then some (v k) else none
  | 0 => rfl
  | m + 1 => by
    have ih := valV_range f v inj k m
    rw [List.range_succ, List.map_append]
    show valV (_ ++ [(f m, v m)]) (f k) = _
    by_cases h : k < m
    · have e : valV ((List.range m).map fun i => (f i, v i)) (f k) = some (v k) := by rw [ih, if_pos h]
      rw [if_pos (by omega)]
      unfold valV at e ⊢
      obtain ⟨p, hp, e2⟩ := Option.map_eq_some_iff.mp e
      rw [List.find?_append, hp]
      exact congrArg some e2
    · rw [if_neg h] at ih
      rw [valV_snoc _ _ _ _ (by
        by_cases e : k = m
        · rw [← e]; rw [e] at ih ⊢; exact ih
        · have := valV_range f v inj m m
          rw [if_neg (Nat.lt_irrefl _)] at this
          exact this)]
      by_cases e : k = m
      · rw [e, if_pos rfl, if_pos (Nat.lt_succ_self _)]
      · rw [if_neg (fun q => e (inj _ _ q)), ih, if_neg (by omega)]
theorem newsM_get {R C row : Nat} {cs : List Cl} {m k : Nat} (h : k < m) : valV (newsM R C row cs m) (keyT C k) = some (tx [W R C row cs k]) := by
  unfold newsM
  rw [valV_range (keyT C) (fun m => tx [W R C row cs m]) (fun i j e => keyT_inj e), if_pos h]
theorem newsM_put {R C row : Nat} {cs : List Cl} {m : Nat} : putK (newsM R C row cs m) (keyT C m) (tx [W R C row cs m]) = newsM R C row cs (m + 1) := by
  have h : valV (newsM R C row cs m) (keyT C m) = none := by
    unfold newsM
    rw [valV_range (keyT C) (fun m => tx [W R C row cs m]) (fun i j e => keyT_inj e), if_neg (Nat.lt_irrefl _)]
  rw [putK_new _ h]
  unfold newsM
  rw [List.range_succ, List.map_append]
  rfl
theorem newsM_len {R C row : Nat} {cs : List Cl} {m : Nat} : (newsM R C row cs m).length = m := by
  unfold newsM
  rw [List.length_map, List.length_range]
theorem clsL_pick {H : Hp} {vs : List V} {cs : List Cl} (h : ClsL H vs cs) (p : Cl → Bool) : ClsL H (pickV (cs.map p) vs) (cs.filter p) := by
  induction cs generalizing vs with
  | nil =>
    have : vs = [] := List.length_eq_zero_iff.mp h.1
    rw [this]
    exact ⟨rfl, fun i k hk => by simp at hk⟩
  | cons c cs ih =>
    cases vs with
    | nil => exact absurd h.1 (by simp)
    | cons v vs =>
      have ht : ClsL H vs cs := ⟨by have := h.1; simp at this; exact this, fun i k hk => h.2 (i + 1) k hk⟩
      have e := ih ht
      obtain ⟨q, hq, hc⟩ := h.2 0 c rfl
      unfold pickV at e ⊢
      rw [List.map_cons, List.zip_cons_cons, List.filterMap_cons, List.filter_cons]
      by_cases hp : p c = true
      · rw [if_pos hp, if_pos hp]
        dsimp only
        refine ⟨by rw [List.length_cons, List.length_cons, e.1], fun i k hk => ?_⟩
        cases i with
        | zero =>
          have ek : c = k := Option.some.inj hk
          exact ⟨q, hq, ek ▸ hc⟩
        | succ i => exact e.2 i k hk
      · rw [if_neg hp, if_neg hp]
        exact e
def spAll (C : Addr) : Sp := fun vs H Q _ => ∃ (p q : Addr) (r c n row : Nat) (ws : List V) (cs : List Cl), vs = [.ref p, .int row, .ref q] ∧ SchemeAt C H p r c n ∧ row < r ∧ H q = some (.lst ws) ∧ ClsL H ws cs ∧ okCls r c cs ∧ cs.length ≤ 100 ∧
  ∀ G d, Same H G → H d = none → G d = some (.dT (newsT r c n row cs)) → Q (.ref d) G
theorem c_all_values (T : Txt K mg a) : Can P w K mg base 4 "_all_values" (spAll a.Scheme) := by
  refine can_of T.d_all_values sc_all_values bd_all_values (fun vs H Q E h => ?_) (fun f cdv A outer s H vs Q E hr h => ?_)
  · obtain ⟨p, q, r, c, n, row, ws, cs, rfl, _⟩ := h
    rfl
  · obtain ⟨p, q, r, c, n, row, ws, cs, rfl, sch, hrow, hq, hcl, ok, hlen, z⟩ := h
    refine ⟨_, (pss_cons (ps_set (i := 3) sc_all_values.nd rfl (.inl rfl) (pc_f (c_signs T) hr (by decide) (by rfl) (pa_cons (pv 0) pa_nil)))
      (pss_cons (ps_set (i := 4) sc_all_values.nd rfl (.inl rfl) pe_dnewT)
      (pss_cons (ps_for (passes_of rfl) (by rfl) (pi_str (kfld K (pv 0))) (pg_name (i := 5) sc_all_values.nd rfl (.inl rfl)) (pss_cons (ps_set (i := 6) sc_all_values.nd rfl (.inr rfl) (pc_m (c_Scheme_spots T) hr (by decide) (pv 0) (pa_cons (pv 5) pa_nil)))
      (pss_cons (ps_setLc (i := 7) (own := [("clause", 8)]) (g := gName 8) (by rfl) sc_all_values.nd rfl rfl (sw_true rfl rfl rfl (by decide +kernel)) (kpi_list K (pv 2)) (blkOk_by (N := N_all_values) (sc := defScope s_all_values) (by decide +kernel)) (fun _ _ _ _ _ => (pg_name (i := 8) sc_all_values.nd rfl (.inl rfl))) (fun _ _ _ _ _ => (pts_one (pt_val (pc_f (c_fits T) hr (by decide) (by rfl) (pa_cons (pe_ix (kix_tup K) (pv 8) pe_int (fun _ _ => rfl)) (pa_cons (pv 6) pa_nil)))))) (fun _ _ _ _ _ => (pv 8)))
      (pss_one (ps_for (passes_of rfl) (by rfl) (pi_str (pv 3)) (pg_name (i := 9) sc_all_values.nd rfl (.inr rfl)) (pss_cons (ps_setLc (i := 10) (own := [("clause", 8)]) (g := gName 8) (by rfl) sc_all_values.nd rfl rfl (sw_true rfl rfl rfl (by decide +kernel)) (kpi_list K (pv 7)) (blkOk_by (N := N_all_values) (sc := defScope s_all_values) (by decide +kernel)) (fun _ _ _ _ _ => (pg_name (i := 8) sc_all_values.nd rfl (.inl rfl))) (fun _ _ _ _ _ => (pts_one (pt_cmpR op_in_sign (pv 9) (pe_ix (kix_tup K) (pv 8) pe_int (fun _ _ => rfl)) (by rfl)))) (fun _ _ _ _ _ => (pv 8)))
      (pss_one (ps_for (passes_of rfl) (by rfl) (pi_str (pv 3)) (pg_name (i := 11) sc_all_values.nd rfl (.inr rfl)) (pss_cons (ps_setLc (i := 12) (own := [("clause", 8)]) (g := gName 8) (by rfl) sc_all_values.nd rfl rfl (sw_true rfl rfl rfl (by decide +kernel)) (kpi_list K (pv 10)) (blkOk_by (N := N_all_values) (sc := defScope s_all_values) (by decide +kernel)) (fun _ _ _ _ _ => (pg_name (i := 8) sc_all_values.nd rfl (.inl rfl))) (fun _ _ _ _ _ => (pts_one (pt_cmpR op_in_sign (pv 11) (pe_ix (kix_tup K) (pv 8) pe_int (fun _ _ => rfl)) (by rfl)))) (fun _ _ _ _ _ => (pe_ix (kix_tup K) (pv 8) pe_int (fun _ _ => rfl))))
      (pss_one (ps_asg (pe_ifExp (pt_truth (pv 12) (by intro _; rfl)) (pe_ix (kix_list K) (pv 12) pe_int (fun _ _ => rfl)) (pe_ix ix_str (pv 6) (pv 1) (fun _ _ => rfl))) (pg_sub (pv 4) (pe_tup (pa_cons (pv 9) (pa_cons (pv 5) (pa_cons (pv 11) pa_nil)))) (set_dict (units1 hr))))))))))))))
      (pss_one (ps_ret (pv 4)))))), ?_⟩
    have gn := good_n sch.2
    have gc := good_c sch.2
    obtain ⟨dx, hp⟩ := sch.1
    refine ⟨_, rfl, p, r, c, n, rfl, sch, fun d hd => ?_⟩
    have inv0 : Same H (upd H d (.dT [])) := ex_new hd
    refine ⟨_, rfl, p, _, dx, _, _, rfl, inv0 _ _ hp, T.c_Scheme.cl, T.n_columns, fl_columns r c n, _, rfl, for_it walk_str (fun i σ G => Same H G ∧ G d = some (.dT (newsM r c row cs (i * (c + 1) * (c + 1)))) ∧ ∃ u1 u2 u3 u4 u5 u6 u7 u8 : Option V, σ = [some (.ref p), some (.int row), some (.ref q), some (tx (sgs (c + 1))), some (.ref d), u1, u2, u3, u4, u5, u6, u7, u8]) ?_ (fun _ _ _ _ _ => True.intro) ?_ ?_⟩
    · exact ⟨inv0, by rw [upd_same, Nat.zero_mul, Nat.zero_mul]; rfl, none, none, none, none, none, none, none, none, rfl⟩
    · rintro i u σ G G' hi ⟨s1, hd1, u1, u2, u3, u4, u5, u6, u7, u8, rfl⟩ ⟨rfl, x, hx, rfl⟩
      have hx := at_S hx
      have hin : i < n := by have e : (S (cols n)).cps.size = n := by show (S (cols n)).length = n; rw [S_len, cols_len]
                             omega
      have ex : x = 97 + i := by
        unfold cols at hx
        rw [List.getElem?_map, List.getElem?_range hin] at hx
        exact (Option.some.inj hx).symm
      have hci : inCol n x = true := mem_cols.mp (List.mem_of_getElem? hx)
      have hic := isCol_mk hci
      refine ⟨_, rfl, p, dx, _, rfl, s1 _ _ hp, fl_no _ _ _ (by decide +kernel) (by decide +kernel) (by decide +kernel), _, rfl, p, r, c, n, [x], rfl, sch.mono s1, by show 1 ≤ 100000; decide, fun _ => ?_, fun h => by rw [hic] at h; cases h⟩
      have ec : dig r c (col0 [x]) = dig r c i := by show dig r c (x - 97) = _; rw [ex, Nat.add_sub_cancel_left]
      rw [ec]
      have hfit : ∀ (j : Nat) (k : Cl), cs[j]? = some k → k.h.length = (dig r c i).length := fun j k hk => by rw [dig_len, (ok k (List.mem_of_getElem? hk)).hl]
      refine ⟨_, rfl, q, rfl, ⟨_, seqL_of (s1 _ _ hq)⟩, fun D hD => lc_flt (walk_list (xs := ws)) (cs.map fun k => fitsC k.h (dig r c i)) ws (by rw [List.length_map, hcl.1]) rfl (by rw [hcl.1]; omega) hD (fun M sm => seqL_of ((s1.trans sm) _ _ hq)) ?_ ?_⟩
      · rintro j y M M' b v hj sm ⟨rfl, hy⟩ hb hv
        obtain ⟨k, hk⟩ : ∃ k, cs[j]? = some k := ⟨_, List.getElem?_eq_getElem (by rw [← hcl.1]; exact hj)⟩
        obtain ⟨u, hu, hcu⟩ := hcl.2 j k hk
        rw [List.getElem?_map, hk] at hb
        have eb : fitsC k.h (dig r c i) = b := Option.some.inj hb
        have ey : V.ref u = y := Option.some.inj (hu.symm.trans hy)
        have ev : y = v := Option.some.inj (hy.symm.trans hv)
        subst ey eb ev
        have hcu' : M' u = _ := sm _ _ (s1 _ _ hcu)
        refine ⟨.refl _, fun Q' q' => ?_, fun M3 s3 _ Q' q' => ⟨_, rfl, q' _ (.refl _)⟩⟩
        exact ⟨_, rfl, u, _, 1, _, rfl, rfl, seqT_of hcu', rfl, _, rfl, k.h, dig r c i, rfl, hfit j k hk, by rw [dig_len]; omega, fun G sG => ⟨_, rfl, q' _ sG⟩⟩
      · intro M sm hM
        have nDd : D ≠ d := fun e => by rw [e, hd1] at hD; cases hD
        have hcf := clsL_pick hcl (fun k => fitsC k.h (dig r c i))
        generalize hfw : pickV (cs.map fun k => fitsC k.h (dig r c i)) ws = fw at hM hcf
        generalize hfc : (cs.filter fun k => fitsC k.h (dig r c i)) = fc at hcf
        have lfc : fc.length ≤ cs.length := by rw [← hfc]; exact List.length_filter_le ..
        have s2 := s1.trans sm
        have hdM : M d = some (.dT (newsM r c row cs (i * (c + 1) * (c + 1)))) := sm _ _ hd1
        refine ⟨_, rfl, _, rfl, for_it walk_str (fun j σ G => Same H G ∧ G D = some (.lst fw) ∧ G d = some (.dT (newsM r c row cs ((i * (c + 1) + j) * (c + 1)))) ∧ ∃ u3 u4 u5 u6 u7 : Option V, σ = [some (.ref p), some (.int row), some (.ref q), some (tx (sgs (c + 1))), some (.ref d), some (tx [x]), some (tx (dig r c i)), some (.ref D), u3, u4, u5, u6, u7]) ⟨s2, hM, by rw [Nat.add_zero]; exact hdM, _, _, _, _, _, rfl⟩ (fun _ _ _ _ _ => True.intro) ?_ ?_⟩
        · rintro j u σ G G2 hj ⟨s3, hGD, hd2, u3, u4, u5, u6, u7, rfl⟩ ⟨rfl, y, hy, rfl⟩
          have hy := at_S hy
          have hjs : j < c + 1 := by have e : (S (sgs (c + 1))).cps.size = c + 1 := by show (S (sgs (c + 1))).length = _; rw [S_len, sgs_len]
                                     omega
          have ey : y = sg j := by rw [sgs_at hjs] at hy; exact (Option.some.inj hy).symm
          refine ⟨_, rfl, D, rfl, ⟨_, seqL_of hGD⟩, fun B hB => lc_flt (walk_list (xs := fw)) (fc.map fun k => decide (y ∈ k.l)) fw (by rw [List.length_map, hcf.1]) rfl (by rw [hcf.1]; omega) hB (fun M sm => seqL_of (sm _ _ hGD)) ?_ ?_⟩
          · rintro t v2 M2 M2' b v ht sm2 ⟨rfl, hv2⟩ hb hv
            obtain ⟨k, hk⟩ : ∃ k, fc[t]? = some k := ⟨_, List.getElem?_eq_getElem (by rw [← hcf.1]; exact ht)⟩
            obtain ⟨u, hu, hcu⟩ := hcf.2 t k hk
            rw [List.getElem?_map, hk] at hb
            have eb : decide (y ∈ k.l) = b := Option.some.inj hb
            have ey : V.ref u = v2 := Option.some.inj (hu.symm.trans hv2)
            have ev : v2 = v := Option.some.inj (hv2.symm.trans hv)
            subst ey eb ev
            have hcu' : M2' u = _ := sm2 _ _ (s3 _ _ hcu)
            refine ⟨.refl _, fun Q' q' => ?_, fun M3 s3 _ Q' q' => ⟨_, rfl, q' _ (.refl _)⟩⟩
            refine ⟨_, rfl, _, rfl, u, _, 0, _, rfl, rfl, seqT_of hcu', rfl, y, S k.l, rfl, rfl, _, rfl, ?_⟩
            exact q' _ (.refl _)
          · intro M2 sm2 hM2
            have hcb := clsL_pick hcf (fun k => decide (y ∈ k.l))
            generalize hbw : pickV (fc.map fun k => decide (y ∈ k.l)) fw = bw at hM2 hcb
            generalize hbc : (fc.filter fun k => decide (y ∈ k.l)) = bc at hcb
            have lbc : bc.length ≤ fc.length := by rw [← hbc]; exact List.length_filter_le ..
            have nBd : B ≠ d := fun e => by rw [e, hd2] at hB; cases hB
            have nBD : B ≠ D := fun e => by rw [e, hGD] at hB; cases hB
            have s4 := s3.trans sm2
            refine ⟨_, rfl, _, rfl, for_it walk_str (fun t σ G => Same H G ∧ G D = some (.lst fw) ∧ G B = some (.lst bw) ∧ G d = some (.dT (newsM r c row cs ((i * (c + 1) + j) * (c + 1) + t))) ∧ ∃ u3 u6 u7 : Option V, σ = [some (.ref p), some (.int row), some (.ref q), some (tx (sgs (c + 1))), some (.ref d), some (tx [x]), some (tx (dig r c i)), some (.ref D), u3, some (tx [y]), some (.ref B), u6, u7]) ⟨s4, sm2 _ _ hGD, hM2, by rw [Nat.add_zero]; exact sm2 _ _ hd2, _, _, _, rfl⟩ (fun _ _ _ _ _ => True.intro) ?_ ?_⟩
            · rintro t u σ N N2 ht ⟨s5, hND, hNB, hd3, u3, u6, u7, rfl⟩ ⟨rfl, g, hg, rfl⟩
              have hg := at_S hg
              have hts : t < c + 1 := by have e : (S (sgs (c + 1))).cps.size = c + 1 := by show (S (sgs (c + 1))).length = _; rw [S_len, sgs_len]
                                         omega
              have eg : g = sg t := by rw [sgs_at hts] at hg; exact (Option.some.inj hg).symm
              refine ⟨_, rfl, B, rfl, ⟨_, seqL_of hNB⟩, fun F hF => lc_flt (walk_list (xs := bw)) (bc.map fun k => decide (g ∈ k.r)) (bc.map fun k => tx [k.new]) (by rw [List.length_map, hcb.1]) (by rw [List.length_map, hcb.1]) (by rw [hcb.1]; omega) hF (fun M sm => seqL_of (sm _ _ hNB)) ?_ ?_⟩
              · rintro e v2 N3 N3' b v he sm3 ⟨rfl, hv2⟩ hb hv
                obtain ⟨k, hk⟩ : ∃ k, bc[e]? = some k := ⟨_, List.getElem?_eq_getElem (by rw [← hcb.1]; exact he)⟩
                obtain ⟨u, hu, hcu⟩ := hcb.2 e k hk
                rw [List.getElem?_map, hk] at hb hv
                have eb : decide (g ∈ k.r) = b := Option.some.inj hb
                have ev : tx [k.new] = v := Option.some.inj hv
                have ey : V.ref u = v2 := Option.some.inj (hu.symm.trans hv2)
                subst ey eb ev
                have hcu' : N3' u = _ := sm3 _ _ (s5 _ _ hcu)
                refine ⟨.refl _, fun Q' q' => ?_, fun M3 s3 _ Q' q' => ⟨_, rfl, u, _, 3, _, rfl, rfl, seqT_of (s3 _ _ hcu'), rfl, q' _ (.refl _)⟩⟩
                refine ⟨_, rfl, _, rfl, u, _, 2, _, rfl, rfl, seqT_of hcu', rfl, g, S k.r, rfl, rfl, _, rfl, ?_⟩
                exact q' _ (.refl _)
              · intro N3 sm3 hN3
                rw [pick_map] at hN3
                have hnews : bc.filter (fun k => decide (g ∈ k.r)) = news cs (sg j) (dig r c i) (sg t) := by
                  unfold news
                  rw [← hbc, ← hfc, ← ey, ← eg]
                rw [hnews] at hN3
                have ip := idx_parts (s := c + 1) (x := i) (i := j) (j := t) hjs hts
                have eW : W r c row cs ((i * (c + 1) + j) * (c + 1) + t) = valOf row cs (sg j) (dig r c i) (sg t) := by
                  show W r c row cs (idx (c + 1) i j t) = _
                  unfold W
                  rw [ip.1, ip.2.1, ip.2.2]
                have s6 := s5.trans sm3
                have nFd : F ≠ d := fun e => by rw [e, hd3] at hF; cases hF
                have nFD : F ≠ D := fun e => by rw [e, hND] at hF; cases hF
                have fin : ∀ v, v = tx [W r c row cs ((i * (c + 1) + j) * (c + 1) + t)] → ∀ (tu : Addr), N3 tu = none → ∃ (aa : Addr) (H' : Hp), V.ref d = .ref aa ∧ DPut (upd N3 tu (.tup [tx [y], tx [x], tx [g]])) aa (.ref tu) v H' ∧ Same H H' ∧ H' D = some (.lst fw) ∧ H' B = some (.lst bw) ∧ H' d = some (.dT (newsM r c row cs ((i * (c + 1) + j) * (c + 1) + (t + 1)))) := fun v ev tu htu => by
                  have st := ex_new (o := .tup [tx [y], tx [x], tx [g]]) htu
                  have hd4 : (upd N3 tu (.tup [tx [y], tx [x], tx [g]])) d = some (.dT (newsM r c row cs ((i * (c + 1) + j) * (c + 1) + t))) := st _ _ (sm3 _ _ hd3)
                  have hk : (upd N3 tu (.tup [tx [y], tx [x], tx [g]])) tu = some (.tup ((keyT c ((i * (c + 1) + j) * (c + 1) + t)).map kV)) := by
                    rw [upd_same]
                    show _ = some (HO.tup ((keyT c (idx (c + 1) i j t)).map kV))
                    unfold keyT
                    rw [ip.1, ip.2.1, ip.2.2, ← ey, ← eg, ← ex]
                    rfl
                  refine ⟨d, _, rfl, DPut.t hd4 hk (by rw [newsM_len]; exact szlt (by have := idx_lt (s := c + 1) (n := n) hin hjs hts; unfold idx at this; have h1 : n * (c + 1) * (c + 1) ≤ 9 * 4 * 4 := Nat.mul_le_mul (Nat.mul_le_mul gn.1 (by omega)) (by omega); omega)), ?_, ?_, ?_, ?_⟩
                  · exact ex_mut (s6.trans st) hd
                  · rw [upd_ne nDd]; exact st _ _ (sm3 _ _ hND)
                  · rw [upd_ne nBd]; exact st _ _ (sm3 _ _ hNB)
                  · rw [upd_same, ev, newsM_put]
                    rfl
                cases hnw : news cs (sg j) (dig r c i) (sg t) with
                | nil =>
                  rw [hnw] at hN3
                  refine ⟨_, rfl, false, .inl ⟨_, seqL_of hN3, rfl⟩, iteF ?_⟩
                  refine ⟨_, rfl, _, rfl, _, _, (dig r c i).getD row 0, rfl, rfl, by rw [S_len, dig_len]; exact szl (by omega), row_at sch.2 hrow _, ?_⟩
                  refine ⟨_, rfl, _, rfl, _, rfl, _, rfl, by show 3 ≤ sizeLine; decide, fun tu htu => ?_⟩
                  obtain ⟨aa, H', ea, hput, q1, q2, q3, q4⟩ := fin (tx [(dig r c i).getD row 0]) (by rw [eW, val_nil hnw]) tu htu
                  exact ⟨aa, H', ea, hput, q1, q2, q3, q4, _, _, _, rfl⟩
                | cons k0 kr =>
                  rw [hnw] at hN3
                  refine ⟨_, rfl, true, .inl ⟨_, seqL_of hN3, rfl⟩, iteT ?_⟩
                  refine ⟨_, rfl, F, _, 0, tx [k0.new], rfl, rfl, seqL_of hN3, atI_nat (j := 0) rfl, ?_⟩
                  refine ⟨_, rfl, _, rfl, _, rfl, _, rfl, by show 3 ≤ sizeLine; decide, fun tu htu => ?_⟩
                  obtain ⟨aa, H', ea, hput, q1, q2, q3, q4⟩ := fin (tx [k0.new]) (by rw [eW, val_cons hnw]) tu htu
                  exact ⟨aa, H', ea, hput, q1, q2, q3, q4, _, _, _, rfl⟩
            · rintro σ N ⟨s5, hND, hNB, hd3, u3, u6, u7, rfl⟩
              have e : (S (sgs (c + 1))).cps.size = c + 1 := by show (S (sgs (c + 1))).length = _; rw [S_len, sgs_len]
              rw [e] at hd3
              refine ⟨s5, hND, ?_, _, _, _, _, _, rfl⟩
              rw [hd3, show (i * (c + 1) + j) * (c + 1) + (c + 1) = (i * (c + 1) + (j + 1)) * (c + 1) by rw [show i * (c + 1) + (j + 1) = (i * (c + 1) + j) + 1 from rfl, Nat.succ_mul]]
        · rintro σ G ⟨s3, hGD, hd2, u3, u4, u5, u6, u7, rfl⟩
          have e : (S (sgs (c + 1))).cps.size = c + 1 := by show (S (sgs (c + 1))).length = _; rw [S_len, sgs_len]
          rw [e] at hd2
          refine ⟨s3, ?_, _, _, _, _, _, _, _, _, rfl⟩
          rw [hd2, show i * (c + 1) + (c + 1) = (i + 1) * (c + 1) by rw [Nat.succ_mul]]
    · rintro σ G ⟨s1, hd1, u1, u2, u3, u4, u5, u6, u7, u8, rfl⟩
      have e : (S (cols n)).cps.size = n := by show (S (cols n)).length = n; rw [S_len, cols_len]
      rw [e] at hd1
      exact ⟨_, rfl, z G d s1 hd hd1⟩
end
end K23

end
section
set_option Elab.async false
set_option linter.all false
set_option maxRecDepth 100000
set_option maxHeartbeats 4000000
namespace K23
open PySem PySem.Spec PyProof.Rows L2 Kit
section
variable {P : Program} {w : World} {K : PySem.W.Frag} {mg : Str → Option Value} {base : Heap} {a : Ad}
theorem all_congr {α : Type} {l : List α} {f g : α → Bool} (h : ∀ x ∈ l, f x = g x) : l.all f = l.all g := by
  induction l with
  | nil => rfl
  | cons x l ih => rw [List.all_cons, List.all_cons, h x List.mem_cons_self, ih fun y hy => h y (List.mem_cons_of_mem _ hy)]
def rf (s : Addr) (row : Nat) (q d : Addr) : List (Str × V) := [("scheme", .ref s), ("row", .int row), ("clauses", .ref q), ("_news", .ref d)]
theorem rf_scheme (s : Addr) (row : Nat) (q d : Addr) : (rf s row q d).lookup ("scheme" : Str) = some (.ref s) := by kernel_rfl
theorem rf_row (s : Addr) (row : Nat) (q d : Addr) : (rf s row q d).lookup ("row" : Str) = some (.int row) := by kernel_rfl
theorem rf_clauses (s : Addr) (row : Nat) (q d : Addr) : (rf s row q d).lookup ("clauses" : Str) = some (.ref q) := by kernel_rfl
theorem rf_news (s : Addr) (row : Nat) (q d : Addr) : (rf s row q d).lookup ("_news" : Str) = some (.ref d) := by kernel_rfl
theorem put_rf (s : Addr) (row : Nat) (q d : Addr) : putF "_news" (.ref d) (putF "clauses" (.ref q) (putF "row" (.int row) (putF "scheme" (.ref s) []))) = rf s row q d := by kernel_rfl
structure RuleAt (a : Ad) (H : Hp) (p s : Addr) (r c n row : Nat) (cs : List Cl) : Prop where
  sch : SchemeAt a.Scheme H s r c n
  ob : ∃ dx q d ws, H p = some (.ins a.Rule dx (rf s row q d)) ∧ H q = some (.lst ws) ∧ ClsL H ws cs ∧ H d = some (.dT (newsT r c n row cs))
  row : row < r
  ok : okCls r c cs
  len : cs.length ≤ 6
theorem RuleAt.mono {H G : Hp} {p s : Addr} {r c n row : Nat} {cs : List Cl} (h : RuleAt a H p s r c n row cs) (e : Same H G) : RuleAt a G p s r c n row cs := by
  obtain ⟨dx, q, d, ws, h1, h2, h3, h4⟩ := h.ob
  exact ⟨h.sch.mono e, ⟨dx, q, d, ws, e _ _ h1, e _ _ h2, h3.mono e, e _ _ h4⟩, h.row, h.ok, h.len⟩
/-- a list of clauses as they are given -/
def RcsL (H : Hp) (vs : List V) (rs : List RC) : Prop := vs.length = rs.length ∧ ∀ (i : Nat) (k : RC), rs[i]? = some k → ∃ p, vs[i]? = some (.ref p) ∧ RcAt H p k
theorem RcsL.mono {H G : Hp} {vs : List V} {rs : List RC} (h : RcsL H vs rs) (e : Same H G) : RcsL G vs rs := ⟨h.1, fun i k hk => let ⟨p, h1, h2⟩ := h.2 i k hk; ⟨p, h1, e _ _ h2⟩⟩
def toCl (k : RC) : Cl := ⟨k.l, k.h, k.r, k.x.headD 0⟩
theorem wrong_none {r c : Nat} {k : RC} (h : wrongP r c k = none) : okCl r c (toCl k) ∧ k.x = [k.x.headD 0] := by
  unfold wrongP at h
  split at h
  · rename_i h1
    split at h
    · rename_i h2
      split at h
      · rename_i h3
        split at h
        · rename_i h4
          unfold hereB at h2
          rw [Bool.and_eq_true, decide_eq_true_iff, List.all_eq_true] at h2
          unfold isColour at h4
          rw [Bool.and_eq_true, decide_eq_true_iff, List.all_eq_true] at h4
          obtain ⟨d, hd⟩ : ∃ d, k.x = [d] := List.length_eq_one_iff.mp h4.1
          refine ⟨⟨sideB_iff.mp h1, h2.1, fun x hx => ?_, sideB_iff.mp h3, ?_⟩, by rw [hd]; rfl⟩
          · have := h2.2 x hx
            rw [Bool.or_eq_true, decide_eq_true_iff] at this
            exact this
          · show inDig c (k.x.headD 0) = true
            rw [hd]
            exact h4.2 d (by rw [hd]; exact List.mem_cons_self)
        · cases h
      · cases h
    · cases h
  · cases h
def firstW (r c : Nat) : Nat → List RC → Option (Nat × String)
  | _, [] => none
  | i, k :: ks => match wrongP r c k with
    | some s => some (i, s)
    | none => firstW r c (i + 1) ks
theorem firstW_ok {r c i : Nat} {k : RC} {ks : List RC} (h : wrongP r c k = none) : firstW r c i (k :: ks) = firstW r c (i + 1) ks := by
  show (match wrongP r c k with | some s => some (i, s) | none => firstW r c (i + 1) ks) = _
  rw [h]
theorem firstW_bad {r c i : Nat} {k : RC} {ks : List RC} {t : String} (h : wrongP r c k = some t) : firstW r c i (k :: ks) = some (i, t) := by
  show (match wrongP r c k with | some s => some (i, s) | none => firstW r c (i + 1) ks) = _
  rw [h]
theorem firstW_none {r c : Nat} : ∀ {rs : List RC} {i : Nat}, firstW r c i rs = none → ∀ k ∈ rs, wrongP r c k = none
  | [], _, _, k, hk => by cases hk
  | x :: xs, i, h, k, hk => by
    unfold firstW at h
    cases e : wrongP r c x with
    | some s => rw [e] at h; cases h
    | none =>
      rw [e] at h
      rcases List.mem_cons.mp hk with q | q
      · rw [q]; exact e
      · exact firstW_none (i := i + 1) h k q
theorem rcs_cls {H : Hp} {ws : List V} {rs : List RC} {r c : Nat} (h : RcsL H ws rs) (w : ∀ k ∈ rs, wrongP r c k = none) : ClsL H ws (rs.map toCl) ∧ okCls r c (rs.map toCl) := by
  refine ⟨⟨by rw [List.length_map]; exact h.1, fun i k hk => ?_⟩, fun k hk => ?_⟩
  · rw [List.getElem?_map] at hk
    obtain ⟨x, hx, rfl⟩ := Option.map_eq_some_iff.mp hk
    obtain ⟨p, h1, h2⟩ := h.2 i x hx
    refine ⟨p, h1, ?_⟩
    unfold RcAt at h2
    rw [(wrong_none (w x (List.mem_of_getElem? hx))).2] at h2
    exact h2
  · obtain ⟨x, hx, rfl⟩ := List.mem_map.mp hk
    exact (wrong_none (w x hx)).1
theorem ne_someD {H : Hp} {u b : Addr} {o : HO} (h : H u = none) (e : H b = some o) : b ≠ u := fun x => by rw [x, h] at e; cases e
def inRow (r : Nat) (row : Int) : Prop := 0 ≤ row ∧ row < (r : Int)
def spRInit (a : Ad) : Sp := fun vs H Q E => ∃ (p dx s q : Addr) (r c n : Nat) (row : Int) (ws : List V) (rs : List RC), vs = [.ref p, .ref s, .int row, .ref q] ∧ H p = some (.ins a.Rule dx []) ∧ SchemeAt a.Scheme H s r c n ∧ H q = some (.lst ws) ∧ RcsL H ws rs ∧ (∀ k ∈ rs, RcSmall k) ∧ rs.length ≤ 100 ∧
  (¬ inRow r row → Ra E a.BadRow "row" (.int row) H) ∧ (inRow r row → 6 < rs.length → Ra E a.TooMany "most" (.int 6) H) ∧ (inRow r row → rs.length ≤ 6 → ∀ i t, firstW r c 0 rs = some (i, t) → Ra2 E a.BadClause "index" "part" (.int (i : Nat)) (.str (Str.ofString t)) H) ∧
  (inRow r row → rs.length ≤ 6 → firstW r c 0 rs = none → ∀ G, (∀ b o, H b = some o → b ≠ p → G b = some o) → RuleAt a G p s r c n row.toNat (rs.map toCl) → (∀ ys, RuleAt a (upd G q (.lst ys)) p s r c n row.toNat (rs.map toCl)) → Q .non G)
theorem c_Rule_init (T : Txt K mg a) : CanN P w K mg base 5 a.Rule "Rule" (spRInit a) := by
  refine canN_of T.c_Rule T.m_Rule___init__ sc_Rule___init__ bd_Rule___init__ (fun vs H Q E h => ?_) (fun f cdv A outer s0 H vs Q E hr h => ?_)
  · obtain ⟨p, dx, s, q, r, c, n, row, ws, rs, rfl, _⟩ := h
    rfl
  · obtain ⟨p, dx, s, q, r, c, n, row, ws, rs, rfl, hp, sch, hq, hcl, small, hlen, y1, y2, y3, z⟩ := h
    refine ⟨_, (pss_cons (ps_if (pt_not (pt_chain op_le op_lt pe_int (pv 2) (kfld K (pv 1)))) (pss_one (pr_err (c_BadRow T) (takes_of rfl rfl rfl rfl) (by rfl) hr (by decide) (by rfl) (pv 2))) pss_nil)
      (pss_cons (ps_if (pt_cmpR op_gt (pe_callB (klen_seq K) (by rfl) T.b_len (by decide +kernel) (pa_cons (pv 3) pa_nil)) (C8.pe_gc (by rfl) T.g_MOST_CLAUSES) (nomark _)) (pss_one (pr_err (c_TooMany T) (takes_of rfl rfl rfl rfl) (by rfl) hr (by decide) (by rfl) (C8.pe_gc (by rfl) T.g_MOST_CLAUSES))) pss_nil)
      (pss_cons (ps_for (passes_of rfl) (by rfl) (pi_enum (by rfl) T.b_enumerate (pa_cons (pv 3) pa_nil)) (pg_tup rfl (pgs_cons (pg_name (i := 4) sc_Rule___init__.nd rfl (.inl rfl)) (pgs_cons (pg_name (i := 5) sc_Rule___init__.nd rfl (.inl rfl)) pgs_nil))) (pss_cons (ps_set (i := 6) sc_Rule___init__.nd rfl (.inl rfl) (pc_f (c_wrong_part T) hr (by decide) (by rfl) (pa_cons (pv 1) (pa_cons (pv 5) pa_nil))))
      (pss_one (ps_if (pt_cmpR op_notN (pv 6) pe_non (nomark _)) (pss_one (pr_err2 (c_BadClause T) (takes_of rfl rfl rfl rfl) (by rfl) hr (by decide) (by rfl) (pv 4) (pv 6))) pss_nil))))
      (pss_cons (ps_fld (pv 0) (pv 1) rfl)
      (pss_cons (ps_fld (pv 0) (pv 2) rfl)
      (pss_cons (ps_fld (pv 0) (pe_lc (own := [("clause", 5)]) (g := gName 5) (tt := tYes) (by rfl) sc_Rule___init__.nd (kpi_list K (pv 3)) (blkOk_by (N := N_Rule___init__) (sc := defScope s_Rule___init__) (by decide +kernel)) (fun _ _ _ _ _ => (pg_name (i := 5) sc_Rule___init__.nd rfl (.inl rfl))) (fun _ _ _ _ _ => pts_nil) (fun _ _ _ _ _ => (pe_callTy (ktup_of K) (by rfl) T.b_tuple (by decide +kernel) (pa_cons (pv 5) pa_nil)))) rfl)
      (pss_one (ps_fld (pv 0) (pc_f (c_all_values T) hr (by decide) (by rfl) (pa_cons (pv 1) (pa_cons (pv 2) (pa_cons (kfld K (pv 0)) pa_nil)))) rfl)))))))), ?_⟩
    have gn := good_n sch.2
    obtain ⟨sx, hs⟩ := sch.1
    have nsp : s ≠ p := fun e => by rw [e, hp] at hs; injection hs with e1; injection e1 with e2 e3 e4; exact absurd e4 (by simp [fl])
    have nqp : q ≠ p := fun e => by rw [e, hp] at hq; cases hq
    have lw : ws.length = rs.length := hcl.1
    refine ⟨_, rfl, _, _, rfl, rfl, _, rfl, ?_⟩
    by_cases c0 : 0 ≤ row
    · rw [decide_eq_true c0]
      refine iteT ?_
      refine ⟨_, rfl, s, _, sx, _, _, rfl, hs, T.c_Scheme.cl, T.n_rows, fl_rows r c n, _, _, rfl, rfl, _, rfl, ?_⟩
      by_cases c1 : row < (r : Int)
      · rw [decide_eq_true c1]
        obtain ⟨row, rfl⟩ : ∃ m : Nat, row = (m : Int) := ⟨row.toNat, by omega⟩
        have hrow : row < r := by omega
        have hin : inRow r row := ⟨c0, c1⟩
        refine iteF ?_
        refine ⟨_, rfl, q, _, rfl, .inl (seqL_of hq), _, _, rfl, rfl, _, rfl, ?_⟩
        rw [lw]
        by_cases c2 : (6 : Int) < (rs.length : Int)
        · rw [decide_eq_true c2]
          refine iteT ?_
          exact (y2 hin (by omega)).now
        · rw [decide_eq_false c2]
          have c6 : rs.length ≤ 6 := by omega
          refine iteF ?_
          refine ⟨_, rfl, q, _, rfl, seqL_of hq, for_it walk_enum (fun i σ G => Same H G ∧ (∀ j < i, ∀ k, rs[j]? = some k → wrongP r c k = none) ∧ firstW r c i (rs.drop i) = firstW r c 0 rs ∧ ∃ u v w : Option V, σ = [some (.ref p), some (.ref s), some (.int (row : Nat)), some (.ref q), u, v, w]) ⟨.refl _, nofun, rfl, none, none, none, rfl⟩ (fun i σ G _ h => seqL_of (h.1 _ _ hq)) ?_ ?_⟩
          · rintro i x σ G G' hi ⟨s1, hno, hf, u, v, w3, rfl⟩ ⟨t, x0, y0, rfl, hT, rfl, hx0, hy0⟩
            cases hx0
            have hi' : i < rs.length := by rw [← lw]; exact hi
            have hk : rs[i]? = some rs[i] := List.getElem?_eq_getElem hi'
            have hd : rs.drop i = rs[i] :: rs.drop (i + 1) := List.drop_eq_getElem_cons hi'
            rw [hd] at hf
            have sml := small _ (List.getElem_mem hi')
            generalize rs[i] = k at hk hd hf sml
            obtain ⟨b, hb, hcb⟩ := hcl.2 i k hk
            have ey : V.ref b = y0 := Option.some.inj (hb.symm.trans hy0)
            subst ey
            have s2 := s1.trans (ex_new (o := .tup [.int (i : Nat), .ref b]) hT)
            refine ⟨t, _, rfl, seqT_of upd_same, rfl, _, _, rfl, _, _, rfl, rfl, ?_⟩
            refine ⟨_, rfl, _, rfl, s, b, r, c, n, k, rfl, sch.mono s2, s2 _ _ hcb, sml, fun G3 s3 => ?_⟩
            have s4 := s2.trans s3
            cases e : wrongP r c k with
            | none =>
              rw [firstW_ok e] at hf
              refine ⟨_, rfl, rfl, _, rfl, ?_⟩
              rw [show decide (wrongV none = V.non) = true from decide_eq_true rfl]
              refine iteF ⟨s4, fun j hj k' hk' => ?_, hf, _, _, _, rfl⟩
              by_cases h : j < i
              · exact hno j h k' hk'
              · rw [show j = i by omega, hk] at hk'
                rw [← Option.some.inj hk']
                exact e
            | some tt =>
              rw [firstW_bad e] at hf
              refine ⟨_, rfl, rfl, _, rfl, ?_⟩
              rw [show decide (wrongV (some tt) = V.non) = false from decide_eq_false (fun h => by cases h)]
              exact iteT ⟨_, rfl, _, rfl, ((y3 hin c6 i tt hf.symm).mono s4).now⟩
          · rintro σ G ⟨s1, hno, hf, u, v, w3, rfl⟩
            have hdl : rs.drop ws.length = [] := List.drop_of_length_le (by omega)
            rw [hdl] at hf
            have hfn : firstW r c 0 rs = none := hf.symm
            have hw := firstW_none hfn
            obtain ⟨hcl, ok⟩ := rcs_cls hcl hw
            have z := z hin c6 hfn
            rw [Int.toNat_natCast] at z
            have lw : ws.length = (rs.map toCl).length := hcl.1
            have hlen : (rs.map toCl).length ≤ 6 := by rw [List.length_map]; exact c6
            clear hlen
            have hlen : (rs.map toCl).length ≤ 6 := by rw [List.length_map]; exact c6
            generalize hcs : rs.map toCl = cs at hcl ok z lw hlen
            have keepC : ∀ {M : Hp}, (∀ b o, H b = some o → b ≠ p → M b = some o) → ClsL M ws cs := fun km => ⟨hcl.1, fun i k hk => let ⟨b, h1, h2⟩ := hcl.2 i k hk; ⟨b, h1, km _ _ h2 fun e => by rw [e] at h2; unfold ClAt at h2; rw [hp] at h2; cases h2⟩⟩
            have keepS : ∀ {M : Hp}, (∀ b o, H b = some o → b ≠ p → M b = some o) → SchemeAt a.Scheme M s r c n := fun km => ⟨⟨sx, km _ _ hs nsp⟩, sch.2⟩
            have kG : ∀ b o, H b = some o → b ≠ p → G b = some o := fun b o e _ => s1 _ _ e
            refine ⟨_, rfl, _, rfl, p, _, dx, [], rfl, s1 _ _ hp, T.c_Rule.cl, T.y_scheme, by show 0 < 1000; decide, ?_⟩
            refine ⟨_, rfl, _, rfl, p, _, dx, _, rfl, upd_same, T.c_Rule.cl, T.y_row, by show 1 < 1000; decide, ?_⟩
            rw [upd_upd]
            have k2 : ∀ b o, H b = some o → b ≠ p → (upd G p (.ins a.Rule dx (putF "row" (.int row) (putF "scheme" (.ref s) [])))) b = some o := fun b o e hb => by rw [upd_ne hb]; exact kG b o e hb
            generalize hM : upd G p (.ins a.Rule dx (putF "row" (.int row) (putF "scheme" (.ref s) []))) = M at k2
            have hMp : M p = some (.ins a.Rule dx (putF "row" (.int row) (putF "scheme" (.ref s) []))) := by rw [← hM]; exact upd_same
            refine ⟨_, rfl, q, rfl, ⟨_, seqL_of (k2 _ _ hq nqp)⟩, fun D hD => lc_one (walk_list (xs := ws)) ws rfl (by omega) hD (fun N sm => seqL_of (sm _ _ (k2 _ _ hq nqp))) ?_ ?_⟩
            · rintro i x N N' v hi sm ⟨rfl, hx⟩ hv
              obtain ⟨k, hk⟩ : ∃ k, cs[i]? = some k := ⟨_, List.getElem?_eq_getElem (by rw [← lw]; exact hi)⟩
              obtain ⟨b, hb, hcb⟩ := (keepC k2).2 i k hk
              have ey : V.ref b = x := Option.some.inj (hb.symm.trans hx)
              have ev : x = v := Option.some.inj (hx.symm.trans hv)
              subst ey ev
              exact ⟨.refl _, fun Q' q' => ⟨_, rfl, b, _, rfl, .inr ⟨seqT_of (sm _ _ hcb), q' _ (.refl _)⟩⟩⟩
            · intro N sm hN
              have nDp : D ≠ p := fun e => by rw [e, hMp] at hD; cases hD
              refine ⟨_, rfl, p, _, dx, _, rfl, sm _ _ hMp, T.c_Rule.cl, T.y_clauses, by show 2 < 1000; decide, ?_⟩
              have k3 : ∀ b o, H b = some o → b ≠ p → (upd N p (.ins a.Rule dx (putF "clauses" (.ref D) (putF "row" (.int row) (putF "scheme" (.ref s) []))))) b = some o := fun b o e hb => by rw [upd_ne hb]; exact sm _ _ (k2 b o e hb)
              have hD3 : (upd N p (.ins a.Rule dx (putF "clauses" (.ref D) (putF "row" (.int row) (putF "scheme" (.ref s) []))))) D = some (.lst ws) := by rw [upd_ne nDp]; exact hN
              refine ⟨_, rfl, _, rfl, _, rfl, p, _, dx, _, _, rfl, upd_same, T.c_Rule.cl, T.y_clauses, by kernel_rfl, s, D, r, c, n, row, ws, cs, rfl, keepS k3, hrow, hD3, keepC k3, ok, by omega, fun G5 d s5 hd hG5 => ?_⟩
              have nDd : d ≠ p := fun e => by rw [e, upd_same] at hd; cases hd
              refine ⟨_, rfl, p, _, dx, _, rfl, s5 _ _ upd_same, T.c_Rule.cl, T.y_news, by show 3 < 1000; decide, ?_⟩
              have k6 : ∀ b o, H b = some o → b ≠ p → (upd G5 p (.ins a.Rule dx (putF "_news" (.ref d) (putF "clauses" (.ref D) (putF "row" (.int row) (putF "scheme" (.ref s) [])))))) b = some o := fun b o e hb => by rw [upd_ne hb]; exact s5 _ _ (k3 b o e hb)
              have nDq : D ≠ q := Ne.symm (ne_someD hD (k2 _ _ hq nqp))
              have ndq : d ≠ q := Ne.symm (ne_someD hd (k3 _ _ hq nqp))
              have hq6 := k6 _ _ hq nqp
              have hc6 := keepC k6
              refine z _ k6 ⟨keepS k6, ⟨dx, D, d, ws, by rw [upd_same, put_rf], by rw [upd_ne nDp]; exact s5 _ _ hD3, hc6, by rw [upd_ne nDd]; exact hG5⟩, hrow, ok, hlen⟩ fun ys => ⟨⟨⟨sx, ?_⟩, sch.2⟩, ⟨dx, D, d, ws, ?_, ?_, ⟨hc6.1, fun i k hk => ?_⟩, ?_⟩, hrow, ok, hlen⟩
              · rw [upd_ne fun e => by rw [e, hq] at hs; cases hs]
                exact k6 _ _ hs nsp
              · rw [upd_ne (Ne.symm nqp), upd_same, put_rf]
              · rw [upd_ne nDq, upd_ne nDp]
                exact s5 _ _ hD3
              · obtain ⟨b, h1, h2⟩ := hc6.2 i k hk
                refine ⟨b, h1, ?_⟩
                unfold ClAt at h2 ⊢
                rw [upd_ne fun e => by rw [e, hq6] at h2; cases h2]
                exact h2
              · rw [upd_ne ndq, upd_ne nDd]
                exact hG5
      · rw [decide_eq_false c1]
        refine iteT ?_
        exact ⟨_, rfl, (y1 fun h => c1 h.2).now⟩
    · rw [decide_eq_false c0]
      exact iteF ⟨_, rfl, iteT ⟨_, rfl, (y1 fun h => c0 h.1).now⟩⟩
theorem flat_news {R C row : Nat} {cs : List Cl} {m : Nat} : flatVs (newsM R C row cs m) = true := by
  unfold flatVs newsM
  rw [List.all_map, List.all_eq_true]
  intro x _
  rfl
theorem eqV_tx (x y : Nat) : eqV (tx [x]) (tx [y]) = decide (x = y) := by
  by_cases h : x = y
  · rw [h, decide_eq_true rfl]
    show ((S [y]) == (S [y])) = true
    exact beq_self_eq_true _
  · rw [decide_eq_false h]
    show ((S [x]) == (S [y])) = false
    exact beq_eq_false_iff_ne.mpr fun e => h (List.cons.inj (S_inj e)).1
theorem sub_news {R C n row : Nat} {cs ds : List Cl} : subV (newsT R C n row cs) (newsT R C n row ds) = sameW R C n row cs ds := by
  unfold subV sameW
  have e : newsT R C n row cs = (List.range (total n C)).map fun m => (keyT C m, tx [W R C row cs m]) := rfl
  rw [e, List.all_map]
  refine all_congr fun m hm => ?_
  show (match valV (newsT R C n row ds) (keyT C m) with | some y => eqV (tx [W R C row cs m]) y | none => false) = _
  rw [show valV (newsT R C n row ds) (keyT C m) = some (tx [W R C row ds m]) from newsM_get (List.mem_range.mp hm)]
  exact eqV_tx _ _
theorem good_fun {r c n m : Nat} (h : Good r c n) (k : Good r c m) : n = m := by
  rcases h.cases with ⟨rfl, rfl, rfl⟩ | ⟨rfl, rfl, rfl⟩ | ⟨rfl, rfl, rfl⟩ | ⟨rfl, rfl, rfl⟩ | ⟨rfl, rfl, rfl⟩ <;> rcases k.cases with ⟨h1, h2, h3⟩ | ⟨h1, h2, h3⟩ | ⟨h1, h2, h3⟩ | ⟨h1, h2, h3⟩ | ⟨h1, h2, h3⟩ <;> omega
def spEqR (a : Ad) : Sp := fun vs H Q _ => ∃ (p s : Addr) (r c n row : Nat) (cs : List Cl) (y : V), vs = [.ref p, y] ∧ RuleAt a H p s r c n row cs ∧
  ((∃ i, y = .int i ∧ Q (.bl false) H) ∨ (∃ t, y = .str t ∧ Q (.bl false) H) ∨ ∃ (p2 s2 : Addr) (r2 c2 n2 row2 : Nat) (ds : List Cl), y = .ref p2 ∧ RuleAt a H p2 s2 r2 c2 n2 row2 ds ∧ Q (.bl (decide (r = r2) && decide (c = c2) && decide (row = row2) && sameW r c n row cs ds)) H)
theorem c_Rule_eq (T : Txt K mg a) : CanM P w K mg base 2 a.Rule "__eq__" (spEqR a) := by
  refine canM_of T.c_Rule.cl T.m_Rule___eq__ sc_Rule___eq__ bd_Rule___eq__ (fun vs H Q E h => ?_) (fun f cdv A outer s0 H vs Q E hr h => ?_)
  · obtain ⟨p, s, r, c, n, row, cs, y, rfl, _⟩ := h
    rfl
  · obtain ⟨p, s, r, c, n, row, cs, y, rfl, ru, z⟩ := h
    refine ⟨_, (pss_one (ps_ret (pe_and (pe_callB (kisi K) (by rfl) T.b_isinstance (by decide +kernel) (pa_cons (pv 1) (pa_cons (pe_glob (v := .ref a.Rule) (by rfl) T.c_Rule.gC rfl) pa_nil))) (pe_and (pe_cmpR (eqO K (c_Scheme_eq T) hr (by decide) T.i_ni T.i_ns) (kfld K (pv 0)) (kfld K (pv 1)) (nomark _)) (pe_and (pe_cmpR op_eq (kfld K (pv 0)) (kfld K (pv 1)) (nomark _)) (pe_one (pe_cmpR (op_eq_dT (units1 hr)) (kfld K (pv 0)) (kfld K (pv 1)) (nomark _)))))))), ?_⟩
    rcases z with ⟨i, rfl, z⟩ | ⟨t, rfl, z⟩ | ⟨p2, s2, r2, c2, n2, row2, ds, rfl, ru2, z⟩
    · exact ⟨_, rfl, _, _, _, _, false, rfl, .own _, .base (.int i), T.y_int, _, rfl, iteF z⟩
    · exact ⟨_, rfl, _, _, _, _, false, rfl, .own _, .base (.str t), T.y_str, _, rfl, iteF z⟩
    obtain ⟨dx, q, d, ws, hp, hq, hcl, hd⟩ := ru.ob
    obtain ⟨dx2, q2, d2, ws2, hp2, hq2, hcl2, hd2⟩ := ru2.ob
    obtain ⟨sx, hs⟩ := ru.sch.1
    obtain ⟨sx2, hs2⟩ := ru2.sch.1
    refine ⟨_, rfl, _, _, _, _, true, rfl, .own _, .base (.ins hp2 T.c_Rule.cl T.y_ha T.i_hn T.i_ht T.y_hm), T.y_own, _, rfl, iteT ?_⟩
    refine ⟨_, rfl, p, _, dx, _, _, rfl, hp, T.c_Rule.cl, T.y_scheme, rf_scheme s row q d, _, rfl, p2, _, dx2, _, _, rfl, hp2, T.c_Rule.cl, T.y_scheme, rf_scheme s2 row2 q2 d2, ?_⟩
    refine ⟨s, sx, _, rfl, hs, .inr (.inr ⟨s2, sx2, _, rfl, hs2⟩), s, r, c, n, .ref s2, rfl, ru.sch, .inr (.inr ⟨s2, r2, c2, n2, rfl, ru2.sch, _, rfl, _, rfl, ?_⟩)⟩
    cases e : (decide (r = r2) && decide (c = c2)) with
    | false =>
      rw [e, Bool.false_and, Bool.false_and] at z
      exact iteF z
    | true =>
      rw [e, Bool.true_and] at z
      rw [Bool.and_eq_true, decide_eq_true_iff, decide_eq_true_iff] at e
      obtain ⟨rfl, rfl⟩ := e
      have en := good_fun ru.sch.2 ru2.sch.2
      subst en
      refine iteT ?_
      refine ⟨_, rfl, p, _, dx, _, _, rfl, hp, T.c_Rule.cl, T.y_row, rf_row s row q d, _, rfl, p2, _, dx2, _, _, rfl, hp2, T.c_Rule.cl, T.y_row, rf_row s2 row2 q2 d2, rfl, _, rfl, ?_⟩
      by_cases er : row = row2
      · subst er
        rw [decide_eq_true rfl, Bool.true_and] at z
        rw [decide_eq_true rfl]
        refine iteT ?_
        refine ⟨_, rfl, p, _, dx, _, _, rfl, hp, T.c_Rule.cl, T.y_news, rf_news s row q d, _, rfl, p2, _, dx2, _, _, rfl, hp2, T.c_Rule.cl, T.y_news, rf_news s2 row q2 d2, d, d2, _, _, rfl, rfl, hd, hd2, flat_news, flat_news, ?_⟩
        rw [sub_news, show (newsT r c n row cs).length = (newsT r c n row ds).length by unfold newsT; rw [newsM_len, newsM_len], decide_eq_true rfl, Bool.true_and]
        exact z
      · rw [decide_eq_false er, Bool.false_and] at z
        rw [show decide (V.int ((row : Nat) : Int) = V.int ((row2 : Nat) : Int)) = false from decide_eq_false fun h => er (by injection h with h; omega)]
        exact iteF z
end
end K23

end
section
set_option Elab.async false
set_option linter.all false
set_option maxRecDepth 100000
set_option maxHeartbeats 4000000
namespace K23
open PySem PySem.Spec PyProof.Rows L2 Kit
section
variable {P : Program} {w : World} {K : PySem.W.Frag} {mg : Str → Option Value} {base : Heap} {a : Ad}
mutual
def deep : D → Nat
  | .lst ds => deeps ds + 1
  | .tup ds => deeps ds + 1
  | _ => 0
def deeps : List D → Nat
  | [] => 0
  | d :: ds => max (deep d) (deeps ds)
end
theorem deeps_at : ∀ {ds : List D} {i : Nat} {d : D}, ds[i]? = some d → deep d ≤ deeps ds
  | [], _, _, h => by simp at h
  | d :: ds, 0, e, h => by
    simp at h
    subst h
    unfold deeps
    omega
  | d :: ds, i + 1, e, h => by
    have := deeps_at (ds := ds) (i := i) (d := e) (by simpa using h)
    unfold deeps
    omega
mutual
def big : D → Nat
  | .lst ds => max ds.length (bigs ds)
  | .tup ds => max ds.length (bigs ds)
  | _ => 0
def bigs : List D → Nat
  | [] => 0
  | d :: ds => max (big d) (bigs ds)
end
theorem bigs_at : ∀ {ds : List D} {i : Nat} {d : D}, ds[i]? = some d → big d ≤ bigs ds
  | [], _, _, h => by simp at h
  | d :: ds, 0, e, h => by
    simp at h
    subst h
    unfold bigs
    omega
  | d :: ds, i + 1, e, h => by
    have := bigs_at (ds := ds) (i := i) (d := e) (by simpa using h)
    unfold bigs
    omega
def spSame : Nat → Sp := fun k vs H Q _ => ∃ (x y : V) (d : D), vs = [x, y] ∧ Rp H d x ∧ Rp H d y ∧ deep d < k ∧ big d ≤ 10000 ∧ Q (.bl true) H
theorem eq_refl_int (i : Int) : decide ((V.int i) = V.int i) = true := decide_eq_true rfl
theorem same_step (T : Txt K mg a) {k : Nat} (ih : Can P w K mg base k "_law_same" (spSame k)) : Can P w K mg base (k + 1) "_law_same" (spSame (k + 1)) := by
  refine can_of T.d_law_same sc_law_same bd_law_same (fun vs H Q E h => ?_) (fun f cdv A outer s H vs Q E hr h => ?_)
  · obtain ⟨x, y, d, rfl, _⟩ := h
    rfl
  · obtain ⟨x, y, d, rfl, hx, hy, hd, hb, z⟩ := h
    refine ⟨_, (pss_cons (ps_if (pt_cmpR op_isN (pv 1) pe_non (nomark _)) (pss_one (ps_ret (pe_cmpR op_isN (pv 0) pe_non (nomark _)))) pss_nil)
      (pss_cons (ps_if (pt_val (pe_callB (kisi K) (by rfl) T.b_isinstance (by decide +kernel) (pa_cons (pv 1) (pa_cons (pe_bltn (v := .ty "bool") (by rfl) T.b_bool (by decide +kernel) rfl) pa_nil)))) (pss_one (ps_ret (pe_and (pe_callB (kisi K) (by rfl) T.b_isinstance (by decide +kernel) (pa_cons (pv 0) (pa_cons (pe_bltn (v := .ty "bool") (by rfl) T.b_bool (by decide +kernel) rfl) pa_nil))) (pe_one (pe_cmpR op_eq (pv 0) (pv 1) (nomark _)))))) pss_nil)
      (pss_cons (ps_if (pt_val (pe_callB (kisi K) (by rfl) T.b_isinstance (by decide +kernel) (pa_cons (pv 1) (pa_cons (pe_bltn (v := .ty "int") (by rfl) T.b_int (by decide +kernel) rfl) pa_nil)))) (pss_one (ps_ret (pe_and (pe_callB (kisi K) (by rfl) T.b_isinstance (by decide +kernel) (pa_cons (pv 0) (pa_cons (pe_bltn (v := .ty "int") (by rfl) T.b_int (by decide +kernel) rfl) pa_nil))) (pe_and (pe_not (pe_callB (kisi K) (by rfl) T.b_isinstance (by decide +kernel) (pa_cons (pv 0) (pa_cons (pe_bltn (v := .ty "bool") (by rfl) T.b_bool (by decide +kernel) rfl) pa_nil)))) (pe_one (pe_cmpR op_eq (pv 0) (pv 1) (nomark _))))))) pss_nil)
      (pss_cons (ps_if (pt_val (pe_callB (kisi K) (by rfl) T.b_isinstance (by decide +kernel) (pa_cons (pv 1) (pa_cons (pe_bltn (v := .ty "str") (by rfl) T.b_str (by decide +kernel) rfl) pa_nil)))) (pss_one (ps_ret (pe_and (pe_callB (kisi K) (by rfl) T.b_isinstance (by decide +kernel) (pa_cons (pv 0) (pa_cons (pe_bltn (v := .ty "str") (by rfl) T.b_str (by decide +kernel) rfl) pa_nil))) (pe_one (pe_cmpR op_eq (pv 0) (pv 1) (nomark _)))))) pss_nil)
      (pss_cons (ps_if (PW.pt (pw_and (pt_val (pe_callB (kisi K) (by rfl) T.b_isinstance (by decide +kernel) (pa_cons (pv 1) (pa_cons (pe_bltn (v := .ty "tuple") (by rfl) T.b_tuple (by decide +kernel) rfl) pa_nil)))) (pw_and1 (pt_not (pt_val (pe_callB (kisi K) (by rfl) T.b_isinstance (by decide +kernel) (pa_cons (pv 0) (pa_cons (pe_bltn (v := .ty "tuple") (by rfl) T.b_tuple (by decide +kernel) rfl) pa_nil)))))))) (pss_one (ps_ret pe_bl)) pss_nil)
      (pss_cons (ps_if (PW.pt (pw_and (pt_val (pe_callB (kisi K) (by rfl) T.b_isinstance (by decide +kernel) (pa_cons (pv 1) (pa_cons (pe_bltn (v := .ty "list") (by rfl) T.b_list (by decide +kernel) rfl) pa_nil)))) (pw_and1 (pt_not (pt_val (pe_callB (kisi K) (by rfl) T.b_isinstance (by decide +kernel) (pa_cons (pv 0) (pa_cons (pe_bltn (v := .ty "list") (by rfl) T.b_list (by decide +kernel) rfl) pa_nil)))))))) (pss_one (ps_ret pe_bl)) pss_nil)
      (pss_cons (ps_if (pt_cmpR op_ne (pe_callB (klen K) (by rfl) T.b_len (by decide +kernel) (pa_cons (pv 0) pa_nil)) (pe_callB (klen K) (by rfl) T.b_len (by decide +kernel) (pa_cons (pv 1) pa_nil)) (nomark _)) (pss_one (ps_ret pe_bl)) pss_nil)
      (pss_cons (ps_for (passes_of rfl) (by rfl) (pi_range1 (by rfl) T.b_range (pa_cons (pe_callB (klen K) (by rfl) T.b_len (by decide +kernel) (pa_cons (pv 1) pa_nil)) pa_nil)) (pg_name (i := 2) sc_law_same.nd rfl (.inl rfl)) (pss_one (ps_if (pt_not (pt_val (pc_f ih hr (Nat.le_refl _) (by rfl) (pa_cons (pe_ix (kix_seq K) (pv 0) (pv 2) (fun _ _ => rfl)) (pa_cons (pe_ix (kix_seq K) (pv 1) (pv 2) (fun _ _ => rfl)) pa_nil))))) (pss_one (ps_ret pe_bl)) pss_nil)))
      (pss_one (ps_ret pe_bl)))))))))), ?_⟩
    cases d with
    | non =>
      cases hx
      cases hy
      exact ⟨_, rfl, rfl, _, rfl, iteT ⟨_, rfl, rfl, z⟩⟩
    | bl b =>
      cases hx
      cases hy
      refine ⟨_, rfl, rfl, _, rfl, iteF ?_⟩
      refine ⟨_, rfl, _, _, _, _, true, rfl, .ty _, .base (.bl b), rfl, _, rfl, iteT ?_⟩
      refine ⟨_, rfl, _, _, _, _, true, rfl, .ty _, .base (.bl b), rfl, _, rfl, iteT ⟨_, rfl, _, rfl, rfl, ?_⟩⟩
      rw [decide_eq_true rfl]
      exact z
    | int i =>
      cases hx
      cases hy
      refine ⟨_, rfl, rfl, _, rfl, iteF ?_⟩
      refine ⟨_, rfl, _, _, _, _, false, rfl, .ty _, .base (.int i), rfl, _, rfl, iteF ?_⟩
      refine ⟨_, rfl, _, _, _, _, true, rfl, .ty _, .base (.int i), rfl, _, rfl, iteT ?_⟩
      refine ⟨_, rfl, _, _, _, _, true, rfl, .ty _, .base (.int i), rfl, _, rfl, iteT ?_⟩
      refine ⟨_, rfl, _, _, _, _, false, rfl, .ty _, .base (.int i), rfl, _, rfl, _, rfl, iteT ⟨_, rfl, _, rfl, rfl, ?_⟩⟩
      rw [decide_eq_true rfl]
      exact z
    | txt l =>
      cases hx
      cases hy
      refine ⟨_, rfl, rfl, _, rfl, iteF ?_⟩
      refine ⟨_, rfl, _, _, _, _, false, rfl, .ty _, .base (.str _), rfl, _, rfl, iteF ?_⟩
      refine ⟨_, rfl, _, _, _, _, false, rfl, .ty _, .base (.str _), rfl, _, rfl, iteF ?_⟩
      refine ⟨_, rfl, _, _, _, _, true, rfl, .ty _, .base (.str _), rfl, _, rfl, iteT ?_⟩
      refine ⟨_, rfl, _, _, _, _, true, rfl, .ty _, .base (.str _), rfl, _, rfl, iteT ⟨_, rfl, _, rfl, rfl, ?_⟩⟩
      rw [decide_eq_true rfl]
      exact z
    | lst ds =>
      obtain ⟨p, vs, rfl, hp, hvs⟩ := hx
      obtain ⟨q, us, rfl, hq, hus⟩ := hy
      have hd : deeps ds < k := by
        unfold deep at hd
        omega
      have hb : ds.length ≤ 10000 ∧ bigs ds ≤ 10000 := by
        unfold big at hb
        omega
      have lv := hvs.len
      have lu := hus.len
      refine ⟨_, rfl, rfl, _, rfl, iteF ?_⟩
      refine ⟨_, rfl, _, _, _, _, false, rfl, .ty _, .base (.lst hq), rfl, _, rfl, iteF ?_⟩
      refine ⟨_, rfl, _, _, _, _, false, rfl, .ty _, .base (.lst hq), rfl, _, rfl, iteF ?_⟩
      refine ⟨_, rfl, _, _, _, _, false, rfl, .ty _, .base (.lst hq), rfl, _, rfl, iteF ?_⟩
      refine ⟨_, rfl, _, _, _, _, false, rfl, .ty _, .base (.lst hq), rfl, _, rfl, iteF ?_⟩
      refine ⟨_, rfl, _, _, _, _, true, rfl, .ty _, .base (.lst hq), rfl, _, rfl, iteT ?_⟩
      refine ⟨_, rfl, _, _, _, _, true, rfl, .ty _, .base (.lst hp), rfl, _, rfl, iteF ?_⟩
      refine ⟨_, rfl, _, vs.length, rfl, .inl ⟨vs, seqL_of hp, rfl⟩, _, rfl, _, us.length, rfl, .inl ⟨us, seqL_of hq, rfl⟩, rfl, _, rfl, ?_⟩
      rw [lv, lu, decide_eq_true rfl]
      refine iteF ?_
      refine ⟨_, rfl, _, ds.length, rfl, .inl ⟨us, seqL_of hq, lu.symm⟩, ds.length, rfl, by omega, by omega, ?_⟩
      refine for_it (walk_range (lo := 0) (n := ((ds.length : Nat) : Int).toNat)) (fun i σ G => G = H ∧ ∃ v : Option V, σ = [some (.ref p), some (.ref q), v]) ⟨rfl, none, rfl⟩ (fun _ _ _ _ _ => True.intro) ?_ ?_
      · rintro i u σ G G' hi ⟨rfl, v, rfl⟩ ⟨rfl, rfl⟩
        have hi : i < ds.length := hi
        obtain ⟨x, ex, rx⟩ := Rps.at i ds[i] hvs (List.getElem?_eq_getElem hi)
        obtain ⟨y, ey, ry⟩ := Rps.at i ds[i] hus (List.getElem?_eq_getElem hi)
        have fx : atI vs (0 + (i : Int)) = some x := by
          rw [show (0 : Int) + ((i : Nat) : Int) = ((i : Nat) : Int) by omega]
          exact atI_nat ex
        have fy : atI us (0 + (i : Int)) = some y := by
          rw [show (0 : Int) + ((i : Nat) : Int) = ((i : Nat) : Int) by omega]
          exact atI_nat ey
        have d1 := deeps_at (List.getElem?_eq_getElem hi)
        have d2 := bigs_at (List.getElem?_eq_getElem hi)
        exact ⟨_, rfl, _, rfl, .inl ⟨p, vs, _, x, rfl, rfl, seqL_of hp, fx, _, rfl, _, rfl, .inl ⟨q, us, _, y, rfl, rfl, seqL_of hq, fy, x, y, ds[i], rfl, rx, ry, by omega, by omega, _, rfl, iteF ⟨rfl, _, rfl⟩⟩⟩⟩
      · rintro σ G ⟨rfl, v, rfl⟩
        exact z
    | tup ds =>
      obtain ⟨p, vs, rfl, hp, hvs⟩ := hx
      obtain ⟨q, us, rfl, hq, hus⟩ := hy
      have hd : deeps ds < k := by
        unfold deep at hd
        omega
      have hb : ds.length ≤ 10000 ∧ bigs ds ≤ 10000 := by
        unfold big at hb
        omega
      have lv := hvs.len
      have lu := hus.len
      refine ⟨_, rfl, rfl, _, rfl, iteF ?_⟩
      refine ⟨_, rfl, _, _, _, _, false, rfl, .ty _, .base (.tup hq), rfl, _, rfl, iteF ?_⟩
      refine ⟨_, rfl, _, _, _, _, false, rfl, .ty _, .base (.tup hq), rfl, _, rfl, iteF ?_⟩
      refine ⟨_, rfl, _, _, _, _, false, rfl, .ty _, .base (.tup hq), rfl, _, rfl, iteF ?_⟩
      refine ⟨_, rfl, _, _, _, _, true, rfl, .ty _, .base (.tup hq), rfl, _, rfl, iteT ?_⟩
      refine ⟨_, rfl, _, _, _, _, true, rfl, .ty _, .base (.tup hp), rfl, _, rfl, iteF ?_⟩
      refine ⟨_, rfl, _, _, _, _, false, rfl, .ty _, .base (.tup hq), rfl, _, rfl, iteF ?_⟩
      refine ⟨_, rfl, _, vs.length, rfl, .inr ⟨vs, seqT_of hp, rfl⟩, _, rfl, _, us.length, rfl, .inr ⟨us, seqT_of hq, rfl⟩, rfl, _, rfl, ?_⟩
      rw [lv, lu, decide_eq_true rfl]
      refine iteF ?_
      refine ⟨_, rfl, _, ds.length, rfl, .inr ⟨us, seqT_of hq, lu.symm⟩, ds.length, rfl, by omega, by omega, ?_⟩
      refine for_it (walk_range (lo := 0) (n := ((ds.length : Nat) : Int).toNat)) (fun i σ G => G = H ∧ ∃ v : Option V, σ = [some (.ref p), some (.ref q), v]) ⟨rfl, none, rfl⟩ (fun _ _ _ _ _ => True.intro) ?_ ?_
      · rintro i u σ G G' hi ⟨rfl, v, rfl⟩ ⟨rfl, rfl⟩
        have hi : i < ds.length := hi
        obtain ⟨x, ex, rx⟩ := Rps.at i ds[i] hvs (List.getElem?_eq_getElem hi)
        obtain ⟨y, ey, ry⟩ := Rps.at i ds[i] hus (List.getElem?_eq_getElem hi)
        have fx : atI vs (0 + (i : Int)) = some x := by
          rw [show (0 : Int) + ((i : Nat) : Int) = ((i : Nat) : Int) by omega]
          exact atI_nat ex
        have fy : atI us (0 + (i : Int)) = some y := by
          rw [show (0 : Int) + ((i : Nat) : Int) = ((i : Nat) : Int) by omega]
          exact atI_nat ey
        have d1 := deeps_at (List.getElem?_eq_getElem hi)
        have d2 := bigs_at (List.getElem?_eq_getElem hi)
        exact ⟨_, rfl, _, rfl, .inr (.inl ⟨p, vs, _, x, rfl, rfl, seqT_of hp, fx, _, rfl, _, rfl, .inr (.inl ⟨q, us, _, y, rfl, rfl, seqT_of hq, fy, x, y, ds[i], rfl, rx, ry, by omega, by omega, _, rfl, iteF ⟨rfl, _, rfl⟩⟩)⟩)⟩
      · rintro σ G ⟨rfl, v, rfl⟩
        exact z
theorem same_0 (T : Txt K mg a) : Can P w K mg base 0 "_law_same" (spSame 0) := by
  obtain ⟨f, fd, F, g⟩ := T.d_law_same.ex
  refine ⟨f, fd, P_law_same, ⟨fun vs H Q E h => ?_, fun _ _ _ _ _ _ _ _ _ _ _ _ _ h => ?_⟩, g, F.kp, F.binds bd_law_same⟩
  · obtain ⟨x, y, d, rfl, _⟩ := h
    rfl
  · obtain ⟨_, _, _, _, _, _, h, _⟩ := h
    omega
theorem same_n (T : Txt K mg a) : ∀ k, Can P w K mg base k "_law_same" (spSame k)
  | 0 => same_0 T
  | k + 1 => same_step T (same_n T k)
theorem c_law_same (T : Txt K mg a) : Can P w K mg base 4 "_law_same" (spSame 4) := same_n T 4
end
end K23

end
section
set_option Elab.async false
set_option linter.all false
set_option maxRecDepth 100000
set_option maxHeartbeats 4000000
namespace K23
open PySem PySem.Spec PyProof.Rows L2 Kit
section
variable {P : Program} {w : World} {K : PySem.W.Frag} {mg : Str → Option Value} {base : Heap} {a : Ad}
def hiK (c : Nat) : List (Key × V) := ((List.range (c - 1)).map fun i => (Sum.inr (S [48 + i]) : Key)).zip ((List.range (c - 1)).map fun i => tx [49 + i])
theorem hiK_get {c : Nat} (hc : c = 2 ∨ c = 3) (x : Nat) : valV (hiK c) (Sum.inr (S [x])) = if 48 ≤ x ∧ x + 1 < 48 + c then some (tx [x + 1]) else none := by
  have k : ∀ i, (Sum.inr (S [48 + i]) : Key) = Sum.inr (S [x]) ↔ x = 48 + i := fun i => ⟨fun e => (key1 e).symm, fun e => by rw [e]⟩
  rcases hc with rfl | rfl
  · show valV [((Sum.inr (S [48 + 0]) : Key), tx [49 + 0])] _ = _
    by_cases h : x = 48
    · rw [valV_pos ((k 0).mpr h), if_pos (by omega), h]
    · rw [valV_neg (fun e => h ((k 0).mp e)), valV_nil, if_neg (by omega)]
  · show valV [((Sum.inr (S [48 + 0]) : Key), tx [49 + 0]), ((Sum.inr (S [48 + 1]) : Key), tx [49 + 1])] _ = _
    by_cases h : x = 48
    · rw [valV_pos ((k 0).mpr h), if_pos (by omega), h]
    · rw [valV_neg (fun e => h ((k 0).mp e))]
      by_cases h2 : x = 49
      · rw [valV_pos ((k 1).mpr h2), if_pos (by omega), h2]
      · rw [valV_neg (fun e => h2 ((k 1).mp e)), valV_nil, if_neg (by omega)]
theorem cut_hi {c : Nat} (h : c = 2 ∨ c = 3) : cutS (Str.ofString "012") (some 1) (some (c : Int)) = S ((List.range (c - 1)).map (49 + ·)) := by
  rcases h with rfl | rfl <;> decide +kernel
theorem hi_nd {c : Nat} (h : c = 2 ∨ c = 3) : ((List.range (c - 1)).map fun i => (Sum.inr (S [48 + i]) : Key)).Nodup := by
  rcases h with rfl | rfl <;> decide +kernel
theorem sg_hi {c i : Nat} : (48 ≤ sg i ∧ sg i + 1 < 48 + c) ↔ (1 ≤ i ∧ i < c) := by
  unfold sg
  split <;> omega
theorem sg_up {i : Nat} (h : 1 ≤ i) : sg (i + 1) = sg i + 1 := by
  rw [sg_big h, sg_big (by omega)]
  omega
theorem ne_some {H : Hp} {u b : Addr} {o : HO} (h : H u = none) (e : H b = some o) : b ≠ u := fun x => by rw [x, h] at e; cases e
theorem old_in {r c n row m : Nat} (g : Good r c n) (hr : row < r) : 48 ≤ old r c row m ∧ old r c row m < 48 + c := by
  have h := dig_digs (r := r) (c := c) (k := lx (c + 1) m) (good_pos g).1
  unfold isDigs at h
  rw [Bool.and_eq_true] at h
  have hl : (dig r c (lx (c + 1) m)).length = r := dig_len ..
  have e : old r c row m ∈ dig r c (lx (c + 1) m) := by
    unfold old
    rw [List.getD_eq_getElem?_getD, List.getElem?_eq_getElem (by rw [hl]; exact hr)]
    exact List.getElem_mem _
  have := List.all_eq_true.mp h.2 _ e
  unfold inDig at this
  rw [decide_eq_true_iff] at this
  omega
/-- a list of looks, by their numbers -/
theorem lock_same {H G : Hp} {d : Addr} {u f : HO} (h : H d = some u) (e : Same (upd H d f) G) : Same H (upd G d u) := fun b o hb => by
  by_cases x : b = d
  · subst x
    rw [upd_same, ← h, hb]
  · rw [upd_ne x]
    exact e _ _ (by rw [upd_ne x]; exact hb)
theorem DGet.tf {H : Hp} {d b : Addr} {od : Obj} {kvs : List (List Key × V)} {k : List Key} (e : H d = some (.frz od (.dT kvs))) (eb : H b = some (.tup (k.map kV))) : DGet H d (.ref b) (valV kvs k) := .inr ⟨kvs, k, b, .inr ⟨od, e⟩, rfl, eb, rfl⟩
theorem lt_one {x y : Nat} (hx : x < 4294967296) (hy : y < 4294967296) : decide ((S [x]).cps.toList < (S [y]).cps.toList) = decide (x < y) := by
  show decide ([x] < [y]) = decide (x < y)
  rw [decide_eq_decide, List.cons_lt_cons_iff]
  exact ⟨fun h => h.elim id fun h => absurd h.2 (List.not_lt_nil _), .inl⟩
theorem newsM_at {R C row : Nat} {cs : List Cl} {m i : Nat} (hi : i < m) : (newsM R C row cs m)[i]? = some (keyT C i, tx [W R C row cs i]) := by
  unfold newsM
  rw [List.getElem?_map, List.getElem?_range hi]
  rfl
theorem W_small {r c n row : Nat} {cs : List Cl} (g : Good r c n) (ok : okCls r c cs) (hr : row < r) (m : Nat) : 48 ≤ W r c row cs m ∧ W r c row cs m < 51 := by
  have h := W_in (n := n) g ok hr m
  have gc := good_c g
  unfold inDig at h
  rw [decide_eq_true_iff] at h
  omega
theorem total_le {n c : Nat} (h : n ≤ 9) (hc : c = 2 ∨ c = 3) : total n c ≤ 144 := by
  unfold total
  rcases hc with rfl | rfl
  · omega
  · omega
theorem rowK_get {r c n row x : Nat} (hn : n ≤ 9) (hx : x < n) : valV (rowK r c n row) (Sum.inr (S [97 + x])) = some (tx [(dig r c x).getD row 0]) := by
  have hc : (cols n)[x]? = some (97 + x) := by
    unfold cols
    rw [List.getElem?_map, List.getElem?_range hx]
    rfl
  refine zip_get (i := x) (by rw [List.length_map, List.length_map]; exact Nat.le_refl _) (keys_nd hn) (by rw [List.getElem?_map, hc]; rfl) ?_
  rw [List.getElem?_map, hc]
  show some (tx [oldX r c row (97 + x)]) = _
  unfold oldX
  rw [Nat.add_sub_cancel_left]
theorem map_rng {α : Type} {f : Nat → α} {m i : Nat} {v : α} (hi : i < m) (h : ((List.range m).map f)[i]? = some v) : v = f i := by
  rw [List.getElem?_map, List.getElem?_range hi] at h
  exact (Option.some.inj h).symm
theorem any_bls {f : Nat → Bool} {m : Nat} : ((List.range m).map fun i => V.bl (f i)) = ((List.range m).map f).map V.bl := by rw [List.map_map]; rfl
theorem grown_lt {r c n row m y : Nat} (g : Good r c n) (hr : row < r) (hm : m < total n c) (hy : y ∈ grown r c row m) : y < total n c := by
  have gp := good_pos g
  have hx : lx (c + 1) m < n := lx_lt hm
  have hi := li_lt (s := c + 1) (m := m) (by omega)
  have hj := lj_lt (s := c + 1) (m := m) (by omega)
  have o1 := old_in (m := m) g hr
  unfold grown at hy
  rcases List.mem_append.mp hy with hy | hy
  · rcases List.mem_append.mp hy with hy | hy
    · split at hy
      · rw [List.mem_singleton] at hy
        subst hy
        exact idx_lt hx (by omega) hj
      · cases hy
    · split at hy
      · rename_i h
        rw [List.mem_singleton] at hy
        subst hy
        exact idx_lt (setX_lt (x := lx (c + 1) m) (d := old r c row m + 1) g hr (by unfold inDig; rw [decide_eq_true_iff]; exact ⟨by omega, h⟩)) hi hj
      · cases hy
  · split at hy
    · rw [List.mem_singleton] at hy
      subst hy
      exact idx_lt hx hi (by omega)
    · cases hy
theorem any_bls2 {f : Nat → Bool} {l : List Nat} : (l.map fun i => V.bl (f i)) = (l.map f).map V.bl := by rw [List.map_map]; rfl
/-! ### the written form -/
def pcl (k : Cl) : List Nat := k.l ++ 44 :: (k.h ++ 44 :: (k.r ++ [62, k.new]))
def jnl : List (List Nat) → List Nat
  | [] => []
  | [p] => p
  | p :: q :: r => p ++ 59 :: jnl (q :: r)
theorem cut_jnl : ∀ {ps : List (List Nat)}, ps ≠ [] → (∀ p ∈ ps, 59 ∉ p) → cutc 59 [] (jnl ps) = ps
  | [], h, _ => absurd rfl h
  | [p], _, h => by
    show cutc 59 [] p = _
    rw [cutc_none (h p List.mem_cons_self)]
    rfl
  | p :: q :: r, _, h => by
    show cutc 59 [] (p ++ 59 :: jnl (q :: r)) = _
    rw [cutc_at (h p List.mem_cons_self), cut_jnl (by simp) fun x hx => h x (List.mem_cons_of_mem _ hx)]
    rfl
theorem okSide.no {c : Nat} {l : List Nat} (hc : c ≤ 3) (h : okSide c l) {x : Nat} (hx : x = 44 ∨ x = 59 ∨ x = 62 ∨ x = 46) : x ∉ l := fun m => by
  obtain ⟨i, hi, e⟩ := h.mem m
  unfold sg at e
  split at e <;> omega
theorem okCl.noh {r c : Nat} {k : Cl} (hc : c ≤ 3) (h : okCl r c k) {x : Nat} (hx : x = 44 ∨ x = 59 ∨ x = 62) : x ∉ k.h := fun m => by
  rcases h.h x m with e | e
  · omega
  · unfold inDig at e
    rw [decide_eq_true_iff] at e
    omega
theorem okCl.non {r c : Nat} {k : Cl} (hc : c ≤ 3) (h : okCl r c k) : 48 ≤ k.new ∧ k.new < 51 := by
  have e := h.new
  unfold inDig at e
  rw [decide_eq_true_iff] at e
  omega
theorem pcl_no {r c : Nat} {k : Cl} (hc : c ≤ 3) (h : okCl r c k) : 59 ∉ pcl k := by
  unfold pcl
  have n := h.non hc
  simp only [List.mem_append, List.mem_cons, List.not_mem_nil, or_false, not_or]
  exact ⟨h.l.no hc (.inr (.inl rfl)), by omega, h.noh hc (.inr (.inl rfl)), by omega, h.r.no hc (.inr (.inl rfl)), by omega, by omega⟩
theorem pcl_cut {r c : Nat} {k : Cl} (hc : c ≤ 3) (h : okCl r c k) : cutc 44 [] (pcl k) = [k.l, k.h, k.r ++ [62, k.new]] := by
  unfold pcl
  rw [cutc_at (h.l.no hc (.inl rfl)), cutc_at (h.noh hc (.inl rfl)), cutc_none]
  · rfl
  · have n := h.non hc
    simp only [List.mem_append, List.mem_cons, List.not_mem_nil, or_false, not_or]
    exact ⟨h.r.no hc (.inl rfl), by omega, by omega⟩
theorem end_cut {r c : Nat} {k : Cl} (hc : c ≤ 3) (h : okCl r c k) : cutc 62 [] (k.r ++ [62, k.new]) = [k.r, [k.new]] := by
  rw [cutc_at (h.r.no hc (.inr (.inr (.inl rfl)))), cutc_none]
  · rfl
  · have n := h.non hc
    rw [List.mem_singleton]
    omega
theorem pcl_len {r c : Nat} {k : Cl} (h : okCl r c k) : (pcl k).length ≤ 2 * c + r + 6 := by
  unfold pcl
  have h1 := h.l.len
  have h2 := h.r.len
  have h3 := h.hl
  simp only [List.length_append, List.length_cons, List.length_nil]
  omega
theorem jnl_len {B : Nat} : ∀ {ps : List (List Nat)}, (∀ p ∈ ps, p.length ≤ B) → (jnl ps).length ≤ ps.length * (B + 1)
  | [], _ => Nat.zero_le _
  | [p], h => by
    have := h p List.mem_cons_self
    show p.length ≤ 1 * (B + 1)
    omega
  | p :: q :: r, h => by
    have h1 := h p List.mem_cons_self
    have h2 := jnl_len (ps := q :: r) fun x hx => h x (List.mem_cons_of_mem _ hx)
    show (p ++ 59 :: jnl (q :: r)).length ≤ (r.length + 1 + 1) * (B + 1)
    have h3 : (q :: r).length = r.length + 1 := rfl
    rw [h3] at h2
    rw [List.length_append, List.length_cons, Nat.succ_mul]
    omega
def rtx (row : Nat) (cs : List Cl) : List Nat := (48 + row) :: 58 :: jnl (cs.map pcl)
theorem rinitK {H : Hp} {y dx s q : Addr} {r c n : Nat} {row : Int} {ws : List V} {rs : List RC} {Q : VK} {E : XK} (hy : H y = none) (hdx : H dx = none) (hne : dx ≠ y) (sch : SchemeAt a.Scheme H s r c n) (hq : H q = some (.lst ws)) (hcl : RcsL H ws rs) (small : ∀ k ∈ rs, RcSmall k) (hlen : rs.length ≤ 100)
    (y1 : ¬ inRow r row → Ra E a.BadRow "row" (.int row) H) (y2 : inRow r row → 6 < rs.length → Ra E a.TooMany "most" (.int 6) H) (y3 : inRow r row → rs.length ≤ 6 → ∀ i t, firstW r c 0 rs = some (i, t) → Ra2 E a.BadClause "index" "part" (.int (i : Nat)) (.str (Str.ofString t)) H)
    (z : inRow r row → rs.length ≤ 6 → firstW r c 0 rs = none → ∀ G, Same H G → RuleAt a G y s r c n row.toNat (rs.map toCl) → (∀ ys, RuleAt a (upd G q (.lst ys)) y s r c n row.toNat (rs.map toCl)) → Q .non G) : spRInit a [.ref y, .ref s, .int row, .ref q] (upd (upd H dx (.own y)) y (.ins a.Rule dx [])) Q E := by
  have s1 : Same H (upd (upd H dx (.own y)) y (.ins a.Rule dx [])) := (ex_new hdx).trans (ex_new (by rw [upd_ne (Ne.symm hne)]; exact hy))
  refine ⟨y, dx, s, q, r, c, n, row, ws, rs, rfl, upd_same, sch.mono s1, s1 _ _ hq, hcl.mono s1, small, hlen, fun h => (y1 h).mono s1, fun h k => (y2 h k).mono s1, fun h k i t e => (y3 h k i t e).mono s1, fun h k e G kp ra rb => z h k e G (fun b o hb => ?_) ra rb⟩
  exact kp b o (s1 _ _ hb) fun x => by rw [x, hy] at hb; cases hb
theorem rinitG {H : Hp} {y dx s q : Addr} {r c n : Nat} {row : Int} {ws : List V} {rs : List RC} {Q : VK} {E : XK} (hy : H y = none) (hdx : H dx = none) (hne : dx ≠ y) (sch : SchemeAt a.Scheme H s r c n) (hq : H q = some (.lst ws)) (hcl : RcsL H ws rs) (small : ∀ k ∈ rs, RcSmall k) (hlen : rs.length ≤ 100)
    (y1 : ¬ inRow r row → Ra E a.BadRow "row" (.int row) H) (y2 : inRow r row → 6 < rs.length → Ra E a.TooMany "most" (.int 6) H) (y3 : inRow r row → rs.length ≤ 6 → ∀ i t, firstW r c 0 rs = some (i, t) → Ra2 E a.BadClause "index" "part" (.int (i : Nat)) (.str (Str.ofString t)) H)
    (z : inRow r row → rs.length ≤ 6 → firstW r c 0 rs = none → ∀ G, Same H G → RuleAt a G y s r c n row.toNat (rs.map toCl) → Q .non G) : spRInit a [.ref y, .ref s, .int row, .ref q] (upd (upd H dx (.own y)) y (.ins a.Rule dx [])) Q E :=
  rinitK hy hdx hne sch hq hcl small hlen y1 y2 y3 fun h k e G s ra _ => z h k e G s ra
def toRc (k : Cl) : RC := ⟨k.l, k.h, k.r, [k.new]⟩
theorem toCl_toRc (cs : List Cl) : (cs.map toRc).map toCl = cs := by
  rw [List.map_map]
  exact (List.map_congr_left fun k _ => rfl).trans (List.map_id _)
theorem ok_wrong {r c : Nat} {k : Cl} (h : okCl r c k) : wrongP r c (toRc k) = none := by
  have h2 : hereB r c k.h = true := by
    unfold hereB
    rw [Bool.and_eq_true, decide_eq_true_iff, List.all_eq_true]
    refine ⟨h.hl, fun x hx => ?_⟩
    rw [Bool.or_eq_true, decide_eq_true_iff]
    exact h.h x hx
  show (if sideB c k.l = true then (if hereB r c k.h = true then (if sideB c k.r = true then (if isColour c [k.new] = true then none else some "new") else some "right") else some "here") else some "left") = none
  rw [if_pos (sideB_iff.mpr h.l), if_pos h2, if_pos (sideB_iff.mpr h.r), if_pos (by rw [isColour_one]; exact h.new)]
theorem firstW_all {r c : Nat} : ∀ {rs : List RC} {i : Nat}, (∀ k ∈ rs, wrongP r c k = none) → firstW r c i rs = none
  | [], _, _ => rfl
  | x :: xs, i, h => by
    rw [firstW_ok (h x List.mem_cons_self)]
    exact firstW_all fun k hk => h k (List.mem_cons_of_mem _ hk)
theorem cls_rcs {H : Hp} {ws : List V} {cs : List Cl} (h : ClsL H ws cs) : RcsL H ws (cs.map toRc) := by
  refine ⟨by rw [List.length_map]; exact h.1, fun i k hk => ?_⟩
  rw [List.getElem?_map] at hk
  obtain ⟨x, hx, rfl⟩ := Option.map_eq_some_iff.mp hk
  exact h.2 i x hx
theorem ok_small {r c : Nat} {k : Cl} (hr : r ≤ 3) (hc : c ≤ 3) (h : okCl r c k) : RcSmall (toRc k) := by
  have h1 := h.l.len
  have h2 := h.r.len
  have h3 := h.hl
  refine ⟨by show k.l.length < 64; omega, by show k.h.length ≤ 1000; omega, by show k.r.length < 64; omega, by show 1 ≤ 1000; decide⟩
theorem cls_small {r c : Nat} {cs : List Cl} (hr : r ≤ 3) (hc : c ≤ 3) (h : okCls r c cs) : ∀ k ∈ cs.map toRc, RcSmall k := fun k hk => by
  obtain ⟨x, hx, rfl⟩ := List.mem_map.mp hk
  exact ok_small hr hc (h x hx)
theorem rinit {H : Hp} {y dx s q : Addr} {r c n row : Nat} {ws : List V} {cs : List Cl} {Q : VK} {E : XK} (hy : H y = none) (hdx : H dx = none) (hne : dx ≠ y) (sch : SchemeAt a.Scheme H s r c n) (hrow : row < r) (hq : H q = some (.lst ws)) (hcl : ClsL H ws cs) (ok : okCls r c cs) (hlen : cs.length ≤ 6)
    (z : ∀ G, Same H G → RuleAt a G y s r c n row cs → Q .non G) : spRInit a [.ref y, .ref s, .int row, .ref q] (upd (upd H dx (.own y)) y (.ins a.Rule dx [])) Q E := by
  have gn := good_n sch.2
  have gc := good_c sch.2
  have hin : inRow r (row : Int) := ⟨by omega, by omega⟩
  have hw : ∀ k ∈ cs.map toRc, wrongP r c k = none := fun k hk => by
    obtain ⟨x, hx, rfl⟩ := List.mem_map.mp hk
    exact ok_wrong (ok x hx)
  have l6 : (cs.map toRc).length ≤ 6 := by rw [List.length_map]; exact hlen
  refine rinitG hy hdx hne sch hq (cls_rcs hcl) (fun k hk => ?_) (by omega) (fun h => absurd hin h) (fun _ h => by omega) (fun _ _ i t e => by rw [firstW_all hw] at e; cases e) (fun _ _ _ G k ra => ?_)
  · obtain ⟨x, hx, rfl⟩ := List.mem_map.mp hk
    exact ok_small (by omega) (by omega) (ok x hx)
  · rw [toCl_toRc, Int.toNat_natCast] at ra
    exact z G k ra
theorem rinit2 {H : Hp} {y dx s q : Addr} {r c n row : Nat} {ws : List V} {cs : List Cl} {Q : VK} {E : XK} (hy : H y = none) (hdx : H dx = none) (hne : dx ≠ y) (sch : SchemeAt a.Scheme H s r c n) (hrow : row < r) (hq : H q = some (.lst ws)) (hcl : ClsL H ws cs) (ok : okCls r c cs) (hlen : cs.length ≤ 6)
    (z : ∀ G, Same H G → RuleAt a G y s r c n row cs → (∀ ys, RuleAt a (upd G q (.lst ys)) y s r c n row cs) → Q .non G) : spRInit a [.ref y, .ref s, .int row, .ref q] (upd (upd H dx (.own y)) y (.ins a.Rule dx [])) Q E := by
  have gn := good_n sch.2
  have gc := good_c sch.2
  have hin : inRow r (row : Int) := ⟨by omega, by omega⟩
  have hw : ∀ k ∈ cs.map toRc, wrongP r c k = none := fun k hk => by
    obtain ⟨x, hx, rfl⟩ := List.mem_map.mp hk
    exact ok_wrong (ok x hx)
  have l6 : (cs.map toRc).length ≤ 6 := by rw [List.length_map]; exact hlen
  refine rinitK hy hdx hne sch hq (cls_rcs hcl) (fun k hk => ?_) (by omega) (fun h => absurd hin h) (fun _ h => by omega) (fun _ _ i t e => by rw [firstW_all hw] at e; cases e) (fun _ _ _ G k ra rb => ?_)
  · obtain ⟨x, hx, rfl⟩ := List.mem_map.mp hk
    exact ok_small (by omega) (by omega) (ok x hx)
  · rw [toCl_toRc, Int.toNat_natCast] at ra
    exact z G k ra fun ys => by
      have := rb ys
      rwa [toCl_toRc, Int.toNat_natCast] at this
theorem ClsL.upd {H : Hp} {us : List V} {cs : List Cl} {L : Addr} {xs ys : List V} (h : ClsL H us cs) (hL : H L = some (.lst xs)) : ClsL (upd H L (.lst ys)) us cs := ⟨h.1, fun i g hg => let ⟨u, h1, h2⟩ := h.2 i g hg; ⟨u, h1, by
  unfold ClAt at h2 ⊢
  by_cases e : u = L
  · rw [e, hL] at h2; cases h2
  · rw [upd_ne e]; exact h2⟩⟩
theorem ClsL.snoc {H : Hp} {us : List V} {cs : List Cl} {u : Addr} {k : Cl} (h : ClsL H us cs) (hu : ClAt H u k) : ClsL H (us ++ [.ref u]) (cs ++ [k]) := by
  refine ⟨by rw [List.length_append, List.length_append, h.1]; rfl, fun i x hx => ?_⟩
  by_cases hi : i < cs.length
  · rw [List.getElem?_append_left hi] at hx
    rw [List.getElem?_append_left (by rw [h.1]; exact hi)]
    exact h.2 i x hx
  · have e : i = cs.length := by
      have := (List.getElem?_eq_some_iff.mp hx).1
      rw [List.length_append, List.length_singleton] at this
      omega
    rw [e, List.getElem?_append_right (Nat.le_refl _), Nat.sub_self] at hx
    have ex : k = x := Option.some.inj hx
    refine ⟨u, ?_, ex ▸ hu⟩
    rw [e, ← h.1, List.getElem?_append_right (Nat.le_refl _), Nat.sub_self]
    rfl
theorem jnl_pos {p : List Nat} {ps : List (List Nat)} (h : 0 < p.length) : 0 < (jnl (p :: ps)).length := by
  cases ps with
  | nil => exact h
  | cons q r =>
    show 0 < (p ++ 59 :: jnl (q :: r)).length
    rw [List.length_append]
    omega
theorem pcl_pos (k : Cl) : 0 < (pcl k).length := by
  unfold pcl
  rw [List.length_append, List.length_cons]
  omega
theorem ClsL.drop1 {H : Hp} {us : List V} {cs : List Cl} (h : ClsL H us cs) (k : Nat) : ClsL H (us.take k ++ us.drop (k + 1)) (cs.eraseIdx k) := by
  rw [List.eraseIdx_eq_take_drop_succ]
  refine ⟨by rw [List.length_append, List.length_append, List.length_take, List.length_take, List.length_drop, List.length_drop, h.1], fun i x hx => ?_⟩
  by_cases hi : i < (cs.take k).length
  · have hi2 : i < (us.take k).length := by rw [List.length_take] at hi ⊢; rw [h.1]; exact hi
    rw [List.getElem?_append_left hi] at hx
    rw [List.getElem?_append_left hi2]
    rw [List.length_take] at hi
    rw [List.getElem?_take_of_lt (by omega)] at hx ⊢
    exact h.2 i x hx
  · have e : (us.take k).length = (cs.take k).length := by rw [List.length_take, List.length_take, h.1]
    rw [List.getElem?_append_right (by omega), List.getElem?_drop] at hx
    rw [List.getElem?_append_right (by omega), List.getElem?_drop, e]
    exact h.2 _ x hx
theorem okCls.erase {r c : Nat} {cs : List Cl} (h : okCls r c cs) (k : Nat) : okCls r c (cs.eraseIdx k) := fun x hx => h x (List.mem_of_mem_eraseIdx hx)
theorem cv_take (l : List V) (k : Nat) : cutV l none (some (k : Int)) = l.take k := by
  unfold cutV
  have e1 : HT.sIx l.length 0 none = 0 := rfl
  have e2 := sIx_some l.length l.length k
  rw [e1, e2, List.drop_zero, Nat.sub_zero]
  rcases Nat.le_total k l.length with h | h
  · rw [Nat.min_eq_left h]
  · rw [Nat.min_eq_right h, List.take_of_length_le (Nat.le_refl _), List.take_of_length_le h]
theorem cv_drop (l : List V) (k : Nat) : cutV l (some (k : Int)) none = l.drop k := by
  unfold cutV
  have e1 : HT.sIx l.length l.length none = l.length := rfl
  have e2 := sIx_some l.length 0 k
  rw [e1, e2]
  rcases Nat.le_total k l.length with h | h
  · rw [Nat.min_eq_left h, List.take_of_length_le (by rw [List.length_drop]; exact Nat.le_refl _)]
  · rw [Nat.min_eq_right h, List.drop_of_length_le (Nat.le_refl _), List.drop_of_length_le h, List.take_nil]
theorem valV_rng {κ : Type} [DecidableEq κ] (f : Nat → κ) (v : Nat → V) (inj : ∀ i j, f i = f j → i = j) {k m : Nat} (h : k < m) : valV ((List.range m).map fun i => (f i, v i)) (f k) = some (v k) := by rw [valV_range f v inj, if_pos h]
theorem put_rng {κ : Type} [DecidableEq κ] (f : Nat → κ) (v : Nat → V) (inj : ∀ i j, f i = f j → i = j) (m : Nat) : putK ((List.range m).map fun i => (f i, v i)) (f m) (v m) = (List.range (m + 1)).map fun i => (f i, v i) := by
  have h : valV ((List.range m).map fun i => (f i, v i)) (f m) = none := by rw [valV_range f v inj, if_neg (Nat.lt_irrefl _)]
  rw [putK_new _ h, List.range_succ, List.map_append]
  rfl
def ckey (x : Nat) : Key := .inr (S [97 + x])
theorem ckey_inj (x y : Nat) (h : ckey x = ckey y) : x = y := by have := key1 h; omega
def akey (c m : Nat) : Key := .inr (S [sg (li (c + 1) m), 97 + lx (c + 1) m, sg (lj (c + 1) m)])
/-- the world: the colours of the columns, the column after each look -/
def colM (r c row m : Nat) : List (Key × V) := (List.range m).map fun x => (ckey x, tx [(dig r c x).getD row 0])
def aftX (r c row : Nat) (cs : List Cl) (m : Nat) : Nat := setX r c row (lx (c + 1) m) (W r c row cs m)
def aftM (r c row : Nat) (cs : List Cl) (m : Nat) : List (Key × V) := (List.range m).map fun m => (akey c m, tx [97 + aftX r c row cs m])
theorem good_pow {r c n : Nat} (g : Kit.Good r c n) : c ^ r = n := by
  unfold Kit.Good at g
  simp at g
  rcases g with ⟨rfl, rfl, rfl⟩ | ⟨rfl, rfl, rfl⟩ | ⟨rfl, rfl, rfl⟩ | ⟨rfl, rfl, rfl⟩ | ⟨rfl, rfl, rfl⟩ <;> rfl
theorem cut_let {n : Nat} (h : n ≤ 9) : cutS (Str.ofString "abcdefghi") none (some (n : Int)) = S (cols n) := by
  have z : ∀ n : Nat, n ≤ 9 → cutS (Str.ofString "abcdefghi") none (some (n : Int)) = S (cols n) := by decide +kernel
  exact z n h
theorem cut_sg {c : Nat} (h : c ≤ 3) : cutS (Str.ofString "#012") none (some ((c : Int) + 1)) = S (sgs (c + 1)) := by
  have z : ∀ c : Nat, c ≤ 3 → cutS (Str.ofString "#012") none (some ((c : Int) + 1)) = S (sgs (c + 1)) := by decide +kernel
  exact z c h
/-- a list of pairs of signs -/
def rowS (i m : Nat) : List (Nat × Nat) := ((List.range m).filter fun j => decide (i ≤ j)).map fun j => (i + 1, j + 1)
def sidesN (c m : Nat) : List (Nat × Nat) := (0, 0) :: (List.range m).flatMap fun i => rowS i c
theorem rowS_succ (i m : Nat) : rowS i (m + 1) = rowS i m ++ if i ≤ m then [(i + 1, m + 1)] else [] := by
  unfold rowS
  rw [List.range_succ, List.filter_append, List.map_append]
  congr 1
  by_cases h : i ≤ m
  · rw [if_pos h, List.filter_cons, decide_eq_true h]; rfl
  · rw [if_neg h, List.filter_cons, decide_eq_false h]; rfl
theorem sidesN_succ (c m : Nat) : sidesN c (m + 1) = sidesN c m ++ rowS m c := by
  unfold sidesN
  rw [List.range_succ, List.flatMap_append, List.flatMap_cons, List.flatMap_nil, List.append_nil]
  rfl
theorem rowS_len (i m : Nat) : (rowS i m).length ≤ m := by
  unfold rowS
  rw [List.length_map]
  have := List.length_filter_le (fun j => decide (i ≤ j)) (List.range m)
  rwa [List.length_range] at this
theorem sidesN_len {c : Nat} : ∀ m, (sidesN c m).length ≤ m * c + 1
  | 0 => by rw [Nat.zero_mul]; exact Nat.le_refl 1
  | m + 1 => by
    rw [sidesN_succ, List.length_append, Nat.succ_mul]
    have h1 := sidesN_len (c := c) m
    have h2 := rowS_len m c
    omega
theorem sides_mem {c i j : Nat} : (i, j) ∈ sidesN c c ↔ leS c i j := by
  unfold sidesN rowS leS
  rw [List.mem_cons, List.mem_flatMap]
  constructor
  · rintro (h | ⟨a, ha, h⟩)
    · injection h with h1 h2
      exact .inl ⟨h1, h2⟩
    · obtain ⟨b, hb, e⟩ := List.mem_map.mp h
      injection e with e1 e2
      have hb := List.mem_filter.mp hb
      have h1 := List.mem_range.mp hb.1
      have h2 := of_decide_eq_true hb.2
      exact .inr ⟨by omega, by omega, by omega⟩
  · rintro (⟨rfl, rfl⟩ | ⟨h1, h2, h3⟩)
    · exact .inl rfl
    · exact .inr ⟨i - 1, List.mem_range.mpr (by omega), List.mem_map.mpr ⟨j - 1, List.mem_filter.mpr ⟨List.mem_range.mpr (by omega), decide_eq_true (by omega)⟩, by rw [Nat.sub_add_cancel h1, Nat.sub_add_cancel (by omega)]⟩⟩
def allS (r c row : Nat) (cs : List Cl) (p q : Nat) : Prop := ∀ x ∈ sidesN c c, ∀ y ∈ sidesN c c, W r c row cs (idx (c + 1) p x.1 y.1) ≤ W r c row cs (idx (c + 1) q x.2 y.2)
theorem dec_tx (l m : List Nat) : decide (tx l = tx m) = decide (l = m) := by
  rw [decide_eq_decide]
  exact ⟨fun h => S_inj (V.str.inj h), fun h => by rw [h]⟩
theorem le_lt {c i j : Nat} (h : leS c i j) : i < c + 1 ∧ j < c + 1 := by
  unfold leS at h
  omega
def litS (s : String) : List Nat := (Str.ofString s).cps.toList
theorem tx_lit (s : String) : V.str (Str.ofString s) = tx (litS s) := rfl
def intsD (l : List Nat) : D := .lst (l.map fun k => .int (k : Nat))
theorem rps_ints {H : Hp} : ∀ l : List Nat, Rps H (l.map fun k => .int ((k : Nat) : Int)) (l.map fun k => V.int ((k : Nat) : Int))
  | [] => rfl
  | k :: l => ⟨_, _, rfl, rfl, rps_ints l⟩
theorem rp_ints {H : Hp} {p : Addr} {l : List Nat} (h : H p = some (.lst (l.map fun k => .int (k : Nat)))) : Rp H (intsD l) (.ref p) := ⟨p, _, rfl, h, rps_ints l⟩
theorem deeps_ints : ∀ l : List Nat, deeps (l.map fun k => D.int ((k : Nat) : Int)) = 0
  | [] => rfl
  | k :: l => by
    rw [List.map_cons]
    unfold deeps
    rw [deeps_ints l]
    rfl
theorem bigs_ints : ∀ l : List Nat, bigs (l.map fun k => D.int ((k : Nat) : Int)) = 0
  | [] => rfl
  | k :: l => by
    rw [List.map_cons]
    unfold bigs
    rw [bigs_ints l]
    rfl
theorem ints_deep (l : List Nat) : deep (intsD l) < 4 := by
  show deeps _ + 1 < 4
  rw [deeps_ints]
  decide
theorem ints_big {l : List Nat} (h : l.length ≤ 100) : big (intsD l) ≤ 10000 := by
  show max _ (bigs _) ≤ 10000
  rw [bigs_ints, List.length_map]
  omega
theorem good_bad {r c n : Nat} (g : Kit.Good r c n) : badPart (r : Int) (c : Int) = none := by
  unfold Kit.Good at g
  simp at g
  rcases g with ⟨rfl, rfl, rfl⟩ | ⟨rfl, rfl, rfl⟩ | ⟨rfl, rfl, rfl⟩ | ⟨rfl, rfl, rfl⟩ | ⟨rfl, rfl, rfl⟩ <;> decide +kernel
theorem ClsL.app {H : Hp} {us vs : List V} {cs ds : List Cl} (h : ClsL H us cs) (k : ClsL H vs ds) : ClsL H (us ++ vs) (cs ++ ds) := by
  refine ⟨by rw [List.length_append, List.length_append, h.1, k.1], fun i x hx => ?_⟩
  by_cases hi : i < cs.length
  · rw [List.getElem?_append_left hi] at hx
    rw [List.getElem?_append_left (by rw [h.1]; exact hi)]
    exact h.2 i x hx
  · rw [List.getElem?_append_right (by omega)] at hx
    rw [List.getElem?_append_right (by rw [h.1]; omega), h.1]
    exact k.2 _ x hx
theorem ClsL.tak {H : Hp} {us : List V} {cs : List Cl} (h : ClsL H us cs) (p : Nat) : ClsL H (us.take p) (cs.take p) := by
  refine ⟨by rw [List.length_take, List.length_take, h.1], fun i x hx => ?_⟩
  have hi := (List.getElem?_eq_some_iff.mp hx).1
  rw [List.length_take] at hi
  rw [List.getElem?_take_of_lt (by omega)] at hx ⊢
  exact h.2 i x hx
theorem ClsL.drp {H : Hp} {us : List V} {cs : List Cl} (h : ClsL H us cs) (p : Nat) : ClsL H (us.drop p) (cs.drop p) := by
  refine ⟨by rw [List.length_drop, List.length_drop, h.1], fun i x hx => ?_⟩
  rw [List.getElem?_drop] at hx ⊢
  exact h.2 _ x hx
theorem init_good {a : Ad} {H : Hp} {y dx : Addr} {r c n : Nat} {Q : Hp → Prop} (g : Good r c n) (hy : H y = none) (hdx : H dx = none) (ne : dx ≠ y) (k : ∀ G, Same H G → SchemeAt a.Scheme G y r c n → Q G) :
    spInit a (.ref y :: ([.int (r : Int), .int (c : Int)] ++ [])) (upd (upd H dx (.own y)) y (.ins a.Scheme dx [])) (fun v G => v = .non ∧ Q G) E0 := by
  refine ⟨y, dx, r, c, rfl, upd_same, fun l e => ?_, fun _ G hG hs => ⟨rfl, ?_⟩⟩
  · rw [good_bad g] at e
    cases e
  · obtain ⟨r', c', n', e1, e2, sch⟩ := hs
    obtain rfl : r' = r := by omega
    obtain rfl : c' = c := by omega
    obtain rfl : n' = n := (good_pow sch.2).symm.trans (good_pow g)
    exact k G (fun b o hb => hG b o (((ex_new hdx).trans (ex_new (by rw [upd_ne (Ne.symm ne)]; exact hy))) b o hb) (fun e => by rw [e, hy] at hb; cases hb)) sch
/-! ### the clauses as plain data -/
def pdCl (k : Cl) : PyData := .tuple [.str (S k.l), .str (S k.h), .str (S k.r), .str (S [k.new])]
theorem dp_cls {H : Hp} : ∀ {ws : List V} {cs : List Cl}, ClsL H ws cs → DpAll K H ws (cs.map pdCl)
  | [], [], _ => .nil
  | v :: ws, k :: cs, h => by
    obtain ⟨q, hq, hc⟩ := h.2 0 k rfl
    have ev : v = .ref q := Option.some.inj hq
    subst ev
    exact .cons (.tup (seqT_of hc) (.cons (.str _) (.cons (.str _) (.cons (.str _) (.cons (.str _) .nil))))) (dp_cls ⟨by have := h.1; simp at this; exact this, fun i x hx => h.2 (i + 1) x hx⟩)
  | [], _ :: _, h => absurd h.1 (by simp)
  | _ :: _, [], h => absurd h.1 (by simp)
theorem plain_cls (cs : List Cl) : (PyData.list (cs.map pdCl)).plain = true := by
  unfold PyData.plain
  induction cs with
  | nil => rfl
  | cons k cs ih =>
    rw [List.map_cons]
    unfold PyData.plainAll
    rw [ih]
    rfl
theorem depth_cls (cs : List Cl) : (PyData.list (cs.map pdCl)).depth ≤ 64 := by
  have h : PyData.depthAll (cs.map pdCl) ≤ 2 := by
    induction cs with
    | nil => simp [PyData.depthAll]
    | cons k cs ih =>
      rw [List.map_cons]
      unfold PyData.depthAll
      have : (pdCl k).depth ≤ 2 := by simp [pdCl, PyData.depth, PyData.depthAll]
      omega
  unfold PyData.depth
  omega
theorem eqv_cls (cs : List Cl) : PyData.eqv (.list (cs.map pdCl)) (.list []) = cs.isEmpty := by
  cases cs <;> rfl
theorem in_ints {l : List Nat} {k : Nat} : inV (.int (k : Nat)) (l.map fun k => .int ((k : Nat) : Int)) = decide (k ∈ l) := by
  induction l with
  | nil => rfl
  | cons x l ih =>
    rw [List.map_cons]
    unfold inV at ih ⊢
    rw [List.any_cons, ih, Bool.eq_iff_iff, Bool.or_eq_true, decide_eq_true_iff, decide_eq_true_iff, List.mem_cons]
    refine or_congr ⟨fun h => ?_, fun h => ?_⟩ Iff.rfl
    · have : ((x : Int) == (k : Int)) = true := h
      have := eq_of_beq this
      omega
    · show ((x : Int) == (k : Int)) = true
      rw [h]
      exact beq_self_eq_true _
theorem sameW_comm {r c n row : Nat} {cs ds : List Cl} : sameW r c n row cs ds = sameW r c n row ds cs := by
  unfold sameW
  refine all_congr fun m _ => ?_
  rw [decide_eq_decide]
  exact ⟨Eq.symm, Eq.symm⟩
theorem W_nil {r c row m : Nat} : W r c row [] m = old r c row m := rfl
end
end K23

end
section
set_option Elab.async false
set_option linter.all false
set_option maxRecDepth 100000
set_option maxHeartbeats 4000000
namespace K23
open PySem PySem.Spec PyProof.Rows L2 Kit
abbrev bx (q : Addr) (i x y : Int) : HO := .lst [.ref q, .int i, .int x, .int y]
def BoxAt (n : Nat) (H : Hp) (p : Addr) : Prop := ∃ (q : Addr) (ns : List Int) (i x y : Int), H p = some (bx q i x y) ∧ H q = some (.lst (ns.map V.int)) ∧ q ≠ p ∧ 0 ≤ x ∧ 0 ≤ y ∧ y < 1000003 ∧ 0 ≤ i ∧ i + n ≤ 100000
def Bu (n : Nat) (p : Addr) (H G : Hp) : Prop := (∀ b o, H b = some o → b ≠ p → G b = some o) ∧ BoxAt n G p ∧ ∀ q r, H p = some (.lst (.ref q :: r)) → ∃ r', G p = some (.lst (.ref q :: r'))
theorem BoxAt.mono {n : Nat} {H G : Hp} {p : Addr} (h : BoxAt n H p) (e : Same H G) : BoxAt n G p := let ⟨q, ns, i, x, y, h1, h2, r⟩ := h; ⟨q, ns, i, x, y, e _ _ h1, e _ _ h2, r⟩
theorem BoxAt.le {n m : Nat} {H : Hp} {p : Addr} (h : BoxAt n H p) (e : m ≤ n) : BoxAt m H p := let ⟨q, ns, i, x, y, h1, h2, h3, h4, h5, h6, h7, h8⟩ := h; ⟨q, ns, i, x, y, h1, h2, h3, h4, h5, h6, h7, by omega⟩
theorem Bu.trans {n m : Nat} {p : Addr} {H G M : Hp} (h : Bu n p H G) (k : Bu m p G M) : Bu m p H M := ⟨fun b o e hb => k.1 b o (h.1 b o e hb) hb, k.2.1, fun q r e => let ⟨r', e'⟩ := h.2.2 q r e; k.2.2 q r' e'⟩
theorem Bu.same {n : Nat} {p : Addr} {H G M : Hp} (h : Bu n p H G) (k : Same G M) : Bu n p H M := ⟨fun b o e hb => k b o (h.1 b o e hb), h.2.1.mono k, fun q r e => let ⟨r', e'⟩ := h.2.2 q r e; ⟨r', k _ _ e'⟩⟩
theorem same_bu {n : Nat} {p : Addr} {H G M : Hp} (h : Same H G) (k : Bu n p G M) : Bu n p H M := ⟨fun b o e hb => k.1 b o (h b o e) hb, k.2.1, fun q r e => k.2.2 q r (h _ _ e)⟩
theorem Bu.refl {n : Nat} {p : Addr} {H : Hp} (h : BoxAt n H p) : Bu n p H H := ⟨fun _ _ e _ => e, h, fun _ r e => ⟨r, e⟩⟩
theorem Bu.le {n m : Nat} {p : Addr} {H G : Hp} (h : Bu n p H G) (e : m ≤ n) : Bu m p H G := ⟨h.1, h.2.1.le e, h.2.2⟩
theorem Bu.box {n : Nat} {p : Addr} {H G : Hp} (h : Bu n p H G) : BoxAt n G p := h.2.1
theorem box_ne {n : Nat} {p D : Addr} {H : Hp} (h : BoxAt n H p) (hD : H D = none) : D ≠ p := by
  obtain ⟨q, ns, i, x, y, hp, _⟩ := h
  intro e
  rw [e, hp] at hD
  cases hD
theorem Bu.put {n k : Nat} {p D : Addr} {H G : Hp} {o : HO} (h : Bu n p H G) (hb : BoxAt k H p) (hD : H D = none) : Bu n p H (upd G D o) := by
  have ne := box_ne hb hD
  obtain ⟨q0, ns0, i0, x0, y0, h0, h1, _⟩ := hb
  obtain ⟨r', e'⟩ := h.2.2 q0 _ h0
  obtain ⟨q, ns, i, x, y, hp, hq, r⟩ := h.2.1
  have eq : q = q0 := by
    rw [hp] at e'
    cases e'
    rfl
  have nq : q ≠ D := fun e => by rw [← eq, e, hD] at h1; cases h1
  refine ⟨fun b u e hb => ?_, ⟨q, ns, i, x, y, by rw [upd_ne (Ne.symm ne)]; exact hp, by rw [upd_ne nq]; exact hq, r⟩, fun q2 r2 e2 => ?_⟩
  · have nb : b ≠ D := fun q => by rw [q, hD] at e; cases e
    rw [upd_ne nb]
    exact h.1 b u e hb
  · obtain ⟨r3, e3⟩ := h.2.2 q2 r2 e2
    exact ⟨r3, by rw [upd_ne (Ne.symm ne)]; exact e3⟩
theorem same_of_bu {n : Nat} {p : Addr} {H M G : Hp} (h0 : H p = none) (s : Same H M) (h : Bu n p M G) : Same H G := fun b o e => h.1 b o (s b o e) (ne_of_none e h0)
theorem bu_free {n : Nat} {p D : Addr} {H G : Hp} (h : Bu n p H G) (hD : G D = none) : H D = none := by
  cases e : H D with
  | none => rfl
  | some o =>
    by_cases ne : D = p
    · obtain ⟨q, ns, i, x, y, hp, _⟩ := h.2.1
      rw [← ne, hD] at hp
      cases hp
    · have := h.1 D o e ne
      rw [hD] at this
      cases this
theorem SchemeAt.bu {C p s : Addr} {H G : Hp} {r c n k m : Nat} (h : SchemeAt C H s r c n) (hb : BoxAt k H p) (e : Bu m p H G) : SchemeAt C G s r c n := by
  obtain ⟨q, ns, i, x, y, hp, _⟩ := hb
  obtain ⟨⟨ds, hs⟩, g⟩ := h
  exact ⟨⟨ds, e.1 _ _ hs (fun q => by rw [q, hp] at hs; cases hs)⟩, g⟩
theorem tup_bu {p q : Addr} {H G : Hp} {xs : List V} {k m : Nat} (h : H q = some (.tup xs)) (hb : BoxAt k H p) (e : Bu m p H G) : G q = some (.tup xs) := by
  obtain ⟨q', ns, i, x, y, hp, _⟩ := hb
  exact e.1 _ _ h fun q => by rw [q, hp] at h; cases h
section
variable {P : Program} {w : World} {K : PySem.W.Frag} {mg : Str → Option Value} {base : Heap} {a : Ad}
def spBag (K : PySem.W.Frag) : Sp := fun vs H Q _ => ∃ (b : Addr) (ns : List Int), vs = [.ref b] ∧ SqL K H b (ns.map V.int) ∧ ∀ (q : Addr) (G : Hp), Same H G → H q = none → BoxAt 100000 G q → Q (.ref q) G
theorem c_law_bag (T : Txt K mg a) : Can P w K mg base 1 "_law_bag" (spBag K) := by
  refine can_of T.d_law_bag sc_law_bag bd_law_bag (fun vs H Q E h => ?_) (fun f cdv A outer s H vs Q E hr h => ?_)
  · obtain ⟨b, ns, rfl, _⟩ := h
    rfl
  · obtain ⟨b, ns, rfl, hs, z⟩ := h
    refine ⟨_, (pss_one (ps_ret (pe_lst (pa_cons (pe_callTy (klist_of K) (by rfl) T.b_list (by decide +kernel) (pa_cons (pv 0) pa_nil)) (pa_cons pe_int (pa_cons pe_int (pa_cons pe_int pa_nil))))))), ?_⟩
    refine ⟨_, rfl, b, _, rfl, .inl hs, fun q hq => ⟨by show 4 ≤ sizeLine; decide, fun p hp => ?_⟩⟩
    have ne : q ≠ p := fun e => by rw [← e, upd_same] at hp; cases hp
    refine z p _ ((ex_new hq).trans (ex_new hp)) (free_same (ex_new hq) hp) ⟨q, ns, 0, 0, 0, upd_same, by rw [upd_ne ne]; exact upd_same, ne, by decide, by decide, by decide, by decide, by decide⟩
def spTake : Sp := fun vs H Q _ => ∃ (p : Addr) (m : Int) (n : Nat), vs = [.ref p, .int m] ∧ BoxAt (n + 1) H p ∧ 0 < m ∧ m < 1000000000 ∧ ∀ (d : Int) (G : Hp), 0 ≤ d → d < m → Bu n p H G → Q (.int d) G
theorem c_law_take (T : Txt K mg a) : Can P w K mg base 1 "_law_take" spTake := by
  refine can_of T.d_law_take sc_law_take bd_law_take (fun vs H Q E h => ?_) (fun f cdv A outer s H vs Q E hr h => ?_)
  · obtain ⟨p, m, n, rfl, _⟩ := h
    rfl
  · obtain ⟨p, m, n, rfl, ⟨q, ns, i, x, y, hp, hq, nqp, hx, hy, hy2, hi, hin⟩, h0, h1, k⟩ := h
    refine ⟨_, (C8.pss_cut (ps_if (pt_cmpR op_eq (pe_ix (kix_list K) (pv 0) pe_int (fun _ _ => rfl)) pe_int (nomark _)) (pss_cons (ps_set (i := 2) sc_law_take.nd rfl (.inl rfl) pe_int)
      (C8.pss_cut (ps_if (pt_cmpR op_lt (pe_ix (kix_list K) (pv 0) pe_int (fun _ _ => rfl)) (pe_callB (klen_seq K) (by rfl) T.b_len (by decide +kernel) (pa_cons (pe_ix (kix_list K) (pv 0) pe_int (fun _ _ => rfl)) pa_nil)) (nomark _)) (pss_one (ps_set (i := 2) sc_law_take.nd rfl (.inl rfl) (pe_ix (kix_list K) (pe_ix (kix_list K) (pv 0) pe_int (fun _ _ => rfl)) (pe_ix (kix_list K) (pv 0) pe_int (fun _ _ => rfl)) (fun _ _ => rfl)))) pss_nil)
      (pss_cons (ps_asg (pe_op op_add (pe_ix (kix_list K) (pv 0) pe_int (fun _ _ => rfl)) pe_int) (pg_sub (pv 0) pe_int set_list))
      (pss_cons (ps_if (pt_cmpR op_lt (pe_callB call_abs (by rfl) T.b_abs (by decide +kernel) (pa_cons (pv 2) pa_nil)) (pe_op op_pow pe_int pe_int) (nomark _)) (pss_cons (ps_asg (pe_op op_modN (pe_callTy call_int1 (by rfl) T.b_int (by decide +kernel) (pa_cons (pe_op op_add (pe_op op_add (pe_op op_mul (pe_ix (kix_list K) (pv 0) pe_int (fun _ _ => rfl)) pe_int) (pe_op op_modN (pe_callTy call_int1 (by rfl) T.b_int (by decide +kernel) (pa_cons (pv 2) pa_nil)) pe_int)) (pe_op op_mul pe_int (pe_ix (kix_list K) (pv 0) pe_int (fun _ _ => rfl)))) pa_nil)) pe_int) (pg_sub (pv 0) pe_int set_list))
      (pss_one (ps_ret (pe_op op_modN (pe_op op_modN (pe_callTy call_int1 (by rfl) T.b_int (by decide +kernel) (pa_cons (pe_op op_add (pe_op op_mul (pe_ix (kix_list K) (pv 0) pe_int (fun _ _ => rfl)) pe_int) (pe_op op_mul (pe_ix (kix_list K) (pv 0) pe_int (fun _ _ => rfl)) (pe_ix (kix_list K) (pv 0) pe_int (fun _ _ => rfl)))) pa_nil)) pe_int) (pv 1))))) pss_nil)
      (pss_one (ps_asg (pe_callB call_abs (by rfl) T.b_abs (by decide +kernel) (pa_cons (pv 2) pa_nil)) (pg_sub (pv 0) pe_int set_list))))))) pss_nil)
      (pss_cons (ps_set (i := 3) sc_law_take.nd rfl (.inl rfl) (pe_op op_modN (pe_callTy call_int1 (by rfl) T.b_int (by decide +kernel) (pa_cons (pe_ix (kix_list K) (pv 0) pe_int (fun _ _ => rfl)) pa_nil)) (pv 1)))
      (pss_cons (ps_asg (pe_op op_fdivN (pe_ix (kix_list K) (pv 0) pe_int (fun _ _ => rfl)) (pv 1)) (pg_sub (pv 0) pe_int set_list))
      (pss_one (ps_ret (pv 3)))))), ?_⟩
    have e0 : ∀ i x y : Int, atI [V.ref q, .int i, .int x, .int y] 0 = some (.ref q) := fun _ _ _ => rfl
    have e1 : ∀ i x y : Int, atI [V.ref q, .int i, .int x, .int y] 1 = some (.int i) := fun _ _ _ => rfl
    have e2 : ∀ i x y : Int, atI [V.ref q, .int i, .int x, .int y] 2 = some (.int x) := fun _ _ _ => rfl
    have e3 : ∀ i x y : Int, atI [V.ref q, .int i, .int x, .int y] 3 = some (.int y) := fun _ _ _ => rfl
    have lenE : (ns.map V.int).length = ns.length := List.length_map ..
    have fin : ∀ (i' x' y' d : Int) (G' : Hp), (∀ b o, H b = some o → b ≠ p → G' b = some o) → G' p = some (bx q i' x' y') → 0 ≤ i' → i' ≤ i + 1 → 0 ≤ x' → 0 ≤ y' → y' < 1000003 → 0 ≤ d → d < m → Q (.int d) G' := fun i' x' y' d G' k' hG' g1 g2 g3 g4 g5 g6 g7 =>
      k d G' g6 g7 ⟨k', ⟨q, ns, i', x', y', hG', k' _ _ hq nqp, nqp, g3, g4, g5, g1, by omega⟩, fun q2 r2 e2 => by rw [hp] at e2; cases e2; exact ⟨_, hG'⟩⟩
    refine ⟨fun σ G => ∃ (i' x' : Int) (c : Option V), (∀ b o, H b = some o → b ≠ p → G b = some o) ∧ G p = some (bx q i' x' y) ∧ 0 ≤ i' ∧ i' ≤ i + 1 ∧ 0 ≤ x' ∧ σ = [some (.ref p), some (.int m), c, none], ?_, ?_⟩
    · refine ⟨_, rfl, p, _, 2, _, rfl, rfl, seqL_of hp, e2 _ _ _, rfl, _, rfl, ?_⟩
      refine ite2 (fun c1 => ?_) (fun c1 => ?_)
      · refine ⟨fun σ G => G = H ∧ ∃ v : Int, σ = [some (.ref p), some (.int m), some (.int v), none], ?_, ?_⟩
        · refine ⟨_, rfl, p, _, 1, _, rfl, rfl, seqL_of hp, e1 _ _ _, _, rfl, p, _, 0, _, rfl, rfl, seqL_of hp, e0 _ _ _, q, _, rfl, .inl (seqL_of hq), _, _, rfl, rfl, _, rfl, ?_⟩
          rw [lenE]
          refine ite2 (fun c2 => ?_) (fun c2 => ?_)
          · have c2 := of_decide_eq_true c2
            have hk' : i.toNat < ns.length := by omega
            have hix : atI (ns.map V.int) i = some (.int ns[i.toNat]) := by
              have e := atI_nat (xs := ns.map V.int) (j := i.toNat) (v := .int ns[i.toNat]) (by rw [List.getElem?_map, List.getElem?_eq_getElem hk']; rfl)
              rwa [show ((i.toNat : Nat) : Int) = i by omega] at e
            exact ⟨_, rfl, p, _, 0, _, rfl, rfl, seqL_of hp, e0 _ _ _, _, rfl, p, _, 1, _, rfl, rfl, seqL_of hp, e1 _ _ _, q, _, _, _, rfl, rfl, seqL_of hq, hix, rfl, _, rfl⟩
          · exact ⟨rfl, 0, rfl⟩
        · rintro σ G ⟨rfl, v, rfl⟩
          refine ⟨_, rfl, p, _, 1, _, rfl, rfl, seqL_of hp, e1 _ _ _, i, 1, rfl, rfl, _, rfl, p, _, 1, 1, rfl, rfl, hp, rfl, ?_⟩
          have hp2 : upd G p (bx q (i + 1) x y) p = some (bx q (i + 1) x y) := upd_same
          refine ⟨_, rfl, v, rfl, _, _, rfl, rfl, ⟨by decide, by decide, by decide⟩, _, _, rfl, rfl, _, rfl, ?_⟩
          refine ite2 (fun c2 => ?_) (fun c2 => ?_)
          · refine ⟨_, rfl, p, _, 3, _, rfl, rfl, seqL_of hp2, e3 _ _ _, _, _, rfl, rfl, .inr (by decide), _, rfl, .inl ⟨_, rfl, _, _, rfl, rfl, (by decide : (1000003 : Int) ≠ 0), _, _, rfl, rfl, ?_⟩⟩
            refine ⟨_, rfl, p, _, 1, _, rfl, rfl, seqL_of hp2, e1 _ _ _, _, _, rfl, rfl, .inl (by decide), _, _, rfl, rfl, .inl ⟨_, rfl, _, _, rfl, rfl, (by decide : (1000003 : Int) ≠ 0), _, rfl, p, _, 3, 3, rfl, rfl, hp2, rfl, ?_⟩⟩
            have g0 := fun u : Int => Int.fmod_nonneg_of_pos u (show (0 : Int) < 1000003 by decide)
            have g1 := fun u : Int => Int.fmod_lt_of_pos u (show (0 : Int) < 1000003 by decide)
            have gg := g0 (y * 10007 + v.fmod 1000003 + 31 * (i + 1))
            have gl := g1 (y * 10007 + v.fmod 1000003 + 31 * (i + 1))
            have hp3 : upd (upd G p (bx q (i + 1) x y)) p (bx q (i + 1) x ((y * 10007 + v.fmod 1000003 + 31 * (i + 1)).fmod 1000003)) p = some (bx q (i + 1) x ((y * 10007 + v.fmod 1000003 + 31 * (i + 1)).fmod 1000003)) := upd_same
            refine ⟨_, rfl, p, _, 3, _, rfl, rfl, seqL_of hp3, e3 _ _ _, _, _, rfl, rfl, .inr (by decide), _, rfl, p, _, 1, _, rfl, rfl, seqL_of hp3, e1 _ _ _, _, rfl, p, _, 1, _, rfl, rfl, seqL_of hp3, e1 _ _ _, _, _, rfl, rfl, .inl ⟨by omega, by omega⟩, _, _, rfl, rfl, .inl ⟨_, rfl, _, _, rfl, rfl, (by decide : (999983 : Int) ≠ 0), _, rfl, _, m, rfl, rfl, by omega, ?_⟩⟩
            exact fin (i + 1) x ((y * 10007 + v.fmod 1000003 + 31 * (i + 1)).fmod 1000003) _ _ (fun b o e hb => by rw [upd_ne hb, upd_ne hb]; exact e) hp3 (by omega) (by omega) hx gg gl (Int.fmod_nonneg_of_pos _ h0) (Int.fmod_lt_of_pos _ h0)
          · have hc0 : 0 ≤ (if v < 0 then -v else v) := by split <;> omega
            refine ⟨_, rfl, v, rfl, _, rfl, p, _, 2, 2, rfl, rfl, hp2, rfl, i + 1, _, _, fun b o e hb => by rw [upd_ne hb, upd_ne hb]; exact e, upd_same, by omega, by omega, hc0, rfl⟩
      · exact ⟨i, x, _, fun _ _ e _ => e, hp, hi, by omega, hx, rfl⟩
    · rintro σ G ⟨i', x', c, kp, hG, hi', hii, hx', rfl⟩
      refine ⟨_, rfl, p, _, 2, _, rfl, rfl, seqL_of hG, e2 _ _ _, .inl ⟨_, rfl, _, rfl, _, m, rfl, rfl, by omega, ?_⟩⟩
      refine ⟨_, rfl, p, _, 2, _, rfl, rfl, seqL_of hG, e2 _ _ _, _, rfl, x', m, rfl, rfl, ⟨by omega, by omega⟩, _, rfl, p, _, 2, 2, rfl, rfl, hG, rfl, ?_⟩
      exact ⟨_, rfl, fin i' (x'.fdiv m) y _ _ (fun b o e hb => by rw [upd_ne hb]; exact kp b o e hb) upd_same hi' hii (Int.fdiv_nonneg hx' (by omega)) hy hy2 (Int.fmod_nonneg_of_pos _ h0) (Int.fmod_lt_of_pos _ h0)⟩
end
end K23

end
section
set_option Elab.async false
set_option linter.all false
set_option maxRecDepth 100000
set_option maxHeartbeats 4000000
namespace K23
open PySem PySem.Spec PyProof.Rows L2 Kit
section
variable {P : Program} {w : World} {K : PySem.W.Frag} {mg : Str → Option Value} {base : Heap} {a : Ad}
theorem find_let {n x : Nat} (hn : n ≤ 9) (h : inCol n x = true) : Txt.find (Str.ofString "abcdefghi") (S [x]) = ((x - 97 : Nat) : Int) := by
  unfold inCol at h
  rw [decide_eq_true_iff] at h
  have z : ∀ k < 9, Txt.find (Str.ofString "abcdefghi") (S [97 + k]) = ((k : Nat) : Int) := by decide +kernel
  have y := z (x - 97) (by omega)
  rw [show 97 + (x - 97) = x by omega] at y
  exact y
theorem str_dig {k : Nat} (h : k < 3) : Str.ofString (toString ((k : Nat) : Int)) = S [48 + k] := by
  have z : ∀ k < 3, Str.ofString (toString ((k : Nat) : Int)) = S [48 + k] := by decide +kernel
  exact z k h
theorem log_dig {k : Nat} (h : k < 3) : ((k : Nat) : Int).natAbs.log2 < 1920 := by
  have z : ∀ k < 3, ((k : Nat) : Int).natAbs.log2 < 1920 := by decide +kernel
  exact z k h
def spMany : Sp := fun vs H Q _ => ∃ (r c : Nat), vs = [.int r, .int c] ∧ r ≤ 3 ∧ c ≤ 3 ∧ Q (.int ((c ^ r : Nat) : Int)) H
theorem c_law_many (T : Txt K mg a) : Can P w K mg base 1 "_law_many" spMany := by
  refine can_of T.d_law_many sc_law_many bd_law_many (fun vs H Q E h => ?_) (fun f cdv A outer s H vs Q E hr h => ?_)
  · obtain ⟨r, c, rfl, _⟩ := h
    rfl
  · obtain ⟨r, c, rfl, hr3, hc3, z⟩ := h
    refine ⟨_, (pss_cons (ps_set (i := 2) sc_law_many.nd rfl (.inl rfl) pe_int)
      (pss_cons (ps_for (passes_of rfl) (by rfl) (pi_range1 (by rfl) T.b_range (pa_cons (pv 0) pa_nil)) (pg_name (i := 3) sc_law_many.nd rfl (.inl rfl)) (pss_one (ps_set (i := 2) sc_law_many.nd rfl (.inl rfl) (pe_op op_mul (pv 2) (pv 1)))))
      (pss_one (ps_ret (pv 2))))), ?_⟩
    refine ⟨_, rfl, r, rfl, by omega, by omega, for_it (walk_range (lo := 0) (n := ((r : Nat) : Int).toNat)) (fun i σ G => G = H ∧ ∃ v : Option V, σ = [some (.int r), some (.int c), some (.int ((c ^ i : Nat) : Int)), v]) ⟨rfl, none, rfl⟩ (fun _ _ _ _ _ => True.intro) ?_ ?_⟩
    · rintro i u σ G G' hi ⟨rfl, v, rfl⟩ ⟨rfl, rfl⟩
      refine ⟨_, rfl, _, rfl, _, _, rfl, rfl, .inr ⟨by omega, by omega⟩, rfl, some (.int (0 + (i : Nat))), ?_⟩
      show [some (V.int (r : Int)), some (V.int (c : Int)), some (V.int (((c ^ i : Nat) : Int) * (c : Int))), _] = _
      rw [Nat.pow_succ, Int.natCast_mul]
    · rintro σ G ⟨rfl, v, rfl⟩
      exact ⟨_, rfl, z⟩
def spLSpots : Sp := fun vs H Q _ => ∃ (r c n x : Nat), vs = [.int r, .int c, tx [x]] ∧ Good r c n ∧ inCol n x = true ∧ Q (tx (dig r c (x - 97))) H
theorem c_law_spots (T : Txt K mg a) : Can P w K mg base 1 "_law_spots" spLSpots := by
  refine can_of T.d_law_spots sc_law_spots bd_law_spots (fun vs H Q E h => ?_) (fun f cdv A outer s H vs Q E hr h => ?_)
  · obtain ⟨r, c, n, x, rfl, _⟩ := h
    rfl
  · obtain ⟨r, c, n, x, rfl, gd, hx, z⟩ := h
    refine ⟨_, (pss_cons (ps_set (i := 3) sc_law_spots.nd rfl (.inl rfl) (pe_m1 PySem.F.slot_str_find PySem.F.type_str_find mt_find pe_str (pv 2)))
      (pss_cons (ps_set (i := 4) sc_law_spots.nd rfl (.inl rfl) pe_str)
      (pss_cons (ps_for (passes_of rfl) (by rfl) (pi_range1 (by rfl) T.b_range (pa_cons (pv 0) pa_nil)) (pg_name (i := 5) sc_law_spots.nd rfl (.inl rfl)) (pss_cons (ps_set (i := 4) sc_law_spots.nd rfl (.inl rfl) (pe_op op_add_str (pe_callTy call_str_int (by rfl) T.b_str (by decide +kernel) (pa_cons (pe_op op_modN (pe_callTy call_int1 (by rfl) T.b_int (by decide +kernel) (pa_cons (pv 3) pa_nil)) (pv 1)) pa_nil)) (pv 4)))
      (pss_one (ps_set (i := 3) sc_law_spots.nd rfl (.inl rfl) (pe_op op_fdivN (pv 3) (pv 1))))))
      (pss_one (ps_ret (pv 4)))))), ?_⟩
    have gn := good_n gd
    have gc := good_c gd
    refine ⟨⟨_, rfl⟩, _, rfl, _, _, rfl, rfl, ?_⟩
    have e9 := find_let gn.1 hx
    dsimp only
    rw [e9]
    refine ⟨_, rfl, r, rfl, by omega, by omega, for_it (walk_range (lo := 0) (n := ((r : Nat) : Int).toNat)) (fun i σ G => G = H ∧ ∃ v : Option V, σ = [some (.int r), some (.int c), some (tx [x]), some (.int (((x - 97) / c ^ i : Nat) : Int)), some (tx (dig i c (x - 97))), v]) ⟨rfl, none, ?_⟩ (fun _ _ _ _ _ => True.intro) ?_ ?_⟩
    · show [_, _, _, some (V.int ((x - 97 : Nat) : Int)), some (V.str (Str.ofString "")), none] = [_, _, _, some (V.int (((x - 97) / c ^ 0 : Nat) : Int)), some (tx []), _]
      rw [Nat.pow_zero, Nat.div_one, lit_e]
    · rintro i u σ G G' hi ⟨rfl, v, rfl⟩ ⟨rfl, rfl⟩
      have hi : i < r := hi
      have hm : (x - 97) / c ^ i % c < 3 := by
        have := Nat.mod_lt ((x - 97) / c ^ i) (show 0 < c by omega)
        omega
      refine ⟨_, rfl, .inl ⟨_, rfl, _, rfl, _, _, rfl, rfl, by omega, ?_⟩⟩
      refine ⟨_, rfl, by rw [fm]; exact log_dig hm, _, rfl, S [48 + (x - 97) / c ^ i % c], _, by rw [fm, str_dig hm], rfl, ?_, ?_⟩
      · rw [S_len, S_len, dig_len]
        exact szl (by show 1 + i ≤ 100000; omega)
      · refine ⟨_, rfl, _, rfl, _, _, rfl, rfl, ⟨by omega, by omega⟩, rfl, some (.int (0 + (i : Nat))), ?_⟩
        show [some (V.int (r : Int)), some (V.int (c : Int)), some (tx [x]), some (V.int (Int.fdiv (((x - 97) / c ^ i : Nat) : Int) (c : Int))), some (V.str (S [48 + (x - 97) / c ^ i % c] ++ S (dig i c (x - 97)))), _] = _
        rw [fd, S_app, Nat.div_div_eq_div_mul, ← Nat.pow_succ]
        rfl
    · rintro σ G ⟨rfl, v, rfl⟩
      exact ⟨_, rfl, z⟩
theorem let_at {k : Nat} (h : k < 9) : atI (Str.ofString "abcdefghi").cps.toList ((k : Nat) : Int) = some (97 + k) := by
  have z : ∀ k < 9, atI (Str.ofString "abcdefghi").cps.toList ((k : Nat) : Int) = some (97 + k) := by decide +kernel
  exact z k h
def spLColumn : Sp := fun vs H Q _ => ∃ (r c n : Nat) (l : List Nat), vs = [.int c, tx l] ∧ Good r c n ∧ isDigs r c l = true ∧ Q (tx [97 + num c l]) H
def pOk (p : Nat × Nat) : Bool := decide (p.1 = 46) || decide (p.1 = p.2)
theorem find_none {α : Type} {l : List α} {f : α → Bool} (h : ∀ t, t < l.length → ∀ x, l[t]? = some x → f x = false) : l.find? f = none := by
  rw [List.find?_eq_none]
  intro x hx
  obtain ⟨t, ht⟩ := List.mem_iff_getElem?.mp hx
  rw [h t (List.getElem?_eq_some_iff.mp ht).1 x ht]
  decide
theorem find_at {α : Type} : ∀ {l : List α} {f : α → Bool} {k : Nat} {y : α}, (∀ t, t < k → ∀ x, l[t]? = some x → f x = false) → l[k]? = some y → f y = true → l.find? f = some y
  | [], _, _, _, _, h, _ => by cases h
  | x :: l, f, 0, y, _, h, hy => by
    have e : x = y := Option.some.inj h
    rw [e, List.find?_cons, hy]
  | x :: l, f, k + 1, y, hno, h, hy => by
    rw [List.find?_cons, hno 0 (by omega) x rfl]
    exact find_at (k := k) (fun t ht z hz => hno (t + 1) (by omega) z hz) h hy
/-! ### the value of a look, as the law looks for it -/
def spLNew : Sp := fun vs H Q _ => ∃ (q : Addr) (ws : List V) (cs : List Cl) (r c row i j : Nat) (sp : List Nat), vs = [.ref q, tx [sg i], tx sp, tx [sg j], .int row] ∧ H q = some (.lst ws) ∧ ClsL H ws cs ∧ okCls r c cs ∧ c ≤ 3 ∧ r ≤ 3 ∧ cs.length ≤ 6 ∧ sp.length = r ∧ row < r ∧ Q (tx [valOf row cs (sg i) sp (sg j)]) H
theorem c_law_new (T : Txt K mg a) : Can P w K mg base 1 "_law_new" spLNew := by
  refine can_of T.d_law_new sc_law_new bd_law_new (fun vs H Q E h => ?_) (fun f cdv A outer s H vs Q E hr h => ?_)
  · obtain ⟨q, ws, cs, r, c, row, i, j, sp, rfl, _⟩ := h
    rfl
  · obtain ⟨q, ws, cs, r, c, row, i, j, sp, rfl, hq, hcl, ok, hc3, hr3, h6, hsp, hrow, z⟩ := h
    refine ⟨_, (pss_cons (ps_for (passes_of rfl) (by rfl) (kpi_list K (pv 0)) (pg_name (i := 5) sc_law_new.nd rfl (.inl rfl)) (pss_one (ps_if (PW.pt (pw_and (pt_cmpR op_in_sign (pv 1) (pe_ix (kix_tup K) (pv 5) pe_int (fun _ _ => rfl)) (by rfl)) (pw_and1 (pt_cmpR op_in_sign (pv 3) (pe_ix (kix_tup K) (pv 5) pe_int (fun _ _ => rfl)) (by rfl))))) (pss_cons (ps_set (i := 6) sc_law_new.nd rfl (.inl rfl) pe_bl)
      (pss_cons (ps_for (passes_of rfl) (by rfl) (pi_range1 (by rfl) T.b_range (pa_cons (pe_callB call_len_str (by rfl) T.b_len (by decide +kernel) (pa_cons (pv 2) pa_nil)) pa_nil)) (pg_name (i := 7) sc_law_new.nd rfl (.inl rfl)) (pss_one (ps_if (PW.pt (pw_and (pt_cmpR op_ne (pe_ix ix_str (pe_ix (kix_tup K) (pv 5) pe_int (fun _ _ => rfl)) (pv 7) (fun _ _ => rfl)) pe_str (nomark _)) (pw_and1 (pt_cmpR op_ne (pe_ix ix_str (pe_ix (kix_tup K) (pv 5) pe_int (fun _ _ => rfl)) (pv 7) (fun _ _ => rfl)) (pe_ix ix_str (pv 2) (pv 7) (fun _ _ => rfl)) (nomark _))))) (pss_one (ps_set (i := 6) sc_law_new.nd rfl (.inl rfl) pe_bl)) pss_nil)))
      (pss_one (ps_if (pt_val (pv 6)) (pss_one (ps_ret (pe_ix (kix_tup K) (pv 5) pe_int (fun _ _ => rfl)))) pss_nil)))) pss_nil)))
      (pss_one (ps_ret (pe_ix ix_str (pv 2) (pv 4) (fun _ _ => rfl))))), ?_⟩
    have lw : ws.length = cs.length := hcl.1
    refine ⟨_, rfl, q, rfl, ⟨_, seqL_of hq⟩, for_it (walk_list (xs := ws)) (fun k σ G => G = H ∧ (∀ t < k, ∀ x, cs[t]? = some x → hit (sg i) sp (sg j) x = false) ∧ ∃ u v w : Option V, σ = [some (.ref q), some (tx [sg i]), some (tx sp), some (tx [sg j]), some (.int row), u, v, w]) ⟨rfl, nofun, none, none, none, rfl⟩ (fun _ _ _ _ h => by rw [h.1]; exact seqL_of hq) ?_ ?_⟩
    · rintro k x σ G G' hk ⟨rfl, hno, u0, v0, w0, rfl⟩ ⟨rfl, hx⟩
      rw [lw] at hk
      have hkk : cs[k]? = some cs[k] := List.getElem?_eq_getElem hk
      obtain ⟨b, hb, hcb⟩ := hcl.2 k _ hkk
      have ey : V.ref b = x := Option.some.inj (hb.symm.trans hx)
      subst ey
      have okk := ok _ (List.getElem_mem hk)
      generalize hcc : cs[k] = cl at hkk hcb okk
      unfold ClAt at hcb
      have hn : ∀ (v : Bool), hit (sg i) sp (sg j) cl = v → v = false → (∀ t, t < k + 1 → ∀ x, cs[t]? = some x → hit (sg i) sp (sg j) x = false) := fun v e1 e2 t ht x hx => by
        by_cases h : t < k
        · exact hno t h x hx
        · have : t = k := by omega
          rw [this, hkk] at hx
          rw [← Option.some.inj hx, e1, e2]
      have hit0 : hit (sg i) sp (sg j) cl = ((decide (sg j ∈ cl.r) && decide (sg i ∈ cl.l)) && fitsC cl.h sp) := rfl
      refine ⟨_, rfl, _, rfl, b, _, 0, _, rfl, rfl, seqT_of hcb, atI_nat (j := 0) rfl, sg i, S cl.l, rfl, rfl, _, rfl, ?_⟩
      show if decide (sg i ∈ cl.l) = true then _ else _
      cases e1 : decide (sg i ∈ cl.l) with
      | false =>
        rw [e1, Bool.and_false, Bool.false_and] at hit0
        exact iteF ⟨rfl, hn _ hit0 rfl, _, _, _, rfl⟩
      | true =>
        refine iteT ⟨_, rfl, _, rfl, b, _, 2, _, rfl, rfl, seqT_of hcb, atI_nat (j := 2) rfl, sg j, S cl.r, rfl, rfl, _, rfl, ?_⟩
        show if decide (sg j ∈ cl.r) = true then _ else _
        cases e2 : decide (sg j ∈ cl.r) with
        | false =>
          rw [e2, Bool.false_and, Bool.false_and] at hit0
          exact iteF ⟨rfl, hn _ hit0 rfl, _, _, _, rfl⟩
        | true =>
          rw [e1, e2, Bool.true_and, Bool.true_and] at hit0
          have lz : (cl.h.zip sp).length = r := by rw [List.length_zip, okk.hl, hsp, Nat.min_self]
          refine iteT ?_
          refine ⟨_, rfl, _, rfl, by rw [S_len, hsp]; exact szl (by omega), ?_⟩
          rw [S_len, hsp]
          refine ⟨r, rfl, by omega, by omega, for_it (walk_range (lo := 0) (n := ((r : Nat) : Int).toNat)) (fun t σ G => G = G' ∧ ∃ v : Option V, σ = [some (.ref q), some (tx [sg i]), some (tx sp), some (tx [sg j]), some (.int row), some (.ref b), some (.bl (((cl.h.zip sp).take t).all pOk)), v]) ⟨rfl, _, rfl⟩ (fun _ _ _ _ _ => True.intro) ?_ ?_⟩
          · rintro t x σ G0 G ht ⟨rfl, v0, rfl⟩ ⟨rfl, ex⟩
            obtain rfl : x = .int (t : Nat) := ex.trans (congrArg V.int (Int.zero_add _))
            have ht : t < r := ht
            have h1 : cl.h[t]? = some (cl.h[t]'(by rw [okk.hl]; exact ht)) := List.getElem?_eq_getElem _
            have h2 : sp[t]? = some (sp[t]'(by rw [hsp]; exact ht)) := List.getElem?_eq_getElem _
            generalize cl.h[t]'(by rw [okk.hl]; exact ht) = y1 at h1
            generalize sp[t]'(by rw [hsp]; exact ht) = y2 at h2
            have hz : (cl.h.zip sp)[t]? = some (y1, y2) := by
              rw [List.getElem?_zip_eq_some]
              exact ⟨h1, h2⟩
            have step : ((cl.h.zip sp).take (t + 1)).all pOk = (((cl.h.zip sp).take t).all pOk && pOk (y1, y2)) := by
              rw [List.take_add_one, hz, List.all_append]
              show (_ && (pOk (y1, y2) && true)) = _
              rw [Bool.and_true]
            have l1 : (S cl.h).length ≤ sizeLine := by rw [S_len, okk.hl]; exact szl (by omega)
            refine ⟨_, rfl, b, _, 1, _, rfl, rfl, seqT_of hcb, atI_nat (j := 1) rfl, _, rfl, _, _, y1, rfl, rfl, l1, atI_S h1, rfl, _, rfl, ?_⟩
            rw [show V.str (Str.ofString ".") = tx [46] from congrArg V.str lit_any, show V.str ⟨#[y1]⟩ = tx [y1] from rfl, str1]
            by_cases c1 : y1 = 46
            · rw [decide_eq_true c1]
              have : pOk (y1, y2) = true := by unfold pOk; rw [decide_eq_true c1]; rfl
              rw [this, Bool.and_true] at step
              exact iteF ⟨rfl, _, by rw [step]; rfl⟩
            · rw [decide_eq_false c1]
              refine iteT ⟨_, rfl, b, _, 1, _, rfl, rfl, seqT_of hcb, atI_nat (j := 1) rfl, _, rfl, _, _, y1, rfl, rfl, l1, atI_S h1, _, rfl, _, rfl, _, _, y2, rfl, rfl, by rw [S_len, hsp]; exact szl (by omega), atI_S h2, rfl, _, rfl, ?_⟩
              rw [show V.str ⟨#[y1]⟩ = tx [y1] from rfl, show V.str ⟨#[y2]⟩ = tx [y2] from rfl, str1]
              by_cases c2 : y1 = y2
              · rw [decide_eq_true c2]
                have : pOk (y1, y2) = true := by unfold pOk; rw [decide_eq_true c2, Bool.or_true]
                rw [this, Bool.and_true] at step
                exact iteF ⟨rfl, _, by rw [step]; rfl⟩
              · rw [decide_eq_false c2]
                have : pOk (y1, y2) = false := by unfold pOk; rw [decide_eq_false c2, decide_eq_false c1]; rfl
                rw [this, Bool.and_false] at step
                exact iteT ⟨rfl, _, by rw [step]; rfl⟩
          · rintro σ G ⟨rfl, v0, rfl⟩
            have et : (cl.h.zip sp).take ((r : Nat) : Int).toNat = cl.h.zip sp := List.take_of_length_le (by rw [lz]; exact Nat.le_refl _)
            rw [et]
            have ef : (cl.h.zip sp).all pOk = fitsC cl.h sp := rfl
            rw [ef]
            refine ⟨_, rfl, _, rfl, ?_⟩
            cases e3 : fitsC cl.h sp with
            | false =>
              rw [e3] at hit0
              exact iteF ⟨rfl, hn _ hit0 rfl, _, _, _, rfl⟩
            | true =>
              rw [e3] at hit0
              have ev : valOf row cs (sg i) sp (sg j) = cl.new := by
                unfold valOf
                rw [find_at hno hkk hit0]
              rw [ev] at z
              exact iteT ⟨_, rfl, b, _, 3, _, rfl, rfl, seqT_of hcb, atI_nat (j := 3) rfl, z⟩
    · rintro σ G ⟨rfl, hno, u0, v0, w0, rfl⟩
      have ev : valOf row cs (sg i) sp (sg j) = sp.getD row 0 := by
        unfold valOf
        rw [find_none (fun t ht => hno t (by rw [lw]; exact ht))]
      rw [ev] at z
      refine ⟨_, rfl, _, rfl, _, _, _, rfl, rfl, by rw [S_len, hsp]; exact szl (by omega), atI_S ?_, z⟩
      rw [List.getD_eq_getElem?_getD, List.getElem?_eq_getElem (by rw [hsp]; exact hrow)]
      rfl
end
end K23

end
section
set_option Elab.async false
set_option linter.all false
set_option maxRecDepth 100000
set_option maxHeartbeats 4000000
namespace K23
open PySem PySem.Spec PyProof.Rows L2 Kit
section
variable {P : Program} {w : World} {K : PySem.W.Frag} {mg : Str → Option Value} {base : Heap} {a : Ad}
def bitsL (c x : Nat) (m : Nat) : List Nat := ((List.range m).filter fun k => decide (x / 2 ^ k % 2 = 1)).map sg
theorem bitsL_succ (c x m : Nat) : bitsL c x (m + 1) = bitsL c x m ++ if x / 2 ^ m % 2 = 1 then [sg m] else [] := by
  unfold bitsL
  rw [List.range_succ, List.filter_append, List.map_append]
  congr 1
  by_cases h : x / 2 ^ m % 2 = 1
  · rw [if_pos h, List.filter_cons, decide_eq_true h]; rfl
  · rw [if_neg h, List.filter_cons, decide_eq_false h]; rfl
theorem side_of {c : Nat} {l : List Nat} (h : (!l.isEmpty && l.isSublist (sgs (c + 1))) = true) : okSide c l := by
  rw [Bool.and_eq_true] at h
  exact ⟨fun e => by rw [e] at h; exact absurd h.1 (by decide), List.isSublist_iff_sublist.mp h.2⟩
theorem bits_ok {c x : Nat} (hc : c = 2 ∨ c = 3) (h0 : 0 < x) (h1 : x < 2 ^ (c + 1)) : okSide c (bitsL c x (c + 1)) := by
  have z2 : ∀ x < 8, 0 < x → (!(bitsL 2 x 3).isEmpty && (bitsL 2 x 3).isSublist (sgs 3)) = true := by decide +kernel
  have z3 : ∀ x < 16, 0 < x → (!(bitsL 3 x 4).isEmpty && (bitsL 3 x 4).isSublist (sgs 4)) = true := by decide +kernel
  rcases hc with rfl | rfl
  · exact side_of (z2 x h1 h0)
  · exact side_of (z3 x h1 h0)
theorem cut_mid {c d : Nat} (hc : c = 2 ∨ c = 3) (hd : d < c) : cutS (Str.ofString "012") (some (d : Int)) (some (c : Int)) = S ((List.range (c - d)).map (48 + d + ·)) := by
  have z2 : ∀ d : Nat, d < 2 → cutS (Str.ofString "012") (some (d : Int)) (some ((2 : Nat) : Int)) = S ((List.range (2 - d)).map (48 + d + ·)) := by decide +kernel
  have z3 : ∀ d : Nat, d < 3 → cutS (Str.ofString "012") (some (d : Int)) (some ((3 : Nat) : Int)) = S ((List.range (3 - d)).map (48 + d + ·)) := by decide +kernel
  rcases hc with rfl | rfl
  · exact z2 d hd
  · exact z3 d hd
theorem cut_low {d : Nat} (hd : d < 3) : cutS (Str.ofString "012") none (some ((d + 1 : Nat) : Int)) = S ((List.range (d + 1)).map (48 + ·)) := by
  have z : ∀ d < 3, cutS (Str.ofString "012") none (some ((d + 1 : Nat) : Int)) = S ((List.range (d + 1)).map (48 + ·)) := by decide +kernel
  exact z d hd
theorem hi_ok {c d e : Nat} (hc : c = 2 ∨ c = 3) (hd : d < c) (he : e < 2) : okSide c (List.replicate e 35 ++ (List.range (c - d)).map (48 + d + ·)) := by
  have z2 : ∀ d < 2, ∀ e < 2, (fun l : List Nat => !l.isEmpty && l.isSublist (sgs 3)) (List.replicate e 35 ++ (List.range (2 - d)).map (48 + d + ·)) = true := by decide +kernel
  have z3 : ∀ d < 3, ∀ e < 2, (fun l : List Nat => !l.isEmpty && l.isSublist (sgs 4)) (List.replicate e 35 ++ (List.range (3 - d)).map (48 + d + ·)) = true := by decide +kernel
  rcases hc with rfl | rfl
  · exact side_of (z2 d hd e he)
  · exact side_of (z3 d hd e he)
theorem low_ok {c d e : Nat} (hc : c = 2 ∨ c = 3) (hd : d < c) (he : e < 2) : okSide c (List.replicate e 35 ++ (List.range (d + 1)).map (48 + ·)) := by
  have z2 : ∀ d < 2, ∀ e < 2, (fun l : List Nat => !l.isEmpty && l.isSublist (sgs 3)) (List.replicate e 35 ++ (List.range (d + 1)).map (48 + ·)) = true := by decide +kernel
  have z3 : ∀ d < 3, ∀ e < 2, (fun l : List Nat => !l.isEmpty && l.isSublist (sgs 4)) (List.replicate e 35 ++ (List.range (d + 1)).map (48 + ·)) = true := by decide +kernel
  rcases hc with rfl | rfl
  · exact side_of (z2 d hd e he)
  · exact side_of (z3 d hd e he)
def spMarks : Sp := fun vs H Q _ => ∃ (b : Addr) (c k way : Nat), vs = [.ref b, .int c, .int way] ∧ (c = 2 ∨ c = 3) ∧ BoxAt (k + 2) H b ∧ ∀ l G, okSide c l → Bu k b H G → Q (tx l) G
theorem c_law_marks (T : Txt K mg a) : Can P w K mg base 2 "_law_marks" spMarks := by
  refine can_of T.d_law_marks sc_law_marks bd_law_marks (fun vs H Q E h => ?_) (fun f cdv A outer s H vs Q E hr h => ?_)
  · obtain ⟨b, c, k, way, rfl, _⟩ := h
    rfl
  · obtain ⟨b, c, k, way, rfl, gc, hb, z⟩ := h
    refine ⟨_, (pss_cons (ps_if (pt_cmpR op_lt (pv 2) pe_int (nomark _)) (pss_cons (ps_set (i := 3) sc_law_marks.nd rfl (.inl rfl) (pe_op op_add pe_int (pc_f (c_law_take T) hr (by decide) (by rfl) (pa_cons (pv 0) (pa_cons (pe_ix (kix_list K) (pe_lst (pa_cons pe_int (pa_cons pe_int (pa_cons pe_int (pa_cons pe_int pa_nil))))) (pv 1) (fun _ _ => rfl)) pa_nil)))))
      (pss_cons (ps_set (i := 4) sc_law_marks.nd rfl (.inl rfl) pe_str)
      (pss_cons (ps_for (passes_of rfl) (by rfl) (pi_range1 (by rfl) T.b_range (pa_cons (pe_op op_add (pv 1) pe_int) pa_nil)) (pg_name (i := 5) sc_law_marks.nd rfl (.inl rfl)) (pss_one (ps_if (pt_cmpR op_eq (pe_op op_modN (pe_callTy call_int1 (by rfl) T.b_int (by decide +kernel) (pa_cons (pe_op op_fdivN (pv 3) (pe_ix (kix_list K) (pe_lst (pa_cons pe_int (pa_cons pe_int (pa_cons pe_int (pa_cons pe_int pa_nil))))) (pv 5) (fun _ _ => rfl))) pa_nil)) pe_int) pe_int (nomark _)) (pss_one (ps_set (i := 4) sc_law_marks.nd rfl (.inl rfl) (pe_op op_add_str (pv 4) (pe_ix ix_str pe_str (pv 5) (fun _ _ => rfl))))) pss_nil)))
      (pss_one (ps_ret (pv 4)))))) pss_nil)
      (pss_cons (ps_set (i := 6) sc_law_marks.nd rfl (.inl rfl) (pc_f (c_law_take T) hr (by decide) (by rfl) (pa_cons (pv 0) (pa_cons (pv 1) pa_nil))))
      (pss_cons (ps_set (i := 7) sc_law_marks.nd rfl (.inl rfl) (pc_f (c_law_take T) hr (by decide) (by rfl) (pa_cons (pv 0) (pa_cons pe_int pa_nil))))
      (pss_cons (ps_if (pt_cmpR op_eq (pv 2) pe_int (nomark _)) (pss_one (ps_ret (pe_op op_add_str (pe_op op_repS pe_str (pv 7)) (pe_slice sl_str pe_str (po_some (pv 6)) (po_some (pv 1)))))) pss_nil)
      (pss_one (ps_ret (pe_op op_add_str (pe_op op_repS pe_str (pv 7)) (pe_slice sl_str pe_str po_none (po_some (pe_op op_add (pv 6) pe_int)))))))))), ?_⟩
    refine ⟨_, rfl, _, _, rfl, rfl, _, rfl, ?_⟩
    refine ite2 (fun c1 => ?_) (fun c1 => ?_)
    · have h7 : atI [V.int 0, V.int 0, V.int 7, V.int 15] (c : Int) = some (.int ((2 ^ (c + 1) - 1 : Nat) : Int)) := by
        rcases gc with rfl | rfl <;> rfl
      have p2 : 8 ≤ 2 ^ (c + 1) ∧ 2 ^ (c + 1) ≤ 16 := by
        rcases gc with rfl | rfl <;> decide
      refine ⟨_, rfl, by show 4 ≤ sizeLine; decide, fun q hq => ⟨_, rfl, q, _, _, _, rfl, rfl, seqL_of upd_same, h7, ?_⟩⟩
      have s1 : Same H (upd H q (.lst [V.int 0, V.int 0, V.int 7, V.int 15])) := ex_new hq
      refine ⟨b, _, k + 1, rfl, hb.mono s1, by omega, by omega, fun d G d0 dm bu => ?_⟩
      have bu1 := same_bu s1 bu
      refine ⟨_, _, rfl, rfl, ?_⟩
      obtain ⟨x, hx, hx0, hx1⟩ : ∃ x : Nat, 1 + d = (x : Nat) ∧ 0 < x ∧ x < 2 ^ (c + 1) := ⟨(1 + d).toNat, by omega, by omega, by omega⟩
      refine ⟨_, rfl, _, _, rfl, rfl, _, rfl, by omega, by omega, for_it (walk_range (lo := 0) (n := ((c : Nat) + 1 : Int).toNat)) (fun i σ M => Same G M ∧ ∃ v : Option V, σ = [some (.ref b), some (.int c), some (.int way), some (.int x), some (tx (bitsL c x i)), v, none, none]) ⟨.refl _, none, ?_⟩ (fun _ _ _ _ _ => True.intro) ?_ ?_⟩
      · rw [show (fun i j : Int => V.int (i + j)) 1 d = V.int x from congrArg V.int hx]
        rfl
      · rintro i u σ M0 M hi ⟨s2, v, rfl⟩ ⟨rfl, ex⟩
        obtain rfl : u = .int (i : Nat) := ex.trans (congrArg V.int (Int.zero_add _))
        have hi4 : i < 4 := by omega
        have h8 : ∀ i < 4, atI [V.int 1, V.int 2, V.int 4, V.int 8] ((i : Nat) : Int) = some (.int ((2 ^ i : Nat) : Int)) := by
          intro i hi
          match i, hi with
          | 0, _ => rfl
          | 1, _ => rfl
          | 2, _ => rfl
          | 3, _ => rfl
        have h9 : ∀ i < 4, atI (Str.ofString "#012").cps.toList ((i : Nat) : Int) = some (sg i) := by decide +kernel
        have lb : (bitsL c x i).length ≤ 4 := by
          unfold bitsL
          rw [List.length_map]
          have := List.length_filter_le (fun k => decide (x / 2 ^ k % 2 = 1)) (List.range i)
          rw [List.length_range] at this
          omega
        have pp : 0 < 2 ^ i := Nat.pow_pos (by decide)
        refine ⟨_, rfl, by show 4 ≤ sizeLine; decide, fun q2 hq2 => ⟨_, rfl, q2, _, _, _, rfl, rfl, seqL_of upd_same, h8 i hi4, _, _, rfl, rfl, ?_, .inl ⟨_, rfl, _, _, rfl, rfl, (by decide : (2 : Int) ≠ 0), rfl, _, rfl, ?_⟩⟩⟩
        · exact ⟨by omega, by have : 2 ^ i ≤ 2 ^ 3 := Nat.pow_le_pow_right (by decide) (by omega); omega⟩
        · have ed : decide (V.int ((((x : Nat) : Int).fdiv ((2 ^ i : Nat) : Int)).fmod 2) = V.int 1) = decide (x / 2 ^ i % 2 = 1) := by
            rw [fd, show (2 : Int) = ((2 : Nat) : Int) from rfl, fm, decide_eq_decide]
            exact ⟨fun h => by injection h with h; omega, fun h => by rw [h]; rfl⟩
          show if decide (V.int ((((x : Nat) : Int).fdiv ((2 ^ i : Nat) : Int)).fmod 2) = V.int 1) = true then _ else _
          rw [ed]
          have e := bitsL_succ c x i
          have s3 := s2.trans (ex_new (o := .lst [V.int 1, V.int 2, V.int 4, V.int 8]) hq2)
          by_cases h : x / 2 ^ i % 2 = 1
          · rw [if_pos h] at e
            rw [decide_eq_true h]
            refine iteT ⟨_, rfl, _, rfl, _, _, sg i, rfl, rfl, by decide +kernel, h9 i hi4, _, _, rfl, rfl, by rw [S_len]; exact szl (by show _ + 1 ≤ 100000; omega), s3, some (.int (i : Nat)), ?_⟩
            rw [e, show (⟨#[sg i]⟩ : Str) = S [sg i] from rfl, S_app]
            rfl
          · rw [if_neg h, List.append_nil] at e
            rw [decide_eq_false h]
            exact iteF ⟨s3, _, by rw [e]; rfl⟩
      · rintro σ M ⟨s2, v, rfl⟩
        exact ⟨_, rfl, z _ _ (bits_ok gc hx0 hx1) ((bu1.same s2).le (by omega))⟩
    · refine ⟨_, rfl, _, rfl, b, c, k + 1, rfl, hb, by omega, by omega, fun d G d0 dm bu => ?_⟩
      obtain ⟨d, rfl⟩ : ∃ d' : Nat, d = (d' : Int) := ⟨d.toNat, by omega⟩
      refine ⟨_, rfl, b, 2, k, rfl, bu.box, by decide, by decide, fun e G2 e0 em bu2 => ?_⟩
      have bu3 := bu.trans bu2
      obtain ⟨e, rfl⟩ : ∃ e' : Nat, e = (e' : Int) := ⟨e.toNat, by omega⟩
      have hml : ∀ e < 2, Txt.mul (Str.ofString "#") ((e : Nat) : Int) = S (List.replicate e 35) := by decide +kernel
      refine ⟨_, rfl, rfl, _, rfl, ?_⟩
      have le1 : (List.replicate e 35).length ≤ 1 := by rw [List.length_replicate]; omega
      have mok : MulOk (Str.ofString "#") ((e : Nat) : Int) := mulOk_of 1 1 (by decide +kernel) (by omega) (by omega) (by decide) (by decide)
      refine ite2 (fun c2 => ?_) (fun c2 => ?_)
      · refine ⟨_, rfl, _, _, rfl, rfl, mok, ?_⟩
        rw [hml e (by omega)]
        refine ⟨_, rfl, _, rfl, _, rfl, _, rfl, _, rfl, by decide +kernel, ?_⟩
        rw [cut_mid gc (show d < c by omega)]
        refine ⟨_, _, rfl, rfl, by rw [S_len, S_len, List.length_map, List.length_range]; exact szl (by omega), ?_⟩
        rw [S_app]
        exact z _ _ (hi_ok gc (show d < c by omega) (by omega)) (bu3.le (by omega))
      · refine ⟨_, rfl, _, _, rfl, rfl, mok, ?_⟩
        rw [hml e (by omega)]
        refine ⟨_, rfl, _, _, rfl, rfl, _, rfl, _, rfl, by decide +kernel, ?_⟩
        rw [show ((d : Nat) : Int) + 1 = ((d + 1 : Nat) : Int) by omega, cut_low (show d < 3 by omega)]
        refine ⟨_, _, rfl, rfl, by rw [S_len, S_len, List.length_map, List.length_range]; exact szl (by omega), ?_⟩
        rw [S_app]
        exact z _ _ (low_ok gc (show d < c by omega) (by omega)) (bu3.le (by omega))
end
end K23

end
section
set_option Elab.async false
set_option linter.all false
set_option maxRecDepth 100000
set_option maxHeartbeats 4000000
namespace K23
open PySem PySem.Spec PyProof.Rows L2 Kit
section
variable {P : Program} {w : World} {K : PySem.W.Frag} {mg : Str → Option Value} {base : Heap} {a : Ad}
theorem Bu.put2 {n : Nat} {p D : Addr} {H G : Hp} {o : HO} (h : Bu n p H G) (hD : G D = none) : Bu n p H (upd G D o) := h.trans ((Bu.refl h.box).put h.box hD)
def okH (c : Nat) (l : List Nat) : Prop := ∀ x ∈ l, x = 46 ∨ inDig c x = true
theorem mkCl {r c : Nat} {l h s : List Nat} {x : Nat} (hl : okSide c l) (hh : h.length = r) (ho : okH c h) (hs : okSide c s) (hx : inDig c x = true) : okCl r c ⟨l, h, s, x⟩ := ⟨hl, hh, ho, hs, hx⟩
def spLClause : Sp := fun vs H Q _ => ∃ (b : Addr) (r c n k row way : Nat), vs = [.ref b, .int r, .int c, .int row, .int way] ∧ Good r c n ∧ row < r ∧ way ≤ 4 ∧ BoxAt (k + 8) H b ∧ ∀ q cl G, okCl r c cl → H q = none → ClAt G q cl → Bu k b H G → Q (.ref q) G
theorem c_law_clause (T : Txt K mg a) : Can P w K mg base 3 "_law_clause" spLClause := by
  refine can_of T.d_law_clause sc_law_clause bd_law_clause (fun vs H Q E h => ?_) (fun f cdv A outer s H vs Q E hr h => ?_)
  · obtain ⟨b, r, c, n, k, row, way, rfl, _⟩ := h
    rfl
  · obtain ⟨b, r, c, n, k, row, way, rfl, gd, hrow, hway, hb, z⟩ := h
    refine ⟨_, (pss_cons (ps_set (i := 5) sc_law_clause.nd rfl (.inl rfl) (pc_f (c_law_marks T) hr (by decide) (by rfl) (pa_cons (pv 0) (pa_cons (pv 2) (pa_cons (pv 4) pa_nil)))))
      (pss_cons (ps_set (i := 6) sc_law_clause.nd rfl (.inl rfl) (kjoin K pe_str (pe_lc (own := [("k", 7)]) (g := gName 7) (tt := tYes) (by rfl) sc_law_clause.nd (pi_range1 (by rfl) T.b_range (pa_cons (pv 1) pa_nil)) (blkOk_by (N := N_law_clause) (sc := defScope s_law_clause) (by decide +kernel)) (fun _ _ _ _ _ => (pg_name (i := 7) sc_law_clause.nd rfl (.inl rfl))) (fun _ _ _ _ _ => pts_nil) (fun _ _ _ _ _ => (pe_ix ix_str pe_str (pc_f (c_law_take T) hr (by decide) (by rfl) (pa_cons (pv 0) (pa_cons (pe_op op_add (pv 2) pe_int) pa_nil))) (fun _ _ => rfl))))))
      (pss_cons (ps_set (i := 8) sc_law_clause.nd rfl (.inl rfl) (pc_f (c_law_marks T) hr (by decide) (by rfl) (pa_cons (pv 0) (pa_cons (pv 2) (pa_cons (pv 4) pa_nil)))))
      (pss_cons (ps_set (i := 9) sc_law_clause.nd rfl (.inl rfl) (pe_ix ix_str pe_str (pe_op op_sub (pv 2) pe_int) (fun _ _ => rfl)))
      (pss_cons (ps_if (pt_cmpR op_eq (pv 4) pe_int (nomark _)) (pss_one (ps_ret (pe_tup (pa_cons (pv 5) (pa_cons (pv 6) (pa_cons (pv 8) (pa_cons (pe_ix ix_str pe_str (pc_f (c_law_take T) hr (by decide) (by rfl) (pa_cons (pv 0) (pa_cons (pv 2) pa_nil))) (fun _ _ => rfl)) pa_nil))))))) pss_nil)
      (pss_cons (ps_if (pt_cmpR op_eq (pv 4) pe_int (nomark _)) (pss_cons (ps_set (i := 6) sc_law_clause.nd rfl (.inl rfl) (pe_op op_add_str (pe_op op_add_str (pe_slice sl_str (pv 6) po_none (po_some (pv 3))) (pe_ix (kix_list K) (pe_lst (pa_cons pe_str (pa_cons (pv 9) pa_nil))) (pc_f (c_law_take T) hr (by decide) (by rfl) (pa_cons (pv 0) (pa_cons pe_int pa_nil))) (fun _ _ => rfl))) (pe_slice sl_str (pv 6) (po_some (pe_op op_add (pv 3) pe_int)) po_none)))
      (pss_one (ps_ret (pe_tup (pa_cons (pv 5) (pa_cons (pv 6) (pa_cons (pv 8) (pa_cons (pv 9) pa_nil)))))))) pss_nil)
      (pss_cons (ps_if (pt_cmpR op_eq (pv 4) pe_int (nomark _)) (pss_cons (ps_set (i := 6) sc_law_clause.nd rfl (.inl rfl) (pe_op op_add_str (pe_op op_add_str (pe_slice sl_str (pv 6) po_none (po_some (pv 3))) (pe_ix (kix_list K) (pe_lst (pa_cons pe_str (pa_cons pe_str pa_nil))) (pc_f (c_law_take T) hr (by decide) (by rfl) (pa_cons (pv 0) (pa_cons pe_int pa_nil))) (fun _ _ => rfl))) (pe_slice sl_str (pv 6) (po_some (pe_op op_add (pv 3) pe_int)) po_none)))
      (pss_one (ps_ret (pe_tup (pa_cons (pv 5) (pa_cons (pv 6) (pa_cons (pv 8) (pa_cons pe_str pa_nil)))))))) pss_nil)
      (pss_cons (ps_if (pt_cmpR op_eq (pe_ix ix_str (pv 6) (pv 3) (fun _ _ => rfl)) pe_str (nomark _)) (pss_one (ps_ret (pe_tup (pa_cons (pv 5) (pa_cons (pv 6) (pa_cons (pv 8) (pa_cons (pe_ix (kix_list K) (pe_lst (pa_cons pe_str (pa_cons (pv 9) (pa_cons pe_str pa_nil)))) (pv 4) (fun _ _ => rfl)) pa_nil))))))) pss_nil)
      (pss_cons (ps_set (i := 10) sc_law_clause.nd rfl (.inl rfl) (pe_callTy call_int_str (by rfl) T.b_int (by decide +kernel) (pa_cons (pe_ix ix_str (pv 6) (pv 3) (fun _ _ => rfl)) pa_nil)))
      (pss_cons (ps_if (pt_cmpR op_eq (pv 4) pe_int (nomark _)) (pss_one (ps_ret (pe_tup (pa_cons (pv 5) (pa_cons (pv 6) (pa_cons (pv 8) (pa_cons (pe_ix ix_str pe_str (pe_op op_add (pv 10) (pc_f (c_law_take T) hr (by decide) (by rfl) (pa_cons (pv 0) (pa_cons (pe_op op_sub (pv 2) (pv 10)) pa_nil)))) (fun _ _ => rfl)) pa_nil))))))) pss_nil)
      (pss_one (ps_ret (pe_tup (pa_cons (pv 5) (pa_cons (pv 6) (pa_cons (pv 8) (pa_cons (pe_ix ix_str pe_str (pc_f (c_law_take T) hr (by decide) (by rfl) (pa_cons (pv 0) (pa_cons (pe_op op_add (pv 10) pe_int) pa_nil))) (fun _ _ => rfl)) pa_nil))))))))))))))))), ?_⟩
    have gn := good_n gd
    have gc := good_c gd
    refine ⟨_, rfl, _, rfl, _, rfl, b, c, k + 6, way, rfl, gc, hb, fun l G1 hl bu1 => ?_⟩
    refine ⟨⟨_, rfl⟩, _, rfl, r, rfl, by omega, by omega, fun D hD => ?_⟩
    have nD := box_ne bu1.box hD
    refine lc_it (walk_range (lo := 0) (n := ((r : Nat) : Int).toNat)) (fun i G => ∃ h : List Nat, h.length = i ∧ okH c h ∧ G D = some (.lst (h.map fun x => tx [x])) ∧ Bu (k + (6 - i)) b G1 G) ⟨[], rfl, nofun, upd_same, (Bu.refl bu1.box).put bu1.box hD⟩ (fun _ _ _ _ => True.intro) ?_ ?_
    · rintro i x G G' hi ⟨h, hh, ho, hGD, bu⟩ ⟨rfl, rfl⟩
      have hi : i < r := hi
      refine ⟨rfl, ?_⟩
      unfold tYes
      dsimp only
      rw [if_pos rfl]
      refine ⟨_, rfl, _, rfl, _, _, rfl, rfl, b, _, k + (6 - (i + 1)), rfl, bu.box.le (by omega), by omega, by omega, fun d G2 d0 d1 bu2 => ?_⟩
      obtain ⟨d, rfl⟩ : ∃ d' : Nat, d = (d' : Int) := ⟨d.toNat, by omega⟩
      have hdot : ∀ d < 4, atI (Str.ofString ".012").cps.toList ((d : Nat) : Int) = some (if d = 0 then 46 else 47 + d) := by decide +kernel
      refine ⟨_, _, _, rfl, rfl, by decide +kernel, hdot d (by omega), ?_⟩
      have hGD2 := bu2.1 D _ hGD nD
      refine ⟨_, hGD2, by rw [List.length_map]; exact szlt (by omega), h ++ [if d = 0 then 46 else 47 + d], by rw [List.length_append, hh]; rfl, fun x hx => ?_, ?_, ?_⟩
      · rcases List.mem_append.mp hx with hx | hx
        · exact ho x hx
        · rw [List.mem_singleton] at hx
          by_cases e : d = 0
          · rw [if_pos e] at hx
            exact .inl hx
          · rw [if_neg e] at hx
            refine .inr ?_
            unfold inDig
            rw [decide_eq_true_iff]
            omega
      · rw [upd_same, List.map_append]
        rfl
      · exact (bu.trans bu2).put bu1.box hD
    · rintro G ⟨h, hh, ho, hGD, bu⟩
      have hh : h.length = r := hh
      refine ⟨_, _, h.map fun y => S [y], rfl, rfl, .inl (seqL_of (by rw [List.map_map]; exact hGD)), ?_, ?_⟩
      · rw [sum_ones, show Str.ofString "" = S [] from lit_e, S_len]
        simp
        omega
      rw [show Str.ofString "" = S [] from lit_e, join_ones]
      refine ⟨_, rfl, _, rfl, _, rfl, b, c, k + 1, way, rfl, gc, bu.box.le (by omega), fun s2 G2 hs2 bu2 => ?_⟩
      have bu3 := bu1.trans (bu.trans bu2)
      have h012 : ∀ d < 3, atI (Str.ofString "012").cps.toList ((d : Nat) : Int) = some (48 + d) := by decide +kernel
      have c3 : c ≤ 3 := by omega
      have idg : ∀ d < c, inDig c (48 + d) = true := fun d hd => by
        unfold inDig
        rw [decide_eq_true_iff]
        omega
      have l0 : (S h).length ≤ sizeLine := by rw [S_len, hh]; exact szl (by omega)
      have top : atI (Str.ofString "012").cps.toList ((c : Int) - 1) = some (48 + (c - 1)) := by
        rw [show (c : Int) - 1 = ((c - 1 : Nat) : Int) by omega]
        exact h012 _ (by omega)
      have fin : ∀ (h' : List Nat) (x : Nat) (M : Hp), h'.length = r → okH c h' → inDig c x = true → Bu k b H M → ∀ u, M u = none → Q (.ref u) (upd M u (.tup [tx l, tx h', tx s2, tx [x]])) := fun h' x M e1 e2 e3 e4 u hu => z u ⟨l, h', s2, x⟩ _ (mkCl hl e1 e2 hs2 e3) (bu_free e4 hu) upd_same (e4.put2 hu)
      have okset : ∀ x, (x = 46 ∨ inDig c x = true) → okH c (h.set row x) := fun x hx y hy => by
        rcases List.mem_or_eq_of_mem_set hy with e | e
        · exact ho y e
        · rw [e]; exact hx
      have eset : ∀ x, h.take row ++ [x] ++ h.drop (row + 1) = h.set row x := fun x => by
        rw [List.set_eq_take_append_cons_drop, if_pos (by rw [hh]; exact hrow), List.append_assoc]
        rfl
      have g3 : atI h (row : Int) = some (h.getD row 0) := by
        refine atI_nat ?_
        rw [List.getD_eq_getElem?_getD, List.getElem?_eq_getElem (by rw [hh]; exact hrow)]
        rfl
      refine ⟨_, rfl, _, _, rfl, rfl, ?_⟩
      refine ⟨_, _, _, rfl, rfl, by decide +kernel, top, ?_⟩
      refine ⟨_, rfl, rfl, _, rfl, ?_⟩
      refine ite2 (fun w0 => ?_) (fun w0 => ?_)
      · refine ⟨_, rfl, _, rfl, _, rfl, _, rfl, _, rfl, b, c, k, rfl, bu3.box, by omega, by omega, fun d G3 d0 d1 bu4 => ?_⟩
        obtain ⟨d, rfl⟩ : ∃ d' : Nat, d = (d' : Int) := ⟨d.toNat, by omega⟩
        exact ⟨_, _, _, rfl, rfl, by decide +kernel, h012 d (by omega), by show 4 ≤ sizeLine; decide, fun u hu => fin h (48 + d) G3 hh ho (idg d (by omega)) (bu3.trans bu4) u hu⟩
      refine ⟨_, rfl, rfl, _, rfl, ?_⟩
      refine ite2 (fun w3 => ?_) (fun w3 => ?_)
      · refine ⟨_, rfl, _, rfl, _, rfl, _, rfl, l0, ?_⟩
        rw [cut_take]
        refine ⟨_, rfl, by show 2 ≤ sizeLine; decide, fun q hq => ⟨_, rfl, b, 2, k, rfl, (bu3.put2 hq).box, by decide, by decide, fun d G3 d0 d1 bu4 => ?_⟩⟩
        have nq := box_ne bu3.box hq
        obtain ⟨x, hx, hxo⟩ : ∃ x, atI [V.str (Str.ofString "."), V.str ⟨#[48 + (c - 1)]⟩] d = some (tx [x]) ∧ (x = 46 ∨ inDig c x = true) := by
          rcases (show d = 0 ∨ d = 1 by omega) with rfl | rfl
          · exact ⟨46, congrArg (fun z => some (V.str z)) lit_any, .inl rfl⟩
          · exact ⟨48 + (c - 1), rfl, .inr (idg _ (by omega))⟩
        refine ⟨q, _, _, _, rfl, rfl, seqL_of (bu4.1 q _ upd_same nq), hx, _, _, rfl, rfl, by rw [S_len, S_len, List.length_take]; exact szl (by show _ + 1 ≤ 100000; omega), ?_⟩
        rw [S_app]
        refine ⟨_, rfl, _, rfl, _, _, rfl, rfl, _, rfl, _, rfl, l0, ?_⟩
        rw [show ((row : Nat) : Int) + 1 = ((row + 1 : Nat) : Int) by omega, cut_drop]
        refine ⟨_, _, rfl, rfl, by rw [S_len, S_len, List.length_append, List.length_take, List.length_drop]; exact szl (by show _ + 1 + _ ≤ 100000; omega), ?_⟩
        rw [S_app, eset]
        exact ⟨_, rfl, _, rfl, _, rfl, _, rfl, by show 4 ≤ sizeLine; decide, fun u hu => fin _ (48 + (c - 1)) G3 (by rw [List.length_set]; exact hh) (okset x hxo) (idg _ (by omega)) ((bu3.put2 hq).trans bu4) u hu⟩
      refine ⟨_, rfl, rfl, _, rfl, ?_⟩
      refine ite2 (fun w4 => ?_) (fun w4 => ?_)
      · refine ⟨_, rfl, _, rfl, _, rfl, _, rfl, l0, ?_⟩
        rw [cut_take]
        refine ⟨by show 2 ≤ sizeLine; decide, fun q hq => ⟨_, rfl, b, 2, k, rfl, (bu3.put2 hq).box, by decide, by decide, fun d G3 d0 d1 bu4 => ?_⟩⟩
        have nq := box_ne bu3.box hq
        obtain ⟨x, hx, hxo⟩ : ∃ x, atI [V.str (Str.ofString "."), V.str (Str.ofString "0")] d = some (tx [x]) ∧ (x = 46 ∨ inDig c x = true) := by
          rcases (show d = 0 ∨ d = 1 by omega) with rfl | rfl
          · exact ⟨46, congrArg (fun z => some (V.str z)) lit_any, .inl rfl⟩
          · exact ⟨48, congrArg (fun z => some (V.str z)) (show Str.ofString "0" = S [48] by decide +kernel), .inr (idg 0 (by omega))⟩
        refine ⟨q, _, _, _, rfl, rfl, seqL_of (bu4.1 q _ upd_same nq), hx, _, _, rfl, rfl, by rw [S_len, S_len, List.length_take]; exact szl (by show _ + 1 ≤ 100000; omega), ?_⟩
        rw [S_app]
        refine ⟨_, rfl, _, rfl, _, _, rfl, rfl, _, rfl, _, rfl, l0, ?_⟩
        rw [show ((row : Nat) : Int) + 1 = ((row + 1 : Nat) : Int) by omega, cut_drop]
        refine ⟨_, _, rfl, rfl, by rw [S_len, S_len, List.length_append, List.length_take, List.length_drop]; exact szl (by show _ + 1 + _ ≤ 100000; omega), ?_⟩
        rw [S_app, eset]
        refine ⟨_, rfl, _, rfl, _, rfl, by show 4 ≤ sizeLine; decide, fun u hu => ?_⟩
        rw [show Str.ofString "0" = S [48] by decide +kernel]
        exact fin _ 48 G3 (by rw [List.length_set]; exact hh) (okset x hxo) (idg 0 (by omega)) ((bu3.put2 hq).trans bu4) u hu
      have hw12 : way = 1 ∨ way = 2 := by
        have h0 : ¬ way = 0 := fun e => w0 (by rw [e]; rfl)
        have h3 : ¬ way = 3 := fun e => w3 (by rw [e]; rfl)
        have h4 : ¬ way = 4 := fun e => w4 (by rw [e]; rfl)
        omega
      have hgr : h[row]? = some (h.getD row 0) := by
        rw [List.getD_eq_getElem?_getD, List.getElem?_eq_getElem (by rw [hh]; exact hrow)]
        rfl
      refine ⟨_, rfl, _, rfl, _, _, _, rfl, rfl, l0, atI_S hgr, rfl, _, rfl, ?_⟩
      rw [show V.str (Str.ofString ".") = tx [46] from congrArg V.str lit_any, show V.str ⟨#[h.getD row 0]⟩ = tx [h.getD row 0] from rfl, str1]
      by_cases c46 : h.getD row 0 = 46
      · rw [decide_eq_true c46]
        obtain ⟨x, hx, hxo⟩ : ∃ x, atI [V.str (S []), V.str ⟨#[48 + (c - 1)]⟩, V.str (Str.ofString "0")] (way : Int) = some (tx [x]) ∧ inDig c x = true := by
          rcases hw12 with rfl | rfl
          · exact ⟨48 + (c - 1), rfl, idg _ (by omega)⟩
          · exact ⟨48, congrArg (fun z => some (V.str z)) (show Str.ofString "0" = S [48] by decide +kernel), idg 0 (by omega)⟩
        refine iteT ⟨_, rfl, _, rfl, _, rfl, _, rfl, by show 3 ≤ sizeLine; decide, fun q hq => ⟨_, rfl, q, _, _, _, rfl, rfl, seqL_of upd_same, hx, by show 4 ≤ sizeLine; decide, fun u hu => ?_⟩⟩
        exact fin h x _ hh ho hxo ((bu3.put2 hq).le (by omega)) u hu
      · rw [decide_eq_false c46]
        have hd : inDig c (h.getD row 0) = true := by
          rcases ho _ (List.mem_of_getElem? hgr) with e | e
          · exact absurd e c46
          · exact e
        have hd' := hd
        unfold inDig at hd'
        rw [decide_eq_true_iff] at hd'
        have hd3 : inDig 3 (h.getD row 0) = true := by
          unfold inDig
          rw [decide_eq_true_iff]
          omega
        refine iteF ⟨_, rfl, _, rfl, _, _, _, rfl, rfl, l0, atI_S hgr, S [h.getD row 0], _, rfl, int_dig hd3, by show 1 ≤ 640; decide, ?_⟩
        generalize h.getD row 0 = y at hd'
        refine ⟨_, rfl, rfl, _, rfl, ?_⟩
        refine ite2 (fun w1 => ?_) (fun w1 => ?_)
        · refine ⟨_, rfl, _, rfl, _, rfl, _, rfl, _, rfl, _, rfl, _, rfl, _, _, rfl, rfl, b, _, k, rfl, bu3.box, by omega, by omega, fun d G3 d0 d1 bu4 => ?_⟩
          obtain ⟨d, rfl⟩ : ∃ d' : Nat, d = (d' : Int) := ⟨d.toNat, by omega⟩
          refine ⟨_, _, rfl, rfl, _, _, _, rfl, rfl, by decide +kernel, by rw [show ((y - 48 : Nat) : Int) + (d : Int) = ((y - 48 + d : Nat) : Int) by omega]; exact h012 _ (by omega), by show 4 ≤ sizeLine; decide, fun u hu => fin h _ G3 hh ho (idg (y - 48 + d) (by omega)) (bu3.trans bu4) u hu⟩
        · refine ⟨_, rfl, _, rfl, _, rfl, _, rfl, _, rfl, _, _, rfl, rfl, b, _, k, rfl, bu3.box, by omega, by omega, fun d G3 d0 d1 bu4 => ?_⟩
          obtain ⟨d, rfl⟩ : ∃ d' : Nat, d = (d' : Int) := ⟨d.toNat, by omega⟩
          exact ⟨_, _, _, rfl, rfl, by decide +kernel, h012 d (by omega), by show 4 ≤ sizeLine; decide, fun u hu => fin h (48 + d) G3 hh ho (idg d (by omega)) (bu3.trans bu4) u hu⟩
end
end K23

end
section
set_option Elab.async false
set_option linter.all false
set_option maxRecDepth 100000
set_option maxHeartbeats 4000000
namespace K23
open PySem PySem.Spec PyProof.Rows L2 Kit
section
variable {P : Program} {w : World} {K : PySem.W.Frag} {mg : Str → Option Value} {base : Heap} {a : Ad}
theorem ClsL.bu {H G : Hp} {ws : List V} {cs : List Cl} {b : Addr} {k m : Nat} (h : ClsL H ws cs) (hb : BoxAt k H b) (e : Bu m b H G) : ClsL G ws cs := ⟨h.1, fun i x hx => let ⟨p, h1, h2⟩ := h.2 i x hx; ⟨p, h1, tup_bu h2 hb e⟩⟩
def spLClauses : Sp := fun vs H Q _ => ∃ (b : Addr) (r c n k row way : Nat), vs = [.ref b, .int r, .int c, .int row, .int way] ∧ Good r c n ∧ row < r ∧ way ≤ 4 ∧ BoxAt (k + 49) H b ∧ ∀ D ws cs G, okCls r c cs → cs.length ≤ 6 → H D = none → G D = some (.lst ws) → ClsL G ws cs → Bu k b H G → Q (.ref D) G
theorem c_law_clauses (T : Txt K mg a) : Can P w K mg base 4 "_law_clauses" spLClauses := by
  refine can_of T.d_law_clauses sc_law_clauses bd_law_clauses (fun vs H Q E h => ?_) (fun f cdv A outer s H vs Q E hr h => ?_)
  · obtain ⟨b, r, c, n, k, row, way, rfl, _⟩ := h
    rfl
  · obtain ⟨b, r, c, n, k, row, way, rfl, gd, hrow, hway, hb, z⟩ := h
    refine ⟨_, (pss_cons (ps_set (i := 5) sc_law_clauses.nd rfl (.inl rfl) (pe_ix (kix_list K) (pe_lst (pa_cons pe_int (pa_cons pe_int (pa_cons pe_int (pa_cons pe_int (pa_cons pe_int (pa_cons pe_int (pa_cons pe_int (pa_cons pe_int pa_nil))))))))) (pc_f (c_law_take T) hr (by decide) (by rfl) (pa_cons (pv 0) (pa_cons pe_int pa_nil))) (fun _ _ => rfl)))
      (pss_one (ps_ret (pe_lc (own := [("k", 6)]) (g := gName 6) (tt := tYes) (by rfl) sc_law_clauses.nd (pi_range1 (by rfl) T.b_range (pa_cons (pv 5) pa_nil)) (blkOk_by (N := N_law_clauses) (sc := defScope s_law_clauses) (by decide +kernel)) (fun _ _ _ _ _ => (pg_name (i := 6) sc_law_clauses.nd rfl (.inl rfl))) (fun _ _ _ _ _ => pts_nil) (fun _ _ _ _ _ => (pc_f (c_law_clause T) hr (by decide) (by rfl) (pa_cons (pv 0) (pa_cons (pv 1) (pa_cons (pv 2) (pa_cons (pv 3) (pa_cons (pv 4) pa_nil))))))))))), ?_⟩
    refine ⟨by show 8 ≤ sizeLine; decide, fun q hq => ⟨_, rfl, b, 8, k + 48, rfl, hb.mono (ex_new hq), by decide, by decide, fun d G d0 d1 bu => ?_⟩⟩
    have nq := box_ne hb hq
    have bu1 := same_bu (ex_new (o := .lst [.int 1, .int 2, .int 1, .int 3, .int 2, .int 0, .int 4, .int 6]) hq) bu
    obtain ⟨m, hm, hm6⟩ : ∃ m : Nat, atI [V.int 1, .int 2, .int 1, .int 3, .int 2, .int 0, .int 4, .int 6] d = some (.int (m : Int)) ∧ m ≤ 6 := by
      rcases (show d = 0 ∨ d = 1 ∨ d = 2 ∨ d = 3 ∨ d = 4 ∨ d = 5 ∨ d = 6 ∨ d = 7 by omega) with rfl | rfl | rfl | rfl | rfl | rfl | rfl | rfl
      · exact ⟨1, rfl, by decide⟩
      · exact ⟨2, rfl, by decide⟩
      · exact ⟨1, rfl, by decide⟩
      · exact ⟨3, rfl, by decide⟩
      · exact ⟨2, rfl, by decide⟩
      · exact ⟨0, rfl, by decide⟩
      · exact ⟨4, rfl, by decide⟩
      · exact ⟨6, rfl, by decide⟩
    refine ⟨q, _, _, _, rfl, rfl, seqL_of (bu.1 q _ upd_same nq), hm, ?_⟩
    refine ⟨_, rfl, m, rfl, by omega, by omega, fun D hD => ?_⟩
    have nD := box_ne bu1.box hD
    refine lc_it (walk_range (lo := 0) (n := ((m : Nat) : Int).toNat)) (fun i G2 => ∃ (ws : List V) (cs : List Cl), cs.length = i ∧ okCls r c cs ∧ ClsL G2 ws cs ∧ G2 D = some (.lst ws) ∧ Bu (k + 8 * (6 - i)) b G G2) ⟨[], [], rfl, nofun, ⟨rfl, nofun⟩, upd_same, (Bu.refl bu1.box).put bu1.box hD⟩ (fun _ _ _ _ => True.intro) ?_ ?_
    · rintro i x G0 G2 hi ⟨ws, cs, hl, hok, hcl, hGD, bu2⟩ ⟨rfl, rfl⟩
      have hi : i < m := hi
      refine ⟨rfl, ?_⟩
      unfold tYes
      dsimp only
      rw [if_pos rfl]
      refine ⟨_, rfl, _, rfl, _, rfl, _, rfl, _, rfl, b, r, c, n, k + 8 * (6 - (i + 1)), row, way, rfl, gd, hrow, hway, bu2.box.le (by omega), fun u cl G3 okc hu hcu bu3 => ?_⟩
      have hGD3 := bu3.1 D _ hGD nD
      have hcl3 := (hcl.bu bu2.box bu3).snoc hcu
      refine ⟨_, hGD3, by rw [hcl.1]; exact szlt (by omega), ws ++ [.ref u], cs ++ [cl], by rw [List.length_append, hl]; rfl, fun x hx => ?_, hcl3.upd hGD3, upd_same, (bu2.trans bu3).put bu1.box hD⟩
      rcases List.mem_append.mp hx with hx | hx
      · exact hok x hx
      · rw [List.mem_singleton] at hx
        rw [hx]
        exact okc
    · rintro G2 ⟨ws, cs, hl, hok, hcl, hGD, bu2⟩
      exact z D ws cs G2 hok (by omega) (bu_free bu1 hD) hGD hcl ((bu1.trans bu2).le (by omega))
def pclR (k : RC) : List Nat := k.l ++ 44 :: (k.h ++ 44 :: (k.r ++ 62 :: k.x))
def rtxR (row : Nat) (rs : List RC) : List Nat := (48 + row) :: 58 :: jnl (rs.map pclR)
theorem rtx_eq (row : Nat) (cs : List Cl) : rtx row cs = rtxR row (cs.map toRc) := by
  unfold rtx rtxR
  rw [List.map_map]
  rfl
theorem pclR_len {k : RC} (h : RcSmall k) : (pclR k).length ≤ 2200 := by
  obtain ⟨h1, h2, h3, h4⟩ := h
  unfold pclR
  simp only [List.length_append, List.length_cons]
  omega
def spLPiece : Sp := fun vs H Q _ => ∃ (p : Addr) (k : RC), vs = [.ref p] ∧ RcAt H p k ∧ RcSmall k ∧ Q (tx (pclR k)) H
theorem c_law_piece (T : Txt K mg a) : Can P w K mg base 1 "_law_piece" spLPiece := by
  refine can_of T.d_law_piece sc_law_piece bd_law_piece (fun vs H Q E h => ?_) (fun f cdv A outer s H vs Q E hr h => ?_)
  · obtain ⟨p, k, rfl, _⟩ := h
    rfl
  · obtain ⟨p, k, rfl, hp, sm, z⟩ := h
    refine ⟨_, (pss_one (ps_ret (pe_op op_add_str (pe_op op_add_str (pe_op op_add_str (pe_op op_add_str (pe_op op_add_str (pe_op op_add_str (pe_ix (kix_tup K) (pv 0) pe_int (fun _ _ => rfl)) pe_str) (pe_ix (kix_tup K) (pv 0) pe_int (fun _ _ => rfl))) pe_str) (pe_ix (kix_tup K) (pv 0) pe_int (fun _ _ => rfl))) pe_str) (pe_ix (kix_tup K) (pv 0) pe_int (fun _ _ => rfl))))), ?_⟩
    unfold RcAt at hp
    obtain ⟨l1, l3, l2, l4⟩ := sm
    have ec : Str.ofString "," = S [44] := by decide +kernel
    have eg : Str.ofString ">" = S [62] := by decide +kernel
    refine ⟨_, rfl, p, _, 0, _, rfl, rfl, seqT_of hp, atI_nat (j := 0) rfl, _, _, rfl, rfl, by rw [S_len, ec, S_len]; exact szl (by show _ + 1 ≤ 100000; omega), ?_⟩
    rw [ec, S_app]
    refine ⟨_, rfl, p, _, 1, _, rfl, rfl, seqT_of hp, atI_nat (j := 1) rfl, _, _, rfl, rfl, by rw [S_len, S_len, List.length_append]; exact szl (by show _ + 1 + _ ≤ 100000; omega), ?_⟩
    rw [S_app]
    refine ⟨_, _, rfl, rfl, by rw [S_len, S_len, List.length_append, List.length_append]; exact szl (by show _ + 1 + _ + 1 ≤ 100000; omega), ?_⟩
    rw [S_app]
    refine ⟨_, rfl, p, _, 2, _, rfl, rfl, seqT_of hp, atI_nat (j := 2) rfl, _, _, rfl, rfl, by rw [S_len, S_len, List.length_append, List.length_append, List.length_append]; exact szl (by show _ + 1 + _ + 1 + _ ≤ 100000; omega), ?_⟩
    rw [S_app]
    refine ⟨_, _, rfl, rfl, by rw [S_len, eg, S_len, List.length_append, List.length_append, List.length_append, List.length_append]; exact szl (by show _ + 1 + _ + 1 + _ + 1 ≤ 100000; omega), ?_⟩
    rw [eg, S_app]
    refine ⟨_, rfl, p, _, 3, _, rfl, rfl, seqT_of hp, atI_nat (j := 3) rfl, _, _, rfl, rfl, by rw [S_len, S_len, List.length_append, List.length_append, List.length_append, List.length_append, List.length_append]; exact szl (by show _ + 1 + _ + 1 + _ + 1 + _ ≤ 100000; omega), ?_⟩
    rw [S_app]
    have e : k.l ++ [44] ++ k.h ++ [44] ++ k.r ++ [62] ++ k.x = pclR k := by
      unfold pclR
      simp only [List.append_assoc, List.cons_append, List.nil_append]
    rw [e]
    exact z
theorem str_dig10 : ∀ k < 10, Str.ofString (toString ((k : Nat) : Int)) = S [48 + k] := by decide +kernel
theorem log_dig10 : ∀ k < 10, ((k : Nat) : Int).natAbs.log2 < 1920 := by decide +kernel
theorem joinL_jnl : ∀ ps : List (List Nat), TL.joinL [59] ps = jnl ps
  | [] => rfl
  | [_] => rfl
  | p :: q :: r => by
    show p ++ ([59] ++ TL.joinL [59] (q :: r)) = p ++ 59 :: jnl (q :: r)
    rw [joinL_jnl (q :: r)]
    rfl
theorem join_jnl (ps : List (List Nat)) : Txt.join (S [59]) (ps.map S) = S (jnl ps) := by
  refine TL.ext_tl ?_
  rw [TL.join_eq, TL.tl_join, List.map_map]
  show TL.joinL [59] (ps.map (TL.tl ∘ S)) = jnl ps
  rw [show (TL.tl ∘ S) = id from funext fun _ => rfl, List.map_id, joinL_jnl]
theorem sum_le2 {B : Nat} : ∀ {ps : List (List Nat)}, (∀ p ∈ ps, p.length ≤ B) → ((ps.map S).map (·.length)).sum ≤ ps.length * B
  | [], _ => Nat.zero_le _
  | p :: ps, h => by
    rw [List.map_cons, List.map_cons, List.sum_cons, S_len, List.length_cons, Nat.succ_mul]
    have h1 := h p List.mem_cons_self
    have h2 := sum_le2 (ps := ps) fun q hq => h q (List.mem_cons_of_mem _ hq)
    omega
def spLText (K : PySem.W.Frag) : Sp := fun vs H Q _ => ∃ (q : Addr) (ws : List V) (rs : List RC) (row : Nat), vs = [.int row, .ref q] ∧ H q = some (.lst ws) ∧ RcsL H ws rs ∧ (∀ k ∈ rs, RcSmall k) ∧ rs.length ≤ 20 ∧ row < 10 ∧ ∀ G, Same H G → Q (tx (rtxR row rs)) G
theorem c_law_text (T : Txt K mg a) : Can P w K mg base 2 "_law_text" (spLText K) := by
  refine can_of T.d_law_text sc_law_text bd_law_text (fun vs H Q E h => ?_) (fun f cdv A outer s H vs Q E hr h => ?_)
  · obtain ⟨q, ws, rs, row, rfl, _⟩ := h
    rfl
  · obtain ⟨q, ws, rs, row, rfl, hq, hcl, sm, h20, hrow, z⟩ := h
    refine ⟨_, (pss_one (ps_ret (pe_op op_add_str (pe_op op_add_str (pe_callTy call_str_int (by rfl) T.b_str (by decide +kernel) (pa_cons (pv 0) pa_nil)) pe_str) (kjoin K pe_str (pe_lc (own := [("clause", 2)]) (g := gName 2) (tt := tYes) (by rfl) sc_law_text.nd (kpi_list K (pv 1)) (blkOk_by (N := N_law_text) (sc := defScope s_law_text) (by decide +kernel)) (fun _ _ _ _ _ => (pg_name (i := 2) sc_law_text.nd rfl (.inl rfl))) (fun _ _ _ _ _ => pts_nil) (fun _ _ _ _ _ => (pc_f (c_law_piece T) hr (by decide) (by rfl) (pa_cons (pv 2) pa_nil)))))))), ?_⟩
    have ep : Str.ofString ":" = S [58] := by decide +kernel
    refine ⟨_, rfl, _, rfl, log_dig10 _ hrow, ?_⟩
    rw [str_dig10 _ hrow]
    refine ⟨_, _, rfl, rfl, by rw [S_len, ep, S_len]; exact szl (by show 1 + 1 ≤ 100000; decide), ?_⟩
    rw [ep, S_app]
    refine ⟨⟨_, rfl⟩, _, rfl, q, rfl, ⟨_, seqL_of hq⟩, fun D hD => lc_one (walk_list (xs := ws)) ((rs.map pclR).map tx) (by rw [List.length_map, List.length_map]; exact hcl.1.symm) (by rw [hcl.1]; omega) hD (fun N sm => seqL_of (sm _ _ hq)) ?_ ?_⟩
    · rintro i x N N' v hi sm1 ⟨rfl, hx⟩ hv
      obtain ⟨k, hk⟩ : ∃ k, rs[i]? = some k := ⟨_, List.getElem?_eq_getElem (by rw [← hcl.1]; exact hi)⟩
      obtain ⟨b, hb, hcb⟩ := hcl.2 i k hk
      have ey : V.ref b = x := Option.some.inj (hb.symm.trans hx)
      subst ey
      rw [List.getElem?_map, List.getElem?_map, hk] at hv
      have ev := Option.some.inj hv
      subst ev
      exact ⟨.refl _, fun Q' q' => ⟨_, rfl, b, k, rfl, sm1 _ _ hcb, sm k (List.mem_of_getElem? hk), q' _ (.refl _)⟩⟩
    · intro N sm1 hN
      have lps : ∀ p ∈ rs.map pclR, p.length ≤ 2200 := fun p hp => by
        obtain ⟨k, hk, rfl⟩ := List.mem_map.mp hp
        exact pclR_len (sm k hk)
      have lj := jnl_len lps
      have ls := sum_le2 lps
      rw [List.length_map] at lj ls
      refine ⟨_, _, (rs.map pclR).map S, rfl, rfl, .inl (seqL_of (by rw [List.map_map]; exact hN)), ?_, ?_⟩
      · rw [show Str.ofString ";" = S [59] by decide +kernel, S_len, List.length_map, List.length_map]
        show _ + rs.length * 1 ≤ _
        have : rs.length * 2200 ≤ 20 * 2200 := Nat.mul_le_mul_right _ h20
        have e100 : (100000 : Nat) ≤ sizeLine := by decide
        omega
      · rw [show Str.ofString ";" = S [59] by decide +kernel, join_jnl]
        have : rs.length * 2201 ≤ 20 * 2201 := Nat.mul_le_mul_right _ h20
        refine ⟨_, _, rfl, rfl, by rw [S_len, S_len]; exact szl (by show 2 + _ ≤ 100000; omega), ?_⟩
        rw [S_app]
        exact z _ sm1
end
end K23

end
section
set_option Elab.async false
set_option linter.all false
set_option maxRecDepth 100000
set_option maxHeartbeats 4000000
namespace K23
open PySem PySem.Spec PyProof.Rows L2 Kit
section
variable {P : Program} {w : World} {K : PySem.W.Frag} {mg : Str → Option Value} {base : Heap} {a : Ad}
def signB (c : Nat) (l : List Nat) : Bool := decide (l = [35]) || isColour c l
theorem signB_iff {c : Nat} {l : List Nat} (h : signB c l = true) : ∃ i, i < c + 1 ∧ l = [sg i] := by
  unfold signB at h
  rw [Bool.or_eq_true, decide_eq_true_iff] at h
  rcases h with h | h
  · exact ⟨0, by omega, h⟩
  · unfold isColour at h
    rw [Bool.and_eq_true, decide_eq_true_iff, List.all_eq_true] at h
    obtain ⟨d, hd⟩ : ∃ d, l = [d] := List.length_eq_one_iff.mp h.1
    have h2 := h.2 d (by rw [hd]; exact List.mem_cons_self)
    unfold inDig at h2
    rw [decide_eq_true_iff] at h2
    exact ⟨d - 47, by omega, by rw [hd, sg_big (by omega), show 47 + (d - 47) = d by omega]⟩
def spValue (a : Ad) : Sp := fun vs H Q E => ∃ (p s : Addr) (r c n row : Nat) (cs : List Cl) (l m x : List Nat), vs = [.ref p, tx l, tx m, tx x] ∧ RuleAt a H p s r c n row cs ∧ l.length ≤ 1000 ∧ m.length ≤ 1000 ∧ x.length ≤ 1000 ∧
  (signB c l = false → Ra E a.BadColour "colour" (tx l) H) ∧ (signB c l = true → isCol n m = false → Ra E a.BadColumn "text" (tx m) H) ∧ (signB c l = true → isCol n m = true → signB c x = false → Ra E a.BadColour "colour" (tx x) H) ∧
  (signB c l = true → isCol n m = true → signB c x = true → ∀ G, Same H G → Q (tx [valOf row cs (l.headD 0) (dig r c (m.headD 0 - 97)) (x.headD 0)]) G)
theorem c_Rule_value (T : Txt K mg a) : CanM P w K mg base 4 a.Rule "value" (spValue a) := by
  refine canM_of T.c_Rule.cl T.m_Rule_value sc_Rule_value bd_Rule_value (fun vs H Q E h => ?_) (fun f cdv A outer s0 H vs Q E hr h => ?_)
  · obtain ⟨p, s, r, c, n, row, cs, l, m, x, rfl, _⟩ := h
    rfl
  · obtain ⟨p, s, r, c, n, row, cs, l, m, x, rfl, ru, l1, l2, l3, y1, y2, y3, z⟩ := h
    refine ⟨_, (C8.pss_cut (ps_if (PW.pt (pw_and (pt_cmpR op_ne (pv 1) (C8.pe_gc (by rfl) T.g_END) (nomark _)) (pw_and1 (pt_not (pt_val (pc_m (c_Scheme_is_colour T) hr (by decide) (kfld K (pv 0)) (pa_cons (pv 1) pa_nil))))))) (pss_one (pr_err (c_BadColour T) (takes_of rfl rfl rfl rfl) (by rfl) hr (by decide) (by rfl) (pv 1))) pss_nil)
      (pss_cons (ps_if (pt_not (pt_val (pc_m (c_Scheme_is_column T) hr (by decide) (kfld K (pv 0)) (pa_cons (pv 2) pa_nil)))) (pss_one (pr_err (c_BadColumn T) (takes_of rfl rfl rfl rfl) (by rfl) hr (by decide) (by rfl) (pv 2))) pss_nil)
      (C8.pss_cut (ps_if (PW.pt (pw_and (pt_cmpR op_ne (pv 3) (C8.pe_gc (by rfl) T.g_END) (nomark _)) (pw_and1 (pt_not (pt_val (pc_m (c_Scheme_is_colour T) hr (by decide) (kfld K (pv 0)) (pa_cons (pv 3) pa_nil))))))) (pss_one (pr_err (c_BadColour T) (takes_of rfl rfl rfl rfl) (by rfl) hr (by decide) (by rfl) (pv 3))) pss_nil)
      (pss_one (ps_ret (pe_dget (units1 hr) (kfld K (pv 0)) (pe_tup (pa_cons (pv 1) (pa_cons (pv 2) (pa_cons (pv 3) pa_nil)))) (fun _ _ => rfl))))))), ?_⟩
    obtain ⟨dx, q, d, ws, hp, hq, hcl, hd⟩ := ru.ob
    obtain ⟨sx, hs⟩ := ru.sch.1
    have gn := good_n ru.sch.2
    have eE : V.str (Str.ofString "#") = tx [35] := congrArg V.str lit_end
    refine ⟨fun σ G => G = H ∧ signB c l = true ∧ σ = [some (.ref p), some (tx l), some (tx m), some (tx x)], ?_, ?_⟩
    · refine ⟨_, rfl, rfl, _, rfl, ?_⟩
      rw [eE, dec_tx]
      by_cases h35 : l = [35]
      · rw [decide_eq_true h35]
        exact iteF ⟨rfl, by unfold signB; rw [decide_eq_true h35]; rfl, rfl⟩
      · rw [decide_eq_false h35]
        refine iteT ⟨_, rfl, p, _, dx, _, _, rfl, hp, T.c_Rule.cl, T.y_scheme, rf_scheme s row q d, s, sx, _, rfl, hs, fl_no _ _ _ (by decide +kernel) (by decide +kernel) (by decide +kernel), _, rfl, s, r, c, n, l, rfl, ru.sch, by omega, _, rfl, ?_⟩
        have es : signB c l = isColour c l := by unfold signB; rw [decide_eq_false h35, Bool.false_or]
        cases e : isColour c l with
        | false => exact iteT ⟨_, rfl, (y1 (es.trans e)).now⟩
        | true => exact iteF ⟨rfl, es.trans e, rfl⟩
    rintro σ G ⟨rfl, hsl, rfl⟩
    refine ⟨_, rfl, p, _, dx, _, _, rfl, hp, T.c_Rule.cl, T.y_scheme, rf_scheme s row q d, s, sx, _, rfl, hs, fl_no _ _ _ (by decide +kernel) (by decide +kernel) (by decide +kernel), _, rfl, s, r, c, n, m, rfl, ru.sch, by omega, _, rfl, ?_⟩
    cases ec : isCol n m with
    | false => exact iteT ⟨_, rfl, (y2 hsl ec).now⟩
    | true =>
    refine iteF ?_
    refine ⟨fun σ M => M = G ∧ signB c x = true ∧ σ = [some (.ref p), some (tx l), some (tx m), some (tx x)], ?_, ?_⟩
    · refine ⟨_, rfl, rfl, _, rfl, ?_⟩
      rw [eE, dec_tx]
      by_cases h35 : x = [35]
      · rw [decide_eq_true h35]
        exact iteF ⟨rfl, by unfold signB; rw [decide_eq_true h35]; rfl, rfl⟩
      · rw [decide_eq_false h35]
        refine iteT ⟨_, rfl, p, _, dx, _, _, rfl, hp, T.c_Rule.cl, T.y_scheme, rf_scheme s row q d, s, sx, _, rfl, hs, fl_no _ _ _ (by decide +kernel) (by decide +kernel) (by decide +kernel), _, rfl, s, r, c, n, x, rfl, ru.sch, by omega, _, rfl, ?_⟩
        have es : signB c x = isColour c x := by unfold signB; rw [decide_eq_false h35, Bool.false_or]
        cases e : isColour c x with
        | false => exact iteT ⟨_, rfl, (y3 hsl ec (es.trans e)).now⟩
        | true => exact iteF ⟨rfl, es.trans e, rfl⟩
    rintro σ M ⟨rfl, hsx, rfl⟩
    have z := z hsl ec hsx
    obtain ⟨i, hi, rfl⟩ := signB_iff hsl
    obtain ⟨j, hj, rfl⟩ := signB_iff hsx
    obtain ⟨y, rfl, hy⟩ := isCol_one ec
    have hy' := hy
    unfold inCol at hy'
    rw [decide_eq_true_iff] at hy'
    have ip := idx_parts (s := c + 1) (x := y - 97) (i := i) (j := j) hi hj
    have hmt : idx (c + 1) (y - 97) i j < total n c := idx_lt (by omega) hi hj
    refine ⟨_, rfl, p, _, dx, _, _, rfl, hp, T.c_Rule.cl, T.y_news, rf_news s row q d, _, rfl, _, rfl, _, rfl, by show 3 ≤ sizeLine; decide, fun tu htu => ?_⟩
    have st := ex_new (o := .tup [tx [sg i], tx [y], tx [sg j]]) htu
    have hk : (upd M tu (.tup [tx [sg i], tx [y], tx [sg j]])) tu = some (.tup ((keyT c (idx (c + 1) (y - 97) i j)).map kV)) := by
      rw [upd_same]
      unfold keyT
      rw [ip.1, ip.2.1, ip.2.2, show 97 + (y - 97) = y by omega]
      rfl
    have g := DGet.t (st _ _ hd) hk
    rw [show valV (newsT r c n row cs) (keyT c (idx (c + 1) (y - 97) i j)) = some (tx [W r c row cs (idx (c + 1) (y - 97) i j)]) from newsM_get hmt] at g
    have eW : W r c row cs (idx (c + 1) (y - 97) i j) = valOf row cs (sg i) (dig r c (y - 97)) (sg j) := by
      unfold W
      rw [ip.1, ip.2.1, ip.2.2]
    rw [eW] at g
    exact ⟨d, _, rfl, g, z _ st⟩
end
end K23

end
section
set_option Elab.async false
set_option linter.all false
set_option maxRecDepth 100000
set_option maxHeartbeats 4000000
namespace K23
open PySem PySem.Spec PyProof.Rows L2 Kit
section
variable {P : Program} {w : World} {K : PySem.W.Frag} {mg : Str → Option Value} {base : Heap} {a : Ad}
theorem emp_S : (Str.empty : Str) = S [] := rfl
def spStrR (a : Ad) : Sp := fun vs H Q _ => ∃ (p s : Addr) (r c n row : Nat) (cs : List Cl), vs = [.ref p] ∧ RuleAt a H p s r c n row cs ∧ ∀ G, Same H G → Q (tx (rtx row cs)) G
theorem c_Rule_str (T : Txt K mg a) : CanM P w K mg base 2 a.Rule "__str__" (spStrR a) := by
  refine canM_of T.c_Rule.cl T.m_Rule___str__ sc_Rule___str__ bd_Rule___str__ (fun vs H Q E h => ?_) (fun f cdv A outer s0 H vs Q E hr h => ?_)
  · obtain ⟨p, s, r, c, n, row, cs, rfl, _⟩ := h
    rfl
  · obtain ⟨p, s, r, c, n, row, cs, rfl, ru, z⟩ := h
    refine ⟨_, (pss_cons (ps_setLc (i := 1) (own := [("left", 2), ("here", 3), ("right", 4), ("new", 5)]) (g := (gTup _ 4 (gCons (gName 2) (gCons (gName 3) (gCons (gName 4) (gCons (gName 5) gNil)))))) (tt := tYes) (by rfl) sc_Rule___str__.nd rfl rfl (sw_true rfl rfl rfl (by decide +kernel)) (kpi_list K (kfld K (pv 0))) (blkOk_by (N := N_Rule___str__) (sc := defScope s_Rule___str__) (by decide +kernel)) (fun _ _ _ _ _ => (pg_tup rfl (pgs_cons (pg_name (i := 2) sc_Rule___str__.nd rfl (.inl rfl)) (pgs_cons (pg_name (i := 3) sc_Rule___str__.nd rfl (.inl rfl)) (pgs_cons (pg_name (i := 4) sc_Rule___str__.nd rfl (.inl rfl)) (pgs_cons (pg_name (i := 5) sc_Rule___str__.nd rfl (.inl rfl)) pgs_nil)))))) (fun _ _ _ _ _ => pts_nil) (fun _ _ _ _ _ => (pe_joined (PJ.cons (pe_fmt (pv 2)) (PJ.cons pe_str (PJ.cons (pe_fmt (pv 3)) (PJ.cons pe_str (PJ.cons (pe_fmt (pv 4)) (PJ.cons pe_str (PJ.cons (pe_fmt (pv 5)) PJ.nil))))))))))
      (pss_one (ps_ret (pe_joined (PJ.cons (pe_fmt (kfld K (pv 0))) (PJ.cons pe_str (PJ.cons (pe_fmt (kjoin K pe_str (pv 1))) PJ.nil))))))), ?_⟩
    obtain ⟨dx, q, d, ws, hp, hq, hcl, hd⟩ := ru.ob
    have gc := good_c ru.sch.2
    have gn := good_n ru.sch.2
    have l6 := ru.len
    refine ⟨_, rfl, p, _, dx, _, _, rfl, hp, T.c_Rule.cl, T.y_clauses, rf_clauses s row q d, q, rfl, ⟨_, seqL_of hq⟩, fun D hD => ?_⟩
    refine lc_it (vs := [2, 3, 4, 5]) (σ := L2.start N_Rule___str__ [V.ref p]) (g := gTup K 4 (gCons (gName 2) (gCons (gName 3) (gCons (gName 4) (gCons (gName 5) gNil))))) (tt := tYes) (te := fun σ H Q => tJs [tFmt (tVar 2), tC (V.str (Str.ofString ",")), tFmt (tVar 3), tC (V.str (Str.ofString ",")), tFmt (tVar 4), tC (V.str (Str.ofString ">")), tFmt (tVar 5)] Str.empty σ H fun out H1 => Q (V.str out) H1) (walk_list (xs := ws)) (fun i G => Same H G ∧ G D = some (.lst (((cs.map pcl).take i).map tx))) ⟨ex_new hD, upd_same⟩ (fun i G _ h => seqL_of (h.1 _ _ hq)) ?_ ?_
    · rintro i x G0 G hi ⟨s1, hGD⟩ ⟨rfl, hx⟩
      have hi : i < cs.length := by rw [← hcl.1]; exact hi
      have hk : cs[i]? = some cs[i] := List.getElem?_eq_getElem hi
      obtain ⟨b, hb, hcb⟩ := hcl.2 i _ hk
      have ey : V.ref b = x := Option.some.inj (hb.symm.trans hx)
      subst ey
      have okk := ru.ok _ (List.getElem_mem hi)
      generalize cs[i] = k at hk hcb okk
      unfold ClAt at hcb
      have q1 := okk.l.len
      have q2 := okk.r.len
      have q3 := okk.hl
      refine ⟨b, _, rfl, seqT_of (s1 _ _ hcb), rfl, _, _, rfl, _, _, rfl, _, _, rfl, _, _, rfl, rfl, ?_⟩
      refine ⟨rfl, ?_⟩
      unfold tYes
      dsimp only
      rw [if_pos rfl]
      have ec : Str.ofString "," = S [44] := by decide +kernel
      have eg : Str.ofString ">" = S [62] := by decide +kernel
      have hz : ∀ l : List Nat, l.length ≤ 100 → (S l).length ≤ sizeLine := fun l h => by rw [S_len]; exact szl (by omega)
      have hz2 : ∀ l m : List Nat, l.length ≤ 100 → m.length ≤ 100 → (S l ++ S m).length ≤ sizeLine := fun l m h k => by rw [S_app, S_len, List.length_append]; exact szl (by omega)
      refine ⟨_, rfl, .inl ⟨S k.l, rfl, hz _ (by omega), S k.l, rfl, hz2 [] _ (by decide) (by omega), ?_⟩⟩
      rw [emp_S, S_app, List.nil_append]
      refine ⟨_, rfl, by rw [ec]; exact hz2 _ _ (by omega) (by decide), ?_⟩
      rw [ec, S_app]
      refine ⟨_, rfl, .inl ⟨S k.h, rfl, hz _ (by omega), S k.h, rfl, hz2 _ _ (by rw [List.length_append]; show _ + 1 ≤ 100; omega) (by omega), ?_⟩⟩
      rw [S_app]
      refine ⟨_, rfl, hz2 _ _ (by rw [List.length_append, List.length_append]; show _ + 1 + _ ≤ 100; omega) (by decide), ?_⟩
      rw [S_app]
      refine ⟨_, rfl, .inl ⟨S k.r, rfl, hz _ (by omega), S k.r, rfl, hz2 _ _ (by rw [List.length_append, List.length_append, List.length_append]; show _ + 1 + _ + 1 ≤ 100; omega) (by omega), ?_⟩⟩
      rw [S_app]
      refine ⟨_, rfl, by rw [eg]; exact hz2 _ _ (by rw [List.length_append, List.length_append, List.length_append, List.length_append]; show _ + 1 + _ + 1 + _ ≤ 100; omega) (by decide), ?_⟩
      rw [eg, S_app]
      refine ⟨_, rfl, .inl ⟨S [k.new], rfl, hz _ (by show 1 ≤ 100; decide), S [k.new], rfl, hz2 _ _ (by rw [List.length_append, List.length_append, List.length_append, List.length_append, List.length_append]; show _ + 1 + _ + 1 + _ + 1 ≤ 100; omega) (by show 1 ≤ 100; decide), ?_⟩⟩
      rw [S_app]
      have e : k.l ++ [44] ++ k.h ++ [44] ++ k.r ++ [62] ++ [k.new] = pcl k := by
        unfold pcl
        simp only [List.append_assoc, List.cons_append, List.nil_append]
      rw [e]
      refine ⟨_, hGD, by rw [List.length_map, List.length_take]; exact szlt (by omega), ex_mut s1 hD, ?_⟩
      rw [upd_same, List.take_add_one, List.getElem?_map, hk, List.map_append]
      rfl
    · rintro G ⟨s1, hGD⟩
      have lw : (cs.map pcl).take ws.length = cs.map pcl := List.take_of_length_le (by rw [List.length_map]; exact Nat.le_of_eq hcl.1.symm)
      rw [lw] at hGD
      have lps : ∀ p ∈ cs.map pcl, p.length ≤ 15 := fun p hp => by
        obtain ⟨k, hk, rfl⟩ := List.mem_map.mp hp
        have := pcl_len (ru.ok k hk)
        omega
      have lj := jnl_len lps
      have ls := sum_le2 lps
      rw [List.length_map] at lj ls
      have hrow := ru.row
      have h16 : cs.length * 16 ≤ 6 * 16 := Nat.mul_le_mul_right _ l6
      have h15 : cs.length * 15 ≤ 6 * 15 := Nat.mul_le_mul_right _ l6
      refine ⟨_, rfl, p, _, dx, _, _, rfl, s1 _ _ hp, T.c_Rule.cl, T.y_row, rf_row s row q d, .inr ⟨_, rfl, log_dig (show row < 3 by omega), _, rfl, ?_, ?_⟩⟩
      · rw [str_dig (show row < 3 by omega), emp_S, S_app, S_len]
        exact szl (by show 1 ≤ 100000; decide)
      rw [str_dig (show row < 3 by omega), emp_S, S_app, List.nil_append]
      refine ⟨_, rfl, by rw [show Str.ofString ":" = S [58] by decide +kernel, S_app, S_len]; exact szl (by show 2 ≤ 100000; decide), ?_⟩
      rw [show Str.ofString ":" = S [58] by decide +kernel, S_app]
      refine ⟨⟨_, rfl⟩, _, rfl, _, D, (cs.map pcl).map S, rfl, rfl, .inl (seqL_of (by rw [List.map_map]; exact hGD)), ?_, ?_⟩
      · rw [show Str.ofString ";" = S [59] by decide +kernel, S_len, List.length_map, List.length_map]
        show _ + cs.length * 1 ≤ _
        omega
      rw [show Str.ofString ";" = S [59] by decide +kernel, join_jnl]
      refine .inl ⟨_, rfl, by rw [S_len]; exact szl (by omega), _, rfl, ?_, ?_⟩
      · rw [S_app, S_len, List.length_append]
        exact szl (by show 2 + _ ≤ 100000; omega)
      rw [S_app]
      exact z _ s1
end
end K23

end
section
set_option Elab.async false
set_option linter.all false
set_option maxRecDepth 100000
set_option maxHeartbeats 4000000
namespace K23
open PySem PySem.Spec PyProof.Rows L2 Kit
section
variable {P : Program} {w : World} {K : PySem.W.Frag} {mg : Str → Option Value} {base : Heap} {a : Ad}
/-! ### reading a text -/
def pieceP (p : List Nat) : Option RC := match cutc 44 [] p with
  | [u, v, e] => (match cutc 62 [] e with | [x, y] => some ⟨u, v, x, y⟩ | _ => none)
  | _ => none
def allP : List (List Nat) → Option (List RC)
  | [] => some []
  | p :: ps => match pieceP p with
    | none => none
    | some k => (allP ps).map (k :: ·)
theorem allP_ok {p : List Nat} {ps : List (List Nat)} {k : RC} (h : pieceP p = some k) : allP (p :: ps) = (allP ps).map (k :: ·) := by
  show (match pieceP p with | none => none | some k => (allP ps).map (k :: ·)) = _
  rw [h]
theorem allP_bad {p : List Nat} {ps : List (List Nat)} (h : pieceP p = none) : allP (p :: ps) = none := by
  show (match pieceP p with | none => none | some k => (allP ps).map (k :: ·)) = _
  rw [h]
def headOf (l : List Nat) : List Nat := l.takeWhile fun x => decide (x ≠ 58)
def restOf (l : List Nat) : List Nat := (l.dropWhile fun x => decide (x ≠ 58)).drop 1
def parseR (l : List Nat) : Option (Nat × List RC) :=
  if 58 ∈ l then (if (headOf l).length = 1 ∧ 48 ≤ (headOf l).headD 0 ∧ (headOf l).headD 0 < 58 then (allP (if restOf l = [] then [] else cutc 59 [] (restOf l))).map fun rs => ((headOf l).headD 0 - 48, rs) else none) else none
theorem split_at {l : List Nat} (h : 58 ∈ l) : l = headOf l ++ 58 :: restOf l ∧ 58 ∉ headOf l := by
  unfold headOf restOf
  induction l with
  | nil => cases h
  | cons x l ih =>
    by_cases e : x = 58
    · subst e
      exact ⟨rfl, by simp⟩
    · have hx : decide (x ≠ 58) = true := decide_eq_true e
      have hm : 58 ∈ l := by
        rcases List.mem_cons.mp h with q | q
        · exact absurd q.symm e
        · exact q
      obtain ⟨i1, i2⟩ := ih hm
      rw [List.takeWhile_cons, List.dropWhile_cons, hx, if_pos rfl, if_pos rfl]
      refine ⟨by rw [List.cons_append, ← i1], fun q => ?_⟩
      rcases List.mem_cons.mp q with q | q
      · exact e q.symm
      · exact i2 q
theorem part_yes {l : List Nat} (h : 58 ∈ l) : Txt.partition (S l) (Str.ofString ":") = (S (headOf l), Str.ofString ":", S (restOf l)) := by
  obtain ⟨h1, h2⟩ := split_at h
  have e1 : S l = S (headOf l) ++ Str.ofString ":" ++ S (restOf l) := by
    rw [show Str.ofString ":" = S [58] by decide +kernel, S_app, S_app, List.append_assoc]
    exact congrArg S h1
  rw [e1]
  exact TL.partition_app (s := 58) (S := []) (by decide +kernel) h2
theorem part_no {l : List Nat} (h : 58 ∉ l) : Txt.partition (S l) (Str.ofString ":") = (S l, S [], S []) := TL.partition_none (s := 58) (S := []) (by decide +kernel) h
theorem dig_mem {x : Nat} : decide (x ∈ (Str.ofString "0123456789").cps.toList) = decide (48 ≤ x ∧ x < 58) := by
  have e : (Str.ofString "0123456789").cps.toList = (List.range 10).map (48 + ·) := by decide +kernel
  rw [e, decide_eq_decide, List.mem_map]
  constructor
  · rintro ⟨k, hk, rfl⟩
    have := List.mem_range.mp hk
    omega
  · intro h
    exact ⟨x - 48, List.mem_range.mpr (by omega), by omega⟩
theorem int_dig10 {x : Nat} (h : 48 ≤ x ∧ x < 58) : PySem.intText? (S [x]) = some ((x - 48 : Nat) : Int) := by
  have z : ∀ k < 10, PySem.intText? (S [48 + k]) = some ((k : Nat) : Int) := by decide +kernel
  have := z (x - 48) (by omega)
  rw [show 48 + (x - 48) = x by omega] at this
  exact this
theorem cutc_len {c : Nat} : ∀ {l acc : List Nat}, (cutc c acc l).length ≤ l.length + 1
  | [], acc => Nat.le_refl 1
  | d :: r, acc => by
    show (if d = c then _ else _ : List (List Nat)).length ≤ _
    by_cases e : d = c
    · rw [if_pos e, List.length_cons, List.length_cons]
      have := cutc_len (c := c) (l := r) (acc := [])
      omega
    · rw [if_neg e, List.length_cons]
      have := cutc_len (c := c) (l := r) (acc := acc ++ [d])
      omega
theorem cutc_part {c : Nat} : ∀ {l acc : List Nat}, ∀ p ∈ cutc c acc l, p.length ≤ acc.length + l.length
  | [], acc, p, h => by
    have e : p = acc := List.mem_singleton.mp h
    rw [e]
    exact Nat.le_add_right _ _
  | d :: r, acc, p, h => by
    have h : p ∈ (if d = c then acc :: cutc c [] r else cutc c (acc ++ [d]) r) := h
    by_cases e : d = c
    · rw [if_pos e] at h
      rcases List.mem_cons.mp h with q | q
      · rw [q]; exact Nat.le_add_right _ _
      · have := cutc_part (c := c) (l := r) (acc := []) p q
        rw [List.length_cons]
        simp at this
        omega
    · rw [if_neg e] at h
      have := cutc_part (c := c) (l := r) (acc := acc ++ [d]) p h
      rw [List.length_append, List.length_singleton] at this
      rw [List.length_cons]
      omega
theorem RcsL.upd {H : Hp} {us : List V} {cs : List RC} {L : Addr} {xs ys : List V} (h : RcsL H us cs) (hL : H L = some (.lst xs)) : RcsL (upd H L (.lst ys)) us cs := ⟨h.1, fun i g hg => let ⟨u, h1, h2⟩ := h.2 i g hg; ⟨u, h1, by
  unfold RcAt at h2 ⊢
  by_cases e : u = L
  · rw [e, hL] at h2; cases h2
  · rw [upd_ne e]; exact h2⟩⟩
theorem RcsL.snoc {H : Hp} {us : List V} {cs : List RC} {u : Addr} {k : RC} (h : RcsL H us cs) (hu : RcAt H u k) : RcsL H (us ++ [.ref u]) (cs ++ [k]) := by
  refine ⟨by rw [List.length_append, List.length_append, h.1]; rfl, fun i x hx => ?_⟩
  by_cases hi : i < cs.length
  · rw [List.getElem?_append_left hi] at hx
    rw [List.getElem?_append_left (by rw [h.1]; exact hi)]
    exact h.2 i x hx
  · have e : i = cs.length := by
      have := (List.getElem?_eq_some_iff.mp hx).1
      rw [List.length_append, List.length_singleton] at this
      omega
    rw [e, List.getElem?_append_right (Nat.le_refl _), Nat.sub_self] at hx
    have ex : k = x := Option.some.inj hx
    refine ⟨u, ?_, ex ▸ hu⟩
    rw [e, ← h.1, List.getElem?_append_right (Nat.le_refl _), Nat.sub_self]
    rfl
def spRRead (a : Ad) : Sp := fun vs H Q E => ∃ (s : Addr) (r c n : Nat) (l : List Nat), vs = [.ref a.Rule, .ref s, tx l] ∧ SchemeAt a.Scheme H s r c n ∧ l.length ≤ 500 ∧
  (parseR l = none → RaZ E a.BadRule H) ∧ ∀ row rs, parseR l = some (row, rs) → (∀ k ∈ rs, RcSmall k) ∧ rs.length ≤ 100 ∧
    (¬ inRow r (row : Int) → Ra E a.BadRow "row" (.int (row : Nat)) H) ∧ (inRow r (row : Int) → 6 < rs.length → Ra E a.TooMany "most" (.int 6) H) ∧ (inRow r (row : Int) → rs.length ≤ 6 → ∀ i t, firstW r c 0 rs = some (i, t) → Ra2 E a.BadClause "index" "part" (.int (i : Nat)) (.str (Str.ofString t)) H) ∧
    (inRow r (row : Int) → rs.length ≤ 6 → firstW r c 0 rs = none → ∀ G p, Same H G → H p = none → RuleAt a G p s r c n row (rs.map toCl) → Q (.ref p) G)
theorem c_Rule_read (T : Txt K mg a) : CanC P w K mg base 7 a.Rule "read" (spRRead a) := by
  refine canC_of T.m_Rule_read sc_Rule_read bd_Rule_read (fun vs H Q E h => ?_) (fun f cdv A outer s0 H vs Q E hr h => ?_)
  · obtain ⟨s, r, c, n, l, rfl, _⟩ := h
    rfl
  · obtain ⟨s, r, c, n, l, rfl, sch, hl, yz, z⟩ := h
    refine ⟨_, (pss_cons (ps_asg (pe_partition (pv 2) pe_str) (pg_tup rfl (pgs_cons (pg_name (i := 3) sc_Rule_read.nd rfl (.inl rfl)) (pgs_cons (pg_name (i := 4) sc_Rule_read.nd rfl (.inl rfl)) (pgs_cons (pg_name (i := 5) sc_Rule_read.nd rfl (.inl rfl)) pgs_nil)))))
      (pss_cons (ps_if (PW.pt (pw_or (pt_not (pt_truth (pv 4) (by intro _; rfl))) (pw_or (pt_cmpR op_ne (pe_callB call_len_str (by rfl) T.b_len (by decide +kernel) (pa_cons (pv 3) pa_nil)) pe_int (nomark _)) (pw_or1 (pt_cmpR op_notIn_sign (pv 3) pe_str (by rfl)))))) (pss_one (pr_own0 T.z_BadRule (takes_of rfl rfl rfl rfl) (by rfl) (by rfl))) pss_nil)
      (pss_cons (ps_set (i := 6) sc_Rule_read.nd rfl (.inl rfl) (pe_lst pa_nil))
      (pss_cons (ps_for (passes_of rfl) (by rfl) (kpi_list K (pe_ifExp (pt_truth (pv 5) (by intro _; rfl)) (pe_split (pv 5) pe_str) (pe_lst pa_nil))) (pg_name (i := 7) sc_Rule_read.nd rfl (.inl rfl)) (pss_cons (ps_set (i := 8) sc_Rule_read.nd rfl (.inl rfl) (pe_split (pv 7) pe_str))
      (pss_cons (ps_if (pt_cmpR op_ne (pe_callB (klen_seq K) (by rfl) T.b_len (by decide +kernel) (pa_cons (pv 8) pa_nil)) pe_int (nomark _)) (pss_one (pr_own0 T.z_BadRule (takes_of rfl rfl rfl rfl) (by rfl) (by rfl))) pss_nil)
      (pss_cons (ps_set (i := 9) sc_Rule_read.nd rfl (.inl rfl) (pe_split (pe_ix (kix_list K) (pv 8) pe_int (fun _ _ => rfl)) pe_str))
      (pss_cons (ps_if (pt_cmpR op_ne (pe_callB (klen_seq K) (by rfl) T.b_len (by decide +kernel) (pa_cons (pv 9) pa_nil)) pe_int (nomark _)) (pss_one (pr_own0 T.z_BadRule (takes_of rfl rfl rfl rfl) (by rfl) (by rfl))) pss_nil)
      (pss_one (ps_expr (pe_bm PySem.F.plainAttrs_list PySem.F.slot_list_append PySem.F.type_list_append mt_append (pv 6) (pa_cons (pe_tup (pa_cons (pe_ix (kix_list K) (pv 8) pe_int (fun _ _ => rfl)) (pa_cons (pe_ix (kix_list K) (pv 8) pe_int (fun _ _ => rfl)) (pa_cons (pe_ix (kix_list K) (pv 9) pe_int (fun _ _ => rfl)) (pa_cons (pe_ix (kix_list K) (pv 9) pe_int (fun _ _ => rfl)) pa_nil))))) pa_nil)))))))))
      (pss_one (ps_ret (pc_nV (i := 0) (c_Rule_init T) (takes_of rfl rfl rfl rfl) hr (by decide) (by rfl) (.inl rfl) (pa_cons (pv 1) (pa_cons (pe_callTy call_int_str (by rfl) T.b_int (by decide +kernel) (pa_cons (pv 3) pa_nil)) (pa_cons (pv 6) pa_nil)))))))))), ?_⟩
    have gn := good_n sch.2
    have gc := good_c sch.2
    refine ⟨_, rfl, ⟨_, rfl⟩, S l, Str.ofString ":", rfl, rfl, by decide +kernel, by rw [S_len]; exact szl (by omega), fun q hq => ?_⟩
    by_cases h58 : 58 ∈ l
    · rw [part_yes h58]
      have hsp := split_at h58
      have s1 := ex_new (o := .tup [.str (S (headOf l)), .str (Str.ofString ":"), .str (S (restOf l))]) hq
      refine ⟨q, _, rfl, seqT_of upd_same, rfl, _, _, rfl, _, _, rfl, _, _, rfl, rfl, ?_⟩
      generalize upd H q (.tup [.str (S (headOf l)), .str (Str.ofString ":"), .str (S (restOf l))]) = G1 at s1
      have llen : l.length = (headOf l).length + (restOf l).length + 1 := by
        have := congrArg List.length hsp.1
        rw [List.length_append, List.length_cons] at this
        omega
      unfold parseR at yz z
      rw [if_pos h58] at yz z
      generalize headOf l = hd at yz z llen
      generalize restOf l = rt at yz z llen
      clear hsp h58
      refine ⟨_, rfl, true, by rw [show Str.ofString ":" = S [58] by decide +kernel]; exact tru_S (by decide) (by decide), iteF ?_⟩
      refine ⟨_, rfl, _, rfl, by rw [S_len]; exact szl (by omega), rfl, _, rfl, ?_⟩
      rw [S_len]
      by_cases h1 : hd.length = 1
      · obtain ⟨x, rfl⟩ : ∃ x, hd = [x] := List.length_eq_one_iff.mp h1
        refine itN (by rw [show decide (V.int ([x].length : Nat) = V.int 1) = true from decide_eq_true rfl]; decide) ?_
        refine ⟨_, rfl, x, _, rfl, rfl, _, rfl, ?_⟩
        rw [dig_mem]
        by_cases hx : 48 ≤ x ∧ x < 58
        · rw [decide_eq_true hx]
          refine iteF ?_
          have hc3 : [x].length = 1 ∧ 48 ≤ [x].headD 0 ∧ [x].headD 0 < 58 := ⟨rfl, hx⟩
          rw [if_pos hc3] at yz
          have z := fun row rs h => z row rs ((if_pos hc3).trans h)
          have lrt : rt.length ≤ 498 := by rw [List.length_singleton] at llen; omega
          refine ⟨by decide, fun L hL => ?_⟩
          have hL0 := free_same s1 hL
          have s2 := s1.trans (ex_new (o := .lst []) hL)
          generalize hps : (if rt = [] then [] else cutc 59 [] rt) = ps at yz z
          have lps : ps.length ≤ 499 := by
            rw [← hps]
            split
            · exact Nat.zero_le _
            · exact Nat.le_trans cutc_len (by omega)
          have pps : ∀ p ∈ ps, p.length ≤ 498 := fun p hp => by
            rw [← hps] at hp
            split at hp
            · cases hp
            · have := cutc_part p hp
              simp at this
              omega
          by_cases hr0 : rt = []
          · rw [if_pos hr0] at hps
            refine ⟨_, rfl, false, by show TruV K (tx rt) _ false; rw [hr0]; exact tru_S0, iteF ⟨by decide, fun B hB => ?_⟩⟩
            have eB : (upd (upd G1 L (.lst [])) B (.lst [])) = upd (upd G1 L (.lst [])) B (.lst (ps.map tx)) := by rw [← hps]; rfl
            rw [eB]
            have hL3 : (upd (upd G1 L (.lst [])) B (.lst (ps.map tx))) L = some (.lst []) := by rw [upd_ne (ne_some hB upd_same)]; exact upd_same
            have nBL : B ≠ L := Ne.symm (ne_some hB upd_same)
            have hB3 : (upd (upd G1 L (.lst [])) B (.lst (ps.map tx))) B = some (.lst (ps.map tx)) := upd_same
            have s3 := s2.trans (ex_new (o := .lst (ps.map tx)) hB)
            generalize upd (upd G1 L (.lst [])) B (.lst (ps.map tx)) = G3 at hL3 hB3 s3
            refine ⟨B, rfl, ⟨_, seqL_of hB3⟩, for_it (walk_list (xs := ps.map tx)) (fun i σ G => (∃ us rs1, Same H G ∧ G B = some (.lst (ps.map tx)) ∧ G L = some (.lst us) ∧ RcsL G us rs1 ∧ rs1.length = i ∧ allP ps = (allP (ps.drop i)).map (rs1 ++ ·)) ∧ ∃ u v w, σ = [some (.ref a.Rule), some (.ref s), some (tx l), some (tx [x]), some (.str (Str.ofString ":")), some (tx rt), some (.ref L), u, v, w]) ⟨⟨[], [], s3, hB3, hL3, ⟨rfl, nofun⟩, rfl, by rw [List.drop_zero]; cases allP ps <;> rfl⟩, none, none, none, rfl⟩ (fun i σ G _ ⟨⟨us, rs1, _, hb, _⟩, _⟩ => seqL_of hb) ?_ ?_⟩
            · rintro i y σ G0 G hi ⟨⟨us, rs1, s4, hb, hl', lk, li1, ha⟩, u0, v0, w0, rfl⟩ ⟨rfl, hy⟩
              have hi : i < ps.length := by rw [List.length_map] at hi; exact hi
              have hk : ps[i]? = some ps[i] := List.getElem?_eq_getElem hi
              rw [List.getElem?_map, hk] at hy
              have ey := Option.some.inj hy
              subst ey
              have hdr : ps.drop i = ps[i] :: ps.drop (i + 1) := List.drop_eq_getElem_cons hi
              rw [hdr] at ha
              have lp := pps _ (List.getElem_mem hi)
              generalize ps[i] = p at hk ha lp hdr
              have bad : pieceP p = none → RaZ E a.BadRule G := fun h => (yz (by rw [ha, allP_bad h]; rfl)).mono s4
              have lus : us.length ≤ 500 := by rw [lk.1, li1]; omega
              have esp : (Txt.split (S p) (Str.ofString ",")).map V.str = (cutc 44 [] p).map tx := by
                rw [show Str.ofString "," = S [44] by decide +kernel, split1 _ (by decide), List.map_map]
                rfl
              refine ⟨_, rfl, ⟨_, rfl⟩, _, _, rfl, rfl, by decide +kernel, by rw [S_len]; exact szl (by omega), fun X hX => ?_⟩
              rw [esp]
              refine ⟨_, rfl, X, _, rfl, .inl (seqL_of upd_same), rfl, _, rfl, ?_⟩
              rw [List.length_map]
              by_cases h3 : (cutc 44 [] p).length = 3
              · have hparts := cutc_part (c := 44) (l := p) (acc := [])
                obtain ⟨u, v, e, he⟩ : ∃ u v e, cutc 44 [] p = [u, v, e] := by
                  match hm : cutc 44 [] p, h3 with
                  | [u, v, e], _ => exact ⟨u, v, e, rfl⟩
                have hpp : pieceP p = (match cutc 62 [] e with | [x, y] => some ⟨u, v, x, y⟩ | _ => none) := by unfold pieceP; rw [he]
                rw [he] at hparts ⊢
                rw [show [u, v, e].map tx = [tx u, tx v, tx e] from rfl]
                have le : e.length ≤ 498 := by have := hparts e (by simp); simp at this; omega
                refine neT ?_
                have ese : (Txt.split (S e) (Str.ofString ">")).map V.str = (cutc 62 [] e).map tx := by
                  rw [show Str.ofString ">" = S [62] by decide +kernel, split1 _ (by decide), List.map_map]
                  rfl
                refine ⟨_, rfl, X, _, 2, _, rfl, rfl, seqL_of upd_same, atI_nat (j := 2) rfl, ⟨_, rfl⟩, _, _, rfl, rfl, by decide +kernel, by rw [S_len]; exact szl (by omega), fun Y hY => ?_⟩
                rw [ese]
                have hX2 : (upd (upd G X (.lst [tx u, tx v, tx e])) Y (.lst ((cutc 62 [] e).map tx))) X = some (.lst [tx u, tx v, tx e]) := by rw [upd_ne (ne_some hY upd_same)]; exact upd_same
                have s5 : Same G (upd (upd G X (.lst [tx u, tx v, tx e])) Y (.lst ((cutc 62 [] e).map tx))) := (ex_new hX).trans (ex_new hY)
                refine ⟨_, rfl, Y, _, rfl, .inl (seqL_of upd_same), rfl, _, rfl, ?_⟩
                rw [List.length_map]
                by_cases h2 : (cutc 62 [] e).length = 2
                · obtain ⟨e1, e2, he2⟩ : ∃ u v, cutc 62 [] e = [u, v] := by
                    match hm : cutc 62 [] e, h2 with
                    | [u, v], _ => exact ⟨u, v, rfl⟩
                  rw [he2] at hpp s5 hX2 ⊢
                  rw [show [e1, e2].map tx = [tx e1, tx e2] from rfl] at s5 hX2 ⊢
                  have hY2 : (upd (upd G X (.lst [tx u, tx v, tx e])) Y (.lst [tx e1, tx e2])) Y = some (.lst [tx e1, tx e2]) := upd_same
                  refine neT ?_
                  generalize upd (upd G X (.lst [tx u, tx v, tx e])) Y (.lst [tx e1, tx e2]) = M at hX2 hY2 s5
                  refine ⟨_, rfl, .inl ⟨rfl, _, seqL_of (s5 _ _ hl')⟩, _, rfl, X, _, 0, _, rfl, rfl, seqL_of hX2, atI_nat (j := 0) rfl, _, rfl, X, _, 1, _, rfl, rfl, seqL_of hX2, atI_nat (j := 1) rfl, _, rfl, Y, _, 0, _, rfl, rfl, seqL_of hY2, atI_nat (j := 0) rfl, _, rfl, Y, _, 1, _, rfl, rfl, seqL_of hY2, atI_nat (j := 1) rfl, by show 4 ≤ sizeLine; decide, fun w hw => ?_⟩
                  have nLu : L ≠ w := ne_some hw (s5 _ _ hl')
                  have hl6 : (upd M w (.tup [tx u, tx v, tx e1, tx e2])) L = some (.lst us) := by rw [upd_ne nLu]; exact s5 _ _ hl'
                  have s6 : Same M (upd M w (.tup [tx u, tx v, tx e1, tx e2])) := ex_new hw
                  refine ⟨L, _, _, rfl, rfl, hl6, szlt (by omega), ⟨_, rs1 ++ [⟨u, v, e1, e2⟩], ex_mut (s4.trans (s5.trans s6)) hL0, ?_, upd_same, ?_, by rw [List.length_append, li1]; rfl, ?_⟩, _, _, _, rfl⟩
                  · rw [upd_ne nBL]
                    exact s6 _ _ (s5 _ _ hb)
                  · refine RcsL.snoc ((lk.mono (s5.trans s6)).upd hl6) ?_
                    unfold RcAt
                    rw [upd_ne (Ne.symm nLu)]
                    exact upd_same
                  · rw [ha, allP_ok hpp]
                    cases allP (ps.drop (i + 1)) with
                    | none => rfl
                    | some t => exact congrArg some (List.append_assoc rs1 [⟨u, v, e1, e2⟩] t).symm
                · have hn : pieceP p = none := by
                    rw [hpp]
                    split
                    · rename_i h; rw [h] at h2; exact absurd rfl h2
                    · rfl
                  exact ite2 (fun _ => bad hn _ s5) (fun h => absurd (by rw [decide_eq_false (fun q => h2 (by injection q with q; omega))]; rfl) h)
              · have hn : pieceP p = none := by
                  unfold pieceP
                  split
                  · rename_i h; rw [h] at h3; exact absurd rfl h3
                  · rfl
                exact ite2 (fun _ => bad hn _ (ex_new hX)) (fun h => absurd (by rw [decide_eq_false (fun q => h3 (by injection q with q; omega))]; rfl) h)
            · rintro σ G ⟨⟨us, rs1, s4, hb, hl', lk, li1, ha⟩, u0, v0, w0, rfl⟩
              have hall : allP ps = some rs1 := by
                rw [ha, List.length_map, List.drop_of_length_le (Nat.le_refl _)]
                show some (rs1 ++ []) = _
                rw [List.append_nil]
              obtain ⟨small, l100, y1, y2, y3, y4⟩ := z (x - 48) rs1 (by rw [hall]; rfl)
              refine ⟨rfl, _, rfl, _, rfl, S [x], _, rfl, int_dig10 hx, by rw [S_len]; show 1 ≤ 640; decide, _, rfl, ?_⟩
              intro y dy hy hdy hne
              refine rinitG hy hdy hne (sch.mono s4) hl' lk small l100 (fun h => (y1 h).mono s4) (fun h k => (y2 h k).mono s4) (fun h k i t e => (y3 h k i t e).mono s4) (fun h k e G5 s7 ra => ?_)
              rw [Int.toNat_natCast] at ra
              exact ⟨rfl, y4 h k e G5 y (s4.trans s7) (free_same s4 hy) ra⟩
          · rw [if_neg hr0] at hps
            have esj : (Txt.split (S rt) (Str.ofString ";")).map V.str = ps.map tx := by
              rw [show Str.ofString ";" = S [59] by decide +kernel, split1 _ (by decide), hps, List.map_map]
              rfl
            refine ⟨_, rfl, true, tru_S (List.length_pos_iff.mpr hr0) (by omega), iteT ⟨_, rfl, ⟨_, rfl⟩, _, _, rfl, rfl, by decide +kernel, by show (S rt).length + 2 ≤ _; rw [S_len]; exact szl (by omega), fun B hB => ?_⟩⟩
            rw [esj]
            have hL3 : (upd (upd G1 L (.lst [])) B (.lst (ps.map tx))) L = some (.lst []) := by rw [upd_ne (ne_some hB upd_same)]; exact upd_same
            have nBL : B ≠ L := Ne.symm (ne_some hB upd_same)
            have hB3 : (upd (upd G1 L (.lst [])) B (.lst (ps.map tx))) B = some (.lst (ps.map tx)) := upd_same
            have s3 := s2.trans (ex_new (o := .lst (ps.map tx)) hB)
            generalize upd (upd G1 L (.lst [])) B (.lst (ps.map tx)) = G3 at hL3 hB3 s3
            refine ⟨B, rfl, ⟨_, seqL_of hB3⟩, for_it (walk_list (xs := ps.map tx)) (fun i σ G => (∃ us rs1, Same H G ∧ G B = some (.lst (ps.map tx)) ∧ G L = some (.lst us) ∧ RcsL G us rs1 ∧ rs1.length = i ∧ allP ps = (allP (ps.drop i)).map (rs1 ++ ·)) ∧ ∃ u v w, σ = [some (.ref a.Rule), some (.ref s), some (tx l), some (tx [x]), some (.str (Str.ofString ":")), some (tx rt), some (.ref L), u, v, w]) ⟨⟨[], [], s3, hB3, hL3, ⟨rfl, nofun⟩, rfl, by rw [List.drop_zero]; cases allP ps <;> rfl⟩, none, none, none, rfl⟩ (fun i σ G _ ⟨⟨us, rs1, _, hb, _⟩, _⟩ => seqL_of hb) ?_ ?_⟩
            · rintro i y σ G0 G hi ⟨⟨us, rs1, s4, hb, hl', lk, li1, ha⟩, u0, v0, w0, rfl⟩ ⟨rfl, hy⟩
              have hi : i < ps.length := by rw [List.length_map] at hi; exact hi
              have hk : ps[i]? = some ps[i] := List.getElem?_eq_getElem hi
              rw [List.getElem?_map, hk] at hy
              have ey := Option.some.inj hy
              subst ey
              have hdr : ps.drop i = ps[i] :: ps.drop (i + 1) := List.drop_eq_getElem_cons hi
              rw [hdr] at ha
              have lp := pps _ (List.getElem_mem hi)
              generalize ps[i] = p at hk ha lp hdr
              have bad : pieceP p = none → RaZ E a.BadRule G := fun h => (yz (by rw [ha, allP_bad h]; rfl)).mono s4
              have lus : us.length ≤ 500 := by rw [lk.1, li1]; omega
              have esp : (Txt.split (S p) (Str.ofString ",")).map V.str = (cutc 44 [] p).map tx := by
                rw [show Str.ofString "," = S [44] by decide +kernel, split1 _ (by decide), List.map_map]
                rfl
              refine ⟨_, rfl, ⟨_, rfl⟩, _, _, rfl, rfl, by decide +kernel, by rw [S_len]; exact szl (by omega), fun X hX => ?_⟩
              rw [esp]
              refine ⟨_, rfl, X, _, rfl, .inl (seqL_of upd_same), rfl, _, rfl, ?_⟩
              rw [List.length_map]
              by_cases h3 : (cutc 44 [] p).length = 3
              · have hparts := cutc_part (c := 44) (l := p) (acc := [])
                obtain ⟨u, v, e, he⟩ : ∃ u v e, cutc 44 [] p = [u, v, e] := by
                  match hm : cutc 44 [] p, h3 with
                  | [u, v, e], _ => exact ⟨u, v, e, rfl⟩
                have hpp : pieceP p = (match cutc 62 [] e with | [x, y] => some ⟨u, v, x, y⟩ | _ => none) := by unfold pieceP; rw [he]
                rw [he] at hparts ⊢
                rw [show [u, v, e].map tx = [tx u, tx v, tx e] from rfl]
                have le : e.length ≤ 498 := by have := hparts e (by simp); simp at this; omega
                refine neT ?_
                have ese : (Txt.split (S e) (Str.ofString ">")).map V.str = (cutc 62 [] e).map tx := by
                  rw [show Str.ofString ">" = S [62] by decide +kernel, split1 _ (by decide), List.map_map]
                  rfl
                refine ⟨_, rfl, X, _, 2, _, rfl, rfl, seqL_of upd_same, atI_nat (j := 2) rfl, ⟨_, rfl⟩, _, _, rfl, rfl, by decide +kernel, by rw [S_len]; exact szl (by omega), fun Y hY => ?_⟩
                rw [ese]
                have hX2 : (upd (upd G X (.lst [tx u, tx v, tx e])) Y (.lst ((cutc 62 [] e).map tx))) X = some (.lst [tx u, tx v, tx e]) := by rw [upd_ne (ne_some hY upd_same)]; exact upd_same
                have s5 : Same G (upd (upd G X (.lst [tx u, tx v, tx e])) Y (.lst ((cutc 62 [] e).map tx))) := (ex_new hX).trans (ex_new hY)
                refine ⟨_, rfl, Y, _, rfl, .inl (seqL_of upd_same), rfl, _, rfl, ?_⟩
                rw [List.length_map]
                by_cases h2 : (cutc 62 [] e).length = 2
                · obtain ⟨e1, e2, he2⟩ : ∃ u v, cutc 62 [] e = [u, v] := by
                    match hm : cutc 62 [] e, h2 with
                    | [u, v], _ => exact ⟨u, v, rfl⟩
                  rw [he2] at hpp s5 hX2 ⊢
                  rw [show [e1, e2].map tx = [tx e1, tx e2] from rfl] at s5 hX2 ⊢
                  have hY2 : (upd (upd G X (.lst [tx u, tx v, tx e])) Y (.lst [tx e1, tx e2])) Y = some (.lst [tx e1, tx e2]) := upd_same
                  refine neT ?_
                  generalize upd (upd G X (.lst [tx u, tx v, tx e])) Y (.lst [tx e1, tx e2]) = M at hX2 hY2 s5
                  refine ⟨_, rfl, .inl ⟨rfl, _, seqL_of (s5 _ _ hl')⟩, _, rfl, X, _, 0, _, rfl, rfl, seqL_of hX2, atI_nat (j := 0) rfl, _, rfl, X, _, 1, _, rfl, rfl, seqL_of hX2, atI_nat (j := 1) rfl, _, rfl, Y, _, 0, _, rfl, rfl, seqL_of hY2, atI_nat (j := 0) rfl, _, rfl, Y, _, 1, _, rfl, rfl, seqL_of hY2, atI_nat (j := 1) rfl, by show 4 ≤ sizeLine; decide, fun w hw => ?_⟩
                  have nLu : L ≠ w := ne_some hw (s5 _ _ hl')
                  have hl6 : (upd M w (.tup [tx u, tx v, tx e1, tx e2])) L = some (.lst us) := by rw [upd_ne nLu]; exact s5 _ _ hl'
                  have s6 : Same M (upd M w (.tup [tx u, tx v, tx e1, tx e2])) := ex_new hw
                  refine ⟨L, _, _, rfl, rfl, hl6, szlt (by omega), ⟨_, rs1 ++ [⟨u, v, e1, e2⟩], ex_mut (s4.trans (s5.trans s6)) hL0, ?_, upd_same, ?_, by rw [List.length_append, li1]; rfl, ?_⟩, _, _, _, rfl⟩
                  · rw [upd_ne nBL]
                    exact s6 _ _ (s5 _ _ hb)
                  · refine RcsL.snoc ((lk.mono (s5.trans s6)).upd hl6) ?_
                    unfold RcAt
                    rw [upd_ne (Ne.symm nLu)]
                    exact upd_same
                  · rw [ha, allP_ok hpp]
                    cases allP (ps.drop (i + 1)) with
                    | none => rfl
                    | some t => exact congrArg some (List.append_assoc rs1 [⟨u, v, e1, e2⟩] t).symm
                · have hn : pieceP p = none := by
                    rw [hpp]
                    split
                    · rename_i h; rw [h] at h2; exact absurd rfl h2
                    · rfl
                  exact ite2 (fun _ => bad hn _ s5) (fun h => absurd (by rw [decide_eq_false (fun q => h2 (by injection q with q; omega))]; rfl) h)
              · have hn : pieceP p = none := by
                  unfold pieceP
                  split
                  · rename_i h; rw [h] at h3; exact absurd rfl h3
                  · rfl
                exact ite2 (fun _ => bad hn _ (ex_new hX)) (fun h => absurd (by rw [decide_eq_false (fun q => h3 (by injection q with q; omega))]; rfl) h)
            · rintro σ G ⟨⟨us, rs1, s4, hb, hl', lk, li1, ha⟩, u0, v0, w0, rfl⟩
              have hall : allP ps = some rs1 := by
                rw [ha, List.length_map, List.drop_of_length_le (Nat.le_refl _)]
                show some (rs1 ++ []) = _
                rw [List.append_nil]
              obtain ⟨small, l100, y1, y2, y3, y4⟩ := z (x - 48) rs1 (by rw [hall]; rfl)
              refine ⟨rfl, _, rfl, _, rfl, S [x], _, rfl, int_dig10 hx, by rw [S_len]; show 1 ≤ 640; decide, _, rfl, ?_⟩
              intro y dy hy hdy hne
              refine rinitG hy hdy hne (sch.mono s4) hl' lk small l100 (fun h => (y1 h).mono s4) (fun h k => (y2 h k).mono s4) (fun h k i t e => (y3 h k i t e).mono s4) (fun h k e G5 s7 ra => ?_)
              rw [Int.toNat_natCast] at ra
              exact ⟨rfl, y4 h k e G5 y (s4.trans s7) (free_same s4 hy) ra⟩
        · rw [decide_eq_false hx]
          exact iteT (yz (if_neg fun h => hx h.2) _ s1)
      · rw [if_neg (fun h => h1 h.1)] at yz
        rw [show decide (V.int (hd.length : Nat) = V.int 1) = false from decide_eq_false (fun h => h1 (by injection h with h; omega))]
        exact iteT (iteT (yz rfl _ s1))
    · unfold parseR at yz
      rw [if_neg h58] at yz
      rw [part_no h58]
      have s1 := ex_new (o := .tup [.str (S l), .str (S []), .str (S [])]) hq
      refine ⟨q, _, rfl, seqT_of upd_same, rfl, _, _, rfl, _, _, rfl, _, _, rfl, rfl, ?_⟩
      exact ⟨_, rfl, false, tru_S0, iteT (yz rfl _ s1)⟩
end
end K23

end
section
set_option Elab.async false
set_option linter.all false
set_option maxRecDepth 100000
set_option maxHeartbeats 4000000
namespace K23
open PySem PySem.Spec PyProof.Rows L2 Kit
section
variable {P : Program} {w : World} {K : PySem.W.Frag} {mg : Str → Option Value} {base : Heap} {a : Ad}
def valsV (r c row : Nat) (cs : List Cl) (m : Nat) : List V := (List.range m).map fun m => tx [W r c row cs m]
theorem valsV_succ {r c row m : Nat} {cs : List Cl} : valsV r c row cs (m + 1) = valsV r c row cs m ++ [tx [W r c row cs m]] := by
  unfold valsV
  rw [List.range_succ, List.map_append]
  rfl
theorem valsV_len {r c row m : Nat} {cs : List Cl} : (valsV r c row cs m).length = m := by
  unfold valsV
  rw [List.length_map, List.length_range]
def spLValues : Sp := fun vs H Q _ => ∃ (q : Addr) (ws : List V) (cs : List Cl) (r c n row : Nat), vs = [.int r, .int c, .int row, .ref q] ∧ Good r c n ∧ row < r ∧ H q = some (.lst ws) ∧ ClsL H ws cs ∧ okCls r c cs ∧ cs.length ≤ 6 ∧ ∀ G l, Same H G → H l = none → G l = some (.lst (valsV r c row cs (total n c))) → Q (.ref l) G
theorem c_law_values (T : Txt K mg a) : Can P w K mg base 2 "_law_values" spLValues := by
  refine can_of T.d_law_values sc_law_values bd_law_values (fun vs H Q E h => ?_) (fun f cdv A outer s H vs Q E hr h => ?_)
  · obtain ⟨q, ws, cs, r, c, n, row, rfl, _⟩ := h
    rfl
  · obtain ⟨q, ws, cs, r, c, n, row, rfl, gd, hrow, hq, hcl, ok, h6, z⟩ := h
    refine ⟨_, (pss_cons (ps_set (i := 4) sc_law_values.nd rfl (.inl rfl) (pe_lst pa_nil))
      (pss_cons (ps_for (passes_of rfl) (by rfl) (pi_str (pe_slice sl_str pe_str po_none (po_some (pc_f (c_law_many T) hr (by decide) (by rfl) (pa_cons (pv 0) (pa_cons (pv 1) pa_nil)))))) (pg_name (i := 5) sc_law_values.nd rfl (.inl rfl)) (pss_cons (ps_set (i := 6) sc_law_values.nd rfl (.inl rfl) (pc_f (c_law_spots T) hr (by decide) (by rfl) (pa_cons (pv 0) (pa_cons (pv 1) (pa_cons (pv 5) pa_nil)))))
      (pss_one (ps_for (passes_of rfl) (by rfl) (pi_str (pe_slice sl_str pe_str po_none (po_some (pe_op op_add (pv 1) pe_int)))) (pg_name (i := 7) sc_law_values.nd rfl (.inl rfl)) (pss_one (ps_for (passes_of rfl) (by rfl) (pi_str (pe_slice sl_str pe_str po_none (po_some (pe_op op_add (pv 1) pe_int)))) (pg_name (i := 8) sc_law_values.nd rfl (.inl rfl)) (pss_one (ps_expr (pe_bm PySem.F.plainAttrs_list PySem.F.slot_list_append PySem.F.type_list_append mt_append (pv 4) (pa_cons (pc_f (c_law_new T) hr (by decide) (by rfl) (pa_cons (pv 3) (pa_cons (pv 7) (pa_cons (pv 6) (pa_cons (pv 8) (pa_cons (pv 2) pa_nil)))))) pa_nil))))))))))
      (pss_one (ps_ret (pv 4))))), ?_⟩
    have gn := good_n gd
    have gc := good_c gd
    have tle := total_le gn.1 gc
    have lcol : (S (cols n)).cps.size = n := by show (S (cols n)).length = n; rw [S_len, cols_len]
    have lsgs : (S (sgs (c + 1))).cps.size = c + 1 := by show (S (sgs (c + 1))).length = _; rw [S_len, sgs_len]
    refine ⟨by decide, fun L hL => ?_⟩
    have inv0 : Same H (upd H L (.lst [])) := ex_new hL
    refine ⟨_, rfl, _, rfl, r, c, rfl, by omega, by omega, ?_⟩
    rw [good_pow gd]
    refine ⟨_, rfl, _, rfl, by decide +kernel, ?_⟩
    rw [cut_let gn.1]
    refine ⟨_, rfl, for_it walk_str (fun i σ G => Same H G ∧ G L = some (.lst (valsV r c row cs (i * (c + 1) * (c + 1)))) ∧ ∃ u1 u2 u3 u4 : Option V, σ = [some (.int r), some (.int c), some (.int row), some (.ref q), some (.ref L), u1, u2, u3, u4]) ⟨inv0, by rw [upd_same, Nat.zero_mul, Nat.zero_mul]; rfl, none, none, none, none, rfl⟩ (fun _ _ _ _ _ => True.intro) ?_ ?_⟩
    · rintro i u σ G0 G hi ⟨s1, g1, u1, u2, u3, u4, rfl⟩ ⟨rfl, x, hx, rfl⟩
      have hx := at_S hx
      have hin : i < n := by omega
      have ex : x = 97 + i := by
        unfold cols at hx
        rw [List.getElem?_map, List.getElem?_range hin] at hx
        exact (Option.some.inj hx).symm
      have hci : inCol n x = true := mem_cols.mp (List.mem_of_getElem? hx)
      subst ex
      have ldg : (dig r c i).length = r := dig_len ..
      refine ⟨_, rfl, _, rfl, _, rfl, r, c, n, 97 + i, rfl, gd, hci, ?_⟩
      rw [Nat.add_sub_cancel_left]
      refine ⟨_, rfl, _, _, rfl, rfl, _, rfl, _, rfl, by decide +kernel, ?_⟩
      rw [cut_sg (by omega)]
      refine ⟨_, rfl, for_it walk_str (fun j σ G => Same H G ∧ G L = some (.lst (valsV r c row cs ((i * (c + 1) + j) * (c + 1)))) ∧ ∃ u3 u4 : Option V, σ = [some (.int r), some (.int c), some (.int row), some (.ref q), some (.ref L), some (tx [97 + i]), some (tx (dig r c i)), u3, u4]) ⟨s1, g1, _, _, rfl⟩ (fun _ _ _ _ _ => True.intro) ?_ ?_⟩
      · rintro j u σ G0 G hj ⟨s3, g1, u3, u4, rfl⟩ ⟨rfl, y, hy, rfl⟩
        have hy := at_S hy
        have hjs : j < c + 1 := by omega
        have ey : y = sg j := by rw [sgs_at hjs] at hy; exact (Option.some.inj hy).symm
        subst ey
        refine ⟨_, rfl, _, _, rfl, rfl, _, rfl, _, rfl, by decide +kernel, ?_⟩
        rw [cut_sg (by omega)]
        refine ⟨_, rfl, for_it walk_str (fun t σ G => Same H G ∧ G L = some (.lst (valsV r c row cs ((i * (c + 1) + j) * (c + 1) + t))) ∧ ∃ u4 : Option V, σ = [some (.int r), some (.int c), some (.int row), some (.ref q), some (.ref L), some (tx [97 + i]), some (tx (dig r c i)), some (tx [sg j]), u4]) ⟨s3, g1, _, rfl⟩ (fun _ _ _ _ _ => True.intro) ?_ ?_⟩
        · rintro t u σ G0 G ht ⟨s4, g1, u4, rfl⟩ ⟨rfl, g, hg, rfl⟩
          have hg := at_S hg
          have hts : t < c + 1 := by omega
          have eg : g = sg t := by rw [sgs_at hts] at hg; exact (Option.some.inj hg).symm
          subst eg
          have ip := idx_parts (s := c + 1) (x := i) (i := j) (j := t) hjs hts
          have hmt : idx (c + 1) i j t < total n c := idx_lt hin hjs hts
          have eW : W r c row cs (idx (c + 1) i j t) = valOf row cs (sg j) (dig r c i) (sg t) := by
            unfold W
            rw [ip.1, ip.2.1, ip.2.2]
          refine ⟨_, rfl, .inl ⟨rfl, _, seqL_of g1⟩, _, rfl, _, rfl, _, rfl, _, rfl, _, rfl, q, ws, cs, r, c, row, j, t, dig r c i, rfl, s4 _ _ hq, hcl.mono s4, ok, by omega, by omega, h6, ldg, hrow, ?_⟩
          refine ⟨L, _, _, rfl, rfl, g1, by rw [valsV_len]; exact szlt (by have : (i * (c + 1) + j) * (c + 1) + t < total n c := hmt; omega), ex_mut s4 hL, ?_, _, rfl⟩
          rw [upd_same, ← eW]
          exact congrArg (fun z => some (HO.lst z)) (valsV_succ (m := idx (c + 1) i j t)).symm
        · rintro σ G ⟨s4, g1, u4, rfl⟩
          rw [lsgs] at g1
          refine ⟨s4, ?_, _, _, rfl⟩
          rw [g1, show (i * (c + 1) + j) * (c + 1) + (c + 1) = (i * (c + 1) + (j + 1)) * (c + 1) by rw [show i * (c + 1) + (j + 1) = (i * (c + 1) + j) + 1 from rfl, Nat.succ_mul]]
      · rintro σ G ⟨s3, g1, u3, u4, rfl⟩
        rw [lsgs] at g1
        refine ⟨s3, ?_, _, _, _, _, rfl⟩
        rw [g1, show i * (c + 1) + (c + 1) = (i + 1) * (c + 1) by rw [Nat.succ_mul]]
    · rintro σ G ⟨s1, g1, u1, u2, u3, u4, rfl⟩
      rw [lcol] at g1
      exact ⟨_, rfl, z G L s1 hL g1⟩
end
end K23

end
section
set_option Elab.async false
set_option linter.all false
set_option maxRecDepth 100000
set_option maxHeartbeats 4000000
namespace K23
open PySem PySem.Spec PyProof.Rows L2 Kit
section
variable {P : Program} {w : World} {K : PySem.W.Frag} {mg : Str → Option Value} {base : Heap} {a : Ad}
def clD (k : Cl) : D := .tup [.txt k.l, .txt k.h, .txt k.r, .txt [k.new]]
def clsD (cs : List Cl) : D := .lst (cs.map clD)
theorem rps_cls {H : Hp} : ∀ {ws : List V} {cs : List Cl}, ClsL H ws cs → Rps H (cs.map clD) ws
  | [], [], _ => rfl
  | v :: ws, k :: cs, h => by
    obtain ⟨q, hq, hc⟩ := h.2 0 k rfl
    have ev : v = .ref q := Option.some.inj hq
    subst ev
    exact ⟨_, _, rfl, ⟨q, _, rfl, hc, _, _, rfl, rfl, _, _, rfl, rfl, _, _, rfl, rfl, _, _, rfl, rfl, rfl⟩, rps_cls ⟨by have := h.1; simp at this; exact this, fun i x hx => h.2 (i + 1) x hx⟩⟩
  | [], _ :: _, h => absurd h.1 (by simp)
  | _ :: _, [], h => absurd h.1 (by simp)
theorem rp_cls {H : Hp} {q : Addr} {ws : List V} {cs : List Cl} (hq : H q = some (.lst ws)) (h : ClsL H ws cs) : Rp H (clsD cs) (.ref q) := ⟨q, _, rfl, hq, rps_cls h⟩
theorem deeps_cls : ∀ cs : List Cl, deeps (cs.map clD) ≤ 1
  | [] => by show 0 ≤ 1; decide
  | k :: cs => by
    rw [List.map_cons]
    unfold deeps
    have := deeps_cls cs
    have h2 : deep (clD k) = 1 := rfl
    omega
theorem bigs_cls : ∀ cs : List Cl, bigs (cs.map clD) ≤ 4
  | [] => by show 0 ≤ 4; decide
  | k :: cs => by
    rw [List.map_cons]
    unfold bigs
    have := bigs_cls cs
    have h2 : big (clD k) = 4 := rfl
    omega
theorem cls_deep (cs : List Cl) : deep (clsD cs) < 4 := by
  show deeps _ + 1 < 4
  have := deeps_cls cs
  omega
theorem cls_big {cs : List Cl} (h : cs.length ≤ 100) : big (clsD cs) ≤ 10000 := by
  show max _ (bigs _) ≤ 10000
  have := bigs_cls cs
  rw [List.length_map]
  omega
theorem rf_no (s : Addr) (row : Nat) (q d : Addr) {x : Str} (h1 : (x == ("scheme" : Str)) = false) (h2 : (x == ("row" : Str)) = false) (h3 : (x == ("clauses" : Str)) = false) (h4 : (x == ("_news" : Str)) = false) : (rf s row q d).lookup x = none := by
  unfold rf
  rw [List.lookup_cons, h1, List.lookup_cons, h2, List.lookup_cons, h3, List.lookup_cons, h4, List.lookup_nil]
def spHolds (a : Ad) : Sp := fun vs H Q _ => ∃ (p s s2 q : Addr) (ws : List V) (r c n row : Nat) (cs : List Cl), vs = [.ref p, .ref s2, .int r, .int c, .int row, .ref q] ∧ RuleAt a H p s r c n row cs ∧ SchemeAt a.Scheme H s2 r c n ∧ H q = some (.lst ws) ∧ ClsL H ws cs ∧ ∀ G, Same H G → Q (.bl true) G
theorem c_law_holds (T : Txt K mg a) : Can P w K mg base 6 "_law_holds" (spHolds a) := by
  refine can_of T.d_law_holds sc_law_holds bd_law_holds (fun vs H Q E h => ?_) (fun f cdv A outer s0 H vs Q E hr h => ?_)
  · obtain ⟨p, s, s2, q, ws, r, c, n, row, cs, rfl, _⟩ := h
    rfl
  · obtain ⟨p, s, s2, q, ws, r, c, n, row, cs, rfl, ru, sch2, hq, hcl, z⟩ := h
    refine ⟨_, (pss_cons (ps_if (PW.pt (pw_or (pt_not (pt_val (pc_f (c_law_same T) hr (by decide) (by rfl) (pa_cons (kfld K (pv 0)) (pa_cons (pv 4) pa_nil))))) (pw_or1 (pt_not (pt_val (pc_f (c_law_same T) hr (by decide) (by rfl) (pa_cons (kfld K (pv 0)) (pa_cons (pv 5) pa_nil)))))))) (pss_one (ps_ret pe_bl)) pss_nil)
      (pss_cons (ps_if (PW.pt (pw_or (pt_not (pt_val (pc_f (c_law_same T) hr (by decide) (by rfl) (pa_cons (pe_callTy (strO (c_Rule_str T) hr (by decide)) (by rfl) T.b_str (by decide +kernel) (pa_cons (pv 0) pa_nil)) (pa_cons (pc_f (c_law_text T) hr (by decide) (by rfl) (pa_cons (pv 4) (pa_cons (pv 5) pa_nil))) pa_nil))))) (pw_or1 (pt_not (pt_val (pc_f (c_law_same T) hr (by decide) (by rfl) (pa_cons (pe_cmpR (eqO K (c_Scheme_eq T) hr (by decide) T.i_ni T.i_ns) (kfld K (pv 0)) (pv 1) (nomark _)) (pa_cons pe_bl pa_nil)))))))) (pss_one (ps_ret pe_bl)) pss_nil)
      (pss_cons (ps_set (i := 6) sc_law_holds.nd rfl (.inl rfl) (pc_f (c_law_values T) hr (by decide) (by rfl) (pa_cons (pv 2) (pa_cons (pv 3) (pa_cons (pv 4) (pa_cons (pv 5) pa_nil))))))
      (pss_cons (ps_set (i := 7) sc_law_holds.nd rfl (.inl rfl) pe_int)
      (pss_cons (ps_for (passes_of rfl) (by rfl) (pi_str (pe_slice sl_str pe_str po_none (po_some (pc_f (c_law_many T) hr (by decide) (by rfl) (pa_cons (pv 2) (pa_cons (pv 3) pa_nil)))))) (pg_name (i := 8) sc_law_holds.nd rfl (.inl rfl)) (pss_one (ps_for (passes_of rfl) (by rfl) (pi_str (pe_slice sl_str pe_str po_none (po_some (pe_op op_add (pv 3) pe_int)))) (pg_name (i := 9) sc_law_holds.nd rfl (.inl rfl)) (pss_one (ps_for (passes_of rfl) (by rfl) (pi_str (pe_slice sl_str pe_str po_none (po_some (pe_op op_add (pv 3) pe_int)))) (pg_name (i := 10) sc_law_holds.nd rfl (.inl rfl)) (pss_cons (ps_if (pt_not (pt_val (pc_f (c_law_same T) hr (by decide) (by rfl) (pa_cons (pc_m (c_Rule_value T) hr (by decide) (pv 0) (pa_cons (pv 9) (pa_cons (pv 8) (pa_cons (pv 10) pa_nil)))) (pa_cons (pe_ix (kix_list K) (pv 6) (pv 7) (fun _ _ => rfl)) pa_nil))))) (pss_one (ps_ret pe_bl)) pss_nil)
      (pss_one (ps_set (i := 7) sc_law_holds.nd rfl (.inl rfl) (pe_op op_add (pv 7) pe_int)))))))))
      (pss_one (ps_ret pe_bl))))))), ?_⟩
    obtain ⟨dx, q0, d0, ws0, hp, hq0, hcl0, hd0⟩ := ru.ob
    have gn := good_n ru.sch.2
    have gc := good_c ru.sch.2
    have l6 := ru.len
    refine ⟨_, rfl, p, _, dx, _, _, rfl, hp, T.c_Rule.cl, T.y_row, rf_row s row q0 d0, _, rfl, _, _, .int row, rfl, rfl, rfl, by show 0 < 4; decide, by show 0 ≤ 10000; decide, _, rfl, iteF ?_⟩
    refine ⟨_, rfl, p, _, dx, _, _, rfl, hp, T.c_Rule.cl, T.y_clauses, rf_clauses s row q0 d0, _, rfl, _, _, clsD cs, rfl, rp_cls hq0 hcl0, rp_cls hq hcl, cls_deep cs, cls_big (by omega), _, rfl, iteF ?_⟩
    refine ⟨_, rfl, p, dx, _, rfl, hp, p, s, r, c, n, row, cs, rfl, ru, fun G1 s1 => ⟨_, rfl, ?_⟩⟩
    have tt : deep (.txt (rtx row cs)) < 4 := by show 0 < 4; decide
    have tb : big (.txt (rtx row cs)) ≤ 10000 := by show 0 ≤ 10000; decide
    have hrw := ru.row
    refine ⟨_, rfl, _, rfl, q, ws, cs.map toRc, row, rfl, s1 _ _ hq, cls_rcs (hcl.mono s1), cls_small (by omega) (by omega) ru.ok, by rw [List.length_map]; omega, by omega, fun G2 e2 => ?_⟩
    rw [← rtx_eq]
    refine ⟨_, _, .txt (rtx row cs), rfl, rfl, rfl, tt, tb, _, rfl, iteF ?_⟩
    have s12 := s1.trans e2
    have ru2 := ru.mono s12
    obtain ⟨sx, hs⟩ := ru2.sch.1
    obtain ⟨sx2, hs2⟩ := (sch2.mono s12).1
    refine ⟨_, rfl, p, _, dx, _, _, rfl, s12 _ _ hp, T.c_Rule.cl, T.y_scheme, rf_scheme s row q0 d0, _, rfl, ?_⟩
    refine ⟨s, sx, _, rfl, hs, .inr (.inr ⟨s2, sx2, _, rfl, hs2⟩), s, r, c, n, .ref s2, rfl, ru2.sch, .inr (.inr ⟨s2, r, c, n, rfl, sch2.mono s12, _, rfl, ?_⟩)⟩
    rw [decide_eq_true rfl, decide_eq_true rfl]
    refine ⟨_, _, .bl true, rfl, rfl, rfl, by show 0 < 4; decide, by show 0 ≤ 10000; decide, _, rfl, iteF ?_⟩
    refine ⟨_, rfl, _, rfl, _, rfl, _, rfl, q, ws, cs, r, c, n, row, rfl, ru.sch.2, ru.row, s12 _ _ hq, hcl.mono s12, ru.ok, l6, fun G3 L s3 fL hL => ?_⟩
    have s13 := s12.trans s3
    have ru3 := ru2.mono s3
    have lcol : (S (cols n)).cps.size = n := by show (S (cols n)).length = n; rw [S_len, cols_len]
    have lsgs : (S (sgs (c + 1))).cps.size = c + 1 := by show (S (sgs (c + 1))).length = _; rw [S_len, sgs_len]
    have tle := total_le gn.1 gc
    refine ⟨_, rfl, _, rfl, r, c, rfl, by omega, by omega, ?_⟩
    rw [good_pow ru.sch.2]
    refine ⟨_, rfl, _, rfl, by decide +kernel, ?_⟩
    rw [cut_let gn.1]
    refine ⟨_, rfl, for_it walk_str (fun i σ G => Same G3 G ∧ ∃ u1 u2 u3 : Option V, σ = [some (.ref p), some (.ref s2), some (.int r), some (.int c), some (.int row), some (.ref q), some (.ref L), some (.int ((i * (c + 1) * (c + 1) : Nat) : Int)), u1, u2, u3]) ⟨.refl _, none, none, none, by rw [Nat.zero_mul, Nat.zero_mul]; rfl⟩ (fun _ _ _ _ _ => True.intro) ?_ ?_⟩
    · rintro i u σ G0 G hi ⟨t1, u1, u2, u3, rfl⟩ ⟨rfl, x, hx, rfl⟩
      have hx := at_S hx
      have hin : i < n := by omega
      have ex : x = 97 + i := by
        unfold cols at hx
        rw [List.getElem?_map, List.getElem?_range hin] at hx
        exact (Option.some.inj hx).symm
      have hci : inCol n x = true := mem_cols.mp (List.mem_of_getElem? hx)
      subst ex
      refine ⟨_, rfl, _, _, rfl, rfl, _, rfl, _, rfl, by decide +kernel, ?_⟩
      rw [cut_sg (by omega)]
      refine ⟨_, rfl, for_it walk_str (fun j σ G => Same G3 G ∧ ∃ u2 u3 : Option V, σ = [some (.ref p), some (.ref s2), some (.int r), some (.int c), some (.int row), some (.ref q), some (.ref L), some (.int (((i * (c + 1) + j) * (c + 1) : Nat) : Int)), some (tx [97 + i]), u2, u3]) ⟨t1, _, _, rfl⟩ (fun _ _ _ _ _ => True.intro) ?_ ?_⟩
      · rintro j u σ G0 G hj ⟨t2, u2, u3, rfl⟩ ⟨rfl, y, hy, rfl⟩
        have hy := at_S hy
        have hjs : j < c + 1 := by omega
        have ey : y = sg j := by rw [sgs_at hjs] at hy; exact (Option.some.inj hy).symm
        subst ey
        refine ⟨_, rfl, _, _, rfl, rfl, _, rfl, _, rfl, by decide +kernel, ?_⟩
        rw [cut_sg (by omega)]
        refine ⟨_, rfl, for_it walk_str (fun t σ G => Same G3 G ∧ ∃ u3 : Option V, σ = [some (.ref p), some (.ref s2), some (.int r), some (.int c), some (.int row), some (.ref q), some (.ref L), some (.int (((i * (c + 1) + j) * (c + 1) + t : Nat) : Int)), some (tx [97 + i]), some (tx [sg j]), u3]) ⟨t2, _, rfl⟩ (fun _ _ _ _ _ => True.intro) ?_ ?_⟩
        · rintro t u σ G0 G ht ⟨t3, u3, rfl⟩ ⟨rfl, g, hg, rfl⟩
          have hg := at_S hg
          have hts : t < c + 1 := by omega
          have eg : g = sg t := by rw [sgs_at hts] at hg; exact (Option.some.inj hg).symm
          subst eg
          have ip := idx_parts (s := c + 1) (x := i) (i := j) (j := t) hjs hts
          have hmt : idx (c + 1) i j t < total n c := idx_lt hin hjs hts
          have eW : W r c row cs (idx (c + 1) i j t) = valOf row cs (sg j) (dig r c i) (sg t) := by
            unfold W
            rw [ip.1, ip.2.1, ip.2.2]
          have sgB : ∀ k < c + 1, signB c [sg k] = true := fun k hk => by
            unfold signB
            by_cases h0 : k = 0
            · subst h0; rfl
            · rw [isColour_one, sg_big (by omega)]
              have : inDig c (47 + k) = true := by unfold inDig; rw [decide_eq_true_iff]; omega
              rw [this, Bool.or_true]
          have ru4 := ru3.mono t3
          have hp4 := t3 _ _ (s13 _ _ hp)
          have b1 := sgB j hjs
          have b2 := sgB t hts
          have b3 := isCol_mk hci
          refine ⟨_, rfl, p, dx, _, rfl, hp4, rf_no _ _ _ _ (by decide +kernel) (by decide +kernel) (by decide +kernel) (by decide +kernel), _, rfl, _, rfl, _, rfl, p, s, r, c, n, row, cs, [sg j], [97 + i], [sg t], rfl, ru4, by show 1 ≤ 1000; decide, by show 1 ≤ 1000; decide, by show 1 ≤ 1000; decide, (fun h => by rw [b1] at h; cases h), (fun _ h => by rw [b3] at h; cases h), (fun _ _ h => by rw [b2] at h; cases h), fun _ _ _ G4 t4 => ?_⟩
          have hL4 : G4 L = some (.lst (valsV r c row cs (total n c))) := t4 _ _ (t3 _ _ hL)
          have hix : (valsV r c row cs (total n c))[(i * (c + 1) + j) * (c + 1) + t]? = some (tx [W r c row cs (idx (c + 1) i j t)]) := by
            unfold valsV
            rw [List.getElem?_map, List.getElem?_range (show (i * (c + 1) + j) * (c + 1) + t < total n c from hmt)]
            rfl
          have ev : valOf row cs ([sg j].headD 0) (dig r c ([97 + i].headD 0 - 97)) ([sg t].headD 0) = W r c row cs (idx (c + 1) i j t) := by
            rw [eW]
            show valOf row cs (sg j) (dig r c (97 + i - 97)) (sg t) = _
            rw [Nat.add_sub_cancel_left]
          rw [ev]
          refine ⟨_, rfl, _, rfl, L, _, _, _, rfl, rfl, seqL_of hL4, atI_nat hix, _, _, .txt [W r c row cs (idx (c + 1) i j t)], rfl, rfl, rfl, by show 0 < 4; decide, by show 0 ≤ 10000; decide, _, rfl, iteF ?_⟩
          refine ⟨_, rfl, _, _, rfl, rfl, t3.trans t4, some (tx [sg t]), ?_⟩
          rfl
        · rintro σ G ⟨t3, u3, rfl⟩
          rw [lsgs]
          refine ⟨t3, some (tx [sg j]), u3, ?_⟩
          rw [show (i * (c + 1) + j) * (c + 1) + (c + 1) = (i * (c + 1) + (j + 1)) * (c + 1) by rw [show i * (c + 1) + (j + 1) = (i * (c + 1) + j) + 1 from rfl, Nat.succ_mul]]
      · rintro σ G ⟨t2, u2, u3, rfl⟩
        rw [lsgs]
        refine ⟨t2, some (tx [97 + i]), u2, u3, ?_⟩
        rw [show i * (c + 1) + (c + 1) = (i + 1) * (c + 1) by rw [Nat.succ_mul]]
    · rintro σ G ⟨t1, u1, u2, u3, rfl⟩
      exact z G (s13.trans t1)
end
end K23

end
section
set_option Elab.async false
set_option linter.all false
set_option maxRecDepth 100000
set_option maxHeartbeats 4000000
namespace K23
open PySem PySem.Spec PyProof.Rows L2 Kit
section
variable {P : Program} {w : World} {K : PySem.W.Frag} {mg : Str → Option Value} {base : Heap} {a : Ad}
/-- sides that are wrong -/
def badSides (c : Nat) : List (List Nat) := [[], [49, 48], [48, 48], [48, 35], [35, 35], [48 + c], [97], [35, 49, 35], [48, 49, 32]]
theorem bad_sides {c : Nat} (hc : c = 2 ∨ c = 3) : ∀ l ∈ badSides c, sideB c l = false ∧ l.length ≤ 3 := by
  rcases hc with rfl | rfl <;> decide +kernel
/-- texts without any of the signs that part a written form -/
def noSep (l : List Nat) : Bool := (l.all fun x => decide (x ≠ 44 ∧ x ≠ 58 ∧ x ≠ 59 ∧ x ≠ 62)) && decide (l.length ≤ 5)
theorem bad_sides_no {c : Nat} (hc : c = 2 ∨ c = 3) : ∀ l ∈ badSides c, noSep l = true := by
  rcases hc with rfl | rfl <;> decide +kernel
def spBadSide : Sp := fun vs H Q _ => ∃ (b : Addr) (c k : Nat), vs = [.ref b, .int c] ∧ (c = 2 ∨ c = 3) ∧ BoxAt (k + 1) H b ∧ ∀ l G, l ∈ badSides c → Bu k b H G → Q (tx l) G
theorem c_law_bad_side (T : Txt K mg a) : Can P w K mg base 2 "_law_bad_side" spBadSide := by
  refine can_of T.d_law_bad_side sc_law_bad_side bd_law_bad_side (fun vs H Q E h => ?_) (fun f cdv A outer s H vs Q E hr h => ?_)
  · obtain ⟨b, c, k, rfl, _⟩ := h
    rfl
  · obtain ⟨b, c, k, rfl, gc, hb, z⟩ := h
    refine ⟨_, (pss_one (ps_ret (pe_ix (kix_list K) (pe_lst (pa_cons pe_str (pa_cons pe_str (pa_cons pe_str (pa_cons pe_str (pa_cons pe_str (pa_cons (pe_callTy call_str_int (by rfl) T.b_str (by decide +kernel) (pa_cons (pv 1) pa_nil)) (pa_cons pe_str (pa_cons pe_str (pa_cons pe_str pa_nil)))))))))) (pc_f (c_law_take T) hr (by decide) (by rfl) (pa_cons (pv 0) (pa_cons pe_int pa_nil))) (fun _ _ => rfl)))), ?_⟩
    have lg : ((c : Nat) : Int).natAbs.log2 < 1920 := by rcases gc with rfl | rfl <;> decide +kernel
    refine ⟨_, rfl, _, rfl, lg, ?_⟩
    have es : Str.ofString (toString ((c : Nat) : Int)) = S [48 + c] := by rcases gc with rfl | rfl <;> decide +kernel
    rw [es]
    refine ⟨by show 9 ≤ sizeLine; decide, fun q hq => ⟨_, rfl, b, 9, k, rfl, hb.mono (ex_new hq), by decide, by decide, fun d G d0 d1 bu => ?_⟩⟩
    have nq := box_ne hb hq
    obtain ⟨l, hl, hm⟩ : ∃ l, atI [V.str (Str.ofString ""), .str (Str.ofString "10"), .str (Str.ofString "00"), .str (Str.ofString "0#"), .str (Str.ofString "##"), .str (S [48 + c]), .str (Str.ofString "a"), .str (Str.ofString "#1#"), .str (Str.ofString "01 ")] d = some (tx l) ∧ l ∈ badSides c := by
      rcases (show d = 0 ∨ d = 1 ∨ d = 2 ∨ d = 3 ∨ d = 4 ∨ d = 5 ∨ d = 6 ∨ d = 7 ∨ d = 8 by omega) with rfl | rfl | rfl | rfl | rfl | rfl | rfl | rfl | rfl
      · exact ⟨[], congrArg (fun z => some (V.str z)) (by decide +kernel), by simp [badSides]⟩
      · exact ⟨[49, 48], congrArg (fun z => some (V.str z)) (by decide +kernel), by simp [badSides]⟩
      · exact ⟨[48, 48], congrArg (fun z => some (V.str z)) (by decide +kernel), by simp [badSides]⟩
      · exact ⟨[48, 35], congrArg (fun z => some (V.str z)) (by decide +kernel), by simp [badSides]⟩
      · exact ⟨[35, 35], congrArg (fun z => some (V.str z)) (by decide +kernel), by simp [badSides]⟩
      · exact ⟨[48 + c], rfl, by simp [badSides]⟩
      · exact ⟨[97], congrArg (fun z => some (V.str z)) (by decide +kernel), by simp [badSides]⟩
      · exact ⟨[35, 49, 35], congrArg (fun z => some (V.str z)) (by decide +kernel), by simp [badSides]⟩
      · exact ⟨[48, 49, 32], congrArg (fun z => some (V.str z)) (by decide +kernel), by simp [badSides]⟩
    exact ⟨q, _, _, _, rfl, rfl, seqL_of (bu.1 q _ upd_same nq), hl, z l G hm (same_bu (ex_new hq) bu)⟩
/-- spots that are wrong -/
def nearL (r : Nat) : List Nat := List.replicate (r - 1) 46
def badHeres (r c : Nat) : List (List Nat) := [nearL r ++ [46, 46], nearL r, nearL r ++ [35], [48 + c] ++ nearL r, nearL r ++ [97], [], nearL r ++ [32]]
theorem bad_heres {r c n : Nat} (g : Good r c n) : ∀ h ∈ badHeres r c, hereB r c h = false ∧ h.length ≤ 5 := by
  have gn := good_n g
  have gc := good_c g
  rcases (show r = 1 ∨ r = 2 ∨ r = 3 by omega) with rfl | rfl | rfl <;> rcases gc with rfl | rfl <;> decide +kernel
theorem bad_heres_no {r c n : Nat} (g : Good r c n) : ∀ h ∈ badHeres r c, noSep h = true := by
  have gn := good_n g
  have gc := good_c g
  rcases (show r = 1 ∨ r = 2 ∨ r = 3 by omega) with rfl | rfl | rfl <;> rcases gc with rfl | rfl <;> decide +kernel
def RcClean (k : RC) : Prop := noSep k.l = true ∧ noSep k.h = true ∧ noSep k.r = true ∧ noSep k.x = true
theorem noSep_iff {l : List Nat} : noSep l = true ↔ (∀ x ∈ l, x ≠ 44 ∧ x ≠ 58 ∧ x ≠ 59 ∧ x ≠ 62) ∧ l.length ≤ 5 := by
  unfold noSep
  rw [Bool.and_eq_true, decide_eq_true_iff, List.all_eq_true]
  exact and_congr_left' ⟨fun h x hx => of_decide_eq_true (h x hx), fun h x hx => decide_eq_true (h x hx)⟩
theorem ok_clean {r c : Nat} {k : Cl} (hr : r ≤ 3) (hc : c ≤ 3) (h : okCl r c k) : RcClean (toRc k) := by
  have side : ∀ {l : List Nat}, okSide c l → noSep l = true := fun {l} s => noSep_iff.mpr ⟨fun x hx => by
    obtain ⟨i, hi, e⟩ := s.mem hx
    unfold sg at e
    split at e <;> omega, by have := s.len; omega⟩
  refine ⟨side h.l, noSep_iff.mpr ⟨fun x hx => ?_, by have := h.hl; show k.h.length ≤ 5; omega⟩, side h.r, noSep_iff.mpr ⟨fun x hx => ?_, by show 1 ≤ 5; decide⟩⟩
  · rcases h.h x hx with e | e
    · omega
    · unfold inDig at e
      rw [decide_eq_true_iff] at e
      omega
  · have e : x = k.new := List.mem_singleton.mp hx
    have := h.non hc
    omega
def spBadHere : Sp := fun vs H Q _ => ∃ (b : Addr) (r c n k : Nat), vs = [.ref b, .int r, .int c] ∧ Good r c n ∧ BoxAt (k + 1) H b ∧ ∀ l G, l ∈ badHeres r c → Bu k b H G → Q (tx l) G
theorem c_law_bad_here (T : Txt K mg a) : Can P w K mg base 2 "_law_bad_here" spBadHere := by
  refine can_of T.d_law_bad_here sc_law_bad_here bd_law_bad_here (fun vs H Q E h => ?_) (fun f cdv A outer s H vs Q E hr h => ?_)
  · obtain ⟨b, r, c, n, k, rfl, _⟩ := h
    rfl
  · obtain ⟨b, r, c, n, k, rfl, gd, hb, z⟩ := h
    refine ⟨_, (pss_cons (ps_set (i := 3) sc_law_bad_here.nd rfl (.inl rfl) (pe_op op_repS pe_str (pe_op op_sub (pv 1) pe_int)))
      (pss_one (ps_ret (pe_ix (kix_list K) (pe_lst (pa_cons (pe_op op_add_str (pv 3) pe_str) (pa_cons (pv 3) (pa_cons (pe_op op_add_str (pv 3) pe_str) (pa_cons (pe_op op_add_str (pe_callTy call_str_int (by rfl) T.b_str (by decide +kernel) (pa_cons (pv 2) pa_nil)) (pv 3)) (pa_cons (pe_op op_add_str (pv 3) pe_str) (pa_cons pe_str (pa_cons (pe_op op_add_str (pv 3) pe_str) pa_nil)))))))) (pc_f (c_law_take T) hr (by decide) (by rfl) (pa_cons (pv 0) (pa_cons pe_int pa_nil))) (fun _ _ => rfl))))), ?_⟩
    have gn := good_n gd
    have gc := good_c gd
    have mok : MulOk (Str.ofString ".") ((r : Int) - 1) := by
      rw [show (r : Int) - 1 = ((r - 1 : Nat) : Int) by omega]
      exact mulOk_of 1 10 (by decide +kernel) (by omega) (by omega) (by decide) (by decide)
    have em : Txt.mul (Str.ofString ".") ((r : Int) - 1) = S (nearL r) := by
      rcases (show r = 1 ∨ r = 2 ∨ r = 3 by omega) with rfl | rfl | rfl <;> decide +kernel
    have ln : (nearL r).length ≤ 2 := by unfold nearL; rw [List.length_replicate]; omega
    have lg : ((c : Nat) : Int).natAbs.log2 < 1920 := by rcases gc with rfl | rfl <;> decide +kernel
    have es : Str.ofString (toString ((c : Nat) : Int)) = S [48 + c] := by rcases gc with rfl | rfl <;> decide +kernel
    refine ⟨_, rfl, _, _, rfl, rfl, _, _, rfl, rfl, mok, ?_⟩
    rw [em]
    have hz : ∀ l m : List Nat, l.length ≤ 10 → m.length ≤ 10 → (S l).length + (S m).length ≤ sizeLine := fun l m h k => by rw [S_len, S_len]; exact szl (by omega)
    have e1 : Str.ofString ".." = S [46, 46] := by decide +kernel
    have e2 : Str.ofString "#" = S [35] := by decide +kernel
    have e3 : Str.ofString "a" = S [97] := by decide +kernel
    have e4 : Str.ofString " " = S [32] := by decide +kernel
    have e5 : Str.ofString "" = S [] := by decide +kernel
    refine ⟨_, rfl, _, _, rfl, rfl, by rw [e1]; exact hz _ _ (by omega) (by decide), ?_⟩
    rw [e1, S_app]
    refine ⟨_, rfl, _, rfl, _, _, rfl, rfl, by rw [e2]; exact hz _ _ (by omega) (by decide), ?_⟩
    rw [e2, S_app]
    refine ⟨_, rfl, _, rfl, lg, ?_⟩
    rw [es]
    refine ⟨_, rfl, _, _, rfl, rfl, hz _ _ (by show 1 ≤ 10; decide) (by omega), ?_⟩
    rw [S_app]
    refine ⟨_, rfl, _, _, rfl, rfl, by rw [e3]; exact hz _ _ (by omega) (by decide), ?_⟩
    rw [e3, S_app]
    refine ⟨_, rfl, _, _, rfl, rfl, by rw [e4]; exact hz _ _ (by omega) (by decide), ?_⟩
    rw [e4, S_app, e5]
    refine ⟨by show 7 ≤ sizeLine; decide, fun q hq => ⟨_, rfl, b, 7, k, rfl, hb.mono (ex_new hq), by decide, by decide, fun d G d0 d1 bu => ?_⟩⟩
    have nq := box_ne hb hq
    obtain ⟨l, hl, hm⟩ : ∃ l, atI [V.str (S (nearL r ++ [46, 46])), .str (S (nearL r)), .str (S (nearL r ++ [35])), .str (S ([48 + c] ++ nearL r)), .str (S (nearL r ++ [97])), .str (S []), .str (S (nearL r ++ [32]))] d = some (tx l) ∧ l ∈ badHeres r c := by
      rcases (show d = 0 ∨ d = 1 ∨ d = 2 ∨ d = 3 ∨ d = 4 ∨ d = 5 ∨ d = 6 by omega) with rfl | rfl | rfl | rfl | rfl | rfl | rfl
      · exact ⟨_, rfl, by simp [badHeres]⟩
      · exact ⟨_, rfl, by simp [badHeres]⟩
      · exact ⟨_, rfl, by simp [badHeres]⟩
      · exact ⟨_, rfl, by simp [badHeres]⟩
      · exact ⟨_, rfl, by simp [badHeres]⟩
      · exact ⟨_, rfl, by simp [badHeres]⟩
      · exact ⟨_, rfl, by simp [badHeres]⟩
    exact ⟨q, _, _, _, rfl, rfl, seqL_of (bu.1 q _ upd_same nq), hl, z l G hm (same_bu (ex_new hq) bu)⟩
end
end K23

end
section
set_option Elab.async false
set_option linter.all false
set_option maxRecDepth 100000
set_option maxHeartbeats 4000000
namespace K23
open PySem PySem.Spec PyProof.Rows L2 Kit
section
variable {P : Program} {w : World} {K : PySem.W.Frag} {mg : Str → Option Value} {base : Heap} {a : Ad}
def newBad (c : Nat) : List (List Nat) := [[], [48, 49], [48 + c], [35], [46], [48, 48], [32]]
theorem new_no {c : Nat} (hc : c = 2 ∨ c = 3) : ∀ l ∈ newBad c, noSep l = true := by
  rcases hc with rfl | rfl <;> decide +kernel
theorem new_bad {c : Nat} (hc : c = 2 ∨ c = 3) : ∀ l ∈ newBad c, isColour c l = false ∧ l.length ≤ 2 := by
  rcases hc with rfl | rfl <;> decide +kernel
def spBent : Sp := fun vs H Q _ => ∃ (b p : Addr) (r c n k : Nat) (cl : Cl), vs = [.ref b, .ref p, .int r, .int c] ∧ Good r c n ∧ BoxAt (k + 5) H b ∧ ClAt H p cl ∧ okCl r c cl ∧ ∀ q u x t G, wrongP r c x = some t → RcSmall x → RcClean x → H q = none → G q = some (.tup [.ref u, .str (Str.ofString t)]) → RcAt G u x → Bu k b H G → Q (.ref q) G
theorem c_law_bent (T : Txt K mg a) : Can P w K mg base 3 "_law_bent" spBent := by
  refine can_of T.d_law_bent sc_law_bent bd_law_bent (fun vs H Q E h => ?_) (fun f cdv A outer s H vs Q E hr h => ?_)
  · obtain ⟨b, p, r, c, n, k, cl, rfl, _⟩ := h
    rfl
  · obtain ⟨b, p, r, c, n, k, cl, rfl, gd, hb, hp, ok, z⟩ := h
    refine ⟨_, (pss_cons (ps_set (i := 4) sc_law_bent.nd rfl (.inl rfl) (pe_op op_add pe_int (pc_f (c_law_take T) hr (by decide) (by rfl) (pa_cons (pv 0) (pa_cons pe_int pa_nil)))))
      (pss_cons (ps_asg (pv 1) (pg_tup rfl (pgs_cons (pg_name (i := 5) sc_law_bent.nd rfl (.inl rfl)) (pgs_cons (pg_name (i := 6) sc_law_bent.nd rfl (.inl rfl)) (pgs_cons (pg_name (i := 7) sc_law_bent.nd rfl (.inl rfl)) (pgs_cons (pg_name (i := 8) sc_law_bent.nd rfl (.inl rfl)) pgs_nil))))))
      (pss_cons (ps_set (i := 9) sc_law_bent.nd rfl (.inl rfl) pe_str)
      (C8.pss_cut (ps_if (pt_cmpR op_eq (pe_op op_fdivN (pv 4) pe_int) pe_int (nomark _)) (pss_cons (ps_set (i := 8) sc_law_bent.nd rfl (.inl rfl) (pe_ix (kix_list K) (pe_lst (pa_cons pe_str (pa_cons pe_str (pa_cons (pe_callTy call_str_int (by rfl) T.b_str (by decide +kernel) (pa_cons (pv 3) pa_nil)) (pa_cons pe_str (pa_cons pe_str (pa_cons pe_str (pa_cons pe_str pa_nil)))))))) (pc_f (c_law_take T) hr (by decide) (by rfl) (pa_cons (pv 0) (pa_cons pe_int pa_nil))) (fun _ _ => rfl)))
      (pss_one (ps_set (i := 9) sc_law_bent.nd rfl (.inl rfl) pe_str))) pss_nil)
      (C8.pss_cut (ps_if (pt_cmpR op_eq (pe_op op_modN (pe_callTy call_int1 (by rfl) T.b_int (by decide +kernel) (pa_cons (pe_op op_fdivN (pv 4) pe_int) pa_nil)) pe_int) pe_int (nomark _)) (pss_cons (ps_set (i := 7) sc_law_bent.nd rfl (.inl rfl) (pc_f (c_law_bad_side T) hr (by decide) (by rfl) (pa_cons (pv 0) (pa_cons (pv 3) pa_nil))))
      (pss_one (ps_set (i := 9) sc_law_bent.nd rfl (.inl rfl) pe_str))) pss_nil)
      (C8.pss_cut (ps_if (pt_cmpR op_eq (pe_op op_modN (pe_callTy call_int1 (by rfl) T.b_int (by decide +kernel) (pa_cons (pe_op op_fdivN (pv 4) pe_int) pa_nil)) pe_int) pe_int (nomark _)) (pss_cons (ps_set (i := 6) sc_law_bent.nd rfl (.inl rfl) (pc_f (c_law_bad_here T) hr (by decide) (by rfl) (pa_cons (pv 0) (pa_cons (pv 2) (pa_cons (pv 3) pa_nil)))))
      (pss_one (ps_set (i := 9) sc_law_bent.nd rfl (.inl rfl) pe_str))) pss_nil)
      (C8.pss_cut (ps_if (pt_cmpR op_eq (pe_op op_modN (pe_callTy call_int1 (by rfl) T.b_int (by decide +kernel) (pa_cons (pv 4) pa_nil)) pe_int) pe_int (nomark _)) (pss_cons (ps_set (i := 5) sc_law_bent.nd rfl (.inl rfl) (pc_f (c_law_bad_side T) hr (by decide) (by rfl) (pa_cons (pv 0) (pa_cons (pv 3) pa_nil))))
      (pss_one (ps_set (i := 9) sc_law_bent.nd rfl (.inl rfl) pe_str))) pss_nil)
      (pss_one (ps_ret (pe_tup (pa_cons (pe_tup (pa_cons (pv 5) (pa_cons (pv 6) (pa_cons (pv 7) (pa_cons (pv 8) pa_nil))))) (pa_cons (pv 9) pa_nil)))))))))))), ?_⟩
    unfold ClAt at hp
    have gn := good_n gd
    have gc := good_c gd
    have ol := sideB_iff.mpr ok.l
    have os := sideB_iff.mpr ok.r
    have oh : hereB r c cl.h = true := by
      unfold hereB
      rw [Bool.and_eq_true, decide_eq_true_iff, List.all_eq_true]
      refine ⟨ok.hl, fun x hx => ?_⟩
      rw [Bool.or_eq_true, decide_eq_true_iff]
      exact ok.h x hx
    have okc := ok_clean (by omega) (by omega) ok
    obtain ⟨m1, m2, m3, m4⟩ := ok_small (by omega) (by omega) ok
    have m1 : cl.l.length < 64 := m1
    have m2 : cl.h.length ≤ 1000 := m2
    have m3 : cl.r.length < 64 := m3
    refine ⟨_, rfl, b, 15, k + 4, rfl, hb, by decide, by decide, fun d G d0 d1 bu => ?_⟩
    refine ⟨_, _, rfl, rfl, ?_⟩
    obtain ⟨wn, hwn, w0, w1⟩ : ∃ x : Nat, 1 + d = (x : Nat) ∧ 0 < x ∧ x < 16 := ⟨(1 + d).toNat, by omega, by omega, by omega⟩
    rw [show (fun i j : Int => V.int (i + j)) 1 d = V.int wn from congrArg V.int hwn]
    have hp1 := tup_bu hp hb bu
    refine ⟨_, rfl, p, _, rfl, seqT_of hp1, rfl, _, _, rfl, _, _, rfl, _, _, rfl, _, _, rfl, rfl, ?_⟩
    have q8 : ∀ {m : Nat}, decide (V.int (((wn : Nat) : Int).fdiv 8) = V.int 1) = decide (wn / 8 = 1) := fun {m} => by
      rw [show (8 : Int) = ((8 : Nat) : Int) from rfl, fd, decide_eq_decide]
      exact ⟨fun h => by injection h with h; omega, fun h => by rw [h]; rfl⟩
    have qm : ∀ m : Nat, decide (V.int (((m : Nat) : Int).fmod 2) = V.int 1) = decide (m % 2 = 1) := fun m => by
      rw [show (2 : Int) = ((2 : Nat) : Int) from rfl, fm, decide_eq_decide]
      exact ⟨fun h => by injection h with h; omega, fun h => by rw [h]; rfl⟩
    refine ⟨fun σ G => ∃ (x : RC) (pt : Option String), Bu (k + 3) b H G ∧ x.l = cl.l ∧ x.h = cl.h ∧ x.r = cl.r ∧ RcSmall x ∧ RcClean x ∧ wrongP r c x = pt ∧ (wn / 8 = 1 → pt ≠ none) ∧ σ = [some (.ref b), some (.ref p), some (.int (r : Nat)), some (.int (c : Nat)), some (.int (wn : Nat)), some (tx x.l), some (tx x.h), some (tx x.r), some (tx x.x), some (.str (Str.ofString (pt.getD "")))], ?_, ?_⟩
    · refine ⟨_, rfl, _, _, rfl, rfl, ⟨by decide, by decide⟩, rfl, _, rfl, ?_⟩
      show if decide (V.int (((wn : Nat) : Int).fdiv 8) = V.int 1) = true then _ else _
      rw [q8 (m := 0)]
      have lg : ((c : Nat) : Int).natAbs.log2 < 1920 := by rcases gc with rfl | rfl <;> decide +kernel
      have es : Str.ofString (toString ((c : Nat) : Int)) = S [48 + c] := by rcases gc with rfl | rfl <;> decide +kernel
      by_cases hb8 : wn / 8 = 1
      · rw [decide_eq_true hb8]
        refine iteT ⟨_, rfl, _, rfl, lg, ?_⟩
        rw [es]
        refine ⟨by show 7 ≤ sizeLine; decide, fun q hq => ⟨_, rfl, b, 7, k + 3, rfl, (bu.put2 hq).box, by decide, by decide, fun e G2 e0 e1 bu2 => ?_⟩⟩
        have nq := box_ne bu.box hq
        obtain ⟨l, hl, hm⟩ : ∃ l, atI [V.str (Str.ofString ""), .str (Str.ofString "01"), .str (S [48 + c]), .str (Str.ofString "#"), .str (Str.ofString "."), .str (Str.ofString "00"), .str (Str.ofString " ")] e = some (tx l) ∧ l ∈ newBad c := by
          rcases (show e = 0 ∨ e = 1 ∨ e = 2 ∨ e = 3 ∨ e = 4 ∨ e = 5 ∨ e = 6 by omega) with rfl | rfl | rfl | rfl | rfl | rfl | rfl
          · exact ⟨[], congrArg (fun z => some (V.str z)) (by decide +kernel), by simp [newBad]⟩
          · exact ⟨[48, 49], congrArg (fun z => some (V.str z)) (by decide +kernel), by simp [newBad]⟩
          · exact ⟨[48 + c], rfl, by simp [newBad]⟩
          · exact ⟨[35], congrArg (fun z => some (V.str z)) (by decide +kernel), by simp [newBad]⟩
          · exact ⟨[46], congrArg (fun z => some (V.str z)) (by decide +kernel), by simp [newBad]⟩
          · exact ⟨[48, 48], congrArg (fun z => some (V.str z)) (by decide +kernel), by simp [newBad]⟩
          · exact ⟨[32], congrArg (fun z => some (V.str z)) (by decide +kernel), by simp [newBad]⟩
        obtain ⟨n1, n2⟩ := new_bad gc l hm
        refine ⟨q, _, _, _, rfl, rfl, seqL_of (bu2.1 q _ upd_same nq), hl, ⟨cl.l, cl.h, cl.r, l⟩, some "new", (bu.put2 hq).trans bu2, rfl, rfl, rfl, ⟨m1, m2, m3, by show l.length ≤ 1000; omega⟩, ⟨okc.1, okc.2.1, okc.2.2.1, new_no gc l hm⟩, ?_, fun _ => by simp, rfl⟩
        show (if sideB c cl.l = true then (if hereB r c cl.h = true then (if sideB c cl.r = true then (if isColour c l = true then none else some "new") else some "right") else some "here") else some "left") = _
        rw [if_pos ol, if_pos oh, if_pos os, if_neg (by rw [n1]; decide)]
      · rw [decide_eq_false hb8]
        exact iteF ⟨toRc cl, none, bu.le (by omega), rfl, rfl, rfl, ⟨m1, m2, m3, m4⟩, okc, ok_wrong ok, fun h => absurd h hb8, rfl⟩
    · rintro σ G2 ⟨x, pt, bu2, h1, h2, h3, sm, cn, hw, hb8, rfl⟩
      refine ⟨fun σ G => ∃ (x : RC) (pt : Option String), Bu (k + 2) b H G ∧ x.l = cl.l ∧ x.h = cl.h ∧ RcSmall x ∧ RcClean x ∧ wrongP r c x = pt ∧ ((wn / 8 = 1 ∨ wn / 4 % 2 = 1) → pt ≠ none) ∧ σ = [some (.ref b), some (.ref p), some (.int (r : Nat)), some (.int (c : Nat)), some (.int (wn : Nat)), some (tx x.l), some (tx x.h), some (tx x.r), some (tx x.x), some (.str (Str.ofString (pt.getD "")))], ?_, ?_⟩
      · have qx : decide (V.int ((((wn : Nat) : Int).fdiv 4).fmod 2) = V.int 1) = decide (wn / 4 % 2 = 1) := by
          rw [show (4 : Int) = ((4 : Nat) : Int) from rfl, fd]
          exact qm _
        refine ⟨_, rfl, _, _, rfl, rfl, ⟨by decide, by decide⟩, .inl ⟨_, rfl, _, _, rfl, rfl, (by decide : (2 : Int) ≠ 0), rfl, _, rfl, ?_⟩⟩
        show if decide (V.int ((((wn : Nat) : Int).fdiv 4).fmod 2) = V.int 1) = true then _ else _
        rw [qx]
        by_cases hn : wn / 4 % 2 = 1
        · rw [decide_eq_true hn]
          refine iteT ⟨_, rfl, _, rfl, b, c, k + 2, rfl, gc, bu2.box, fun l G6 hm bu6 => ?_⟩
          obtain ⟨n1, n2⟩ := bad_sides gc l hm
          refine ⟨⟨x.l, x.h, l, x.x⟩, some "right", bu2.trans bu6, h1, h2, ⟨sm.1, sm.2.1, by show l.length < 64; omega, sm.2.2.2⟩, ⟨cn.1, cn.2.1, bad_sides_no gc l hm, cn.2.2.2⟩, ?_, fun _ => by simp, rfl⟩
          show (if sideB c x.l = true then (if hereB r c x.h = true then (if sideB c l = true then (if isColour c x.x = true then none else some "new") else some "right") else some "here") else some "left") = _
          rw [h1, h2, if_pos ol, if_pos oh, if_neg (by rw [n1]; decide)]
        · rw [decide_eq_false hn]
          exact iteF ⟨x, pt, bu2.le (by omega), h1, h2, sm, cn, hw, fun h => hb8 (h.resolve_right hn), rfl⟩
      · rintro σ G3 ⟨x, pt, bu3, h1, h2, sm, cn, hw, hb4, rfl⟩
        refine ⟨fun σ G => ∃ (x : RC) (pt : Option String), Bu (k + 1) b H G ∧ x.l = cl.l ∧ RcSmall x ∧ RcClean x ∧ wrongP r c x = pt ∧ ((wn / 8 = 1 ∨ wn / 4 % 2 = 1 ∨ wn / 2 % 2 = 1) → pt ≠ none) ∧ σ = [some (.ref b), some (.ref p), some (.int (r : Nat)), some (.int (c : Nat)), some (.int (wn : Nat)), some (tx x.l), some (tx x.h), some (tx x.r), some (tx x.x), some (.str (Str.ofString (pt.getD "")))], ?_, ?_⟩
        · have qx : decide (V.int ((((wn : Nat) : Int).fdiv 2).fmod 2) = V.int 1) = decide (wn / 2 % 2 = 1) := by
            rw [show (2 : Int) = ((2 : Nat) : Int) from rfl, fd]
            exact qm _
          refine ⟨_, rfl, _, _, rfl, rfl, ⟨by decide, by decide⟩, .inl ⟨_, rfl, _, _, rfl, rfl, (by decide : (2 : Int) ≠ 0), rfl, _, rfl, ?_⟩⟩
          show if decide (V.int ((((wn : Nat) : Int).fdiv 2).fmod 2) = V.int 1) = true then _ else _
          rw [qx]
          by_cases hn : wn / 2 % 2 = 1
          · rw [decide_eq_true hn]
            refine iteT ⟨_, rfl, _, rfl, _, rfl, b, r, c, n, k + 1, rfl, gd, bu3.box, fun l G6 hm bu6 => ?_⟩
            obtain ⟨n1, n2⟩ := bad_heres gd l hm
            refine ⟨⟨x.l, l, x.r, x.x⟩, some "here", bu3.trans bu6, h1, ⟨sm.1, by show l.length ≤ 1000; omega, sm.2.2.1, sm.2.2.2⟩, ⟨cn.1, bad_heres_no gd l hm, cn.2.2.1, cn.2.2.2⟩, ?_, fun _ => by simp, rfl⟩
            show (if sideB c x.l = true then (if hereB r c l = true then (if sideB c x.r = true then (if isColour c x.x = true then none else some "new") else some "right") else some "here") else some "left") = _
            rw [h1, if_pos ol, if_neg (by rw [n1]; decide)]
          · rw [decide_eq_false hn]
            exact iteF ⟨x, pt, bu3.le (by omega), h1, sm, cn, hw, fun h => hb4 (by omega), rfl⟩
        · rintro σ G4 ⟨x, pt, bu4, h1, sm, cn, hw, hb2, rfl⟩
          refine ⟨fun σ G => ∃ (x : RC) (pt : Option String), Bu (k + 0) b H G ∧ RcSmall x ∧ RcClean x ∧ wrongP r c x = pt ∧ ((wn / 8 = 1 ∨ wn / 4 % 2 = 1 ∨ wn / 2 % 2 = 1 ∨ wn % 2 = 1) → pt ≠ none) ∧ σ = [some (.ref b), some (.ref p), some (.int (r : Nat)), some (.int (c : Nat)), some (.int (wn : Nat)), some (tx x.l), some (tx x.h), some (tx x.r), some (tx x.x), some (.str (Str.ofString (pt.getD "")))], ?_, ?_⟩
          · refine ⟨_, rfl, .inl ⟨_, rfl, _, _, rfl, rfl, (by decide : (2 : Int) ≠ 0), rfl, _, rfl, ?_⟩⟩
            show if decide (V.int (((wn : Nat) : Int).fmod 2) = V.int 1) = true then _ else _
            rw [qm]
            by_cases hn : wn % 2 = 1
            · rw [decide_eq_true hn]
              refine iteT ⟨_, rfl, _, rfl, b, c, k, rfl, gc, bu4.box, fun l G6 hm bu6 => ?_⟩
              obtain ⟨n1, n2⟩ := bad_sides gc l hm
              refine ⟨⟨l, x.h, x.r, x.x⟩, some "left", bu4.trans bu6, ⟨by show l.length < 64; omega, sm.2.1, sm.2.2.1, sm.2.2.2⟩, ⟨bad_sides_no gc l hm, cn.2.1, cn.2.2.1, cn.2.2.2⟩, ?_, fun _ => by simp, rfl⟩
              show (if sideB c l = true then (if hereB r c x.h = true then (if sideB c x.r = true then (if isColour c x.x = true then none else some "new") else some "right") else some "here") else some "left") = _
              rw [if_neg (by rw [n1]; decide)]
            · rw [decide_eq_false hn]
              exact iteF ⟨x, pt, bu4.le (by omega), sm, cn, hw, fun h => hb2 (by omega), rfl⟩
          · rintro σ G5 ⟨x, pt, bu5, sm, cn, hw, hb1, rfl⟩
            have hne := hb1 (by omega)
            cases pt with
            | none => exact absurd rfl hne
            | some t =>
              refine ⟨_, rfl, _, rfl, _, rfl, _, rfl, by show 4 ≤ sizeLine; decide, fun u hu => ⟨_, rfl, by show 2 ≤ sizeLine; decide, fun q hq => ?_⟩⟩
              have nu : u ≠ q := ne_some hq upd_same
              have bu6 := bu5.put2 (o := .tup [tx x.l, tx x.h, tx x.r, tx x.x]) hu
              refine z q u x t _ hw sm cn (bu_free bu6 hq) upd_same ?_ (bu6.put2 hq)
              unfold RcAt
              rw [upd_ne nu]
              exact upd_same
end
end K23

end
section
set_option Elab.async false
set_option linter.all false
set_option maxRecDepth 100000
set_option maxHeartbeats 4000000
namespace K23
open PySem PySem.Spec PyProof.Rows L2 Kit
section
variable {P : Program} {w : World} {K : PySem.W.Frag} {mg : Str → Option Value} {base : Heap} {a : Ad}
def spLScheme : Sp := fun vs H Q _ => ∃ (b : Addr) (k : Nat), vs = [.ref b] ∧ BoxAt (k + 1) H b ∧ ∀ q r c n G, Good r c n → H q = none → G q = some (.tup [.int (r : Nat), .int (c : Nat)]) → Bu k b H G → Q (.ref q) G
theorem c_law_scheme (T : Txt K mg a) : Can P w K mg base 2 "_law_scheme" spLScheme := by
  refine can_of T.d_law_scheme sc_law_scheme bd_law_scheme (fun vs H Q E h => ?_) (fun f cdv A outer s H vs Q E hr h => ?_)
  · obtain ⟨b, k, rfl, _⟩ := h
    rfl
  · obtain ⟨b, k, rfl, hb, z⟩ := h
    refine ⟨_, (pss_one (ps_ret (pe_ix (kix_list K) (pe_lst (pa_cons (pe_tup (pa_cons pe_int (pa_cons pe_int pa_nil))) (pa_cons (pe_tup (pa_cons pe_int (pa_cons pe_int pa_nil))) (pa_cons (pe_tup (pa_cons pe_int (pa_cons pe_int pa_nil))) (pa_cons (pe_tup (pa_cons pe_int (pa_cons pe_int pa_nil))) (pa_cons (pe_tup (pa_cons pe_int (pa_cons pe_int pa_nil))) (pa_cons (pe_tup (pa_cons pe_int (pa_cons pe_int pa_nil))) (pa_cons (pe_tup (pa_cons pe_int (pa_cons pe_int pa_nil))) (pa_cons (pe_tup (pa_cons pe_int (pa_cons pe_int pa_nil))) pa_nil))))))))) (pc_f (c_law_take T) hr (by decide) (by rfl) (pa_cons (pv 0) (pa_cons pe_int pa_nil))) (fun _ _ => rfl)))), ?_⟩
    refine ⟨by show 2 ≤ sizeLine; decide, fun t0 h0 => ⟨by show 2 ≤ sizeLine; decide, fun t1 h1 => ⟨by show 2 ≤ sizeLine; decide, fun t2 h2 => ⟨by show 2 ≤ sizeLine; decide, fun t3 h3 => ⟨by show 2 ≤ sizeLine; decide, fun t4 h4 => ⟨by show 2 ≤ sizeLine; decide, fun t5 h5 => ⟨by show 2 ≤ sizeLine; decide, fun t6 h6 => ⟨by show 2 ≤ sizeLine; decide, fun t7 h7 => ⟨by show 8 ≤ sizeLine; decide, fun q hq => ?_⟩⟩⟩⟩⟩⟩⟩⟩⟩
    have s0 := ex_new (o := .tup [.int 1, .int 2]) h0
    have s1 := ex_new (o := .tup [.int 1, .int 3]) h1
    have s2 := ex_new (o := .tup [.int 2, .int 2]) h2
    have s3 := ex_new (o := .tup [.int 1, .int 2]) h3
    have s4 := ex_new (o := .tup [.int 2, .int 3]) h4
    have s5 := ex_new (o := .tup [.int 3, .int 2]) h5
    have s6 := ex_new (o := .tup [.int 1, .int 2]) h6
    have s7 := ex_new (o := .tup [.int 2, .int 2]) h7
    have s8 := ex_new (o := .lst [.ref t0, .ref t1, .ref t2, .ref t3, .ref t4, .ref t5, .ref t6, .ref t7]) hq
    have sa := s0.trans (s1.trans (s2.trans (s3.trans (s4.trans (s5.trans (s6.trans (s7.trans (s8))))))))
    have k0 := (s1.trans (s2.trans (s3.trans (s4.trans (s5.trans (s6.trans (s7.trans (s8)))))))) _ _ (upd_same (a := t0) (o := .tup [.int 1, .int 2]))
    have k1 := (s2.trans (s3.trans (s4.trans (s5.trans (s6.trans (s7.trans (s8))))))) _ _ (upd_same (a := t1) (o := .tup [.int 1, .int 3]))
    have k2 := (s3.trans (s4.trans (s5.trans (s6.trans (s7.trans (s8)))))) _ _ (upd_same (a := t2) (o := .tup [.int 2, .int 2]))
    have k3 := (s4.trans (s5.trans (s6.trans (s7.trans (s8))))) _ _ (upd_same (a := t3) (o := .tup [.int 1, .int 2]))
    have k4 := (s5.trans (s6.trans (s7.trans (s8)))) _ _ (upd_same (a := t4) (o := .tup [.int 2, .int 3]))
    have k5 := (s6.trans (s7.trans (s8))) _ _ (upd_same (a := t5) (o := .tup [.int 3, .int 2]))
    have k6 := (s7.trans (s8)) _ _ (upd_same (a := t6) (o := .tup [.int 1, .int 2]))
    have k7 := (s8) _ _ (upd_same (a := t7) (o := .tup [.int 2, .int 2]))
    have hbq := hb.mono sa
    refine ⟨_, rfl, b, 8, k, rfl, hbq, by decide, by decide, fun d G d0 d1 bu => ?_⟩
    have bu1 := same_bu sa bu
    have nq : q ≠ b := box_ne (hb.mono (s0.trans (s1.trans (s2.trans (s3.trans (s4.trans (s5.trans (s6.trans (s7))))))))) hq
    have hG := bu.1 q _ upd_same nq
    rcases (show d = 0 ∨ d = 1 ∨ d = 2 ∨ d = 3 ∨ d = 4 ∨ d = 5 ∨ d = 6 ∨ d = 7 by omega) with rfl | rfl | rfl | rfl | rfl | rfl | rfl | rfl
    · exact ⟨q, _, _, _, rfl, rfl, seqL_of hG, rfl, z t0 1 2 2 G (by decide) (h0) (tup_bu k0 hbq bu) bu1⟩
    · exact ⟨q, _, _, _, rfl, rfl, seqL_of hG, rfl, z t1 1 3 3 G (by decide) (free_same (s0) h1) (tup_bu k1 hbq bu) bu1⟩
    · exact ⟨q, _, _, _, rfl, rfl, seqL_of hG, rfl, z t2 2 2 4 G (by decide) (free_same (s0.trans (s1)) h2) (tup_bu k2 hbq bu) bu1⟩
    · exact ⟨q, _, _, _, rfl, rfl, seqL_of hG, rfl, z t3 1 2 2 G (by decide) (free_same (s0.trans (s1.trans (s2))) h3) (tup_bu k3 hbq bu) bu1⟩
    · exact ⟨q, _, _, _, rfl, rfl, seqL_of hG, rfl, z t4 2 3 9 G (by decide) (free_same (s0.trans (s1.trans (s2.trans (s3)))) h4) (tup_bu k4 hbq bu) bu1⟩
    · exact ⟨q, _, _, _, rfl, rfl, seqL_of hG, rfl, z t5 3 2 8 G (by decide) (free_same (s0.trans (s1.trans (s2.trans (s3.trans (s4))))) h5) (tup_bu k5 hbq bu) bu1⟩
    · exact ⟨q, _, _, _, rfl, rfl, seqL_of hG, rfl, z t6 1 2 2 G (by decide) (free_same (s0.trans (s1.trans (s2.trans (s3.trans (s4.trans (s5)))))) h6) (tup_bu k6 hbq bu) bu1⟩
    · exact ⟨q, _, _, _, rfl, rfl, seqL_of hG, rfl, z t7 2 2 4 G (by decide) (free_same (s0.trans (s1.trans (s2.trans (s3.trans (s4.trans (s5.trans (s6))))))) h7) (tup_bu k7 hbq bu) bu1⟩
end
end K23

end
section
set_option Elab.async false
set_option linter.all false
set_option maxRecDepth 100000
set_option maxHeartbeats 4000000
namespace K23
open PySem PySem.Spec PyProof.Rows L2 Kit
section
variable {P : Program} {w : World} {K : PySem.W.Frag} {mg : Str → Option Value} {base : Heap} {a : Ad}
theorem errC (T : Txt K mg a) : ∀ i < 8, ErrC K (eAd a i) := by
  intro i hi
  match i, hi with
  | 0, _ => exact T.x_BadScheme
  | 1, _ => exact T.x_BadColumn
  | 2, _ => exact T.x_BadSpots
  | 3, _ => exact T.x_BadRow
  | 4, _ => exact T.x_BadColour
  | 5, _ => exact T.x_TooMany
  | 6, _ => exact T.x_BadClause
  | 7, _ => exact T.x_BadRule
theorem look1 (f : Str) (y : V) : [(f, y)].lookup f = some y := by
  rw [List.lookup_cons, beq_self_eq_true]
/-- what an error of the program is told as -/
inductive Tl
  | row (x : Int)
  | many
  | clause (i : Nat) (t : String)
  | rule
  | colour (l : List Nat)
  | column (l : List Nat)
def Tl.ix : Tl → Nat
  | .row _ => 3
  | .many => 5
  | .clause .. => 6
  | .rule => 7
  | .colour _ => 4
  | .column _ => 1
def Tl.fs : Tl → Option (List (Str × V))
  | .row x => some [("row", .int x)]
  | .many => some [("most", .int 6)]
  | .clause i t => some [("part", .str (Str.ofString t)), ("index", .int (i : Nat))]
  | .rule => none
  | .colour l => some [("colour", tx l)]
  | .column l => some [("text", tx l)]
def Tl.at_ (t : Tl) (d : Option Addr) (H : Hp) : Prop := match t.fs with
  | none => d = none
  | some fs => ∃ dd, d = some dd ∧ H dd = some (.xd fs)
def Tl.vs : Tl → List V
  | .row x => [.str (Str.ofString "BadRow"), .int x]
  | .many => [.str (Str.ofString "TooMany"), .int 6]
  | .clause i t => [.str (Str.ofString "BadClause"), .int (i : Nat), .str (Str.ofString t)]
  | .rule => [.str (Str.ofString "BadRule")]
  | .colour l => [.str (Str.ofString "BadColour"), tx l]
  | .column l => [.str (Str.ofString "BadColumn"), tx l]
def Tl.due : Tl → D
  | .row x => .tup [.txt (litS "BadRow"), .int x]
  | .many => .tup [.txt (litS "TooMany"), .int 6]
  | .clause i t => .tup [.txt (litS "BadClause"), .int (i : Nat), .txt (litS t)]
  | .rule => .tup [.txt (litS "BadRule")]
  | .colour l => .tup [.txt (litS "BadColour"), .txt l]
  | .column l => .tup [.txt (litS "BadColumn"), .txt l]
theorem rp_due {H : Hp} {q : Addr} {t : Tl} (h : H q = some (.tup t.vs)) : Rp H t.due (.ref q) := by
  cases t with
  | row x => exact ⟨q, _, rfl, h, _, _, rfl, rfl, _, _, rfl, rfl, rfl⟩
  | many => exact ⟨q, _, rfl, h, _, _, rfl, rfl, _, _, rfl, rfl, rfl⟩
  | clause i t => exact ⟨q, _, rfl, h, _, _, rfl, rfl, _, _, rfl, rfl, _, _, rfl, rfl, rfl⟩
  | rule => exact ⟨q, _, rfl, h, _, _, rfl, rfl, rfl⟩
  | colour l => exact ⟨q, _, rfl, h, _, _, rfl, rfl, _, _, rfl, rfl, rfl⟩
  | column l => exact ⟨q, _, rfl, h, _, _, rfl, rfl, _, _, rfl, rfl, rfl⟩
theorem due_small (t : Tl) : deep t.due < 4 ∧ big t.due ≤ 10000 := by
  cases t with
  | row x => exact ⟨by show 1 < 4; decide, by show 2 ≤ 10000; decide⟩
  | many => exact ⟨by show 1 < 4; decide, by show 2 ≤ 10000; decide⟩
  | clause i t => exact ⟨by show 1 < 4; decide, by show 3 ≤ 10000; decide⟩
  | rule => exact ⟨by show 1 < 4; decide, by show 1 ≤ 10000; decide⟩
  | colour l => exact ⟨by show 1 < 4; decide, by show 2 ≤ 10000; decide⟩
  | column l => exact ⟨by show 1 < 4; decide, by show 2 ≤ 10000; decide⟩
theorem Tl.at_xd {t : Tl} {d : Option Addr} {H : Hp} (h : t.at_ d H) : XdOk d H := by
  unfold Tl.at_ at h
  cases e : t.fs with
  | none => rw [e] at h; intro dd q; rw [h] at q; cases q
  | some fs => rw [e] at h; obtain ⟨dd, rfl, h⟩ := h; intro d' q; exact ⟨_, (Option.some.inj q) ▸ h⟩
theorem Tl.at_mono {t : Tl} {d : Option Addr} {H G : Hp} (h : t.at_ d H) (s : Same H G) : t.at_ d G := by
  unfold Tl.at_ at h ⊢
  cases e : t.fs with
  | none => rw [e] at h; exact h
  | some fs => rw [e] at h; obtain ⟨dd, rfl, h⟩ := h; exact ⟨dd, rfl, s _ _ h⟩
theorem Tl.ix_lt (t : Tl) : t.ix < 8 := by
  cases t with
  | row x => show 3 < 8; decide
  | many => show 5 < 8; decide
  | clause i t => show 6 < 8; decide
  | rule => show 7 < 8; decide
  | colour l => show 4 < 8; decide
  | column l => show 1 < 8; decide
def spTold (A : Ad) : SpE := fun a cls d vs H Q E => ∃ t : Tl, vs = [.ref a] ∧ cls = .ref (eAd A t.ix) ∧ t.at_ d H ∧ ∀ G q, Same H G → H q = none → G q = some (.tup t.vs) → Q (.ref q) G
theorem c_law_told (T : Txt K mg a) : CanS P w K mg base 1 "_law_told" (spTold a) := by
  refine canS_of T.d_law_told sc_law_told bd_law_told (fun a cls d vs H Q E h => ?_) (fun f cdv A outer s H vs Q E p cls d hr hz hf h => ?_)
  · obtain ⟨t, rfl, _⟩ := h
    rfl
  · obtain ⟨t, rfl, rfl, ht, z⟩ := h
    have hp : (p.1, p.2) ∈ (cxE P w K mg base N_law_told "_law_told" s_law_told f cdv A outer s H E p).pn := List.mem_cons_self
    refine ⟨_, (pss_cons (ps_set (i := 1) sc_law_told.nd rfl (.inl rfl) (pe_lst pa_nil))
      (pss_cons (ps_if (pt_val (pe_callB (call_isP hp hz hf) (by rfl) T.b_isinstance (by decide +kernel) (pa_cons (pv 0) (pa_cons (pe_glob (v := .ref a.BadRow) (by rfl) T.e_BadRow.gC rfl) pa_nil)))) (pss_one (ps_expr (pe_bm PySem.F.plainAttrs_list PySem.F.slot_list_append PySem.F.type_list_append mt_append (pv 1) (pa_cons (pe_tup (pa_cons pe_str (pa_cons (pe_xp hp hz hf (pv 0)) pa_nil))) pa_nil)))) pss_nil)
      (pss_cons (ps_if (pt_val (pe_callB (call_isP hp hz hf) (by rfl) T.b_isinstance (by decide +kernel) (pa_cons (pv 0) (pa_cons (pe_glob (v := .ref a.TooMany) (by rfl) T.e_TooMany.gC rfl) pa_nil)))) (pss_one (ps_expr (pe_bm PySem.F.plainAttrs_list PySem.F.slot_list_append PySem.F.type_list_append mt_append (pv 1) (pa_cons (pe_tup (pa_cons pe_str (pa_cons (pe_xp hp hz hf (pv 0)) pa_nil))) pa_nil)))) pss_nil)
      (pss_cons (ps_if (pt_val (pe_callB (call_isP hp hz hf) (by rfl) T.b_isinstance (by decide +kernel) (pa_cons (pv 0) (pa_cons (pe_glob (v := .ref a.BadClause) (by rfl) T.e_BadClause.gC rfl) pa_nil)))) (pss_one (ps_expr (pe_bm PySem.F.plainAttrs_list PySem.F.slot_list_append PySem.F.type_list_append mt_append (pv 1) (pa_cons (pe_tup (pa_cons pe_str (pa_cons (pe_xp hp hz hf (pv 0)) (pa_cons (pe_xp hp hz hf (pv 0)) pa_nil)))) pa_nil)))) pss_nil)
      (pss_cons (ps_if (pt_val (pe_callB (call_isP hp hz hf) (by rfl) T.b_isinstance (by decide +kernel) (pa_cons (pv 0) (pa_cons (pe_glob (v := .ref a.BadRule) (by rfl) T.z_BadRule.gC rfl) pa_nil)))) (pss_one (ps_expr (pe_bm PySem.F.plainAttrs_list PySem.F.slot_list_append PySem.F.type_list_append mt_append (pv 1) (pa_cons (pe_tup (pa_cons pe_str pa_nil)) pa_nil)))) pss_nil)
      (pss_cons (ps_if (pt_val (pe_callB (call_isP hp hz hf) (by rfl) T.b_isinstance (by decide +kernel) (pa_cons (pv 0) (pa_cons (pe_glob (v := .ref a.BadColour) (by rfl) T.e_BadColour.gC rfl) pa_nil)))) (pss_one (ps_expr (pe_bm PySem.F.plainAttrs_list PySem.F.slot_list_append PySem.F.type_list_append mt_append (pv 1) (pa_cons (pe_tup (pa_cons pe_str (pa_cons (pe_xp hp hz hf (pv 0)) pa_nil))) pa_nil)))) pss_nil)
      (pss_cons (ps_if (pt_val (pe_callB (call_isP hp hz hf) (by rfl) T.b_isinstance (by decide +kernel) (pa_cons (pv 0) (pa_cons (pe_glob (v := .ref a.BadColumn) (by rfl) T.e_BadColumn.gC rfl) pa_nil)))) (pss_one (ps_expr (pe_bm PySem.F.plainAttrs_list PySem.F.slot_list_append PySem.F.type_list_append mt_append (pv 1) (pa_cons (pe_tup (pa_cons pe_str (pa_cons (pe_xp hp hz hf (pv 0)) pa_nil))) pa_nil)))) pss_nil)
      (pss_cons (ps_if (PW.pt (pw_and (pt_cmpR op_eq (pe_callB (klen_seq K) (by rfl) T.b_len (by decide +kernel) (pa_cons (pv 1) pa_nil)) pe_int (nomark _)) (pw_and1 (pt_val (pe_callB (call_isP hp hz hf) (by rfl) T.b_isinstance (by decide +kernel) (pa_cons (pv 0) (pa_cons (pe_bltn (v := .ty "ValueError") (by rfl) T.b_ValueError (by decide +kernel) rfl) pa_nil))))))) (pss_one (ps_ret (pe_ix (kix_list K) (pv 1) pe_int (fun _ _ => rfl)))) pss_nil)
      (pss_one (ps_ret (pe_tup (pa_cons pe_str pa_nil)))))))))))), ?_⟩
    have hC := errC T _ t.ix_lt
    have kk : ∀ j, j < 8 → PySem.W.kitOne K (.ref (eAd a t.ix)) (.ref (eAd a j)) = some (decide (t.ix = j)) := T.kk_e _ t.ix_lt
    have kv := T.kv_e _ t.ix_lt
    refine ⟨by decide, fun L hL => ?_⟩
    have s1 := ex_new (o := .lst []) hL
    have hL1 : (upd H L (.lst [])) L = some (.lst []) := upd_same
    generalize upd H L (.lst []) = G1 at s1 hL1
    have xd : ∀ {G : Hp}, Same H G → XdOk d G := fun s => Tl.at_xd (t := t) (Tl.at_mono (t := t) ht s)
    cases t with
    | row x =>
      obtain ⟨dd, hde, hd⟩ := id ht
      refine ⟨_, rfl, _, _, _, _, rfl, hC, (xd s1), rfl, fun _ r => r, kk 3 (by decide), _, rfl, iteT ⟨_, rfl, .inl ⟨rfl, _, seqL_of hL1⟩, _, rfl, _, dd, _, V.int x, rfl, rfl, hC.xf, T.e_BadRow.noF, hde, s1 _ _ hd, look1 _ _, by show 2 ≤ sizeLine; decide, fun q hq => ?_⟩⟩
      have s2 := s1.trans (ex_new (o := .tup (Tl.vs (.row x))) hq)
      have hL2 : (upd G1 q (.tup (Tl.vs (.row x)))) L = some (.lst []) := by rw [upd_ne (ne_some hq hL1)]; exact hL1
      have s3 : Same H (upd (upd G1 q (.tup (Tl.vs (.row x)))) L (.lst ([] ++ [.ref q]))) := ex_mut s2 hL
      have hq3 : (upd (upd G1 q (.tup (Tl.vs (.row x)))) L (.lst ([] ++ [.ref q]))) q = some (.tup (Tl.vs (.row x))) := by rw [upd_ne (Ne.symm (ne_some hq hL1))]; exact upd_same
      have hL3 : (upd (upd G1 q (.tup (Tl.vs (.row x)))) L (.lst ([] ++ [.ref q]))) L = some (.lst [.ref q]) := upd_same
      have hq0 := free_same s1 hq
      refine ⟨L, _, _, rfl, rfl, hL2, by show 0 < sizeLine; decide, ?_⟩
      refine ⟨_, rfl, _, _, _, _, rfl, hC, (xd s3), rfl, fun _ r => r, kk 5 (by decide), _, rfl, iteF ?_⟩
      refine ⟨_, rfl, _, _, _, _, rfl, hC, (xd s3), rfl, fun _ r => r, kk 6 (by decide), _, rfl, iteF ?_⟩
      refine ⟨_, rfl, _, _, _, _, rfl, hC, (xd s3), rfl, fun _ r => r, kk 7 (by decide), _, rfl, iteF ?_⟩
      refine ⟨_, rfl, _, _, _, _, rfl, hC, (xd s3), rfl, fun _ r => r, kk 4 (by decide), _, rfl, iteF ?_⟩
      refine ⟨_, rfl, _, _, _, _, rfl, hC, (xd s3), rfl, fun _ r => r, kk 1 (by decide), _, rfl, iteF ?_⟩
      refine ⟨_, rfl, L, _, rfl, .inl (seqL_of hL3), rfl, _, rfl, iteT ?_⟩
      refine ⟨_, rfl, _, _, _, _, rfl, hC, xd s3, rfl, fun _ r => r, kv, _, rfl, iteT ?_⟩
      exact ⟨_, rfl, L, _, 0, _, rfl, rfl, seqL_of hL3, rfl, z _ q s3 hq0 hq3⟩
    | many =>
      obtain ⟨dd, hde, hd⟩ := id ht
      refine ⟨_, rfl, _, _, _, _, rfl, hC, (xd s1), rfl, fun _ r => r, kk 3 (by decide), _, rfl, iteF ?_⟩
      refine ⟨_, rfl, _, _, _, _, rfl, hC, (xd s1), rfl, fun _ r => r, kk 5 (by decide), _, rfl, iteT ⟨_, rfl, .inl ⟨rfl, _, seqL_of hL1⟩, _, rfl, _, dd, _, V.int 6, rfl, rfl, hC.xf, T.e_TooMany.noF, hde, s1 _ _ hd, look1 _ _, by show 2 ≤ sizeLine; decide, fun q hq => ?_⟩⟩
      have s2 := s1.trans (ex_new (o := .tup (Tl.vs (.many))) hq)
      have hL2 : (upd G1 q (.tup (Tl.vs (.many)))) L = some (.lst []) := by rw [upd_ne (ne_some hq hL1)]; exact hL1
      have s3 : Same H (upd (upd G1 q (.tup (Tl.vs (.many)))) L (.lst ([] ++ [.ref q]))) := ex_mut s2 hL
      have hq3 : (upd (upd G1 q (.tup (Tl.vs (.many)))) L (.lst ([] ++ [.ref q]))) q = some (.tup (Tl.vs (.many))) := by rw [upd_ne (Ne.symm (ne_some hq hL1))]; exact upd_same
      have hL3 : (upd (upd G1 q (.tup (Tl.vs (.many)))) L (.lst ([] ++ [.ref q]))) L = some (.lst [.ref q]) := upd_same
      have hq0 := free_same s1 hq
      refine ⟨L, _, _, rfl, rfl, hL2, by show 0 < sizeLine; decide, ?_⟩
      refine ⟨_, rfl, _, _, _, _, rfl, hC, (xd s3), rfl, fun _ r => r, kk 6 (by decide), _, rfl, iteF ?_⟩
      refine ⟨_, rfl, _, _, _, _, rfl, hC, (xd s3), rfl, fun _ r => r, kk 7 (by decide), _, rfl, iteF ?_⟩
      refine ⟨_, rfl, _, _, _, _, rfl, hC, (xd s3), rfl, fun _ r => r, kk 4 (by decide), _, rfl, iteF ?_⟩
      refine ⟨_, rfl, _, _, _, _, rfl, hC, (xd s3), rfl, fun _ r => r, kk 1 (by decide), _, rfl, iteF ?_⟩
      refine ⟨_, rfl, L, _, rfl, .inl (seqL_of hL3), rfl, _, rfl, iteT ?_⟩
      refine ⟨_, rfl, _, _, _, _, rfl, hC, xd s3, rfl, fun _ r => r, kv, _, rfl, iteT ?_⟩
      exact ⟨_, rfl, L, _, 0, _, rfl, rfl, seqL_of hL3, rfl, z _ q s3 hq0 hq3⟩
    | clause i t =>
      obtain ⟨dd, hde, hd⟩ := id ht
      refine ⟨_, rfl, _, _, _, _, rfl, hC, (xd s1), rfl, fun _ r => r, kk 3 (by decide), _, rfl, iteF ?_⟩
      refine ⟨_, rfl, _, _, _, _, rfl, hC, (xd s1), rfl, fun _ r => r, kk 5 (by decide), _, rfl, iteF ?_⟩
      refine ⟨_, rfl, _, _, _, _, rfl, hC, (xd s1), rfl, fun _ r => r, kk 6 (by decide), _, rfl, iteT ⟨_, rfl, .inl ⟨rfl, _, seqL_of hL1⟩, _, rfl, _, dd, _, V.int (i : Nat), rfl, rfl, hC.xf, T.e_BadClause.noF, hde, s1 _ _ hd, by kernel_rfl, _, rfl, _, dd, _, V.str (Str.ofString t), rfl, rfl, hC.xf, T.e_BadClause.noG, hde, s1 _ _ hd, by kernel_rfl, by show 3 ≤ sizeLine; decide, fun q hq => ?_⟩⟩
      have s2 := s1.trans (ex_new (o := .tup (Tl.vs (.clause i t))) hq)
      have hL2 : (upd G1 q (.tup (Tl.vs (.clause i t)))) L = some (.lst []) := by rw [upd_ne (ne_some hq hL1)]; exact hL1
      have s3 : Same H (upd (upd G1 q (.tup (Tl.vs (.clause i t)))) L (.lst ([] ++ [.ref q]))) := ex_mut s2 hL
      have hq3 : (upd (upd G1 q (.tup (Tl.vs (.clause i t)))) L (.lst ([] ++ [.ref q]))) q = some (.tup (Tl.vs (.clause i t))) := by rw [upd_ne (Ne.symm (ne_some hq hL1))]; exact upd_same
      have hL3 : (upd (upd G1 q (.tup (Tl.vs (.clause i t)))) L (.lst ([] ++ [.ref q]))) L = some (.lst [.ref q]) := upd_same
      have hq0 := free_same s1 hq
      refine ⟨L, _, _, rfl, rfl, hL2, by show 0 < sizeLine; decide, ?_⟩
      refine ⟨_, rfl, _, _, _, _, rfl, hC, (xd s3), rfl, fun _ r => r, kk 7 (by decide), _, rfl, iteF ?_⟩
      refine ⟨_, rfl, _, _, _, _, rfl, hC, (xd s3), rfl, fun _ r => r, kk 4 (by decide), _, rfl, iteF ?_⟩
      refine ⟨_, rfl, _, _, _, _, rfl, hC, (xd s3), rfl, fun _ r => r, kk 1 (by decide), _, rfl, iteF ?_⟩
      refine ⟨_, rfl, L, _, rfl, .inl (seqL_of hL3), rfl, _, rfl, iteT ?_⟩
      refine ⟨_, rfl, _, _, _, _, rfl, hC, xd s3, rfl, fun _ r => r, kv, _, rfl, iteT ?_⟩
      exact ⟨_, rfl, L, _, 0, _, rfl, rfl, seqL_of hL3, rfl, z _ q s3 hq0 hq3⟩
    | rule =>
      refine ⟨_, rfl, _, _, _, _, rfl, hC, (xd s1), rfl, fun _ r => r, kk 3 (by decide), _, rfl, iteF ?_⟩
      refine ⟨_, rfl, _, _, _, _, rfl, hC, (xd s1), rfl, fun _ r => r, kk 5 (by decide), _, rfl, iteF ?_⟩
      refine ⟨_, rfl, _, _, _, _, rfl, hC, (xd s1), rfl, fun _ r => r, kk 6 (by decide), _, rfl, iteF ?_⟩
      refine ⟨_, rfl, _, _, _, _, rfl, hC, (xd s1), rfl, fun _ r => r, kk 7 (by decide), _, rfl, iteT ⟨_, rfl, .inl ⟨rfl, _, seqL_of hL1⟩, by show 1 ≤ sizeLine; decide, fun q hq => ?_⟩⟩
      have s2 := s1.trans (ex_new (o := .tup (Tl.vs (.rule))) hq)
      have hL2 : (upd G1 q (.tup (Tl.vs (.rule)))) L = some (.lst []) := by rw [upd_ne (ne_some hq hL1)]; exact hL1
      have s3 : Same H (upd (upd G1 q (.tup (Tl.vs (.rule)))) L (.lst ([] ++ [.ref q]))) := ex_mut s2 hL
      have hq3 : (upd (upd G1 q (.tup (Tl.vs (.rule)))) L (.lst ([] ++ [.ref q]))) q = some (.tup (Tl.vs (.rule))) := by rw [upd_ne (Ne.symm (ne_some hq hL1))]; exact upd_same
      have hL3 : (upd (upd G1 q (.tup (Tl.vs (.rule)))) L (.lst ([] ++ [.ref q]))) L = some (.lst [.ref q]) := upd_same
      have hq0 := free_same s1 hq
      refine ⟨L, _, _, rfl, rfl, hL2, by show 0 < sizeLine; decide, ?_⟩
      refine ⟨_, rfl, _, _, _, _, rfl, hC, (xd s3), rfl, fun _ r => r, kk 4 (by decide), _, rfl, iteF ?_⟩
      refine ⟨_, rfl, _, _, _, _, rfl, hC, (xd s3), rfl, fun _ r => r, kk 1 (by decide), _, rfl, iteF ?_⟩
      refine ⟨_, rfl, L, _, rfl, .inl (seqL_of hL3), rfl, _, rfl, iteT ?_⟩
      refine ⟨_, rfl, _, _, _, _, rfl, hC, xd s3, rfl, fun _ r => r, kv, _, rfl, iteT ?_⟩
      exact ⟨_, rfl, L, _, 0, _, rfl, rfl, seqL_of hL3, rfl, z _ q s3 hq0 hq3⟩
    | colour l =>
      obtain ⟨dd, hde, hd⟩ := id ht
      refine ⟨_, rfl, _, _, _, _, rfl, hC, (xd s1), rfl, fun _ r => r, kk 3 (by decide), _, rfl, iteF ?_⟩
      refine ⟨_, rfl, _, _, _, _, rfl, hC, (xd s1), rfl, fun _ r => r, kk 5 (by decide), _, rfl, iteF ?_⟩
      refine ⟨_, rfl, _, _, _, _, rfl, hC, (xd s1), rfl, fun _ r => r, kk 6 (by decide), _, rfl, iteF ?_⟩
      refine ⟨_, rfl, _, _, _, _, rfl, hC, (xd s1), rfl, fun _ r => r, kk 7 (by decide), _, rfl, iteF ?_⟩
      refine ⟨_, rfl, _, _, _, _, rfl, hC, (xd s1), rfl, fun _ r => r, kk 4 (by decide), _, rfl, iteT ⟨_, rfl, .inl ⟨rfl, _, seqL_of hL1⟩, _, rfl, _, dd, _, tx l, rfl, rfl, hC.xf, T.e_BadColour.noF, hde, s1 _ _ hd, look1 _ _, by show 2 ≤ sizeLine; decide, fun q hq => ?_⟩⟩
      have s2 := s1.trans (ex_new (o := .tup (Tl.vs (.colour l))) hq)
      have hL2 : (upd G1 q (.tup (Tl.vs (.colour l)))) L = some (.lst []) := by rw [upd_ne (ne_some hq hL1)]; exact hL1
      have s3 : Same H (upd (upd G1 q (.tup (Tl.vs (.colour l)))) L (.lst ([] ++ [.ref q]))) := ex_mut s2 hL
      have hq3 : (upd (upd G1 q (.tup (Tl.vs (.colour l)))) L (.lst ([] ++ [.ref q]))) q = some (.tup (Tl.vs (.colour l))) := by rw [upd_ne (Ne.symm (ne_some hq hL1))]; exact upd_same
      have hL3 : (upd (upd G1 q (.tup (Tl.vs (.colour l)))) L (.lst ([] ++ [.ref q]))) L = some (.lst [.ref q]) := upd_same
      have hq0 := free_same s1 hq
      refine ⟨L, _, _, rfl, rfl, hL2, by show 0 < sizeLine; decide, ?_⟩
      refine ⟨_, rfl, _, _, _, _, rfl, hC, (xd s3), rfl, fun _ r => r, kk 1 (by decide), _, rfl, iteF ?_⟩
      refine ⟨_, rfl, L, _, rfl, .inl (seqL_of hL3), rfl, _, rfl, iteT ?_⟩
      refine ⟨_, rfl, _, _, _, _, rfl, hC, xd s3, rfl, fun _ r => r, kv, _, rfl, iteT ?_⟩
      exact ⟨_, rfl, L, _, 0, _, rfl, rfl, seqL_of hL3, rfl, z _ q s3 hq0 hq3⟩
    | column l =>
      obtain ⟨dd, hde, hd⟩ := id ht
      refine ⟨_, rfl, _, _, _, _, rfl, hC, (xd s1), rfl, fun _ r => r, kk 3 (by decide), _, rfl, iteF ?_⟩
      refine ⟨_, rfl, _, _, _, _, rfl, hC, (xd s1), rfl, fun _ r => r, kk 5 (by decide), _, rfl, iteF ?_⟩
      refine ⟨_, rfl, _, _, _, _, rfl, hC, (xd s1), rfl, fun _ r => r, kk 6 (by decide), _, rfl, iteF ?_⟩
      refine ⟨_, rfl, _, _, _, _, rfl, hC, (xd s1), rfl, fun _ r => r, kk 7 (by decide), _, rfl, iteF ?_⟩
      refine ⟨_, rfl, _, _, _, _, rfl, hC, (xd s1), rfl, fun _ r => r, kk 4 (by decide), _, rfl, iteF ?_⟩
      refine ⟨_, rfl, _, _, _, _, rfl, hC, (xd s1), rfl, fun _ r => r, kk 1 (by decide), _, rfl, iteT ⟨_, rfl, .inl ⟨rfl, _, seqL_of hL1⟩, _, rfl, _, dd, _, tx l, rfl, rfl, hC.xf, T.e_BadColumn.noF, hde, s1 _ _ hd, look1 _ _, by show 2 ≤ sizeLine; decide, fun q hq => ?_⟩⟩
      have s2 := s1.trans (ex_new (o := .tup (Tl.vs (.column l))) hq)
      have hL2 : (upd G1 q (.tup (Tl.vs (.column l)))) L = some (.lst []) := by rw [upd_ne (ne_some hq hL1)]; exact hL1
      have s3 : Same H (upd (upd G1 q (.tup (Tl.vs (.column l)))) L (.lst ([] ++ [.ref q]))) := ex_mut s2 hL
      have hq3 : (upd (upd G1 q (.tup (Tl.vs (.column l)))) L (.lst ([] ++ [.ref q]))) q = some (.tup (Tl.vs (.column l))) := by rw [upd_ne (Ne.symm (ne_some hq hL1))]; exact upd_same
      have hL3 : (upd (upd G1 q (.tup (Tl.vs (.column l)))) L (.lst ([] ++ [.ref q]))) L = some (.lst [.ref q]) := upd_same
      have hq0 := free_same s1 hq
      refine ⟨L, _, _, rfl, rfl, hL2, by show 0 < sizeLine; decide, ?_⟩
      refine ⟨_, rfl, L, _, rfl, .inl (seqL_of hL3), rfl, _, rfl, iteT ?_⟩
      refine ⟨_, rfl, _, _, _, _, rfl, hC, xd s3, rfl, fun _ r => r, kv, _, rfl, iteT ?_⟩
      exact ⟨_, rfl, L, _, 0, _, rfl, rfl, seqL_of hL3, rfl, z _ q s3 hq0 hq3⟩
end
end K23

end
section
set_option Elab.async false
set_option linter.all false
set_option maxRecDepth 100000
set_option maxHeartbeats 4000000
namespace K23
open PySem PySem.Spec PyProof.Rows L2 Kit
section
variable {P : Program} {w : World} {K : PySem.W.Frag} {mg : Str → Option Value} {base : Heap} {a : Ad}
theorem rcs_ne {H : Hp} {D b : Addr} {ws : List V} {rs : List RC} {k : Nat} (hD : H D = some (.lst ws)) (hcl : RcsL H ws rs) (hb : BoxAt k H b) : D ≠ b := by
  rintro rfl
  obtain ⟨q, ns, i, x, y, h1, _⟩ := hb
  rw [hD] at h1
  injection h1 with h1
  injection h1 with h1
  subst h1
  have hl := hcl.1
  obtain ⟨p, hp, _⟩ := hcl.2 1 _ (List.getElem?_eq_getElem (by rw [← hl]; show 1 < 4; decide))
  have e : (some (V.int i) : Option V) = some (V.ref p) := hp
  cases e
theorem cls_ne {H : Hp} {D b : Addr} {ws : List V} {cs : List Cl} {k : Nat} (hD : H D = some (.lst ws)) (hcl : ClsL H ws cs) (hb : BoxAt k H b) : D ≠ b := rcs_ne hD (cls_rcs hcl) hb
theorem RcsL.bu {H G : Hp} {ws : List V} {rs : List RC} {b : Addr} {k m : Nat} (h : RcsL H ws rs) (hb : BoxAt k H b) (e : Bu m b H G) : RcsL G ws rs := ⟨h.1, fun i x hx => let ⟨p, h1, h2⟩ := h.2 i x hx; ⟨p, h1, tup_bu h2 hb e⟩⟩
theorem RuleAt.bu {H G : Hp} {p s b : Addr} {r c n row k m : Nat} {cs : List Cl} (h : RuleAt a H p s r c n row cs) (hb : BoxAt k H b) (e : Bu m b H G) : RuleAt a G p s r c n row cs := by
  obtain ⟨dx, q, d, ws, hp, hq, hcl, hd⟩ := h.ob
  obtain ⟨q', ns, i, x, y, hbx, _⟩ := id hb
  refine ⟨h.sch.bu hb e, ⟨dx, q, d, ws, e.1 _ _ hp fun z => by rw [z, hbx] at hp; (cases hp), e.1 _ _ hq (cls_ne hq hcl hb), hcl.bu hb e, e.1 _ _ hd fun z => by rw [z, hbx] at hd; (cases hd)⟩, h.row, h.ok, h.len⟩
theorem okSide.take {c k : Nat} {l : List Nat} (h : okSide c l) (h0 : 0 < k) : okSide c (l.take k) := by
  refine ⟨fun e => ?_, (List.take_sublist k l).trans h.2⟩
  have := h.pos
  rw [List.take_eq_nil_iff] at e
  rcases e with e | e
  · omega
  · exact h.1 e
theorem okSide.drop {c k : Nat} {l : List Nat} (h : okSide c l) (h0 : k < l.length) : okSide c (l.drop k) := by
  refine ⟨fun e => ?_, (List.drop_sublist k l).trans h.2⟩
  rw [List.drop_eq_nil_iff] at e
  omega
theorem okSide.split {c k : Nat} {l : List Nat} (h : okSide c l) (h0 : 0 < k) (h1 : k < l.length) : okSide c (l.take k) ∧ okSide c (l.drop k) := ⟨h.take h0, h.drop h1⟩
theorem cls_one {G : Hp} {u : Addr} {k : Cl} (h : ClAt G u k) : ClsL G [.ref u] [k] := ⟨rfl, fun i x hx => by
  cases i with
  | zero =>
    have e := Option.some.inj hx
    subst e
    exact ⟨u, rfl, h⟩
  | succ i => cases hx⟩
theorem ok_app {r c : Nat} {cs ds : List Cl} (h : okCls r c cs) (k : okCls r c ds) : okCls r c (cs ++ ds) := fun x hx => (List.mem_append.mp hx).elim (h x) (k x)
theorem ok_take {r c i : Nat} {cs : List Cl} (h : okCls r c cs) : okCls r c (cs.take i) := fun x hx => h x (List.mem_of_mem_take hx)
theorem ok_drop {r c i : Nat} {cs : List Cl} (h : okCls r c cs) : okCls r c (cs.drop i) := fun x hx => h x (List.mem_of_mem_drop hx)
theorem ok_one {r c : Nat} {k : Cl} (h : okCl r c k) : okCls r c [k] := fun x hx => by
  rw [List.mem_singleton] at hx
  rw [hx]
  exact h
theorem decV {m n : Nat} {i : Int} (h : i = (n : Int)) : decide (V.int ((m : Nat) : Int) = V.int i) = decide (m = n) := by
  rw [h, decide_eq_decide]
  exact ⟨fun e => by injection e with e; omega, fun e => by rw [e]⟩
theorem RcsL.app {H : Hp} {us vs : List V} {cs ds : List RC} (h : RcsL H us cs) (k : RcsL H vs ds) : RcsL H (us ++ vs) (cs ++ ds) := by
  refine ⟨by rw [List.length_append, List.length_append, h.1, k.1], fun i x hx => ?_⟩
  by_cases hi : i < cs.length
  · rw [List.getElem?_append_left hi] at hx
    rw [List.getElem?_append_left (by rw [h.1]; exact hi)]
    exact h.2 i x hx
  · rw [List.getElem?_append_right (by omega)] at hx
    rw [List.getElem?_append_right (by rw [h.1]; omega), h.1]
    exact k.2 _ x hx
def spOther : Sp := fun vs H Q _ => ∃ (b q : Addr) (r c n k row : Nat) (ws : List V) (cs : List Cl), vs = [.ref b, .int r, .int c, .int row, .ref q] ∧ Good r c n ∧ row < r ∧ BoxAt (k + 50) H b ∧ H q = some (.lst ws) ∧ ClsL H ws cs ∧ okCls r c cs ∧ cs.length ≤ 6 ∧ ∀ D ws2 ds G, okCls r c ds → ds.length ≤ 6 → G D = some (.lst ws2) → ClsL G ws2 ds → Bu k b H G → Q (.ref D) G
theorem c_law_other (T : Txt K mg a) : Can P w K mg base 5 "_law_other" spOther := by
  refine can_of T.d_law_other sc_law_other bd_law_other (fun vs H Q E h => ?_) (fun f cdv A outer s H vs Q E hr h => ?_)
  · obtain ⟨b, q, r, c, n, k, row, ws, cs, rfl, _⟩ := h
    rfl
  · obtain ⟨b, q, r, c, n, k, row, ws, cs, rfl, gd, hrow, hb, hq, hcl, ok, h6, z⟩ := h
    refine ⟨_, (pss_cons (ps_set (i := 5) sc_law_other.nd rfl (.inl rfl) (pc_f (c_law_take T) hr (by decide) (by rfl) (pa_cons (pv 0) (pa_cons pe_int pa_nil))))
      (pss_cons (ps_if (PW.pt (pw_or (pt_cmpR (keqP K hr.units) (pv 4) (pe_lst pa_nil) (nomark _)) (pw_or1 (pt_cmpR op_eq (pv 5) pe_int (nomark _))))) (pss_one (ps_ret (pc_f (c_law_clauses T) hr (by decide) (by rfl) (pa_cons (pv 0) (pa_cons (pv 1) (pa_cons (pv 2) (pa_cons (pv 3) (pa_cons pe_int pa_nil)))))))) pss_nil)
      (pss_cons (ps_set (i := 6) sc_law_other.nd rfl (.inl rfl) (pc_f (c_law_take T) hr (by decide) (by rfl) (pa_cons (pv 0) (pa_cons (pe_callB (klen_seq K) (by rfl) T.b_len (by decide +kernel) (pa_cons (pv 4) pa_nil)) pa_nil))))
      (pss_cons (ps_asg (pe_ix (kix_list K) (pv 4) (pv 6) (fun _ _ => rfl)) (pg_tup rfl (pgs_cons (pg_name (i := 7) sc_law_other.nd rfl (.inl rfl)) (pgs_cons (pg_name (i := 8) sc_law_other.nd rfl (.inl rfl)) (pgs_cons (pg_name (i := 9) sc_law_other.nd rfl (.inl rfl)) (pgs_cons (pg_name (i := 10) sc_law_other.nd rfl (.inl rfl)) pgs_nil))))))
      (pss_cons (ps_if (pt_cmpR op_eq (pv 5) pe_int (nomark _)) (pss_one (ps_ret (pe_slice (ksl_list K) (pe_op op_cat (pv 4) (pe_lst (pa_cons (pe_ix (kix_list K) (pv 4) (pv 6) (fun _ _ => rfl)) pa_nil))) po_none (po_some pe_int)))) pss_nil)
      (pss_cons (ps_if (pt_cmpR op_eq (pv 5) pe_int (nomark _)) (pss_cons (ps_set (i := 11) sc_law_other.nd rfl (.inl rfl) (pc_f (c_law_take T) hr (by decide) (by rfl) (pa_cons (pv 0) (pa_cons (pe_callB call_len_str (by rfl) T.b_len (by decide +kernel) (pa_cons (pv 7) pa_nil)) pa_nil))))
      (pss_cons (ps_if (PW.pt (pw_or (pt_cmpR op_eq (pv 11) pe_int (nomark _)) (pw_or1 (pt_cmpR op_eq (pe_callB (klen_seq K) (by rfl) T.b_len (by decide +kernel) (pa_cons (pv 4) pa_nil)) pe_int (nomark _))))) (pss_one (ps_ret (pe_callTy (klist_of K) (by rfl) T.b_list (by decide +kernel) (pa_cons (pv 4) pa_nil)))) pss_nil)
      (pss_cons (ps_set (i := 12) sc_law_other.nd rfl (.inl rfl) (pe_lst (pa_cons (pe_tup (pa_cons (pe_slice sl_str (pv 7) po_none (po_some (pv 11))) (pa_cons (pv 8) (pa_cons (pv 9) (pa_cons (pv 10) pa_nil))))) (pa_cons (pe_tup (pa_cons (pe_slice sl_str (pv 7) (po_some (pv 11)) po_none) (pa_cons (pv 8) (pa_cons (pv 9) (pa_cons (pv 10) pa_nil))))) pa_nil))))
      (pss_one (ps_ret (pe_op op_cat (pe_op op_cat (pe_slice (ksl_list K) (pv 4) po_none (po_some (pv 6))) (pv 12)) (pe_slice (ksl_list K) (pv 4) (po_some (pe_op op_add (pv 6) pe_int)) po_none))))))) pss_nil)
      (pss_one (ps_ret (pe_op op_cat (pe_op op_cat (pe_slice (ksl_list K) (pv 4) po_none (po_some (pv 6))) (pe_lst (pa_cons (pe_tup (pa_cons (pv 7) (pa_cons (pv 8) (pa_cons (pv 9) (pa_cons (pe_ix ix_str pe_str (pe_op op_modN (pe_callTy call_int1 (by rfl) T.b_int (by decide +kernel) (pa_cons (pe_op op_add (pe_callTy call_int_str (by rfl) T.b_int (by decide +kernel) (pa_cons (pv 10) pa_nil)) pe_int) pa_nil)) (pv 2)) (fun _ _ => rfl)) pa_nil))))) pa_nil))) (pe_slice (ksl_list K) (pv 4) (po_some (pe_op op_add (pv 6) pe_int)) po_none)))))))))), ?_⟩
    have gn := good_n gd
    have gc := good_c gd
    have lw : ws.length = cs.length := hcl.1
    have nqb := cls_ne hq hcl hb
    refine ⟨_, rfl, b, 4, k + 49, rfl, hb, by decide, by decide, fun d G1 d0 d1 u1 => ?_⟩
    obtain ⟨way, rfl⟩ : ∃ m : Nat, d = (m : Int) := ⟨d.toNat, by omega⟩
    have hw4 : way < 4 := by omega
    have hq1 := u1.1 _ _ hq nqb
    have hcl1 := hcl.bu hb u1
    -- BODY
    refine ⟨_, rfl, by decide, fun E1 hE1 => ⟨.list (cs.map pdCl), .list [], .lst (seqL_of ((ex_new hE1) _ _ hq1)) (dp_cls (hcl1.mono (ex_new hE1))), .lst (seqL_of upd_same) .nil, plain_cls _, rfl, depth_cls _, _, rfl, ?_⟩⟩
    rw [eqv_cls]
    have u2 : Bu (k + 49) b H (upd G1 E1 (.lst [])) := u1.same (ex_new hE1)
    generalize upd G1 E1 (.lst []) = G2 at u2 ⊢
    clear hq1 hcl1 hE1 u1
    have hq2 := u2.1 _ _ hq nqb
    have hcl2 := hcl.bu hb u2
    cases hce : cs.isEmpty with
    | true => exact iteT ⟨_, rfl, _, rfl, _, rfl, _, rfl, b, r, c, n, k, row, 0, rfl, gd, hrow, by decide, u2.box, fun D ws2 ds G ok2 d6 _ hD hcl3 u3 => z D ws2 ds G ok2 d6 hD hcl3 (u2.trans u3)⟩
    | false =>
    have hc0 : 0 < cs.length := by
      cases cs with
      | nil => cases hce
      | cons => exact Nat.succ_pos _
    refine iteF ⟨_, rfl, rfl, _, rfl, ?_⟩
    rw [decV (i := 0) (n := 0) rfl]
    by_cases w0 : way = 0
    · rw [decide_eq_true w0]
      exact iteT ⟨_, rfl, _, rfl, _, rfl, _, rfl, b, r, c, n, k, row, 0, rfl, gd, hrow, by decide, u2.box, fun D ws2 ds G ok2 d6 _ hD hcl3 u3 => z D ws2 ds G ok2 d6 hD hcl3 (u2.trans u3)⟩
    rw [decide_eq_false w0]
    refine iteF ?_
    refine ⟨_, rfl, _, rfl, q, _, rfl, .inl (seqL_of hq2), b, _, k + 48, rfl, u2.box, by omega, by omega, fun j G3 j0 j1 u3 => ?_⟩
    obtain ⟨j, rfl⟩ : ∃ m : Nat, j = (m : Int) := ⟨j.toNat, by omega⟩
    have hj : j < cs.length := by omega
    have u23 := u2.trans u3
    have hq3 := u23.1 _ _ hq nqb
    have hcl3 := hcl.bu hb u23
    obtain ⟨kj, hkj⟩ : ∃ k, cs[j]? = some k := ⟨_, List.getElem?_eq_getElem hj⟩
    obtain ⟨tw, htw, hctw⟩ := hcl3.2 j kj hkj
    have okj := ok _ (List.mem_of_getElem? hkj)
    have hctw' := hctw
    unfold ClAt at hctw'
    refine ⟨_, rfl, _, rfl, q, ws, _, _, rfl, rfl, seqL_of hq3, atI_nat htw, tw, _, rfl, seqT_of hctw', rfl, _, _, rfl, _, _, rfl, _, _, rfl, _, _, rfl, rfl, ?_⟩
    refine ⟨_, rfl, rfl, _, rfl, ?_⟩
    rw [decV (i := 1) (n := 1) rfl]
    by_cases w1 : way = 1
    · rw [decide_eq_true w1]
      refine iteT ⟨_, rfl, _, rfl, _, rfl, q, ws, _, _, rfl, rfl, seqL_of hq3, atI_nat htw, by show 1 ≤ sizeLine; decide, fun Y hY => ?_⟩
      have x1 := ex_new (o := .lst [.ref tw]) hY
      refine ⟨q, Y, _, _, rfl, rfl, x1 _ _ hq3, upd_same, by show _ + 1 ≤ _; exact szl (by omega), fun Z hZ => ?_⟩
      have x2 := x1.trans (ex_new (o := .lst (ws ++ [.ref tw])) hZ)
      refine ⟨_, rfl, Z, _, rfl, seqL_of upd_same, fun X hX => ?_⟩
      have x3 := x2.trans (ex_new (o := .lst (cutV (ws ++ [V.ref tw]) none (some 6))) hX)
      refine z X _ ((cs ++ [kj]).take 6) _ (ok_take (ok_app ok (ok_one okj))) (by rw [List.length_take]; omega) upd_same ?_ ((u23.le (by omega)).same x3)
      rw [show cutV (ws ++ [V.ref tw]) none (some 6) = (ws ++ [V.ref tw]).take 6 from cv_take _ 6] at x3 ⊢
      exact ((hcl3.app (cls_one hctw)).tak 6).mono x3
    rw [decide_eq_false w1]
    refine iteF ?_
    refine ⟨_, rfl, rfl, _, rfl, ?_⟩
    rw [decV (i := 2) (n := 2) rfl]
    have l1 := okj.l.len
    by_cases w2 : way = 2
    · rw [decide_eq_true w2]
      refine iteT ?_
      have lp := okj.l.pos
      refine ⟨_, rfl, _, rfl, _, rfl, by rw [S_len]; exact szl (by omega), b, _, k + 47, rfl, u3.box, by rw [S_len]; omega, by rw [S_len]; omega, fun ct G4 c0 c1 u4 => ?_⟩
      rw [S_len] at c1
      obtain ⟨ct, rfl⟩ : ∃ m : Nat, ct = (m : Int) := ⟨ct.toNat, by omega⟩
      have hct : ct < kj.l.length := by omega
      have u24 := u23.trans u4
      have hq4 := u24.1 _ _ hq nqb
      have hcl4 := hcl.bu hb u24
      refine ⟨_, rfl, rfl, _, rfl, ?_⟩
      rw [decV (i := 0) (n := 0) rfl]
      have copy : ∀ (X : Addr), G4 X = none → Q (.ref X) (upd G4 X (.lst ws)) := fun X hX => z X ws cs _ ok h6 upd_same (hcl4.mono (ex_new hX)) ((u24.le (by omega)).same (ex_new hX))
      by_cases ct0 : ct = 0
      · rw [decide_eq_true ct0]
        exact iteT ⟨_, rfl, q, _, rfl, .inl (seqL_of hq4), copy⟩
      rw [decide_eq_false ct0]
      refine iteF ⟨_, rfl, q, _, rfl, .inl (seqL_of hq4), rfl, _, rfl, ?_⟩
      rw [decV (i := 6) (n := 6) rfl, lw]
      by_cases e6 : cs.length = 6
      · rw [decide_eq_true e6]
        exact iteT ⟨_, rfl, q, _, rfl, .inl (seqL_of hq4), copy⟩
      rw [decide_eq_false e6]
      refine iteF ?_
      obtain ⟨s1, s2⟩ := okj.l.split (k := ct) (by omega) hct
      refine ⟨_, rfl, _, rfl, _, rfl, _, rfl, by rw [S_len]; exact szl (by omega), ?_⟩
      rw [cut_take]
      refine ⟨_, rfl, _, rfl, _, rfl, by show 4 ≤ sizeLine; decide, fun A1 hA1 => ?_⟩
      have x1 := ex_new (o := .tup [tx (kj.l.take ct), tx kj.h, tx kj.r, tx [kj.new]]) hA1
      refine ⟨_, rfl, _, rfl, _, rfl, _, rfl, by rw [S_len]; exact szl (by omega), ?_⟩
      rw [cut_drop]
      refine ⟨_, rfl, _, rfl, _, rfl, by show 4 ≤ sizeLine; decide, fun A2 hA2 => ?_⟩
      have x2 := x1.trans (ex_new (o := .tup [tx (kj.l.drop ct), tx kj.h, tx kj.r, tx [kj.new]]) hA2)
      have c1 : ClAt (upd (upd G4 A1 (.tup [tx (kj.l.take ct), tx kj.h, tx kj.r, tx [kj.new]])) A2 (.tup [tx (kj.l.drop ct), tx kj.h, tx kj.r, tx [kj.new]])) A1 ⟨kj.l.take ct, kj.h, kj.r, kj.new⟩ := by
        unfold ClAt
        rw [upd_ne (ne_some hA2 upd_same)]
        exact upd_same
      have c2 : ClAt (upd (upd G4 A1 (.tup [tx (kj.l.take ct), tx kj.h, tx kj.r, tx [kj.new]])) A2 (.tup [tx (kj.l.drop ct), tx kj.h, tx kj.r, tx [kj.new]])) A2 ⟨kj.l.drop ct, kj.h, kj.r, kj.new⟩ := upd_same
      refine ⟨by show 2 ≤ sizeLine; decide, fun Y hY => ?_⟩
      have x3 := ex_new (o := .lst [.ref A1, .ref A2]) hY
      have x13 := x2.trans x3
      refine ⟨_, rfl, _, rfl, _, rfl, q, _, rfl, seqL_of (x13 _ _ hq4), fun X hX => ?_⟩
      rw [cv_take]
      have x4 := ex_new (o := .lst (ws.take j)) hX
      refine ⟨_, rfl, X, Y, _, _, rfl, rfl, upd_same, x4 _ _ upd_same, by rw [List.length_take]; exact szl (by show _ + 2 ≤ _; omega), fun Z hZ => ?_⟩
      have x5 := ex_new (o := .lst (ws.take j ++ [.ref A1, .ref A2])) hZ
      have x15 := x13.trans (x4.trans x5)
      refine ⟨_, rfl, _, rfl, _, _, rfl, rfl, _, rfl, q, _, rfl, seqL_of (x15 _ _ hq4), fun U hU => ?_⟩
      rw [show ((j : Nat) : Int) + 1 = ((j + 1 : Nat) : Int) by omega, cv_drop]
      have x6 := ex_new (o := .lst (ws.drop (j + 1))) hU
      refine ⟨Z, U, _, _, rfl, rfl, x6 _ _ upd_same, upd_same, by rw [List.length_append, List.length_take, List.length_drop]; exact szl (by show _ + 2 + _ ≤ _; omega), fun Y2 hY2 => ?_⟩
      have x7 := ex_new (o := .lst (ws.take j ++ [.ref A1, .ref A2] ++ ws.drop (j + 1))) hY2
      have x27 := x3.trans (x4.trans (x5.trans (x6.trans x7)))
      have x17 := x2.trans x27
      refine z Y2 _ (cs.take j ++ ([⟨kj.l.take ct, kj.h, kj.r, kj.new⟩] ++ [⟨kj.l.drop ct, kj.h, kj.r, kj.new⟩]) ++ cs.drop (j + 1)) _ (ok_app (ok_app (ok_take ok) (ok_app (ok_one ⟨s1, okj.hl, okj.h, okj.r, okj.new⟩) (ok_one ⟨s2, okj.hl, okj.h, okj.r, okj.new⟩))) (ok_drop ok)) ?_ upd_same ?_ ((u24.le (by omega)).same x17)
      · rw [List.length_append, List.length_append, List.length_take, List.length_drop]
        show _ + 2 + _ ≤ 6
        omega
      · exact ((((hcl4.mono x17).tak j).app (((cls_one c1).app (cls_one c2)).mono x27)).app ((hcl4.mono x17).drp (j + 1)))
    rw [decide_eq_false w2]
    refine iteF ?_
    have okn : 48 ≤ kj.new ∧ kj.new < 48 + c := by
      have := okj.new
      unfold inDig at this
      rw [decide_eq_true_iff] at this
      omega
    have h012 : ∀ d < 3, atI (Str.ofString "012").cps.toList ((d : Nat) : Int) = some (48 + d) := by decide +kernel
    have hmod : (kj.new - 48 + 1) % c < c := Nat.mod_lt _ (by omega)
    refine ⟨_, rfl, _, rfl, _, rfl, q, _, rfl, seqL_of hq3, fun X hX => ?_⟩
    rw [cv_take]
    have x4 := ex_new (o := .lst (ws.take j)) hX
    refine ⟨_, rfl, _, rfl, _, rfl, _, rfl, S [kj.new], _, rfl, int_dig10 (by omega), by show 1 ≤ 640; decide, ?_⟩
    refine ⟨_, _, rfl, rfl, .inl ⟨_, rfl, _, rfl, _, _, rfl, rfl, by omega, ?_⟩⟩
    have efm : V.int ((((kj.new - 48 : Nat) : Int) + 1).fmod ((c : Nat) : Int)) = V.int (((kj.new - 48 + 1) % c : Nat) : Int) := by rw [show ((kj.new - 48 : Nat) : Int) + 1 = ((kj.new - 48 + 1 : Nat) : Int) by omega, fm]
    have ina : inDig c (48 + (kj.new - 48 + 1) % c) = true := by
      unfold inDig
      rw [decide_eq_true_iff]
      omega
    refine ⟨_, _, _, rfl, efm, by decide +kernel, h012 _ (by omega), by show 4 ≤ sizeLine; decide, fun A1 hA1 => ?_⟩
    have x5 := x4.trans (ex_new (o := .tup [tx kj.l, tx kj.h, tx kj.r, tx [48 + (kj.new - 48 + 1) % c]]) hA1)
    refine ⟨by show 1 ≤ sizeLine; decide, fun Y hY => ?_⟩
    have x6 := ex_new (o := .lst [.ref A1]) hY
    have c1 : ClAt (upd (upd (upd G3 X (.lst (ws.take j))) A1 (.tup [tx kj.l, tx kj.h, tx kj.r, tx [48 + (kj.new - 48 + 1) % c]])) Y (.lst [.ref A1])) A1 ⟨kj.l, kj.h, kj.r, 48 + (kj.new - 48 + 1) % c⟩ := by
      unfold ClAt
      rw [upd_ne (ne_some hY upd_same)]
      exact upd_same
    have x16 := x5.trans x6
    have hX6 : (upd (upd (upd G3 X (.lst (ws.take j))) A1 (.tup [tx kj.l, tx kj.h, tx kj.r, tx [48 + (kj.new - 48 + 1) % c]])) Y (.lst [.ref A1])) X = some (.lst (ws.take j)) := ((ex_new hA1).trans x6) _ _ upd_same
    refine ⟨X, Y, _, _, rfl, rfl, hX6, upd_same, by rw [List.length_take]; exact szl (by show _ + 1 ≤ _; omega), fun Z hZ => ?_⟩
    have x7 := ex_new (o := .lst (ws.take j ++ [.ref A1])) hZ
    have x17 := x16.trans x7
    refine ⟨_, rfl, _, rfl, _, _, rfl, rfl, _, rfl, q, _, rfl, seqL_of (x17 _ _ hq3), fun U hU => ?_⟩
    rw [show ((j : Nat) : Int) + 1 = ((j + 1 : Nat) : Int) by omega, cv_drop]
    have x8 := ex_new (o := .lst (ws.drop (j + 1))) hU
    refine ⟨Z, U, _, _, rfl, rfl, x8 _ _ upd_same, upd_same, by rw [List.length_append, List.length_take, List.length_drop]; exact szl (by show _ + 1 + _ ≤ _; omega), fun Y2 hY2 => ?_⟩
    have x9 := ex_new (o := .lst (ws.take j ++ [.ref A1] ++ ws.drop (j + 1))) hY2
    have x79 := x7.trans (x8.trans x9)
    have x19 := x16.trans x79
    refine z Y2 _ (cs.take j ++ [⟨kj.l, kj.h, kj.r, 48 + (kj.new - 48 + 1) % c⟩] ++ cs.drop (j + 1)) _ (ok_app (ok_app (ok_take ok) (ok_one ⟨okj.l, okj.hl, okj.h, okj.r, ina⟩)) (ok_drop ok)) ?_ upd_same ?_ ((u23.le (by omega)).same x19)
    · rw [List.length_append, List.length_append, List.length_take, List.length_drop]
      show _ + 1 + _ ≤ 6
      omega
    · exact ((((hcl3.mono x19).tak j).app ((cls_one c1).mono x79)).app ((hcl3.mono x19).drp (j + 1)))
end
end K23

end
section
set_option Elab.async false
set_option linter.all false
set_option maxRecDepth 100000
set_option maxHeartbeats 4000000
namespace K23
open PySem PySem.Spec PyProof.Rows L2 Kit
section
variable {P : Program} {w : World} {K : PySem.W.Frag} {mg : Str → Option Value} {base : Heap} {a : Ad}
def pdV (r c row : Nat) (cs : List Cl) (l : List Nat) : List PyData := l.map fun m => .str (S [W r c row cs m])
theorem dp_vals {H : Hp} {r c row : Nat} {cs : List Cl} : ∀ l : List Nat, DpAll K H (l.map fun m => tx [W r c row cs m]) (pdV r c row cs l)
  | [] => .nil
  | m :: l => .cons (.str _) (dp_vals l)
theorem plain_vals {r c row : Nat} {cs : List Cl} (l : List Nat) : (PyData.list (pdV r c row cs l)).plain = true := by
  unfold PyData.plain pdV
  induction l with
  | nil => rfl
  | cons k l ih =>
    rw [List.map_cons]
    unfold PyData.plainAll
    rw [ih]
    rfl
theorem depth_vals {r c row : Nat} {cs : List Cl} (l : List Nat) : (PyData.list (pdV r c row cs l)).depth ≤ 64 := by
  have h : PyData.depthAll (pdV r c row cs l) ≤ 2 := by
    unfold pdV
    induction l with
    | nil => simp [PyData.depthAll]
    | cons k l ih =>
      rw [List.map_cons]
      unfold PyData.depthAll
      have : (PyData.str (S [W r c row cs k])).depth ≤ 2 := by simp [PyData.depth]
      omega
  unfold PyData.depth
  omega
theorem eqv_vals {r c row : Nat} {cs ds : List Cl} (l : List Nat) : PyData.eqv (.list (pdV r c row cs l)) (.list (pdV r c row ds l)) = l.all fun m => decide (W r c row cs m = W r c row ds m) := by
  induction l with
  | nil => rfl
  | cons m l ih =>
    have e : ∀ x y : Nat, PyData.eqv (.str (S [x])) (.str (S [y])) = decide (x = y) := fun x y => eqV_tx x y
    have ih : PyData.eqvAll (pdV r c row cs l) (pdV r c row ds l) = _ := ih
    show (PyData.eqv (.str (S [W r c row cs m])) (.str (S [W r c row ds m])) && PyData.eqvAll (pdV r c row cs l) (pdV r c row ds l)) = _
    rw [e, ih]
    rfl
def spCompares (a : Ad) : Sp := fun vs H Q _ => ∃ (b p s s2 q : Addr) (r c n k row : Nat) (ws : List V) (cs : List Cl), vs = [.ref b, .ref p, .ref s2, .int r, .int c, .int row, .ref q] ∧ RuleAt a H p s r c n row cs ∧ SchemeAt a.Scheme H s2 r c n ∧ BoxAt (k + 50) H b ∧ H q = some (.lst ws) ∧ ClsL H ws cs ∧ ∀ G, Bu k b H G → Q (.bl true) G
theorem c_law_compares (T : Txt K mg a) : Can P w K mg base 7 "_law_compares" (spCompares a) := by
  refine can_of T.d_law_compares sc_law_compares bd_law_compares (fun vs H Q E h => ?_) (fun f cdv A outer s0 H vs Q E hr h => ?_)
  · obtain ⟨b, p, s, s2, q, r, c, n, k, row, ws, cs, rfl, _⟩ := h
    rfl
  · obtain ⟨b, p, s, s2, q, r, c, n, k, row, ws, cs, rfl, ru, sch2, hb, hq, hcl, z⟩ := h
    refine ⟨_, (pss_cons (ps_set (i := 7) sc_law_compares.nd rfl (.inl rfl) (pc_f (c_law_other T) hr (by decide) (by rfl) (pa_cons (pv 0) (pa_cons (pv 3) (pa_cons (pv 4) (pa_cons (pv 5) (pa_cons (pv 6) pa_nil)))))))
      (pss_cons (ps_set (i := 8) sc_law_compares.nd rfl (.inl rfl) (pc_n (c_Rule_init T) hr (by decide) (by rfl) (pa_cons (pv 2) (pa_cons (pv 5) (pa_cons (pe_callTy (klist_of K) (by rfl) T.b_list (by decide +kernel) (pa_cons (pv 7) pa_nil)) pa_nil)))))
      (pss_cons (ps_set (i := 9) sc_law_compares.nd rfl (.inl rfl) (pe_cmpR (keqP K hr.units) (pc_f (c_law_values T) hr (by decide) (by rfl) (pa_cons (pv 3) (pa_cons (pv 4) (pa_cons (pv 5) (pa_cons (pv 6) pa_nil))))) (pc_f (c_law_values T) hr (by decide) (by rfl) (pa_cons (pv 3) (pa_cons (pv 4) (pa_cons (pv 5) (pa_cons (pv 7) pa_nil))))) (nomark _)))
      (pss_cons (ps_if (PW.pt (pw_or (pt_not (pt_val (pc_f (c_law_same T) hr (by decide) (by rfl) (pa_cons (pe_cmpR (eqO K (c_Rule_eq T) hr (by decide) T.y_ni T.y_ns) (pv 1) (pv 8) (nomark _)) (pa_cons (pv 9) pa_nil))))) (pw_or1 (pt_not (pt_val (pc_f (c_law_same T) hr (by decide) (by rfl) (pa_cons (pe_cmpR (eqO K (c_Rule_eq T) hr (by decide) T.y_ni T.y_ns) (pv 8) (pv 1) (nomark _)) (pa_cons (pv 9) pa_nil)))))))) (pss_one (ps_ret pe_bl)) pss_nil)
      (C8.pss_cut (ps_if (pt_cmpR op_gt (pv 3) pe_int (nomark _)) (pss_cons (ps_set (i := 10) sc_law_compares.nd rfl (.inl rfl) (pc_n (c_Rule_init T) hr (by decide) (by rfl) (pa_cons (pv 2) (pa_cons (pe_op op_modN (pe_callTy call_int1 (by rfl) T.b_int (by decide +kernel) (pa_cons (pe_op op_add (pv 5) pe_int) pa_nil)) (pv 3)) (pa_cons (pe_callTy (klist_of K) (by rfl) T.b_list (by decide +kernel) (pa_cons (pv 6) pa_nil)) pa_nil)))))
      (pss_one (ps_if (PW.pt (pw_or (pt_not (pt_val (pc_f (c_law_same T) hr (by decide) (by rfl) (pa_cons (pe_cmpR (eqO K (c_Rule_eq T) hr (by decide) T.y_ni T.y_ns) (pv 1) (pv 10) (nomark _)) (pa_cons pe_bl pa_nil))))) (pw_or1 (pt_not (pt_val (pc_f (c_law_same T) hr (by decide) (by rfl) (pa_cons (pe_cmpR (eqO K (c_Rule_eq T) hr (by decide) T.y_ni T.y_ns) (pv 10) (pv 1) (nomark _)) (pa_cons pe_bl pa_nil)))))))) (pss_one (ps_ret pe_bl)) pss_nil))) pss_nil)
      (pss_cons (ps_set (i := 11) sc_law_compares.nd rfl (.inl rfl) (pc_n (c_Rule_init T) hr (by decide) (by rfl) (pa_cons (pc_n (c_Scheme_init T) hr (by decide) (by rfl) (pa_cons pe_int (pa_cons pe_int pa_nil))) (pa_cons pe_int (pa_cons (pe_lst pa_nil) pa_nil)))))
      (C8.pss_cut (ps_if (PW.pt (pw_and (pt_cmpR op_eq (pv 3) pe_int (nomark _)) (pw_and1 (pt_cmpR op_eq (pv 4) pe_int (nomark _))))) (pss_one (ps_set (i := 11) sc_law_compares.nd rfl (.inl rfl) (pc_n (c_Rule_init T) hr (by decide) (by rfl) (pa_cons (pc_n (c_Scheme_init T) hr (by decide) (by rfl) (pa_cons pe_int (pa_cons pe_int pa_nil))) (pa_cons pe_int (pa_cons (pe_lst pa_nil) pa_nil)))))) pss_nil)
      (pss_cons (ps_if (PW.pt (pw_or (pt_not (pt_val (pc_f (c_law_same T) hr (by decide) (by rfl) (pa_cons (pe_cmpR (eqO K (c_Rule_eq T) hr (by decide) T.y_ni T.y_ns) (pv 1) (pv 11) (nomark _)) (pa_cons pe_bl pa_nil))))) (pw_or1 (pt_not (pt_val (pc_f (c_law_same T) hr (by decide) (by rfl) (pa_cons (pe_cmpR (eqO K (c_Rule_eq T) hr (by decide) T.y_ni T.y_ns) (pv 11) (pv 1) (nomark _)) (pa_cons pe_bl pa_nil)))))))) (pss_one (ps_ret pe_bl)) pss_nil)
      (pss_one (ps_ret (pe_and (pc_f (c_law_same T) hr (by decide) (by rfl) (pa_cons (pe_cmpR (eqO K (c_Rule_eq T) hr (by decide) T.y_ni T.y_ns) (pv 1) (pc_f (c_law_text T) hr (by decide) (by rfl) (pa_cons (pv 5) (pa_cons (pv 6) pa_nil))) (nomark _)) (pa_cons pe_bl pa_nil))) (pe_one (pc_f (c_law_same T) hr (by decide) (by rfl) (pa_cons (pe_cmpR (eqO K (c_Rule_eq T) hr (by decide) T.y_ni T.y_ns) (pv 1) pe_int (nomark _)) (pa_cons pe_bl pa_nil))))))))))))))), ?_⟩
    have gd := ru.sch.2
    have gn := good_n gd
    have gc := good_c gd
    have hrow := ru.row
    have ok := ru.ok
    have h6 := ru.len
    have nqb := cls_ne hq hcl hb
    refine ⟨_, rfl, _, rfl, _, rfl, _, rfl, _, rfl, b, q, r, c, n, k, row, ws, cs, rfl, gd, hrow, hb, hq, hcl, ok, h6, fun D ws2 ds G1 ok2 d6 hD hcl2 u1 => ?_⟩
    have ru1 := ru.bu hb u1
    have sc1 := sch2.bu hb u1
    have hq1 := u1.1 _ _ hq nqb
    have hc1 := hcl.bu hb u1
    have z : ∀ G, Same G1 G → Q (.bl true) G := fun G s => z G (u1.same s)
    clear hq hcl nqb hb ru sch2 u1
    refine ⟨_, rfl, _, rfl, _, rfl, D, _, rfl, .inl (seqL_of hD), fun X hX => ?_⟩
    have x1 := ex_new (o := .lst ws2) hX
    intro y dy hy hdy hne
    refine rinit hy hdy hne (sc1.mono x1) hrow upd_same (hcl2.mono x1) ok2 d6 fun G2 x2 ra => ⟨rfl, ?_⟩
    have s2 := x1.trans x2
    clear x1 x2 hX hy hdy hne
    refine ⟨_, rfl, _, rfl, _, rfl, _, rfl, q, ws, cs, r, c, n, row, rfl, gd, hrow, s2 _ _ hq1, hc1.mono s2, ok, h6, fun G3 L1 x3 _ hL1 => ?_⟩
    have s3 := s2.trans x3
    refine ⟨_, rfl, _, rfl, _, rfl, _, rfl, D, ws2, ds, r, c, n, row, rfl, gd, hrow, s3 _ _ hD, hcl2.mono s3, ok2, d6, fun G4 Lb x4 _ hLb => ?_⟩
    refine ⟨.list (pdV r c row cs (List.range (total n c))), .list (pdV r c row ds (List.range (total n c))), .lst (seqL_of (x4 _ _ hL1)) (dp_vals _), .lst (seqL_of hLb) (dp_vals _), plain_vals _, plain_vals _, depth_vals _, ?_⟩
    rw [eqv_vals]
    have ru4 := ru1.mono (s3.trans x4)
    have ra4 := ra.mono (x3.trans x4)
    have sc4 := sc1.mono (s3.trans x4)
    have hq4 := (s3.trans x4) _ _ hq1
    have hc4 := hc1.mono (s3.trans x4)
    have z : ∀ G, Same G4 G → Q (.bl true) G := fun G s => z G ((s3.trans x4).trans s)
    clear hL1 hLb x3 x4 s2 s3 hcl2 hD hq1 hc1 ra ru1 sc1
    have bd : ∀ x : Bool, deep (.bl x) < 4 ∧ big (.bl x) ≤ 10000 := fun x => ⟨by show 0 < 4; decide, by show 0 ≤ 10000; decide⟩
    have e1 : V.bl (decide (r = r) && decide (c = c) && decide (row = row) && sameW r c n row cs ds) = .bl (sameW r c n row cs ds) := by simp
    have e2 : V.bl (decide (r = r) && decide (c = c) && decide (row = row) && sameW r c n row ds cs) = .bl (sameW r c n row cs ds) := by rw [sameW_comm]; simp
    obtain ⟨dp, _, _, _, hp4, _⟩ := ru4.ob
    obtain ⟨dy2, _, _, _, hy4, _⟩ := ra4.ob
    refine ⟨_, rfl, _, rfl, p, dp, _, rfl, hp4, .inr (.inr ⟨y, dy2, _, rfl, hy4⟩), p, s, r, c, n, row, cs, _, rfl, ru4, .inr (.inr ⟨y, s2, r, c, n, row, ds, rfl, ra4, _, rfl, ?_⟩)⟩
    refine ⟨_, rfl, _, _, .bl (sameW r c n row cs ds), rfl, e1, rfl, (bd _).1, (bd _).2, _, rfl, iteF ?_⟩
    refine ⟨_, rfl, _, rfl, y, dy2, _, rfl, hy4, .inr (.inr ⟨p, dp, _, rfl, hp4⟩), y, s2, r, c, n, row, ds, _, rfl, ra4, .inr (.inr ⟨p, s, r, c, n, row, cs, rfl, ru4, _, rfl, ?_⟩)⟩
    refine ⟨_, rfl, _, _, .bl (sameW r c n row cs ds), rfl, e2, rfl, (bd _).1, (bd _).2, _, rfl, iteF ?_⟩
    clear hy4 ra4 e1 e2
    refine ⟨fun σ G => Same G4 G ∧ ∃ lo : Option V, σ = [some (.ref b), some (.ref p), some (.ref s2), some (.int (r : Nat)), some (.int (c : Nat)), some (.int (row : Nat)), some (.ref q), some (.ref D), some (.ref y), some (.bl (sameW r c n row cs ds)), lo, none], ?_, ?_⟩
    · refine ⟨_, rfl, _, _, rfl, rfl, _, rfl, ?_⟩
      refine ite2 (fun hr1 => ?_) (fun _ => ⟨.refl _, none, rfl⟩)
      have hr1 := of_decide_eq_true hr1
      have hr1 : 1 < r := by omega
      have hmod : (row + 1) % r < r := Nat.mod_lt _ (by omega)
      have efm : (((row : Nat) : Int) + 1).fmod ((r : Nat) : Int) = (((row + 1) % r : Nat) : Int) := by rw [show ((row : Nat) : Int) + 1 = ((row + 1 : Nat) : Int) by omega, fm]
      have hne : ¬ row = (row + 1) % r := by
        by_cases h : row + 1 = r
        · rw [h, Nat.mod_self]; omega
        · rw [Nat.mod_eq_of_lt (by omega)]; omega
      refine ⟨_, rfl, _, rfl, _, _, rfl, rfl, .inl ⟨_, rfl, _, rfl, _, _, rfl, rfl, by omega, _, rfl, q, _, rfl, .inl (seqL_of hq4), fun X hX => ?_⟩⟩
      have x1 := ex_new (o := .lst ws) hX
      intro y5 dy5 hy hdy hne5
      show spRInit a [.ref y5, .ref s2, .int ((((row : Nat) : Int) + 1).fmod ((r : Nat) : Int)), .ref X] _ _ _
      rw [efm]
      refine rinit hy hdy hne5 (sc4.mono x1) hmod upd_same (hc4.mono x1) ok h6 fun G5 x2 ra => ⟨rfl, ?_⟩
      have s5 := x1.trans x2
      have ru5 := ru4.mono s5
      have hp5 := s5 _ _ hp4
      obtain ⟨dy5, _, _, _, hy5, _⟩ := ra.ob
      have e3 : ∀ x : Bool, V.bl (decide (r = r) && decide (c = c) && decide (row = (row + 1) % r) && x) = .bl false := fun x => by rw [decide_eq_false hne]; simp
      have e4 : ∀ x : Bool, V.bl (decide (r = r) && decide (c = c) && decide ((row + 1) % r = row) && x) = .bl false := fun x => by rw [decide_eq_false (show ¬ ((row + 1) % r = row) from fun h => hne h.symm)]; simp
      refine ⟨_, rfl, _, rfl, p, dp, _, rfl, hp5, .inr (.inr ⟨y5, dy5, _, rfl, hy5⟩), p, s, r, c, n, row, cs, _, rfl, ru5, .inr (.inr ⟨y5, s2, r, c, n, _, cs, rfl, ra, _, rfl, ?_⟩)⟩
      refine ⟨_, _, .bl false, rfl, e3 _, rfl, (bd _).1, (bd _).2, _, rfl, iteF ?_⟩
      refine ⟨_, rfl, _, rfl, y5, dy5, _, rfl, hy5, .inr (.inr ⟨p, dp, _, rfl, hp5⟩), y5, s2, r, c, n, _, cs, _, rfl, ra, .inr (.inr ⟨p, s, r, c, n, row, cs, rfl, ru5, _, rfl, ?_⟩)⟩
      exact ⟨_, _, .bl false, rfl, e4 _, rfl, (bd _).1, (bd _).2, _, rfl, iteF ⟨s5, _, rfl⟩⟩
    rintro σ G5 ⟨s45, lo, rfl⟩
    have ru5 := ru4.mono s45
    have hq5 := s45 _ _ hq4
    have hc5 := hc4.mono s45
    have z : ∀ G, Same G5 G → Q (.bl true) G := fun G s => z G (s45.trans s)
    clear s45 ru4 hq4 hc4 hp4 sc4
    refine fun s6 dx6 h61 h62 h63 => init_good (r := 1) (c := 3) (n := 3) (by decide) h61 h62 h63 fun G6 k6 sch6 => ?_
    refine ⟨by decide, fun F hF => ?_⟩
    have k7 := k6.trans (ex_new (o := .lst []) hF)
    intro y7 dy7 h71 h72 h73
    refine rinit (row := 0) (ws := []) (cs := []) h71 h72 h73 (sch6.mono (ex_new hF)) (by decide) upd_same ⟨rfl, nofun⟩ nofun (by decide) fun G8 k8 ra8 => ⟨rfl, ?_⟩
    have k58 := k7.trans k8
    clear k6 k7 k8 hF h61 h62 h63 h71 h72 h73 sch6
    refine ⟨fun σ G => ∃ (st s3 : Addr) (r3 c3 n3 row3 : Nat) (cs3 : List Cl), Same G5 G ∧ RuleAt a G st s3 r3 c3 n3 row3 cs3 ∧ ¬ (r = r3 ∧ c = c3) ∧ σ = [some (.ref b), some (.ref p), some (.ref s2), some (.int (r : Nat)), some (.int (c : Nat)), some (.int (row : Nat)), some (.ref q), some (.ref D), some (.ref y), some (.bl (sameW r c n row cs ds)), lo, some (.ref st)], ?_, ?_⟩
    · refine ⟨_, rfl, rfl, _, rfl, ?_⟩
      rw [decV (i := 1) (n := 1) rfl]
      have other : ¬ (r = 1 ∧ c = 3) → ∃ (st s3 : Addr) (r3 c3 n3 row3 : Nat) (cs3 : List Cl), Same G5 G8 ∧ RuleAt a G8 st s3 r3 c3 n3 row3 cs3 ∧ ¬ (r = r3 ∧ c = c3) ∧ [some (.ref b), some (.ref p), some (.ref s2), some (.int (r : Nat)), some (.int (c : Nat)), some (.int (row : Nat)), some (.ref q), some (.ref D), some (.ref y), some (.bl (sameW r c n row cs ds)), lo, some (.ref y7)] = [some (.ref b), some (.ref p), some (.ref s2), some (.int (r : Nat)), some (.int (c : Nat)), some (.int (row : Nat)), some (.ref q), some (.ref D), some (.ref y), some (.bl (sameW r c n row cs ds)), lo, some (.ref st)] := fun h => ⟨y7, s6, 1, 3, 3, 0, [], k58, ra8, h, rfl⟩
      by_cases r1 : r = 1
      · rw [decide_eq_true r1]
        refine iteT ⟨_, rfl, rfl, _, rfl, ?_⟩
        rw [decV (i := 3) (n := 3) rfl]
        by_cases c3 : c = 3
        · rw [decide_eq_true c3]
          refine iteT fun s9 dx9 h91 h92 h93 => init_good (r := 1) (c := 2) (n := 2) (by decide) h91 h92 h93 fun G9 k9 sch9 => ?_
          refine ⟨by decide, fun F hF => ?_⟩
          have k10 := k9.trans (ex_new (o := .lst []) hF)
          intro y7 dy7 h71 h72 h73
          refine rinit (row := 0) (ws := []) (cs := []) h71 h72 h73 (sch9.mono (ex_new hF)) (by decide) upd_same ⟨rfl, nofun⟩ nofun (by decide) fun G11 k11 ra11 => ⟨rfl, ?_⟩
          exact ⟨y7, s9, 1, 2, 2, 0, [], k58.trans (k10.trans k11), ra11, by omega, rfl⟩
        · rw [decide_eq_false c3]
          exact iteF (other fun h => c3 h.2)
      · rw [decide_eq_false r1]
        exact iteF (other fun h => r1 h.1)
    rintro σ G ⟨st, s3, r3, c3, n3, row3, cs3, sm, rst, ne3, rfl⟩
    have ruG := ru5.mono sm
    have hqG := sm _ _ hq5
    have hcG := hc5.mono sm
    obtain ⟨dp, _, _, _, hpG, _⟩ := ruG.ob
    obtain ⟨dst, _, _, _, hst, _⟩ := rst.ob
    have e5 : ∀ x : Bool, V.bl (decide (r = r3) && decide (c = c3) && decide (row = row3) && x) = .bl false := fun x => by
      rw [show (decide (r = r3) && decide (c = c3)) = false from by rw [← Bool.decide_and]; exact decide_eq_false ne3]
      rfl
    have e6 : ∀ x : Bool, V.bl (decide (r3 = r) && decide (c3 = c) && decide (row3 = row) && x) = .bl false := fun x => by
      rw [show (decide (r3 = r) && decide (c3 = c)) = false from by rw [← Bool.decide_and]; exact decide_eq_false fun h => ne3 ⟨h.1.symm, h.2.symm⟩]
      rfl
    refine ⟨_, rfl, _, rfl, p, dp, _, rfl, hpG, .inr (.inr ⟨st, dst, _, rfl, hst⟩), p, s, r, c, n, row, cs, _, rfl, ruG, .inr (.inr ⟨st, s3, r3, c3, n3, row3, cs3, rfl, rst, _, rfl, ?_⟩)⟩
    refine ⟨_, _, .bl false, rfl, e5 _, rfl, (bd _).1, (bd _).2, _, rfl, iteF ?_⟩
    refine ⟨_, rfl, _, rfl, st, dst, _, rfl, hst, .inr (.inr ⟨p, dp, _, rfl, hpG⟩), st, s3, r3, c3, n3, row3, cs3, _, rfl, rst, .inr (.inr ⟨p, s, r, c, n, row, cs, rfl, ruG, _, rfl, ?_⟩)⟩
    refine ⟨_, _, .bl false, rfl, e6 _, rfl, (bd _).1, (bd _).2, _, rfl, iteF ?_⟩
    refine ⟨_, rfl, _, rfl, _, rfl, q, ws, cs.map toRc, row, rfl, hqG, cls_rcs hcG, cls_small (by omega) (by omega) ok, by rw [List.length_map]; omega, by omega, fun G7 s7 => ?_⟩
    have ru7 := ruG.mono s7
    have hp7 := s7 _ _ hpG
    refine ⟨p, dp, _, rfl, hp7, .inr (.inl ⟨_, rfl⟩), p, s, r, c, n, row, cs, _, rfl, ru7, .inr (.inl ⟨_, rfl, _, rfl, ?_⟩)⟩
    refine ⟨_, _, .bl false, rfl, rfl, rfl, (bd _).1, (bd _).2, _, rfl, iteT ?_⟩
    refine ⟨_, rfl, p, dp, _, rfl, hp7, .inl ⟨_, rfl⟩, p, s, r, c, n, row, cs, _, rfl, ru7, .inl ⟨_, rfl, _, rfl, ?_⟩⟩
    exact ⟨_, _, .bl false, rfl, rfl, rfl, (bd _).1, (bd _).2, z _ (sm.trans s7)⟩
end
end K23

end
section
set_option Elab.async false
set_option linter.all false
set_option maxRecDepth 100000
set_option maxHeartbeats 4000000
namespace K23
open PySem PySem.Spec PyProof.Rows L2 Kit
section
variable {P : Program} {w : World} {K : PySem.W.Frag} {mg : Str → Option Value} {base : Heap} {a : Ad}
def badVals (c : Nat) : List (List Nat) := [[], [35, 48], [48, 49], [48 + c], [97], [45], [46], [32, 48]]
theorem bad_vals {c : Nat} (hc : c = 2 ∨ c = 3) : ∀ l ∈ badVals c, signB c l = false ∧ l.length ≤ 2 := by
  rcases hc with rfl | rfl <;> decide +kernel
def badCols (n : Nat) : List (List Nat) := [[], [97, 98], [97 + n], [65], [49], [97, 97], [35]]
theorem bad_cols {n : Nat} (hn : 0 < n ∧ n ≤ 9) : ∀ l ∈ badCols n, isCol n l = false ∧ l.length ≤ 2 := by
  have z : ∀ n < 10, 0 < n → ∀ l ∈ badCols n, isCol n l = false ∧ l.length ≤ 2 := by decide +kernel
  exact z n (by omega) hn.1
theorem sign_vals {c : Nat} (hc : c = 2 ∨ c = 3) : ∀ d < 3, ∃ x, atI (Str.ofString "#01").cps.toList ((d : Nat) : Int) = some x ∧ signB c [x] = true := by
  intro d hd
  rcases (show d = 0 ∨ d = 1 ∨ d = 2 by omega) with rfl | rfl | rfl
  · exact ⟨35, by decide +kernel, by rcases hc with rfl | rfl <;> decide +kernel⟩
  · exact ⟨48, by decide +kernel, by rcases hc with rfl | rfl <;> decide +kernel⟩
  · exact ⟨49, by decide +kernel, by rcases hc with rfl | rfl <;> decide +kernel⟩
theorem let_at9 : ∀ d < 9, atI (Str.ofString "abcdefghi").cps.toList ((d : Nat) : Int) = some (97 + d) := by decide +kernel
theorem let_at10 : ∀ d < 10, atI (Str.ofString "abcdefghij").cps.toList ((d : Nat) : Int) = some (97 + d) := by decide +kernel
def badV (c : Nat) : List V := [.str (Str.ofString ""), .str (Str.ofString "#0"), .str (Str.ofString "01"), .str (S [48 + c]), .str (Str.ofString "a"), .str (Str.ofString "-"), .str (Str.ofString "."), .str (Str.ofString " 0")]
theorem bad_at {c : Nat} {d : Int} (h0 : 0 ≤ d) (h1 : d < 8) : ∃ l, atI (badV c) d = some (tx l) ∧ l ∈ badVals c := by
  rcases (show d = 0 ∨ d = 1 ∨ d = 2 ∨ d = 3 ∨ d = 4 ∨ d = 5 ∨ d = 6 ∨ d = 7 by omega) with rfl | rfl | rfl | rfl | rfl | rfl | rfl | rfl
  · exact ⟨[], congrArg (fun z => some (V.str z)) (by decide +kernel), by simp [badVals]⟩
  · exact ⟨[35, 48], congrArg (fun z => some (V.str z)) (by decide +kernel), by simp [badVals]⟩
  · exact ⟨[48, 49], congrArg (fun z => some (V.str z)) (by decide +kernel), by simp [badVals]⟩
  · exact ⟨[48 + c], rfl, by simp [badVals]⟩
  · exact ⟨[97], congrArg (fun z => some (V.str z)) (by decide +kernel), by simp [badVals]⟩
  · exact ⟨[45], congrArg (fun z => some (V.str z)) (by decide +kernel), by simp [badVals]⟩
  · exact ⟨[46], congrArg (fun z => some (V.str z)) (by decide +kernel), by simp [badVals]⟩
  · exact ⟨[32, 48], congrArg (fun z => some (V.str z)) (by decide +kernel), by simp [badVals]⟩
def badC (n : Nat) : List V := [.str (Str.ofString ""), .str (Str.ofString "ab"), tx [97 + n], .str (Str.ofString "A"), .str (Str.ofString "1"), .str (Str.ofString "aa"), .str (Str.ofString "#")]
theorem badc_at {n : Nat} {d : Int} (h0 : 0 ≤ d) (h1 : d < 7) : ∃ l, atI (badC n) d = some (tx l) ∧ l ∈ badCols n := by
  rcases (show d = 0 ∨ d = 1 ∨ d = 2 ∨ d = 3 ∨ d = 4 ∨ d = 5 ∨ d = 6 by omega) with rfl | rfl | rfl | rfl | rfl | rfl | rfl
  · exact ⟨[], congrArg (fun z => some (V.str z)) (by decide +kernel), by simp [badCols]⟩
  · exact ⟨[97, 98], congrArg (fun z => some (V.str z)) (by decide +kernel), by simp [badCols]⟩
  · exact ⟨[97 + n], rfl, by simp [badCols]⟩
  · exact ⟨[65], congrArg (fun z => some (V.str z)) (by decide +kernel), by simp [badCols]⟩
  · exact ⟨[49], congrArg (fun z => some (V.str z)) (by decide +kernel), by simp [badCols]⟩
  · exact ⟨[97, 97], congrArg (fun z => some (V.str z)) (by decide +kernel), by simp [badCols]⟩
  · exact ⟨[35], congrArg (fun z => some (V.str z)) (by decide +kernel), by simp [badCols]⟩
def spRefVals (a : Ad) : Sp := fun vs H Q _ => ∃ (b p s : Addr) (r c n row k : Nat) (cs : List Cl), vs = [.ref b, .ref p, .int n, .int c] ∧ RuleAt a H p s r c n row cs ∧ BoxAt (k + 7) H b ∧ ∀ G, Bu k b H G → Q (.bl true) G
theorem c_law_refuses_values (T : Txt K mg a) : Can P w K mg base 7 "_law_refuses_values" (spRefVals a) := by
  refine can_of T.d_law_refuses_values sc_law_refuses_values bd_law_refuses_values (fun vs H Q E h => ?_) (fun f cdv A outer s0 H vs Q E hr h => ?_)
  · obtain ⟨b, p, s, r, c, n, row, k, cs, rfl, _⟩ := h
    rfl
  · obtain ⟨b, p, s, r, c, n, row, k, cs, rfl, ru, hb, z⟩ := h
    refine ⟨_, (pss_cons (ps_set (i := 4) sc_law_refuses_values.nd rfl (.inl rfl) (pe_op op_add pe_int (pc_f (c_law_take T) hr (by decide) (by rfl) (pa_cons (pv 0) (pa_cons pe_int pa_nil)))))
      (pss_cons (ps_set (i := 5) sc_law_refuses_values.nd rfl (.inl rfl) (pe_ix ix_str pe_str (pc_f (c_law_take T) hr (by decide) (by rfl) (pa_cons (pv 0) (pa_cons pe_int pa_nil))) (fun _ _ => rfl)))
      (pss_cons (ps_set (i := 6) sc_law_refuses_values.nd rfl (.inl rfl) (pe_ix ix_str pe_str (pc_f (c_law_take T) hr (by decide) (by rfl) (pa_cons (pv 0) (pa_cons (pv 2) pa_nil))) (fun _ _ => rfl)))
      (pss_cons (ps_set (i := 7) sc_law_refuses_values.nd rfl (.inl rfl) (pe_ix ix_str pe_str (pc_f (c_law_take T) hr (by decide) (by rfl) (pa_cons (pv 0) (pa_cons pe_int pa_nil))) (fun _ _ => rfl)))
      (pss_cons (ps_set (i := 8) sc_law_refuses_values.nd rfl (.inl rfl) (pe_lst (pa_cons pe_str (pa_cons pe_str (pa_cons pe_str (pa_cons (pe_callTy call_str_int (by rfl) T.b_str (by decide +kernel) (pa_cons (pv 3) pa_nil)) (pa_cons pe_str (pa_cons pe_str (pa_cons pe_str (pa_cons pe_str pa_nil))))))))))
      (pss_cons (ps_set (i := 9) sc_law_refuses_values.nd rfl (.inl rfl) (pe_tup (pa_cons pe_str pa_nil)))
      (C8.pss_cut (ps_if (pt_cmpR op_eq (pe_op op_fdivN (pv 4) pe_int) pe_int (nomark _)) (pss_cons (ps_set (i := 7) sc_law_refuses_values.nd rfl (.inl rfl) (pe_ix (kix_list K) (pv 8) (pc_f (c_law_take T) hr (by decide) (by rfl) (pa_cons (pv 0) (pa_cons pe_int pa_nil))) (fun _ _ => rfl)))
      (pss_one (ps_set (i := 9) sc_law_refuses_values.nd rfl (.inl rfl) (pe_tup (pa_cons pe_str (pa_cons (pv 7) pa_nil)))))) pss_nil)
      (C8.pss_cut (ps_if (pt_cmpR op_eq (pe_op op_modN (pe_callTy call_int1 (by rfl) T.b_int (by decide +kernel) (pa_cons (pe_op op_fdivN (pv 4) pe_int) pa_nil)) pe_int) pe_int (nomark _)) (pss_cons (ps_set (i := 6) sc_law_refuses_values.nd rfl (.inl rfl) (pe_ix (kix_list K) (pe_lst (pa_cons pe_str (pa_cons pe_str (pa_cons (pe_ix ix_str pe_str (pv 2) (fun _ _ => rfl)) (pa_cons pe_str (pa_cons pe_str (pa_cons pe_str (pa_cons pe_str pa_nil)))))))) (pc_f (c_law_take T) hr (by decide) (by rfl) (pa_cons (pv 0) (pa_cons pe_int pa_nil))) (fun _ _ => rfl)))
      (pss_one (ps_set (i := 9) sc_law_refuses_values.nd rfl (.inl rfl) (pe_tup (pa_cons pe_str (pa_cons (pv 6) pa_nil)))))) pss_nil)
      (C8.pss_cut (ps_if (pt_cmpR op_eq (pe_op op_modN (pe_callTy call_int1 (by rfl) T.b_int (by decide +kernel) (pa_cons (pv 4) pa_nil)) pe_int) pe_int (nomark _)) (pss_cons (ps_set (i := 5) sc_law_refuses_values.nd rfl (.inl rfl) (pe_ix (kix_list K) (pv 8) (pc_f (c_law_take T) hr (by decide) (by rfl) (pa_cons (pv 0) (pa_cons pe_int pa_nil))) (fun _ _ => rfl)))
      (pss_one (ps_set (i := 9) sc_law_refuses_values.nd rfl (.inl rfl) (pe_tup (pa_cons pe_str (pa_cons (pv 5) pa_nil)))))) pss_nil)
      (pss_cons (ps_set (i := 10) sc_law_refuses_values.nd rfl (.inl rfl) (pe_tup (pa_cons pe_str pa_nil)))
      (pss_cons (ps_try_as (i := 11) (tb := _) rfl rfl sc_law_refuses_values.nd rfl rfl ⟨rfl, by decide, .inl T.g_GalloonError⟩ takes0 (fun W pn xe tk po => (pss_one (ps_expr (pc_mS (c_Rule_value T) tk hr (by decide) (pv 1) (pa_cons (pv 5) (pa_cons (pv 6) (pa_cons (pv 7) pa_nil))))))) (fun ae oe cls d pn hz hf => (pss_one (ps_set (i := 10) sc_law_refuses_values.nd rfl (.inl rfl) (pc_E (c_law_told T) hz hf hr (by decide) (by rfl) (pa_cons (pv 11) pa_nil))))))
      (pss_one (ps_ret (pc_f (c_law_same T) hr (by decide) (by rfl) (pa_cons (pv 10) (pa_cons (pv 9) pa_nil)))))))))))))))), ?_⟩
    have gn := good_n ru.sch.2
    have gc := good_c ru.sch.2
    obtain ⟨dx, q, d, ws, hp, _⟩ := ru.ob
    have lg : ((c : Nat) : Int).natAbs.log2 < 1920 := by rcases gc with rfl | rfl <;> decide +kernel
    have es : Str.ofString (toString ((c : Nat) : Int)) = S [48 + c] := by rcases gc with rfl | rfl <;> decide +kernel
    refine ⟨_, rfl, b, 7, k + 6, rfl, hb, by decide, by decide, fun d1 G1 d10 d11 u1 => ?_⟩
    refine ⟨_, _, rfl, rfl, ?_⟩
    obtain ⟨wn, hwn, w0, w1⟩ : ∃ x : Nat, 1 + d1 = (x : Nat) ∧ 0 < x ∧ x < 8 := ⟨(1 + d1).toNat, by omega, by omega, by omega⟩
    rw [show (fun i j : Int => V.int (i + j)) 1 d1 = V.int wn from congrArg V.int hwn]
    refine ⟨_, rfl, b, 3, k + 5, rfl, u1.box, by decide, by decide, fun d2 G2 d20 d21 u2 => ?_⟩
    obtain ⟨d2, rfl⟩ : ∃ m : Nat, d2 = (m : Int) := ⟨d2.toNat, by omega⟩
    obtain ⟨x1, hx1, ok1⟩ := sign_vals gc d2 (by omega)
    refine ⟨_, _, x1, rfl, rfl, by decide +kernel, hx1, ?_⟩
    refine ⟨_, rfl, _, rfl, b, n, k + 4, rfl, u2.box, by omega, by omega, fun d3 G3 d30 d31 u3 => ?_⟩
    obtain ⟨d3, rfl⟩ : ∃ m : Nat, d3 = (m : Int) := ⟨d3.toNat, by omega⟩
    refine ⟨_, _, 97 + d3, rfl, rfl, by decide +kernel, let_at9 d3 (by omega), ?_⟩
    refine ⟨_, rfl, b, 3, k + 3, rfl, u3.box, by decide, by decide, fun d4 G4 d40 d41 u4 => ?_⟩
    obtain ⟨d4, rfl⟩ : ∃ m : Nat, d4 = (m : Int) := ⟨d4.toNat, by omega⟩
    obtain ⟨x2, hx2, ok2⟩ := sign_vals gc d4 (by omega)
    refine ⟨_, _, x2, rfl, rfl, by decide +kernel, hx2, ?_⟩
    have u14 := ((u1.trans u2).trans u3).trans u4
    refine ⟨_, rfl, _, rfl, lg, ?_⟩
    rw [es]
    refine ⟨by show 8 ≤ sizeLine; decide, fun B hB => ?_⟩
    have hBb := box_ne u4.box hB
    have u5 : Bu (k + 3) b H (upd G4 B (.lst (badV c))) := u14.put2 hB
    refine ⟨by show 1 ≤ sizeLine; decide, fun dq hdq => ?_⟩
    have u6 := u5.put2 (o := .tup [.str (Str.ofString "none")]) hdq
    have hB6 : (upd (upd G4 B (.lst (badV c))) dq (.tup [.str (Str.ofString "none")])) B = some (.lst (badV c)) := by rw [upd_ne (ne_some hdq upd_same)]; exact upd_same
    have hd6 : (upd (upd G4 B (.lst (badV c))) dq (.tup [.str (Str.ofString "none")])) dq = some (.tup [.str (Str.ofString "none")]) := upd_same
    refine ⟨fun σ G => ∃ (x : List Nat) (dq : Addr) (dv : List V), Bu (k + 2) b H G ∧ G B = some (.lst (badV c)) ∧ G dq = some (.tup dv) ∧ x.length ≤ 1000 ∧ ((signB c x = false ∧ dv = (Tl.colour x).vs) ∨ (signB c x = true ∧ wn / 4 ≠ 1)) ∧ σ = [some (.ref b), some (.ref p), some (.int (n : Nat)), some (.int (c : Nat)), some (.int (wn : Nat)), some (tx [x1]), some (tx [97 + d3]), some (tx x), some (.ref B), some (.ref dq), none, none], ?_, ?_⟩
    · refine ⟨_, rfl, _, _, rfl, rfl, ⟨by decide, by decide⟩, rfl, _, rfl, ?_⟩
      show if decide (V.int (((wn : Nat) : Int).fdiv 4) = V.int 1) = true then _ else _
      rw [show decide (V.int (((wn : Nat) : Int).fdiv 4) = V.int 1) = decide (wn / 4 = 1) by rw [show (4 : Int) = ((4 : Nat) : Int) from rfl, fd]; exact decV rfl]
      by_cases h4 : wn / 4 = 1
      · rw [decide_eq_true h4]
        refine iteT ⟨_, rfl, _, rfl, b, 8, k + 2, rfl, u6.box, by decide, by decide, fun d5 G7 d50 d51 u7 => ?_⟩
        obtain ⟨l, hl, hm⟩ := bad_at (c := c) d50 d51
        obtain ⟨n1, n2⟩ := bad_vals gc l hm
        have hB7 := u7.1 _ _ hB6 hBb
        refine ⟨B, _, _, _, rfl, rfl, seqL_of hB7, hl, ?_⟩
        refine ⟨_, rfl, by show 2 ≤ sizeLine; decide, fun d2q hd2 => ?_⟩
        refine ⟨l, d2q, _, (u6.trans u7).put2 hd2, by rw [upd_ne (ne_some hd2 hB7)]; exact hB7, upd_same, by omega, .inl ⟨n1, rfl⟩, rfl⟩
      · rw [decide_eq_false h4]
        exact iteF ⟨[x2], dq, _, u6.le (by omega), hB6, hd6, by show 1 ≤ 1000; decide, .inr ⟨ok2, h4⟩, rfl⟩
    clear u6 hB6 hd6 u5 hdq hB u14 u4 u3 u2 u1
    rintro σ G ⟨x, dq, dv, u6, hB6, hd6, lx, cond, rfl⟩
    have qm : decide (V.int ((((wn : Nat) : Int).fdiv 2).fmod 2) = V.int 1) = decide (wn / 2 % 2 = 1) := by
      rw [show (2 : Int) = ((2 : Nat) : Int) from rfl, fd, fm]
      exact decV rfl
    have qm1 : decide (V.int (((wn : Nat) : Int).fmod 2) = V.int 1) = decide (wn % 2 = 1) := by
      rw [show (2 : Int) = ((2 : Nat) : Int) from rfl, fm]
      exact decV rfl
    refine ⟨fun σ G => ∃ (m x : List Nat) (dq : Addr) (dv : List V), Bu (k + 1) b H G ∧ G B = some (.lst (badV c)) ∧ G dq = some (.tup dv) ∧ x.length ≤ 1000 ∧ m.length ≤ 1000 ∧ ((isCol n m = false ∧ dv = (Tl.column m).vs) ∨ (isCol n m = true ∧ signB c x = false ∧ dv = (Tl.colour x).vs) ∨ (isCol n m = true ∧ signB c x = true ∧ wn / 4 ≠ 1 ∧ ¬ wn / 2 % 2 = 1)) ∧ σ = [some (.ref b), some (.ref p), some (.int (n : Nat)), some (.int (c : Nat)), some (.int (wn : Nat)), some (tx [x1]), some (tx m), some (tx x), some (.ref B), some (.ref dq), none, none], ?_, ?_⟩
    · refine ⟨_, rfl, _, _, rfl, rfl, ⟨by decide, by decide⟩, .inl ⟨_, rfl, _, _, rfl, rfl, (by decide : (2 : Int) ≠ 0), rfl, _, rfl, ?_⟩⟩
      show if decide (V.int ((((wn : Nat) : Int).fdiv 2).fmod 2) = V.int 1) = true then _ else _
      rw [qm]
      by_cases h2 : wn / 2 % 2 = 1
      · rw [decide_eq_true h2]
        refine iteT ⟨_, rfl, _, _, 97 + n, rfl, rfl, by decide +kernel, let_at10 n (by omega), by show 7 ≤ sizeLine; decide, fun C hC => ?_⟩
        have u7 := u6.put2 (o := .lst (badC n)) hC
        have hCb := box_ne u6.box hC
        refine ⟨_, rfl, b, 7, k + 1, rfl, u7.box, by decide, by decide, fun d5 G8 d50 d51 u8 => ?_⟩
        obtain ⟨l, hl, hm⟩ := badc_at (n := n) d50 d51
        obtain ⟨n1, n2⟩ := bad_cols ⟨gn.2.2.2.1, gn.1⟩ l hm
        have hC8 := u8.1 C (.lst (badC n)) upd_same hCb
        have hB8 := u8.1 B (.lst (badV c)) (by rw [upd_ne (ne_some hC hB6)]; exact hB6) hBb
        refine ⟨C, _, _, _, rfl, rfl, seqL_of hC8, hl, ?_⟩
        refine ⟨_, rfl, by show 2 ≤ sizeLine; decide, fun d2q hd2 => ?_⟩
        exact ⟨l, x, d2q, _, (u7.trans u8).put2 hd2, by rw [upd_ne (ne_some hd2 hB8)]; exact hB8, upd_same, lx, by omega, .inl ⟨n1, rfl⟩, rfl⟩
      · rw [decide_eq_false h2]
        have hcol : isCol n [97 + d3] = true := isCol_mk (by unfold inCol; rw [decide_eq_true_iff]; omega)
        exact iteF ⟨[97 + d3], x, dq, _, u6.le (by omega), hB6, hd6, lx, by show 1 ≤ 1000; decide, cond.elim (fun h => .inr (.inl ⟨hcol, h.1, h.2⟩)) (fun h => .inr (.inr ⟨hcol, h.1, h.2, h2⟩)), rfl⟩
    clear u6 hB6 hd6 cond
    rintro σ G ⟨m, x, dq, dv, u6, hB6, hd6, lx, lm, cond, rfl⟩
    refine ⟨fun σ G => ∃ (l m x : List Nat) (dq : Addr) (t : Tl), Bu k b H G ∧ G dq = some (.tup t.vs) ∧ x.length ≤ 1000 ∧ m.length ≤ 1000 ∧ l.length ≤ 1000 ∧ ((signB c l = false ∧ t = .colour l) ∨ (signB c l = true ∧ isCol n m = false ∧ t = .column m) ∨ (signB c l = true ∧ isCol n m = true ∧ signB c x = false ∧ t = .colour x)) ∧ σ = [some (.ref b), some (.ref p), some (.int (n : Nat)), some (.int (c : Nat)), some (.int (wn : Nat)), some (tx l), some (tx m), some (tx x), some (.ref B), some (.ref dq), none, none], ?_, ?_⟩
    · refine ⟨_, rfl, .inl ⟨_, rfl, _, _, rfl, rfl, (by decide : (2 : Int) ≠ 0), rfl, _, rfl, ?_⟩⟩
      show if decide (V.int (((wn : Nat) : Int).fmod 2) = V.int 1) = true then _ else _
      rw [qm1]
      by_cases h1 : wn % 2 = 1
      · rw [decide_eq_true h1]
        refine iteT ⟨_, rfl, _, rfl, b, 8, k, rfl, u6.box, by decide, by decide, fun d5 G7 d50 d51 u7 => ?_⟩
        obtain ⟨l, hl, hm⟩ := bad_at (c := c) d50 d51
        obtain ⟨n1, n2⟩ := bad_vals gc l hm
        have hB7 := u7.1 _ _ hB6 hBb
        refine ⟨B, _, _, _, rfl, rfl, seqL_of hB7, hl, ?_⟩
        refine ⟨_, rfl, by show 2 ≤ sizeLine; decide, fun d2q hd2 => ?_⟩
        exact ⟨l, m, x, d2q, .colour l, (u6.trans u7).put2 hd2, upd_same, lx, lm, by omega, .inl ⟨n1, rfl⟩, rfl⟩
      · rw [decide_eq_false h1]
        refine iteF ?_
        rcases cond with ⟨c1, rfl⟩ | ⟨c1, c2, rfl⟩ | ⟨_, _, c3, c4⟩
        · exact ⟨[x1], m, x, dq, .column m, u6.le (by omega), hd6, lx, lm, by show 1 ≤ 1000; decide, .inr (.inl ⟨ok1, c1, rfl⟩), rfl⟩
        · exact ⟨[x1], m, x, dq, .colour x, u6.le (by omega), hd6, lx, lm, by show 1 ≤ 1000; decide, .inr (.inr ⟨ok1, c1, c2, rfl⟩), rfl⟩
        · omega
    clear u6 hB6 hd6 cond
    rintro σ G ⟨l, m, x, dq, t, u6, hd6, lx, lm, ll, cond, rfl⟩
    refine ⟨by show 1 ≤ sizeLine; decide, fun q0 hq0 => ?_⟩
    have s7 := ex_new (o := .tup [.str (Str.ofString "none")]) hq0
    have ru7 := (ru.bu hb u6).mono s7
    obtain ⟨dx7, _, _, _, hp7, _⟩ := ru7.ob
    have u7 : Bu k b H (upd G q0 (.tup [.str (Str.ofString "none")])) := u6.put2 hq0
    have hd7 := s7 _ _ hd6
    refine ⟨_, rfl, p, dx7, _, rfl, hp7, rf_no _ _ _ _ (by decide +kernel) (by decide +kernel) (by decide +kernel) (by decide +kernel), _, rfl, _, rfl, _, rfl, p, s, r, c, n, row, cs, l, m, x, rfl, ru7, ll, lm, lx, fun e1 d M s8 hd => ?_, fun e1 e2 d M s8 hd => ?_, fun e1 e2 e3 d M s8 hd => ?_, fun e1 e2 e3 => ?_⟩
    · rcases cond with ⟨c1, rfl⟩ | ⟨c1, c2, rfl⟩ | ⟨c1, c2, c3, rfl⟩
      · exact ⟨true, T.xm_e 4 (by decide), fun _ xx hx => ⟨_, rfl, .colour l, rfl, rfl, (show (Tl.colour l).at_ (some d) M from ⟨d, rfl, hd⟩), fun G9 q9 s9 hq9 hG9 => ⟨_, rfl, _, rfl, _, _, (Tl.colour l).due, rfl, rp_due hG9, rp_due ((s8.trans s9) _ _ hd7), (due_small _).1, (due_small _).2, z _ (u7.same (s8.trans s9))⟩⟩, nofun⟩
      · rw [e1] at c1; cases c1
      · rw [e1] at c1; cases c1
    · rcases cond with ⟨c1, rfl⟩ | ⟨c1, c2, rfl⟩ | ⟨c1, c2, c3, rfl⟩
      · rw [e1] at c1; cases c1
      · exact ⟨true, T.xm_e 1 (by decide), fun _ xx hx => ⟨_, rfl, .column m, rfl, rfl, (show (Tl.column m).at_ (some d) M from ⟨d, rfl, hd⟩), fun G9 q9 s9 hq9 hG9 => ⟨_, rfl, _, rfl, _, _, (Tl.column m).due, rfl, rp_due hG9, rp_due ((s8.trans s9) _ _ hd7), (due_small _).1, (due_small _).2, z _ (u7.same (s8.trans s9))⟩⟩, nofun⟩
      · rw [e2] at c2; cases c2
    · rcases cond with ⟨c1, rfl⟩ | ⟨c1, c2, rfl⟩ | ⟨c1, c2, c3, rfl⟩
      · rw [e1] at c1; cases c1
      · rw [e2] at c2; cases c2
      · exact ⟨true, T.xm_e 4 (by decide), fun _ xx hx => ⟨_, rfl, .colour x, rfl, rfl, (show (Tl.colour x).at_ (some d) M from ⟨d, rfl, hd⟩), fun G9 q9 s9 hq9 hG9 => ⟨_, rfl, _, rfl, _, _, (Tl.colour x).due, rfl, rp_due hG9, rp_due ((s8.trans s9) _ _ hd7), (due_small _).1, (due_small _).2, z _ (u7.same (s8.trans s9))⟩⟩, nofun⟩
    · rcases cond with ⟨c1, rfl⟩ | ⟨c1, c2, rfl⟩ | ⟨c1, c2, c3, rfl⟩
      · rw [e1] at c1; cases c1
      · rw [e2] at c2; cases c2
      · rw [e3] at c3; cases c3
end
end K23

end
section
set_option Elab.async false
set_option linter.all false
set_option maxRecDepth 100000
set_option maxHeartbeats 4000000
namespace K23
open PySem PySem.Spec PyProof.Rows L2 Kit
section
variable {P : Program} {w : World} {K : PySem.W.Frag} {mg : Str → Option Value} {base : Heap} {a : Ad}
theorem firstW_at {r c : Nat} : ∀ {rs : List RC} {i m : Nat} {k : RC} {t : String}, rs[m]? = some k → wrongP r c k = some t → (∀ j < m, ∀ x, rs[j]? = some x → wrongP r c x = none) → firstW r c i rs = some (i + m, t)
  | [], i, m, k, t, h, _, _ => by simp at h
  | x :: rs, i, 0, k, t, h, e, _ => by
    have h := Option.some.inj h
    subst h
    rw [firstW_bad e]
    rfl
  | x :: rs, i, m + 1, k, t, h, e, o => by
    rw [firstW_ok (o 0 (Nat.succ_pos _) x rfl), firstW_at (i := i + 1) (m := m) h e fun j hj y hy => o (j + 1) (Nat.succ_lt_succ hj) y hy, show i + 1 + m = i + (m + 1) by omega]
theorem RcsL.tak {H : Hp} {us : List V} {cs : List RC} (h : RcsL H us cs) (p : Nat) : RcsL H (us.take p) (cs.take p) := by
  refine ⟨by rw [List.length_take, List.length_take, h.1], fun i x hx => ?_⟩
  have hi : i < p := by
    have := (List.getElem?_eq_some_iff.mp hx).1
    rw [List.length_take] at this
    omega
  rw [List.getElem?_take_of_lt hi] at hx
  obtain ⟨q, h1, h2⟩ := h.2 i x hx
  exact ⟨q, by rw [List.getElem?_take_of_lt hi]; exact h1, h2⟩
theorem RcsL.set {H : Hp} {us : List V} {cs : List RC} {u : Addr} {k : RC} (h : RcsL H us cs) (hu : RcAt H u k) (m : Nat) : RcsL H (us.set m (.ref u)) (cs.set m k) := by
  refine ⟨by rw [List.length_set, List.length_set, h.1], fun i x hx => ?_⟩
  rw [List.getElem?_set] at hx ⊢
  by_cases e : m = i
  · rw [if_pos e] at hx ⊢
    have hl : m < cs.length := by
      by_cases q : m < cs.length
      · exact q
      · rw [if_neg q] at hx; cases hx
    rw [if_pos hl] at hx
    rw [if_pos (by rw [h.1]; exact hl)]
    have hx := Option.some.inj hx
    subst hx
    exact ⟨u, rfl, hu⟩
  · rw [if_neg e] at hx ⊢
    exact h.2 i x hx
theorem rcs_rep {H : Hp} {u : Addr} {k : RC} (h : RcAt H u k) (m : Nat) : RcsL H (List.replicate m (.ref u)) (List.replicate m k) := by
  refine ⟨by rw [List.length_replicate, List.length_replicate], fun i x hx => ?_⟩
  rw [List.getElem?_replicate] at hx ⊢
  by_cases e : i < m
  · rw [if_pos e] at hx ⊢
    have hx := Option.some.inj hx
    subst hx
    exact ⟨u, rfl, h⟩
  · rw [if_neg e] at hx
    cases hx
theorem ixN_nat {n j : Nat} (h : j < n) : ixN n ((j : Nat) : Int) = some j := by
  unfold ixN
  rw [if_pos (by omega), if_pos (by omega)]
  rfl
theorem tup_upd {H : Hp} {L q : Addr} {xs ys zs : List V} (hL : H L = some (.lst xs)) (hq : H q = some (.tup zs)) : (upd H L (.lst ys)) q = some (.tup zs) := by
  rw [upd_ne fun e => by rw [e, hL] at hq; cases hq]
  exact hq
def Fault (r c : Nat) (row : Int) (rs : List RC) (t : Tl) : Prop := (¬ inRow r row ∧ t = .row row) ∨ (inRow r row ∧ 6 < rs.length ∧ t = .many) ∨ (inRow r row ∧ rs.length ≤ 6 ∧ ∃ i x, firstW r c 0 rs = some (i, x) ∧ t = .clause i x)
def okRcs (rs : List RC) : Prop := ∀ k ∈ rs, RcSmall k ∧ RcClean k
theorem okRcs.set {rs : List RC} {k : RC} {m : Nat} (h : okRcs rs) (hk : RcSmall k ∧ RcClean k) : okRcs (rs.set m k) := fun x hx => by
  rcases List.mem_or_eq_of_mem_set hx with e | e
  · exact h x e
  · rw [e]; exact hk
def spFaulty : Sp := fun vs H Q _ => ∃ (b q : Addr) (r c n k row : Nat) (ws : List V) (cs : List Cl) (dg : Bool), vs = [.ref b, .int r, .int c, .int row, .ref q, .bl dg] ∧ Good r c n ∧ row < r ∧ BoxAt (k + 25) H b ∧ H q = some (.lst ws) ∧ ClsL H ws cs ∧ okCls r c cs ∧ cs.length ≤ 6 ∧
  ∀ u D tq row' ws' rs t G, G u = some (.tup [.int row', .ref D, .ref tq]) → G D = some (.lst ws') → RcsL G ws' rs → okRcs rs → 0 < rs.length → rs.length ≤ 9 → Fault r c row' rs t → G tq = some (.tup t.vs) → (dg = true → 0 ≤ row' ∧ row' < 10) → Bu k b H G → Q (.ref u) G
theorem c_law_faulty (T : Txt K mg a) : Can P w K mg base 5 "_law_faulty" spFaulty := by
  refine can_of T.d_law_faulty sc_law_faulty bd_law_faulty (fun vs H Q E h => ?_) (fun f cdv A outer s0 H vs Q E hr h => ?_)
  · obtain ⟨b, q, r, c, n, k, row, ws, cs, dg, rfl, _⟩ := h
    rfl
  · obtain ⟨b, q, r, c, n, k, row, ws, cs, dg, rfl, gd, hrow, hb, hq, hcl, ok, h6, z⟩ := h
    refine ⟨_, (pss_cons (ps_set (i := 6) sc_law_faulty.nd rfl (.inl rfl) (pe_op op_add pe_int (pc_f (c_law_take T) hr (by decide) (by rfl) (pa_cons (pv 0) (pa_cons pe_int pa_nil)))))
      (pss_cons (ps_set (i := 7) sc_law_faulty.nd rfl (.inl rfl) (pc_f (c_law_clause T) hr (by decide) (by rfl) (pa_cons (pv 0) (pa_cons (pv 1) (pa_cons (pv 2) (pa_cons (pv 3) (pa_cons pe_int pa_nil)))))))
      (pss_cons (ps_set (i := 8) sc_law_faulty.nd rfl (.inl rfl) (pe_slice (ksl_list K) (pe_op op_cat (pv 4) (pe_lst (pa_cons (pv 7) pa_nil))) po_none (po_some pe_int)))
      (pss_cons (ps_set (i := 9) sc_law_faulty.nd rfl (.inl rfl) (pe_tup (pa_cons pe_str pa_nil)))
      (C8.pss_cut (ps_if (pt_cmpR op_eq (pe_op op_fdivN (pv 6) pe_int) pe_int (nomark _)) (pss_cons (ps_set (i := 10) sc_law_faulty.nd rfl (.inl rfl) (pc_f (c_law_take T) hr (by decide) (by rfl) (pa_cons (pv 0) (pa_cons (pe_callB (klen_seq K) (by rfl) T.b_len (by decide +kernel) (pa_cons (pv 8) pa_nil)) pa_nil))))
      (pss_cons (ps_set (i := 11) sc_law_faulty.nd rfl (.inl rfl) (pc_f (c_law_take T) hr (by decide) (by rfl) (pa_cons (pv 0) (pa_cons (pe_callB (klen_seq K) (by rfl) T.b_len (by decide +kernel) (pa_cons (pv 8) pa_nil)) pa_nil))))
      (pss_cons (ps_set (i := 12) sc_law_faulty.nd rfl (.inl rfl) (pc_f (c_law_bent T) hr (by decide) (by rfl) (pa_cons (pv 0) (pa_cons (pe_ix (kix_list K) (pv 8) (pv 10) (fun _ _ => rfl)) (pa_cons (pv 1) (pa_cons (pv 2) pa_nil))))))
      (C8.pss_cut (ps_if (pt_cmpR op_gt (pv 11) (pv 10) (nomark _)) (pss_one (ps_asg (pe_ix (kix_tup K) (pc_f (c_law_bent T) hr (by decide) (by rfl) (pa_cons (pv 0) (pa_cons (pe_ix (kix_list K) (pv 8) (pv 11) (fun _ _ => rfl)) (pa_cons (pv 1) (pa_cons (pv 2) pa_nil))))) pe_int (fun _ _ => rfl)) (pg_sub (pv 8) (pv 11) set_list))) pss_nil)
      (pss_cons (ps_asg (pe_ix (kix_tup K) (pv 12) pe_int (fun _ _ => rfl)) (pg_sub (pv 8) (pv 10) set_list))
      (pss_one (ps_set (i := 9) sc_law_faulty.nd rfl (.inl rfl) (pe_tup (pa_cons pe_str (pa_cons (pv 10) (pa_cons (pe_ix (kix_tup K) (pv 12) pe_int (fun _ _ => rfl)) pa_nil))))))))))) pss_nil)
      (C8.pss_cut (ps_if (pt_cmpR op_eq (pe_op op_modN (pe_callTy call_int1 (by rfl) T.b_int (by decide +kernel) (pa_cons (pe_op op_fdivN (pv 6) pe_int) pa_nil)) pe_int) pe_int (nomark _)) (pss_cons (ps_set (i := 8) sc_law_faulty.nd rfl (.inl rfl) (pe_slice (ksl_list K) (pe_op op_cat (pv 8) (pe_op op_rep (pe_lst (pa_cons (pv 7) pa_nil)) pe_int)) po_none (po_some (pe_op op_add pe_int (pc_f (c_law_take T) hr (by decide) (by rfl) (pa_cons (pv 0) (pa_cons pe_int pa_nil)))))))
      (pss_one (ps_set (i := 9) sc_law_faulty.nd rfl (.inl rfl) (pe_tup (pa_cons pe_str (pa_cons pe_int pa_nil)))))) pss_nil)
      (C8.pss_cut (ps_if (pt_cmpR op_eq (pe_op op_modN (pe_callTy call_int1 (by rfl) T.b_int (by decide +kernel) (pa_cons (pv 6) pa_nil)) pe_int) pe_int (nomark _)) (C8.pss_cut (ps_if (pt_val (pv 5)) (pss_one (ps_set (i := 3) sc_law_faulty.nd rfl (.inl rfl) (pe_op op_add (pv 1) (pc_f (c_law_take T) hr (by decide) (by rfl) (pa_cons (pv 0) (pa_cons (pe_op op_sub pe_int (pv 1)) pa_nil)))))) (pss_one (ps_set (i := 3) sc_law_faulty.nd rfl (.inl rfl) (pe_ix (kix_list K) (pe_lst (pa_cons (pe_un un_neg pe_int) (pa_cons (pv 1) (pa_cons (pe_op op_pow pe_int pe_int) (pa_cons (pe_un un_neg (pv 1)) pa_nil))))) (pc_f (c_law_take T) hr (by decide) (by rfl) (pa_cons (pv 0) (pa_cons pe_int pa_nil))) (fun _ _ => rfl)))))
      (pss_one (ps_set (i := 9) sc_law_faulty.nd rfl (.inl rfl) (pe_tup (pa_cons pe_str (pa_cons (pv 3) pa_nil)))))) pss_nil)
      (pss_one (ps_ret (pe_tup (pa_cons (pv 3) (pa_cons (pv 8) (pa_cons (pv 9) pa_nil))))))))))))), ?_⟩
    have gn := good_n gd
    have gc := good_c gd
    have nqb := cls_ne hq hcl hb
    refine ⟨_, rfl, b, 7, k + 24, rfl, hb, by decide, by decide, fun d1 G1 d10 d11 u1 => ?_⟩
    refine ⟨_, _, rfl, rfl, ?_⟩
    obtain ⟨wn, hwn, w0, w1⟩ : ∃ x : Nat, 1 + d1 = (x : Nat) ∧ 0 < x ∧ x < 8 := ⟨(1 + d1).toNat, by omega, by omega, by omega⟩
    rw [show (fun i j : Int => V.int (i + j)) 1 d1 = V.int wn from congrArg V.int hwn]
    refine ⟨_, rfl, _, rfl, _, rfl, _, rfl, b, r, c, n, k + 16, row, 0, rfl, gd, hrow, by decide, u1.box, fun sp kc G2 okc _ hsp2 u2' => ?_⟩
    have u2 := u1.trans u2'
    have hq2 := u2.1 _ _ hq nqb
    have hcl2 := hcl.bu hb u2
    refine ⟨_, rfl, _, rfl, by show 1 ≤ sizeLine; decide, fun Y hY => ?_⟩
    have x1 := ex_new (o := .lst [.ref sp]) hY
    refine ⟨q, Y, _, _, rfl, rfl, x1 _ _ hq2, upd_same, by rw [hcl.1]; exact szl (by show _ + 1 ≤ _; omega), fun Z hZ => ?_⟩
    have x2 := x1.trans (ex_new (o := .lst (ws ++ [.ref sp])) hZ)
    refine ⟨_, rfl, Z, _, rfl, seqL_of upd_same, fun D hD => ?_⟩
    rw [show cutV (ws ++ [V.ref sp]) none (some 6) = (ws ++ [V.ref sp]).take 6 from cv_take _ 6]
    have x3 := x2.trans (ex_new (o := .lst ((ws ++ [V.ref sp]).take 6)) hD)
    refine ⟨by show 1 ≤ sizeLine; decide, fun dq hdq => ?_⟩
    have x4 := x3.trans (ex_new (o := .tup [.str (Str.ofString "none")]) hdq)
    have hD0 : H D = none := bu_free u2 (free_same x2 hD)
    have u4 := u2.same x4
    have hD4 := (ex_new (o := .tup [.str (Str.ofString "none")]) hdq) D (.lst ((ws ++ [V.ref sp]).take 6)) upd_same
    have hcl4 := ((hcl2.app (cls_one hsp2)).tak 6).mono x4
    have hsp4 : ClAt _ sp kc := x4 _ _ hsp2
    have ok4 : okCls r c ((cs ++ [kc]).take 6) := ok_take (ok_app ok (ok_one okc))
    have l4 : ((cs ++ [kc]).take 6).length ≤ 6 := by rw [List.length_take]; omega
    have p4 : 0 < ((cs ++ [kc]).take 6).length := by rw [List.length_take, List.length_append]; show 0 < min 6 (_ + 1); omega
    have hd4 : (upd (upd (upd (upd G2 Y (.lst [.ref sp])) Z (.lst (ws ++ [.ref sp]))) D (.lst ((ws ++ [V.ref sp]).take 6))) dq (.tup [.str (Str.ofString "none")])) dq = some (.tup [.str (Str.ofString "none")]) := upd_same
    generalize upd (upd (upd (upd G2 Y (.lst [.ref sp])) Z (.lst (ws ++ [.ref sp]))) D (.lst ((ws ++ [V.ref sp]).take 6))) dq (.tup [.str (Str.ofString "none")]) = G4 at u4 hD4 hcl4 hsp4 hd4 ⊢
    generalize (ws ++ [V.ref sp]).take 6 = ws4 at hD4 hcl4
    generalize (cs ++ [kc]).take 6 = cs4 at hcl4 ok4 l4 p4
    clear x1 x2 x3 x4 hY hZ hD hdq hsp2 hq2 hcl2 hq hcl u2 u2' u1 nqb Y Z
    have rcl4 := cls_rcs hcl4
    have okr4 : okRcs (cs4.map toRc) := fun k hk => by
      obtain ⟨x, hx, rfl⟩ := List.mem_map.mp hk
      exact ⟨ok_small (by omega) (by omega) (ok4 x hx), ok_clean (by omega) (by omega) (ok4 x hx)⟩
    have wr4 : ∀ k ∈ cs4.map toRc, wrongP r c k = none := fun k hk => by
      obtain ⟨x, hx, rfl⟩ := List.mem_map.mp hk
      exact ok_wrong (ok4 x hx)
    have nDb : D ≠ b := cls_ne hD4 hcl4 u4.box
    have lw4 : ws4.length = cs4.length := hcl4.1
    have cl_sp := hsp4
    refine ⟨fun σ G => ∃ (ws1 : List V) (dq : Addr) (rs1 : List RC) (dv : List V) (at_ la be : Option V), Bu (k + 2) b H G ∧ G D = some (.lst ws1) ∧ RcsL G ws1 rs1 ∧ okRcs rs1 ∧ 0 < rs1.length ∧ rs1.length ≤ 6 ∧ ClAt G sp kc ∧ G dq = some (.tup dv) ∧ ((∃ i t, firstW r c 0 rs1 = some (i, t) ∧ dv = (Tl.clause i t).vs) ∨ wn / 4 ≠ 1) ∧ σ = [some (.ref b), some (.int (r : Nat)), some (.int (c : Nat)), some (.int (row : Nat)), some (.ref q), some (.bl dg), some (.int (wn : Nat)), some (.ref sp), some (.ref D), some (.ref dq), at_, la, be], ?_, ?_⟩
    · refine ⟨_, rfl, _, _, rfl, rfl, ⟨by decide, by decide⟩, rfl, _, rfl, ?_⟩
      show if decide (V.int (((wn : Nat) : Int).fdiv 4) = V.int 1) = true then _ else _
      rw [show decide (V.int (((wn : Nat) : Int).fdiv 4) = V.int 1) = decide (wn / 4 = 1) by rw [show (4 : Int) = ((4 : Nat) : Int) from rfl, fd]; exact decV rfl]
      by_cases h4 : wn / 4 = 1
      · rw [decide_eq_true h4]
        refine iteT ⟨_, rfl, _, rfl, D, _, rfl, .inl (seqL_of hD4), b, _, k + 15, rfl, u4.box, by omega, by omega, fun j G5 j0 j1 u5 => ?_⟩
        rw [lw4] at j1
        obtain ⟨j, rfl⟩ : ∃ m : Nat, j = (m : Int) := ⟨j.toNat, by omega⟩
        have hj : j < cs4.length := by omega
        have hD5 := u5.1 _ _ hD4 nDb
        have hcl5 := hcl4.bu u4.box u5
        refine ⟨_, rfl, _, rfl, D, _, rfl, .inl (seqL_of hD5), b, _, k + 14, rfl, u5.box, by omega, by omega, fun la G6 a0 a1 u6 => ?_⟩
        rw [lw4] at a1
        obtain ⟨la, rfl⟩ : ∃ m : Nat, la = (m : Int) := ⟨la.toNat, by omega⟩
        have hla : la < cs4.length := by omega
        have u46 := u5.trans u6
        have hD6 := u46.1 _ _ hD4 nDb
        have hcl6 := hcl4.bu u4.box u46
        obtain ⟨kj, hkj⟩ : ∃ k, cs4[j]? = some k := ⟨_, List.getElem?_eq_getElem hj⟩
        obtain ⟨tj, htj, hctj⟩ := hcl6.2 j kj hkj
        have okj := ok4 _ (List.mem_of_getElem? hkj)
        refine ⟨_, rfl, _, rfl, _, rfl, D, _, _, _, rfl, rfl, seqL_of hD6, atI_nat htj, _, rfl, _, rfl, b, tj, r, c, n, k + 9, kj, rfl, gd, u6.box, hctj, okj, fun qb ub xb tb G7 hwb smb cnb fqb hqb hub u7 => ?_⟩
        have u47 := u46.trans u7
        have hD7 := u47.1 _ _ hD4 nDb
        have hcl7 := hcl4.bu u4.box u47
        refine ⟨fun σ G => ∃ (ws1 : List V) (rs1 : List RC), Bu (k + 4) b H G ∧ G D = some (.lst ws1) ∧ ClAt G sp kc ∧ RcsL G ws1 rs1 ∧ okRcs rs1 ∧ rs1.length = cs4.length ∧ (∀ i < j, ∀ x, rs1[i]? = some x → wrongP r c x = none) ∧ G qb = some (.tup [.ref ub, .str (Str.ofString tb)]) ∧ RcAt G ub xb ∧ σ = [some (.ref b), some (.int (r : Nat)), some (.int (c : Nat)), some (.int (row : Nat)), some (.ref q), some (.bl dg), some (.int (wn : Nat)), some (.ref sp), some (.ref D), some (.ref dq), some (.int (j : Nat)), some (.int (la : Nat)), some (.ref qb)], ?_, ?_⟩
        · refine ⟨_, rfl, _, rfl, _, _, rfl, rfl, _, rfl, ?_⟩
          refine ite2 (fun hgt => ?_) (fun _ => ⟨ws4, cs4.map toRc, (u4.trans u47).le (by omega), hD7, tup_bu hsp4 u4.box u47, cls_rcs hcl7, okr4, List.length_map .., fun i _ x hx => wr4 x (List.mem_of_getElem? hx), hqb, hub, rfl⟩)
          have hgt := of_decide_eq_true hgt
          have hgt : j < la := by omega
          obtain ⟨kl, hkl⟩ : ∃ k, cs4[la]? = some k := ⟨_, List.getElem?_eq_getElem hla⟩
          obtain ⟨tl, htl, hctl⟩ := hcl7.2 la kl hkl
          have okl := ok4 _ (List.mem_of_getElem? hkl)
          refine ⟨_, rfl, _, rfl, _, rfl, D, _, _, _, rfl, rfl, seqL_of hD7, atI_nat htl, _, rfl, _, rfl, b, tl, r, c, n, k + 4, kl, rfl, gd, u7.box, hctl, okl, fun q2 ul xl tl2 G8 hwl sml cnl fql hql hul u8 => ?_⟩
          have u48 := u47.trans u8
          have hD8 := u48.1 _ _ hD4 nDb
          have hcl8 := hcl4.bu u4.box u48
          refine ⟨q2, _, 0, _, rfl, rfl, seqT_of hql, rfl, ?_⟩
          have hqb8 := tup_bu hqb u7.box u8
          have hub8 : RcAt G8 ub xb := tup_bu hub u7.box u8
          have hsp8 : ClAt G8 sp kc := tup_bu hsp4 u4.box u48
          refine ⟨_, rfl, _, rfl, D, _, _, la, rfl, rfl, hD8, ixN_nat (by omega), ?_⟩
          refine ⟨ws4.set la (.ref ul), (cs4.map toRc).set la xl, ((u4.trans u48).put hb hD0).le (by omega), upd_same, tup_upd hD8 hsp8, RcsL.upd ((cls_rcs hcl8).set hul la) hD8, okr4.set ⟨sml, cnl⟩, by rw [List.length_set, List.length_map], fun i hi x hx => ?_, tup_upd hD8 hqb8, tup_upd hD8 hub8, rfl⟩
          rw [List.getElem?_set_ne (by omega)] at hx
          exact wr4 x (List.mem_of_getElem? hx)
        · rintro σ G ⟨ws1, rs1, uG, hDG, hspG, rl, okr, lr, wr, hqbG, hubG, rfl⟩
          refine ⟨_, rfl, qb, _, 0, _, rfl, rfl, seqT_of hqbG, rfl, _, rfl, _, rfl, D, _, _, j, rfl, rfl, hDG, ixN_nat (by rw [rl.1]; omega), ?_⟩
          have rl2 := RcsL.upd (ys := ws1.set j (.ref ub)) (rl.set hubG j) hDG
          have hqb9 := tup_upd (ys := ws1.set j (.ref ub)) hDG hqbG
          refine ⟨_, rfl, _, rfl, qb, _, 1, _, rfl, rfl, seqT_of hqb9, rfl, by show 3 ≤ sizeLine; decide, fun d2 hd2 => ?_⟩
          have x9 := ex_new (o := .tup [.str (Str.ofString "BadClause"), .int (j : Nat), .str (Str.ofString tb)]) hd2
          have hW := firstW_at (r := r) (c := c) (i := 0) (m := j) (rs := rs1.set j xb) (by rw [List.getElem?_set_self (by omega)]) hwb fun i hi x hx => wr i hi x (by rwa [List.getElem?_set_ne (by omega)] at hx)
          rw [Nat.zero_add] at hW
          exact ⟨ws1.set j (.ref ub), d2, rs1.set j xb, _, _, _, _, ((uG.put hb hD0).same x9).le (by omega), x9 _ _ upd_same, rl2.mono x9, okr.set ⟨smb, cnb⟩, by rw [List.length_set]; omega, by rw [List.length_set]; omega, x9 _ _ (tup_upd hDG hspG), upd_same, .inl ⟨j, tb, hW, rfl⟩, rfl⟩
      · rw [decide_eq_false h4]
        exact iteF ⟨ws4, dq, cs4.map toRc, _, none, none, none, u4.le (by omega), hD4, rcl4, okr4, by rw [List.length_map]; exact p4, by rw [List.length_map]; exact l4, hsp4, hd4, .inr h4, rfl⟩
    clear u4 hD4 rcl4 okr4 wr4 hcl4 ok4 l4 p4 hsp4 hd4 lw4 cl_sp
    rintro σ G ⟨ws1, dq, rs1, dv, at_, la, be, uG, hDG, rl, okr, p1, l1, hspG, hdG, cond, rfl⟩
    have qm : decide (V.int ((((wn : Nat) : Int).fdiv 2).fmod 2) = V.int 1) = decide (wn / 2 % 2 = 1) := by
      rw [show (2 : Int) = ((2 : Nat) : Int) from rfl, fd, fm]
      exact decV rfl
    have qm1 : decide (V.int (((wn : Nat) : Int).fmod 2) = V.int 1) = decide (wn % 2 = 1) := by
      rw [show (2 : Int) = ((2 : Nat) : Int) from rfl, fm]
      exact decV rfl
    refine ⟨fun σ G => ∃ (D dq : Addr) (ws1 : List V) (rs1 : List RC) (dv : List V) (at_ la be : Option V), Bu (k + 1) b H G ∧ G D = some (.lst ws1) ∧ RcsL G ws1 rs1 ∧ okRcs rs1 ∧ 0 < rs1.length ∧ rs1.length ≤ 9 ∧ G dq = some (.tup dv) ∧ ((6 < rs1.length ∧ dv = Tl.many.vs) ∨ (rs1.length ≤ 6 ∧ ∃ i t, firstW r c 0 rs1 = some (i, t) ∧ dv = (Tl.clause i t).vs) ∨ (rs1.length ≤ 6 ∧ wn / 4 ≠ 1 ∧ ¬ wn / 2 % 2 = 1)) ∧ σ = [some (.ref b), some (.int (r : Nat)), some (.int (c : Nat)), some (.int (row : Nat)), some (.ref q), some (.bl dg), some (.int (wn : Nat)), some (.ref sp), some (.ref D), some (.ref dq), at_, la, be], ?_, ?_⟩
    · refine ⟨_, rfl, _, _, rfl, rfl, ⟨by decide, by decide⟩, .inl ⟨_, rfl, _, _, rfl, rfl, (by decide : (2 : Int) ≠ 0), rfl, _, rfl, ?_⟩⟩
      show if decide (V.int ((((wn : Nat) : Int).fdiv 2).fmod 2) = V.int 1) = true then _ else _
      rw [qm]
      by_cases h2 : wn / 2 % 2 = 1
      · rw [decide_eq_true h2]
        refine iteT ⟨_, rfl, _, rfl, by show 1 ≤ sizeLine; decide, fun Y hY => ?_⟩
        have x1 := ex_new (o := .lst [.ref sp]) hY
        refine ⟨Y, _, _, rfl, rfl, upd_same, by decide, by decide, by show 1 * 8 ≤ sizeLine; decide, fun R hR => ?_⟩
        have x2 := x1.trans (ex_new (o := .lst (List.replicate (8 : Int).toNat [V.ref sp]).flatten) hR)
        have uG2 := uG.same x2
        have hDG2 := x2 _ _ hDG
        have lws : (ws1 ++ (List.replicate (8 : Int).toNat [V.ref sp]).flatten).length = ws1.length + 8 := by rw [List.length_append]; rfl
        refine ⟨D, R, _, _, rfl, rfl, hDG2, upd_same, by rw [rl.1]; exact szl (by show rs1.length + 8 ≤ 100000; omega), fun Z hZ => ?_⟩
        have x3 := x2.trans (ex_new (o := .lst (ws1 ++ (List.replicate (8 : Int).toNat [V.ref sp]).flatten)) hZ)
        have uG3 := uG.same x3
        have hZb := box_ne (uG.same x2).box hZ
        have rl3 := rl.mono x3
        have hsp3 : ClAt _ sp kc := x3 _ _ hspG
        refine ⟨_, rfl, b, 3, k + 1, rfl, uG3.box, by decide, by decide, fun d G8 d0 d1 u8 => ?_⟩
        have hZ8 := u8.1 Z (.lst (ws1 ++ (List.replicate (8 : Int).toNat [V.ref sp]).flatten)) upd_same hZb
        have rl8 := rl3.bu uG3.box u8
        have hsp8 : ClAt G8 sp kc := tup_bu hsp3 uG3.box u8
        refine ⟨_, _, rfl, rfl, _, rfl, Z, _, rfl, seqL_of hZ8, fun X hX => ?_⟩
        obtain ⟨e, he, e7, e9⟩ : ∃ e : Nat, 7 + d = (e : Int) ∧ 7 ≤ e ∧ e ≤ 9 := ⟨(7 + d).toNat, by omega, by omega, by omega⟩
        have ec : cutV (ws1 ++ (List.replicate (8 : Int).toNat [V.ref sp]).flatten) none (some (7 + d)) = (ws1 ++ List.replicate 8 (V.ref sp)).take e := by rw [he]; exact cv_take _ _
        have x4 := ex_new (o := .lst (cutV (ws1 ++ (List.replicate (8 : Int).toNat [V.ref sp]).flatten) none (some (7 + d)))) hX
        refine ⟨by show 2 ≤ sizeLine; decide, fun d2 hd2 => ?_⟩
        have x5 := ex_new (o := .tup [.str (Str.ofString "TooMany"), .int 6]) hd2
        have lr : ((rs1 ++ List.replicate 8 (toRc kc)).take e).length = e := by rw [List.length_take, List.length_append, List.length_replicate]; omega
        refine ⟨X, d2, (ws1 ++ List.replicate 8 (V.ref sp)).take e, (rs1 ++ List.replicate 8 (toRc kc)).take e, Tl.many.vs, at_, la, be, (uG3.trans u8).same (x4.trans x5), ?_, ((rl8.app (rcs_rep (k := toRc kc) (show RcAt G8 sp (toRc kc) from hsp8) 8)).tak e).mono (x4.trans x5), fun x hx => ?_, by omega, by omega, upd_same, .inl ⟨by omega, rfl⟩, rfl⟩
        · rw [← ec]
          exact x5 _ _ upd_same
        · rcases List.mem_append.mp (List.mem_of_mem_take hx) with hx | hx
          · exact okr x hx
          · rw [List.eq_of_mem_replicate hx]
            exact ⟨ok_small (by omega) (by omega) okc, ok_clean (by omega) (by omega) okc⟩
      · rw [decide_eq_false h2]
        exact iteF ⟨D, dq, ws1, rs1, dv, at_, la, be, uG.le (by omega), hDG, rl, okr, p1, by omega, hdG, cond.elim (fun h => .inr (.inl ⟨l1, h⟩)) (fun h => .inr (.inr ⟨l1, h, h2⟩)), rfl⟩
    clear uG hDG rl okr p1 l1 hspG hdG cond
    rintro σ G ⟨D, dq, ws1, rs1, dv, at_, la, be, uG, hDG, rl, okr, p1, l1, hdG, cond, rfl⟩
    refine ⟨fun σ G => ∃ (row' : Int) (D dq : Addr) (ws1 : List V) (rs1 : List RC) (t : Tl) (at_ la be : Option V), Bu k b H G ∧ G D = some (.lst ws1) ∧ RcsL G ws1 rs1 ∧ okRcs rs1 ∧ 0 < rs1.length ∧ rs1.length ≤ 9 ∧ Fault r c row' rs1 t ∧ G dq = some (.tup t.vs) ∧ (dg = true → 0 ≤ row' ∧ row' < 10) ∧ σ = [some (.ref b), some (.int (r : Nat)), some (.int (c : Nat)), some (.int row'), some (.ref q), some (.bl dg), some (.int (wn : Nat)), some (.ref sp), some (.ref D), some (.ref dq), at_, la, be], ?_, ?_⟩
    · refine ⟨_, rfl, .inl ⟨_, rfl, _, _, rfl, rfl, (by decide : (2 : Int) ≠ 0), rfl, _, rfl, ?_⟩⟩
      show if decide (V.int (((wn : Nat) : Int).fmod 2) = V.int 1) = true then _ else _
      rw [qm1]
      have nDb := rcs_ne hDG rl uG.box
      by_cases h1 : wn % 2 = 1
      · rw [decide_eq_true h1]
        refine iteT ⟨fun σ M => ∃ row' : Int, ¬ inRow r row' ∧ (dg = true → 0 ≤ row' ∧ row' < 10) ∧ Bu k b H M ∧ M D = some (.lst ws1) ∧ RcsL M ws1 rs1 ∧ σ = [some (.ref b), some (.int (r : Nat)), some (.int (c : Nat)), some (.int row'), some (.ref q), some (.bl dg), some (.int (wn : Nat)), some (.ref sp), some (.ref D), some (.ref dq), at_, la, be], ?_, ?_⟩
        · refine ⟨_, rfl, _, rfl, ?_⟩
          cases dg with
          | true =>
            refine iteT ⟨_, rfl, _, rfl, _, rfl, _, _, rfl, rfl, b, _, k, rfl, uG.box, by omega, by omega, fun d M d0 d1 u8 => ?_⟩
            exact ⟨_, _, rfl, rfl, _, fun h => by have := h.2; omega, fun _ => ⟨by omega, by omega⟩, uG.trans u8, u8.1 _ _ hDG nDb, rl.bu uG.box u8, rfl⟩
          | false =>
            refine iteF ⟨_, rfl, _, rfl, _, _, rfl, rfl, ⟨by decide, by decide, by decide⟩, _, rfl, _, rfl, by show 4 ≤ sizeLine; decide, fun L hL => ?_⟩
            have hLb := box_ne uG.box hL
            have uL := uG.put2 (o := .lst [.int (-1), .int (r : Nat), .int ((10 : Int) ^ (30 : Int).toNat), .int (-(r : Nat))]) hL
            have x1 := ex_new (o := .lst [.int (-1), .int (r : Nat), .int ((10 : Int) ^ (30 : Int).toNat), .int (-(r : Nat))]) hL
            refine ⟨_, rfl, b, 4, k, rfl, uL.box, by decide, by decide, fun d M d0 d1 u8 => ?_⟩
            obtain ⟨v, hv, nv⟩ : ∃ v : Int, atI [V.int (-1), .int (r : Nat), .int ((10 : Int) ^ (30 : Int).toNat), .int (-(r : Nat))] d = some (.int v) ∧ ¬ inRow r v := by
              rcases (show d = 0 ∨ d = 1 ∨ d = 2 ∨ d = 3 by omega) with rfl | rfl | rfl | rfl
              · exact ⟨_, rfl, fun h => by have := h.1; omega⟩
              · exact ⟨_, rfl, fun h => by have := h.2; omega⟩
              · refine ⟨_, rfl, fun h => ?_⟩
                have := h.2
                have e10 : ((10 : Int) ^ (30 : Int).toNat) = 1000000000000000000000000000000 := by decide +kernel
                omega
              · exact ⟨_, rfl, fun h => by have := h.1; omega⟩
            refine ⟨L, _, _, _, rfl, rfl, seqL_of (u8.1 L _ upd_same hLb), hv, ?_⟩
            exact ⟨v, nv, nofun, uL.trans u8, u8.1 _ _ (x1 _ _ hDG) nDb, (rl.mono x1).bu uL.box u8, rfl⟩
        · rintro σ M ⟨row', nr, hdg, uM, hDM, rlM, rfl⟩
          refine ⟨_, rfl, by show 2 ≤ sizeLine; decide, fun d2 hd2 => ?_⟩
          have x5 := ex_new (o := .tup [.str (Str.ofString "BadRow"), .int row']) hd2
          exact ⟨row', D, d2, ws1, rs1, .row row', at_, la, be, uM.same x5, x5 _ _ hDM, rlM.mono x5, okr, p1, l1, .inl ⟨nr, rfl⟩, upd_same, hdg, rfl⟩
      · rw [decide_eq_false h1]
        refine iteF ?_
        have hin : inRow r (row : Int) := ⟨by omega, by omega⟩
        rcases cond with ⟨c1, rfl⟩ | ⟨c1, i, t, hW, rfl⟩ | ⟨_, c3, c4⟩
        · exact ⟨(row : Nat), D, dq, ws1, rs1, .many, at_, la, be, uG.le (by omega), hDG, rl, okr, p1, l1, .inr (.inl ⟨hin, c1, rfl⟩), hdG, fun _ => ⟨by omega, by omega⟩, rfl⟩
        · exact ⟨(row : Nat), D, dq, ws1, rs1, .clause i t, at_, la, be, uG.le (by omega), hDG, rl, okr, p1, l1, .inr (.inr ⟨hin, c1, i, t, hW, rfl⟩), hdG, fun _ => ⟨by omega, by omega⟩, rfl⟩
        · omega
    clear uG hDG rl okr p1 l1 hdG cond
    rintro σ G ⟨row', D, dq, ws1, rs1, t, at_, la, be, uG, hDG, rl, okr, p1, l1, flt, hdG, hdg, rfl⟩
    refine ⟨_, rfl, _, rfl, _, rfl, by show 3 ≤ sizeLine; decide, fun u hu => ?_⟩
    have x5 := ex_new (o := .tup [.int row', .ref D, .ref dq]) hu
    exact z u D dq row' ws1 rs1 t _ upd_same (x5 _ _ hDG) (rl.mono x5) okr p1 l1 flt (x5 _ _ hdG) hdg (uG.same x5)
end
end K23

end
section
set_option Elab.async false
set_option linter.all false
set_option maxRecDepth 100000
set_option maxHeartbeats 4000000
namespace K23
open PySem PySem.Spec PyProof.Rows L2 Kit
section
variable {P : Program} {w : World} {K : PySem.W.Frag} {mg : Str → Option Value} {base : Heap} {a : Ad}
def spMade (a : Ad) : Sp := fun vs H Q _ => ∃ (b s q : Addr) (r c n k row : Nat) (ws : List V) (cs : List Cl), vs = [.ref b, .ref s, .int r, .int c, .int row, .ref q] ∧ SchemeAt a.Scheme H s r c n ∧ row < r ∧ BoxAt (k + 25) H b ∧ H q = some (.lst ws) ∧ ClsL H ws cs ∧ okCls r c cs ∧ cs.length ≤ 6 ∧ ∀ G, Bu k b H G → Q (.bl true) G
theorem c_law_refuses_made (T : Txt K mg a) : Can P w K mg base 7 "_law_refuses_made" (spMade a) := by
  refine can_of T.d_law_refuses_made sc_law_refuses_made bd_law_refuses_made (fun vs H Q E h => ?_) (fun f cdv A outer s0 H vs Q E hr h => ?_)
  · obtain ⟨b, s, q, r, c, n, k, row, ws, cs, rfl, _⟩ := h
    rfl
  · obtain ⟨b, s, q, r, c, n, k, row, ws, cs, rfl, sch, hrow, hb, hq, hcl, ok, h6, z⟩ := h
    refine ⟨_, (pss_cons (ps_asg (pc_f (c_law_faulty T) hr (by decide) (by rfl) (pa_cons (pv 0) (pa_cons (pv 2) (pa_cons (pv 3) (pa_cons (pv 4) (pa_cons (pv 5) (pa_cons pe_bl pa_nil))))))) (pg_tup rfl (pgs_cons (pg_name (i := 6) sc_law_refuses_made.nd rfl (.inl rfl)) (pgs_cons (pg_name (i := 7) sc_law_refuses_made.nd rfl (.inl rfl)) (pgs_cons (pg_name (i := 8) sc_law_refuses_made.nd rfl (.inl rfl)) pgs_nil)))))
      (pss_cons (ps_set (i := 9) sc_law_refuses_made.nd rfl (.inl rfl) (pe_tup (pa_cons pe_str pa_nil)))
      (pss_cons (ps_try_as (i := 10) (tb := _) rfl rfl sc_law_refuses_made.nd rfl rfl ⟨rfl, by decide, .inl T.g_GalloonError⟩ takes0 (fun W pn xe tk po => (pss_one (ps_expr (pc_nS (c_Rule_init T) tk hr (by decide) (by rfl) (pa_cons (pv 1) (pa_cons (pv 6) (pa_cons (pv 7) pa_nil))))))) (fun ae oe cls d pn hz hf => (pss_one (ps_set (i := 9) sc_law_refuses_made.nd rfl (.inl rfl) (pc_E (c_law_told T) hz hf hr (by decide) (by rfl) (pa_cons (pv 10) pa_nil))))))
      (pss_one (ps_ret (pc_f (c_law_same T) hr (by decide) (by rfl) (pa_cons (pv 9) (pa_cons (pv 8) pa_nil)))))))), ?_⟩
    refine ⟨_, rfl, _, rfl, _, rfl, _, rfl, _, rfl, b, q, r, c, n, k, row, ws, cs, false, rfl, sch.2, hrow, hb, hq, hcl, ok, h6, fun u D tq row' ws' rs t G hu hD rl okr p1 l1 flt htq hdg uG => ?_⟩
    have schG := sch.bu hb uG
    refine ⟨u, _, rfl, seqT_of hu, rfl, _, _, rfl, _, _, rfl, _, _, rfl, rfl, ?_⟩
    refine ⟨by show 1 ≤ sizeLine; decide, fun q0 hq0 => ?_⟩
    have x1 := ex_new (o := .tup [.str (Str.ofString "none")]) hq0
    have u1 : Bu k b H (upd G q0 (.tup [.str (Str.ofString "none")])) := uG.same x1
    have ht1 := x1 _ _ htq
    refine ⟨_, rfl, _, rfl, _, rfl, fun y dy hy hdy hne => ?_⟩
    refine rinitG hy hdy hne (schG.mono x1) (x1 _ _ hD) (rl.mono x1) (fun k hk => (okr k hk).1) (by omega) (fun e1 d M s8 hd => ?_) (fun e1 e2 d M s8 hd => ?_) (fun e1 e2 i x e3 d M s8 hd => ?_) (fun e1 e2 e3 => ?_)
    · rcases flt with ⟨f1, rfl⟩ | ⟨f1, f2, rfl⟩ | ⟨f1, f2, j, tx, f3, rfl⟩
      · exact ⟨true, T.xm_e 3 (by decide), fun _ xx hx => ⟨_, rfl, (.row row'), rfl, rfl, (show Tl.at_ (.row row') (some d) M from ⟨d, rfl, hd⟩), fun G9 q9 s9 hq9 hG9 => ⟨_, rfl, _, rfl, _, _, Tl.due (.row row'), rfl, rp_due hG9, rp_due ((s8.trans s9) _ _ ht1), (due_small _).1, (due_small _).2, z _ (u1.same (s8.trans s9))⟩⟩, nofun⟩
      · exact absurd f1 e1
      · exact absurd f1 e1
    · rcases flt with ⟨f1, rfl⟩ | ⟨f1, f2, rfl⟩ | ⟨f1, f2, j, tx, f3, rfl⟩
      · exact absurd e1 f1
      · exact ⟨true, T.xm_e 5 (by decide), fun _ xx hx => ⟨_, rfl, .many, rfl, rfl, (show Tl.at_ .many (some d) M from ⟨d, rfl, hd⟩), fun G9 q9 s9 hq9 hG9 => ⟨_, rfl, _, rfl, _, _, Tl.due .many, rfl, rp_due hG9, rp_due ((s8.trans s9) _ _ ht1), (due_small _).1, (due_small _).2, z _ (u1.same (s8.trans s9))⟩⟩, nofun⟩
      · omega
    · rcases flt with ⟨f1, rfl⟩ | ⟨f1, f2, rfl⟩ | ⟨f1, f2, j, tx, f3, rfl⟩
      · exact absurd e1 f1
      · omega
      · rw [f3] at e3
        have e3 := Option.some.inj e3
        obtain ⟨rfl, rfl⟩ : j = i ∧ tx = x := ⟨congrArg Prod.fst e3, congrArg Prod.snd e3⟩
        exact ⟨true, T.xm_e 6 (by decide), fun _ xx hx => ⟨_, rfl, (.clause j tx), rfl, rfl, (show Tl.at_ (.clause j tx) (some d) M from ⟨d, rfl, hd⟩), fun G9 q9 s9 hq9 hG9 => ⟨_, rfl, _, rfl, _, _, Tl.due (.clause j tx), rfl, rp_due hG9, rp_due ((s8.trans s9) _ _ ht1), (due_small _).1, (due_small _).2, z _ (u1.same (s8.trans s9))⟩⟩, nofun⟩
    · rcases flt with ⟨f1, rfl⟩ | ⟨f1, f2, rfl⟩ | ⟨f1, f2, j, tx, f3, rfl⟩
      · exact absurd e1 f1
      · omega
      · rw [f3] at e3; cases e3
end
end K23

end
section
set_option Elab.async false
set_option linter.all false
set_option maxRecDepth 100000
set_option maxHeartbeats 4000000
namespace K23
open PySem PySem.Spec PyProof.Rows L2 Kit
section
variable {P : Program} {w : World} {K : PySem.W.Frag} {mg : Str → Option Value} {base : Heap} {a : Ad}
/-! ### what is read of a written form whose parts hold no parting sign -/
theorem RcClean.no {k : RC} (h : RcClean k) {x : Nat} (hx : x = 44 ∨ x = 58 ∨ x = 59 ∨ x = 62) : x ∉ k.l ∧ x ∉ k.h ∧ x ∉ k.r ∧ x ∉ k.x := by
  obtain ⟨h1, h2, h3, h4⟩ := h
  have z : ∀ {l : List Nat}, noSep l = true → x ∉ l := fun {l} hl m => by
    have := (noSep_iff.mp hl).1 x m
    omega
  exact ⟨z h1, z h2, z h3, z h4⟩
theorem pieceP_R {k : RC} (h : RcClean k) : pieceP (pclR k) = some k := by
  obtain ⟨a1, a2, a3, a4⟩ := h.no (x := 44) (.inl rfl)
  obtain ⟨b1, b2, b3, b4⟩ := h.no (x := 62) (.inr (.inr (.inr rfl)))
  unfold pieceP pclR
  rw [cutc_at a1, cutc_at a2, cutc_none (show 44 ∉ k.r ++ 62 :: k.x from fun m => (List.mem_append.mp m).elim a3 fun m => (List.mem_cons.mp m).elim (by decide) a4)]
  show (match cutc 62 [] (k.r ++ 62 :: k.x) with | [x, y] => some (⟨k.l, k.h, x, y⟩ : RC) | _ => none) = _
  rw [cutc_at b3, cutc_none b4]
  rfl
theorem allP_R : ∀ {rs : List RC}, (∀ k ∈ rs, RcClean k) → allP (rs.map pclR) = some rs
  | [], _ => rfl
  | k :: rs, h => by
    rw [List.map_cons, allP_ok (pieceP_R (h k List.mem_cons_self)), allP_R fun x hx => h x (List.mem_cons_of_mem _ hx)]
    rfl
theorem allP_mem : ∀ {ps : List (List Nat)} {p : List Nat}, p ∈ ps → pieceP p = none → allP ps = none
  | [], _, h, _ => by cases h
  | q :: ps, p, h, e => by
    rcases List.mem_cons.mp h with rfl | h
    · exact allP_bad e
    · cases hq : pieceP q with
      | none => exact allP_bad hq
      | some k => rw [allP_ok hq, allP_mem h e]; rfl
theorem head_app : ∀ {hd rest : List Nat}, 58 ∉ hd → headOf (hd ++ 58 :: rest) = hd ∧ restOf (hd ++ 58 :: rest) = rest
  | [], rest, _ => ⟨rfl, rfl⟩
  | x :: hd, rest, h => by
    have hx : decide (x ≠ 58) = true := decide_eq_true fun e => h (by rw [e]; exact List.mem_cons_self)
    obtain ⟨i1, i2⟩ := head_app (hd := hd) (rest := rest) fun m => h (List.mem_cons_of_mem _ m)
    unfold headOf at i1 ⊢
    unfold restOf at i2 ⊢
    rw [List.cons_append, List.takeWhile_cons, List.dropWhile_cons, hx, if_pos rfl, if_pos rfl, i1, i2]
    exact ⟨rfl, rfl⟩
theorem parse_no {l : List Nat} (h : 58 ∉ l) : parseR l = none := if_neg h
theorem parse_bad {hd rest : List Nat} (h : 58 ∉ hd) (b : ¬ (hd.length = 1 ∧ 48 ≤ hd.headD 0 ∧ hd.headD 0 < 58)) : parseR (hd ++ 58 :: rest) = none := by
  obtain ⟨i1, i2⟩ := head_app (rest := rest) h
  unfold parseR
  rw [i1, i2, if_pos (List.mem_append.mpr (.inr List.mem_cons_self)), if_neg b]
theorem parse_row {row : Nat} {rest : List Nat} (h : row < 10) : parseR ((48 + row) :: 58 :: rest) = (allP (if rest = [] then [] else cutc 59 [] rest)).map fun rs => (row, rs) := by
  obtain ⟨i1, i2⟩ := head_app (hd := [48 + row]) (rest := rest) (by rw [List.mem_singleton]; omega)
  show parseR ([48 + row] ++ 58 :: rest) = _
  unfold parseR
  rw [i1, i2, if_pos (List.mem_append.mpr (.inr List.mem_cons_self)), if_pos ⟨rfl, by show 48 ≤ 48 + row; omega, by show 48 + row < 58; omega⟩]
  show (allP _).map (fun rs => ((48 + row) - 48, rs)) = _
  rw [Nat.add_sub_cancel_left]
theorem pclR_no {k : RC} (h : RcClean k) {x : Nat} (hx : x = 58 ∨ x = 59) : x ∉ pclR k := by
  obtain ⟨a1, a2, a3, a4⟩ := h.no (x := x) (by omega)
  unfold pclR
  simp only [List.mem_append, List.mem_cons, not_or]
  exact ⟨a1, by omega, a2, by omega, a3, by omega, a4⟩
theorem pclR_ne (k : RC) : pclR k ≠ [] := by
  unfold pclR
  intro e
  have := congrArg List.length e
  simp at this
theorem pclR_len5 {k : RC} (h : RcClean k) : (pclR k).length ≤ 23 := by
  obtain ⟨h1, h2, h3, h4⟩ := h
  have h1 := (noSep_iff.mp h1).2
  have h2 := (noSep_iff.mp h2).2
  have h3 := (noSep_iff.mp h3).2
  have h4 := (noSep_iff.mp h4).2
  unfold pclR
  simp only [List.length_append, List.length_cons]
  omega
theorem jnl_nil {ps : List (List Nat)} (h : ∀ p ∈ ps, p ≠ []) (e : jnl ps = []) : ps = [] := by
  match ps, h, e with
  | [], _, _ => rfl
  | [p], h, e => exact absurd e (h p List.mem_cons_self)
  | p :: q :: r, _, e =>
    have e : p ++ 59 :: jnl (q :: r) = [] := e
    simp at e
theorem jnl_no {x : Nat} (hx : x ≠ 59) : ∀ {ps : List (List Nat)}, (∀ p ∈ ps, x ∉ p) → x ∉ jnl ps
  | [], _ => by intro m; cases m
  | [p], h => h p List.mem_cons_self
  | p :: q :: r, h => by
    show x ∉ p ++ 59 :: jnl (q :: r)
    rw [List.mem_append, List.mem_cons, not_or, not_or]
    exact ⟨h p List.mem_cons_self, hx, jnl_no hx fun y hy => h y (List.mem_cons_of_mem _ hy)⟩
theorem parse_R {row : Nat} {rs : List RC} (h : row < 10) (hc : ∀ k ∈ rs, RcClean k) : parseR (rtxR row rs) = some (row, rs) := by
  unfold rtxR
  rw [parse_row h]
  have hne : ∀ p ∈ rs.map pclR, p ≠ [] := fun p hp => by
    obtain ⟨k, _, rfl⟩ := List.mem_map.mp hp
    exact pclR_ne k
  have hno : ∀ p ∈ rs.map pclR, 59 ∉ p := fun p hp => by
    obtain ⟨k, hk, rfl⟩ := List.mem_map.mp hp
    exact pclR_no (hc k hk) (.inr rfl)
  by_cases e : jnl (rs.map pclR) = []
  · have e2 := List.map_eq_nil_iff.mp (jnl_nil hne e)
    subst e2
    rfl
  · rw [if_neg e, cut_jnl (fun q => e (by rw [q]; rfl)) hno, allP_R hc]
    rfl
def badPieces : List (List Nat) := [[], [32], [35, 44, 48, 62, 49], [35, 44, 48, 44, 48, 44, 35, 62, 49], [35, 44, 48, 44, 35, 49], [35, 44, 48, 44, 35, 62, 49, 62, 48]]
theorem bad_pieces : ∀ p ∈ badPieces, pieceP p = none ∧ 59 ∉ p ∧ p.length ≤ 9 := by decide +kernel
theorem parse_ins {row i : Nat} {rs : List RC} {p : List Nat} (h : row < 10) (hc : ∀ k ∈ rs, RcClean k) (h0 : 0 < rs.length) (hp : p ∈ badPieces) : parseR ((48 + row) :: 58 :: jnl ((rs.map pclR).take i ++ [p] ++ (rs.map pclR).drop i)) = none := by
  obtain ⟨p1, p2, _⟩ := bad_pieces p hp
  rw [parse_row h]
  have hm : p ∈ (rs.map pclR).take i ++ [p] ++ (rs.map pclR).drop i := List.mem_append.mpr (.inl (List.mem_append.mpr (.inr List.mem_cons_self)))
  have hno : ∀ q ∈ (rs.map pclR).take i ++ [p] ++ (rs.map pclR).drop i, 59 ∉ q := fun q hq => by
    have old : q ∈ rs.map pclR → 59 ∉ q := fun hq => by
      obtain ⟨k, hk, rfl⟩ := List.mem_map.mp hq
      exact pclR_no (hc k hk) (.inr rfl)
    rcases List.mem_append.mp hq with hq | hq
    · rcases List.mem_append.mp hq with hq | hq
      · exact old (List.mem_of_mem_take hq)
      · rw [List.mem_singleton] at hq
        rw [hq]
        exact p2
    · exact old (List.mem_of_mem_drop hq)
  have hl : 2 ≤ ((rs.map pclR).take i ++ [p] ++ (rs.map pclR).drop i).length := by
    rw [List.length_append, List.length_append, List.length_take, List.length_drop, List.length_map]
    show 2 ≤ _ + 1 + _
    omega
  generalize (rs.map pclR).take i ++ [p] ++ (rs.map pclR).drop i = ps at hm hno hl
  have hj : jnl ps ≠ [] := by
    match ps, hl with
    | x :: y :: r, _ =>
      intro e
      have e : x ++ 59 :: jnl (y :: r) = [] := e
      simp at e
  rw [if_neg hj, cut_jnl (fun e => by rw [e] at hm; cases hm) hno, allP_mem hm p1]
  rfl
def badP : List V := [.str (Str.ofString ""), .str (Str.ofString " "), .str (Str.ofString "#,0>1"), .str (Str.ofString "#,0,0,#>1"), .str (Str.ofString "#,0,#1"), .str (Str.ofString "#,0,#>1>0")]
theorem badp_at {d : Nat} (h : d < 6) : ∃ l, atI badP ((d : Nat) : Int) = some (tx l) ∧ l ∈ badPieces := by
  rcases (show d = 0 ∨ d = 1 ∨ d = 2 ∨ d = 3 ∨ d = 4 ∨ d = 5 by omega) with rfl | rfl | rfl | rfl | rfl | rfl
  · exact ⟨[], congrArg (fun z => some (V.str z)) (by decide +kernel), by simp [badPieces]⟩
  · exact ⟨[32], congrArg (fun z => some (V.str z)) (by decide +kernel), by simp [badPieces]⟩
  · exact ⟨[35, 44, 48, 62, 49], congrArg (fun z => some (V.str z)) (by decide +kernel), by simp [badPieces]⟩
  · exact ⟨[35, 44, 48, 44, 48, 44, 35, 62, 49], congrArg (fun z => some (V.str z)) (by decide +kernel), by simp [badPieces]⟩
  · exact ⟨[35, 44, 48, 44, 35, 49], congrArg (fun z => some (V.str z)) (by decide +kernel), by simp [badPieces]⟩
  · exact ⟨[35, 44, 48, 44, 35, 62, 49, 62, 48], congrArg (fun z => some (V.str z)) (by decide +kernel), by simp [badPieces]⟩
def spMal : Sp := fun vs H Q _ => ∃ (b q : Addr) (k row : Nat) (ws : List V) (rs : List RC), vs = [.ref b, .int row, .ref q] ∧ row < 10 ∧ BoxAt (k + 2) H b ∧ H q = some (.lst ws) ∧ RcsL H ws rs ∧ okRcs rs ∧ 0 < rs.length ∧ rs.length ≤ 9 ∧ ∀ l G, parseR l = none → l.length ≤ 500 → Bu k b H G → Q (tx l) G
theorem c_law_malformed (T : Txt K mg a) : Can P w K mg base 2 "_law_malformed" spMal := by
  refine can_of T.d_law_malformed sc_law_malformed bd_law_malformed (fun vs H Q E h => ?_) (fun f cdv A outer s0 H vs Q E hr h => ?_)
  · obtain ⟨b, q, k, row, ws, rs, rfl, _⟩ := h
    rfl
  · obtain ⟨b, q, k, row, ws, rs, rfl, h10, hb, hq, rl, okr, p1, l1, z⟩ := h
    refine ⟨_, (pss_cons (ps_setLc (i := 3) (own := [("clause", 4)]) (g := gName 4) (tt := tYes) (by rfl) sc_law_malformed.nd rfl rfl (sw_true rfl rfl rfl (by decide +kernel)) (kpi_list K (pv 2)) (blkOk_by (N := N_law_malformed) (sc := defScope s_law_malformed) (by decide +kernel)) (fun _ _ _ _ _ => (pg_name (i := 4) sc_law_malformed.nd rfl (.inl rfl))) (fun _ _ _ _ _ => pts_nil) (fun _ _ _ _ _ => (pc_f (c_law_piece T) hr (by decide) (by rfl) (pa_cons (pv 4) pa_nil))))
      (pss_cons (ps_set (i := 5) sc_law_malformed.nd rfl (.inl rfl) (pc_f (c_law_take T) hr (by decide) (by rfl) (pa_cons (pv 0) (pa_cons pe_int pa_nil))))
      (pss_cons (ps_if (pt_cmpR op_lt (pv 5) pe_int (nomark _)) (pss_cons (ps_set (i := 6) sc_law_malformed.nd rfl (.inl rfl) (pe_ix (kix_list K) (pe_lst (pa_cons pe_str (pa_cons pe_str (pa_cons pe_str (pa_cons pe_str (pa_cons pe_str (pa_cons pe_str pa_nil))))))) (pv 5) (fun _ _ => rfl)))
      (pss_cons (ps_set (i := 7) sc_law_malformed.nd rfl (.inl rfl) (pc_f (c_law_take T) hr (by decide) (by rfl) (pa_cons (pv 0) (pa_cons (pe_op op_add (pe_callB (klen_seq K) (by rfl) T.b_len (by decide +kernel) (pa_cons (pv 3) pa_nil)) pe_int) pa_nil))))
      (pss_one (ps_ret (pe_op op_add_str (pe_op op_add_str (pe_callTy call_str_int (by rfl) T.b_str (by decide +kernel) (pa_cons (pv 1) pa_nil)) pe_str) (kjoin K pe_str (pe_op op_cat (pe_op op_cat (pe_slice (ksl_list K) (pv 3) po_none (po_some (pv 7))) (pe_lst (pa_cons (pv 6) pa_nil))) (pe_slice (ksl_list K) (pv 3) (po_some (pv 7)) po_none)))))))) pss_nil)
      (pss_cons (ps_set (i := 8) sc_law_malformed.nd rfl (.inl rfl) (kjoin K pe_str (pv 3)))
      (pss_cons (ps_set (i := 9) sc_law_malformed.nd rfl (.inl rfl) (pe_callTy call_str_int (by rfl) T.b_str (by decide +kernel) (pa_cons (pv 1) pa_nil)))
      (pss_cons (ps_set (i := 10) sc_law_malformed.nd rfl (.inl rfl) (pe_op op_add_str (pe_op op_add_str (pv 9) pe_str) (pv 8)))
      (pss_one (ps_ret (pe_ix (kix_list K) (pe_lst (pa_cons pe_str (pa_cons (pv 9) (pa_cons (pv 8) (pa_cons (pe_op op_add_str pe_str (pv 10)) (pa_cons (pe_op op_add_str pe_str (pv 10)) (pa_cons (pe_op op_add_str pe_str (pv 10)) (pa_cons (pe_op op_add_str pe_str (pv 8)) (pa_cons (pe_op op_add_str pe_str (pv 8)) (pa_cons (pe_op op_add_str (pe_op op_add_str (pv 9) pe_str) (pv 8)) pa_nil)))))))))) (pe_op op_sub (pv 5) pe_int) (fun _ _ => rfl)))))))))), ?_⟩
    refine ⟨_, rfl, q, rfl, ⟨_, seqL_of hq⟩, fun L hL => lc_one (walk_list (xs := ws)) ((rs.map pclR).map tx) (by rw [List.length_map, List.length_map]; exact rl.1.symm) (by rw [rl.1]; omega) hL (fun N sm => seqL_of (sm _ _ hq)) ?_ ?_⟩
    · rintro i x N N' v hi sm1 ⟨rfl, hx⟩ hv
      obtain ⟨k, hk⟩ : ∃ k, rs[i]? = some k := ⟨_, List.getElem?_eq_getElem (by rw [← rl.1]; exact hi)⟩
      obtain ⟨b, hb, hcb⟩ := rl.2 i k hk
      have ey : V.ref b = x := Option.some.inj (hb.symm.trans hx)
      subst ey
      rw [List.getElem?_map, List.getElem?_map, hk] at hv
      have ev := Option.some.inj hv
      subst ev
      exact ⟨.refl _, fun Q' q' => ⟨_, rfl, b, k, rfl, sm1 _ _ hcb, (okr k (List.mem_of_getElem? hk)).1, q' _ (.refl _)⟩⟩
    · intro N sm1 hN
      have hLb := box_ne hb hL
      have u0 : Bu (k + 2) b H N := (Bu.refl hb).same sm1
      have hz : ∀ l m : List Nat, l.length ≤ 10000 → m.length ≤ 10000 → (S l).length + (S m).length ≤ sizeLine := fun l m h k => by rw [S_len, S_len]; exact szl (by omega)
      have ep : Str.ofString ":" = S [58] := by decide +kernel
      have es : Str.ofString ";" = S [59] := by decide +kernel
      have e1 : Str.ofString " " = S [32] := by decide +kernel
      have e2 : Str.ofString "-" = S [45] := by decide +kernel
      have e3 : Str.ofString "1" = S [49] := by decide +kernel
      have e4 : Str.ofString "x:" = S [120, 58] := by decide +kernel
      have e5 : Str.ofString "" = S [] := by decide +kernel
      have e100 : (100000 : Nat) ≤ sizeLine := by decide
      have lp : (rs.map pclR).length ≤ 9 := by rw [List.length_map]; exact l1
      have bp : ∀ p ∈ rs.map pclR, p.length ≤ 23 := fun p hp => by
        obtain ⟨k, hk, rfl⟩ := List.mem_map.mp hp
        exact pclR_len5 (okr k hk).2
      have n58 : 58 ∉ jnl (rs.map pclR) := jnl_no (by decide) fun p hp => by
        obtain ⟨k, hk, rfl⟩ := List.mem_map.mp hp
        exact pclR_no (okr k hk).2 (.inl rfl)
      have ins := fun (i : Nat) (l : List Nat) (hm : l ∈ badPieces) => parse_ins (i := i) h10 (fun k hk => (okr k hk).2) p1 hm
      generalize rs.map pclR = ps at hN lp bp n58 ins
      refine ⟨_, rfl, b, 15, k + 1, rfl, u0.box, by decide, by decide, fun w G1 w0 w1 u1 => ?_⟩
      obtain ⟨w, rfl⟩ : ∃ m : Nat, w = (m : Int) := ⟨w.toNat, by omega⟩
      have hN1 := u1.1 L _ hN hLb
      refine ⟨_, rfl, _, _, rfl, rfl, _, rfl, ?_⟩
      refine ite2 (fun h6 => ?_) (fun h6 => ?_)
      · have h6 : w < 6 := by have := of_decide_eq_true h6; omega
        refine ⟨by show 6 ≤ sizeLine; decide, fun B hB => ?_⟩
        obtain ⟨l, hl, hm⟩ := badp_at h6
        obtain ⟨b1, b2, b3⟩ := bad_pieces l hm
        have x1 := ex_new (o := .lst badP) hB
        refine ⟨_, rfl, B, _, _, _, rfl, rfl, seqL_of upd_same, hl, ?_⟩
        refine ⟨_, rfl, _, rfl, L, _, rfl, .inl (seqL_of (x1 _ _ hN1)), _, _, rfl, rfl, b, _, k, rfl, u1.box.mono x1, by omega, by rw [List.length_map]; omega, fun i G2 i0 i1 u2 => ?_⟩
        obtain ⟨i, rfl⟩ : ∃ m : Nat, i = (m : Int) := ⟨i.toNat, by omega⟩
        have hN2 := u2.1 L _ (x1 _ _ hN1) hLb
        refine ⟨_, rfl, _, rfl, log_dig10 _ h10, ?_⟩
        rw [str_dig10 _ h10]
        refine ⟨_, _, rfl, rfl, by rw [ep]; exact hz _ _ (by show 1 ≤ 10000; decide) (by show 1 ≤ 10000; decide), ?_⟩
        rw [ep, S_app]
        refine ⟨⟨_, rfl⟩, _, rfl, _, rfl, _, rfl, L, _, rfl, seqL_of hN2, fun X hX => ?_⟩
        rw [cv_take]
        have y1 := ex_new (o := .lst ((ps.map tx).take i)) hX
        refine ⟨_, rfl, by show 1 ≤ sizeLine; decide, fun Y hY => ?_⟩
        have y2 := y1.trans (ex_new (o := .lst [tx l]) hY)
        have hX2 := (ex_new (o := .lst [tx l]) hY) X (.lst ((ps.map tx).take i)) upd_same
        refine ⟨X, Y, _, _, rfl, rfl, hX2, upd_same, by rw [List.length_take, List.length_map]; exact szl (by show _ + 1 ≤ _; omega), fun Z hZ => ?_⟩
        have y3 := y2.trans (ex_new (o := .lst ((ps.map tx).take i ++ [tx l])) hZ)
        refine ⟨_, rfl, _, rfl, _, rfl, L, _, rfl, seqL_of (y3 _ _ hN2), fun U hU => ?_⟩
        rw [cv_drop]
        have y4 := y3.trans (ex_new (o := .lst ((ps.map tx).drop i)) hU)
        have hZ2 := (ex_new (o := .lst ((ps.map tx).drop i)) hU) Z (.lst ((ps.map tx).take i ++ [tx l])) upd_same
        refine ⟨Z, U, _, _, rfl, rfl, hZ2, upd_same, by rw [List.length_append, List.length_take, List.length_drop, List.length_map]; exact szl (by show _ + 1 + _ ≤ _; omega), fun J hJ => ?_⟩
        have y5 := y4.trans (ex_new (o := .lst ((ps.map tx).take i ++ [tx l] ++ (ps.map tx).drop i)) hJ)
        have eJ : (ps.map tx).take i ++ [tx l] ++ (ps.map tx).drop i = ((ps.take i ++ [l] ++ ps.drop i).map S).map V.str := by
          rw [List.map_map, ← List.map_take, ← List.map_drop, List.map_append, List.map_append]
          rfl
        have bq : ∀ p ∈ ps.take i ++ [l] ++ ps.drop i, p.length ≤ 23 := fun p hp => by
          rcases List.mem_append.mp hp with hp | hp
          · rcases List.mem_append.mp hp with hp | hp
            · exact bp p (List.mem_of_mem_take hp)
            · rw [List.mem_singleton] at hp
              rw [hp]
              omega
          · exact bp p (List.mem_of_mem_drop hp)
        have lq : (ps.take i ++ [l] ++ ps.drop i).length ≤ 10 := by
          rw [List.length_append, List.length_append, List.length_take, List.length_drop]
          show _ + 1 + _ ≤ 10
          omega
        have lj := jnl_len bq
        have ls := sum_le2 bq
        have bad := ins i l hm
        refine ⟨_, J, (ps.take i ++ [l] ++ ps.drop i).map S, rfl, rfl, .inl (seqL_of (by rw [← eJ]; exact upd_same)), ?_, ?_⟩
        · rw [es, S_len, List.length_map]
          show _ + (ps.take i ++ [l] ++ ps.drop i).length * 1 ≤ _
          omega
        rw [es, join_jnl]
        refine ⟨_, _, rfl, rfl, hz _ _ (by show 2 ≤ 10000; decide) (by omega), ?_⟩
        rw [S_app]
        exact z _ _ bad (by show (jnl (ps.take i ++ [l] ++ ps.drop i)).length + 1 + 1 ≤ 500; omega) (((u0.trans u1).trans (same_bu x1 u2)).same y5)
      · have h6 : ¬ w < 6 := fun h => h6 (decide_eq_true (by omega))
        have lj := jnl_len bp
        have ls := sum_le2 bp
        refine ⟨⟨_, rfl⟩, _, rfl, _, L, ps.map S, rfl, rfl, .inl (seqL_of (by rw [List.map_map]; exact hN1)), ?_, ?_⟩
        · rw [es, S_len, List.length_map]
          show _ + ps.length * 1 ≤ _
          omega
        rw [es, join_jnl]
        have lb : (jnl ps).length ≤ 300 := by omega
        generalize jnl ps = bd at n58 lb
        refine ⟨_, rfl, _, rfl, log_dig10 _ h10, ?_⟩
        rw [str_dig10 _ h10]
        refine ⟨_, rfl, _, _, rfl, rfl, by rw [ep]; exact hz _ _ (by show 1 ≤ 10000; decide) (by show 1 ≤ 10000; decide), ?_⟩
        rw [ep, S_app]
        refine ⟨_, rfl, _, _, rfl, rfl, hz _ _ (by show 2 ≤ 10000; decide) (by omega), ?_⟩
        rw [S_app]
        refine ⟨_, rfl, _, rfl, _, rfl, _, _, rfl, rfl, by rw [e1]; exact hz _ _ (by show 1 ≤ 10000; decide) (by show bd.length + 1 + 1 ≤ 10000; omega), ?_⟩
        rw [e1, S_app]
        refine ⟨_, rfl, _, _, rfl, rfl, by rw [e2]; exact hz _ _ (by show 1 ≤ 10000; decide) (by show bd.length + 1 + 1 ≤ 10000; omega), ?_⟩
        rw [e2, S_app]
        refine ⟨_, rfl, _, _, rfl, rfl, by rw [e3]; exact hz _ _ (by show 1 ≤ 10000; decide) (by show bd.length + 1 + 1 ≤ 10000; omega), ?_⟩
        rw [e3, S_app]
        refine ⟨_, rfl, _, _, rfl, rfl, by rw [e4]; exact hz _ _ (by show 2 ≤ 10000; decide) (by omega), ?_⟩
        rw [e4, S_app]
        refine ⟨_, rfl, _, _, rfl, rfl, hz _ _ (by show 1 ≤ 10000; decide) (by omega), ?_⟩
        rw [S_app]
        refine ⟨_, rfl, _, _, rfl, rfl, hz _ _ (by show 1 ≤ 10000; decide) (by show 1 ≤ 10000; decide), ?_⟩
        rw [S_app]
        refine ⟨_, rfl, _, _, rfl, rfl, hz _ _ (by show 2 ≤ 10000; decide) (by omega), ?_⟩
        rw [S_app]
        refine ⟨by show 9 ≤ sizeLine; decide, fun B hB => ?_⟩
        have hw15 : w < 15 := by omega
        obtain ⟨l, hl, hp, hn⟩ : ∃ l, atI [V.str (Str.ofString ""), .str (S [48 + row]), .str (S bd), .str (S ([32] ++ ([48 + row] ++ [58] ++ bd))), .str (S ([45] ++ ([48 + row] ++ [58] ++ bd))), .str (S ([49] ++ ([48 + row] ++ [58] ++ bd))), .str (S ([120, 58] ++ bd)), .str (S ([58] ++ bd)), .str (S ([48 + row] ++ [59] ++ bd))] (((w : Nat) : Int) - 6) = some (tx l) ∧ parseR l = none ∧ l.length ≤ 500 := by
          have nr : 58 ∉ [48 + row] := by rw [List.mem_singleton]; omega
          have two : ∀ x : Nat, x ≠ 58 → parseR ([x] ++ ([48 + row] ++ [58] ++ bd)) = none := fun x hx => parse_bad (hd := [x, 48 + row]) (rest := bd) (by rw [List.mem_cons, List.mem_singleton]; omega) (fun h => absurd h.1 (by show ¬ 2 = 1; decide))
          rcases (show w = 6 ∨ w = 7 ∨ w = 8 ∨ w = 9 ∨ w = 10 ∨ w = 11 ∨ w = 12 ∨ w = 13 ∨ w = 14 by omega) with rfl | rfl | rfl | rfl | rfl | rfl | rfl | rfl | rfl
          · exact ⟨[], congrArg (fun z => some (V.str z)) e5, parse_no (by intro h; cases h), by show 0 ≤ 500; decide⟩
          · exact ⟨[48 + row], rfl, parse_no nr, by show 1 ≤ 500; decide⟩
          · exact ⟨bd, rfl, parse_no n58, by omega⟩
          · exact ⟨_, rfl, two 32 (by decide), by show bd.length + 1 + 1 + 1 ≤ 500; omega⟩
          · exact ⟨_, rfl, two 45 (by decide), by show bd.length + 1 + 1 + 1 ≤ 500; omega⟩
          · exact ⟨_, rfl, two 49 (by decide), by show bd.length + 1 + 1 + 1 ≤ 500; omega⟩
          · exact ⟨_, rfl, parse_bad (hd := [120]) (rest := bd) (by decide) (fun h => absurd h.2.2 (by decide)), by show bd.length + 1 + 1 ≤ 500; omega⟩
          · exact ⟨_, rfl, parse_bad (hd := []) (rest := bd) (by decide) (fun h => absurd h.1 (by decide)), by show bd.length + 1 ≤ 500; omega⟩
          · refine ⟨_, rfl, parse_no fun h => ?_, by show bd.length + 1 + 1 ≤ 500; omega⟩
            rcases List.mem_append.mp h with h | h
            · rcases List.mem_append.mp h with h | h
              · exact nr h
              · exact absurd h (by decide)
            · exact n58 h
        exact ⟨_, rfl, _, _, rfl, rfl, B, _, _, _, rfl, rfl, seqL_of upd_same, hl, z l _ hp hn (((u0.trans u1).le (by omega)).same (ex_new hB))⟩
end
end K23

end
section
set_option Elab.async false
set_option linter.all false
set_option maxRecDepth 100000
set_option maxHeartbeats 4000000
namespace K23
open PySem PySem.Spec PyProof.Rows L2 Kit
section
variable {P : Program} {w : World} {K : PySem.W.Frag} {mg : Str → Option Value} {base : Heap} {a : Ad}
def spRead (a : Ad) : Sp := fun vs H Q _ => ∃ (b s q : Addr) (r c n k row : Nat) (ws : List V) (cs : List Cl), vs = [.ref b, .ref s, .int r, .int c, .int row, .ref q] ∧ SchemeAt a.Scheme H s r c n ∧ row < r ∧ BoxAt (k + 28) H b ∧ H q = some (.lst ws) ∧ ClsL H ws cs ∧ okCls r c cs ∧ cs.length ≤ 6 ∧ ∀ G, Bu k b H G → Q (.bl true) G
theorem c_law_refuses_read (T : Txt K mg a) : Can P w K mg base 8 "_law_refuses_read" (spRead a) := by
  refine can_of T.d_law_refuses_read sc_law_refuses_read bd_law_refuses_read (fun vs H Q E h => ?_) (fun f cdv A outer s0 H vs Q E hr h => ?_)
  · obtain ⟨b, s, q, r, c, n, k, row, ws, cs, rfl, _⟩ := h
    rfl
  · obtain ⟨b, s, q, r, c, n, k, row, ws, cs, rfl, sch, hrow, hb, hq, hcl, ok, h6, z⟩ := h
    refine ⟨_, (pss_cons (ps_asg (pc_f (c_law_faulty T) hr (by decide) (by rfl) (pa_cons (pv 0) (pa_cons (pv 2) (pa_cons (pv 3) (pa_cons (pv 4) (pa_cons (pv 5) (pa_cons pe_bl pa_nil))))))) (pg_tup rfl (pgs_cons (pg_name (i := 6) sc_law_refuses_read.nd rfl (.inl rfl)) (pgs_cons (pg_name (i := 7) sc_law_refuses_read.nd rfl (.inl rfl)) (pgs_cons (pg_name (i := 8) sc_law_refuses_read.nd rfl (.inl rfl)) pgs_nil)))))
      (pss_cons (ps_set (i := 9) sc_law_refuses_read.nd rfl (.inl rfl) (pc_f (c_law_text T) hr (by decide) (by rfl) (pa_cons (pv 6) (pa_cons (pv 7) pa_nil))))
      (C8.pss_cut (ps_if (pt_cmpR op_eq (pc_f (c_law_take T) hr (by decide) (by rfl) (pa_cons (pv 0) (pa_cons pe_int pa_nil))) pe_int (nomark _)) (pss_cons (ps_set (i := 9) sc_law_refuses_read.nd rfl (.inl rfl) (pc_f (c_law_malformed T) hr (by decide) (by rfl) (pa_cons (pv 0) (pa_cons (pv 6) (pa_cons (pv 7) pa_nil)))))
      (pss_one (ps_set (i := 8) sc_law_refuses_read.nd rfl (.inl rfl) (pe_tup (pa_cons pe_str pa_nil))))) pss_nil)
      (pss_cons (ps_set (i := 10) sc_law_refuses_read.nd rfl (.inl rfl) (pe_tup (pa_cons pe_str pa_nil)))
      (pss_cons (ps_try_as (i := 11) (tb := _) rfl rfl sc_law_refuses_read.nd rfl rfl ⟨rfl, by decide, .inl T.g_GalloonError⟩ takes0 (fun W pn xe tk po => (pss_one (ps_expr (pc_cmS (c_Rule_read T) tk hr (by decide) (pe_glob (v := .ref a.Rule) (by rfl) T.c_Rule.gC rfl) (pa_cons (pv 1) (pa_cons (pv 9) pa_nil)))))) (fun ae oe cls d pn hz hf => (pss_one (ps_set (i := 10) sc_law_refuses_read.nd rfl (.inl rfl) (pc_E (c_law_told T) hz hf hr (by decide) (by rfl) (pa_cons (pv 11) pa_nil))))))
      (pss_one (ps_ret (pc_f (c_law_same T) hr (by decide) (by rfl) (pa_cons (pv 10) (pa_cons (pv 8) pa_nil)))))))))), ?_⟩
    refine ⟨_, rfl, _, rfl, _, rfl, _, rfl, _, rfl, b, q, r, c, n, k + 3, row, ws, cs, true, rfl, sch.2, hrow, hb, hq, hcl, ok, h6, fun u D tq row' ws' rs t G hu hD rl okr p1 l1 flt htq hdg uG => ?_⟩
    obtain ⟨d1, d2⟩ := hdg rfl
    obtain ⟨m, rfl⟩ : ∃ m : Nat, row' = (m : Int) := ⟨row'.toNat, by omega⟩
    have h10 : m < 10 := by omega
    refine ⟨u, _, rfl, seqT_of hu, rfl, _, _, rfl, _, _, rfl, _, _, rfl, rfl, ?_⟩
    refine ⟨_, rfl, _, rfl, D, ws', rs, m, rfl, hD, rl, fun k hk => (okr k hk).1, by omega, h10, fun G2 s2 => ?_⟩
    have u2 := uG.same s2
    have nDb := rcs_ne hD rl uG.box
    have hD2 := s2 _ _ hD
    have rl2 := rl.mono s2
    have ht2 := s2 _ _ htq
    have len0 : (rtxR m rs).length ≤ 500 := by
      have bp : ∀ p ∈ rs.map pclR, p.length ≤ 23 := fun p hp => by
        obtain ⟨k, hk, rfl⟩ := List.mem_map.mp hp
        exact pclR_len5 (okr k hk).2
      have lj := jnl_len bp
      rw [List.length_map] at lj
      show (jnl (rs.map pclR)).length + 1 + 1 ≤ 500
      omega
    refine ⟨fun σ M => ∃ (l : List Nat) (dq : Addr) (t : Tl), Bu k b H M ∧ M dq = some (.tup t.vs) ∧ l.length ≤ 500 ∧ ((parseR l = none ∧ t = .rule) ∨ (∃ row rs, parseR l = some (row, rs) ∧ okRcs rs ∧ rs.length ≤ 9 ∧ Fault r c (row : Nat) rs t)) ∧ σ = [some (.ref b), some (.ref s), some (.int (r : Nat)), some (.int (c : Nat)), some (.int (row : Nat)), some (.ref q), some (.int (m : Nat)), some (.ref D), some (.ref dq), some (tx l), none, none], ?_, ?_⟩
    · refine ⟨_, rfl, b, 2, k + 2, rfl, u2.box, by decide, by decide, fun d M d0 d1 u3 => ?_⟩
      refine ⟨rfl, _, rfl, ?_⟩
      refine ite2 (fun _ => ?_) (fun _ => ⟨rtxR m rs, tq, t, (u2.trans u3).le (by omega), tup_bu ht2 u2.box u3, len0, .inr ⟨m, rs, parse_R h10 (fun k hk => (okr k hk).2), okr, l1, flt⟩, rfl⟩)
      refine ⟨_, rfl, _, rfl, _, rfl, b, D, k, m, ws', rs, rfl, h10, u3.box, u3.1 _ _ hD2 nDb, rl2.bu u2.box u3, okr, p1, l1, fun l M2 hp hl u4 => ?_⟩
      refine ⟨by show 1 ≤ sizeLine; decide, fun q2 hq2 => ?_⟩
      exact ⟨l, q2, .rule, ((u2.trans u3).trans u4).put2 hq2, upd_same, hl, .inl ⟨hp, rfl⟩, rfl⟩
    clear u2 hD2 rl2 ht2 flt htq uG hu hD rl nDb s2
    rintro σ M0 ⟨l, dq, t, uM, hdM, hl, cond, rfl⟩
    refine ⟨by show 1 ≤ sizeLine; decide, fun q0 hq0 => ?_⟩
    have x1 := ex_new (o := .tup [.str (Str.ofString "none")]) hq0
    have sch1 := (sch.bu hb uM).mono x1
    have u1 : Bu k b H (upd M0 q0 (.tup [.str (Str.ofString "none")])) := uM.same x1
    have hd1 := x1 _ _ hdM
    refine ⟨rfl, _, rfl, _, rfl, s, r, c, n, l, rfl, sch1, hl, fun e1 M s8 => ?_, fun row1 rs1 e1 => ?_⟩
    · rcases cond with ⟨f0, rfl⟩ | ⟨row1, rs1, f0, okr, l1, flt⟩
      · exact ⟨true, T.xm_e 7 (by decide), fun _ xx hx => ⟨_, rfl, .rule, rfl, rfl, (show Tl.at_ .rule none M from rfl), fun G9 q9 s9 hq9 hG9 => ⟨_, rfl, _, rfl, _, _, Tl.due .rule, rfl, rp_due hG9, rp_due ((s8.trans s9) _ _ hd1), (due_small _).1, (due_small _).2, z _ (u1.same (s8.trans s9))⟩⟩, nofun⟩
      · rw [e1] at f0; cases f0
    rcases cond with ⟨f0, rfl⟩ | ⟨row2, rs2, f0, okr, l1, flt⟩
    · rw [e1] at f0; cases f0
    rw [e1] at f0
    have f0 := Option.some.inj f0
    obtain ⟨rfl, rfl⟩ : row1 = row2 ∧ rs1 = rs2 := ⟨congrArg Prod.fst f0, congrArg Prod.snd f0⟩
    refine ⟨fun k hk => (okr k hk).1, by omega, fun e1 d M s8 hd => ?_, fun e1 e2 d M s8 hd => ?_, fun e1 e2 i x e3 d M s8 hd => ?_, fun e1 e2 e3 => ?_⟩
    · rcases flt with ⟨f1, rfl⟩ | ⟨f1, f2, rfl⟩ | ⟨f1, f2, j, tx, f3, rfl⟩
      · exact ⟨true, T.xm_e 3 (by decide), fun _ xx hx => ⟨_, rfl, (.row (row1 : Nat)), rfl, rfl, (show Tl.at_ (.row (row1 : Nat)) (some d) M from ⟨d, rfl, hd⟩), fun G9 q9 s9 hq9 hG9 => ⟨_, rfl, _, rfl, _, _, Tl.due (.row (row1 : Nat)), rfl, rp_due hG9, rp_due ((s8.trans s9) _ _ hd1), (due_small _).1, (due_small _).2, z _ (u1.same (s8.trans s9))⟩⟩, nofun⟩
      · exact absurd f1 e1
      · exact absurd f1 e1
    · rcases flt with ⟨f1, rfl⟩ | ⟨f1, f2, rfl⟩ | ⟨f1, f2, j, tx, f3, rfl⟩
      · exact absurd e1 f1
      · exact ⟨true, T.xm_e 5 (by decide), fun _ xx hx => ⟨_, rfl, .many, rfl, rfl, (show Tl.at_ .many (some d) M from ⟨d, rfl, hd⟩), fun G9 q9 s9 hq9 hG9 => ⟨_, rfl, _, rfl, _, _, Tl.due .many, rfl, rp_due hG9, rp_due ((s8.trans s9) _ _ hd1), (due_small _).1, (due_small _).2, z _ (u1.same (s8.trans s9))⟩⟩, nofun⟩
      · omega
    · rcases flt with ⟨f1, rfl⟩ | ⟨f1, f2, rfl⟩ | ⟨f1, f2, j, tx, f3, rfl⟩
      · exact absurd e1 f1
      · omega
      · rw [f3] at e3
        have e3 := Option.some.inj e3
        obtain ⟨rfl, rfl⟩ : j = i ∧ tx = x := ⟨congrArg Prod.fst e3, congrArg Prod.snd e3⟩
        exact ⟨true, T.xm_e 6 (by decide), fun _ xx hx => ⟨_, rfl, (.clause j tx), rfl, rfl, (show Tl.at_ (.clause j tx) (some d) M from ⟨d, rfl, hd⟩), fun G9 q9 s9 hq9 hG9 => ⟨_, rfl, _, rfl, _, _, Tl.due (.clause j tx), rfl, rp_due hG9, rp_due ((s8.trans s9) _ _ hd1), (due_small _).1, (due_small _).2, z _ (u1.same (s8.trans s9))⟩⟩, nofun⟩
    · rcases flt with ⟨f1, rfl⟩ | ⟨f1, f2, rfl⟩ | ⟨f1, f2, j, tx, f3, rfl⟩
      · exact absurd e1 f1
      · omega
      · rw [f3] at e3; cases e3
end
end K23

end
section
set_option Elab.async false
set_option linter.all false
set_option maxRecDepth 100000
set_option maxHeartbeats 4000000
namespace K23
open PySem PySem.Spec PyProof.Rows L2 Kit
section
variable {P : Program} {w : World} {K : PySem.W.Frag} {mg : Str → Option Value} {base : Heap} {a : Ad}
def spLaw (K : PySem.W.Frag) : Sp := fun vs H Q _ => ∃ (q : Addr) (ns : List Int), vs = [.ref q] ∧ SqL K H q (ns.map V.int) ∧ ns.length ≤ 63 ∧ ∀ G, Q (.bl true) G
theorem ok_law (T : Txt K mg a) {f : Addr} {fd : FuncData} (F : Fun K "law" "law" s_law f fd) : FnOk P w K mg base (L2.CX P w) 9 f fd P_law (spLaw K) := by
  refine F.okX sc_law (fun vs H Q E h => ?_) (fun cdv A outer s0 H vs Q E hr h => ?_)
  · obtain ⟨q, ns, rfl, _⟩ := h
    rfl
  · obtain ⟨sc, ns, rfl, hs, hl, z⟩ := h
    refine ⟨_, (pss_cons (ps_set (i := 1) sc_law.nd rfl (.inl rfl) (pc_f (c_law_bag T) hr (by decide) (by rfl) (pa_cons (pv 0) pa_nil)))
      (pss_cons (ps_asg (pc_f (c_law_scheme T) hr (by decide) (by rfl) (pa_cons (pv 1) pa_nil)) (pg_tup rfl (pgs_cons (pg_name (i := 2) sc_law.nd rfl (.inl rfl)) (pgs_cons (pg_name (i := 3) sc_law.nd rfl (.inl rfl)) pgs_nil))))
      (pss_cons (ps_set (i := 4) sc_law.nd rfl (.inl rfl) (pc_n (c_Scheme_init T) hr (by decide) (by rfl) (pa_cons (pv 2) (pa_cons (pv 3) pa_nil))))
      (pss_cons (ps_set (i := 5) sc_law.nd rfl (.inl rfl) (pc_f (c_law_take T) hr (by decide) (by rfl) (pa_cons (pv 1) (pa_cons (pv 2) pa_nil))))
      (pss_cons (ps_set (i := 6) sc_law.nd rfl (.inl rfl) (pe_ix (kix_list K) (pe_lst (pa_cons pe_int (pa_cons pe_int (pa_cons pe_int (pa_cons pe_int (pa_cons pe_int (pa_cons pe_int (pa_cons pe_int (pa_cons pe_int pa_nil))))))))) (pc_f (c_law_take T) hr (by decide) (by rfl) (pa_cons (pv 1) (pa_cons pe_int pa_nil))) (fun _ _ => rfl)))
      (pss_cons (ps_set (i := 7) sc_law.nd rfl (.inl rfl) (pc_f (c_law_clauses T) hr (by decide) (by rfl) (pa_cons (pv 1) (pa_cons (pv 2) (pa_cons (pv 3) (pa_cons (pv 5) (pa_cons (pv 6) pa_nil)))))))
      (pss_cons (ps_set (i := 8) sc_law.nd rfl (.inl rfl) (pe_callTy (klist_of K) (by rfl) T.b_list (by decide +kernel) (pa_cons (pv 7) pa_nil)))
      (pss_cons (ps_set (i := 9) sc_law.nd rfl (.inl rfl) (pc_n (c_Rule_init T) hr (by decide) (by rfl) (pa_cons (pv 4) (pa_cons (pv 5) (pa_cons (pv 8) pa_nil)))))
      (pss_cons (ps_if (pt_not (pt_val (pc_f (c_law_same T) hr (by decide) (by rfl) (pa_cons (pv 8) (pa_cons (pv 7) pa_nil))))) (pss_one (ps_ret pe_bl)) pss_nil)
      (pss_cons (ps_set (i := 10) sc_law.nd rfl (.inl rfl) (pe_slice sl_str pe_str po_none (po_some (pe_op op_add (pv 3) pe_int))))
      (pss_cons (ps_expr (pe_bm PySem.F.plainAttrs_list PySem.F.slot_list_insert PySem.F.type_list_insert mt_insert (pv 8) (pa_cons pe_int (pa_cons (pe_tup (pa_cons (pv 10) (pa_cons (pe_op op_repS pe_str (pv 2)) (pa_cons (pv 10) (pa_cons pe_str pa_nil))))) pa_nil))))
      (pss_cons (ps_if (pt_not (pt_val (pc_f (c_law_holds T) hr (by decide) (by rfl) (pa_cons (pv 9) (pa_cons (pv 4) (pa_cons (pv 2) (pa_cons (pv 3) (pa_cons (pv 5) (pa_cons (pv 7) pa_nil))))))))) (pss_one (ps_ret pe_bl)) pss_nil)
      (pss_cons (ps_set (i := 11) sc_law.nd rfl (.inl rfl) (pc_cm (c_Rule_read T) hr (by decide) (pe_glob (v := .ref a.Rule) (by rfl) T.c_Rule.gC rfl) (pa_cons (pv 4) (pa_cons (pc_f (c_law_text T) hr (by decide) (by rfl) (pa_cons (pv 5) (pa_cons (pv 7) pa_nil))) pa_nil))))
      (pss_cons (ps_if (pt_not (pt_val (pc_f (c_law_holds T) hr (by decide) (by rfl) (pa_cons (pv 11) (pa_cons (pv 4) (pa_cons (pv 2) (pa_cons (pv 3) (pa_cons (pv 5) (pa_cons (pv 7) pa_nil))))))))) (pss_one (ps_ret pe_bl)) pss_nil)
      (pss_cons (ps_if (PW.pt (pw_or (pt_not (pt_val (pc_f (c_law_same T) hr (by decide) (by rfl) (pa_cons (pe_cmpR (eqO K (c_Rule_eq T) hr (by decide) T.y_ni T.y_ns) (pv 9) (pv 11) (nomark _)) (pa_cons pe_bl pa_nil))))) (pw_or1 (pt_not (pt_val (pc_f (c_law_same T) hr (by decide) (by rfl) (pa_cons (pe_cmpR (eqO K (c_Rule_eq T) hr (by decide) T.y_ni T.y_ns) (pv 11) (pv 9) (nomark _)) (pa_cons pe_bl pa_nil)))))))) (pss_one (ps_ret pe_bl)) pss_nil)
      (pss_cons (ps_if (pt_not (pt_val (pc_f (c_law_compares T) hr (by decide) (by rfl) (pa_cons (pv 1) (pa_cons (pv 9) (pa_cons (pv 4) (pa_cons (pv 2) (pa_cons (pv 3) (pa_cons (pv 5) (pa_cons (pv 7) pa_nil)))))))))) (pss_one (ps_ret pe_bl)) pss_nil)
      (pss_cons (ps_if (pt_not (pt_val (pc_f (c_law_refuses_values T) hr (by decide) (by rfl) (pa_cons (pv 1) (pa_cons (pv 9) (pa_cons (pc_f (c_law_many T) hr (by decide) (by rfl) (pa_cons (pv 2) (pa_cons (pv 3) pa_nil))) (pa_cons (pv 3) pa_nil))))))) (pss_one (ps_ret pe_bl)) pss_nil)
      (pss_cons (ps_if (pt_not (pt_val (pc_f (c_law_refuses_made T) hr (by decide) (by rfl) (pa_cons (pv 1) (pa_cons (pv 4) (pa_cons (pv 2) (pa_cons (pv 3) (pa_cons (pv 5) (pa_cons (pv 7) pa_nil))))))))) (pss_one (ps_ret pe_bl)) pss_nil)
      (pss_cons (ps_if (pt_not (pt_val (pc_f (c_law_refuses_read T) hr (by decide) (by rfl) (pa_cons (pv 1) (pa_cons (pv 4) (pa_cons (pv 2) (pa_cons (pv 3) (pa_cons (pv 5) (pa_cons (pv 7) pa_nil))))))))) (pss_one (ps_ret pe_bl)) pss_nil)
      (pss_one (ps_ret (pc_f (c_law_holds T) hr (by decide) (by rfl) (pa_cons (pv 9) (pa_cons (pv 4) (pa_cons (pv 2) (pa_cons (pv 3) (pa_cons (pv 5) (pa_cons (pv 7) pa_nil)))))))))))))))))))))))))))), ?_⟩
    refine ⟨_, rfl, sc, ns, rfl, hs, fun b G1 k1 f1 bA => ?_⟩
    refine ⟨_, rfl, b, 99999, rfl, bA.le (by decide), fun tq r c n G2 gd f2 h2 u2 => ?_⟩
    refine ⟨tq, _, rfl, seqT_of h2, rfl, _, _, rfl, _, _, rfl, rfl, ?_⟩
    refine ⟨_, rfl, _, rfl, fun s dx0 hy hdx ne => init_good gd hy hdx ne fun G3 k3 sch => ?_⟩
    have gn := good_n gd
    have gc := good_c gd
    have bB := u2.box.mono k3
    refine ⟨_, rfl, _, rfl, b, r, 99998, rfl, bB, by omega, by omega, fun row G4 r0 r1 u4 => ?_⟩
    obtain ⟨row, rfl⟩ : ∃ d' : Nat, row = (d' : Int) := ⟨row.toNat, by omega⟩
    have hrow : row < r := by omega
    refine ⟨by show 8 ≤ sizeLine; decide, fun q hq => ⟨_, rfl, b, 8, 99997, rfl, u4.box.mono (ex_new hq), by decide, by decide, fun d G5 d0 d1 u5 => ?_⟩⟩
    have nq := box_ne u4.box hq
    obtain ⟨way, hway, hw4⟩ : ∃ m : Nat, atI [V.int 0, .int 1, .int 0, .int 2, .int 0, .int 3, .int 0, .int 4] d = some (.int (m : Int)) ∧ m ≤ 4 := by
      rcases (show d = 0 ∨ d = 1 ∨ d = 2 ∨ d = 3 ∨ d = 4 ∨ d = 5 ∨ d = 6 ∨ d = 7 by omega) with rfl | rfl | rfl | rfl | rfl | rfl | rfl | rfl
      · exact ⟨0, rfl, by decide⟩
      · exact ⟨1, rfl, by decide⟩
      · exact ⟨0, rfl, by decide⟩
      · exact ⟨2, rfl, by decide⟩
      · exact ⟨0, rfl, by decide⟩
      · exact ⟨3, rfl, by decide⟩
      · exact ⟨0, rfl, by decide⟩
      · exact ⟨4, rfl, by decide⟩
    refine ⟨q, _, _, _, rfl, rfl, seqL_of (u5.1 q _ upd_same nq), hway, ?_⟩
    have u45 := u4.trans (same_bu (ex_new hq) u5)
    have sch5 : SchemeAt a.Scheme G5 s r c n := SchemeAt.bu sch bB u45
    refine ⟨_, rfl, _, rfl, _, rfl, _, rfl, _, rfl, b, r, c, n, 99000, row, way, rfl, gd, hrow, hw4, u5.box.le (by decide), fun D ws cs G6 ok h6 f6 hD hcl u6 => ?_⟩
    have sch6 : SchemeAt a.Scheme G6 s r c n := SchemeAt.bu sch5 u5.box u6
    have hb6 := u6.box
    have nDb := cls_ne hD hcl hb6
    clear u45 u4 u5 u6 u2 k3 sch sch5 bB hq nq hway f6 h2 f2 k1 f1 bA hy hdx ne
    refine ⟨_, rfl, D, _, rfl, .inl (seqL_of hD), fun V1 hV => ?_⟩
    have x1 := ex_new (o := .lst ws) hV
    refine ⟨_, rfl, _, rfl, _, rfl, fun y dy hy hdy hne => ?_⟩
    refine rinit2 hy hdy hne (sch6.mono x1) hrow upd_same (hcl.mono x1) ok h6 fun G7 x2 ra rb => ⟨rfl, ?_⟩
    have x12 := x1.trans x2
    have hD7 := x12 _ _ hD
    have hc7 := hcl.mono x12
    have hV7 := x2 V1 _ upd_same
    refine ⟨_, rfl, _, rfl, _, _, clsD cs, rfl, rp_cls hV7 hc7, rp_cls hD7 hc7, cls_deep cs, cls_big (by omega), _, rfl, iteF ?_⟩
    refine ⟨_, rfl, _, _, rfl, rfl, _, rfl, _, rfl, by decide +kernel, ?_⟩
    generalize cutS (Str.ofString "#012") none _ = sides
    have mok : MulOk (Str.ofString ".") ((r : Nat) : Int) := mulOk_of 1 10 (by decide +kernel) (by omega) (by omega) (by decide) (by decide)
    refine ⟨_, rfl, .inl ⟨rfl, _, seqL_of hV7⟩, _, rfl, _, rfl, _, _, rfl, rfl, mok, _, rfl, by show 4 ≤ sizeLine; decide, fun u hu => ?_⟩
    refine ⟨V1, ws, 0, _, rfl, rfl, (ex_new hu) _ _ hV7, by rw [hcl.1]; exact szlt (by omega), by decide, by decide, ?_⟩
    generalize List.take (0 : Int).toNat ws ++ [V.ref u] ++ List.drop (0 : Int).toNat ws = ys
    generalize hto : HO.tup _ = to at hu ⊢
    have sM := ex_mut (o := .lst ys) (x12.trans (ex_new (o := to) hu)) hV
    have raM : RuleAt a (upd (upd G7 u to) V1 (.lst ys)) y s r c n row cs := (rb ys).mono fun x o hx => by
      by_cases e : x = V1
      · rw [e, upd_same] at hx ⊢
        exact hx
      · rw [upd_ne e] at hx ⊢
        exact (ex_new hu) x o hx
    have scM := sch6.mono sM
    have hDM := sM _ _ hD
    have hcM := hcl.mono sM
    have hbM := hb6.mono sM
    generalize upd (upd G7 u to) V1 (.lst ys) = M at raM scM hDM hcM hbM ⊢
    clear sM ra rb x12 x2 x1 hV hy hdy hne hV7 hD7 hc7 hu hto sch6 hD hcl hb6
    have bd : ∀ x : Bool, deep (.bl x) < 4 ∧ big (.bl x) ≤ 10000 := fun x => ⟨by show 0 < 4; decide, by show 0 ≤ 10000; decide⟩
    have hc10 : row < 10 := by omega
    have sml : ∀ k ∈ cs.map toRc, RcSmall k := cls_small (by omega) (by omega) ok
    have cln : ∀ k ∈ cs.map toRc, RcClean k := fun k hk => by
      obtain ⟨x, hx, rfl⟩ := List.mem_map.mp hk
      exact ok_clean (by omega) (by omega) (ok x hx)
    have wno : ∀ k ∈ cs.map toRc, wrongP r c k = none := fun k hk => by
      obtain ⟨x, hx, rfl⟩ := List.mem_map.mp hk
      exact ok_wrong (ok x hx)
    have lcs : (cs.map toRc).length = cs.length := List.length_map ..
    have hin : inRow r (row : Int) := ⟨by omega, by omega⟩
    have len0 : (rtxR row (cs.map toRc)).length ≤ 500 := by
      have bp : ∀ p ∈ (cs.map toRc).map pclR, p.length ≤ 23 := fun p hp => by
        obtain ⟨k, hk, rfl⟩ := List.mem_map.mp hp
        exact pclR_len5 (cln k hk)
      have lj := jnl_len bp
      rw [List.length_map, lcs] at lj
      show (jnl ((cs.map toRc).map pclR)).length + 1 + 1 ≤ 500
      omega
    refine ⟨_, rfl, _, rfl, _, rfl, _, rfl, _, rfl, _, rfl, y, s, s, D, ws, r, c, n, row, cs, rfl, raM, scM, hDM, hcM, fun M1 m1 => ⟨_, rfl, iteF ?_⟩⟩
    refine ⟨rfl, _, rfl, _, rfl, _, rfl, D, ws, cs.map toRc, row, rfl, m1 _ _ hDM, cls_rcs (hcM.mono m1), sml, by omega, hc10, fun M2 m2 => ?_⟩
    have m12 := m1.trans m2
    refine ⟨s, r, c, n, _, rfl, scM.mono m12, len0, (fun e => by rw [parse_R hc10 cln] at e; cases e), fun row1 rs1 e => ?_⟩
    rw [parse_R hc10 cln] at e
    have e := Option.some.inj e
    obtain ⟨rfl, rfl⟩ : row = row1 ∧ cs.map toRc = rs1 := ⟨congrArg Prod.fst e, congrArg Prod.snd e⟩
    refine ⟨sml, by omega, fun h => absurd hin h, fun _ h => by omega, (fun _ _ i t h => by rw [firstW_all wno] at h; cases h), fun _ _ _ M3 p2 m3 _ ra2 => ?_⟩
    rw [toCl_toRc] at ra2
    have m13 := m12.trans m3
    refine ⟨_, rfl, _, rfl, _, rfl, _, rfl, _, rfl, _, rfl, p2, s, s, D, ws, r, c, n, row, cs, rfl, ra2, scM.mono m13, m13 _ _ hDM, hcM.mono m13, fun M4 m4 => ⟨_, rfl, iteF ?_⟩⟩
    have m14 := m13.trans m4
    have ra4 := raM.mono m14
    have rb4 := ra2.mono m4
    obtain ⟨dy4, _, _, _, hy4, _⟩ := ra4.ob
    obtain ⟨dp4, _, _, _, hp4, _⟩ := rb4.ob
    have e1 : V.bl (decide (r = r) && decide (c = c) && decide (row = row) && sameW r c n row cs cs) = .bl true := by
      have : sameW r c n row cs cs = true := by
        unfold sameW
        rw [List.all_eq_true]
        intro m _
        exact decide_eq_true rfl
      rw [this]
      simp
    refine ⟨_, rfl, _, rfl, y, dy4, _, rfl, hy4, .inr (.inr ⟨p2, dp4, _, rfl, hp4⟩), y, s, r, c, n, row, cs, _, rfl, ra4, .inr (.inr ⟨p2, s, r, c, n, row, cs, rfl, rb4, _, rfl, ?_⟩)⟩
    refine ⟨_, _, .bl true, rfl, e1, rfl, (bd _).1, (bd _).2, _, rfl, iteF ?_⟩
    refine ⟨_, rfl, _, rfl, p2, dp4, _, rfl, hp4, .inr (.inr ⟨y, dy4, _, rfl, hy4⟩), p2, s, r, c, n, row, cs, _, rfl, rb4, .inr (.inr ⟨y, s, r, c, n, row, cs, rfl, ra4, _, rfl, ?_⟩)⟩
    refine ⟨_, _, .bl true, rfl, e1, rfl, (bd _).1, (bd _).2, _, rfl, iteF ?_⟩
    have b4 := hbM.mono m14
    have sc4 := scM.mono m14
    have hD4 := m14 _ _ hDM
    have hc4 := hcM.mono m14
    clear rb4 ra2 raM scM hDM hcM hbM m14 m13 m12 m1 m2 m3 m4 hy4 hp4 e1 len0
    refine ⟨_, rfl, _, rfl, _, rfl, _, rfl, _, rfl, _, rfl, _, rfl, b, y, s, s, D, r, c, n, 98950, row, ws, cs, rfl, ra4, sc4, b4, hD4, hc4, fun M5 u5 => ⟨_, rfl, iteF ?_⟩⟩
    have ra5 := ra4.bu b4 u5
    refine ⟨_, rfl, _, rfl, _, rfl, _, rfl, r, c, rfl, by omega, by omega, ?_⟩
    rw [good_pow gd]
    refine ⟨_, rfl, b, y, s, r, c, n, row, 98943, cs, rfl, ra5, u5.box, fun M6 u6 => ⟨_, rfl, iteF ?_⟩⟩
    have u46 := u5.trans u6
    refine ⟨_, rfl, _, rfl, _, rfl, _, rfl, _, rfl, _, rfl, b, s, D, r, c, n, 98918, row, ws, cs, rfl, sc4.bu b4 u46, hrow, u46.box, u46.1 _ _ hD4 nDb, hc4.bu b4 u46, ok, h6, fun M7 u7 => ⟨_, rfl, iteF ?_⟩⟩
    have u47 := u46.trans u7
    refine ⟨_, rfl, _, rfl, _, rfl, _, rfl, _, rfl, _, rfl, b, s, D, r, c, n, 98890, row, ws, cs, rfl, sc4.bu b4 u47, hrow, u47.box, u47.1 _ _ hD4 nDb, hc4.bu b4 u47, ok, h6, fun M8 u8 => ⟨_, rfl, iteF ?_⟩⟩
    have u48 := u47.trans u8
    exact ⟨_, rfl, _, rfl, _, rfl, _, rfl, _, rfl, _, rfl, y, s, s, D, ws, r, c, n, row, cs, rfl, ra4.bu b4 u48, sc4.bu b4 u48, u48.1 _ _ hD4 nDb, hc4.bu b4 u48, fun M9 _ => z _⟩
end
theorem law_F {l : PySem.W.OpenLaw} {w : World} {K : PySem.W.Frag} {mg : Str → Option Value} {fa : Addr} {a : Ad} (T : Txt K mg a) (hfa : mg "law" = some (.ref fa)) :
    ∃ fd : FuncData, (∀ (s : Shared) (v : Value), BindsTo s fd ⟨[v], []⟩ [("script", v)]) ∧ ∀ base : Heap, K.In base → base.Ns mainGlobals mg → FnOk l.prog w K mg base (L2.CX l.prog w) 9 fa fd ["script"] (spLaw K) := by
  obtain ⟨f, fd, F, g⟩ := T.d_law.ex
  have e := hfa.symm.trans g
  cases e
  refine ⟨fd, fun s v => ?_, fun base _ _ => ok_law T F⟩
  obtain ⟨oc, od, kV, doc, pm, an, cdv, ct, osl, rfl, lk, hcd⟩ := F.ex
  exact .of_eq rfl
theorem walk {l : PySem.W.OpenLaw} {q : Program} {loose : List Str} {XP : (Str → Option Value) → Heap → Prop} {YP : World → Heap → Prop} {d : DefRec} {K : Params → PySem.W.Frag} (hn : l.most = some 63) (hdf : d.params.defaults = [])
    (hY : ∀ (w : World) (h : Heap), YP w h → (K w.params).In h) (hd : d.name = "law")
    (F : ∀ (w : World) (mg : Str → Option Value) (h : Heap), (K w.params).In h → h.Ns mainGlobals mg → ∃ a, Txt (K w.params) mg a) :
    PySem.W.WalkO q loose XP YP l.row.toRowW d [] (fun f vs => PySem.call f vs) :=
  L2.walk_of (n := 63) (k := 9) (x := "script") (CX := fun w => L2.CX l.prog w) (sp := fun w => spLaw (K w.params)) hn (by decide) hdf ⟨rfl, by decide, by decide⟩ hY
    (fun w mg fa h KX G hmg => let ⟨a, T⟩ := F w mg h KX G; law_F T (hd ▸ hmg))
    (fun _ _ a ns hl _ hS => ⟨a, ns, rfl, hS, hl, fun _ => rfl⟩) fun _ _ _ _ _ z => by
      obtain ⟨_, _, _, _, _, _, _, _, _, _, _, _, x⟩ := z
      exact x
end K23

end
section
set_option Elab.async false
set_option linter.all false
set_option maxRecDepth 100000
set_option maxHeartbeats 4000000
namespace K23
open PySem PySem.Spec PyProof.Rows L2 Kit
theorem kk_of {K : PySem.W.Frag} {CGalloonError CBadScheme CBadColumn CBadSpots CBadRow CBadColour CTooMany CBadClause CBadRule CScheme CRule : Addr}
    (ic_BadScheme : PySem.W.isClsIn K CBadScheme = true)
    (tc_BadScheme : PySem.W.typeIn K (.ref CBadScheme) = some (.type "type"))
    (ic_BadColumn : PySem.W.isClsIn K CBadColumn = true)
    (tc_BadColumn : PySem.W.typeIn K (.ref CBadColumn) = some (.type "type"))
    (ic_BadSpots : PySem.W.isClsIn K CBadSpots = true)
    (tc_BadSpots : PySem.W.typeIn K (.ref CBadSpots) = some (.type "type"))
    (ic_BadRow : PySem.W.isClsIn K CBadRow = true)
    (tc_BadRow : PySem.W.typeIn K (.ref CBadRow) = some (.type "type"))
    (ic_BadColour : PySem.W.isClsIn K CBadColour = true)
    (tc_BadColour : PySem.W.typeIn K (.ref CBadColour) = some (.type "type"))
    (ic_TooMany : PySem.W.isClsIn K CTooMany = true)
    (tc_TooMany : PySem.W.typeIn K (.ref CTooMany) = some (.type "type"))
    (ic_BadClause : PySem.W.isClsIn K CBadClause = true)
    (tc_BadClause : PySem.W.typeIn K (.ref CBadClause) = some (.type "type"))
    (ic_BadRule : PySem.W.isClsIn K CBadRule = true)
    (tc_BadRule : PySem.W.typeIn K (.ref CBadRule) = some (.type "type"))
    (s_0_1 : PySem.W.subIn K (.ref CBadScheme) (.ref CBadColumn) = some false)
    (ne_0_1 : ((Value.ref CBadScheme) == Value.ref CBadColumn) = false)
    (s_0_2 : PySem.W.subIn K (.ref CBadScheme) (.ref CBadSpots) = some false)
    (ne_0_2 : ((Value.ref CBadScheme) == Value.ref CBadSpots) = false)
    (s_0_3 : PySem.W.subIn K (.ref CBadScheme) (.ref CBadRow) = some false)
    (ne_0_3 : ((Value.ref CBadScheme) == Value.ref CBadRow) = false)
    (s_0_4 : PySem.W.subIn K (.ref CBadScheme) (.ref CBadColour) = some false)
    (ne_0_4 : ((Value.ref CBadScheme) == Value.ref CBadColour) = false)
    (s_0_5 : PySem.W.subIn K (.ref CBadScheme) (.ref CTooMany) = some false)
    (ne_0_5 : ((Value.ref CBadScheme) == Value.ref CTooMany) = false)
    (s_0_6 : PySem.W.subIn K (.ref CBadScheme) (.ref CBadClause) = some false)
    (ne_0_6 : ((Value.ref CBadScheme) == Value.ref CBadClause) = false)
    (s_0_7 : PySem.W.subIn K (.ref CBadScheme) (.ref CBadRule) = some false)
    (ne_0_7 : ((Value.ref CBadScheme) == Value.ref CBadRule) = false)
    (s_1_0 : PySem.W.subIn K (.ref CBadColumn) (.ref CBadScheme) = some false)
    (ne_1_0 : ((Value.ref CBadColumn) == Value.ref CBadScheme) = false)
    (s_1_2 : PySem.W.subIn K (.ref CBadColumn) (.ref CBadSpots) = some false)
    (ne_1_2 : ((Value.ref CBadColumn) == Value.ref CBadSpots) = false)
    (s_1_3 : PySem.W.subIn K (.ref CBadColumn) (.ref CBadRow) = some false)
    (ne_1_3 : ((Value.ref CBadColumn) == Value.ref CBadRow) = false)
    (s_1_4 : PySem.W.subIn K (.ref CBadColumn) (.ref CBadColour) = some false)
    (ne_1_4 : ((Value.ref CBadColumn) == Value.ref CBadColour) = false)
    (s_1_5 : PySem.W.subIn K (.ref CBadColumn) (.ref CTooMany) = some false)
    (ne_1_5 : ((Value.ref CBadColumn) == Value.ref CTooMany) = false)
    (s_1_6 : PySem.W.subIn K (.ref CBadColumn) (.ref CBadClause) = some false)
    (ne_1_6 : ((Value.ref CBadColumn) == Value.ref CBadClause) = false)
    (s_1_7 : PySem.W.subIn K (.ref CBadColumn) (.ref CBadRule) = some false)
    (ne_1_7 : ((Value.ref CBadColumn) == Value.ref CBadRule) = false)
    (s_2_0 : PySem.W.subIn K (.ref CBadSpots) (.ref CBadScheme) = some false)
    (ne_2_0 : ((Value.ref CBadSpots) == Value.ref CBadScheme) = false)
    (s_2_1 : PySem.W.subIn K (.ref CBadSpots) (.ref CBadColumn) = some false)
    (ne_2_1 : ((Value.ref CBadSpots) == Value.ref CBadColumn) = false)
    (s_2_3 : PySem.W.subIn K (.ref CBadSpots) (.ref CBadRow) = some false)
    (ne_2_3 : ((Value.ref CBadSpots) == Value.ref CBadRow) = false)
    (s_2_4 : PySem.W.subIn K (.ref CBadSpots) (.ref CBadColour) = some false)
    (ne_2_4 : ((Value.ref CBadSpots) == Value.ref CBadColour) = false)
    (s_2_5 : PySem.W.subIn K (.ref CBadSpots) (.ref CTooMany) = some false)
    (ne_2_5 : ((Value.ref CBadSpots) == Value.ref CTooMany) = false)
    (s_2_6 : PySem.W.subIn K (.ref CBadSpots) (.ref CBadClause) = some false)
    (ne_2_6 : ((Value.ref CBadSpots) == Value.ref CBadClause) = false)
    (s_2_7 : PySem.W.subIn K (.ref CBadSpots) (.ref CBadRule) = some false)
    (ne_2_7 : ((Value.ref CBadSpots) == Value.ref CBadRule) = false)
    (s_3_0 : PySem.W.subIn K (.ref CBadRow) (.ref CBadScheme) = some false)
    (ne_3_0 : ((Value.ref CBadRow) == Value.ref CBadScheme) = false)
    (s_3_1 : PySem.W.subIn K (.ref CBadRow) (.ref CBadColumn) = some false)
    (ne_3_1 : ((Value.ref CBadRow) == Value.ref CBadColumn) = false)
    (s_3_2 : PySem.W.subIn K (.ref CBadRow) (.ref CBadSpots) = some false)
    (ne_3_2 : ((Value.ref CBadRow) == Value.ref CBadSpots) = false)
    (s_3_4 : PySem.W.subIn K (.ref CBadRow) (.ref CBadColour) = some false)
    (ne_3_4 : ((Value.ref CBadRow) == Value.ref CBadColour) = false)
    (s_3_5 : PySem.W.subIn K (.ref CBadRow) (.ref CTooMany) = some false)
    (ne_3_5 : ((Value.ref CBadRow) == Value.ref CTooMany) = false)
    (s_3_6 : PySem.W.subIn K (.ref CBadRow) (.ref CBadClause) = some false)
    (ne_3_6 : ((Value.ref CBadRow) == Value.ref CBadClause) = false)
    (s_3_7 : PySem.W.subIn K (.ref CBadRow) (.ref CBadRule) = some false)
    (ne_3_7 : ((Value.ref CBadRow) == Value.ref CBadRule) = false)
    (s_4_0 : PySem.W.subIn K (.ref CBadColour) (.ref CBadScheme) = some false)
    (ne_4_0 : ((Value.ref CBadColour) == Value.ref CBadScheme) = false)
    (s_4_1 : PySem.W.subIn K (.ref CBadColour) (.ref CBadColumn) = some false)
    (ne_4_1 : ((Value.ref CBadColour) == Value.ref CBadColumn) = false)
    (s_4_2 : PySem.W.subIn K (.ref CBadColour) (.ref CBadSpots) = some false)
    (ne_4_2 : ((Value.ref CBadColour) == Value.ref CBadSpots) = false)
    (s_4_3 : PySem.W.subIn K (.ref CBadColour) (.ref CBadRow) = some false)
    (ne_4_3 : ((Value.ref CBadColour) == Value.ref CBadRow) = false)
    (s_4_5 : PySem.W.subIn K (.ref CBadColour) (.ref CTooMany) = some false)
    (ne_4_5 : ((Value.ref CBadColour) == Value.ref CTooMany) = false)
    (s_4_6 : PySem.W.subIn K (.ref CBadColour) (.ref CBadClause) = some false)
    (ne_4_6 : ((Value.ref CBadColour) == Value.ref CBadClause) = false)
    (s_4_7 : PySem.W.subIn K (.ref CBadColour) (.ref CBadRule) = some false)
    (ne_4_7 : ((Value.ref CBadColour) == Value.ref CBadRule) = false)
    (s_5_0 : PySem.W.subIn K (.ref CTooMany) (.ref CBadScheme) = some false)
    (ne_5_0 : ((Value.ref CTooMany) == Value.ref CBadScheme) = false)
    (s_5_1 : PySem.W.subIn K (.ref CTooMany) (.ref CBadColumn) = some false)
    (ne_5_1 : ((Value.ref CTooMany) == Value.ref CBadColumn) = false)
    (s_5_2 : PySem.W.subIn K (.ref CTooMany) (.ref CBadSpots) = some false)
    (ne_5_2 : ((Value.ref CTooMany) == Value.ref CBadSpots) = false)
    (s_5_3 : PySem.W.subIn K (.ref CTooMany) (.ref CBadRow) = some false)
    (ne_5_3 : ((Value.ref CTooMany) == Value.ref CBadRow) = false)
    (s_5_4 : PySem.W.subIn K (.ref CTooMany) (.ref CBadColour) = some false)
    (ne_5_4 : ((Value.ref CTooMany) == Value.ref CBadColour) = false)
    (s_5_6 : PySem.W.subIn K (.ref CTooMany) (.ref CBadClause) = some false)
    (ne_5_6 : ((Value.ref CTooMany) == Value.ref CBadClause) = false)
    (s_5_7 : PySem.W.subIn K (.ref CTooMany) (.ref CBadRule) = some false)
    (ne_5_7 : ((Value.ref CTooMany) == Value.ref CBadRule) = false)
    (s_6_0 : PySem.W.subIn K (.ref CBadClause) (.ref CBadScheme) = some false)
    (ne_6_0 : ((Value.ref CBadClause) == Value.ref CBadScheme) = false)
    (s_6_1 : PySem.W.subIn K (.ref CBadClause) (.ref CBadColumn) = some false)
    (ne_6_1 : ((Value.ref CBadClause) == Value.ref CBadColumn) = false)
    (s_6_2 : PySem.W.subIn K (.ref CBadClause) (.ref CBadSpots) = some false)
    (ne_6_2 : ((Value.ref CBadClause) == Value.ref CBadSpots) = false)
    (s_6_3 : PySem.W.subIn K (.ref CBadClause) (.ref CBadRow) = some false)
    (ne_6_3 : ((Value.ref CBadClause) == Value.ref CBadRow) = false)
    (s_6_4 : PySem.W.subIn K (.ref CBadClause) (.ref CBadColour) = some false)
    (ne_6_4 : ((Value.ref CBadClause) == Value.ref CBadColour) = false)
    (s_6_5 : PySem.W.subIn K (.ref CBadClause) (.ref CTooMany) = some false)
    (ne_6_5 : ((Value.ref CBadClause) == Value.ref CTooMany) = false)
    (s_6_7 : PySem.W.subIn K (.ref CBadClause) (.ref CBadRule) = some false)
    (ne_6_7 : ((Value.ref CBadClause) == Value.ref CBadRule) = false)
    (s_7_0 : PySem.W.subIn K (.ref CBadRule) (.ref CBadScheme) = some false)
    (ne_7_0 : ((Value.ref CBadRule) == Value.ref CBadScheme) = false)
    (s_7_1 : PySem.W.subIn K (.ref CBadRule) (.ref CBadColumn) = some false)
    (ne_7_1 : ((Value.ref CBadRule) == Value.ref CBadColumn) = false)
    (s_7_2 : PySem.W.subIn K (.ref CBadRule) (.ref CBadSpots) = some false)
    (ne_7_2 : ((Value.ref CBadRule) == Value.ref CBadSpots) = false)
    (s_7_3 : PySem.W.subIn K (.ref CBadRule) (.ref CBadRow) = some false)
    (ne_7_3 : ((Value.ref CBadRule) == Value.ref CBadRow) = false)
    (s_7_4 : PySem.W.subIn K (.ref CBadRule) (.ref CBadColour) = some false)
    (ne_7_4 : ((Value.ref CBadRule) == Value.ref CBadColour) = false)
    (s_7_5 : PySem.W.subIn K (.ref CBadRule) (.ref CTooMany) = some false)
    (ne_7_5 : ((Value.ref CBadRule) == Value.ref CTooMany) = false)
    (s_7_6 : PySem.W.subIn K (.ref CBadRule) (.ref CBadClause) = some false)
    (ne_7_6 : ((Value.ref CBadRule) == Value.ref CBadClause) = false) : ∀ i < 8, ∀ j < 8, PySem.W.kitOne K (.ref (eAd ⟨CGalloonError, CBadScheme, CBadColumn, CBadSpots, CBadRow, CBadColour, CTooMany, CBadClause, CBadRule, CScheme, CRule⟩ i)) (.ref (eAd ⟨CGalloonError, CBadScheme, CBadColumn, CBadSpots, CBadRow, CBadColour, CTooMany, CBadClause, CBadRule, CScheme, CRule⟩ j)) = some (decide (i = j)) := by
  intro i hi j hj
  match i, hi, j, hj with
  | 0, _, 0, _ => exact kitS_of
  | 0, _, 1, _ => exact kitR_of ic_BadColumn tc_BadColumn s_0_1 ne_0_1
  | 0, _, 2, _ => exact kitR_of ic_BadSpots tc_BadSpots s_0_2 ne_0_2
  | 0, _, 3, _ => exact kitR_of ic_BadRow tc_BadRow s_0_3 ne_0_3
  | 0, _, 4, _ => exact kitR_of ic_BadColour tc_BadColour s_0_4 ne_0_4
  | 0, _, 5, _ => exact kitR_of ic_TooMany tc_TooMany s_0_5 ne_0_5
  | 0, _, 6, _ => exact kitR_of ic_BadClause tc_BadClause s_0_6 ne_0_6
  | 0, _, 7, _ => exact kitR_of ic_BadRule tc_BadRule s_0_7 ne_0_7
  | 1, _, 0, _ => exact kitR_of ic_BadScheme tc_BadScheme s_1_0 ne_1_0
  | 1, _, 1, _ => exact kitS_of
  | 1, _, 2, _ => exact kitR_of ic_BadSpots tc_BadSpots s_1_2 ne_1_2
  | 1, _, 3, _ => exact kitR_of ic_BadRow tc_BadRow s_1_3 ne_1_3
  | 1, _, 4, _ => exact kitR_of ic_BadColour tc_BadColour s_1_4 ne_1_4
  | 1, _, 5, _ => exact kitR_of ic_TooMany tc_TooMany s_1_5 ne_1_5
  | 1, _, 6, _ => exact kitR_of ic_BadClause tc_BadClause s_1_6 ne_1_6
  | 1, _, 7, _ => exact kitR_of ic_BadRule tc_BadRule s_1_7 ne_1_7
  | 2, _, 0, _ => exact kitR_of ic_BadScheme tc_BadScheme s_2_0 ne_2_0
  | 2, _, 1, _ => exact kitR_of ic_BadColumn tc_BadColumn s_2_1 ne_2_1
  | 2, _, 2, _ => exact kitS_of
  | 2, _, 3, _ => exact kitR_of ic_BadRow tc_BadRow s_2_3 ne_2_3
  | 2, _, 4, _ => exact kitR_of ic_BadColour tc_BadColour s_2_4 ne_2_4
  | 2, _, 5, _ => exact kitR_of ic_TooMany tc_TooMany s_2_5 ne_2_5
  | 2, _, 6, _ => exact kitR_of ic_BadClause tc_BadClause s_2_6 ne_2_6
  | 2, _, 7, _ => exact kitR_of ic_BadRule tc_BadRule s_2_7 ne_2_7
  | 3, _, 0, _ => exact kitR_of ic_BadScheme tc_BadScheme s_3_0 ne_3_0
  | 3, _, 1, _ => exact kitR_of ic_BadColumn tc_BadColumn s_3_1 ne_3_1
  | 3, _, 2, _ => exact kitR_of ic_BadSpots tc_BadSpots s_3_2 ne_3_2
  | 3, _, 3, _ => exact kitS_of
  | 3, _, 4, _ => exact kitR_of ic_BadColour tc_BadColour s_3_4 ne_3_4
  | 3, _, 5, _ => exact kitR_of ic_TooMany tc_TooMany s_3_5 ne_3_5
  | 3, _, 6, _ => exact kitR_of ic_BadClause tc_BadClause s_3_6 ne_3_6
  | 3, _, 7, _ => exact kitR_of ic_BadRule tc_BadRule s_3_7 ne_3_7
  | 4, _, 0, _ => exact kitR_of ic_BadScheme tc_BadScheme s_4_0 ne_4_0
  | 4, _, 1, _ => exact kitR_of ic_BadColumn tc_BadColumn s_4_1 ne_4_1
  | 4, _, 2, _ => exact kitR_of ic_BadSpots tc_BadSpots s_4_2 ne_4_2
  | 4, _, 3, _ => exact kitR_of ic_BadRow tc_BadRow s_4_3 ne_4_3
  | 4, _, 4, _ => exact kitS_of
  | 4, _, 5, _ => exact kitR_of ic_TooMany tc_TooMany s_4_5 ne_4_5
  | 4, _, 6, _ => exact kitR_of ic_BadClause tc_BadClause s_4_6 ne_4_6
  | 4, _, 7, _ => exact kitR_of ic_BadRule tc_BadRule s_4_7 ne_4_7
  | 5, _, 0, _ => exact kitR_of ic_BadScheme tc_BadScheme s_5_0 ne_5_0
  | 5, _, 1, _ => exact kitR_of ic_BadColumn tc_BadColumn s_5_1 ne_5_1
  | 5, _, 2, _ => exact kitR_of ic_BadSpots tc_BadSpots s_5_2 ne_5_2
  | 5, _, 3, _ => exact kitR_of ic_BadRow tc_BadRow s_5_3 ne_5_3
  | 5, _, 4, _ => exact kitR_of ic_BadColour tc_BadColour s_5_4 ne_5_4
  | 5, _, 5, _ => exact kitS_of
  | 5, _, 6, _ => exact kitR_of ic_BadClause tc_BadClause s_5_6 ne_5_6
  | 5, _, 7, _ => exact kitR_of ic_BadRule tc_BadRule s_5_7 ne_5_7
  | 6, _, 0, _ => exact kitR_of ic_BadScheme tc_BadScheme s_6_0 ne_6_0
  | 6, _, 1, _ => exact kitR_of ic_BadColumn tc_BadColumn s_6_1 ne_6_1
  | 6, _, 2, _ => exact kitR_of ic_BadSpots tc_BadSpots s_6_2 ne_6_2
  | 6, _, 3, _ => exact kitR_of ic_BadRow tc_BadRow s_6_3 ne_6_3
  | 6, _, 4, _ => exact kitR_of ic_BadColour tc_BadColour s_6_4 ne_6_4
  | 6, _, 5, _ => exact kitR_of ic_TooMany tc_TooMany s_6_5 ne_6_5
  | 6, _, 6, _ => exact kitS_of
  | 6, _, 7, _ => exact kitR_of ic_BadRule tc_BadRule s_6_7 ne_6_7
  | 7, _, 0, _ => exact kitR_of ic_BadScheme tc_BadScheme s_7_0 ne_7_0
  | 7, _, 1, _ => exact kitR_of ic_BadColumn tc_BadColumn s_7_1 ne_7_1
  | 7, _, 2, _ => exact kitR_of ic_BadSpots tc_BadSpots s_7_2 ne_7_2
  | 7, _, 3, _ => exact kitR_of ic_BadRow tc_BadRow s_7_3 ne_7_3
  | 7, _, 4, _ => exact kitR_of ic_BadColour tc_BadColour s_7_4 ne_7_4
  | 7, _, 5, _ => exact kitR_of ic_TooMany tc_TooMany s_7_5 ne_7_5
  | 7, _, 6, _ => exact kitR_of ic_BadClause tc_BadClause s_7_6 ne_7_6
  | 7, _, 7, _ => exact kitS_of
theorem kv_of {K : PySem.W.Frag} {CGalloonError CBadScheme CBadColumn CBadSpots CBadRow CBadColour CTooMany CBadClause CBadRule CScheme CRule : Addr}
    (sv_0 : PySem.W.subIn K (.ref CBadScheme) (.type "ValueError") = some true)
    (sv_1 : PySem.W.subIn K (.ref CBadColumn) (.type "ValueError") = some true)
    (sv_2 : PySem.W.subIn K (.ref CBadSpots) (.type "ValueError") = some true)
    (sv_3 : PySem.W.subIn K (.ref CBadRow) (.type "ValueError") = some true)
    (sv_4 : PySem.W.subIn K (.ref CBadColour) (.type "ValueError") = some true)
    (sv_5 : PySem.W.subIn K (.ref CTooMany) (.type "ValueError") = some true)
    (sv_6 : PySem.W.subIn K (.ref CBadClause) (.type "ValueError") = some true)
    (sv_7 : PySem.W.subIn K (.ref CBadRule) (.type "ValueError") = some true) : ∀ i < 8, PySem.W.kitOne K (.ref (eAd ⟨CGalloonError, CBadScheme, CBadColumn, CBadSpots, CBadRow, CBadColour, CTooMany, CBadClause, CBadRule, CScheme, CRule⟩ i)) (.type "ValueError") = some true := by
  intro i hi
  match i, hi with
  | 0, _ => exact kitT_of (by decide +kernel) sv_0
  | 1, _ => exact kitT_of (by decide +kernel) sv_1
  | 2, _ => exact kitT_of (by decide +kernel) sv_2
  | 3, _ => exact kitT_of (by decide +kernel) sv_3
  | 4, _ => exact kitT_of (by decide +kernel) sv_4
  | 5, _ => exact kitT_of (by decide +kernel) sv_5
  | 6, _ => exact kitT_of (by decide +kernel) sv_6
  | 7, _ => exact kitT_of (by decide +kernel) sv_7
theorem xm_of {K : PySem.W.Frag} {CGalloonError CBadScheme CBadColumn CBadSpots CBadRow CBadColour CTooMany CBadClause CBadRule CScheme CRule : Addr}
    (sB_GalloonError : PySem.W.subIn K (.ref CGalloonError) (.type "BaseException") = some true)
    (ic_GalloonError : PySem.W.isClsIn K CGalloonError = true)
    (tc_GalloonError : PySem.W.typeIn K (.ref CGalloonError) = some (.type "type"))
    (sg_0 : PySem.W.subIn K (.ref CBadScheme) (.ref CGalloonError) = some true)
    (sg_1 : PySem.W.subIn K (.ref CBadColumn) (.ref CGalloonError) = some true)
    (sg_2 : PySem.W.subIn K (.ref CBadSpots) (.ref CGalloonError) = some true)
    (sg_3 : PySem.W.subIn K (.ref CBadRow) (.ref CGalloonError) = some true)
    (sg_4 : PySem.W.subIn K (.ref CBadColour) (.ref CGalloonError) = some true)
    (sg_5 : PySem.W.subIn K (.ref CTooMany) (.ref CGalloonError) = some true)
    (sg_6 : PySem.W.subIn K (.ref CBadClause) (.ref CGalloonError) = some true)
    (sg_7 : PySem.W.subIn K (.ref CBadRule) (.ref CGalloonError) = some true) : ∀ i < 8, PySem.W.exmOne K (.ref (eAd ⟨CGalloonError, CBadScheme, CBadColumn, CBadSpots, CBadRow, CBadColour, CTooMany, CBadClause, CBadRule, CScheme, CRule⟩ i)) (.ref CGalloonError) = some true := by
  intro i hi
  match i, hi with
  | 0, _ => exact exm_of sB_GalloonError ic_GalloonError tc_GalloonError sg_0
  | 1, _ => exact exm_of sB_GalloonError ic_GalloonError tc_GalloonError sg_1
  | 2, _ => exact exm_of sB_GalloonError ic_GalloonError tc_GalloonError sg_2
  | 3, _ => exact exm_of sB_GalloonError ic_GalloonError tc_GalloonError sg_3
  | 4, _ => exact exm_of sB_GalloonError ic_GalloonError tc_GalloonError sg_4
  | 5, _ => exact exm_of sB_GalloonError ic_GalloonError tc_GalloonError sg_5
  | 6, _ => exact exm_of sB_GalloonError ic_GalloonError tc_GalloonError sg_6
  | 7, _ => exact exm_of sB_GalloonError ic_GalloonError tc_GalloonError sg_7
theorem kg_of {K : PySem.W.Frag} {CGalloonError CBadScheme CBadColumn CBadSpots CBadRow CBadColour CTooMany CBadClause CBadRule CScheme CRule : Addr}
    (ic_GalloonError : PySem.W.isClsIn K CGalloonError = true)
    (tc_GalloonError : PySem.W.typeIn K (.ref CGalloonError) = some (.type "type"))
    (sg_0 : PySem.W.subIn K (.ref CBadScheme) (.ref CGalloonError) = some true)
    (sg_1 : PySem.W.subIn K (.ref CBadColumn) (.ref CGalloonError) = some true)
    (sg_2 : PySem.W.subIn K (.ref CBadSpots) (.ref CGalloonError) = some true)
    (sg_3 : PySem.W.subIn K (.ref CBadRow) (.ref CGalloonError) = some true)
    (sg_4 : PySem.W.subIn K (.ref CBadColour) (.ref CGalloonError) = some true)
    (sg_5 : PySem.W.subIn K (.ref CTooMany) (.ref CGalloonError) = some true)
    (sg_6 : PySem.W.subIn K (.ref CBadClause) (.ref CGalloonError) = some true)
    (sg_7 : PySem.W.subIn K (.ref CBadRule) (.ref CGalloonError) = some true)
    (ne_g_0 : ((Value.ref CBadScheme) == Value.ref CGalloonError) = false)
    (ne_g_1 : ((Value.ref CBadColumn) == Value.ref CGalloonError) = false)
    (ne_g_2 : ((Value.ref CBadSpots) == Value.ref CGalloonError) = false)
    (ne_g_3 : ((Value.ref CBadRow) == Value.ref CGalloonError) = false)
    (ne_g_4 : ((Value.ref CBadColour) == Value.ref CGalloonError) = false)
    (ne_g_5 : ((Value.ref CTooMany) == Value.ref CGalloonError) = false)
    (ne_g_6 : ((Value.ref CBadClause) == Value.ref CGalloonError) = false)
    (ne_g_7 : ((Value.ref CBadRule) == Value.ref CGalloonError) = false) : ∀ i < 8, PySem.W.kitOne K (.ref (eAd ⟨CGalloonError, CBadScheme, CBadColumn, CBadSpots, CBadRow, CBadColour, CTooMany, CBadClause, CBadRule, CScheme, CRule⟩ i)) (.ref CGalloonError) = some true := by
  intro i hi
  match i, hi with
  | 0, _ => exact kitR_of ic_GalloonError tc_GalloonError sg_0 ne_g_0
  | 1, _ => exact kitR_of ic_GalloonError tc_GalloonError sg_1 ne_g_1
  | 2, _ => exact kitR_of ic_GalloonError tc_GalloonError sg_2 ne_g_2
  | 3, _ => exact kitR_of ic_GalloonError tc_GalloonError sg_3 ne_g_3
  | 4, _ => exact kitR_of ic_GalloonError tc_GalloonError sg_4 ne_g_4
  | 5, _ => exact kitR_of ic_GalloonError tc_GalloonError sg_5 ne_g_5
  | 6, _ => exact kitR_of ic_GalloonError tc_GalloonError sg_6 ne_g_6
  | 7, _ => exact kitR_of ic_GalloonError tc_GalloonError sg_7 ne_g_7
theorem xo_of {K : PySem.W.Frag} {CGalloonError CBadScheme CBadColumn CBadSpots CBadRow CBadColour CTooMany CBadClause CBadRule CScheme CRule : Addr}
    (sB_BadScheme : PySem.W.subIn K (.ref CBadScheme) (.type "BaseException") = some true)
    (ic_BadScheme : PySem.W.isClsIn K CBadScheme = true)
    (tc_BadScheme : PySem.W.typeIn K (.ref CBadScheme) = some (.type "type"))
    (sB_BadColumn : PySem.W.subIn K (.ref CBadColumn) (.type "BaseException") = some true)
    (ic_BadColumn : PySem.W.isClsIn K CBadColumn = true)
    (tc_BadColumn : PySem.W.typeIn K (.ref CBadColumn) = some (.type "type"))
    (sB_BadSpots : PySem.W.subIn K (.ref CBadSpots) (.type "BaseException") = some true)
    (ic_BadSpots : PySem.W.isClsIn K CBadSpots = true)
    (tc_BadSpots : PySem.W.typeIn K (.ref CBadSpots) = some (.type "type"))
    (sB_BadRow : PySem.W.subIn K (.ref CBadRow) (.type "BaseException") = some true)
    (ic_BadRow : PySem.W.isClsIn K CBadRow = true)
    (tc_BadRow : PySem.W.typeIn K (.ref CBadRow) = some (.type "type"))
    (sB_BadColour : PySem.W.subIn K (.ref CBadColour) (.type "BaseException") = some true)
    (ic_BadColour : PySem.W.isClsIn K CBadColour = true)
    (tc_BadColour : PySem.W.typeIn K (.ref CBadColour) = some (.type "type"))
    (sB_TooMany : PySem.W.subIn K (.ref CTooMany) (.type "BaseException") = some true)
    (ic_TooMany : PySem.W.isClsIn K CTooMany = true)
    (tc_TooMany : PySem.W.typeIn K (.ref CTooMany) = some (.type "type"))
    (sB_BadClause : PySem.W.subIn K (.ref CBadClause) (.type "BaseException") = some true)
    (ic_BadClause : PySem.W.isClsIn K CBadClause = true)
    (tc_BadClause : PySem.W.typeIn K (.ref CBadClause) = some (.type "type"))
    (sB_BadRule : PySem.W.subIn K (.ref CBadRule) (.type "BaseException") = some true)
    (ic_BadRule : PySem.W.isClsIn K CBadRule = true)
    (tc_BadRule : PySem.W.typeIn K (.ref CBadRule) = some (.type "type"))
    (ss_0 : PySem.W.subIn K (.ref CBadScheme) (.ref CBadScheme) = some true)
    (s_0_1 : PySem.W.subIn K (.ref CBadScheme) (.ref CBadColumn) = some false)
    (s_0_2 : PySem.W.subIn K (.ref CBadScheme) (.ref CBadSpots) = some false)
    (s_0_3 : PySem.W.subIn K (.ref CBadScheme) (.ref CBadRow) = some false)
    (s_0_4 : PySem.W.subIn K (.ref CBadScheme) (.ref CBadColour) = some false)
    (s_0_5 : PySem.W.subIn K (.ref CBadScheme) (.ref CTooMany) = some false)
    (s_0_6 : PySem.W.subIn K (.ref CBadScheme) (.ref CBadClause) = some false)
    (s_0_7 : PySem.W.subIn K (.ref CBadScheme) (.ref CBadRule) = some false)
    (s_1_0 : PySem.W.subIn K (.ref CBadColumn) (.ref CBadScheme) = some false)
    (ss_1 : PySem.W.subIn K (.ref CBadColumn) (.ref CBadColumn) = some true)
    (s_1_2 : PySem.W.subIn K (.ref CBadColumn) (.ref CBadSpots) = some false)
    (s_1_3 : PySem.W.subIn K (.ref CBadColumn) (.ref CBadRow) = some false)
    (s_1_4 : PySem.W.subIn K (.ref CBadColumn) (.ref CBadColour) = some false)
    (s_1_5 : PySem.W.subIn K (.ref CBadColumn) (.ref CTooMany) = some false)
    (s_1_6 : PySem.W.subIn K (.ref CBadColumn) (.ref CBadClause) = some false)
    (s_1_7 : PySem.W.subIn K (.ref CBadColumn) (.ref CBadRule) = some false)
    (s_2_0 : PySem.W.subIn K (.ref CBadSpots) (.ref CBadScheme) = some false)
    (s_2_1 : PySem.W.subIn K (.ref CBadSpots) (.ref CBadColumn) = some false)
    (ss_2 : PySem.W.subIn K (.ref CBadSpots) (.ref CBadSpots) = some true)
    (s_2_3 : PySem.W.subIn K (.ref CBadSpots) (.ref CBadRow) = some false)
    (s_2_4 : PySem.W.subIn K (.ref CBadSpots) (.ref CBadColour) = some false)
    (s_2_5 : PySem.W.subIn K (.ref CBadSpots) (.ref CTooMany) = some false)
    (s_2_6 : PySem.W.subIn K (.ref CBadSpots) (.ref CBadClause) = some false)
    (s_2_7 : PySem.W.subIn K (.ref CBadSpots) (.ref CBadRule) = some false)
    (s_3_0 : PySem.W.subIn K (.ref CBadRow) (.ref CBadScheme) = some false)
    (s_3_1 : PySem.W.subIn K (.ref CBadRow) (.ref CBadColumn) = some false)
    (s_3_2 : PySem.W.subIn K (.ref CBadRow) (.ref CBadSpots) = some false)
    (ss_3 : PySem.W.subIn K (.ref CBadRow) (.ref CBadRow) = some true)
    (s_3_4 : PySem.W.subIn K (.ref CBadRow) (.ref CBadColour) = some false)
    (s_3_5 : PySem.W.subIn K (.ref CBadRow) (.ref CTooMany) = some false)
    (s_3_6 : PySem.W.subIn K (.ref CBadRow) (.ref CBadClause) = some false)
    (s_3_7 : PySem.W.subIn K (.ref CBadRow) (.ref CBadRule) = some false)
    (s_4_0 : PySem.W.subIn K (.ref CBadColour) (.ref CBadScheme) = some false)
    (s_4_1 : PySem.W.subIn K (.ref CBadColour) (.ref CBadColumn) = some false)
    (s_4_2 : PySem.W.subIn K (.ref CBadColour) (.ref CBadSpots) = some false)
    (s_4_3 : PySem.W.subIn K (.ref CBadColour) (.ref CBadRow) = some false)
    (ss_4 : PySem.W.subIn K (.ref CBadColour) (.ref CBadColour) = some true)
    (s_4_5 : PySem.W.subIn K (.ref CBadColour) (.ref CTooMany) = some false)
    (s_4_6 : PySem.W.subIn K (.ref CBadColour) (.ref CBadClause) = some false)
    (s_4_7 : PySem.W.subIn K (.ref CBadColour) (.ref CBadRule) = some false)
    (s_5_0 : PySem.W.subIn K (.ref CTooMany) (.ref CBadScheme) = some false)
    (s_5_1 : PySem.W.subIn K (.ref CTooMany) (.ref CBadColumn) = some false)
    (s_5_2 : PySem.W.subIn K (.ref CTooMany) (.ref CBadSpots) = some false)
    (s_5_3 : PySem.W.subIn K (.ref CTooMany) (.ref CBadRow) = some false)
    (s_5_4 : PySem.W.subIn K (.ref CTooMany) (.ref CBadColour) = some false)
    (ss_5 : PySem.W.subIn K (.ref CTooMany) (.ref CTooMany) = some true)
    (s_5_6 : PySem.W.subIn K (.ref CTooMany) (.ref CBadClause) = some false)
    (s_5_7 : PySem.W.subIn K (.ref CTooMany) (.ref CBadRule) = some false)
    (s_6_0 : PySem.W.subIn K (.ref CBadClause) (.ref CBadScheme) = some false)
    (s_6_1 : PySem.W.subIn K (.ref CBadClause) (.ref CBadColumn) = some false)
    (s_6_2 : PySem.W.subIn K (.ref CBadClause) (.ref CBadSpots) = some false)
    (s_6_3 : PySem.W.subIn K (.ref CBadClause) (.ref CBadRow) = some false)
    (s_6_4 : PySem.W.subIn K (.ref CBadClause) (.ref CBadColour) = some false)
    (s_6_5 : PySem.W.subIn K (.ref CBadClause) (.ref CTooMany) = some false)
    (ss_6 : PySem.W.subIn K (.ref CBadClause) (.ref CBadClause) = some true)
    (s_6_7 : PySem.W.subIn K (.ref CBadClause) (.ref CBadRule) = some false)
    (s_7_0 : PySem.W.subIn K (.ref CBadRule) (.ref CBadScheme) = some false)
    (s_7_1 : PySem.W.subIn K (.ref CBadRule) (.ref CBadColumn) = some false)
    (s_7_2 : PySem.W.subIn K (.ref CBadRule) (.ref CBadSpots) = some false)
    (s_7_3 : PySem.W.subIn K (.ref CBadRule) (.ref CBadRow) = some false)
    (s_7_4 : PySem.W.subIn K (.ref CBadRule) (.ref CBadColour) = some false)
    (s_7_5 : PySem.W.subIn K (.ref CBadRule) (.ref CTooMany) = some false)
    (s_7_6 : PySem.W.subIn K (.ref CBadRule) (.ref CBadClause) = some false)
    (ss_7 : PySem.W.subIn K (.ref CBadRule) (.ref CBadRule) = some true) : ∀ i < 8, ∀ j < 8, PySem.W.exmOne K (.ref (eAd ⟨CGalloonError, CBadScheme, CBadColumn, CBadSpots, CBadRow, CBadColour, CTooMany, CBadClause, CBadRule, CScheme, CRule⟩ i)) (.ref (eAd ⟨CGalloonError, CBadScheme, CBadColumn, CBadSpots, CBadRow, CBadColour, CTooMany, CBadClause, CBadRule, CScheme, CRule⟩ j)) = some (decide (i = j)) := by
  intro i hi j hj
  match i, hi, j, hj with
  | 0, _, 0, _ => exact exm_of sB_BadScheme ic_BadScheme tc_BadScheme ss_0
  | 0, _, 1, _ => exact exm_of sB_BadColumn ic_BadColumn tc_BadColumn s_0_1
  | 0, _, 2, _ => exact exm_of sB_BadSpots ic_BadSpots tc_BadSpots s_0_2
  | 0, _, 3, _ => exact exm_of sB_BadRow ic_BadRow tc_BadRow s_0_3
  | 0, _, 4, _ => exact exm_of sB_BadColour ic_BadColour tc_BadColour s_0_4
  | 0, _, 5, _ => exact exm_of sB_TooMany ic_TooMany tc_TooMany s_0_5
  | 0, _, 6, _ => exact exm_of sB_BadClause ic_BadClause tc_BadClause s_0_6
  | 0, _, 7, _ => exact exm_of sB_BadRule ic_BadRule tc_BadRule s_0_7
  | 1, _, 0, _ => exact exm_of sB_BadScheme ic_BadScheme tc_BadScheme s_1_0
  | 1, _, 1, _ => exact exm_of sB_BadColumn ic_BadColumn tc_BadColumn ss_1
  | 1, _, 2, _ => exact exm_of sB_BadSpots ic_BadSpots tc_BadSpots s_1_2
  | 1, _, 3, _ => exact exm_of sB_BadRow ic_BadRow tc_BadRow s_1_3
  | 1, _, 4, _ => exact exm_of sB_BadColour ic_BadColour tc_BadColour s_1_4
  | 1, _, 5, _ => exact exm_of sB_TooMany ic_TooMany tc_TooMany s_1_5
  | 1, _, 6, _ => exact exm_of sB_BadClause ic_BadClause tc_BadClause s_1_6
  | 1, _, 7, _ => exact exm_of sB_BadRule ic_BadRule tc_BadRule s_1_7
  | 2, _, 0, _ => exact exm_of sB_BadScheme ic_BadScheme tc_BadScheme s_2_0
  | 2, _, 1, _ => exact exm_of sB_BadColumn ic_BadColumn tc_BadColumn s_2_1
  | 2, _, 2, _ => exact exm_of sB_BadSpots ic_BadSpots tc_BadSpots ss_2
  | 2, _, 3, _ => exact exm_of sB_BadRow ic_BadRow tc_BadRow s_2_3
  | 2, _, 4, _ => exact exm_of sB_BadColour ic_BadColour tc_BadColour s_2_4
  | 2, _, 5, _ => exact exm_of sB_TooMany ic_TooMany tc_TooMany s_2_5
  | 2, _, 6, _ => exact exm_of sB_BadClause ic_BadClause tc_BadClause s_2_6
  | 2, _, 7, _ => exact exm_of sB_BadRule ic_BadRule tc_BadRule s_2_7
  | 3, _, 0, _ => exact exm_of sB_BadScheme ic_BadScheme tc_BadScheme s_3_0
  | 3, _, 1, _ => exact exm_of sB_BadColumn ic_BadColumn tc_BadColumn s_3_1
  | 3, _, 2, _ => exact exm_of sB_BadSpots ic_BadSpots tc_BadSpots s_3_2
  | 3, _, 3, _ => exact exm_of sB_BadRow ic_BadRow tc_BadRow ss_3
  | 3, _, 4, _ => exact exm_of sB_BadColour ic_BadColour tc_BadColour s_3_4
  | 3, _, 5, _ => exact exm_of sB_TooMany ic_TooMany tc_TooMany s_3_5
  | 3, _, 6, _ => exact exm_of sB_BadClause ic_BadClause tc_BadClause s_3_6
  | 3, _, 7, _ => exact exm_of sB_BadRule ic_BadRule tc_BadRule s_3_7
  | 4, _, 0, _ => exact exm_of sB_BadScheme ic_BadScheme tc_BadScheme s_4_0
  | 4, _, 1, _ => exact exm_of sB_BadColumn ic_BadColumn tc_BadColumn s_4_1
  | 4, _, 2, _ => exact exm_of sB_BadSpots ic_BadSpots tc_BadSpots s_4_2
  | 4, _, 3, _ => exact exm_of sB_BadRow ic_BadRow tc_BadRow s_4_3
  | 4, _, 4, _ => exact exm_of sB_BadColour ic_BadColour tc_BadColour ss_4
  | 4, _, 5, _ => exact exm_of sB_TooMany ic_TooMany tc_TooMany s_4_5
  | 4, _, 6, _ => exact exm_of sB_BadClause ic_BadClause tc_BadClause s_4_6
  | 4, _, 7, _ => exact exm_of sB_BadRule ic_BadRule tc_BadRule s_4_7
  | 5, _, 0, _ => exact exm_of sB_BadScheme ic_BadScheme tc_BadScheme s_5_0
  | 5, _, 1, _ => exact exm_of sB_BadColumn ic_BadColumn tc_BadColumn s_5_1
  | 5, _, 2, _ => exact exm_of sB_BadSpots ic_BadSpots tc_BadSpots s_5_2
  | 5, _, 3, _ => exact exm_of sB_BadRow ic_BadRow tc_BadRow s_5_3
  | 5, _, 4, _ => exact exm_of sB_BadColour ic_BadColour tc_BadColour s_5_4
  | 5, _, 5, _ => exact exm_of sB_TooMany ic_TooMany tc_TooMany ss_5
  | 5, _, 6, _ => exact exm_of sB_BadClause ic_BadClause tc_BadClause s_5_6
  | 5, _, 7, _ => exact exm_of sB_BadRule ic_BadRule tc_BadRule s_5_7
  | 6, _, 0, _ => exact exm_of sB_BadScheme ic_BadScheme tc_BadScheme s_6_0
  | 6, _, 1, _ => exact exm_of sB_BadColumn ic_BadColumn tc_BadColumn s_6_1
  | 6, _, 2, _ => exact exm_of sB_BadSpots ic_BadSpots tc_BadSpots s_6_2
  | 6, _, 3, _ => exact exm_of sB_BadRow ic_BadRow tc_BadRow s_6_3
  | 6, _, 4, _ => exact exm_of sB_BadColour ic_BadColour tc_BadColour s_6_4
  | 6, _, 5, _ => exact exm_of sB_TooMany ic_TooMany tc_TooMany s_6_5
  | 6, _, 6, _ => exact exm_of sB_BadClause ic_BadClause tc_BadClause ss_6
  | 6, _, 7, _ => exact exm_of sB_BadRule ic_BadRule tc_BadRule s_6_7
  | 7, _, 0, _ => exact exm_of sB_BadScheme ic_BadScheme tc_BadScheme s_7_0
  | 7, _, 1, _ => exact exm_of sB_BadColumn ic_BadColumn tc_BadColumn s_7_1
  | 7, _, 2, _ => exact exm_of sB_BadSpots ic_BadSpots tc_BadSpots s_7_2
  | 7, _, 3, _ => exact exm_of sB_BadRow ic_BadRow tc_BadRow s_7_3
  | 7, _, 4, _ => exact exm_of sB_BadColour ic_BadColour tc_BadColour s_7_4
  | 7, _, 5, _ => exact exm_of sB_TooMany ic_TooMany tc_TooMany s_7_5
  | 7, _, 6, _ => exact exm_of sB_BadClause ic_BadClause tc_BadClause s_7_6
  | 7, _, 7, _ => exact exm_of sB_BadRule ic_BadRule tc_BadRule ss_7
theorem mkTxt {K : PySem.W.Frag} {h : Heap} {mg : Str → Option Value} (X : K.In h) (G : h.Ns mainGlobals mg)
    {CGalloonError CBadScheme CBadColumn CBadSpots CBadRow CBadColour CTooMany CBadClause CBadRule CScheme CRule : Addr}
    {tk_DIGITS : Nat}
    {tk_LETTERS : Nat}
    {tk_MOST_CLAUSES : Nat}
    {tk_END : Nat}
    {tk_ANY : Nat}
    {f1 : Addr} {od1 an1 : Option Addr} {sl1 : Array (Option Value)} {oc1 kV1 dc1 pm1 cd1 ct1 : Value}
    {nm1 qn1 : Str} {N1 : Addr} {bs1 bm1 : List Value} {sn1 : List Str} {sub1 : List Value} {ab1 : Bool} {col1 : Option Bool} {dd1 : Option Addr} {m01 m11 m21 m31 m51 : Option Value}
    {f2 : Addr} {od2 an2 : Option Addr} {sl2 : Array (Option Value)} {oc2 kV2 dc2 pm2 cd2 ct2 : Value}
    {nm2 qn2 : Str} {N2 : Addr} {bs2 bm2 : List Value} {sn2 : List Str} {sub2 : List Value} {ab2 : Bool} {col2 : Option Bool} {dd2 : Option Addr} {m02 m12 m22 m32 m52 : Option Value}
    {f3 : Addr} {od3 an3 : Option Addr} {sl3 : Array (Option Value)} {oc3 kV3 dc3 pm3 cd3 ct3 : Value}
    {nm3 qn3 : Str} {N3 : Addr} {bs3 bm3 : List Value} {sn3 : List Str} {sub3 : List Value} {ab3 : Bool} {col3 : Option Bool} {dd3 : Option Addr} {m03 m13 m23 m33 m53 : Option Value}
    {f4 : Addr} {od4 an4 : Option Addr} {sl4 : Array (Option Value)} {oc4 kV4 dc4 pm4 cd4 ct4 : Value}
    {nm4 qn4 : Str} {N4 : Addr} {bs4 bm4 : List Value} {sn4 : List Str} {sub4 : List Value} {ab4 : Bool} {col4 : Option Bool} {dd4 : Option Addr} {m04 m14 m24 m34 m54 : Option Value}
    {f5 : Addr} {od5 an5 : Option Addr} {sl5 : Array (Option Value)} {oc5 kV5 dc5 pm5 cd5 ct5 : Value}
    {nm5 qn5 : Str} {N5 : Addr} {bs5 bm5 : List Value} {sn5 : List Str} {sub5 : List Value} {ab5 : Bool} {col5 : Option Bool} {dd5 : Option Addr} {m05 m15 m25 m35 m55 : Option Value}
    {f6 : Addr} {od6 an6 : Option Addr} {sl6 : Array (Option Value)} {oc6 kV6 dc6 pm6 cd6 ct6 : Value}
    {nm6 qn6 : Str} {N6 : Addr} {bs6 bm6 : List Value} {sn6 : List Str} {sub6 : List Value} {ab6 : Bool} {col6 : Option Bool} {dd6 : Option Addr} {m06 m16 m26 m36 m56 : Option Value}
    {f7 : Addr} {od7 an7 : Option Addr} {sl7 : Array (Option Value)} {oc7 kV7 dc7 pm7 cd7 ct7 : Value}
    {nm7 qn7 : Str} {N7 : Addr} {bs7 bm7 : List Value} {sn7 : List Str} {sub7 : List Value} {ab7 : Bool} {col7 : Option Bool} {dd7 : Option Addr} {m07 m17 m27 m37 m57 : Option Value}
    {f8 : Addr} {od8 an8 : Option Addr} {sl8 : Array (Option Value)} {oc8 kV8 dc8 pm8 cd8 ct8 : Value}
    {f9 : Addr} {od9 an9 : Option Addr} {sl9 : Array (Option Value)} {oc9 kV9 dc9 pm9 cd9 ct9 : Value}
    {f10 : Addr} {od10 an10 : Option Addr} {sl10 : Array (Option Value)} {oc10 kV10 dc10 pm10 cd10 ct10 : Value}
    {f11 : Addr} {od11 an11 : Option Addr} {sl11 : Array (Option Value)} {oc11 kV11 dc11 pm11 cd11 ct11 : Value}
    {f12 : Addr} {od12 an12 : Option Addr} {sl12 : Array (Option Value)} {oc12 kV12 dc12 pm12 cd12 ct12 : Value}
    {f13 : Addr} {od13 an13 : Option Addr} {sl13 : Array (Option Value)} {oc13 kV13 dc13 pm13 cd13 ct13 : Value}
    {f14 : Addr} {od14 an14 : Option Addr} {sl14 : Array (Option Value)} {oc14 kV14 dc14 pm14 cd14 ct14 : Value}
    {f15 : Addr} {od15 an15 : Option Addr} {sl15 : Array (Option Value)} {oc15 kV15 dc15 pm15 cd15 ct15 : Value}
    {p15 : Addr} {rs15 : List Value}
    {f16 : Addr} {od16 an16 : Option Addr} {sl16 : Array (Option Value)} {oc16 kV16 dc16 pm16 cd16 ct16 : Value}
    {f17 : Addr} {od17 an17 : Option Addr} {sl17 : Array (Option Value)} {oc17 kV17 dc17 pm17 cd17 ct17 : Value}
    {f18 : Addr} {od18 an18 : Option Addr} {sl18 : Array (Option Value)} {oc18 kV18 dc18 pm18 cd18 ct18 : Value}
    {f19 : Addr} {od19 an19 : Option Addr} {sl19 : Array (Option Value)} {oc19 kV19 dc19 pm19 cd19 ct19 : Value}
    {f20 : Addr} {od20 an20 : Option Addr} {sl20 : Array (Option Value)} {oc20 kV20 dc20 pm20 cd20 ct20 : Value}
    {f21 : Addr} {od21 an21 : Option Addr} {sl21 : Array (Option Value)} {oc21 kV21 dc21 pm21 cd21 ct21 : Value}
    {f22 : Addr} {od22 an22 : Option Addr} {sl22 : Array (Option Value)} {oc22 kV22 dc22 pm22 cd22 ct22 : Value}
    {f23 : Addr} {od23 an23 : Option Addr} {sl23 : Array (Option Value)} {oc23 kV23 dc23 pm23 cd23 ct23 : Value}
    {f24 : Addr} {od24 an24 : Option Addr} {sl24 : Array (Option Value)} {oc24 kV24 dc24 pm24 cd24 ct24 : Value}
    {f25 : Addr} {od25 an25 : Option Addr} {sl25 : Array (Option Value)} {oc25 kV25 dc25 pm25 cd25 ct25 : Value}
    {f26 : Addr} {od26 an26 : Option Addr} {sl26 : Array (Option Value)} {oc26 kV26 dc26 pm26 cd26 ct26 : Value}
    {f27 : Addr} {od27 an27 : Option Addr} {sl27 : Array (Option Value)} {oc27 kV27 dc27 pm27 cd27 ct27 : Value}
    {f28 : Addr} {od28 an28 : Option Addr} {sl28 : Array (Option Value)} {oc28 kV28 dc28 pm28 cd28 ct28 : Value}
    {f29 : Addr} {od29 an29 : Option Addr} {sl29 : Array (Option Value)} {oc29 kV29 dc29 pm29 cd29 ct29 : Value}
    {f30 : Addr} {od30 an30 : Option Addr} {sl30 : Array (Option Value)} {oc30 kV30 dc30 pm30 cd30 ct30 : Value}
    {f31 : Addr} {od31 an31 : Option Addr} {sl31 : Array (Option Value)} {oc31 kV31 dc31 pm31 cd31 ct31 : Value}
    {f32 : Addr} {od32 an32 : Option Addr} {sl32 : Array (Option Value)} {oc32 kV32 dc32 pm32 cd32 ct32 : Value}
    {f33 : Addr} {od33 an33 : Option Addr} {sl33 : Array (Option Value)} {oc33 kV33 dc33 pm33 cd33 ct33 : Value}
    {f34 : Addr} {od34 an34 : Option Addr} {sl34 : Array (Option Value)} {oc34 kV34 dc34 pm34 cd34 ct34 : Value}
    {f35 : Addr} {od35 an35 : Option Addr} {sl35 : Array (Option Value)} {oc35 kV35 dc35 pm35 cd35 ct35 : Value}
    {f36 : Addr} {od36 an36 : Option Addr} {sl36 : Array (Option Value)} {oc36 kV36 dc36 pm36 cd36 ct36 : Value}
    {f37 : Addr} {od37 an37 : Option Addr} {sl37 : Array (Option Value)} {oc37 kV37 dc37 pm37 cd37 ct37 : Value}
    {f38 : Addr} {od38 an38 : Option Addr} {sl38 : Array (Option Value)} {oc38 kV38 dc38 pm38 cd38 ct38 : Value}
    {f39 : Addr} {od39 an39 : Option Addr} {sl39 : Array (Option Value)} {oc39 kV39 dc39 pm39 cd39 ct39 : Value}
    {f40 : Addr} {od40 an40 : Option Addr} {sl40 : Array (Option Value)} {oc40 kV40 dc40 pm40 cd40 ct40 : Value}
    {f41 : Addr} {od41 an41 : Option Addr} {sl41 : Array (Option Value)} {oc41 kV41 dc41 pm41 cd41 ct41 : Value}
    {f42 : Addr} {od42 an42 : Option Addr} {sl42 : Array (Option Value)} {oc42 kV42 dc42 pm42 cd42 ct42 : Value}
    {f43 : Addr} {od43 an43 : Option Addr} {sl43 : Array (Option Value)} {oc43 kV43 dc43 pm43 cd43 ct43 : Value}
    {f44 : Addr} {od44 an44 : Option Addr} {sl44 : Array (Option Value)} {oc44 kV44 dc44 pm44 cd44 ct44 : Value}
    {f45 : Addr} {od45 an45 : Option Addr} {sl45 : Array (Option Value)} {oc45 kV45 dc45 pm45 cd45 ct45 : Value}
    {f46 : Addr} {od46 an46 : Option Addr} {sl46 : Array (Option Value)} {oc46 kV46 dc46 pm46 cd46 ct46 : Value}
    {f47 : Addr} {od47 an47 : Option Addr} {sl47 : Array (Option Value)} {oc47 kV47 dc47 pm47 cd47 ct47 : Value}
    {f48 : Addr} {od48 an48 : Option Addr} {sl48 : Array (Option Value)} {oc48 kV48 dc48 pm48 cd48 ct48 : Value}
    {f49 : Addr} {od49 an49 : Option Addr} {sl49 : Array (Option Value)} {oc49 kV49 dc49 pm49 cd49 ct49 : Value}
    {t_Scheme_MOST : Nat}
    {t_Scheme_BLANK : Nat}
    (a_GalloonError : PySem.W.nsIn K mainGlobals "GalloonError" = some (some (.ref CGalloonError)))
    (a_BadScheme : PySem.W.nsIn K mainGlobals "BadScheme" = some (some (.ref CBadScheme)))
    (a_BadColumn : PySem.W.nsIn K mainGlobals "BadColumn" = some (some (.ref CBadColumn)))
    (a_BadSpots : PySem.W.nsIn K mainGlobals "BadSpots" = some (some (.ref CBadSpots)))
    (a_BadRow : PySem.W.nsIn K mainGlobals "BadRow" = some (some (.ref CBadRow)))
    (a_BadColour : PySem.W.nsIn K mainGlobals "BadColour" = some (some (.ref CBadColour)))
    (a_TooMany : PySem.W.nsIn K mainGlobals "TooMany" = some (some (.ref CTooMany)))
    (a_BadClause : PySem.W.nsIn K mainGlobals "BadClause" = some (some (.ref CBadClause)))
    (a_BadRule : PySem.W.nsIn K mainGlobals "BadRule" = some (some (.ref CBadRule)))
    (a_Scheme : PySem.W.nsIn K mainGlobals "Scheme" = some (some (.ref CScheme)))
    (a_Rule : PySem.W.nsIn K mainGlobals "Rule" = some (some (.ref CRule)))
    (z_ValueError : PySem.W.nsIn K mainGlobals "ValueError" = some none)
    (z_abs : PySem.W.nsIn K mainGlobals "abs" = some none)
    (z_all : PySem.W.nsIn K mainGlobals "all" = some none)
    (z_bool : PySem.W.nsIn K mainGlobals "bool" = some none)
    (z_classmethod : PySem.W.nsIn K mainGlobals "classmethod" = some none)
    (z_enumerate : PySem.W.nsIn K mainGlobals "enumerate" = some none)
    (z_int : PySem.W.nsIn K mainGlobals "int" = some none)
    (z_isinstance : PySem.W.nsIn K mainGlobals "isinstance" = some none)
    (z_len : PySem.W.nsIn K mainGlobals "len" = some none)
    (z_list : PySem.W.nsIn K mainGlobals "list" = some none)
    (z_ord : PySem.W.nsIn K mainGlobals "ord" = some none)
    (z_range : PySem.W.nsIn K mainGlobals "range" = some none)
    (z_set : PySem.W.nsIn K mainGlobals "set" = some none)
    (z_sorted : PySem.W.nsIn K mainGlobals "sorted" = some none)
    (z_str : PySem.W.nsIn K mainGlobals "str" = some none)
    (z_tuple : PySem.W.nsIn K mainGlobals "tuple" = some none)
    (z_zip : PySem.W.nsIn K mainGlobals "zip" = some none)
    (v_DIGITS : PySem.W.nsIn K mainGlobals "DIGITS" = some (some (.str "012" tk_DIGITS)))
    (v_LETTERS : PySem.W.nsIn K mainGlobals "LETTERS" = some (some (.str "abcdefghi" tk_LETTERS)))
    (v_MOST_CLAUSES : PySem.W.nsIn K mainGlobals "MOST_CLAUSES" = some (some (.int 6 tk_MOST_CLAUSES)))
    (v_END : PySem.W.nsIn K mainGlobals "END" = some (some (.str "#" tk_END)))
    (v_ANY : PySem.W.nsIn K mainGlobals "ANY" = some (some (.str "." tk_ANY)))
    (sB_GalloonError : PySem.W.subIn K (.ref CGalloonError) (.type "BaseException") = some true)
    (ic_GalloonError : PySem.W.isClsIn K CGalloonError = true)
    (tc_GalloonError : PySem.W.typeIn K (.ref CGalloonError) = some (.type "type"))
    (sB_BadScheme : PySem.W.subIn K (.ref CBadScheme) (.type "BaseException") = some true)
    (ic_BadScheme : PySem.W.isClsIn K CBadScheme = true)
    (tc_BadScheme : PySem.W.typeIn K (.ref CBadScheme) = some (.type "type"))
    (sB_BadColumn : PySem.W.subIn K (.ref CBadColumn) (.type "BaseException") = some true)
    (ic_BadColumn : PySem.W.isClsIn K CBadColumn = true)
    (tc_BadColumn : PySem.W.typeIn K (.ref CBadColumn) = some (.type "type"))
    (sB_BadSpots : PySem.W.subIn K (.ref CBadSpots) (.type "BaseException") = some true)
    (ic_BadSpots : PySem.W.isClsIn K CBadSpots = true)
    (tc_BadSpots : PySem.W.typeIn K (.ref CBadSpots) = some (.type "type"))
    (sB_BadRow : PySem.W.subIn K (.ref CBadRow) (.type "BaseException") = some true)
    (ic_BadRow : PySem.W.isClsIn K CBadRow = true)
    (tc_BadRow : PySem.W.typeIn K (.ref CBadRow) = some (.type "type"))
    (sB_BadColour : PySem.W.subIn K (.ref CBadColour) (.type "BaseException") = some true)
    (ic_BadColour : PySem.W.isClsIn K CBadColour = true)
    (tc_BadColour : PySem.W.typeIn K (.ref CBadColour) = some (.type "type"))
    (sB_TooMany : PySem.W.subIn K (.ref CTooMany) (.type "BaseException") = some true)
    (ic_TooMany : PySem.W.isClsIn K CTooMany = true)
    (tc_TooMany : PySem.W.typeIn K (.ref CTooMany) = some (.type "type"))
    (sB_BadClause : PySem.W.subIn K (.ref CBadClause) (.type "BaseException") = some true)
    (ic_BadClause : PySem.W.isClsIn K CBadClause = true)
    (tc_BadClause : PySem.W.typeIn K (.ref CBadClause) = some (.type "type"))
    (sB_BadRule : PySem.W.subIn K (.ref CBadRule) (.type "BaseException") = some true)
    (ic_BadRule : PySem.W.isClsIn K CBadRule = true)
    (tc_BadRule : PySem.W.typeIn K (.ref CBadRule) = some (.type "type"))
    (ic_Scheme : PySem.W.isClsIn K CScheme = true)
    (tc_Scheme : PySem.W.typeIn K (.ref CScheme) = some (.type "type"))
    (ic_Rule : PySem.W.isClsIn K CRule = true)
    (tc_Rule : PySem.W.typeIn K (.ref CRule) = some (.type "type"))
    (x_BadScheme : K.lookup CBadScheme = some (excClassObj nm1 qn1 CBadScheme N1 bs1 bm1 true sn1 sub1 ab1 col1 dd1 m01 m11 m21 m31 m51 "ValueError.__new__"))
    (rf_BadScheme : PySem.HandSPX.refsVE bm1 = true)
    (sa_BadScheme : PySem.W.findIn K (.ref CBadScheme) "__setattr__" = some (some (.builtin "object.__setattr__")))
    (kc_BadScheme : PySem.W.keepIn K (.ref CBadScheme) = true)
    (nb_BadScheme : PySem.W.findIn K (.ref CBadScheme) "part" = some none)
    (ai_BadScheme : PySem.W.findIn K (.ref CBadScheme) "__init__" = some (some (.ref f1)))
    (ti_BadScheme : PySem.W.typeIn K (.ref f1) = some (.type "function"))
    (li_BadScheme : K.lookup f1 = some ⟨oc1, od1, .func (PySem.W.fnOf "__init__" "BadScheme.__init__" (defArgs s_BadScheme___init__) (defBody s_BadScheme___init__) (defScope s_BadScheme___init__) .none kV1 dc1 pm1 an1 cd1 ct1), sl1⟩)
    (ci_BadScheme : PySem.W.codeIn K cd1 "BadScheme.__init__" = true)
    (ki_BadScheme : PySem.W.keepIn K (.ref f1) = true)
    (ga_BadScheme : PySem.W.findIn K (.ref CBadScheme) "__getattribute__" = some (some (.builtin "BaseException.__getattribute__")))
    (gg_BadScheme : PySem.W.findIn K (.ref CBadScheme) "__getattr__" = some none)
    (hd_BadScheme : PySem.W.hasDictIn K CBadScheme = true)
    (ha_BadScheme : PySem.W.findIn K (.ref CBadScheme) "__class__" = some (some (.builtin "object.__class__")))
    (hm_BadScheme : PySem.W.mroIn K CBadScheme (.type "object") = some true)
    (x_BadColumn : K.lookup CBadColumn = some (excClassObj nm2 qn2 CBadColumn N2 bs2 bm2 true sn2 sub2 ab2 col2 dd2 m02 m12 m22 m32 m52 "ValueError.__new__"))
    (rf_BadColumn : PySem.HandSPX.refsVE bm2 = true)
    (sa_BadColumn : PySem.W.findIn K (.ref CBadColumn) "__setattr__" = some (some (.builtin "object.__setattr__")))
    (kc_BadColumn : PySem.W.keepIn K (.ref CBadColumn) = true)
    (nb_BadColumn : PySem.W.findIn K (.ref CBadColumn) "text" = some none)
    (ai_BadColumn : PySem.W.findIn K (.ref CBadColumn) "__init__" = some (some (.ref f2)))
    (ti_BadColumn : PySem.W.typeIn K (.ref f2) = some (.type "function"))
    (li_BadColumn : K.lookup f2 = some ⟨oc2, od2, .func (PySem.W.fnOf "__init__" "BadColumn.__init__" (defArgs s_BadColumn___init__) (defBody s_BadColumn___init__) (defScope s_BadColumn___init__) .none kV2 dc2 pm2 an2 cd2 ct2), sl2⟩)
    (ci_BadColumn : PySem.W.codeIn K cd2 "BadColumn.__init__" = true)
    (ki_BadColumn : PySem.W.keepIn K (.ref f2) = true)
    (ga_BadColumn : PySem.W.findIn K (.ref CBadColumn) "__getattribute__" = some (some (.builtin "BaseException.__getattribute__")))
    (gg_BadColumn : PySem.W.findIn K (.ref CBadColumn) "__getattr__" = some none)
    (hd_BadColumn : PySem.W.hasDictIn K CBadColumn = true)
    (ha_BadColumn : PySem.W.findIn K (.ref CBadColumn) "__class__" = some (some (.builtin "object.__class__")))
    (hm_BadColumn : PySem.W.mroIn K CBadColumn (.type "object") = some true)
    (x_BadSpots : K.lookup CBadSpots = some (excClassObj nm3 qn3 CBadSpots N3 bs3 bm3 true sn3 sub3 ab3 col3 dd3 m03 m13 m23 m33 m53 "ValueError.__new__"))
    (rf_BadSpots : PySem.HandSPX.refsVE bm3 = true)
    (sa_BadSpots : PySem.W.findIn K (.ref CBadSpots) "__setattr__" = some (some (.builtin "object.__setattr__")))
    (kc_BadSpots : PySem.W.keepIn K (.ref CBadSpots) = true)
    (nb_BadSpots : PySem.W.findIn K (.ref CBadSpots) "text" = some none)
    (ai_BadSpots : PySem.W.findIn K (.ref CBadSpots) "__init__" = some (some (.ref f3)))
    (ti_BadSpots : PySem.W.typeIn K (.ref f3) = some (.type "function"))
    (li_BadSpots : K.lookup f3 = some ⟨oc3, od3, .func (PySem.W.fnOf "__init__" "BadSpots.__init__" (defArgs s_BadSpots___init__) (defBody s_BadSpots___init__) (defScope s_BadSpots___init__) .none kV3 dc3 pm3 an3 cd3 ct3), sl3⟩)
    (ci_BadSpots : PySem.W.codeIn K cd3 "BadSpots.__init__" = true)
    (ki_BadSpots : PySem.W.keepIn K (.ref f3) = true)
    (ga_BadSpots : PySem.W.findIn K (.ref CBadSpots) "__getattribute__" = some (some (.builtin "BaseException.__getattribute__")))
    (gg_BadSpots : PySem.W.findIn K (.ref CBadSpots) "__getattr__" = some none)
    (hd_BadSpots : PySem.W.hasDictIn K CBadSpots = true)
    (ha_BadSpots : PySem.W.findIn K (.ref CBadSpots) "__class__" = some (some (.builtin "object.__class__")))
    (hm_BadSpots : PySem.W.mroIn K CBadSpots (.type "object") = some true)
    (x_BadRow : K.lookup CBadRow = some (excClassObj nm4 qn4 CBadRow N4 bs4 bm4 true sn4 sub4 ab4 col4 dd4 m04 m14 m24 m34 m54 "ValueError.__new__"))
    (rf_BadRow : PySem.HandSPX.refsVE bm4 = true)
    (sa_BadRow : PySem.W.findIn K (.ref CBadRow) "__setattr__" = some (some (.builtin "object.__setattr__")))
    (kc_BadRow : PySem.W.keepIn K (.ref CBadRow) = true)
    (nb_BadRow : PySem.W.findIn K (.ref CBadRow) "row" = some none)
    (ai_BadRow : PySem.W.findIn K (.ref CBadRow) "__init__" = some (some (.ref f4)))
    (ti_BadRow : PySem.W.typeIn K (.ref f4) = some (.type "function"))
    (li_BadRow : K.lookup f4 = some ⟨oc4, od4, .func (PySem.W.fnOf "__init__" "BadRow.__init__" (defArgs s_BadRow___init__) (defBody s_BadRow___init__) (defScope s_BadRow___init__) .none kV4 dc4 pm4 an4 cd4 ct4), sl4⟩)
    (ci_BadRow : PySem.W.codeIn K cd4 "BadRow.__init__" = true)
    (ki_BadRow : PySem.W.keepIn K (.ref f4) = true)
    (ga_BadRow : PySem.W.findIn K (.ref CBadRow) "__getattribute__" = some (some (.builtin "BaseException.__getattribute__")))
    (gg_BadRow : PySem.W.findIn K (.ref CBadRow) "__getattr__" = some none)
    (hd_BadRow : PySem.W.hasDictIn K CBadRow = true)
    (ha_BadRow : PySem.W.findIn K (.ref CBadRow) "__class__" = some (some (.builtin "object.__class__")))
    (hm_BadRow : PySem.W.mroIn K CBadRow (.type "object") = some true)
    (x_BadColour : K.lookup CBadColour = some (excClassObj nm5 qn5 CBadColour N5 bs5 bm5 true sn5 sub5 ab5 col5 dd5 m05 m15 m25 m35 m55 "ValueError.__new__"))
    (rf_BadColour : PySem.HandSPX.refsVE bm5 = true)
    (sa_BadColour : PySem.W.findIn K (.ref CBadColour) "__setattr__" = some (some (.builtin "object.__setattr__")))
    (kc_BadColour : PySem.W.keepIn K (.ref CBadColour) = true)
    (nb_BadColour : PySem.W.findIn K (.ref CBadColour) "colour" = some none)
    (ai_BadColour : PySem.W.findIn K (.ref CBadColour) "__init__" = some (some (.ref f5)))
    (ti_BadColour : PySem.W.typeIn K (.ref f5) = some (.type "function"))
    (li_BadColour : K.lookup f5 = some ⟨oc5, od5, .func (PySem.W.fnOf "__init__" "BadColour.__init__" (defArgs s_BadColour___init__) (defBody s_BadColour___init__) (defScope s_BadColour___init__) .none kV5 dc5 pm5 an5 cd5 ct5), sl5⟩)
    (ci_BadColour : PySem.W.codeIn K cd5 "BadColour.__init__" = true)
    (ki_BadColour : PySem.W.keepIn K (.ref f5) = true)
    (ga_BadColour : PySem.W.findIn K (.ref CBadColour) "__getattribute__" = some (some (.builtin "BaseException.__getattribute__")))
    (gg_BadColour : PySem.W.findIn K (.ref CBadColour) "__getattr__" = some none)
    (hd_BadColour : PySem.W.hasDictIn K CBadColour = true)
    (ha_BadColour : PySem.W.findIn K (.ref CBadColour) "__class__" = some (some (.builtin "object.__class__")))
    (hm_BadColour : PySem.W.mroIn K CBadColour (.type "object") = some true)
    (x_TooMany : K.lookup CTooMany = some (excClassObj nm6 qn6 CTooMany N6 bs6 bm6 true sn6 sub6 ab6 col6 dd6 m06 m16 m26 m36 m56 "ValueError.__new__"))
    (rf_TooMany : PySem.HandSPX.refsVE bm6 = true)
    (sa_TooMany : PySem.W.findIn K (.ref CTooMany) "__setattr__" = some (some (.builtin "object.__setattr__")))
    (kc_TooMany : PySem.W.keepIn K (.ref CTooMany) = true)
    (nb_TooMany : PySem.W.findIn K (.ref CTooMany) "most" = some none)
    (ai_TooMany : PySem.W.findIn K (.ref CTooMany) "__init__" = some (some (.ref f6)))
    (ti_TooMany : PySem.W.typeIn K (.ref f6) = some (.type "function"))
    (li_TooMany : K.lookup f6 = some ⟨oc6, od6, .func (PySem.W.fnOf "__init__" "TooMany.__init__" (defArgs s_TooMany___init__) (defBody s_TooMany___init__) (defScope s_TooMany___init__) .none kV6 dc6 pm6 an6 cd6 ct6), sl6⟩)
    (ci_TooMany : PySem.W.codeIn K cd6 "TooMany.__init__" = true)
    (ki_TooMany : PySem.W.keepIn K (.ref f6) = true)
    (ga_TooMany : PySem.W.findIn K (.ref CTooMany) "__getattribute__" = some (some (.builtin "BaseException.__getattribute__")))
    (gg_TooMany : PySem.W.findIn K (.ref CTooMany) "__getattr__" = some none)
    (hd_TooMany : PySem.W.hasDictIn K CTooMany = true)
    (ha_TooMany : PySem.W.findIn K (.ref CTooMany) "__class__" = some (some (.builtin "object.__class__")))
    (hm_TooMany : PySem.W.mroIn K CTooMany (.type "object") = some true)
    (x_BadClause : K.lookup CBadClause = some (excClassObj nm7 qn7 CBadClause N7 bs7 bm7 true sn7 sub7 ab7 col7 dd7 m07 m17 m27 m37 m57 "ValueError.__new__"))
    (rf_BadClause : PySem.HandSPX.refsVE bm7 = true)
    (sa_BadClause : PySem.W.findIn K (.ref CBadClause) "__setattr__" = some (some (.builtin "object.__setattr__")))
    (kc_BadClause : PySem.W.keepIn K (.ref CBadClause) = true)
    (nb_BadClause : PySem.W.findIn K (.ref CBadClause) "index" = some none)
    (nd_BadClause : PySem.W.findIn K (.ref CBadClause) "part" = some none)
    (ai_BadClause : PySem.W.findIn K (.ref CBadClause) "__init__" = some (some (.ref f7)))
    (ti_BadClause : PySem.W.typeIn K (.ref f7) = some (.type "function"))
    (li_BadClause : K.lookup f7 = some ⟨oc7, od7, .func (PySem.W.fnOf "__init__" "BadClause.__init__" (defArgs s_BadClause___init__) (defBody s_BadClause___init__) (defScope s_BadClause___init__) .none kV7 dc7 pm7 an7 cd7 ct7), sl7⟩)
    (ci_BadClause : PySem.W.codeIn K cd7 "BadClause.__init__" = true)
    (ki_BadClause : PySem.W.keepIn K (.ref f7) = true)
    (ga_BadClause : PySem.W.findIn K (.ref CBadClause) "__getattribute__" = some (some (.builtin "BaseException.__getattribute__")))
    (gg_BadClause : PySem.W.findIn K (.ref CBadClause) "__getattr__" = some none)
    (hd_BadClause : PySem.W.hasDictIn K CBadClause = true)
    (ha_BadClause : PySem.W.findIn K (.ref CBadClause) "__class__" = some (some (.builtin "object.__class__")))
    (hm_BadClause : PySem.W.mroIn K CBadClause (.type "object") = some true)
    (xz_BadRule : PySem.W.excIn K CBadRule veB "ValueError.__new__" = true)
    (kc_BadRule : PySem.W.keepIn K (.ref CBadRule) = true)
    (ga_BadRule : PySem.W.findIn K (.ref CBadRule) "__getattribute__" = some (some (.builtin "BaseException.__getattribute__")))
    (gg_BadRule : PySem.W.findIn K (.ref CBadRule) "__getattr__" = some none)
    (hd_BadRule : PySem.W.hasDictIn K CBadRule = true)
    (ha_BadRule : PySem.W.findIn K (.ref CBadRule) "__class__" = some (some (.builtin "object.__class__")))
    (hm_BadRule : PySem.W.mroIn K CBadRule (.type "object") = some true)
    (pg_Scheme : PySem.W.plainGet K CScheme Str.empty = true)
    (hd_Scheme : PySem.W.hasDictIn K CScheme = true)
    (po_Scheme : PySem.W.plainOver K CScheme = true)
    (sa_Scheme : PySem.W.findIn K (.ref CScheme) "__setattr__" = some (some (.builtin "object.__setattr__")))
    (mk_Scheme : PySem.W.makesIn K CScheme = true)
    (kc_Scheme : PySem.W.keepIn K (.ref CScheme) = true)
    (am_Scheme___init__ : PySem.W.findIn K (.ref CScheme) "__init__" = some (some (.ref f8)))
    (im_Scheme___init__ : PySem.W.isFn K (.ref f8) = true)
    (lm_Scheme___init__ : K.lookup f8 = some ⟨oc8, od8, .func (PySem.W.fnOf "__init__" "Scheme.__init__" (defArgs s_Scheme___init__) (defBody s_Scheme___init__) (defScope s_Scheme___init__) .none kV8 dc8 pm8 an8 cd8 ct8), sl8⟩)
    (cm_Scheme___init__ : PySem.W.codeIn K cd8 "Scheme.__init__" = true)
    (km_Scheme___init__ : PySem.W.keepIn K (.ref f8) = true)
    (am_Scheme___eq__ : PySem.W.findIn K (.ref CScheme) "__eq__" = some (some (.ref f9)))
    (im_Scheme___eq__ : PySem.W.isFn K (.ref f9) = true)
    (lm_Scheme___eq__ : K.lookup f9 = some ⟨oc9, od9, .func (PySem.W.fnOf "__eq__" "Scheme.__eq__" (defArgs s_Scheme___eq__) (defBody s_Scheme___eq__) (defScope s_Scheme___eq__) .none kV9 dc9 pm9 an9 cd9 ct9), sl9⟩)
    (cm_Scheme___eq__ : PySem.W.codeIn K cd9 "Scheme.__eq__" = true)
    (km_Scheme___eq__ : PySem.W.keepIn K (.ref f9) = true)
    (am_Scheme_is_column : PySem.W.findIn K (.ref CScheme) "is_column" = some (some (.ref f10)))
    (im_Scheme_is_column : PySem.W.isFn K (.ref f10) = true)
    (lm_Scheme_is_column : K.lookup f10 = some ⟨oc10, od10, .func (PySem.W.fnOf "is_column" "Scheme.is_column" (defArgs s_Scheme_is_column) (defBody s_Scheme_is_column) (defScope s_Scheme_is_column) .none kV10 dc10 pm10 an10 cd10 ct10), sl10⟩)
    (cm_Scheme_is_column : PySem.W.codeIn K cd10 "Scheme.is_column" = true)
    (km_Scheme_is_column : PySem.W.keepIn K (.ref f10) = true)
    (am_Scheme_is_colour : PySem.W.findIn K (.ref CScheme) "is_colour" = some (some (.ref f11)))
    (im_Scheme_is_colour : PySem.W.isFn K (.ref f11) = true)
    (lm_Scheme_is_colour : K.lookup f11 = some ⟨oc11, od11, .func (PySem.W.fnOf "is_colour" "Scheme.is_colour" (defArgs s_Scheme_is_colour) (defBody s_Scheme_is_colour) (defScope s_Scheme_is_colour) .none kV11 dc11 pm11 an11 cd11 ct11), sl11⟩)
    (cm_Scheme_is_colour : PySem.W.codeIn K cd11 "Scheme.is_colour" = true)
    (km_Scheme_is_colour : PySem.W.keepIn K (.ref f11) = true)
    (am_Scheme_spots : PySem.W.findIn K (.ref CScheme) "spots" = some (some (.ref f12)))
    (im_Scheme_spots : PySem.W.isFn K (.ref f12) = true)
    (lm_Scheme_spots : K.lookup f12 = some ⟨oc12, od12, .func (PySem.W.fnOf "spots" "Scheme.spots" (defArgs s_Scheme_spots) (defBody s_Scheme_spots) (defScope s_Scheme_spots) .none kV12 dc12 pm12 an12 cd12 ct12), sl12⟩)
    (cm_Scheme_spots : PySem.W.codeIn K cd12 "Scheme.spots" = true)
    (km_Scheme_spots : PySem.W.keepIn K (.ref f12) = true)
    (am_Scheme_column : PySem.W.findIn K (.ref CScheme) "column" = some (some (.ref f13)))
    (im_Scheme_column : PySem.W.isFn K (.ref f13) = true)
    (lm_Scheme_column : K.lookup f13 = some ⟨oc13, od13, .func (PySem.W.fnOf "column" "Scheme.column" (defArgs s_Scheme_column) (defBody s_Scheme_column) (defScope s_Scheme_column) .none kV13 dc13 pm13 an13 cd13 ct13), sl13⟩)
    (cm_Scheme_column : PySem.W.codeIn K cd13 "Scheme.column" = true)
    (km_Scheme_column : PySem.W.keepIn K (.ref f13) = true)
    (pg_Rule : PySem.W.plainGet K CRule Str.empty = true)
    (hd_Rule : PySem.W.hasDictIn K CRule = true)
    (po_Rule : PySem.W.plainOver K CRule = true)
    (sa_Rule : PySem.W.findIn K (.ref CRule) "__setattr__" = some (some (.builtin "object.__setattr__")))
    (mk_Rule : PySem.W.makesIn K CRule = true)
    (kc_Rule : PySem.W.keepIn K (.ref CRule) = true)
    (am_Rule___init__ : PySem.W.findIn K (.ref CRule) "__init__" = some (some (.ref f14)))
    (im_Rule___init__ : PySem.W.isFn K (.ref f14) = true)
    (lm_Rule___init__ : K.lookup f14 = some ⟨oc14, od14, .func (PySem.W.fnOf "__init__" "Rule.__init__" (defArgs s_Rule___init__) (defBody s_Rule___init__) (defScope s_Rule___init__) .none kV14 dc14 pm14 an14 cd14 ct14), sl14⟩)
    (cm_Rule___init__ : PySem.W.codeIn K cd14 "Rule.__init__" = true)
    (km_Rule___init__ : PySem.W.keepIn K (.ref f14) = true)
    (cg_Rule_read : PySem.W.findCls K (.ref CRule) (.type "type") "read" = some (.get (.builtin "classmethod.__get__") (.ref p15) .none (.ref CRule)))
    (cr_Rule_read : PySem.W.recIn K p15 "classmethod" = some (.ref f15 :: rs15))
    (cf_Rule_read : PySem.W.fnIn K f15 = true)
    (lm_Rule_read : K.lookup f15 = some ⟨oc15, od15, .func (PySem.W.fnOf "read" "Rule.read" (defArgs s_Rule_read) (defBody s_Rule_read) (defScope s_Rule_read) .none kV15 dc15 pm15 an15 cd15 ct15), sl15⟩)
    (cm_Rule_read : PySem.W.codeIn K cd15 "Rule.read" = true)
    (km_Rule_read : PySem.W.keepIn K (.ref f15) = true)
    (am_Rule___eq__ : PySem.W.findIn K (.ref CRule) "__eq__" = some (some (.ref f16)))
    (im_Rule___eq__ : PySem.W.isFn K (.ref f16) = true)
    (lm_Rule___eq__ : K.lookup f16 = some ⟨oc16, od16, .func (PySem.W.fnOf "__eq__" "Rule.__eq__" (defArgs s_Rule___eq__) (defBody s_Rule___eq__) (defScope s_Rule___eq__) .none kV16 dc16 pm16 an16 cd16 ct16), sl16⟩)
    (cm_Rule___eq__ : PySem.W.codeIn K cd16 "Rule.__eq__" = true)
    (km_Rule___eq__ : PySem.W.keepIn K (.ref f16) = true)
    (am_Rule___str__ : PySem.W.findIn K (.ref CRule) "__str__" = some (some (.ref f17)))
    (im_Rule___str__ : PySem.W.isFn K (.ref f17) = true)
    (lm_Rule___str__ : K.lookup f17 = some ⟨oc17, od17, .func (PySem.W.fnOf "__str__" "Rule.__str__" (defArgs s_Rule___str__) (defBody s_Rule___str__) (defScope s_Rule___str__) .none kV17 dc17 pm17 an17 cd17 ct17), sl17⟩)
    (cm_Rule___str__ : PySem.W.codeIn K cd17 "Rule.__str__" = true)
    (km_Rule___str__ : PySem.W.keepIn K (.ref f17) = true)
    (am_Rule_value : PySem.W.findIn K (.ref CRule) "value" = some (some (.ref f18)))
    (im_Rule_value : PySem.W.isFn K (.ref f18) = true)
    (lm_Rule_value : K.lookup f18 = some ⟨oc18, od18, .func (PySem.W.fnOf "value" "Rule.value" (defArgs s_Rule_value) (defBody s_Rule_value) (defScope s_Rule_value) .none kV18 dc18 pm18 an18 cd18 ct18), sl18⟩)
    (cm_Rule_value : PySem.W.codeIn K cd18 "Rule.value" = true)
    (km_Rule_value : PySem.W.keepIn K (.ref f18) = true)
    (ad_signs : PySem.W.nsIn K mainGlobals "_signs" = some (some (.ref f19)))
    (ld_signs : K.lookup f19 = some ⟨oc19, od19, .func (PySem.W.fnOf "_signs" "_signs" (defArgs s_signs) (defBody s_signs) (defScope s_signs) .none kV19 dc19 pm19 an19 cd19 ct19), sl19⟩)
    (cd_signs : PySem.W.codeIn K cd19 "_signs" = true)
    (kd_signs : PySem.W.keepIn K (.ref f19) = true)
    (ad_wrong_part : PySem.W.nsIn K mainGlobals "_wrong_part" = some (some (.ref f20)))
    (ld_wrong_part : K.lookup f20 = some ⟨oc20, od20, .func (PySem.W.fnOf "_wrong_part" "_wrong_part" (defArgs s_wrong_part) (defBody s_wrong_part) (defScope s_wrong_part) .none kV20 dc20 pm20 an20 cd20 ct20), sl20⟩)
    (cd_wrong_part : PySem.W.codeIn K cd20 "_wrong_part" = true)
    (kd_wrong_part : PySem.W.keepIn K (.ref f20) = true)
    (ad_are_signs : PySem.W.nsIn K mainGlobals "_are_signs" = some (some (.ref f21)))
    (ld_are_signs : K.lookup f21 = some ⟨oc21, od21, .func (PySem.W.fnOf "_are_signs" "_are_signs" (defArgs s_are_signs) (defBody s_are_signs) (defScope s_are_signs) .none kV21 dc21 pm21 an21 cd21 ct21), sl21⟩)
    (cd_are_signs : PySem.W.codeIn K cd21 "_are_signs" = true)
    (kd_are_signs : PySem.W.keepIn K (.ref f21) = true)
    (ad_all_values : PySem.W.nsIn K mainGlobals "_all_values" = some (some (.ref f22)))
    (ld_all_values : K.lookup f22 = some ⟨oc22, od22, .func (PySem.W.fnOf "_all_values" "_all_values" (defArgs s_all_values) (defBody s_all_values) (defScope s_all_values) .none kV22 dc22 pm22 an22 cd22 ct22), sl22⟩)
    (cd_all_values : PySem.W.codeIn K cd22 "_all_values" = true)
    (kd_all_values : PySem.W.keepIn K (.ref f22) = true)
    (ad_fits : PySem.W.nsIn K mainGlobals "_fits" = some (some (.ref f23)))
    (ld_fits : K.lookup f23 = some ⟨oc23, od23, .func (PySem.W.fnOf "_fits" "_fits" (defArgs s_fits) (defBody s_fits) (defScope s_fits) .none kV23 dc23 pm23 an23 cd23 ct23), sl23⟩)
    (cd_fits : PySem.W.codeIn K cd23 "_fits" = true)
    (kd_fits : PySem.W.keepIn K (.ref f23) = true)
    (ad_law_same : PySem.W.nsIn K mainGlobals "_law_same" = some (some (.ref f24)))
    (ld_law_same : K.lookup f24 = some ⟨oc24, od24, .func (PySem.W.fnOf "_law_same" "_law_same" (defArgs s_law_same) (defBody s_law_same) (defScope s_law_same) .none kV24 dc24 pm24 an24 cd24 ct24), sl24⟩)
    (cd_law_same : PySem.W.codeIn K cd24 "_law_same" = true)
    (kd_law_same : PySem.W.keepIn K (.ref f24) = true)
    (ad_law_bag : PySem.W.nsIn K mainGlobals "_law_bag" = some (some (.ref f25)))
    (ld_law_bag : K.lookup f25 = some ⟨oc25, od25, .func (PySem.W.fnOf "_law_bag" "_law_bag" (defArgs s_law_bag) (defBody s_law_bag) (defScope s_law_bag) .none kV25 dc25 pm25 an25 cd25 ct25), sl25⟩)
    (cd_law_bag : PySem.W.codeIn K cd25 "_law_bag" = true)
    (kd_law_bag : PySem.W.keepIn K (.ref f25) = true)
    (ad_law_take : PySem.W.nsIn K mainGlobals "_law_take" = some (some (.ref f26)))
    (ld_law_take : K.lookup f26 = some ⟨oc26, od26, .func (PySem.W.fnOf "_law_take" "_law_take" (defArgs s_law_take) (defBody s_law_take) (defScope s_law_take) .none kV26 dc26 pm26 an26 cd26 ct26), sl26⟩)
    (cd_law_take : PySem.W.codeIn K cd26 "_law_take" = true)
    (kd_law_take : PySem.W.keepIn K (.ref f26) = true)
    (ad_law_many : PySem.W.nsIn K mainGlobals "_law_many" = some (some (.ref f27)))
    (ld_law_many : K.lookup f27 = some ⟨oc27, od27, .func (PySem.W.fnOf "_law_many" "_law_many" (defArgs s_law_many) (defBody s_law_many) (defScope s_law_many) .none kV27 dc27 pm27 an27 cd27 ct27), sl27⟩)
    (cd_law_many : PySem.W.codeIn K cd27 "_law_many" = true)
    (kd_law_many : PySem.W.keepIn K (.ref f27) = true)
    (ad_law_spots : PySem.W.nsIn K mainGlobals "_law_spots" = some (some (.ref f28)))
    (ld_law_spots : K.lookup f28 = some ⟨oc28, od28, .func (PySem.W.fnOf "_law_spots" "_law_spots" (defArgs s_law_spots) (defBody s_law_spots) (defScope s_law_spots) .none kV28 dc28 pm28 an28 cd28 ct28), sl28⟩)
    (cd_law_spots : PySem.W.codeIn K cd28 "_law_spots" = true)
    (kd_law_spots : PySem.W.keepIn K (.ref f28) = true)
    (ad_law_new : PySem.W.nsIn K mainGlobals "_law_new" = some (some (.ref f29)))
    (ld_law_new : K.lookup f29 = some ⟨oc29, od29, .func (PySem.W.fnOf "_law_new" "_law_new" (defArgs s_law_new) (defBody s_law_new) (defScope s_law_new) .none kV29 dc29 pm29 an29 cd29 ct29), sl29⟩)
    (cd_law_new : PySem.W.codeIn K cd29 "_law_new" = true)
    (kd_law_new : PySem.W.keepIn K (.ref f29) = true)
    (ad_law_marks : PySem.W.nsIn K mainGlobals "_law_marks" = some (some (.ref f30)))
    (ld_law_marks : K.lookup f30 = some ⟨oc30, od30, .func (PySem.W.fnOf "_law_marks" "_law_marks" (defArgs s_law_marks) (defBody s_law_marks) (defScope s_law_marks) .none kV30 dc30 pm30 an30 cd30 ct30), sl30⟩)
    (cd_law_marks : PySem.W.codeIn K cd30 "_law_marks" = true)
    (kd_law_marks : PySem.W.keepIn K (.ref f30) = true)
    (ad_law_clause : PySem.W.nsIn K mainGlobals "_law_clause" = some (some (.ref f31)))
    (ld_law_clause : K.lookup f31 = some ⟨oc31, od31, .func (PySem.W.fnOf "_law_clause" "_law_clause" (defArgs s_law_clause) (defBody s_law_clause) (defScope s_law_clause) .none kV31 dc31 pm31 an31 cd31 ct31), sl31⟩)
    (cd_law_clause : PySem.W.codeIn K cd31 "_law_clause" = true)
    (kd_law_clause : PySem.W.keepIn K (.ref f31) = true)
    (ad_law_clauses : PySem.W.nsIn K mainGlobals "_law_clauses" = some (some (.ref f32)))
    (ld_law_clauses : K.lookup f32 = some ⟨oc32, od32, .func (PySem.W.fnOf "_law_clauses" "_law_clauses" (defArgs s_law_clauses) (defBody s_law_clauses) (defScope s_law_clauses) .none kV32 dc32 pm32 an32 cd32 ct32), sl32⟩)
    (cd_law_clauses : PySem.W.codeIn K cd32 "_law_clauses" = true)
    (kd_law_clauses : PySem.W.keepIn K (.ref f32) = true)
    (ad_law_piece : PySem.W.nsIn K mainGlobals "_law_piece" = some (some (.ref f33)))
    (ld_law_piece : K.lookup f33 = some ⟨oc33, od33, .func (PySem.W.fnOf "_law_piece" "_law_piece" (defArgs s_law_piece) (defBody s_law_piece) (defScope s_law_piece) .none kV33 dc33 pm33 an33 cd33 ct33), sl33⟩)
    (cd_law_piece : PySem.W.codeIn K cd33 "_law_piece" = true)
    (kd_law_piece : PySem.W.keepIn K (.ref f33) = true)
    (ad_law_text : PySem.W.nsIn K mainGlobals "_law_text" = some (some (.ref f34)))
    (ld_law_text : K.lookup f34 = some ⟨oc34, od34, .func (PySem.W.fnOf "_law_text" "_law_text" (defArgs s_law_text) (defBody s_law_text) (defScope s_law_text) .none kV34 dc34 pm34 an34 cd34 ct34), sl34⟩)
    (cd_law_text : PySem.W.codeIn K cd34 "_law_text" = true)
    (kd_law_text : PySem.W.keepIn K (.ref f34) = true)
    (ad_law_scheme : PySem.W.nsIn K mainGlobals "_law_scheme" = some (some (.ref f35)))
    (ld_law_scheme : K.lookup f35 = some ⟨oc35, od35, .func (PySem.W.fnOf "_law_scheme" "_law_scheme" (defArgs s_law_scheme) (defBody s_law_scheme) (defScope s_law_scheme) .none kV35 dc35 pm35 an35 cd35 ct35), sl35⟩)
    (cd_law_scheme : PySem.W.codeIn K cd35 "_law_scheme" = true)
    (kd_law_scheme : PySem.W.keepIn K (.ref f35) = true)
    (ad_law_values : PySem.W.nsIn K mainGlobals "_law_values" = some (some (.ref f36)))
    (ld_law_values : K.lookup f36 = some ⟨oc36, od36, .func (PySem.W.fnOf "_law_values" "_law_values" (defArgs s_law_values) (defBody s_law_values) (defScope s_law_values) .none kV36 dc36 pm36 an36 cd36 ct36), sl36⟩)
    (cd_law_values : PySem.W.codeIn K cd36 "_law_values" = true)
    (kd_law_values : PySem.W.keepIn K (.ref f36) = true)
    (ad_law_holds : PySem.W.nsIn K mainGlobals "_law_holds" = some (some (.ref f37)))
    (ld_law_holds : K.lookup f37 = some ⟨oc37, od37, .func (PySem.W.fnOf "_law_holds" "_law_holds" (defArgs s_law_holds) (defBody s_law_holds) (defScope s_law_holds) .none kV37 dc37 pm37 an37 cd37 ct37), sl37⟩)
    (cd_law_holds : PySem.W.codeIn K cd37 "_law_holds" = true)
    (kd_law_holds : PySem.W.keepIn K (.ref f37) = true)
    (ad_law_other : PySem.W.nsIn K mainGlobals "_law_other" = some (some (.ref f38)))
    (ld_law_other : K.lookup f38 = some ⟨oc38, od38, .func (PySem.W.fnOf "_law_other" "_law_other" (defArgs s_law_other) (defBody s_law_other) (defScope s_law_other) .none kV38 dc38 pm38 an38 cd38 ct38), sl38⟩)
    (cd_law_other : PySem.W.codeIn K cd38 "_law_other" = true)
    (kd_law_other : PySem.W.keepIn K (.ref f38) = true)
    (ad_law_compares : PySem.W.nsIn K mainGlobals "_law_compares" = some (some (.ref f39)))
    (ld_law_compares : K.lookup f39 = some ⟨oc39, od39, .func (PySem.W.fnOf "_law_compares" "_law_compares" (defArgs s_law_compares) (defBody s_law_compares) (defScope s_law_compares) .none kV39 dc39 pm39 an39 cd39 ct39), sl39⟩)
    (cd_law_compares : PySem.W.codeIn K cd39 "_law_compares" = true)
    (kd_law_compares : PySem.W.keepIn K (.ref f39) = true)
    (ad_law_told : PySem.W.nsIn K mainGlobals "_law_told" = some (some (.ref f40)))
    (ld_law_told : K.lookup f40 = some ⟨oc40, od40, .func (PySem.W.fnOf "_law_told" "_law_told" (defArgs s_law_told) (defBody s_law_told) (defScope s_law_told) .none kV40 dc40 pm40 an40 cd40 ct40), sl40⟩)
    (cd_law_told : PySem.W.codeIn K cd40 "_law_told" = true)
    (kd_law_told : PySem.W.keepIn K (.ref f40) = true)
    (ad_law_refuses_values : PySem.W.nsIn K mainGlobals "_law_refuses_values" = some (some (.ref f41)))
    (ld_law_refuses_values : K.lookup f41 = some ⟨oc41, od41, .func (PySem.W.fnOf "_law_refuses_values" "_law_refuses_values" (defArgs s_law_refuses_values) (defBody s_law_refuses_values) (defScope s_law_refuses_values) .none kV41 dc41 pm41 an41 cd41 ct41), sl41⟩)
    (cd_law_refuses_values : PySem.W.codeIn K cd41 "_law_refuses_values" = true)
    (kd_law_refuses_values : PySem.W.keepIn K (.ref f41) = true)
    (ad_law_bad_side : PySem.W.nsIn K mainGlobals "_law_bad_side" = some (some (.ref f42)))
    (ld_law_bad_side : K.lookup f42 = some ⟨oc42, od42, .func (PySem.W.fnOf "_law_bad_side" "_law_bad_side" (defArgs s_law_bad_side) (defBody s_law_bad_side) (defScope s_law_bad_side) .none kV42 dc42 pm42 an42 cd42 ct42), sl42⟩)
    (cd_law_bad_side : PySem.W.codeIn K cd42 "_law_bad_side" = true)
    (kd_law_bad_side : PySem.W.keepIn K (.ref f42) = true)
    (ad_law_bad_here : PySem.W.nsIn K mainGlobals "_law_bad_here" = some (some (.ref f43)))
    (ld_law_bad_here : K.lookup f43 = some ⟨oc43, od43, .func (PySem.W.fnOf "_law_bad_here" "_law_bad_here" (defArgs s_law_bad_here) (defBody s_law_bad_here) (defScope s_law_bad_here) .none kV43 dc43 pm43 an43 cd43 ct43), sl43⟩)
    (cd_law_bad_here : PySem.W.codeIn K cd43 "_law_bad_here" = true)
    (kd_law_bad_here : PySem.W.keepIn K (.ref f43) = true)
    (ad_law_bent : PySem.W.nsIn K mainGlobals "_law_bent" = some (some (.ref f44)))
    (ld_law_bent : K.lookup f44 = some ⟨oc44, od44, .func (PySem.W.fnOf "_law_bent" "_law_bent" (defArgs s_law_bent) (defBody s_law_bent) (defScope s_law_bent) .none kV44 dc44 pm44 an44 cd44 ct44), sl44⟩)
    (cd_law_bent : PySem.W.codeIn K cd44 "_law_bent" = true)
    (kd_law_bent : PySem.W.keepIn K (.ref f44) = true)
    (ad_law_faulty : PySem.W.nsIn K mainGlobals "_law_faulty" = some (some (.ref f45)))
    (ld_law_faulty : K.lookup f45 = some ⟨oc45, od45, .func (PySem.W.fnOf "_law_faulty" "_law_faulty" (defArgs s_law_faulty) (defBody s_law_faulty) (defScope s_law_faulty) .none kV45 dc45 pm45 an45 cd45 ct45), sl45⟩)
    (cd_law_faulty : PySem.W.codeIn K cd45 "_law_faulty" = true)
    (kd_law_faulty : PySem.W.keepIn K (.ref f45) = true)
    (ad_law_refuses_made : PySem.W.nsIn K mainGlobals "_law_refuses_made" = some (some (.ref f46)))
    (ld_law_refuses_made : K.lookup f46 = some ⟨oc46, od46, .func (PySem.W.fnOf "_law_refuses_made" "_law_refuses_made" (defArgs s_law_refuses_made) (defBody s_law_refuses_made) (defScope s_law_refuses_made) .none kV46 dc46 pm46 an46 cd46 ct46), sl46⟩)
    (cd_law_refuses_made : PySem.W.codeIn K cd46 "_law_refuses_made" = true)
    (kd_law_refuses_made : PySem.W.keepIn K (.ref f46) = true)
    (ad_law_malformed : PySem.W.nsIn K mainGlobals "_law_malformed" = some (some (.ref f47)))
    (ld_law_malformed : K.lookup f47 = some ⟨oc47, od47, .func (PySem.W.fnOf "_law_malformed" "_law_malformed" (defArgs s_law_malformed) (defBody s_law_malformed) (defScope s_law_malformed) .none kV47 dc47 pm47 an47 cd47 ct47), sl47⟩)
    (cd_law_malformed : PySem.W.codeIn K cd47 "_law_malformed" = true)
    (kd_law_malformed : PySem.W.keepIn K (.ref f47) = true)
    (ad_law_refuses_read : PySem.W.nsIn K mainGlobals "_law_refuses_read" = some (some (.ref f48)))
    (ld_law_refuses_read : K.lookup f48 = some ⟨oc48, od48, .func (PySem.W.fnOf "_law_refuses_read" "_law_refuses_read" (defArgs s_law_refuses_read) (defBody s_law_refuses_read) (defScope s_law_refuses_read) .none kV48 dc48 pm48 an48 cd48 ct48), sl48⟩)
    (cd_law_refuses_read : PySem.W.codeIn K cd48 "_law_refuses_read" = true)
    (kd_law_refuses_read : PySem.W.keepIn K (.ref f48) = true)
    (ad_law : PySem.W.nsIn K mainGlobals "law" = some (some (.ref f49)))
    (ld_law : K.lookup f49 = some ⟨oc49, od49, .func (PySem.W.fnOf "law" "law" (defArgs s_law) (defBody s_law) (defScope s_law) .none kV49 dc49 pm49 an49 cd49 ct49), sl49⟩)
    (cd_law : PySem.W.codeIn K cd49 "law" = true)
    (kd_law : PySem.W.keepIn K (.ref f49) = true)
    (i_hn : PySem.W.specialIn K (.builtin "object.__class__") "__get__" = some (some (.builtin "getset_descriptor.__get__")))
    (i_ht : PySem.W.takesIn K (.builtin "object.__class__") = some true)
    (nn_Scheme_rows : PySem.W.findIn K (.ref CScheme) "rows" = some none)
    (nn_Scheme_colours : PySem.W.findIn K (.ref CScheme) "colours" = some none)
    (nn_Scheme_columns : PySem.W.findIn K (.ref CScheme) "columns" = some none)
    (f_Scheme_MOST : PySem.W.findIn K (.ref CScheme) "MOST" = some (some (.int 9 t_Scheme_MOST)))
    (s_Scheme_MOST : PySem.W.specialIn K (.int 9 t_Scheme_MOST) "__get__" = some none)
    (f_Scheme_BLANK : PySem.W.findIn K (.ref CScheme) "BLANK" = some (some (.str "a" t_Scheme_BLANK)))
    (s_Scheme_BLANK : PySem.W.specialIn K (.str "a" t_Scheme_BLANK) "__get__" = some none)
    (i_ha : PySem.W.findIn K (.ref CScheme) "__class__" = some (some (.builtin "object.__class__")))
    (i_hm : PySem.W.mroIn K CScheme (.type "object") = some true)
    (nf_Scheme_int : PySem.W.notFirst K CScheme (.type "int") = true)
    (nf_Scheme_str : PySem.W.notFirst K CScheme (.type "str") = true)
    (s_int_Scheme : PySem.W.subIn K (.type "int") (.ref CScheme) = some false)
    (s_str_Scheme : PySem.W.subIn K (.type "str") (.ref CScheme) = some false)
    (nn_Rule_scheme : PySem.W.findIn K (.ref CRule) "scheme" = some none)
    (nn_Rule_row : PySem.W.findIn K (.ref CRule) "row" = some none)
    (nn_Rule_clauses : PySem.W.findIn K (.ref CRule) "clauses" = some none)
    (nn_Rule__news : PySem.W.findIn K (.ref CRule) "_news" = some none)
    (rS_Rule : PySem.W.readsIn K CRule (.type "type") = true)
    (gS_Rule : PySem.W.specialIn K (.ref CRule) "__getattribute__" = some (some (.builtin "type.__getattribute__")))
    (y_ha : PySem.W.findIn K (.ref CRule) "__class__" = some (some (.builtin "object.__class__")))
    (y_hm : PySem.W.mroIn K CRule (.type "object") = some true)
    (nf_Rule_int : PySem.W.notFirst K CRule (.type "int") = true)
    (nf_Rule_str : PySem.W.notFirst K CRule (.type "str") = true)
    (s_int_Rule : PySem.W.subIn K (.type "int") (.ref CRule) = some false)
    (s_str_Rule : PySem.W.subIn K (.type "str") (.ref CRule) = some false)
    (ss_0 : PySem.W.subIn K (.ref CBadScheme) (.ref CBadScheme) = some true)
    (s_0_1 : PySem.W.subIn K (.ref CBadScheme) (.ref CBadColumn) = some false)
    (ne_0_1 : ((Value.ref CBadScheme) == Value.ref CBadColumn) = false)
    (s_0_2 : PySem.W.subIn K (.ref CBadScheme) (.ref CBadSpots) = some false)
    (ne_0_2 : ((Value.ref CBadScheme) == Value.ref CBadSpots) = false)
    (s_0_3 : PySem.W.subIn K (.ref CBadScheme) (.ref CBadRow) = some false)
    (ne_0_3 : ((Value.ref CBadScheme) == Value.ref CBadRow) = false)
    (s_0_4 : PySem.W.subIn K (.ref CBadScheme) (.ref CBadColour) = some false)
    (ne_0_4 : ((Value.ref CBadScheme) == Value.ref CBadColour) = false)
    (s_0_5 : PySem.W.subIn K (.ref CBadScheme) (.ref CTooMany) = some false)
    (ne_0_5 : ((Value.ref CBadScheme) == Value.ref CTooMany) = false)
    (s_0_6 : PySem.W.subIn K (.ref CBadScheme) (.ref CBadClause) = some false)
    (ne_0_6 : ((Value.ref CBadScheme) == Value.ref CBadClause) = false)
    (s_0_7 : PySem.W.subIn K (.ref CBadScheme) (.ref CBadRule) = some false)
    (ne_0_7 : ((Value.ref CBadScheme) == Value.ref CBadRule) = false)
    (s_1_0 : PySem.W.subIn K (.ref CBadColumn) (.ref CBadScheme) = some false)
    (ne_1_0 : ((Value.ref CBadColumn) == Value.ref CBadScheme) = false)
    (ss_1 : PySem.W.subIn K (.ref CBadColumn) (.ref CBadColumn) = some true)
    (s_1_2 : PySem.W.subIn K (.ref CBadColumn) (.ref CBadSpots) = some false)
    (ne_1_2 : ((Value.ref CBadColumn) == Value.ref CBadSpots) = false)
    (s_1_3 : PySem.W.subIn K (.ref CBadColumn) (.ref CBadRow) = some false)
    (ne_1_3 : ((Value.ref CBadColumn) == Value.ref CBadRow) = false)
    (s_1_4 : PySem.W.subIn K (.ref CBadColumn) (.ref CBadColour) = some false)
    (ne_1_4 : ((Value.ref CBadColumn) == Value.ref CBadColour) = false)
    (s_1_5 : PySem.W.subIn K (.ref CBadColumn) (.ref CTooMany) = some false)
    (ne_1_5 : ((Value.ref CBadColumn) == Value.ref CTooMany) = false)
    (s_1_6 : PySem.W.subIn K (.ref CBadColumn) (.ref CBadClause) = some false)
    (ne_1_6 : ((Value.ref CBadColumn) == Value.ref CBadClause) = false)
    (s_1_7 : PySem.W.subIn K (.ref CBadColumn) (.ref CBadRule) = some false)
    (ne_1_7 : ((Value.ref CBadColumn) == Value.ref CBadRule) = false)
    (s_2_0 : PySem.W.subIn K (.ref CBadSpots) (.ref CBadScheme) = some false)
    (ne_2_0 : ((Value.ref CBadSpots) == Value.ref CBadScheme) = false)
    (s_2_1 : PySem.W.subIn K (.ref CBadSpots) (.ref CBadColumn) = some false)
    (ne_2_1 : ((Value.ref CBadSpots) == Value.ref CBadColumn) = false)
    (ss_2 : PySem.W.subIn K (.ref CBadSpots) (.ref CBadSpots) = some true)
    (s_2_3 : PySem.W.subIn K (.ref CBadSpots) (.ref CBadRow) = some false)
    (ne_2_3 : ((Value.ref CBadSpots) == Value.ref CBadRow) = false)
    (s_2_4 : PySem.W.subIn K (.ref CBadSpots) (.ref CBadColour) = some false)
    (ne_2_4 : ((Value.ref CBadSpots) == Value.ref CBadColour) = false)
    (s_2_5 : PySem.W.subIn K (.ref CBadSpots) (.ref CTooMany) = some false)
    (ne_2_5 : ((Value.ref CBadSpots) == Value.ref CTooMany) = false)
    (s_2_6 : PySem.W.subIn K (.ref CBadSpots) (.ref CBadClause) = some false)
    (ne_2_6 : ((Value.ref CBadSpots) == Value.ref CBadClause) = false)
    (s_2_7 : PySem.W.subIn K (.ref CBadSpots) (.ref CBadRule) = some false)
    (ne_2_7 : ((Value.ref CBadSpots) == Value.ref CBadRule) = false)
    (s_3_0 : PySem.W.subIn K (.ref CBadRow) (.ref CBadScheme) = some false)
    (ne_3_0 : ((Value.ref CBadRow) == Value.ref CBadScheme) = false)
    (s_3_1 : PySem.W.subIn K (.ref CBadRow) (.ref CBadColumn) = some false)
    (ne_3_1 : ((Value.ref CBadRow) == Value.ref CBadColumn) = false)
    (s_3_2 : PySem.W.subIn K (.ref CBadRow) (.ref CBadSpots) = some false)
    (ne_3_2 : ((Value.ref CBadRow) == Value.ref CBadSpots) = false)
    (ss_3 : PySem.W.subIn K (.ref CBadRow) (.ref CBadRow) = some true)
    (s_3_4 : PySem.W.subIn K (.ref CBadRow) (.ref CBadColour) = some false)
    (ne_3_4 : ((Value.ref CBadRow) == Value.ref CBadColour) = false)
    (s_3_5 : PySem.W.subIn K (.ref CBadRow) (.ref CTooMany) = some false)
    (ne_3_5 : ((Value.ref CBadRow) == Value.ref CTooMany) = false)
    (s_3_6 : PySem.W.subIn K (.ref CBadRow) (.ref CBadClause) = some false)
    (ne_3_6 : ((Value.ref CBadRow) == Value.ref CBadClause) = false)
    (s_3_7 : PySem.W.subIn K (.ref CBadRow) (.ref CBadRule) = some false)
    (ne_3_7 : ((Value.ref CBadRow) == Value.ref CBadRule) = false)
    (s_4_0 : PySem.W.subIn K (.ref CBadColour) (.ref CBadScheme) = some false)
    (ne_4_0 : ((Value.ref CBadColour) == Value.ref CBadScheme) = false)
    (s_4_1 : PySem.W.subIn K (.ref CBadColour) (.ref CBadColumn) = some false)
    (ne_4_1 : ((Value.ref CBadColour) == Value.ref CBadColumn) = false)
    (s_4_2 : PySem.W.subIn K (.ref CBadColour) (.ref CBadSpots) = some false)
    (ne_4_2 : ((Value.ref CBadColour) == Value.ref CBadSpots) = false)
    (s_4_3 : PySem.W.subIn K (.ref CBadColour) (.ref CBadRow) = some false)
    (ne_4_3 : ((Value.ref CBadColour) == Value.ref CBadRow) = false)
    (ss_4 : PySem.W.subIn K (.ref CBadColour) (.ref CBadColour) = some true)
    (s_4_5 : PySem.W.subIn K (.ref CBadColour) (.ref CTooMany) = some false)
    (ne_4_5 : ((Value.ref CBadColour) == Value.ref CTooMany) = false)
    (s_4_6 : PySem.W.subIn K (.ref CBadColour) (.ref CBadClause) = some false)
    (ne_4_6 : ((Value.ref CBadColour) == Value.ref CBadClause) = false)
    (s_4_7 : PySem.W.subIn K (.ref CBadColour) (.ref CBadRule) = some false)
    (ne_4_7 : ((Value.ref CBadColour) == Value.ref CBadRule) = false)
    (s_5_0 : PySem.W.subIn K (.ref CTooMany) (.ref CBadScheme) = some false)
    (ne_5_0 : ((Value.ref CTooMany) == Value.ref CBadScheme) = false)
    (s_5_1 : PySem.W.subIn K (.ref CTooMany) (.ref CBadColumn) = some false)
    (ne_5_1 : ((Value.ref CTooMany) == Value.ref CBadColumn) = false)
    (s_5_2 : PySem.W.subIn K (.ref CTooMany) (.ref CBadSpots) = some false)
    (ne_5_2 : ((Value.ref CTooMany) == Value.ref CBadSpots) = false)
    (s_5_3 : PySem.W.subIn K (.ref CTooMany) (.ref CBadRow) = some false)
    (ne_5_3 : ((Value.ref CTooMany) == Value.ref CBadRow) = false)
    (s_5_4 : PySem.W.subIn K (.ref CTooMany) (.ref CBadColour) = some false)
    (ne_5_4 : ((Value.ref CTooMany) == Value.ref CBadColour) = false)
    (ss_5 : PySem.W.subIn K (.ref CTooMany) (.ref CTooMany) = some true)
    (s_5_6 : PySem.W.subIn K (.ref CTooMany) (.ref CBadClause) = some false)
    (ne_5_6 : ((Value.ref CTooMany) == Value.ref CBadClause) = false)
    (s_5_7 : PySem.W.subIn K (.ref CTooMany) (.ref CBadRule) = some false)
    (ne_5_7 : ((Value.ref CTooMany) == Value.ref CBadRule) = false)
    (s_6_0 : PySem.W.subIn K (.ref CBadClause) (.ref CBadScheme) = some false)
    (ne_6_0 : ((Value.ref CBadClause) == Value.ref CBadScheme) = false)
    (s_6_1 : PySem.W.subIn K (.ref CBadClause) (.ref CBadColumn) = some false)
    (ne_6_1 : ((Value.ref CBadClause) == Value.ref CBadColumn) = false)
    (s_6_2 : PySem.W.subIn K (.ref CBadClause) (.ref CBadSpots) = some false)
    (ne_6_2 : ((Value.ref CBadClause) == Value.ref CBadSpots) = false)
    (s_6_3 : PySem.W.subIn K (.ref CBadClause) (.ref CBadRow) = some false)
    (ne_6_3 : ((Value.ref CBadClause) == Value.ref CBadRow) = false)
    (s_6_4 : PySem.W.subIn K (.ref CBadClause) (.ref CBadColour) = some false)
    (ne_6_4 : ((Value.ref CBadClause) == Value.ref CBadColour) = false)
    (s_6_5 : PySem.W.subIn K (.ref CBadClause) (.ref CTooMany) = some false)
    (ne_6_5 : ((Value.ref CBadClause) == Value.ref CTooMany) = false)
    (ss_6 : PySem.W.subIn K (.ref CBadClause) (.ref CBadClause) = some true)
    (s_6_7 : PySem.W.subIn K (.ref CBadClause) (.ref CBadRule) = some false)
    (ne_6_7 : ((Value.ref CBadClause) == Value.ref CBadRule) = false)
    (s_7_0 : PySem.W.subIn K (.ref CBadRule) (.ref CBadScheme) = some false)
    (ne_7_0 : ((Value.ref CBadRule) == Value.ref CBadScheme) = false)
    (s_7_1 : PySem.W.subIn K (.ref CBadRule) (.ref CBadColumn) = some false)
    (ne_7_1 : ((Value.ref CBadRule) == Value.ref CBadColumn) = false)
    (s_7_2 : PySem.W.subIn K (.ref CBadRule) (.ref CBadSpots) = some false)
    (ne_7_2 : ((Value.ref CBadRule) == Value.ref CBadSpots) = false)
    (s_7_3 : PySem.W.subIn K (.ref CBadRule) (.ref CBadRow) = some false)
    (ne_7_3 : ((Value.ref CBadRule) == Value.ref CBadRow) = false)
    (s_7_4 : PySem.W.subIn K (.ref CBadRule) (.ref CBadColour) = some false)
    (ne_7_4 : ((Value.ref CBadRule) == Value.ref CBadColour) = false)
    (s_7_5 : PySem.W.subIn K (.ref CBadRule) (.ref CTooMany) = some false)
    (ne_7_5 : ((Value.ref CBadRule) == Value.ref CTooMany) = false)
    (s_7_6 : PySem.W.subIn K (.ref CBadRule) (.ref CBadClause) = some false)
    (ne_7_6 : ((Value.ref CBadRule) == Value.ref CBadClause) = false)
    (ss_7 : PySem.W.subIn K (.ref CBadRule) (.ref CBadRule) = some true)
    (sv_0 : PySem.W.subIn K (.ref CBadScheme) (.type "ValueError") = some true)
    (sv_1 : PySem.W.subIn K (.ref CBadColumn) (.type "ValueError") = some true)
    (sv_2 : PySem.W.subIn K (.ref CBadSpots) (.type "ValueError") = some true)
    (sv_3 : PySem.W.subIn K (.ref CBadRow) (.type "ValueError") = some true)
    (sv_4 : PySem.W.subIn K (.ref CBadColour) (.type "ValueError") = some true)
    (sv_5 : PySem.W.subIn K (.ref CTooMany) (.type "ValueError") = some true)
    (sv_6 : PySem.W.subIn K (.ref CBadClause) (.type "ValueError") = some true)
    (sv_7 : PySem.W.subIn K (.ref CBadRule) (.type "ValueError") = some true)
    (sg_0 : PySem.W.subIn K (.ref CBadScheme) (.ref CGalloonError) = some true)
    (sg_1 : PySem.W.subIn K (.ref CBadColumn) (.ref CGalloonError) = some true)
    (sg_2 : PySem.W.subIn K (.ref CBadSpots) (.ref CGalloonError) = some true)
    (sg_3 : PySem.W.subIn K (.ref CBadRow) (.ref CGalloonError) = some true)
    (sg_4 : PySem.W.subIn K (.ref CBadColour) (.ref CGalloonError) = some true)
    (sg_5 : PySem.W.subIn K (.ref CTooMany) (.ref CGalloonError) = some true)
    (sg_6 : PySem.W.subIn K (.ref CBadClause) (.ref CGalloonError) = some true)
    (sg_7 : PySem.W.subIn K (.ref CBadRule) (.ref CGalloonError) = some true)
    (ne_g_0 : ((Value.ref CBadScheme) == Value.ref CGalloonError) = false)
    (ne_g_1 : ((Value.ref CBadColumn) == Value.ref CGalloonError) = false)
    (ne_g_2 : ((Value.ref CBadSpots) == Value.ref CGalloonError) = false)
    (ne_g_3 : ((Value.ref CBadRow) == Value.ref CGalloonError) = false)
    (ne_g_4 : ((Value.ref CBadColour) == Value.ref CGalloonError) = false)
    (ne_g_5 : ((Value.ref CTooMany) == Value.ref CGalloonError) = false)
    (ne_g_6 : ((Value.ref CBadClause) == Value.ref CGalloonError) = false)
    (ne_g_7 : ((Value.ref CBadRule) == Value.ref CGalloonError) = false) :
    Txt K mg ⟨CGalloonError, CBadScheme, CBadColumn, CBadSpots, CBadRow, CBadColour, CTooMany, CBadClause, CBadRule, CScheme, CRule⟩ :=
  { b_ValueError := PySem.W.mg_none_of X G z_ValueError
    b_abs := PySem.W.mg_none_of X G z_abs
    b_all := PySem.W.mg_none_of X G z_all
    b_bool := PySem.W.mg_none_of X G z_bool
    b_classmethod := PySem.W.mg_none_of X G z_classmethod
    b_enumerate := PySem.W.mg_none_of X G z_enumerate
    b_int := PySem.W.mg_none_of X G z_int
    b_isinstance := PySem.W.mg_none_of X G z_isinstance
    b_len := PySem.W.mg_none_of X G z_len
    b_list := PySem.W.mg_none_of X G z_list
    b_ord := PySem.W.mg_none_of X G z_ord
    b_range := PySem.W.mg_none_of X G z_range
    b_set := PySem.W.mg_none_of X G z_set
    b_sorted := PySem.W.mg_none_of X G z_sorted
    b_str := PySem.W.mg_none_of X G z_str
    b_tuple := PySem.W.mg_none_of X G z_tuple
    b_zip := PySem.W.mg_none_of X G z_zip
    g_DIGITS := gval_of X G v_DIGITS ⟨_, rfl⟩
    g_LETTERS := gval_of X G v_LETTERS ⟨_, rfl⟩
    g_MOST_CLAUSES := gval_of X G v_MOST_CLAUSES ⟨_, rfl⟩
    g_END := gval_of X G v_END ⟨_, rfl⟩
    g_ANY := gval_of X G v_ANY ⟨_, rfl⟩
    g_GalloonError := PySem.W.mg_of X G a_GalloonError
    e_BadScheme := errT_of X G a_BadScheme x_BadScheme rf_BadScheme sa_BadScheme sB_BadScheme tc_BadScheme kc_BadScheme nb_BadScheme ai_BadScheme ti_BadScheme li_BadScheme ci_BadScheme ki_BadScheme
    x_BadScheme := errC_of ga_BadScheme gg_BadScheme sB_BadScheme hd_BadScheme ha_BadScheme i_hn i_ht hm_BadScheme ic_BadScheme
    e_BadColumn := errT_of X G a_BadColumn x_BadColumn rf_BadColumn sa_BadColumn sB_BadColumn tc_BadColumn kc_BadColumn nb_BadColumn ai_BadColumn ti_BadColumn li_BadColumn ci_BadColumn ki_BadColumn
    x_BadColumn := errC_of ga_BadColumn gg_BadColumn sB_BadColumn hd_BadColumn ha_BadColumn i_hn i_ht hm_BadColumn ic_BadColumn
    e_BadSpots := errT_of X G a_BadSpots x_BadSpots rf_BadSpots sa_BadSpots sB_BadSpots tc_BadSpots kc_BadSpots nb_BadSpots ai_BadSpots ti_BadSpots li_BadSpots ci_BadSpots ki_BadSpots
    x_BadSpots := errC_of ga_BadSpots gg_BadSpots sB_BadSpots hd_BadSpots ha_BadSpots i_hn i_ht hm_BadSpots ic_BadSpots
    e_BadRow := errT_of X G a_BadRow x_BadRow rf_BadRow sa_BadRow sB_BadRow tc_BadRow kc_BadRow nb_BadRow ai_BadRow ti_BadRow li_BadRow ci_BadRow ki_BadRow
    x_BadRow := errC_of ga_BadRow gg_BadRow sB_BadRow hd_BadRow ha_BadRow i_hn i_ht hm_BadRow ic_BadRow
    e_BadColour := errT_of X G a_BadColour x_BadColour rf_BadColour sa_BadColour sB_BadColour tc_BadColour kc_BadColour nb_BadColour ai_BadColour ti_BadColour li_BadColour ci_BadColour ki_BadColour
    x_BadColour := errC_of ga_BadColour gg_BadColour sB_BadColour hd_BadColour ha_BadColour i_hn i_ht hm_BadColour ic_BadColour
    e_TooMany := errT_of X G a_TooMany x_TooMany rf_TooMany sa_TooMany sB_TooMany tc_TooMany kc_TooMany nb_TooMany ai_TooMany ti_TooMany li_TooMany ci_TooMany ki_TooMany
    x_TooMany := errC_of ga_TooMany gg_TooMany sB_TooMany hd_TooMany ha_TooMany i_hn i_ht hm_TooMany ic_TooMany
    e_BadClause := errT2_of X G a_BadClause x_BadClause rf_BadClause sa_BadClause sB_BadClause tc_BadClause kc_BadClause nb_BadClause nd_BadClause ai_BadClause ti_BadClause li_BadClause ci_BadClause ki_BadClause
    x_BadClause := errC_of ga_BadClause gg_BadClause sB_BadClause hd_BadClause ha_BadClause i_hn i_ht hm_BadClause ic_BadClause
    z_BadRule := ⟨PySem.W.mg_of X G a_BadRule, xz_BadRule, kc_BadRule, sB_BadRule, tc_BadRule⟩
    x_BadRule := errC_of ga_BadRule gg_BadRule sB_BadRule hd_BadRule ha_BadRule i_hn i_ht hm_BadRule ic_BadRule
    c_Scheme := clsT_of X G a_Scheme pg_Scheme hd_Scheme po_Scheme sa_Scheme mk_Scheme kc_Scheme
    m_Scheme___init__ := metT_of am_Scheme___init__ im_Scheme___init__ lm_Scheme___init__ cm_Scheme___init__ km_Scheme___init__
    m_Scheme___eq__ := metT_of am_Scheme___eq__ im_Scheme___eq__ lm_Scheme___eq__ cm_Scheme___eq__ km_Scheme___eq__
    m_Scheme_is_column := metT_of am_Scheme_is_column im_Scheme_is_column lm_Scheme_is_column cm_Scheme_is_column km_Scheme_is_column
    m_Scheme_is_colour := metT_of am_Scheme_is_colour im_Scheme_is_colour lm_Scheme_is_colour cm_Scheme_is_colour km_Scheme_is_colour
    m_Scheme_spots := metT_of am_Scheme_spots im_Scheme_spots lm_Scheme_spots cm_Scheme_spots km_Scheme_spots
    m_Scheme_column := metT_of am_Scheme_column im_Scheme_column lm_Scheme_column cm_Scheme_column km_Scheme_column
    c_Rule := clsT_of X G a_Rule pg_Rule hd_Rule po_Rule sa_Rule mk_Rule kc_Rule
    m_Rule___init__ := metT_of am_Rule___init__ im_Rule___init__ lm_Rule___init__ cm_Rule___init__ km_Rule___init__
    m_Rule_read := ⟨_, _, _, _, fun_mk (st := s_Rule_read) lm_Rule_read cm_Rule_read km_Rule_read, ⟨rS_Rule, gS_Rule⟩, ⟨cg_Rule_read, ⟨_, cr_Rule_read⟩, cf_Rule_read⟩⟩
    m_Rule___eq__ := metT_of am_Rule___eq__ im_Rule___eq__ lm_Rule___eq__ cm_Rule___eq__ km_Rule___eq__
    m_Rule___str__ := metT_of am_Rule___str__ im_Rule___str__ lm_Rule___str__ cm_Rule___str__ km_Rule___str__
    m_Rule_value := metT_of am_Rule_value im_Rule_value lm_Rule_value cm_Rule_value km_Rule_value
    d_signs := defT_of X G ad_signs ld_signs cd_signs kd_signs
    d_wrong_part := defT_of X G ad_wrong_part ld_wrong_part cd_wrong_part kd_wrong_part
    d_are_signs := defT_of X G ad_are_signs ld_are_signs cd_are_signs kd_are_signs
    d_all_values := defT_of X G ad_all_values ld_all_values cd_all_values kd_all_values
    d_fits := defT_of X G ad_fits ld_fits cd_fits kd_fits
    d_law_same := defT_of X G ad_law_same ld_law_same cd_law_same kd_law_same
    d_law_bag := defT_of X G ad_law_bag ld_law_bag cd_law_bag kd_law_bag
    d_law_take := defT_of X G ad_law_take ld_law_take cd_law_take kd_law_take
    d_law_many := defT_of X G ad_law_many ld_law_many cd_law_many kd_law_many
    d_law_spots := defT_of X G ad_law_spots ld_law_spots cd_law_spots kd_law_spots
    d_law_new := defT_of X G ad_law_new ld_law_new cd_law_new kd_law_new
    d_law_marks := defT_of X G ad_law_marks ld_law_marks cd_law_marks kd_law_marks
    d_law_clause := defT_of X G ad_law_clause ld_law_clause cd_law_clause kd_law_clause
    d_law_clauses := defT_of X G ad_law_clauses ld_law_clauses cd_law_clauses kd_law_clauses
    d_law_piece := defT_of X G ad_law_piece ld_law_piece cd_law_piece kd_law_piece
    d_law_text := defT_of X G ad_law_text ld_law_text cd_law_text kd_law_text
    d_law_scheme := defT_of X G ad_law_scheme ld_law_scheme cd_law_scheme kd_law_scheme
    d_law_values := defT_of X G ad_law_values ld_law_values cd_law_values kd_law_values
    d_law_holds := defT_of X G ad_law_holds ld_law_holds cd_law_holds kd_law_holds
    d_law_other := defT_of X G ad_law_other ld_law_other cd_law_other kd_law_other
    d_law_compares := defT_of X G ad_law_compares ld_law_compares cd_law_compares kd_law_compares
    d_law_told := defT_of X G ad_law_told ld_law_told cd_law_told kd_law_told
    d_law_refuses_values := defT_of X G ad_law_refuses_values ld_law_refuses_values cd_law_refuses_values kd_law_refuses_values
    d_law_bad_side := defT_of X G ad_law_bad_side ld_law_bad_side cd_law_bad_side kd_law_bad_side
    d_law_bad_here := defT_of X G ad_law_bad_here ld_law_bad_here cd_law_bad_here kd_law_bad_here
    d_law_bent := defT_of X G ad_law_bent ld_law_bent cd_law_bent kd_law_bent
    d_law_faulty := defT_of X G ad_law_faulty ld_law_faulty cd_law_faulty kd_law_faulty
    d_law_refuses_made := defT_of X G ad_law_refuses_made ld_law_refuses_made cd_law_refuses_made kd_law_refuses_made
    d_law_malformed := defT_of X G ad_law_malformed ld_law_malformed cd_law_malformed kd_law_malformed
    d_law_refuses_read := defT_of X G ad_law_refuses_read ld_law_refuses_read cd_law_refuses_read kd_law_refuses_read
    d_law := defT_of X G ad_law ld_law cd_law kd_law
    i_hn := i_hn
    i_ht := i_ht
    n_rows := nn_Scheme_rows
    n_colours := nn_Scheme_colours
    n_columns := nn_Scheme_columns
    k_MOST := ⟨_, f_Scheme_MOST, ⟨_, rfl⟩, s_Scheme_MOST, by decide +kernel⟩
    k_BLANK := ⟨_, f_Scheme_BLANK, ⟨_, rfl⟩, s_Scheme_BLANK, by decide +kernel⟩
    i_ha := i_ha
    i_hm := i_hm
    i_own := kitS_of
    i_ni := nf_Scheme_int
    i_ns := nf_Scheme_str
    i_int := kitR_of ic_Scheme tc_Scheme s_int_Scheme rfl
    i_str := kitR_of ic_Scheme tc_Scheme s_str_Scheme rfl
    y_scheme := nn_Rule_scheme
    y_row := nn_Rule_row
    y_clauses := nn_Rule_clauses
    y_news := nn_Rule__news
    y_ha := y_ha
    y_hm := y_hm
    y_own := kitS_of
    y_ni := nf_Rule_int
    y_ns := nf_Rule_str
    y_int := kitR_of ic_Rule tc_Rule s_int_Rule rfl
    y_str := kitR_of ic_Rule tc_Rule s_str_Rule rfl
    kk_e := kk_of ic_BadScheme tc_BadScheme ic_BadColumn tc_BadColumn ic_BadSpots tc_BadSpots ic_BadRow tc_BadRow ic_BadColour tc_BadColour ic_TooMany tc_TooMany ic_BadClause tc_BadClause ic_BadRule tc_BadRule s_0_1 ne_0_1 s_0_2 ne_0_2 s_0_3 ne_0_3 s_0_4 ne_0_4 s_0_5 ne_0_5 s_0_6 ne_0_6 s_0_7 ne_0_7 s_1_0 ne_1_0 s_1_2 ne_1_2 s_1_3 ne_1_3 s_1_4 ne_1_4 s_1_5 ne_1_5 s_1_6 ne_1_6 s_1_7 ne_1_7 s_2_0 ne_2_0 s_2_1 ne_2_1 s_2_3 ne_2_3 s_2_4 ne_2_4 s_2_5 ne_2_5 s_2_6 ne_2_6 s_2_7 ne_2_7 s_3_0 ne_3_0 s_3_1 ne_3_1 s_3_2 ne_3_2 s_3_4 ne_3_4 s_3_5 ne_3_5 s_3_6 ne_3_6 s_3_7 ne_3_7 s_4_0 ne_4_0 s_4_1 ne_4_1 s_4_2 ne_4_2 s_4_3 ne_4_3 s_4_5 ne_4_5 s_4_6 ne_4_6 s_4_7 ne_4_7 s_5_0 ne_5_0 s_5_1 ne_5_1 s_5_2 ne_5_2 s_5_3 ne_5_3 s_5_4 ne_5_4 s_5_6 ne_5_6 s_5_7 ne_5_7 s_6_0 ne_6_0 s_6_1 ne_6_1 s_6_2 ne_6_2 s_6_3 ne_6_3 s_6_4 ne_6_4 s_6_5 ne_6_5 s_6_7 ne_6_7 s_7_0 ne_7_0 s_7_1 ne_7_1 s_7_2 ne_7_2 s_7_3 ne_7_3 s_7_4 ne_7_4 s_7_5 ne_7_5 s_7_6 ne_7_6
    kv_e := kv_of sv_0 sv_1 sv_2 sv_3 sv_4 sv_5 sv_6 sv_7
    xm_e := xm_of sB_GalloonError ic_GalloonError tc_GalloonError sg_0 sg_1 sg_2 sg_3 sg_4 sg_5 sg_6 sg_7
    kg_e := kg_of ic_GalloonError tc_GalloonError sg_0 sg_1 sg_2 sg_3 sg_4 sg_5 sg_6 sg_7 ne_g_0 ne_g_1 ne_g_2 ne_g_3 ne_g_4 ne_g_5 ne_g_6 ne_g_7
    xo_e := xo_of sB_BadScheme ic_BadScheme tc_BadScheme sB_BadColumn ic_BadColumn tc_BadColumn sB_BadSpots ic_BadSpots tc_BadSpots sB_BadRow ic_BadRow tc_BadRow sB_BadColour ic_BadColour tc_BadColour sB_TooMany ic_TooMany tc_TooMany sB_BadClause ic_BadClause tc_BadClause sB_BadRule ic_BadRule tc_BadRule ss_0 s_0_1 s_0_2 s_0_3 s_0_4 s_0_5 s_0_6 s_0_7 s_1_0 ss_1 s_1_2 s_1_3 s_1_4 s_1_5 s_1_6 s_1_7 s_2_0 s_2_1 ss_2 s_2_3 s_2_4 s_2_5 s_2_6 s_2_7 s_3_0 s_3_1 s_3_2 ss_3 s_3_4 s_3_5 s_3_6 s_3_7 s_4_0 s_4_1 s_4_2 s_4_3 ss_4 s_4_5 s_4_6 s_4_7 s_5_0 s_5_1 s_5_2 s_5_3 s_5_4 ss_5 s_5_6 s_5_7 s_6_0 s_6_1 s_6_2 s_6_3 s_6_4 s_6_5 ss_6 s_6_7 s_7_0 s_7_1 s_7_2 s_7_3 s_7_4 s_7_5 s_7_6 ss_7 }
end K23

end
section
set_option Elab.async false
set_option linter.all false
set_option maxRecDepth 100000
set_option maxHeartbeats 4000000
namespace K23.HF
open PySem PySem.Spec PyProof.Rows L2 Kit He Hd
def v_CGalloonError (K : PySem.W.Frag) : Addr := ga K "GalloonError"
def v_CBadScheme (K : PySem.W.Frag) : Addr := ga K "BadScheme"
def v_CBadColumn (K : PySem.W.Frag) : Addr := ga K "BadColumn"
def v_CBadSpots (K : PySem.W.Frag) : Addr := ga K "BadSpots"
def v_CBadRow (K : PySem.W.Frag) : Addr := ga K "BadRow"
def v_CBadColour (K : PySem.W.Frag) : Addr := ga K "BadColour"
def v_CTooMany (K : PySem.W.Frag) : Addr := ga K "TooMany"
def v_CBadClause (K : PySem.W.Frag) : Addr := ga K "BadClause"
def v_CBadRule (K : PySem.W.Frag) : Addr := ga K "BadRule"
def v_CScheme (K : PySem.W.Frag) : Addr := ga K "Scheme"
def v_CRule (K : PySem.W.Frag) : Addr := ga K "Rule"
def v_tk_DIGITS (K : PySem.W.Frag) : Nat := tgO (PySem.W.nsIn K mainGlobals "DIGITS")
def v_tk_LETTERS (K : PySem.W.Frag) : Nat := tgO (PySem.W.nsIn K mainGlobals "LETTERS")
def v_tk_MOST_CLAUSES (K : PySem.W.Frag) : Nat := tgO (PySem.W.nsIn K mainGlobals "MOST_CLAUSES")
def v_tk_END (K : PySem.W.Frag) : Nat := tgO (PySem.W.nsIn K mainGlobals "END")
def v_tk_ANY (K : PySem.W.Frag) : Nat := tgO (PySem.W.nsIn K mainGlobals "ANY")
def v_f1 (K : PySem.W.Frag) : Addr := ma K (v_CBadScheme K) "__init__"
def v_f2 (K : PySem.W.Frag) : Addr := ma K (v_CBadColumn K) "__init__"
def v_f3 (K : PySem.W.Frag) : Addr := ma K (v_CBadSpots K) "__init__"
def v_f4 (K : PySem.W.Frag) : Addr := ma K (v_CBadRow K) "__init__"
def v_f5 (K : PySem.W.Frag) : Addr := ma K (v_CBadColour K) "__init__"
def v_f6 (K : PySem.W.Frag) : Addr := ma K (v_CTooMany K) "__init__"
def v_f7 (K : PySem.W.Frag) : Addr := ma K (v_CBadClause K) "__init__"
def v_f8 (K : PySem.W.Frag) : Addr := ma K (v_CScheme K) "__init__"
def v_f9 (K : PySem.W.Frag) : Addr := ma K (v_CScheme K) "__eq__"
def v_f10 (K : PySem.W.Frag) : Addr := ma K (v_CScheme K) "is_column"
def v_f11 (K : PySem.W.Frag) : Addr := ma K (v_CScheme K) "is_colour"
def v_f12 (K : PySem.W.Frag) : Addr := ma K (v_CScheme K) "spots"
def v_f13 (K : PySem.W.Frag) : Addr := ma K (v_CScheme K) "column"
def v_f14 (K : PySem.W.Frag) : Addr := ma K (v_CRule K) "__init__"
def v_p15 (K : PySem.W.Frag) : Addr := cmP K (v_CRule K) "read"
def v_f15 (K : PySem.W.Frag) : Addr := cmF K (v_p15 K)
def v_rs15 (K : PySem.W.Frag) : List Value := cmR K (v_p15 K)
def v_f16 (K : PySem.W.Frag) : Addr := ma K (v_CRule K) "__eq__"
def v_f17 (K : PySem.W.Frag) : Addr := ma K (v_CRule K) "__str__"
def v_f18 (K : PySem.W.Frag) : Addr := ma K (v_CRule K) "value"
def v_f19 (K : PySem.W.Frag) : Addr := ga K "_signs"
def v_f20 (K : PySem.W.Frag) : Addr := ga K "_wrong_part"
def v_f21 (K : PySem.W.Frag) : Addr := ga K "_are_signs"
def v_f22 (K : PySem.W.Frag) : Addr := ga K "_all_values"
def v_f23 (K : PySem.W.Frag) : Addr := ga K "_fits"
def v_f24 (K : PySem.W.Frag) : Addr := ga K "_law_same"
def v_f25 (K : PySem.W.Frag) : Addr := ga K "_law_bag"
def v_f26 (K : PySem.W.Frag) : Addr := ga K "_law_take"
def v_f27 (K : PySem.W.Frag) : Addr := ga K "_law_many"
def v_f28 (K : PySem.W.Frag) : Addr := ga K "_law_spots"
def v_f29 (K : PySem.W.Frag) : Addr := ga K "_law_new"
def v_f30 (K : PySem.W.Frag) : Addr := ga K "_law_marks"
def v_f31 (K : PySem.W.Frag) : Addr := ga K "_law_clause"
def v_f32 (K : PySem.W.Frag) : Addr := ga K "_law_clauses"
def v_f33 (K : PySem.W.Frag) : Addr := ga K "_law_piece"
def v_f34 (K : PySem.W.Frag) : Addr := ga K "_law_text"
def v_f35 (K : PySem.W.Frag) : Addr := ga K "_law_scheme"
def v_f36 (K : PySem.W.Frag) : Addr := ga K "_law_values"
def v_f37 (K : PySem.W.Frag) : Addr := ga K "_law_holds"
def v_f38 (K : PySem.W.Frag) : Addr := ga K "_law_other"
def v_f39 (K : PySem.W.Frag) : Addr := ga K "_law_compares"
def v_f40 (K : PySem.W.Frag) : Addr := ga K "_law_told"
def v_f41 (K : PySem.W.Frag) : Addr := ga K "_law_refuses_values"
def v_f42 (K : PySem.W.Frag) : Addr := ga K "_law_bad_side"
def v_f43 (K : PySem.W.Frag) : Addr := ga K "_law_bad_here"
def v_f44 (K : PySem.W.Frag) : Addr := ga K "_law_bent"
def v_f45 (K : PySem.W.Frag) : Addr := ga K "_law_faulty"
def v_f46 (K : PySem.W.Frag) : Addr := ga K "_law_refuses_made"
def v_f47 (K : PySem.W.Frag) : Addr := ga K "_law_malformed"
def v_f48 (K : PySem.W.Frag) : Addr := ga K "_law_refuses_read"
def v_f49 (K : PySem.W.Frag) : Addr := ga K "law"
def v_t_Scheme_MOST (K : PySem.W.Frag) : Nat := tgO (PySem.W.findIn K (.ref (v_CScheme K)) "MOST")
def v_t_Scheme_BLANK (K : PySem.W.Frag) : Nat := tgO (PySem.W.findIn K (.ref (v_CScheme K)) "BLANK")
def s_f1 : FnS := ⟨v_f1, "__init__", "BadScheme.__init__", defArgs s_BadScheme___init__, defBody s_BadScheme___init__, defScope s_BadScheme___init__⟩
def s_f2 : FnS := ⟨v_f2, "__init__", "BadColumn.__init__", defArgs s_BadColumn___init__, defBody s_BadColumn___init__, defScope s_BadColumn___init__⟩
def s_f3 : FnS := ⟨v_f3, "__init__", "BadSpots.__init__", defArgs s_BadSpots___init__, defBody s_BadSpots___init__, defScope s_BadSpots___init__⟩
def s_f4 : FnS := ⟨v_f4, "__init__", "BadRow.__init__", defArgs s_BadRow___init__, defBody s_BadRow___init__, defScope s_BadRow___init__⟩
def s_f5 : FnS := ⟨v_f5, "__init__", "BadColour.__init__", defArgs s_BadColour___init__, defBody s_BadColour___init__, defScope s_BadColour___init__⟩
def s_f6 : FnS := ⟨v_f6, "__init__", "TooMany.__init__", defArgs s_TooMany___init__, defBody s_TooMany___init__, defScope s_TooMany___init__⟩
def s_f7 : FnS := ⟨v_f7, "__init__", "BadClause.__init__", defArgs s_BadClause___init__, defBody s_BadClause___init__, defScope s_BadClause___init__⟩
def s_f8 : FnS := ⟨v_f8, "__init__", "Scheme.__init__", defArgs s_Scheme___init__, defBody s_Scheme___init__, defScope s_Scheme___init__⟩
def s_f9 : FnS := ⟨v_f9, "__eq__", "Scheme.__eq__", defArgs s_Scheme___eq__, defBody s_Scheme___eq__, defScope s_Scheme___eq__⟩
def s_f10 : FnS := ⟨v_f10, "is_column", "Scheme.is_column", defArgs s_Scheme_is_column, defBody s_Scheme_is_column, defScope s_Scheme_is_column⟩
def s_f11 : FnS := ⟨v_f11, "is_colour", "Scheme.is_colour", defArgs s_Scheme_is_colour, defBody s_Scheme_is_colour, defScope s_Scheme_is_colour⟩
def s_f12 : FnS := ⟨v_f12, "spots", "Scheme.spots", defArgs s_Scheme_spots, defBody s_Scheme_spots, defScope s_Scheme_spots⟩
def s_f13 : FnS := ⟨v_f13, "column", "Scheme.column", defArgs s_Scheme_column, defBody s_Scheme_column, defScope s_Scheme_column⟩
def s_f14 : FnS := ⟨v_f14, "__init__", "Rule.__init__", defArgs s_Rule___init__, defBody s_Rule___init__, defScope s_Rule___init__⟩
def s_f15 : FnS := ⟨v_f15, "read", "Rule.read", defArgs s_Rule_read, defBody s_Rule_read, defScope s_Rule_read⟩
def s_f16 : FnS := ⟨v_f16, "__eq__", "Rule.__eq__", defArgs s_Rule___eq__, defBody s_Rule___eq__, defScope s_Rule___eq__⟩
def s_f17 : FnS := ⟨v_f17, "__str__", "Rule.__str__", defArgs s_Rule___str__, defBody s_Rule___str__, defScope s_Rule___str__⟩
def s_f18 : FnS := ⟨v_f18, "value", "Rule.value", defArgs s_Rule_value, defBody s_Rule_value, defScope s_Rule_value⟩
def s_f19 : FnS := ⟨v_f19, "_signs", "_signs", defArgs s_signs, defBody s_signs, defScope s_signs⟩
def s_f20 : FnS := ⟨v_f20, "_wrong_part", "_wrong_part", defArgs s_wrong_part, defBody s_wrong_part, defScope s_wrong_part⟩
def s_f21 : FnS := ⟨v_f21, "_are_signs", "_are_signs", defArgs s_are_signs, defBody s_are_signs, defScope s_are_signs⟩
def s_f22 : FnS := ⟨v_f22, "_all_values", "_all_values", defArgs s_all_values, defBody s_all_values, defScope s_all_values⟩
def s_f23 : FnS := ⟨v_f23, "_fits", "_fits", defArgs s_fits, defBody s_fits, defScope s_fits⟩
def s_f24 : FnS := ⟨v_f24, "_law_same", "_law_same", defArgs s_law_same, defBody s_law_same, defScope s_law_same⟩
def s_f25 : FnS := ⟨v_f25, "_law_bag", "_law_bag", defArgs s_law_bag, defBody s_law_bag, defScope s_law_bag⟩
def s_f26 : FnS := ⟨v_f26, "_law_take", "_law_take", defArgs s_law_take, defBody s_law_take, defScope s_law_take⟩
def s_f27 : FnS := ⟨v_f27, "_law_many", "_law_many", defArgs s_law_many, defBody s_law_many, defScope s_law_many⟩
def s_f28 : FnS := ⟨v_f28, "_law_spots", "_law_spots", defArgs s_law_spots, defBody s_law_spots, defScope s_law_spots⟩
def s_f29 : FnS := ⟨v_f29, "_law_new", "_law_new", defArgs s_law_new, defBody s_law_new, defScope s_law_new⟩
def s_f30 : FnS := ⟨v_f30, "_law_marks", "_law_marks", defArgs s_law_marks, defBody s_law_marks, defScope s_law_marks⟩
def s_f31 : FnS := ⟨v_f31, "_law_clause", "_law_clause", defArgs s_law_clause, defBody s_law_clause, defScope s_law_clause⟩
def s_f32 : FnS := ⟨v_f32, "_law_clauses", "_law_clauses", defArgs s_law_clauses, defBody s_law_clauses, defScope s_law_clauses⟩
def s_f33 : FnS := ⟨v_f33, "_law_piece", "_law_piece", defArgs s_law_piece, defBody s_law_piece, defScope s_law_piece⟩
def s_f34 : FnS := ⟨v_f34, "_law_text", "_law_text", defArgs s_law_text, defBody s_law_text, defScope s_law_text⟩
def s_f35 : FnS := ⟨v_f35, "_law_scheme", "_law_scheme", defArgs s_law_scheme, defBody s_law_scheme, defScope s_law_scheme⟩
def s_f36 : FnS := ⟨v_f36, "_law_values", "_law_values", defArgs s_law_values, defBody s_law_values, defScope s_law_values⟩
def s_f37 : FnS := ⟨v_f37, "_law_holds", "_law_holds", defArgs s_law_holds, defBody s_law_holds, defScope s_law_holds⟩
def s_f38 : FnS := ⟨v_f38, "_law_other", "_law_other", defArgs s_law_other, defBody s_law_other, defScope s_law_other⟩
def s_f39 : FnS := ⟨v_f39, "_law_compares", "_law_compares", defArgs s_law_compares, defBody s_law_compares, defScope s_law_compares⟩
def s_f40 : FnS := ⟨v_f40, "_law_told", "_law_told", defArgs s_law_told, defBody s_law_told, defScope s_law_told⟩
def s_f41 : FnS := ⟨v_f41, "_law_refuses_values", "_law_refuses_values", defArgs s_law_refuses_values, defBody s_law_refuses_values, defScope s_law_refuses_values⟩
def s_f42 : FnS := ⟨v_f42, "_law_bad_side", "_law_bad_side", defArgs s_law_bad_side, defBody s_law_bad_side, defScope s_law_bad_side⟩
def s_f43 : FnS := ⟨v_f43, "_law_bad_here", "_law_bad_here", defArgs s_law_bad_here, defBody s_law_bad_here, defScope s_law_bad_here⟩
def s_f44 : FnS := ⟨v_f44, "_law_bent", "_law_bent", defArgs s_law_bent, defBody s_law_bent, defScope s_law_bent⟩
def s_f45 : FnS := ⟨v_f45, "_law_faulty", "_law_faulty", defArgs s_law_faulty, defBody s_law_faulty, defScope s_law_faulty⟩
def s_f46 : FnS := ⟨v_f46, "_law_refuses_made", "_law_refuses_made", defArgs s_law_refuses_made, defBody s_law_refuses_made, defScope s_law_refuses_made⟩
def s_f47 : FnS := ⟨v_f47, "_law_malformed", "_law_malformed", defArgs s_law_malformed, defBody s_law_malformed, defScope s_law_malformed⟩
def s_f48 : FnS := ⟨v_f48, "_law_refuses_read", "_law_refuses_read", defArgs s_law_refuses_read, defBody s_law_refuses_read, defScope s_law_refuses_read⟩
def s_f49 : FnS := ⟨v_f49, "law", "law", defArgs s_law, defBody s_law, defScope s_law⟩
def fns0 : List FnS := [s_f1, s_f2, s_f3, s_f4, s_f5, s_f6, s_f7, s_f8, s_f9, s_f10, s_f11, s_f12, s_f13, s_f14, s_f15, s_f16]
def fns1 : List FnS := [s_f17, s_f18, s_f19, s_f20, s_f21, s_f22, s_f23, s_f24, s_f25, s_f26, s_f27, s_f28, s_f29, s_f30, s_f31, s_f32]
def fns2 : List FnS := [s_f33, s_f34, s_f35, s_f36, s_f37, s_f38, s_f39, s_f40, s_f41, s_f42, s_f43, s_f44, s_f45, s_f46, s_f47, s_f48]
def fns3 : List FnS := [s_f49]
def fns : List FnS := fns0 ++ (fns1 ++ (fns2 ++ (fns3)))
theorem m_f1 : s_f1 ∈ fns := by
  have h : s_f1 ∈ fns0 := List.mem_of_getElem? (i := 0) rfl
  exact List.mem_append_left _ h
theorem m_f2 : s_f2 ∈ fns := by
  have h : s_f2 ∈ fns0 := List.mem_of_getElem? (i := 1) rfl
  exact List.mem_append_left _ h
theorem m_f3 : s_f3 ∈ fns := by
  have h : s_f3 ∈ fns0 := List.mem_of_getElem? (i := 2) rfl
  exact List.mem_append_left _ h
theorem m_f4 : s_f4 ∈ fns := by
  have h : s_f4 ∈ fns0 := List.mem_of_getElem? (i := 3) rfl
  exact List.mem_append_left _ h
theorem m_f5 : s_f5 ∈ fns := by
  have h : s_f5 ∈ fns0 := List.mem_of_getElem? (i := 4) rfl
  exact List.mem_append_left _ h
theorem m_f6 : s_f6 ∈ fns := by
  have h : s_f6 ∈ fns0 := List.mem_of_getElem? (i := 5) rfl
  exact List.mem_append_left _ h
theorem m_f7 : s_f7 ∈ fns := by
  have h : s_f7 ∈ fns0 := List.mem_of_getElem? (i := 6) rfl
  exact List.mem_append_left _ h
theorem m_f8 : s_f8 ∈ fns := by
  have h : s_f8 ∈ fns0 := List.mem_of_getElem? (i := 7) rfl
  exact List.mem_append_left _ h
theorem m_f9 : s_f9 ∈ fns := by
  have h : s_f9 ∈ fns0 := List.mem_of_getElem? (i := 8) rfl
  exact List.mem_append_left _ h
theorem m_f10 : s_f10 ∈ fns := by
  have h : s_f10 ∈ fns0 := List.mem_of_getElem? (i := 9) rfl
  exact List.mem_append_left _ h
theorem m_f11 : s_f11 ∈ fns := by
  have h : s_f11 ∈ fns0 := List.mem_of_getElem? (i := 10) rfl
  exact List.mem_append_left _ h
theorem m_f12 : s_f12 ∈ fns := by
  have h : s_f12 ∈ fns0 := List.mem_of_getElem? (i := 11) rfl
  exact List.mem_append_left _ h
theorem m_f13 : s_f13 ∈ fns := by
  have h : s_f13 ∈ fns0 := List.mem_of_getElem? (i := 12) rfl
  exact List.mem_append_left _ h
theorem m_f14 : s_f14 ∈ fns := by
  have h : s_f14 ∈ fns0 := List.mem_of_getElem? (i := 13) rfl
  exact List.mem_append_left _ h
theorem m_f15 : s_f15 ∈ fns := by
  have h : s_f15 ∈ fns0 := List.mem_of_getElem? (i := 14) rfl
  exact List.mem_append_left _ h
theorem m_f16 : s_f16 ∈ fns := by
  have h : s_f16 ∈ fns0 := List.mem_of_getElem? (i := 15) rfl
  exact List.mem_append_left _ h
theorem m_f17 : s_f17 ∈ fns := by
  have h : s_f17 ∈ fns1 := List.mem_of_getElem? (i := 0) rfl
  exact List.mem_append_right _ (List.mem_append_left _ h)
theorem m_f18 : s_f18 ∈ fns := by
  have h : s_f18 ∈ fns1 := List.mem_of_getElem? (i := 1) rfl
  exact List.mem_append_right _ (List.mem_append_left _ h)
theorem m_f19 : s_f19 ∈ fns := by
  have h : s_f19 ∈ fns1 := List.mem_of_getElem? (i := 2) rfl
  exact List.mem_append_right _ (List.mem_append_left _ h)
theorem m_f20 : s_f20 ∈ fns := by
  have h : s_f20 ∈ fns1 := List.mem_of_getElem? (i := 3) rfl
  exact List.mem_append_right _ (List.mem_append_left _ h)
theorem m_f21 : s_f21 ∈ fns := by
  have h : s_f21 ∈ fns1 := List.mem_of_getElem? (i := 4) rfl
  exact List.mem_append_right _ (List.mem_append_left _ h)
theorem m_f22 : s_f22 ∈ fns := by
  have h : s_f22 ∈ fns1 := List.mem_of_getElem? (i := 5) rfl
  exact List.mem_append_right _ (List.mem_append_left _ h)
theorem m_f23 : s_f23 ∈ fns := by
  have h : s_f23 ∈ fns1 := List.mem_of_getElem? (i := 6) rfl
  exact List.mem_append_right _ (List.mem_append_left _ h)
theorem m_f24 : s_f24 ∈ fns := by
  have h : s_f24 ∈ fns1 := List.mem_of_getElem? (i := 7) rfl
  exact List.mem_append_right _ (List.mem_append_left _ h)
theorem m_f25 : s_f25 ∈ fns := by
  have h : s_f25 ∈ fns1 := List.mem_of_getElem? (i := 8) rfl
  exact List.mem_append_right _ (List.mem_append_left _ h)
theorem m_f26 : s_f26 ∈ fns := by
  have h : s_f26 ∈ fns1 := List.mem_of_getElem? (i := 9) rfl
  exact List.mem_append_right _ (List.mem_append_left _ h)
theorem m_f27 : s_f27 ∈ fns := by
  have h : s_f27 ∈ fns1 := List.mem_of_getElem? (i := 10) rfl
  exact List.mem_append_right _ (List.mem_append_left _ h)
theorem m_f28 : s_f28 ∈ fns := by
  have h : s_f28 ∈ fns1 := List.mem_of_getElem? (i := 11) rfl
  exact List.mem_append_right _ (List.mem_append_left _ h)
theorem m_f29 : s_f29 ∈ fns := by
  have h : s_f29 ∈ fns1 := List.mem_of_getElem? (i := 12) rfl
  exact List.mem_append_right _ (List.mem_append_left _ h)
theorem m_f30 : s_f30 ∈ fns := by
  have h : s_f30 ∈ fns1 := List.mem_of_getElem? (i := 13) rfl
  exact List.mem_append_right _ (List.mem_append_left _ h)
theorem m_f31 : s_f31 ∈ fns := by
  have h : s_f31 ∈ fns1 := List.mem_of_getElem? (i := 14) rfl
  exact List.mem_append_right _ (List.mem_append_left _ h)
theorem m_f32 : s_f32 ∈ fns := by
  have h : s_f32 ∈ fns1 := List.mem_of_getElem? (i := 15) rfl
  exact List.mem_append_right _ (List.mem_append_left _ h)
theorem m_f33 : s_f33 ∈ fns := by
  have h : s_f33 ∈ fns2 := List.mem_of_getElem? (i := 0) rfl
  exact List.mem_append_right _ (List.mem_append_right _ (List.mem_append_left _ h))
theorem m_f34 : s_f34 ∈ fns := by
  have h : s_f34 ∈ fns2 := List.mem_of_getElem? (i := 1) rfl
  exact List.mem_append_right _ (List.mem_append_right _ (List.mem_append_left _ h))
theorem m_f35 : s_f35 ∈ fns := by
  have h : s_f35 ∈ fns2 := List.mem_of_getElem? (i := 2) rfl
  exact List.mem_append_right _ (List.mem_append_right _ (List.mem_append_left _ h))
theorem m_f36 : s_f36 ∈ fns := by
  have h : s_f36 ∈ fns2 := List.mem_of_getElem? (i := 3) rfl
  exact List.mem_append_right _ (List.mem_append_right _ (List.mem_append_left _ h))
theorem m_f37 : s_f37 ∈ fns := by
  have h : s_f37 ∈ fns2 := List.mem_of_getElem? (i := 4) rfl
  exact List.mem_append_right _ (List.mem_append_right _ (List.mem_append_left _ h))
theorem m_f38 : s_f38 ∈ fns := by
  have h : s_f38 ∈ fns2 := List.mem_of_getElem? (i := 5) rfl
  exact List.mem_append_right _ (List.mem_append_right _ (List.mem_append_left _ h))
theorem m_f39 : s_f39 ∈ fns := by
  have h : s_f39 ∈ fns2 := List.mem_of_getElem? (i := 6) rfl
  exact List.mem_append_right _ (List.mem_append_right _ (List.mem_append_left _ h))
theorem m_f40 : s_f40 ∈ fns := by
  have h : s_f40 ∈ fns2 := List.mem_of_getElem? (i := 7) rfl
  exact List.mem_append_right _ (List.mem_append_right _ (List.mem_append_left _ h))
theorem m_f41 : s_f41 ∈ fns := by
  have h : s_f41 ∈ fns2 := List.mem_of_getElem? (i := 8) rfl
  exact List.mem_append_right _ (List.mem_append_right _ (List.mem_append_left _ h))
theorem m_f42 : s_f42 ∈ fns := by
  have h : s_f42 ∈ fns2 := List.mem_of_getElem? (i := 9) rfl
  exact List.mem_append_right _ (List.mem_append_right _ (List.mem_append_left _ h))
theorem m_f43 : s_f43 ∈ fns := by
  have h : s_f43 ∈ fns2 := List.mem_of_getElem? (i := 10) rfl
  exact List.mem_append_right _ (List.mem_append_right _ (List.mem_append_left _ h))
theorem m_f44 : s_f44 ∈ fns := by
  have h : s_f44 ∈ fns2 := List.mem_of_getElem? (i := 11) rfl
  exact List.mem_append_right _ (List.mem_append_right _ (List.mem_append_left _ h))
theorem m_f45 : s_f45 ∈ fns := by
  have h : s_f45 ∈ fns2 := List.mem_of_getElem? (i := 12) rfl
  exact List.mem_append_right _ (List.mem_append_right _ (List.mem_append_left _ h))
theorem m_f46 : s_f46 ∈ fns := by
  have h : s_f46 ∈ fns2 := List.mem_of_getElem? (i := 13) rfl
  exact List.mem_append_right _ (List.mem_append_right _ (List.mem_append_left _ h))
theorem m_f47 : s_f47 ∈ fns := by
  have h : s_f47 ∈ fns2 := List.mem_of_getElem? (i := 14) rfl
  exact List.mem_append_right _ (List.mem_append_right _ (List.mem_append_left _ h))
theorem m_f48 : s_f48 ∈ fns := by
  have h : s_f48 ∈ fns2 := List.mem_of_getElem? (i := 15) rfl
  exact List.mem_append_right _ (List.mem_append_right _ (List.mem_append_left _ h))
theorem m_f49 : s_f49 ∈ fns := by
  have h : s_f49 ∈ fns3 := List.mem_of_getElem? (i := 0) rfl
  exact List.mem_append_right _ (List.mem_append_right _ (List.mem_append_right _ (h)))
def F0 (K : PySem.W.Frag) : Prop := (PySem.W.nsIn K mainGlobals "GalloonError" = some (some (.ref (v_CGalloonError K)))) ∧
  (PySem.W.nsIn K mainGlobals "BadScheme" = some (some (.ref (v_CBadScheme K)))) ∧
  (PySem.W.nsIn K mainGlobals "BadColumn" = some (some (.ref (v_CBadColumn K)))) ∧
  (PySem.W.nsIn K mainGlobals "BadSpots" = some (some (.ref (v_CBadSpots K)))) ∧
  (PySem.W.nsIn K mainGlobals "BadRow" = some (some (.ref (v_CBadRow K)))) ∧
  (PySem.W.nsIn K mainGlobals "BadColour" = some (some (.ref (v_CBadColour K)))) ∧
  (PySem.W.nsIn K mainGlobals "TooMany" = some (some (.ref (v_CTooMany K)))) ∧
  (PySem.W.nsIn K mainGlobals "BadClause" = some (some (.ref (v_CBadClause K)))) ∧
  (PySem.W.nsIn K mainGlobals "BadRule" = some (some (.ref (v_CBadRule K)))) ∧
  (PySem.W.nsIn K mainGlobals "Scheme" = some (some (.ref (v_CScheme K)))) ∧
  (PySem.W.nsIn K mainGlobals "Rule" = some (some (.ref (v_CRule K)))) ∧
  (PySem.W.nsIn K mainGlobals "ValueError" = some none)
instance (K : PySem.W.Frag) : Decidable (F0 K) := by unfold F0; infer_instance
def F1 (K : PySem.W.Frag) : Prop := (PySem.W.nsIn K mainGlobals "abs" = some none) ∧
  (PySem.W.nsIn K mainGlobals "all" = some none) ∧
  (PySem.W.nsIn K mainGlobals "bool" = some none) ∧
  (PySem.W.nsIn K mainGlobals "classmethod" = some none) ∧
  (PySem.W.nsIn K mainGlobals "enumerate" = some none) ∧
  (PySem.W.nsIn K mainGlobals "int" = some none) ∧
  (PySem.W.nsIn K mainGlobals "isinstance" = some none) ∧
  (PySem.W.nsIn K mainGlobals "len" = some none) ∧
  (PySem.W.nsIn K mainGlobals "list" = some none) ∧
  (PySem.W.nsIn K mainGlobals "ord" = some none) ∧
  (PySem.W.nsIn K mainGlobals "range" = some none) ∧
  (PySem.W.nsIn K mainGlobals "set" = some none)
instance (K : PySem.W.Frag) : Decidable (F1 K) := by unfold F1; infer_instance
def F2 (K : PySem.W.Frag) : Prop := (PySem.W.nsIn K mainGlobals "sorted" = some none) ∧
  (PySem.W.nsIn K mainGlobals "str" = some none) ∧
  (PySem.W.nsIn K mainGlobals "tuple" = some none) ∧
  (PySem.W.nsIn K mainGlobals "zip" = some none) ∧
  (PySem.W.nsIn K mainGlobals "DIGITS" = some (some (.str "012" (v_tk_DIGITS K)))) ∧
  (PySem.W.nsIn K mainGlobals "LETTERS" = some (some (.str "abcdefghi" (v_tk_LETTERS K)))) ∧
  (PySem.W.nsIn K mainGlobals "MOST_CLAUSES" = some (some (.int 6 (v_tk_MOST_CLAUSES K)))) ∧
  (PySem.W.nsIn K mainGlobals "END" = some (some (.str "#" (v_tk_END K)))) ∧
  (PySem.W.nsIn K mainGlobals "ANY" = some (some (.str "." (v_tk_ANY K)))) ∧
  (PySem.W.subIn K (.ref (v_CGalloonError K)) (.type "BaseException") = some true) ∧
  (PySem.W.isClsIn K (v_CGalloonError K) = true) ∧
  (PySem.W.typeIn K (.ref (v_CGalloonError K)) = some (.type "type"))
instance (K : PySem.W.Frag) : Decidable (F2 K) := by unfold F2; infer_instance
def F3 (K : PySem.W.Frag) : Prop := (PySem.W.subIn K (.ref (v_CBadScheme K)) (.type "BaseException") = some true) ∧
  (PySem.W.isClsIn K (v_CBadScheme K) = true) ∧
  (PySem.W.typeIn K (.ref (v_CBadScheme K)) = some (.type "type")) ∧
  (PySem.W.subIn K (.ref (v_CBadColumn K)) (.type "BaseException") = some true) ∧
  (PySem.W.isClsIn K (v_CBadColumn K) = true) ∧
  (PySem.W.typeIn K (.ref (v_CBadColumn K)) = some (.type "type")) ∧
  (PySem.W.subIn K (.ref (v_CBadSpots K)) (.type "BaseException") = some true) ∧
  (PySem.W.isClsIn K (v_CBadSpots K) = true) ∧
  (PySem.W.typeIn K (.ref (v_CBadSpots K)) = some (.type "type")) ∧
  (PySem.W.subIn K (.ref (v_CBadRow K)) (.type "BaseException") = some true) ∧
  (PySem.W.isClsIn K (v_CBadRow K) = true) ∧
  (PySem.W.typeIn K (.ref (v_CBadRow K)) = some (.type "type"))
instance (K : PySem.W.Frag) : Decidable (F3 K) := by unfold F3; infer_instance
def F4 (K : PySem.W.Frag) : Prop := (PySem.W.subIn K (.ref (v_CBadColour K)) (.type "BaseException") = some true) ∧
  (PySem.W.isClsIn K (v_CBadColour K) = true) ∧
  (PySem.W.typeIn K (.ref (v_CBadColour K)) = some (.type "type")) ∧
  (PySem.W.subIn K (.ref (v_CTooMany K)) (.type "BaseException") = some true) ∧
  (PySem.W.isClsIn K (v_CTooMany K) = true) ∧
  (PySem.W.typeIn K (.ref (v_CTooMany K)) = some (.type "type")) ∧
  (PySem.W.subIn K (.ref (v_CBadClause K)) (.type "BaseException") = some true) ∧
  (PySem.W.isClsIn K (v_CBadClause K) = true) ∧
  (PySem.W.typeIn K (.ref (v_CBadClause K)) = some (.type "type")) ∧
  (PySem.W.subIn K (.ref (v_CBadRule K)) (.type "BaseException") = some true) ∧
  (PySem.W.isClsIn K (v_CBadRule K) = true) ∧
  (PySem.W.typeIn K (.ref (v_CBadRule K)) = some (.type "type"))
instance (K : PySem.W.Frag) : Decidable (F4 K) := by unfold F4; infer_instance
def F5 (K : PySem.W.Frag) : Prop := (PySem.W.isClsIn K (v_CScheme K) = true) ∧
  (PySem.W.typeIn K (.ref (v_CScheme K)) = some (.type "type")) ∧
  (PySem.W.isClsIn K (v_CRule K) = true) ∧
  (PySem.W.typeIn K (.ref (v_CRule K)) = some (.type "type")) ∧
  (PySem.W.findIn K (.ref (v_CBadScheme K)) "__setattr__" = some (some (.builtin "object.__setattr__"))) ∧
  (PySem.W.keepIn K (.ref (v_CBadScheme K)) = true) ∧
  (PySem.W.findIn K (.ref (v_CBadScheme K)) "part" = some none) ∧
  (PySem.W.findIn K (.ref (v_CBadScheme K)) "__init__" = some (some (.ref (v_f1 K)))) ∧
  (PySem.W.typeIn K (.ref (v_f1 K)) = some (.type "function")) ∧
  (PySem.W.keepIn K (.ref (v_f1 K)) = true) ∧
  (PySem.W.findIn K (.ref (v_CBadScheme K)) "__getattribute__" = some (some (.builtin "BaseException.__getattribute__"))) ∧
  (PySem.W.findIn K (.ref (v_CBadScheme K)) "__getattr__" = some none)
instance (K : PySem.W.Frag) : Decidable (F5 K) := by unfold F5; infer_instance
def F6 (K : PySem.W.Frag) : Prop := (PySem.W.hasDictIn K (v_CBadScheme K) = true) ∧
  (PySem.W.findIn K (.ref (v_CBadScheme K)) "__class__" = some (some (.builtin "object.__class__"))) ∧
  (PySem.W.mroIn K (v_CBadScheme K) (.type "object") = some true) ∧
  (PySem.W.findIn K (.ref (v_CBadColumn K)) "__setattr__" = some (some (.builtin "object.__setattr__"))) ∧
  (PySem.W.keepIn K (.ref (v_CBadColumn K)) = true) ∧
  (PySem.W.findIn K (.ref (v_CBadColumn K)) "text" = some none) ∧
  (PySem.W.findIn K (.ref (v_CBadColumn K)) "__init__" = some (some (.ref (v_f2 K)))) ∧
  (PySem.W.typeIn K (.ref (v_f2 K)) = some (.type "function")) ∧
  (PySem.W.keepIn K (.ref (v_f2 K)) = true) ∧
  (PySem.W.findIn K (.ref (v_CBadColumn K)) "__getattribute__" = some (some (.builtin "BaseException.__getattribute__"))) ∧
  (PySem.W.findIn K (.ref (v_CBadColumn K)) "__getattr__" = some none) ∧
  (PySem.W.hasDictIn K (v_CBadColumn K) = true)
instance (K : PySem.W.Frag) : Decidable (F6 K) := by unfold F6; infer_instance
def F7 (K : PySem.W.Frag) : Prop := (PySem.W.findIn K (.ref (v_CBadColumn K)) "__class__" = some (some (.builtin "object.__class__"))) ∧
  (PySem.W.mroIn K (v_CBadColumn K) (.type "object") = some true) ∧
  (PySem.W.findIn K (.ref (v_CBadSpots K)) "__setattr__" = some (some (.builtin "object.__setattr__"))) ∧
  (PySem.W.keepIn K (.ref (v_CBadSpots K)) = true) ∧
  (PySem.W.findIn K (.ref (v_CBadSpots K)) "text" = some none) ∧
  (PySem.W.findIn K (.ref (v_CBadSpots K)) "__init__" = some (some (.ref (v_f3 K)))) ∧
  (PySem.W.typeIn K (.ref (v_f3 K)) = some (.type "function")) ∧
  (PySem.W.keepIn K (.ref (v_f3 K)) = true) ∧
  (PySem.W.findIn K (.ref (v_CBadSpots K)) "__getattribute__" = some (some (.builtin "BaseException.__getattribute__"))) ∧
  (PySem.W.findIn K (.ref (v_CBadSpots K)) "__getattr__" = some none) ∧
  (PySem.W.hasDictIn K (v_CBadSpots K) = true) ∧
  (PySem.W.findIn K (.ref (v_CBadSpots K)) "__class__" = some (some (.builtin "object.__class__")))
instance (K : PySem.W.Frag) : Decidable (F7 K) := by unfold F7; infer_instance
def F8 (K : PySem.W.Frag) : Prop := (PySem.W.mroIn K (v_CBadSpots K) (.type "object") = some true) ∧
  (PySem.W.findIn K (.ref (v_CBadRow K)) "__setattr__" = some (some (.builtin "object.__setattr__"))) ∧
  (PySem.W.keepIn K (.ref (v_CBadRow K)) = true) ∧
  (PySem.W.findIn K (.ref (v_CBadRow K)) "row" = some none) ∧
  (PySem.W.findIn K (.ref (v_CBadRow K)) "__init__" = some (some (.ref (v_f4 K)))) ∧
  (PySem.W.typeIn K (.ref (v_f4 K)) = some (.type "function")) ∧
  (PySem.W.keepIn K (.ref (v_f4 K)) = true) ∧
  (PySem.W.findIn K (.ref (v_CBadRow K)) "__getattribute__" = some (some (.builtin "BaseException.__getattribute__"))) ∧
  (PySem.W.findIn K (.ref (v_CBadRow K)) "__getattr__" = some none) ∧
  (PySem.W.hasDictIn K (v_CBadRow K) = true) ∧
  (PySem.W.findIn K (.ref (v_CBadRow K)) "__class__" = some (some (.builtin "object.__class__"))) ∧
  (PySem.W.mroIn K (v_CBadRow K) (.type "object") = some true)
instance (K : PySem.W.Frag) : Decidable (F8 K) := by unfold F8; infer_instance
def F9 (K : PySem.W.Frag) : Prop := (PySem.W.findIn K (.ref (v_CBadColour K)) "__setattr__" = some (some (.builtin "object.__setattr__"))) ∧
  (PySem.W.keepIn K (.ref (v_CBadColour K)) = true) ∧
  (PySem.W.findIn K (.ref (v_CBadColour K)) "colour" = some none) ∧
  (PySem.W.findIn K (.ref (v_CBadColour K)) "__init__" = some (some (.ref (v_f5 K)))) ∧
  (PySem.W.typeIn K (.ref (v_f5 K)) = some (.type "function")) ∧
  (PySem.W.keepIn K (.ref (v_f5 K)) = true) ∧
  (PySem.W.findIn K (.ref (v_CBadColour K)) "__getattribute__" = some (some (.builtin "BaseException.__getattribute__"))) ∧
  (PySem.W.findIn K (.ref (v_CBadColour K)) "__getattr__" = some none) ∧
  (PySem.W.hasDictIn K (v_CBadColour K) = true) ∧
  (PySem.W.findIn K (.ref (v_CBadColour K)) "__class__" = some (some (.builtin "object.__class__"))) ∧
  (PySem.W.mroIn K (v_CBadColour K) (.type "object") = some true) ∧
  (PySem.W.findIn K (.ref (v_CTooMany K)) "__setattr__" = some (some (.builtin "object.__setattr__")))
instance (K : PySem.W.Frag) : Decidable (F9 K) := by unfold F9; infer_instance
def F10 (K : PySem.W.Frag) : Prop := (PySem.W.keepIn K (.ref (v_CTooMany K)) = true) ∧
  (PySem.W.findIn K (.ref (v_CTooMany K)) "most" = some none) ∧
  (PySem.W.findIn K (.ref (v_CTooMany K)) "__init__" = some (some (.ref (v_f6 K)))) ∧
  (PySem.W.typeIn K (.ref (v_f6 K)) = some (.type "function")) ∧
  (PySem.W.keepIn K (.ref (v_f6 K)) = true) ∧
  (PySem.W.findIn K (.ref (v_CTooMany K)) "__getattribute__" = some (some (.builtin "BaseException.__getattribute__"))) ∧
  (PySem.W.findIn K (.ref (v_CTooMany K)) "__getattr__" = some none) ∧
  (PySem.W.hasDictIn K (v_CTooMany K) = true) ∧
  (PySem.W.findIn K (.ref (v_CTooMany K)) "__class__" = some (some (.builtin "object.__class__"))) ∧
  (PySem.W.mroIn K (v_CTooMany K) (.type "object") = some true) ∧
  (PySem.W.findIn K (.ref (v_CBadClause K)) "__setattr__" = some (some (.builtin "object.__setattr__"))) ∧
  (PySem.W.keepIn K (.ref (v_CBadClause K)) = true)
instance (K : PySem.W.Frag) : Decidable (F10 K) := by unfold F10; infer_instance
def F11 (K : PySem.W.Frag) : Prop := (PySem.W.findIn K (.ref (v_CBadClause K)) "index" = some none) ∧
  (PySem.W.findIn K (.ref (v_CBadClause K)) "part" = some none) ∧
  (PySem.W.findIn K (.ref (v_CBadClause K)) "__init__" = some (some (.ref (v_f7 K)))) ∧
  (PySem.W.typeIn K (.ref (v_f7 K)) = some (.type "function")) ∧
  (PySem.W.keepIn K (.ref (v_f7 K)) = true) ∧
  (PySem.W.findIn K (.ref (v_CBadClause K)) "__getattribute__" = some (some (.builtin "BaseException.__getattribute__"))) ∧
  (PySem.W.findIn K (.ref (v_CBadClause K)) "__getattr__" = some none) ∧
  (PySem.W.hasDictIn K (v_CBadClause K) = true) ∧
  (PySem.W.findIn K (.ref (v_CBadClause K)) "__class__" = some (some (.builtin "object.__class__"))) ∧
  (PySem.W.mroIn K (v_CBadClause K) (.type "object") = some true) ∧
  (PySem.W.excIn K (v_CBadRule K) veB "ValueError.__new__" = true) ∧
  (PySem.W.keepIn K (.ref (v_CBadRule K)) = true)
instance (K : PySem.W.Frag) : Decidable (F11 K) := by unfold F11; infer_instance
def F12 (K : PySem.W.Frag) : Prop := (PySem.W.findIn K (.ref (v_CBadRule K)) "__getattribute__" = some (some (.builtin "BaseException.__getattribute__"))) ∧
  (PySem.W.findIn K (.ref (v_CBadRule K)) "__getattr__" = some none) ∧
  (PySem.W.hasDictIn K (v_CBadRule K) = true) ∧
  (PySem.W.findIn K (.ref (v_CBadRule K)) "__class__" = some (some (.builtin "object.__class__"))) ∧
  (PySem.W.mroIn K (v_CBadRule K) (.type "object") = some true) ∧
  (PySem.W.plainGet K (v_CScheme K) Str.empty = true) ∧
  (PySem.W.hasDictIn K (v_CScheme K) = true) ∧
  (PySem.W.plainOver K (v_CScheme K) = true) ∧
  (PySem.W.findIn K (.ref (v_CScheme K)) "__setattr__" = some (some (.builtin "object.__setattr__"))) ∧
  (PySem.W.makesIn K (v_CScheme K) = true) ∧
  (PySem.W.keepIn K (.ref (v_CScheme K)) = true) ∧
  (PySem.W.findIn K (.ref (v_CScheme K)) "__init__" = some (some (.ref (v_f8 K))))
instance (K : PySem.W.Frag) : Decidable (F12 K) := by unfold F12; infer_instance
def F13 (K : PySem.W.Frag) : Prop := (PySem.W.isFn K (.ref (v_f8 K)) = true) ∧
  (PySem.W.keepIn K (.ref (v_f8 K)) = true) ∧
  (PySem.W.findIn K (.ref (v_CScheme K)) "__eq__" = some (some (.ref (v_f9 K)))) ∧
  (PySem.W.isFn K (.ref (v_f9 K)) = true) ∧
  (PySem.W.keepIn K (.ref (v_f9 K)) = true) ∧
  (PySem.W.findIn K (.ref (v_CScheme K)) "is_column" = some (some (.ref (v_f10 K)))) ∧
  (PySem.W.isFn K (.ref (v_f10 K)) = true) ∧
  (PySem.W.keepIn K (.ref (v_f10 K)) = true) ∧
  (PySem.W.findIn K (.ref (v_CScheme K)) "is_colour" = some (some (.ref (v_f11 K)))) ∧
  (PySem.W.isFn K (.ref (v_f11 K)) = true) ∧
  (PySem.W.keepIn K (.ref (v_f11 K)) = true) ∧
  (PySem.W.findIn K (.ref (v_CScheme K)) "spots" = some (some (.ref (v_f12 K))))
instance (K : PySem.W.Frag) : Decidable (F13 K) := by unfold F13; infer_instance
def F14 (K : PySem.W.Frag) : Prop := (PySem.W.isFn K (.ref (v_f12 K)) = true) ∧
  (PySem.W.keepIn K (.ref (v_f12 K)) = true) ∧
  (PySem.W.findIn K (.ref (v_CScheme K)) "column" = some (some (.ref (v_f13 K)))) ∧
  (PySem.W.isFn K (.ref (v_f13 K)) = true) ∧
  (PySem.W.keepIn K (.ref (v_f13 K)) = true) ∧
  (PySem.W.plainGet K (v_CRule K) Str.empty = true) ∧
  (PySem.W.hasDictIn K (v_CRule K) = true) ∧
  (PySem.W.plainOver K (v_CRule K) = true) ∧
  (PySem.W.findIn K (.ref (v_CRule K)) "__setattr__" = some (some (.builtin "object.__setattr__"))) ∧
  (PySem.W.makesIn K (v_CRule K) = true) ∧
  (PySem.W.keepIn K (.ref (v_CRule K)) = true) ∧
  (PySem.W.findIn K (.ref (v_CRule K)) "__init__" = some (some (.ref (v_f14 K))))
instance (K : PySem.W.Frag) : Decidable (F14 K) := by unfold F14; infer_instance
def F15 (K : PySem.W.Frag) : Prop := (PySem.W.isFn K (.ref (v_f14 K)) = true) ∧
  (PySem.W.keepIn K (.ref (v_f14 K)) = true) ∧
  (cfG (PySem.W.findCls K (.ref (v_CRule K)) (.type "type") "read") = some ((.builtin "classmethod.__get__"), (.ref (v_p15 K)), .none, (.ref (v_CRule K)))) ∧
  (PySem.W.recIn K (v_p15 K) "classmethod" = some (.ref (v_f15 K) :: (v_rs15 K))) ∧
  (PySem.W.fnIn K (v_f15 K) = true) ∧
  (PySem.W.keepIn K (.ref (v_f15 K)) = true) ∧
  (PySem.W.findIn K (.ref (v_CRule K)) "__eq__" = some (some (.ref (v_f16 K)))) ∧
  (PySem.W.isFn K (.ref (v_f16 K)) = true) ∧
  (PySem.W.keepIn K (.ref (v_f16 K)) = true) ∧
  (PySem.W.findIn K (.ref (v_CRule K)) "__str__" = some (some (.ref (v_f17 K)))) ∧
  (PySem.W.isFn K (.ref (v_f17 K)) = true) ∧
  (PySem.W.keepIn K (.ref (v_f17 K)) = true)
instance (K : PySem.W.Frag) : Decidable (F15 K) := by unfold F15; infer_instance
def F16 (K : PySem.W.Frag) : Prop := (PySem.W.findIn K (.ref (v_CRule K)) "value" = some (some (.ref (v_f18 K)))) ∧
  (PySem.W.isFn K (.ref (v_f18 K)) = true) ∧
  (PySem.W.keepIn K (.ref (v_f18 K)) = true) ∧
  (PySem.W.nsIn K mainGlobals "_signs" = some (some (.ref (v_f19 K)))) ∧
  (PySem.W.keepIn K (.ref (v_f19 K)) = true) ∧
  (PySem.W.nsIn K mainGlobals "_wrong_part" = some (some (.ref (v_f20 K)))) ∧
  (PySem.W.keepIn K (.ref (v_f20 K)) = true) ∧
  (PySem.W.nsIn K mainGlobals "_are_signs" = some (some (.ref (v_f21 K)))) ∧
  (PySem.W.keepIn K (.ref (v_f21 K)) = true) ∧
  (PySem.W.nsIn K mainGlobals "_all_values" = some (some (.ref (v_f22 K)))) ∧
  (PySem.W.keepIn K (.ref (v_f22 K)) = true) ∧
  (PySem.W.nsIn K mainGlobals "_fits" = some (some (.ref (v_f23 K))))
instance (K : PySem.W.Frag) : Decidable (F16 K) := by unfold F16; infer_instance
def F17 (K : PySem.W.Frag) : Prop := (PySem.W.keepIn K (.ref (v_f23 K)) = true) ∧
  (PySem.W.nsIn K mainGlobals "_law_same" = some (some (.ref (v_f24 K)))) ∧
  (PySem.W.keepIn K (.ref (v_f24 K)) = true) ∧
  (PySem.W.nsIn K mainGlobals "_law_bag" = some (some (.ref (v_f25 K)))) ∧
  (PySem.W.keepIn K (.ref (v_f25 K)) = true) ∧
  (PySem.W.nsIn K mainGlobals "_law_take" = some (some (.ref (v_f26 K)))) ∧
  (PySem.W.keepIn K (.ref (v_f26 K)) = true) ∧
  (PySem.W.nsIn K mainGlobals "_law_many" = some (some (.ref (v_f27 K)))) ∧
  (PySem.W.keepIn K (.ref (v_f27 K)) = true) ∧
  (PySem.W.nsIn K mainGlobals "_law_spots" = some (some (.ref (v_f28 K)))) ∧
  (PySem.W.keepIn K (.ref (v_f28 K)) = true) ∧
  (PySem.W.nsIn K mainGlobals "_law_new" = some (some (.ref (v_f29 K))))
instance (K : PySem.W.Frag) : Decidable (F17 K) := by unfold F17; infer_instance
def F18 (K : PySem.W.Frag) : Prop := (PySem.W.keepIn K (.ref (v_f29 K)) = true) ∧
  (PySem.W.nsIn K mainGlobals "_law_marks" = some (some (.ref (v_f30 K)))) ∧
  (PySem.W.keepIn K (.ref (v_f30 K)) = true) ∧
  (PySem.W.nsIn K mainGlobals "_law_clause" = some (some (.ref (v_f31 K)))) ∧
  (PySem.W.keepIn K (.ref (v_f31 K)) = true) ∧
  (PySem.W.nsIn K mainGlobals "_law_clauses" = some (some (.ref (v_f32 K)))) ∧
  (PySem.W.keepIn K (.ref (v_f32 K)) = true) ∧
  (PySem.W.nsIn K mainGlobals "_law_piece" = some (some (.ref (v_f33 K)))) ∧
  (PySem.W.keepIn K (.ref (v_f33 K)) = true) ∧
  (PySem.W.nsIn K mainGlobals "_law_text" = some (some (.ref (v_f34 K)))) ∧
  (PySem.W.keepIn K (.ref (v_f34 K)) = true) ∧
  (PySem.W.nsIn K mainGlobals "_law_scheme" = some (some (.ref (v_f35 K))))
instance (K : PySem.W.Frag) : Decidable (F18 K) := by unfold F18; infer_instance
def F19 (K : PySem.W.Frag) : Prop := (PySem.W.keepIn K (.ref (v_f35 K)) = true) ∧
  (PySem.W.nsIn K mainGlobals "_law_values" = some (some (.ref (v_f36 K)))) ∧
  (PySem.W.keepIn K (.ref (v_f36 K)) = true) ∧
  (PySem.W.nsIn K mainGlobals "_law_holds" = some (some (.ref (v_f37 K)))) ∧
  (PySem.W.keepIn K (.ref (v_f37 K)) = true) ∧
  (PySem.W.nsIn K mainGlobals "_law_other" = some (some (.ref (v_f38 K)))) ∧
  (PySem.W.keepIn K (.ref (v_f38 K)) = true) ∧
  (PySem.W.nsIn K mainGlobals "_law_compares" = some (some (.ref (v_f39 K)))) ∧
  (PySem.W.keepIn K (.ref (v_f39 K)) = true) ∧
  (PySem.W.nsIn K mainGlobals "_law_told" = some (some (.ref (v_f40 K)))) ∧
  (PySem.W.keepIn K (.ref (v_f40 K)) = true) ∧
  (PySem.W.nsIn K mainGlobals "_law_refuses_values" = some (some (.ref (v_f41 K))))
instance (K : PySem.W.Frag) : Decidable (F19 K) := by unfold F19; infer_instance
def F20 (K : PySem.W.Frag) : Prop := (PySem.W.keepIn K (.ref (v_f41 K)) = true) ∧
  (PySem.W.nsIn K mainGlobals "_law_bad_side" = some (some (.ref (v_f42 K)))) ∧
  (PySem.W.keepIn K (.ref (v_f42 K)) = true) ∧
  (PySem.W.nsIn K mainGlobals "_law_bad_here" = some (some (.ref (v_f43 K)))) ∧
  (PySem.W.keepIn K (.ref (v_f43 K)) = true) ∧
  (PySem.W.nsIn K mainGlobals "_law_bent" = some (some (.ref (v_f44 K)))) ∧
  (PySem.W.keepIn K (.ref (v_f44 K)) = true) ∧
  (PySem.W.nsIn K mainGlobals "_law_faulty" = some (some (.ref (v_f45 K)))) ∧
  (PySem.W.keepIn K (.ref (v_f45 K)) = true) ∧
  (PySem.W.nsIn K mainGlobals "_law_refuses_made" = some (some (.ref (v_f46 K)))) ∧
  (PySem.W.keepIn K (.ref (v_f46 K)) = true) ∧
  (PySem.W.nsIn K mainGlobals "_law_malformed" = some (some (.ref (v_f47 K))))
instance (K : PySem.W.Frag) : Decidable (F20 K) := by unfold F20; infer_instance
def F21 (K : PySem.W.Frag) : Prop := (PySem.W.keepIn K (.ref (v_f47 K)) = true) ∧
  (PySem.W.nsIn K mainGlobals "_law_refuses_read" = some (some (.ref (v_f48 K)))) ∧
  (PySem.W.keepIn K (.ref (v_f48 K)) = true) ∧
  (PySem.W.nsIn K mainGlobals "law" = some (some (.ref (v_f49 K)))) ∧
  (PySem.W.keepIn K (.ref (v_f49 K)) = true) ∧
  (PySem.W.specialIn K (.builtin "object.__class__") "__get__" = some (some (.builtin "getset_descriptor.__get__"))) ∧
  (PySem.W.takesIn K (.builtin "object.__class__") = some true) ∧
  (PySem.W.findIn K (.ref (v_CScheme K)) "rows" = some none) ∧
  (PySem.W.findIn K (.ref (v_CScheme K)) "colours" = some none) ∧
  (PySem.W.findIn K (.ref (v_CScheme K)) "columns" = some none) ∧
  (PySem.W.findIn K (.ref (v_CScheme K)) "MOST" = some (some (.int 9 (v_t_Scheme_MOST K)))) ∧
  (PySem.W.specialIn K (.int 9 (v_t_Scheme_MOST K)) "__get__" = some none)
instance (K : PySem.W.Frag) : Decidable (F21 K) := by unfold F21; infer_instance
def F22 (K : PySem.W.Frag) : Prop := (PySem.W.findIn K (.ref (v_CScheme K)) "BLANK" = some (some (.str "a" (v_t_Scheme_BLANK K)))) ∧
  (PySem.W.specialIn K (.str "a" (v_t_Scheme_BLANK K)) "__get__" = some none) ∧
  (PySem.W.findIn K (.ref (v_CScheme K)) "__class__" = some (some (.builtin "object.__class__"))) ∧
  (PySem.W.mroIn K (v_CScheme K) (.type "object") = some true) ∧
  (PySem.W.notFirst K (v_CScheme K) (.type "int") = true) ∧
  (PySem.W.notFirst K (v_CScheme K) (.type "str") = true) ∧
  (PySem.W.subIn K (.type "int") (.ref (v_CScheme K)) = some false) ∧
  (PySem.W.subIn K (.type "str") (.ref (v_CScheme K)) = some false) ∧
  (PySem.W.findIn K (.ref (v_CRule K)) "scheme" = some none) ∧
  (PySem.W.findIn K (.ref (v_CRule K)) "row" = some none) ∧
  (PySem.W.findIn K (.ref (v_CRule K)) "clauses" = some none) ∧
  (PySem.W.findIn K (.ref (v_CRule K)) "_news" = some none)
instance (K : PySem.W.Frag) : Decidable (F22 K) := by unfold F22; infer_instance
def F23 (K : PySem.W.Frag) : Prop := (PySem.W.readsIn K (v_CRule K) (.type "type") = true) ∧
  (PySem.W.specialIn K (.ref (v_CRule K)) "__getattribute__" = some (some (.builtin "type.__getattribute__"))) ∧
  (PySem.W.findIn K (.ref (v_CRule K)) "__class__" = some (some (.builtin "object.__class__"))) ∧
  (PySem.W.mroIn K (v_CRule K) (.type "object") = some true) ∧
  (PySem.W.notFirst K (v_CRule K) (.type "int") = true) ∧
  (PySem.W.notFirst K (v_CRule K) (.type "str") = true) ∧
  (PySem.W.subIn K (.type "int") (.ref (v_CRule K)) = some false) ∧
  (PySem.W.subIn K (.type "str") (.ref (v_CRule K)) = some false) ∧
  (PySem.W.subIn K (.ref (v_CBadScheme K)) (.ref (v_CBadScheme K)) = some true) ∧
  (PySem.W.subIn K (.ref (v_CBadScheme K)) (.ref (v_CBadColumn K)) = some false) ∧
  (((Value.ref (v_CBadScheme K)) == Value.ref (v_CBadColumn K)) = false) ∧
  (PySem.W.subIn K (.ref (v_CBadScheme K)) (.ref (v_CBadSpots K)) = some false)
instance (K : PySem.W.Frag) : Decidable (F23 K) := by unfold F23; infer_instance
def F24 (K : PySem.W.Frag) : Prop := (((Value.ref (v_CBadScheme K)) == Value.ref (v_CBadSpots K)) = false) ∧
  (PySem.W.subIn K (.ref (v_CBadScheme K)) (.ref (v_CBadRow K)) = some false) ∧
  (((Value.ref (v_CBadScheme K)) == Value.ref (v_CBadRow K)) = false) ∧
  (PySem.W.subIn K (.ref (v_CBadScheme K)) (.ref (v_CBadColour K)) = some false) ∧
  (((Value.ref (v_CBadScheme K)) == Value.ref (v_CBadColour K)) = false) ∧
  (PySem.W.subIn K (.ref (v_CBadScheme K)) (.ref (v_CTooMany K)) = some false) ∧
  (((Value.ref (v_CBadScheme K)) == Value.ref (v_CTooMany K)) = false) ∧
  (PySem.W.subIn K (.ref (v_CBadScheme K)) (.ref (v_CBadClause K)) = some false) ∧
  (((Value.ref (v_CBadScheme K)) == Value.ref (v_CBadClause K)) = false) ∧
  (PySem.W.subIn K (.ref (v_CBadScheme K)) (.ref (v_CBadRule K)) = some false) ∧
  (((Value.ref (v_CBadScheme K)) == Value.ref (v_CBadRule K)) = false) ∧
  (PySem.W.subIn K (.ref (v_CBadColumn K)) (.ref (v_CBadScheme K)) = some false)
instance (K : PySem.W.Frag) : Decidable (F24 K) := by unfold F24; infer_instance
def F25 (K : PySem.W.Frag) : Prop := (((Value.ref (v_CBadColumn K)) == Value.ref (v_CBadScheme K)) = false) ∧
  (PySem.W.subIn K (.ref (v_CBadColumn K)) (.ref (v_CBadColumn K)) = some true) ∧
  (PySem.W.subIn K (.ref (v_CBadColumn K)) (.ref (v_CBadSpots K)) = some false) ∧
  (((Value.ref (v_CBadColumn K)) == Value.ref (v_CBadSpots K)) = false) ∧
  (PySem.W.subIn K (.ref (v_CBadColumn K)) (.ref (v_CBadRow K)) = some false) ∧
  (((Value.ref (v_CBadColumn K)) == Value.ref (v_CBadRow K)) = false) ∧
  (PySem.W.subIn K (.ref (v_CBadColumn K)) (.ref (v_CBadColour K)) = some false) ∧
  (((Value.ref (v_CBadColumn K)) == Value.ref (v_CBadColour K)) = false) ∧
  (PySem.W.subIn K (.ref (v_CBadColumn K)) (.ref (v_CTooMany K)) = some false) ∧
  (((Value.ref (v_CBadColumn K)) == Value.ref (v_CTooMany K)) = false) ∧
  (PySem.W.subIn K (.ref (v_CBadColumn K)) (.ref (v_CBadClause K)) = some false) ∧
  (((Value.ref (v_CBadColumn K)) == Value.ref (v_CBadClause K)) = false)
instance (K : PySem.W.Frag) : Decidable (F25 K) := by unfold F25; infer_instance
def F26 (K : PySem.W.Frag) : Prop := (PySem.W.subIn K (.ref (v_CBadColumn K)) (.ref (v_CBadRule K)) = some false) ∧
  (((Value.ref (v_CBadColumn K)) == Value.ref (v_CBadRule K)) = false) ∧
  (PySem.W.subIn K (.ref (v_CBadSpots K)) (.ref (v_CBadScheme K)) = some false) ∧
  (((Value.ref (v_CBadSpots K)) == Value.ref (v_CBadScheme K)) = false) ∧
  (PySem.W.subIn K (.ref (v_CBadSpots K)) (.ref (v_CBadColumn K)) = some false) ∧
  (((Value.ref (v_CBadSpots K)) == Value.ref (v_CBadColumn K)) = false) ∧
  (PySem.W.subIn K (.ref (v_CBadSpots K)) (.ref (v_CBadSpots K)) = some true) ∧
  (PySem.W.subIn K (.ref (v_CBadSpots K)) (.ref (v_CBadRow K)) = some false) ∧
  (((Value.ref (v_CBadSpots K)) == Value.ref (v_CBadRow K)) = false) ∧
  (PySem.W.subIn K (.ref (v_CBadSpots K)) (.ref (v_CBadColour K)) = some false) ∧
  (((Value.ref (v_CBadSpots K)) == Value.ref (v_CBadColour K)) = false) ∧
  (PySem.W.subIn K (.ref (v_CBadSpots K)) (.ref (v_CTooMany K)) = some false)
instance (K : PySem.W.Frag) : Decidable (F26 K) := by unfold F26; infer_instance
def F27 (K : PySem.W.Frag) : Prop := (((Value.ref (v_CBadSpots K)) == Value.ref (v_CTooMany K)) = false) ∧
  (PySem.W.subIn K (.ref (v_CBadSpots K)) (.ref (v_CBadClause K)) = some false) ∧
  (((Value.ref (v_CBadSpots K)) == Value.ref (v_CBadClause K)) = false) ∧
  (PySem.W.subIn K (.ref (v_CBadSpots K)) (.ref (v_CBadRule K)) = some false) ∧
  (((Value.ref (v_CBadSpots K)) == Value.ref (v_CBadRule K)) = false) ∧
  (PySem.W.subIn K (.ref (v_CBadRow K)) (.ref (v_CBadScheme K)) = some false) ∧
  (((Value.ref (v_CBadRow K)) == Value.ref (v_CBadScheme K)) = false) ∧
  (PySem.W.subIn K (.ref (v_CBadRow K)) (.ref (v_CBadColumn K)) = some false) ∧
  (((Value.ref (v_CBadRow K)) == Value.ref (v_CBadColumn K)) = false) ∧
  (PySem.W.subIn K (.ref (v_CBadRow K)) (.ref (v_CBadSpots K)) = some false) ∧
  (((Value.ref (v_CBadRow K)) == Value.ref (v_CBadSpots K)) = false) ∧
  (PySem.W.subIn K (.ref (v_CBadRow K)) (.ref (v_CBadRow K)) = some true)
instance (K : PySem.W.Frag) : Decidable (F27 K) := by unfold F27; infer_instance
def F28 (K : PySem.W.Frag) : Prop := (PySem.W.subIn K (.ref (v_CBadRow K)) (.ref (v_CBadColour K)) = some false) ∧
  (((Value.ref (v_CBadRow K)) == Value.ref (v_CBadColour K)) = false) ∧
  (PySem.W.subIn K (.ref (v_CBadRow K)) (.ref (v_CTooMany K)) = some false) ∧
  (((Value.ref (v_CBadRow K)) == Value.ref (v_CTooMany K)) = false) ∧
  (PySem.W.subIn K (.ref (v_CBadRow K)) (.ref (v_CBadClause K)) = some false) ∧
  (((Value.ref (v_CBadRow K)) == Value.ref (v_CBadClause K)) = false) ∧
  (PySem.W.subIn K (.ref (v_CBadRow K)) (.ref (v_CBadRule K)) = some false) ∧
  (((Value.ref (v_CBadRow K)) == Value.ref (v_CBadRule K)) = false) ∧
  (PySem.W.subIn K (.ref (v_CBadColour K)) (.ref (v_CBadScheme K)) = some false) ∧
  (((Value.ref (v_CBadColour K)) == Value.ref (v_CBadScheme K)) = false) ∧
  (PySem.W.subIn K (.ref (v_CBadColour K)) (.ref (v_CBadColumn K)) = some false) ∧
  (((Value.ref (v_CBadColour K)) == Value.ref (v_CBadColumn K)) = false)
instance (K : PySem.W.Frag) : Decidable (F28 K) := by unfold F28; infer_instance
def F29 (K : PySem.W.Frag) : Prop := (PySem.W.subIn K (.ref (v_CBadColour K)) (.ref (v_CBadSpots K)) = some false) ∧
  (((Value.ref (v_CBadColour K)) == Value.ref (v_CBadSpots K)) = false) ∧
  (PySem.W.subIn K (.ref (v_CBadColour K)) (.ref (v_CBadRow K)) = some false) ∧
  (((Value.ref (v_CBadColour K)) == Value.ref (v_CBadRow K)) = false) ∧
  (PySem.W.subIn K (.ref (v_CBadColour K)) (.ref (v_CBadColour K)) = some true) ∧
  (PySem.W.subIn K (.ref (v_CBadColour K)) (.ref (v_CTooMany K)) = some false) ∧
  (((Value.ref (v_CBadColour K)) == Value.ref (v_CTooMany K)) = false) ∧
  (PySem.W.subIn K (.ref (v_CBadColour K)) (.ref (v_CBadClause K)) = some false) ∧
  (((Value.ref (v_CBadColour K)) == Value.ref (v_CBadClause K)) = false) ∧
  (PySem.W.subIn K (.ref (v_CBadColour K)) (.ref (v_CBadRule K)) = some false) ∧
  (((Value.ref (v_CBadColour K)) == Value.ref (v_CBadRule K)) = false) ∧
  (PySem.W.subIn K (.ref (v_CTooMany K)) (.ref (v_CBadScheme K)) = some false)
instance (K : PySem.W.Frag) : Decidable (F29 K) := by unfold F29; infer_instance
def F30 (K : PySem.W.Frag) : Prop := (((Value.ref (v_CTooMany K)) == Value.ref (v_CBadScheme K)) = false) ∧
  (PySem.W.subIn K (.ref (v_CTooMany K)) (.ref (v_CBadColumn K)) = some false) ∧
  (((Value.ref (v_CTooMany K)) == Value.ref (v_CBadColumn K)) = false) ∧
  (PySem.W.subIn K (.ref (v_CTooMany K)) (.ref (v_CBadSpots K)) = some false) ∧
  (((Value.ref (v_CTooMany K)) == Value.ref (v_CBadSpots K)) = false) ∧
  (PySem.W.subIn K (.ref (v_CTooMany K)) (.ref (v_CBadRow K)) = some false) ∧
  (((Value.ref (v_CTooMany K)) == Value.ref (v_CBadRow K)) = false) ∧
  (PySem.W.subIn K (.ref (v_CTooMany K)) (.ref (v_CBadColour K)) = some false) ∧
  (((Value.ref (v_CTooMany K)) == Value.ref (v_CBadColour K)) = false) ∧
  (PySem.W.subIn K (.ref (v_CTooMany K)) (.ref (v_CTooMany K)) = some true) ∧
  (PySem.W.subIn K (.ref (v_CTooMany K)) (.ref (v_CBadClause K)) = some false) ∧
  (((Value.ref (v_CTooMany K)) == Value.ref (v_CBadClause K)) = false)
instance (K : PySem.W.Frag) : Decidable (F30 K) := by unfold F30; infer_instance
def F31 (K : PySem.W.Frag) : Prop := (PySem.W.subIn K (.ref (v_CTooMany K)) (.ref (v_CBadRule K)) = some false) ∧
  (((Value.ref (v_CTooMany K)) == Value.ref (v_CBadRule K)) = false) ∧
  (PySem.W.subIn K (.ref (v_CBadClause K)) (.ref (v_CBadScheme K)) = some false) ∧
  (((Value.ref (v_CBadClause K)) == Value.ref (v_CBadScheme K)) = false) ∧
  (PySem.W.subIn K (.ref (v_CBadClause K)) (.ref (v_CBadColumn K)) = some false) ∧
  (((Value.ref (v_CBadClause K)) == Value.ref (v_CBadColumn K)) = false) ∧
  (PySem.W.subIn K (.ref (v_CBadClause K)) (.ref (v_CBadSpots K)) = some false) ∧
  (((Value.ref (v_CBadClause K)) == Value.ref (v_CBadSpots K)) = false) ∧
  (PySem.W.subIn K (.ref (v_CBadClause K)) (.ref (v_CBadRow K)) = some false) ∧
  (((Value.ref (v_CBadClause K)) == Value.ref (v_CBadRow K)) = false) ∧
  (PySem.W.subIn K (.ref (v_CBadClause K)) (.ref (v_CBadColour K)) = some false) ∧
  (((Value.ref (v_CBadClause K)) == Value.ref (v_CBadColour K)) = false)
instance (K : PySem.W.Frag) : Decidable (F31 K) := by unfold F31; infer_instance
def F32 (K : PySem.W.Frag) : Prop := (PySem.W.subIn K (.ref (v_CBadClause K)) (.ref (v_CTooMany K)) = some false) ∧
  (((Value.ref (v_CBadClause K)) == Value.ref (v_CTooMany K)) = false) ∧
  (PySem.W.subIn K (.ref (v_CBadClause K)) (.ref (v_CBadClause K)) = some true) ∧
  (PySem.W.subIn K (.ref (v_CBadClause K)) (.ref (v_CBadRule K)) = some false) ∧
  (((Value.ref (v_CBadClause K)) == Value.ref (v_CBadRule K)) = false) ∧
  (PySem.W.subIn K (.ref (v_CBadRule K)) (.ref (v_CBadScheme K)) = some false) ∧
  (((Value.ref (v_CBadRule K)) == Value.ref (v_CBadScheme K)) = false) ∧
  (PySem.W.subIn K (.ref (v_CBadRule K)) (.ref (v_CBadColumn K)) = some false) ∧
  (((Value.ref (v_CBadRule K)) == Value.ref (v_CBadColumn K)) = false) ∧
  (PySem.W.subIn K (.ref (v_CBadRule K)) (.ref (v_CBadSpots K)) = some false) ∧
  (((Value.ref (v_CBadRule K)) == Value.ref (v_CBadSpots K)) = false) ∧
  (PySem.W.subIn K (.ref (v_CBadRule K)) (.ref (v_CBadRow K)) = some false)
instance (K : PySem.W.Frag) : Decidable (F32 K) := by unfold F32; infer_instance
def F33 (K : PySem.W.Frag) : Prop := (((Value.ref (v_CBadRule K)) == Value.ref (v_CBadRow K)) = false) ∧
  (PySem.W.subIn K (.ref (v_CBadRule K)) (.ref (v_CBadColour K)) = some false) ∧
  (((Value.ref (v_CBadRule K)) == Value.ref (v_CBadColour K)) = false) ∧
  (PySem.W.subIn K (.ref (v_CBadRule K)) (.ref (v_CTooMany K)) = some false) ∧
  (((Value.ref (v_CBadRule K)) == Value.ref (v_CTooMany K)) = false) ∧
  (PySem.W.subIn K (.ref (v_CBadRule K)) (.ref (v_CBadClause K)) = some false) ∧
  (((Value.ref (v_CBadRule K)) == Value.ref (v_CBadClause K)) = false) ∧
  (PySem.W.subIn K (.ref (v_CBadRule K)) (.ref (v_CBadRule K)) = some true) ∧
  (PySem.W.subIn K (.ref (v_CBadScheme K)) (.type "ValueError") = some true) ∧
  (PySem.W.subIn K (.ref (v_CBadColumn K)) (.type "ValueError") = some true) ∧
  (PySem.W.subIn K (.ref (v_CBadSpots K)) (.type "ValueError") = some true) ∧
  (PySem.W.subIn K (.ref (v_CBadRow K)) (.type "ValueError") = some true)
instance (K : PySem.W.Frag) : Decidable (F33 K) := by unfold F33; infer_instance
def F34 (K : PySem.W.Frag) : Prop := (PySem.W.subIn K (.ref (v_CBadColour K)) (.type "ValueError") = some true) ∧
  (PySem.W.subIn K (.ref (v_CTooMany K)) (.type "ValueError") = some true) ∧
  (PySem.W.subIn K (.ref (v_CBadClause K)) (.type "ValueError") = some true) ∧
  (PySem.W.subIn K (.ref (v_CBadRule K)) (.type "ValueError") = some true) ∧
  (PySem.W.subIn K (.ref (v_CBadScheme K)) (.ref (v_CGalloonError K)) = some true) ∧
  (PySem.W.subIn K (.ref (v_CBadColumn K)) (.ref (v_CGalloonError K)) = some true) ∧
  (PySem.W.subIn K (.ref (v_CBadSpots K)) (.ref (v_CGalloonError K)) = some true) ∧
  (PySem.W.subIn K (.ref (v_CBadRow K)) (.ref (v_CGalloonError K)) = some true) ∧
  (PySem.W.subIn K (.ref (v_CBadColour K)) (.ref (v_CGalloonError K)) = some true) ∧
  (PySem.W.subIn K (.ref (v_CTooMany K)) (.ref (v_CGalloonError K)) = some true) ∧
  (PySem.W.subIn K (.ref (v_CBadClause K)) (.ref (v_CGalloonError K)) = some true) ∧
  (PySem.W.subIn K (.ref (v_CBadRule K)) (.ref (v_CGalloonError K)) = some true)
instance (K : PySem.W.Frag) : Decidable (F34 K) := by unfold F34; infer_instance
def F35 (K : PySem.W.Frag) : Prop := (((Value.ref (v_CBadScheme K)) == Value.ref (v_CGalloonError K)) = false) ∧
  (((Value.ref (v_CBadColumn K)) == Value.ref (v_CGalloonError K)) = false) ∧
  (((Value.ref (v_CBadSpots K)) == Value.ref (v_CGalloonError K)) = false) ∧
  (((Value.ref (v_CBadRow K)) == Value.ref (v_CGalloonError K)) = false) ∧
  (((Value.ref (v_CBadColour K)) == Value.ref (v_CGalloonError K)) = false) ∧
  (((Value.ref (v_CTooMany K)) == Value.ref (v_CGalloonError K)) = false) ∧
  (((Value.ref (v_CBadClause K)) == Value.ref (v_CGalloonError K)) = false) ∧
  (((Value.ref (v_CBadRule K)) == Value.ref (v_CGalloonError K)) = false) ∧
  (excB K (v_CBadScheme K) = true) ∧
  (excB K (v_CBadColumn K) = true) ∧
  (excB K (v_CBadSpots K) = true) ∧
  (excB K (v_CBadRow K) = true)
instance (K : PySem.W.Frag) : Decidable (F35 K) := by unfold F35; infer_instance
def F36 (K : PySem.W.Frag) : Prop := (excB K (v_CBadColour K) = true) ∧
  (excB K (v_CTooMany K) = true) ∧
  (excB K (v_CBadClause K) = true)
instance (K : PySem.W.Frag) : Decidable (F36 K) := by unfold F36; infer_instance
def fb (K : PySem.W.Frag) : Bool := decide (F0 K) && (decide (F1 K) && (decide (F2 K) && (decide (F3 K) && (decide (F4 K) && (decide (F5 K) && (decide (F6 K) && (decide (F7 K) && (decide (F8 K) && (decide (F9 K) && (decide (F10 K) && (decide (F11 K) && (decide (F12 K) && (decide (F13 K) && (decide (F14 K) && (decide (F15 K) && (decide (F16 K) && (decide (F17 K) && (decide (F18 K) && (decide (F19 K) && (decide (F20 K) && (decide (F21 K) && (decide (F22 K) && (decide (F23 K) && (decide (F24 K) && (decide (F25 K) && (decide (F26 K) && (decide (F27 K) && (decide (F28 K) && (decide (F29 K) && (decide (F30 K) && (decide (F31 K) && (decide (F32 K) && (decide (F33 K) && (decide (F34 K) && (decide (F35 K) && (decide (F36 K) && (true)))))))))))))))))))))))))))))))))))))
theorem facts {K : PySem.W.Frag} {h : Heap} {mg : Str → Option Value} (X : K.In h) (G : h.Ns mainGlobals mg) (c : Says fb fns K) : ∃ a, Txt K mg a := by
  have z := c.b
  unfold fb at z
  obtain ⟨z0, z⟩ := ba z
  obtain ⟨h_a_GalloonError, h_a_BadScheme, h_a_BadColumn, h_a_BadSpots, h_a_BadRow, h_a_BadColour, h_a_TooMany, h_a_BadClause, h_a_BadRule, h_a_Scheme, h_a_Rule, h_z_ValueError⟩ := (of_decide_eq_true z0 : F0 K)
  obtain ⟨z1, z⟩ := ba z
  obtain ⟨h_z_abs, h_z_all, h_z_bool, h_z_classmethod, h_z_enumerate, h_z_int, h_z_isinstance, h_z_len, h_z_list, h_z_ord, h_z_range, h_z_set⟩ := (of_decide_eq_true z1 : F1 K)
  obtain ⟨z2, z⟩ := ba z
  obtain ⟨h_z_sorted, h_z_str, h_z_tuple, h_z_zip, h_v_DIGITS, h_v_LETTERS, h_v_MOST_CLAUSES, h_v_END, h_v_ANY, h_sB_GalloonError, h_ic_GalloonError, h_tc_GalloonError⟩ := (of_decide_eq_true z2 : F2 K)
  obtain ⟨z3, z⟩ := ba z
  obtain ⟨h_sB_BadScheme, h_ic_BadScheme, h_tc_BadScheme, h_sB_BadColumn, h_ic_BadColumn, h_tc_BadColumn, h_sB_BadSpots, h_ic_BadSpots, h_tc_BadSpots, h_sB_BadRow, h_ic_BadRow, h_tc_BadRow⟩ := (of_decide_eq_true z3 : F3 K)
  obtain ⟨z4, z⟩ := ba z
  obtain ⟨h_sB_BadColour, h_ic_BadColour, h_tc_BadColour, h_sB_TooMany, h_ic_TooMany, h_tc_TooMany, h_sB_BadClause, h_ic_BadClause, h_tc_BadClause, h_sB_BadRule, h_ic_BadRule, h_tc_BadRule⟩ := (of_decide_eq_true z4 : F4 K)
  obtain ⟨z5, z⟩ := ba z
  obtain ⟨h_ic_Scheme, h_tc_Scheme, h_ic_Rule, h_tc_Rule, h_sa_BadScheme, h_kc_BadScheme, h_nb_BadScheme, h_ai_BadScheme, h_ti_BadScheme, h_ki_BadScheme, h_ga_BadScheme, h_gg_BadScheme⟩ := (of_decide_eq_true z5 : F5 K)
  obtain ⟨z6, z⟩ := ba z
  obtain ⟨h_hd_BadScheme, h_ha_BadScheme, h_hm_BadScheme, h_sa_BadColumn, h_kc_BadColumn, h_nb_BadColumn, h_ai_BadColumn, h_ti_BadColumn, h_ki_BadColumn, h_ga_BadColumn, h_gg_BadColumn, h_hd_BadColumn⟩ := (of_decide_eq_true z6 : F6 K)
  obtain ⟨z7, z⟩ := ba z
  obtain ⟨h_ha_BadColumn, h_hm_BadColumn, h_sa_BadSpots, h_kc_BadSpots, h_nb_BadSpots, h_ai_BadSpots, h_ti_BadSpots, h_ki_BadSpots, h_ga_BadSpots, h_gg_BadSpots, h_hd_BadSpots, h_ha_BadSpots⟩ := (of_decide_eq_true z7 : F7 K)
  obtain ⟨z8, z⟩ := ba z
  obtain ⟨h_hm_BadSpots, h_sa_BadRow, h_kc_BadRow, h_nb_BadRow, h_ai_BadRow, h_ti_BadRow, h_ki_BadRow, h_ga_BadRow, h_gg_BadRow, h_hd_BadRow, h_ha_BadRow, h_hm_BadRow⟩ := (of_decide_eq_true z8 : F8 K)
  obtain ⟨z9, z⟩ := ba z
  obtain ⟨h_sa_BadColour, h_kc_BadColour, h_nb_BadColour, h_ai_BadColour, h_ti_BadColour, h_ki_BadColour, h_ga_BadColour, h_gg_BadColour, h_hd_BadColour, h_ha_BadColour, h_hm_BadColour, h_sa_TooMany⟩ := (of_decide_eq_true z9 : F9 K)
  obtain ⟨z10, z⟩ := ba z
  obtain ⟨h_kc_TooMany, h_nb_TooMany, h_ai_TooMany, h_ti_TooMany, h_ki_TooMany, h_ga_TooMany, h_gg_TooMany, h_hd_TooMany, h_ha_TooMany, h_hm_TooMany, h_sa_BadClause, h_kc_BadClause⟩ := (of_decide_eq_true z10 : F10 K)
  obtain ⟨z11, z⟩ := ba z
  obtain ⟨h_nb_BadClause, h_nd_BadClause, h_ai_BadClause, h_ti_BadClause, h_ki_BadClause, h_ga_BadClause, h_gg_BadClause, h_hd_BadClause, h_ha_BadClause, h_hm_BadClause, h_xz_BadRule, h_kc_BadRule⟩ := (of_decide_eq_true z11 : F11 K)
  obtain ⟨z12, z⟩ := ba z
  obtain ⟨h_ga_BadRule, h_gg_BadRule, h_hd_BadRule, h_ha_BadRule, h_hm_BadRule, h_pg_Scheme, h_hd_Scheme, h_po_Scheme, h_sa_Scheme, h_mk_Scheme, h_kc_Scheme, h_am_Scheme___init__⟩ := (of_decide_eq_true z12 : F12 K)
  obtain ⟨z13, z⟩ := ba z
  obtain ⟨h_im_Scheme___init__, h_km_Scheme___init__, h_am_Scheme___eq__, h_im_Scheme___eq__, h_km_Scheme___eq__, h_am_Scheme_is_column, h_im_Scheme_is_column, h_km_Scheme_is_column, h_am_Scheme_is_colour, h_im_Scheme_is_colour, h_km_Scheme_is_colour, h_am_Scheme_spots⟩ := (of_decide_eq_true z13 : F13 K)
  obtain ⟨z14, z⟩ := ba z
  obtain ⟨h_im_Scheme_spots, h_km_Scheme_spots, h_am_Scheme_column, h_im_Scheme_column, h_km_Scheme_column, h_pg_Rule, h_hd_Rule, h_po_Rule, h_sa_Rule, h_mk_Rule, h_kc_Rule, h_am_Rule___init__⟩ := (of_decide_eq_true z14 : F14 K)
  obtain ⟨z15, z⟩ := ba z
  obtain ⟨h_im_Rule___init__, h_km_Rule___init__, h_cg_Rule_read, h_cr_Rule_read, h_cf_Rule_read, h_km_Rule_read, h_am_Rule___eq__, h_im_Rule___eq__, h_km_Rule___eq__, h_am_Rule___str__, h_im_Rule___str__, h_km_Rule___str__⟩ := (of_decide_eq_true z15 : F15 K)
  obtain ⟨z16, z⟩ := ba z
  obtain ⟨h_am_Rule_value, h_im_Rule_value, h_km_Rule_value, h_ad_signs, h_kd_signs, h_ad_wrong_part, h_kd_wrong_part, h_ad_are_signs, h_kd_are_signs, h_ad_all_values, h_kd_all_values, h_ad_fits⟩ := (of_decide_eq_true z16 : F16 K)
  obtain ⟨z17, z⟩ := ba z
  obtain ⟨h_kd_fits, h_ad_law_same, h_kd_law_same, h_ad_law_bag, h_kd_law_bag, h_ad_law_take, h_kd_law_take, h_ad_law_many, h_kd_law_many, h_ad_law_spots, h_kd_law_spots, h_ad_law_new⟩ := (of_decide_eq_true z17 : F17 K)
  obtain ⟨z18, z⟩ := ba z
  obtain ⟨h_kd_law_new, h_ad_law_marks, h_kd_law_marks, h_ad_law_clause, h_kd_law_clause, h_ad_law_clauses, h_kd_law_clauses, h_ad_law_piece, h_kd_law_piece, h_ad_law_text, h_kd_law_text, h_ad_law_scheme⟩ := (of_decide_eq_true z18 : F18 K)
  obtain ⟨z19, z⟩ := ba z
  obtain ⟨h_kd_law_scheme, h_ad_law_values, h_kd_law_values, h_ad_law_holds, h_kd_law_holds, h_ad_law_other, h_kd_law_other, h_ad_law_compares, h_kd_law_compares, h_ad_law_told, h_kd_law_told, h_ad_law_refuses_values⟩ := (of_decide_eq_true z19 : F19 K)
  obtain ⟨z20, z⟩ := ba z
  obtain ⟨h_kd_law_refuses_values, h_ad_law_bad_side, h_kd_law_bad_side, h_ad_law_bad_here, h_kd_law_bad_here, h_ad_law_bent, h_kd_law_bent, h_ad_law_faulty, h_kd_law_faulty, h_ad_law_refuses_made, h_kd_law_refuses_made, h_ad_law_malformed⟩ := (of_decide_eq_true z20 : F20 K)
  obtain ⟨z21, z⟩ := ba z
  obtain ⟨h_kd_law_malformed, h_ad_law_refuses_read, h_kd_law_refuses_read, h_ad_law, h_kd_law, h_i_hn, h_i_ht, h_nn_Scheme_rows, h_nn_Scheme_colours, h_nn_Scheme_columns, h_f_Scheme_MOST, h_s_Scheme_MOST⟩ := (of_decide_eq_true z21 : F21 K)
  obtain ⟨z22, z⟩ := ba z
  obtain ⟨h_f_Scheme_BLANK, h_s_Scheme_BLANK, h_i_ha, h_i_hm, h_nf_Scheme_int, h_nf_Scheme_str, h_s_int_Scheme, h_s_str_Scheme, h_nn_Rule_scheme, h_nn_Rule_row, h_nn_Rule_clauses, h_nn_Rule__news⟩ := (of_decide_eq_true z22 : F22 K)
  obtain ⟨z23, z⟩ := ba z
  obtain ⟨h_rS_Rule, h_gS_Rule, h_y_ha, h_y_hm, h_nf_Rule_int, h_nf_Rule_str, h_s_int_Rule, h_s_str_Rule, h_ss_0, h_s_0_1, h_ne_0_1, h_s_0_2⟩ := (of_decide_eq_true z23 : F23 K)
  obtain ⟨z24, z⟩ := ba z
  obtain ⟨h_ne_0_2, h_s_0_3, h_ne_0_3, h_s_0_4, h_ne_0_4, h_s_0_5, h_ne_0_5, h_s_0_6, h_ne_0_6, h_s_0_7, h_ne_0_7, h_s_1_0⟩ := (of_decide_eq_true z24 : F24 K)
  obtain ⟨z25, z⟩ := ba z
  obtain ⟨h_ne_1_0, h_ss_1, h_s_1_2, h_ne_1_2, h_s_1_3, h_ne_1_3, h_s_1_4, h_ne_1_4, h_s_1_5, h_ne_1_5, h_s_1_6, h_ne_1_6⟩ := (of_decide_eq_true z25 : F25 K)
  obtain ⟨z26, z⟩ := ba z
  obtain ⟨h_s_1_7, h_ne_1_7, h_s_2_0, h_ne_2_0, h_s_2_1, h_ne_2_1, h_ss_2, h_s_2_3, h_ne_2_3, h_s_2_4, h_ne_2_4, h_s_2_5⟩ := (of_decide_eq_true z26 : F26 K)
  obtain ⟨z27, z⟩ := ba z
  obtain ⟨h_ne_2_5, h_s_2_6, h_ne_2_6, h_s_2_7, h_ne_2_7, h_s_3_0, h_ne_3_0, h_s_3_1, h_ne_3_1, h_s_3_2, h_ne_3_2, h_ss_3⟩ := (of_decide_eq_true z27 : F27 K)
  obtain ⟨z28, z⟩ := ba z
  obtain ⟨h_s_3_4, h_ne_3_4, h_s_3_5, h_ne_3_5, h_s_3_6, h_ne_3_6, h_s_3_7, h_ne_3_7, h_s_4_0, h_ne_4_0, h_s_4_1, h_ne_4_1⟩ := (of_decide_eq_true z28 : F28 K)
  obtain ⟨z29, z⟩ := ba z
  obtain ⟨h_s_4_2, h_ne_4_2, h_s_4_3, h_ne_4_3, h_ss_4, h_s_4_5, h_ne_4_5, h_s_4_6, h_ne_4_6, h_s_4_7, h_ne_4_7, h_s_5_0⟩ := (of_decide_eq_true z29 : F29 K)
  obtain ⟨z30, z⟩ := ba z
  obtain ⟨h_ne_5_0, h_s_5_1, h_ne_5_1, h_s_5_2, h_ne_5_2, h_s_5_3, h_ne_5_3, h_s_5_4, h_ne_5_4, h_ss_5, h_s_5_6, h_ne_5_6⟩ := (of_decide_eq_true z30 : F30 K)
  obtain ⟨z31, z⟩ := ba z
  obtain ⟨h_s_5_7, h_ne_5_7, h_s_6_0, h_ne_6_0, h_s_6_1, h_ne_6_1, h_s_6_2, h_ne_6_2, h_s_6_3, h_ne_6_3, h_s_6_4, h_ne_6_4⟩ := (of_decide_eq_true z31 : F31 K)
  obtain ⟨z32, z⟩ := ba z
  obtain ⟨h_s_6_5, h_ne_6_5, h_ss_6, h_s_6_7, h_ne_6_7, h_s_7_0, h_ne_7_0, h_s_7_1, h_ne_7_1, h_s_7_2, h_ne_7_2, h_s_7_3⟩ := (of_decide_eq_true z32 : F32 K)
  obtain ⟨z33, z⟩ := ba z
  obtain ⟨h_ne_7_3, h_s_7_4, h_ne_7_4, h_s_7_5, h_ne_7_5, h_s_7_6, h_ne_7_6, h_ss_7, h_sv_0, h_sv_1, h_sv_2, h_sv_3⟩ := (of_decide_eq_true z33 : F33 K)
  obtain ⟨z34, z⟩ := ba z
  obtain ⟨h_sv_4, h_sv_5, h_sv_6, h_sv_7, h_sg_0, h_sg_1, h_sg_2, h_sg_3, h_sg_4, h_sg_5, h_sg_6, h_sg_7⟩ := (of_decide_eq_true z34 : F34 K)
  obtain ⟨z35, z⟩ := ba z
  obtain ⟨h_ne_g_0, h_ne_g_1, h_ne_g_2, h_ne_g_3, h_ne_g_4, h_ne_g_5, h_ne_g_6, h_ne_g_7, h_xb_CBadScheme, h_xb_CBadColumn, h_xb_CBadSpots, h_xb_CBadRow⟩ := (of_decide_eq_true z35 : F35 K)
  obtain ⟨z36, z⟩ := ba z
  obtain ⟨h_xb_CBadColour, h_xb_CTooMany, h_xb_CBadClause⟩ := (of_decide_eq_true z36 : F36 K)
  obtain ⟨_, _, _, _, _, _, _, _, _, _, _, _, _, _, _, x_CBadScheme, r_CBadScheme⟩ := excB_ok h_xb_CBadScheme
  obtain ⟨_, _, _, _, _, _, _, _, _, _, _, _, _, _, _, x_CBadColumn, r_CBadColumn⟩ := excB_ok h_xb_CBadColumn
  obtain ⟨_, _, _, _, _, _, _, _, _, _, _, _, _, _, _, x_CBadSpots, r_CBadSpots⟩ := excB_ok h_xb_CBadSpots
  obtain ⟨_, _, _, _, _, _, _, _, _, _, _, _, _, _, _, x_CBadRow, r_CBadRow⟩ := excB_ok h_xb_CBadRow
  obtain ⟨_, _, _, _, _, _, _, _, _, _, _, _, _, _, _, x_CBadColour, r_CBadColour⟩ := excB_ok h_xb_CBadColour
  obtain ⟨_, _, _, _, _, _, _, _, _, _, _, _, _, _, _, x_CTooMany, r_CTooMany⟩ := excB_ok h_xb_CTooMany
  obtain ⟨_, _, _, _, _, _, _, _, _, _, _, _, _, _, _, x_CBadClause, r_CBadClause⟩ := excB_ok h_xb_CBadClause
  obtain ⟨_, _, _, _, _, _, _, _, _, l_f1, c_f1⟩ := c.fnA m_f1
  obtain ⟨_, _, _, _, _, _, _, _, _, l_f2, c_f2⟩ := c.fnA m_f2
  obtain ⟨_, _, _, _, _, _, _, _, _, l_f3, c_f3⟩ := c.fnA m_f3
  obtain ⟨_, _, _, _, _, _, _, _, _, l_f4, c_f4⟩ := c.fnA m_f4
  obtain ⟨_, _, _, _, _, _, _, _, _, l_f5, c_f5⟩ := c.fnA m_f5
  obtain ⟨_, _, _, _, _, _, _, _, _, l_f6, c_f6⟩ := c.fnA m_f6
  obtain ⟨_, _, _, _, _, _, _, _, _, l_f7, c_f7⟩ := c.fnA m_f7
  obtain ⟨_, _, _, _, _, _, _, _, _, l_f8, c_f8⟩ := c.fnA m_f8
  obtain ⟨_, _, _, _, _, _, _, _, _, l_f9, c_f9⟩ := c.fnA m_f9
  obtain ⟨_, _, _, _, _, _, _, _, _, l_f10, c_f10⟩ := c.fnA m_f10
  obtain ⟨_, _, _, _, _, _, _, _, _, l_f11, c_f11⟩ := c.fnA m_f11
  obtain ⟨_, _, _, _, _, _, _, _, _, l_f12, c_f12⟩ := c.fnA m_f12
  obtain ⟨_, _, _, _, _, _, _, _, _, l_f13, c_f13⟩ := c.fnA m_f13
  obtain ⟨_, _, _, _, _, _, _, _, _, l_f14, c_f14⟩ := c.fnA m_f14
  obtain ⟨_, _, _, _, _, _, _, _, _, l_f15, c_f15⟩ := c.fnA m_f15
  obtain ⟨_, _, _, _, _, _, _, _, _, l_f16, c_f16⟩ := c.fnA m_f16
  obtain ⟨_, _, _, _, _, _, _, _, _, l_f17, c_f17⟩ := c.fnA m_f17
  obtain ⟨_, _, _, _, _, _, _, _, _, l_f18, c_f18⟩ := c.fnA m_f18
  obtain ⟨_, _, _, _, _, _, _, _, _, l_f19, c_f19⟩ := c.fnA m_f19
  obtain ⟨_, _, _, _, _, _, _, _, _, l_f20, c_f20⟩ := c.fnA m_f20
  obtain ⟨_, _, _, _, _, _, _, _, _, l_f21, c_f21⟩ := c.fnA m_f21
  obtain ⟨_, _, _, _, _, _, _, _, _, l_f22, c_f22⟩ := c.fnA m_f22
  obtain ⟨_, _, _, _, _, _, _, _, _, l_f23, c_f23⟩ := c.fnA m_f23
  obtain ⟨_, _, _, _, _, _, _, _, _, l_f24, c_f24⟩ := c.fnA m_f24
  obtain ⟨_, _, _, _, _, _, _, _, _, l_f25, c_f25⟩ := c.fnA m_f25
  obtain ⟨_, _, _, _, _, _, _, _, _, l_f26, c_f26⟩ := c.fnA m_f26
  obtain ⟨_, _, _, _, _, _, _, _, _, l_f27, c_f27⟩ := c.fnA m_f27
  obtain ⟨_, _, _, _, _, _, _, _, _, l_f28, c_f28⟩ := c.fnA m_f28
  obtain ⟨_, _, _, _, _, _, _, _, _, l_f29, c_f29⟩ := c.fnA m_f29
  obtain ⟨_, _, _, _, _, _, _, _, _, l_f30, c_f30⟩ := c.fnA m_f30
  obtain ⟨_, _, _, _, _, _, _, _, _, l_f31, c_f31⟩ := c.fnA m_f31
  obtain ⟨_, _, _, _, _, _, _, _, _, l_f32, c_f32⟩ := c.fnA m_f32
  obtain ⟨_, _, _, _, _, _, _, _, _, l_f33, c_f33⟩ := c.fnA m_f33
  obtain ⟨_, _, _, _, _, _, _, _, _, l_f34, c_f34⟩ := c.fnA m_f34
  obtain ⟨_, _, _, _, _, _, _, _, _, l_f35, c_f35⟩ := c.fnA m_f35
  obtain ⟨_, _, _, _, _, _, _, _, _, l_f36, c_f36⟩ := c.fnA m_f36
  obtain ⟨_, _, _, _, _, _, _, _, _, l_f37, c_f37⟩ := c.fnA m_f37
  obtain ⟨_, _, _, _, _, _, _, _, _, l_f38, c_f38⟩ := c.fnA m_f38
  obtain ⟨_, _, _, _, _, _, _, _, _, l_f39, c_f39⟩ := c.fnA m_f39
  obtain ⟨_, _, _, _, _, _, _, _, _, l_f40, c_f40⟩ := c.fnA m_f40
  obtain ⟨_, _, _, _, _, _, _, _, _, l_f41, c_f41⟩ := c.fnA m_f41
  obtain ⟨_, _, _, _, _, _, _, _, _, l_f42, c_f42⟩ := c.fnA m_f42
  obtain ⟨_, _, _, _, _, _, _, _, _, l_f43, c_f43⟩ := c.fnA m_f43
  obtain ⟨_, _, _, _, _, _, _, _, _, l_f44, c_f44⟩ := c.fnA m_f44
  obtain ⟨_, _, _, _, _, _, _, _, _, l_f45, c_f45⟩ := c.fnA m_f45
  obtain ⟨_, _, _, _, _, _, _, _, _, l_f46, c_f46⟩ := c.fnA m_f46
  obtain ⟨_, _, _, _, _, _, _, _, _, l_f47, c_f47⟩ := c.fnA m_f47
  obtain ⟨_, _, _, _, _, _, _, _, _, l_f48, c_f48⟩ := c.fnA m_f48
  obtain ⟨_, _, _, _, _, _, _, _, _, l_f49, c_f49⟩ := c.fnA m_f49
  exact ⟨_, mkTxt X G h_a_GalloonError h_a_BadScheme h_a_BadColumn h_a_BadSpots h_a_BadRow h_a_BadColour h_a_TooMany h_a_BadClause h_a_BadRule h_a_Scheme h_a_Rule h_z_ValueError h_z_abs h_z_all h_z_bool h_z_classmethod h_z_enumerate h_z_int h_z_isinstance h_z_len h_z_list h_z_ord h_z_range h_z_set h_z_sorted h_z_str h_z_tuple h_z_zip h_v_DIGITS h_v_LETTERS h_v_MOST_CLAUSES h_v_END h_v_ANY h_sB_GalloonError h_ic_GalloonError h_tc_GalloonError h_sB_BadScheme h_ic_BadScheme h_tc_BadScheme h_sB_BadColumn h_ic_BadColumn h_tc_BadColumn h_sB_BadSpots h_ic_BadSpots h_tc_BadSpots h_sB_BadRow h_ic_BadRow h_tc_BadRow h_sB_BadColour h_ic_BadColour h_tc_BadColour h_sB_TooMany h_ic_TooMany h_tc_TooMany h_sB_BadClause h_ic_BadClause h_tc_BadClause h_sB_BadRule h_ic_BadRule h_tc_BadRule h_ic_Scheme h_tc_Scheme h_ic_Rule h_tc_Rule x_CBadScheme r_CBadScheme h_sa_BadScheme h_kc_BadScheme h_nb_BadScheme h_ai_BadScheme h_ti_BadScheme l_f1 c_f1 h_ki_BadScheme h_ga_BadScheme h_gg_BadScheme h_hd_BadScheme h_ha_BadScheme h_hm_BadScheme x_CBadColumn r_CBadColumn h_sa_BadColumn h_kc_BadColumn h_nb_BadColumn h_ai_BadColumn h_ti_BadColumn l_f2 c_f2 h_ki_BadColumn h_ga_BadColumn h_gg_BadColumn h_hd_BadColumn h_ha_BadColumn h_hm_BadColumn x_CBadSpots r_CBadSpots h_sa_BadSpots h_kc_BadSpots h_nb_BadSpots h_ai_BadSpots h_ti_BadSpots l_f3 c_f3 h_ki_BadSpots h_ga_BadSpots h_gg_BadSpots h_hd_BadSpots h_ha_BadSpots h_hm_BadSpots x_CBadRow r_CBadRow h_sa_BadRow h_kc_BadRow h_nb_BadRow h_ai_BadRow h_ti_BadRow l_f4 c_f4 h_ki_BadRow h_ga_BadRow h_gg_BadRow h_hd_BadRow h_ha_BadRow h_hm_BadRow x_CBadColour r_CBadColour h_sa_BadColour h_kc_BadColour h_nb_BadColour h_ai_BadColour h_ti_BadColour l_f5 c_f5 h_ki_BadColour h_ga_BadColour h_gg_BadColour h_hd_BadColour h_ha_BadColour h_hm_BadColour x_CTooMany r_CTooMany h_sa_TooMany h_kc_TooMany h_nb_TooMany h_ai_TooMany h_ti_TooMany l_f6 c_f6 h_ki_TooMany h_ga_TooMany h_gg_TooMany h_hd_TooMany h_ha_TooMany h_hm_TooMany x_CBadClause r_CBadClause h_sa_BadClause h_kc_BadClause h_nb_BadClause h_nd_BadClause h_ai_BadClause h_ti_BadClause l_f7 c_f7 h_ki_BadClause h_ga_BadClause h_gg_BadClause h_hd_BadClause h_ha_BadClause h_hm_BadClause h_xz_BadRule h_kc_BadRule h_ga_BadRule h_gg_BadRule h_hd_BadRule h_ha_BadRule h_hm_BadRule h_pg_Scheme h_hd_Scheme h_po_Scheme h_sa_Scheme h_mk_Scheme h_kc_Scheme h_am_Scheme___init__ h_im_Scheme___init__ l_f8 c_f8 h_km_Scheme___init__ h_am_Scheme___eq__ h_im_Scheme___eq__ l_f9 c_f9 h_km_Scheme___eq__ h_am_Scheme_is_column h_im_Scheme_is_column l_f10 c_f10 h_km_Scheme_is_column h_am_Scheme_is_colour h_im_Scheme_is_colour l_f11 c_f11 h_km_Scheme_is_colour h_am_Scheme_spots h_im_Scheme_spots l_f12 c_f12 h_km_Scheme_spots h_am_Scheme_column h_im_Scheme_column l_f13 c_f13 h_km_Scheme_column h_pg_Rule h_hd_Rule h_po_Rule h_sa_Rule h_mk_Rule h_kc_Rule h_am_Rule___init__ h_im_Rule___init__ l_f14 c_f14 h_km_Rule___init__ (cfG_ok h_cg_Rule_read) h_cr_Rule_read h_cf_Rule_read l_f15 c_f15 h_km_Rule_read h_am_Rule___eq__ h_im_Rule___eq__ l_f16 c_f16 h_km_Rule___eq__ h_am_Rule___str__ h_im_Rule___str__ l_f17 c_f17 h_km_Rule___str__ h_am_Rule_value h_im_Rule_value l_f18 c_f18 h_km_Rule_value h_ad_signs l_f19 c_f19 h_kd_signs h_ad_wrong_part l_f20 c_f20 h_kd_wrong_part h_ad_are_signs l_f21 c_f21 h_kd_are_signs h_ad_all_values l_f22 c_f22 h_kd_all_values h_ad_fits l_f23 c_f23 h_kd_fits h_ad_law_same l_f24 c_f24 h_kd_law_same h_ad_law_bag l_f25 c_f25 h_kd_law_bag h_ad_law_take l_f26 c_f26 h_kd_law_take h_ad_law_many l_f27 c_f27 h_kd_law_many h_ad_law_spots l_f28 c_f28 h_kd_law_spots h_ad_law_new l_f29 c_f29 h_kd_law_new h_ad_law_marks l_f30 c_f30 h_kd_law_marks h_ad_law_clause l_f31 c_f31 h_kd_law_clause h_ad_law_clauses l_f32 c_f32 h_kd_law_clauses h_ad_law_piece l_f33 c_f33 h_kd_law_piece h_ad_law_text l_f34 c_f34 h_kd_law_text h_ad_law_scheme l_f35 c_f35 h_kd_law_scheme h_ad_law_values l_f36 c_f36 h_kd_law_values h_ad_law_holds l_f37 c_f37 h_kd_law_holds h_ad_law_other l_f38 c_f38 h_kd_law_other h_ad_law_compares l_f39 c_f39 h_kd_law_compares h_ad_law_told l_f40 c_f40 h_kd_law_told h_ad_law_refuses_values l_f41 c_f41 h_kd_law_refuses_values h_ad_law_bad_side l_f42 c_f42 h_kd_law_bad_side h_ad_law_bad_here l_f43 c_f43 h_kd_law_bad_here h_ad_law_bent l_f44 c_f44 h_kd_law_bent h_ad_law_faulty l_f45 c_f45 h_kd_law_faulty h_ad_law_refuses_made l_f46 c_f46 h_kd_law_refuses_made h_ad_law_malformed l_f47 c_f47 h_kd_law_malformed h_ad_law_refuses_read l_f48 c_f48 h_kd_law_refuses_read h_ad_law l_f49 c_f49 h_kd_law h_i_hn h_i_ht h_nn_Scheme_rows h_nn_Scheme_colours h_nn_Scheme_columns h_f_Scheme_MOST h_s_Scheme_MOST h_f_Scheme_BLANK h_s_Scheme_BLANK h_i_ha h_i_hm h_nf_Scheme_int h_nf_Scheme_str h_s_int_Scheme h_s_str_Scheme h_nn_Rule_scheme h_nn_Rule_row h_nn_Rule_clauses h_nn_Rule__news h_rS_Rule h_gS_Rule h_y_ha h_y_hm h_nf_Rule_int h_nf_Rule_str h_s_int_Rule h_s_str_Rule h_ss_0 h_s_0_1 h_ne_0_1 h_s_0_2 h_ne_0_2 h_s_0_3 h_ne_0_3 h_s_0_4 h_ne_0_4 h_s_0_5 h_ne_0_5 h_s_0_6 h_ne_0_6 h_s_0_7 h_ne_0_7 h_s_1_0 h_ne_1_0 h_ss_1 h_s_1_2 h_ne_1_2 h_s_1_3 h_ne_1_3 h_s_1_4 h_ne_1_4 h_s_1_5 h_ne_1_5 h_s_1_6 h_ne_1_6 h_s_1_7 h_ne_1_7 h_s_2_0 h_ne_2_0 h_s_2_1 h_ne_2_1 h_ss_2 h_s_2_3 h_ne_2_3 h_s_2_4 h_ne_2_4 h_s_2_5 h_ne_2_5 h_s_2_6 h_ne_2_6 h_s_2_7 h_ne_2_7 h_s_3_0 h_ne_3_0 h_s_3_1 h_ne_3_1 h_s_3_2 h_ne_3_2 h_ss_3 h_s_3_4 h_ne_3_4 h_s_3_5 h_ne_3_5 h_s_3_6 h_ne_3_6 h_s_3_7 h_ne_3_7 h_s_4_0 h_ne_4_0 h_s_4_1 h_ne_4_1 h_s_4_2 h_ne_4_2 h_s_4_3 h_ne_4_3 h_ss_4 h_s_4_5 h_ne_4_5 h_s_4_6 h_ne_4_6 h_s_4_7 h_ne_4_7 h_s_5_0 h_ne_5_0 h_s_5_1 h_ne_5_1 h_s_5_2 h_ne_5_2 h_s_5_3 h_ne_5_3 h_s_5_4 h_ne_5_4 h_ss_5 h_s_5_6 h_ne_5_6 h_s_5_7 h_ne_5_7 h_s_6_0 h_ne_6_0 h_s_6_1 h_ne_6_1 h_s_6_2 h_ne_6_2 h_s_6_3 h_ne_6_3 h_s_6_4 h_ne_6_4 h_s_6_5 h_ne_6_5 h_ss_6 h_s_6_7 h_ne_6_7 h_s_7_0 h_ne_7_0 h_s_7_1 h_ne_7_1 h_s_7_2 h_ne_7_2 h_s_7_3 h_ne_7_3 h_s_7_4 h_ne_7_4 h_s_7_5 h_ne_7_5 h_s_7_6 h_ne_7_6 h_ss_7 h_sv_0 h_sv_1 h_sv_2 h_sv_3 h_sv_4 h_sv_5 h_sv_6 h_sv_7 h_sg_0 h_sg_1 h_sg_2 h_sg_3 h_sg_4 h_sg_5 h_sg_6 h_sg_7 h_ne_g_0 h_ne_g_1 h_ne_g_2 h_ne_g_3 h_ne_g_4 h_ne_g_5 h_ne_g_6 h_ne_g_7⟩
end K23.HF

end
set_option Elab.async false
set_option linter.all false
set_option maxRecDepth 100000
set_option maxHeartbeats 0
namespace K23
open PySem PySem.W PySem.Calls PyProof.Rows
abbrev R : OpenRow := OpenLaw.row PySem.Challenge.rw_galloon_k23_rule_values_and_texts
abbrev qv : Program := view R.prog [51]
def names0 : List PySem.Str := [("_wall" : PySem.Str), "GalloonError", "BadScheme", "BadColumn", "BadSpots", "BadRow", "BadColour", "TooMany", "BadClause", "BadRule", "DIGITS", "LETTERS", "Scheme", "MOST_CLAUSES", "END"]
def names1 : List PySem.Str := [("ANY" : PySem.Str), "Rule", "_signs", "_wrong_part", "_are_signs", "_all_values", "_fits", "_law_same", "_law_bag", "_law_take", "_law_many", "_law_spots", "_law_new", "_law_marks", "_law_clause"]
def names2 : List PySem.Str := [("_law_clauses" : PySem.Str), "_law_piece", "_law_text", "_law_scheme", "_law_values", "_law_holds", "_law_other", "_law_compares", "_law_told", "_law_refuses_values", "_law_bad_side", "_law_bad_here", "_law_bent", "_law_faulty", "_law_refuses_made"]
def names3 : List PySem.Str := [("_law_malformed" : PySem.Str), "_law_refuses_read"]
def names : List PySem.Str := names0 ++ (names1 ++ (names2 ++ (names3)))
abbrev hk : Hook := Hd.hook 5 HF.fb HF.fns
def ob (s : SharedT) : Hd.Al := Hd.obsH 5 HF.fb HF.fns (HandSHeadRun.getT s)
theorem ob_eq (s : SharedT) : ob s = hk.obs s.abs := Hd.obsH_eq (HandSHeadRun.getT_eq s)
theorem run (w : World) : HandSHeadRun.RunEq R qv hk ob 30000 names w := by
  intro os
  kernel_rfl
open PySem.Spec L2 in
theorem walkX {q : Program} {loose : List Str} {XP : (Str → Option Value) → Heap → Prop} {d : DefRec} (hdf : d.params.defaults = []) (hd : d.name = "law") :
    PySem.W.WalkO q loose XP hk.says (PySem.Challenge.rw_galloon_k23_rule_values_and_texts).row.toRowW d [] (fun f vs => PySem.call f vs) :=
  LamX.walk_ofTsE (l := PySem.Challenge.rw_galloon_k23_rule_values_and_texts) (n := 63) (k := 9) (x := "script") (CX := fun w => L2.CX (PySem.Challenge.rw_galloon_k23_rule_values_and_texts).prog w) rfl (by decide) hdf ⟨rfl, by decide, by decide⟩
    (fun w mg fa h Y G hmg => by
      obtain ⟨K, KX, c⟩ := Y
      obtain ⟨a, T⟩ := HF.facts KX G c
      obtain ⟨fd, hb, F⟩ := law_F (l := PySem.Challenge.rw_galloon_k23_rule_values_and_texts) (w := w) T (hd ▸ hmg)
      exact ⟨K, KX, fd, [], spLaw K, nofun, nofun, nofun, hb, fun _ a ns hl _ _ hS => ⟨a, ns, rfl, hS, hl, fun _ => rfl⟩, fun base h1 h2 _ => F base h1 h2⟩)
    fun _ _ _ _ _ z => by
      obtain ⟨_, _, _, _, _, _, _, _, _, _, _, _, x⟩ := z
      exact x
end K23
open PySem PySem.W PySem.Calls PyProof.Rows
theorem PySem.Challenge.cw_galloon_k23_rule_values_and_texts_holds : PySem.Challenge.rw_galloon_k23_rule_values_and_texts.Holds := by
  w_on; o_law
  refine HandSHeadRun.head_any (r := OpenLaw.row PySem.Challenge.rw_galloon_k23_rule_values_and_texts) (q := K23.qv) (H := K23.hk) (ob := K23.ob) (M := 30000) (loose := K23.names) (kwd := []) K23.ob_eq (by kernel_rfl) (fun s => by kernel_rfl) K23.run (by rfl) (by rfl) (by rfl) (by rfl) (by first | assumption | decide +kernel) (by decide +kernel) ⟨rfl, rfl, rfl, rfl, rfl, by decide +kernel⟩ ?hw ?hc
  case hw => w_witness2
  case hc => exact K23.walkX rfl rfl

